import PyProof.Rows.All
import Wide.All
import OpenK.AllK
import Wide.FinOn
import HandS.ForMost
import HandS.EndBits
import HandS.IsInst
import HandS.Conv
import HandS.RevRange
import HandS.Walk
import HandS.Wide
import HandS.Codes
import HandS.ForExc
import HandS.ExcInit
import HandS.ExcSuper
import KE.KSuper
import KE.RegKSuper
import KE.KExcSuper
import KE.KExcIs
import HandS.ExcField
import HandS.ExcIs
import HandS.FStr
import KE.RegKIsAll
import HandS.ForExc
import HandS.NoneIn
import HandS.Deep
import HandS.Dict
import HandS.FStr
import HandS.IntHex
import HandS.SortKw
import HandS.TryMany
import HandS.TryOnly
import HandS.WideBits
import KE.IntTextLaws
import KE.KIntText
import KE.KMinKey
import PyProof.Rows.StrMul
import PyProof.StrBlock2
import PySem.Challenge.RW_packetpicture_k80_current_header
set_option Elab.async false
set_option linter.all false
set_option maxRecDepth 100000
set_option maxHeartbeats 4000000
set_option exponentiation.threshold 4000
/-! Names that are taken here, so that the head writes no twins of its heaps and trees: the compiled file stays small. Nothing names them. -/
theorem PySem.W.Fast.tw1123317861636131336 : True := trivial
theorem PySem.W.Fast.tw3307241366979088531 : True := trivial
theorem PySem.W.Fast.tw10411240295636518347 : True := trivial
theorem PySem.W.Fast.tw4285190871320419958 : True := trivial
theorem PySem.W.Fast.tw12944461600750388937 : True := trivial
theorem PySem.W.Fast.tw13710664167854083039 : True := trivial
theorem PySem.W.Fast.tw12410312553947468802 : True := trivial
theorem PySem.W.Fast.tw2305656346626399066 : True := trivial
theorem PySem.W.Fast.tw17503929334602822484 : True := trivial
theorem PySem.W.Fast.tw4770990718184205328 : True := trivial
theorem PySem.W.Fast.tw18248810838768783048 : True := trivial
theorem PySem.W.Fast.tw8003830050556616008 : True := trivial
theorem PySem.W.Fast.tw13994192125127664804 : True := trivial
theorem PySem.W.Fast.tw7765717823199059423 : True := trivial
theorem PySem.W.Fast.tw6490319046111923623 : True := trivial
theorem PySem.W.Fast.tw5606010180240909295 : True := trivial
theorem PySem.W.Fast.tw11147176278893260719 : True := trivial
theorem PySem.W.Fast.tw13416558794699012472 : True := trivial
theorem PySem.W.Fast.tw7679775527224351420 : True := trivial
theorem PySem.W.Fast.tw17958495839563395726 : True := trivial
theorem PySem.W.Fast.tw5323937603281505936 : True := trivial
theorem PySem.W.Fast.tw13999315329326417147 : True := trivial
theorem PySem.W.Fast.tw3772980422650881852 : True := trivial
theorem PySem.W.Fast.tw312200864466796526 : True := trivial
theorem PySem.W.Fast.tw12680471246053474218 : True := trivial
theorem PySem.W.Fast.tw977550133466113698 : True := trivial
theorem PySem.W.Fast.tw7576232940955331253 : True := trivial
theorem PySem.W.Fast.tw5536892776642970417 : True := trivial
theorem PySem.W.Fast.tw12209863514280628563 : True := trivial
theorem PySem.W.Fast.tw8981126560506249552 : True := trivial
theorem PySem.W.Fast.tw6905951369811712484 : True := trivial
theorem PySem.W.Fast.tw10370363981683157871 : True := trivial
theorem PySem.W.Fast.tw13217555308473344677 : True := trivial
theorem PySem.W.Fast.tw3479967106908414594 : True := trivial
theorem PySem.W.Fast.tw8672960436447191999 : True := trivial
theorem PySem.W.Fast.tw2584451106958320133 : True := trivial
theorem PySem.W.Fast.tw591270882637407495 : True := trivial
theorem PySem.W.Fast.tw8417946649948652134 : True := trivial
theorem PySem.W.Fast.tw11961576812062780282 : True := trivial
theorem PySem.W.Fast.tw5540352047757010192 : True := trivial
theorem PySem.W.Fast.tw13008081233318260276 : True := trivial
theorem PySem.W.Fast.tw13870655033070484769 : True := trivial
theorem PySem.W.Fast.tw16770399512714295133 : True := trivial
/-! Steps of a reading, one lemma a construct; `walk_at "go"` tries them one after another. -/
namespace Gx
open PySem L2
section
variable {K : PySem.W.Frag} {σ : L2.St} {H : Hp} {Q : VK} {D : Ends} {ta tb te to ti tv : TE} {t u : TT} {tr : TA} {tu tw : TS} {x y z v : V} {i j : Int} {B : Bool → Hp → Prop} {A1 A2 : Prop} {b : Bool}
/-- a test's answer; a branch -/
noncomputable def TB (x : V) (H : Hp) (Q : Bool → Hp → Prop) : Prop := ∃ k, x = .bl k ∧ Q k H
noncomputable def IfP (c : Bool) (A B : Prop) : Prop := if c = true then A else B
theorem tb_go (q : B b H) : TB (.bl b) H B := ⟨b, rfl, q⟩
theorem if_t (q : A1) : IfP true A1 A2 := by unfold IfP; rw [if_pos rfl]; exact q
theorem if_f (q : A2) : IfP false A1 A2 := by unfold IfP; rw [if_neg Bool.false_ne_true]; exact q
theorem if_nt (q : A2) : IfP (!true) A1 A2 := if_f q
theorem if_nf (q : A1) : IfP (!false) A1 A2 := if_t q
theorem if_y {c : Bool} (h : c = true) (q : A1) : IfP c A1 A2 := by subst h; exact if_t q
theorem if_n {c : Bool} (h : c = false) (q : A2) : IfP c A1 A2 := by subst h; exact if_f q
theorem if_b {c : Bool} (q1 : c = true → A1) (q2 : c = false → A2) : IfP c A1 A2 := by
  cases c with
  | true => exact if_t (q1 rfl)
  | false => exact if_f (q2 rfl)
theorem if_d {p : Prop} [Decidable p] (q1 : p → A1) (q2 : ¬ p → A2) : IfP (decide p) A1 A2 := if_b (fun h => q1 (of_decide_eq_true h)) (fun h => q2 (of_decide_eq_false h))
theorem if_dn {p : Prop} [Decidable p] (q1 : ¬ p → A1) (q2 : p → A2) : IfP (!decide p) A1 A2 := by
  by_cases h : p
  · rw [decide_eq_true h]; exact if_f (q2 h)
  · rw [decide_eq_false h]; exact if_t (q1 h)
theorem if_dy {p : Prop} [Decidable p] (h : p) (q : A1) : IfP (decide p) A1 A2 := if_y (decide_eq_true h) q
theorem if_dno {p : Prop} [Decidable p] (h : ¬ p) (q : A2) : IfP (decide p) A1 A2 := if_n (decide_eq_false h) q
/-- names, constants -/
theorem var {i : Nat} (h : σ[i]? = some (some v)) (q : Q v H) : tVar i σ H Q := ⟨v, h, q⟩
theorem cst (q : Q v H) : tC v σ H Q := q
/-- operators -/
theorem op {r : R2} (q : ta σ H fun x H1 => tb σ H1 fun y H2 => r x y H2 Q) : tOp r ta tb σ H Q := q
theorem un {r : V → Hp → VK → Prop} (q : ta σ H fun x H1 => r x H1 Q) : tUn r ta σ H Q := q
theorem i0 {g : Int → Int → V} (q : Q (g i j) H) : rI0 g (.int i) (.int j) H Q := ⟨i, j, rfl, rfl, q⟩
theorem ic {C : Int → Int → Prop} {g : Int → Int → V} (c : C i j) (q : Q (g i j) H) : rI C g (.int i) (.int j) H Q := ⟨i, j, rfl, rfl, c, q⟩
theorem uu {g : Int → V} (q : Q (g i) H) : rU g (.int i) H Q := ⟨i, rfl, q⟩
theorem eqv (q : Q (.bl (decide (x = y))) H) (h : scal x y = true := by rfl) : rEq x y H Q := ⟨h, q⟩
theorem nev (q : Q (.bl (!decide (x = y))) H) (h : scal x y = true := by rfl) : rNe x y H Q := ⟨h, q⟩
theorem eqI {p : Int} {q' : Int} : decide (V.int p = V.int q') = decide (p = q') := by simp
theorem eqS {p q' : Str} : decide (V.str p = V.str q') = decide (p = q') := by simp
theorem eqvI (q : Q (.bl (decide (i = j))) H) : rEq (.int i) (.int j) H Q := eqv (by rw [eqI]; exact q)
theorem nevI (q : Q (.bl (!decide (i = j))) H) : rNe (.int i) (.int j) H Q := nev (by rw [eqI]; exact q)
theorem eqvS {a b : Str} (q : Q (.bl (decide (a = b))) H) : rEq (.str a) (.str b) H Q := eqv (by rw [eqS]; exact q)
theorem nevS {a b : Str} (q : Q (.bl (!decide (a = b))) H) : rNe (.str a) (.str b) H Q := nev (by rw [eqS]; exact q)
/-- tests -/
theorem test (q : te σ H fun x H1 => TB x H1 B) : tTest te σ H B := q
theorem tB (q : te σ H fun x H1 => TB x H1 B) : L2.tB te σ H B := q
theorem and_ (q : t σ H fun c H1 => IfP c (u σ H1 B) (B false H1)) : tAnd t u σ H B := q
theorem or_ (q : t σ H fun c H1 => IfP c (B true H1) (u σ H1 B)) : tOr t u σ H B := q
theorem not_ (q : t σ H fun c H1 => B (!c) H1) : tNot t σ H B := q
theorem ifx (q : t σ H fun c H1 => IfP c (ta σ H1 Q) (tb σ H1 Q)) : tIf t ta tb σ H Q := q
/-- and, or, not as values -/
noncomputable def BV (x : V) (H : Hp) (Q : Bool → Hp → Prop) : Prop := ∃ c, x = .bl c ∧ Q c H
theorem bv_go (q : B b H) : BV (.bl b) H B := ⟨b, rfl, q⟩
theorem andV (q : ta σ H fun x H1 => BV x H1 fun c H1 => IfP c (tb σ H1 Q) (Q (.bl false) H1)) : tAndV ta tb σ H Q := q
theorem orV (q : ta σ H fun x H1 => BV x H1 fun c H1 => IfP c (Q (.bl true) H1) (tb σ H1 Q)) : tOrV ta tb σ H Q := q
theorem notV (q : ta σ H fun x H1 => BV x H1 fun c H1 => Q (.bl (!c)) H1) : tNotV ta σ H Q := q
/-- or, and as values, both sides looked at without a change: one answer for what follows -/
noncomputable def tOrW (ta tb : TE) : TE := tOrV ta tb
noncomputable def tAndW (ta tb : TE) : TE := tAndV ta tb
theorem pe_andW {X : Cx} {e : Expr} (h : PE X e (tAndV ta tb)) : PE X e (tAndW ta tb) := h
noncomputable def OrP (c : Bool) (tb : TE) (σ : L2.St) (H : Hp) (Q : VK) : Prop := if c = true then Q (.bl true) H else tb σ H Q
noncomputable def AndP (c : Bool) (tb : TE) (σ : L2.St) (H : Hp) (Q : VK) : Prop := if c = true then tb σ H Q else Q (.bl false) H
theorem orW (q : ta σ H fun x H1 => BV x H1 fun c H1 => OrP c tb σ H1 Q) : tOrW ta tb σ H Q := q
theorem andW (q : ta σ H fun x H1 => BV x H1 fun c H1 => AndP c tb σ H1 Q) : tAndW ta tb σ H Q := q
theorem andp {c d : Bool} (h : ∀ R : VK, R (.bl d) H → tb σ H R) (q : Q (.bl (c && d)) H) : AndP c tb σ H Q := by
  cases c with
  | true => exact h _ q
  | false => exact q
/-- methods of texts -/
noncomputable def M1P (te : TE) (r : V → List V → Hp → VK → Prop) (σ : L2.St) (x : V) (H : Hp) (Q : VK) : Prop := (∃ a, x = .str a) ∧ te σ H fun y H2 => r x [y] H2 Q
theorem m1 {r : V → List V → Hp → VK → Prop} (q : ta σ H fun x H1 => M1P te r σ x H1 Q) : tM1 r ta te σ H Q := q
theorem m1s {r : V → List V → Hp → VK → Prop} {z : Str} (q : te σ H fun y H2 => r (.str z) [y] H2 Q) : M1P te r σ (.str z) H Q := ⟨⟨z, rfl⟩, q⟩
/-- argument lists, displays -/
theorem nil {R : List V → Hp → Prop} (q : R [] H) : tNil σ H R := q
theorem cons {R : List V → Hp → Prop} (q : ta σ H fun x H1 => tr σ H1 fun xs H2 => R (x :: xs) H2) : tCons ta tr σ H R := q
/-- a new object -/
noncomputable def NewP (H : Hp) (o : HO) (Q : VK) : Prop := ∀ p, H p = none → Q (.ref p) (upd H p o)
noncomputable def LstP (xs : List V) (H : Hp) (Q : VK) : Prop := xs.length ≤ sizeLine ∧ NewP H (.lst xs) Q
noncomputable def TupP (xs : List V) (H : Hp) (Q : VK) : Prop := xs.length ≤ sizeLine ∧ NewP H (.tup xs) Q
theorem lst (q : tr σ H fun xs H1 => LstP xs H1 Q) : tLst tr σ H Q := q
theorem tup (q : tr σ H fun xs H1 => TupP xs H1 Q) : tTup tr σ H Q := q
theorem lstP {xs : List V} (h : xs.length ≤ sizeLine) (q : ∀ p, H p = none → Q (.ref p) (upd H p (.lst xs))) : LstP xs H Q := ⟨h, q⟩
theorem tupP {xs : List V} (h : xs.length ≤ sizeLine) (q : ∀ p, H p = none → Q (.ref p) (upd H p (.tup xs))) : TupP xs H Q := ⟨h, q⟩
/-- calls -/
noncomputable def CP (sp : Sp) (vs dvs : List V) (H : Hp) (Q : VK) (E : XK) : Prop := sp (vs ++ dvs) H Q E
theorem call {sp : Sp} {dvs : List V} {E : XK} (q : tr σ H fun vs H1 => CP sp vs dvs H1 Q E) : tCall sp dvs E tr σ H Q := q
theorem cb {r : List V → Hp → VK → Prop} (q : tr σ H fun vs H1 => r vs H1 Q) : tCB r tr σ H Q := q
/-- statements -/
theorem seq (q : tu { D with nx := tw D } σ H) : tSeq tu tw D σ H := q
theorem next (q : D.nx σ H) : tNext D σ H := q
theorem ret (q : te σ H D.rt) : tRet te D σ H := q
theorem retN (q : D.rt .non H) : tRetN D σ H := q
theorem drop (q : te σ H fun _ H1 => D.nx σ H1) : tDrop te D σ H := q
theorem asg {g : TG} (q : te σ H fun x H1 => g x σ H1 D.nx) : tAsg te g D σ H := q
theorem name {i : Nat} {R : L2.St → Hp → Prop} (q : R (σ.set i (some v)) H) : gName i v σ H R := q
theorem ifs {c : TT} (q : c σ H fun b H1 => IfP b (tu D σ H1) (tw D σ H1)) : tIfS c tu tw D σ H := q
theorem brk (q : D.bk σ H) : tBreak D σ H := q
theorem cnt (q : D.ct σ H) : tCont D σ H := q
noncomputable def AugP (i : Nat) (x y : V) (ip : TIp) (D : Ends) (σ : L2.St) (H : Hp) : Prop := ip x y H fun z H2 => D.nx (σ.set i (some z)) H2
theorem aug {i : Nat} {tip : TIp} (h : σ[i]? = some (some x)) (q : te σ H fun y H1 => AugP i x y tip D σ H1) : tAug i te tip D σ H := ⟨x, h, q⟩
theorem augI {n : Nat} {f : Int → Int → Int} (q : D.nx (σ.set n (some (.int (f i j)))) H) : AugP n (.int i) (.int j) (ipI f) D σ H := ⟨i, j, rfl, rfl, q⟩
/-- loops: what walks (FW), for a range -/
noncomputable def FW (J : It) (g : TG) (tb : TS) (D : Ends) (σ : L2.St) (H : Hp) : Prop := ∃ W : Nat → Nat → L2.St → Hp → Prop, (∃ m, W 0 m σ H) ∧ ∀ i m σ H, W i m σ H →
  (J.stop i H ∧ D.nx σ H) ∨ (J.go i H ∧ ∃ N : L2.St → Hp → Prop, (∀ σ' H', N σ' H' → ∃ m', m' < m ∧ W (i + 1) m' σ' H') ∧ ∀ x H', J.yld i H x H' → g x σ H' fun σ2 H2 => tb { D with nx := N, ct := N, bk := D.nx } σ2 H2)
theorem for_ {wi : TI} {g : TG} (q : wi σ H fun J H1 => FW J g tu D σ H1) : tFor wi g tu D σ H := q
noncomputable def R1P (vs : List V) (H : Hp) (R : It → Hp → Prop) : Prop := ∃ j : Int, vs = [.int j] ∧ -(2 ^ 62) ≤ j ∧ j < 2 ^ 62 ∧ R (Itr 0 j.toNat) H
noncomputable def R2P (vs : List V) (H : Hp) (R : It → Hp → Prop) : Prop := ∃ i j : Int, vs = [.int i, .int j] ∧ (-(2 ^ 62) ≤ i ∧ i < 2 ^ 62 ∧ -(2 ^ 62) ≤ j ∧ j < 2 ^ 62) ∧ R (Itr i (j - i).toNat) H
theorem rng1 {R : It → Hp → Prop} (q : tr σ H fun vs H1 => R1P vs H1 R) : iRng1 tr σ H R := q
theorem rng2 {R : It → Hp → Prop} (q : tr σ H fun vs H1 => R2P vs H1 R) : iRng2 tr σ H R := q
noncomputable def R3P (vs : List V) (H : Hp) (R : It → Hp → Prop) : Prop := ∃ (i j c : Int) (n : Nat), vs = [.int i, .int j, .int c] ∧ RgC i j c n ∧ R (Itc i c n) H
theorem rng3 {R : It → Hp → Prop} (q : tr σ H fun vs H1 => R3P vs H1 R) : iRng3 tr σ H R := q
theorem r3 {R : It → Hp → Prop} {c : Int} {n : Nat} (h : RgC i j c n) (q : R (Itc i c n) H) : R3P [.int i, .int j, .int c] H R := ⟨i, j, c, n, rfl, h, q⟩
theorem r1 {R : It → Hp → Prop} (h1 : -(2 ^ 62) ≤ j) (h2 : j < 2 ^ 62) (q : R (Itr 0 j.toNat) H) : R1P [.int j] H R := ⟨j, rfl, h1, h2, q⟩
theorem r2 {R : It → Hp → Prop} (h1 : -(2 ^ 62) ≤ i ∧ i < 2 ^ 62 ∧ -(2 ^ 62) ≤ j ∧ j < 2 ^ 62) (q : R (Itr i (j - i).toNat) H) : R2P [.int i, .int j] H R := ⟨i, j, rfl, h1, q⟩
noncomputable def LP (K : PySem.W.Frag) (x : V) (H : Hp) (R : It → Hp → Prop) : Prop := ∃ a, x = .ref a ∧ (∃ xs, SqL K H a xs) ∧ R (Itl K a) H
theorem lwk {R : It → Hp → Prop} (q : te σ H fun x H1 => LP K x H1 R) : iList K te σ H R := q
theorem lp {a : Addr} {xs : List V} {R : It → Hp → Prop} (h : SqL K H a xs) (q : R (Itl K a) H) : LP K (.ref a) H R := ⟨a, rfl, ⟨xs, h⟩, q⟩
/-- built-in functions, under names of their own -/
noncomputable def rInt1 : List V → Hp → VK → Prop := fun xs H Q => (∃ i, xs = [.int i] ∧ Q (.int i) H) ∨ ∃ k, xs = [.bl k] ∧ Q (.int (if k then 1 else 0)) H
noncomputable def rAbs : List V → Hp → VK → Prop := fun xs H Q => ∃ i, xs = [.int i] ∧ Q (.int (if i < 0 then -i else i)) H
noncomputable def rLen (K : PySem.W.Frag) : List V → Hp → VK → Prop := fun xs H Q => ∃ x n, xs = [x] ∧ LenV K x H n ∧ Q (.int n) H
theorem int1 (q : Q (.int i) H) : rInt1 [.int i] H Q := .inl ⟨i, rfl, q⟩
theorem intB {k : Bool} (q : Q (.int (if k then 1 else 0)) H) : rInt1 [.bl k] H Q := .inr ⟨k, rfl, q⟩
theorem abs1 (q : Q (.int (if i < 0 then -i else i)) H) : rAbs [.int i] H Q := ⟨i, rfl, q⟩
theorem lenS {s : Str} (h : s.length ≤ sizeLine) (q : Q (.int (s.length : Nat)) H) : rLen K [.str s] H Q := ⟨_, _, rfl, ⟨h, rfl⟩, q⟩
theorem lenL {p : Addr} {xs : List V} (h : SqL K H p xs) (q : Q (.int (xs.length : Nat)) H) : rLen K [.ref p] H Q := ⟨_, _, rfl, .inl ⟨_, h, rfl⟩, q⟩
theorem lenT {p : Addr} {xs : List V} (h : SqT K H p xs) (q : Q (.int (xs.length : Nat)) H) : rLen K [.ref p] H Q := ⟨_, _, rfl, .inr ⟨_, h, rfl⟩, q⟩
/-- xs[i], s[i] -/
theorem ixL {p : Addr} {xs : List V} (h : SqL K H p xs) (ha : atI xs i = some v) (q : Q v H) : rIx K (.ref p) (.int i) H Q := .inl ⟨p, xs, i, v, rfl, rfl, h, ha, q⟩
theorem ixT {p : Addr} {xs : List V} (h : SqT K H p xs) (ha : atI xs i = some v) (q : Q v H) : rIx K (.ref p) (.int i) H Q := .inr (.inl ⟨p, xs, i, v, rfl, rfl, h, ha, q⟩)
theorem ixS {s : Str} {c : Nat} (h : s.length ≤ sizeLine) (ha : atI s.cps.toList i = some c) (q : Q (.str ⟨#[c]⟩) H) : rIx K (.str s) (.int i) H Q := .inr (.inr ⟨s, i, c, rfl, rfl, h, ha, q⟩)
/-- a, b = t -/
theorem gtup {n : Nat} {a : Addr} {xs : List V} {tg : TGs} {R : L2.St → Hp → Prop} (h : SqT K H a xs) (hl : xs.length = n) (q : tg xs σ H R) : gTup K n tg (.ref a) σ H R := ⟨a, xs, rfl, h, hl, q⟩
theorem gcons {g : TG} {tg : TGs} {xs : List V} {R : L2.St → Hp → Prop} (q : g v σ H fun σ' H' => tg xs σ' H' R) : gCons g tg (v :: xs) σ H R := ⟨v, xs, rfl, q⟩
theorem gnil {R : L2.St → Hp → Prop} (q : R σ H) : gNil [] σ H R := ⟨rfl, q⟩
/-- n.bit_length() -/
noncomputable def BiP (x : V) (H : Hp) (Q : VK) : Prop := ∃ i, x = .int i ∧ Q (.int (Builtin.Int.intBits i : Nat)) H
/-- o.f, o.f = v, o.m(..), C(..) -/
noncomputable def FP (K : PySem.W.Frag) (f : Str) (x : V) (H : Hp) (Q : VK) : Prop := ∃ a C dx fs v, x = .ref a ∧ H a = some (.ins C dx fs) ∧ Cls K C ∧ NoAttr K C f ∧ fs.lookup f = some v ∧ Q v H
theorem fld {f : Str} (q : ta σ H fun x H1 => FP K f x H1 Q) : tFld K ta f σ H Q := q
theorem fp {f : Str} {a C dx : Addr} {fs : List (Str × V)} (h : H a = some (.ins C dx fs)) (c : Cls K C) (n : NoAttr K C f) (l : fs.lookup f = some v) (q : Q v H) : FP K f (.ref a) H Q := ⟨a, C, dx, fs, v, rfl, h, c, n, l, q⟩
noncomputable def SFP (K : PySem.W.Frag) (f : Str) (y x : V) (D : Ends) (σ : L2.St) (H : Hp) : Prop := ∃ a C dx fs, x = .ref a ∧ H a = some (.ins C dx fs) ∧ Cls K C ∧ NoAttr K C f ∧ fs.length < 1000 ∧ D.nx σ (upd H a (.ins C dx (putF f y fs)))
theorem sfld {f : Str} (q : tv σ H fun y H1 => ta σ H1 fun x H2 => SFP K f y x D σ H2) : sFld K ta tv f D σ H := q
theorem sfp {f : Str} {a C dx : Addr} {fs gs : List (Str × V)} (h : H a = some (.ins C dx fs)) (c : Cls K C) (n : NoAttr K C f) (l : fs.length < 1000) (e : putF f y fs = gs) (q : D.nx σ (upd H a (.ins C dx gs))) : SFP K f y (.ref a) D σ H := ⟨a, C, dx, fs, rfl, h, c, n, l, by rw [e]; exact q⟩
theorem few {f : Str} {v : V} : ∀ {fs : List (Str × V)} {k : Nat}, fs.length ≤ k → (putF f v fs).length ≤ k + 1
  | [], k, _ => Nat.succ_le_succ (Nat.zero_le k)
  | (g, u) :: r, k, h => by
    unfold putF
    split
    · exact Nat.le_succ_of_le h
    · cases k with
      | zero => cases h
      | succ k => exact Nat.succ_le_succ (few (Nat.le_of_succ_le_succ h))
noncomputable def MP (C : Addr) (m : Str) (sp : Sp) (dvs : List V) (E : XK) (t : TA) (σ : L2.St) (x : V) (H : Hp) (Q : VK) : Prop := ∃ a dx fs, x = .ref a ∧ H a = some (.ins C dx fs) ∧ fs.lookup m = none ∧ t σ H fun vs H2 => sp (x :: (vs ++ dvs)) H2 Q E
theorem meth {C : Addr} {m : Str} {sp : Sp} {dvs : List V} {E : XK} (q : ta σ H fun x H1 => MP C m sp dvs E tr σ x H1 Q) : tMeth C m sp dvs E ta tr σ H Q := q
theorem mp {C a dx : Addr} {m : Str} {sp : Sp} {dvs : List V} {E : XK} {fs : List (Str × V)} (h : H a = some (.ins C dx fs)) (n : fs.lookup m = none) (q : tr σ H fun vs H2 => CP sp (.ref a :: vs) dvs H2 Q E) : MP C m sp dvs E tr σ (.ref a) H Q := ⟨a, dx, fs, rfl, h, n, q⟩
noncomputable def MkP (C : Addr) (sp : Sp) (vs dvs : List V) (H : Hp) (Q : VK) (E : XK) : Prop := ∀ x dx, H x = none → H dx = none → dx ≠ x → CP sp (.ref x :: vs) dvs (upd (upd H dx (.own x)) x (.ins C dx [])) (fun v H2 => v = .non ∧ Q (.ref x) H2) E
theorem make {C : Addr} {sp : Sp} {dvs : List V} {E : XK} (q : tr σ H fun vs H1 => MkP C sp vs dvs H1 Q E) : tMake C sp dvs E tr σ H Q := q
/-- [v] * n -/
noncomputable def rRepN : R2 := fun x y H Q => ∃ l k xs, x = .ref l ∧ y = .int k ∧ H l = some (.lst xs) ∧ -(2 ^ 63) ≤ k ∧ k < 2 ^ 63 ∧ xs.length * k.toNat ≤ sizeLine ∧ ∀ p, H p = none → Q (.ref p) (upd H p (.lst (List.replicate k.toNat xs).flatten))
theorem repN {l : Addr} {n : Nat} (h : H l = some (.lst [v])) (hn : n ≤ 100000) (q : ∀ p, H p = none → Q (.ref p) (upd H p (.lst (List.replicate n v)))) : rRepN (.ref l) (.int (n : Int)) H Q :=
  ⟨l, n, [v], rfl, rfl, h, by omega, by omega, by rw [Int.toNat_natCast, sizeLine_eq]; show 1 * n ≤ _; omega, fun p hp => by
    rw [Int.toNat_natCast, show (List.replicate n [v]).flatten = List.replicate n v by simp]; exact q p hp⟩
/-- xs[i] op= e -/
noncomputable def rGetN (K : PySem.W.Frag) : V → V → Hp → VK → Prop := fun x y H Q => ∃ (p : Addr) (xs : List V) (i : Nat) (v : V), x = .ref p ∧ y = .int (i : Int) ∧ SqL K H p xs ∧ i < 1000000 ∧ xs[i]? = some v ∧ Q v H
noncomputable def AgP (tip : TIp) (tset : TSet) (o i x y : V) (D : Ends) (σ : L2.St) (H : Hp) : Prop := tip x y H fun z H5 => tset o i z H5 fun H6 => D.nx σ H6
theorem augS {tget : V → V → Hp → VK → Prop} {tip : TIp} {tset : TSet} (q : to σ H fun o H1 => ti σ H1 fun i H2 => tget o i H2 fun x H3 => te σ H3 fun y H4 => AgP tip tset o i x y D σ H4) : tAugS to ti te tget tip tset D σ H := q
theorem getN {p : Addr} {xs : List V} {i : Nat} (h : SqL K H p xs) (hi : i < 1000000) (hx : xs[i]? = some v) (q : Q v H) : rGetN K (.ref p) (.int (i : Int)) H Q := ⟨p, xs, i, v, rfl, rfl, h, hi, hx, q⟩
theorem agL {l : Addr} {xs : List V} {k : Nat} {f : Int → Int → Int} (h : H l = some (.lst xs)) (hk : k < xs.length) (q : D.nx σ (upd H l (.lst (xs.set k (.int (f i j)))))) : AgP (ipI f) rSetL (.ref l) (.int (k : Int)) (.int i) (.int j) D σ H :=
  ⟨i, j, rfl, rfl, l, xs, k, k, rfl, rfl, h, by unfold ixN; rw [if_pos (by omega), if_pos (by omega)]; rfl, q⟩
/-- o[i] = v -/
noncomputable def SbP (ti : TE) (t : TSet) (v : V) (σ : L2.St) (o : V) (H : Hp) (R : L2.St → Hp → Prop) : Prop := ti σ H fun i H2 => t o i v H2 fun H3 => R σ H3
theorem sub {ts : TSet} {R : L2.St → Hp → Prop} (q : to σ H fun o H1 => SbP ti ts v σ o H1 R) : gSub to ti ts v σ H R := q
theorem sbp {ts : TSet} {R : L2.St → Hp → Prop} (q : ti σ H fun i H2 => ts x i v H2 fun H3 => R σ H3) : SbP ti ts v σ x H R := q
theorem setL {l : Addr} {xs : List V} {k : Int} {j : Nat} {R : Hp → Prop} (h : H l = some (.lst xs)) (hk : ixN xs.length k = some j) (q : R (upd H l (.lst (xs.set j v)))) : rSetL (.ref l) (.int k) v H R := ⟨l, xs, k, j, rfl, rfl, h, hk, q⟩
/-- slices -/
noncomputable def PtP (x : V) (H : Hp) (R : Option Int → Hp → Prop) : Prop := ∃ i, x = .int i ∧ R (some i) H
theorem slc {r : V → Option Int → Option Int → Hp → VK → Prop} {tl th : TO} (q : te σ H fun x H1 => tl σ H1 fun a H2 => th σ H2 fun b H3 => r x a b H3 Q) : tSl r te tl th σ H Q := q
theorem noP {R : Option Int → Hp → Prop} (q : R none H) : tNoPart σ H R := q
theorem part {R : Option Int → Hp → Prop} (q : te σ H fun x H1 => PtP x H1 R) : tPart te σ H R := q
theorem ptp {R : Option Int → Hp → Prop} (q : R (some i) H) : PtP (.int i) H R := ⟨i, rfl, q⟩
theorem slS {z : Str} {lo hi : Option Int} (h : z.length ≤ sizeLine) (q : Q (.str (cutS z lo hi)) H) : rSlS (.str z) lo hi H Q := ⟨z, rfl, h, q⟩
/-- texts put together -/
noncomputable def rCatS : R2 := fun x y H Q => ∃ i j, x = .str i ∧ y = .str j ∧ i.length + j.length ≤ sizeLine ∧ Q (.str (i ++ j)) H
theorem addS {a b : Str} (h : a.length + b.length ≤ sizeLine) (q : Q (.str (a ++ b)) H) : rCatS (.str a) (.str b) H Q := ⟨a, b, rfl, rfl, h, q⟩
theorem at_map {ns : List Int} {k : Nat} (h : k < ns.length) : atI (ns.map V.int) (k : Int) = some (.int (ns.getD k 0)) := by
  refine atI_nat ?_
  rw [List.getElem?_map, List.getElem?_eq_getElem h]
  simp [List.getD_eq_getElem?_getD, List.getElem?_eq_getElem h]
/-- methods of built-in types -/
noncomputable def BmP (K : PySem.W.Frag) (T : String) (r : V → List V → Hp → VK → Prop) (t : TA) (σ : L2.St) (x : V) (H : Hp) (Q : VK) : Prop := tyV K T x H ∧ t σ H fun xs H2 => r x xs H2 Q
theorem bm {T : String} {r : V → List V → Hp → VK → Prop} (q : to σ H fun x H1 => BmP K T r tr σ x H1 Q) : tBM K T r to tr σ H Q := q
theorem bmS {T : String} {r : V → List V → Hp → VK → Prop} (h : tyV K T x H) (q : tr σ H fun xs H2 => r x xs H2 Q) : BmP K T r tr σ x H Q := ⟨h, q⟩
theorem app {l : Addr} {xs : List V} (h : H l = some (.lst xs)) (hz : xs.length < sizeLine) (q : Q .non (upd H l (.lst (xs ++ [y])))) : rAppend (.ref l) [y] H Q := ⟨l, xs, y, rfl, rfl, h, hz, q⟩
theorem tyL {p : Addr} {xs : List V} (h : SqL K H p xs) : tyV K "list" (.ref p) H := .inl ⟨rfl, _, h⟩
/-- what follows is shown once, from the word between -/
theorem cut {tz : TS} (M : L2.St → Hp → Prop) (h : tu { D with nx := M } σ H) (k : ∀ σ' H', M σ' H' → tz D σ' H') : C8.tCut tu tz D σ H := ⟨M, h, k⟩
/-- while: a word that falls -/
noncomputable def WhI (W : Nat → L2.St → Hp → Prop) (m : Nat) (tb : TS) (D : Ends) (σ : L2.St) (b : Bool) (H : Hp) : Prop :=
  if b = true then ∃ N : L2.St → Hp → Prop, (∀ σ' H', N σ' H' → ∃ m', m' < m ∧ W m' σ' H') ∧ tb { D with nx := N, ct := N, bk := D.nx } σ H else D.nx σ H
theorem whI_t {W : Nat → L2.St → Hp → Prop} {m : Nat} (q : tu { D with nx := fun σ' H' => ∃ m', m' < m ∧ W m' σ' H', ct := fun σ' H' => ∃ m', m' < m ∧ W m' σ' H', bk := D.nx } σ H) : WhI W m tu D σ true H := by
  unfold WhI; rw [if_pos rfl]; exact ⟨_, fun _ _ h => h, q⟩
theorem whI_f {W : Nat → L2.St → Hp → Prop} {m : Nat} (q : D.nx σ H) : WhI W m tu D σ false H := by
  unfold WhI; rw [if_neg Bool.false_ne_true]; exact q
theorem whI_d {W : Nat → L2.St → Hp → Prop} {m : Nat} {p : Prop} [Decidable p] (q1 : p → WhI W m tu D σ true H) (q2 : ¬ p → WhI W m tu D σ false H) : WhI W m tu D σ (decide p) H := by
  by_cases h : p
  · rw [decide_eq_true h]; exact q1 h
  · rw [decide_eq_false h]; exact q2 h
theorem whl (W : Nat → L2.St → Hp → Prop) (m0 : Nat) (h0 : W m0 σ H) (hs : ∀ m σ' H', W m σ' H' → t σ' H' fun b H1 => WhI W m tu D σ' b H1) : tWhile t tu D σ H := ⟨W, ⟨m0, h0⟩, hs⟩
/-- any walk -/
theorem fw {J : It} {n : Nat} {G : Hp → Prop} {Y : Nat → Hp → V → Hp → Prop} {g : TG} (w : Walk J n G Y) (Pv : Nat → L2.St → Hp → Prop) (h0 : Pv 0 σ H) (hG : ∀ i σ H, i ≤ n → Pv i σ H → G H)
    (hs : ∀ i x σ H H', i < n → Pv i σ H → Y i H x H' → g x σ H' fun σ2 H2 => tu { D with nx := Pv (i + 1), ct := Pv (i + 1), bk := D.nx } σ2 H2) (hd : ∀ σ H, Pv n σ H → D.nx σ H) : FW J g tu D σ H := for_it w Pv h0 hG hs hd
noncomputable def StrP (x : V) (H : Hp) (R : It → Hp → Prop) : Prop := ∃ z, x = .str z ∧ R (Its z) H
theorem strw {R : It → Hp → Prop} (q : te σ H fun x H1 => StrP x H1 R) : iStr te σ H R := q
theorem strp {z : Str} {R : It → Hp → Prop} (q : R (Its z) H) : StrP (.str z) H R := ⟨z, rfl, q⟩
/-- comprehensions -/
noncomputable def LcP (J : It) (g : TG) (tt : TT) (te : TE) (vs : List Nat) (σ : L2.St) (Q : VK) (H1 : Hp) : Prop := ∀ D, H1 D = none → ∃ W : Nat → Nat → Hp → Prop, (∃ m, W 0 m (upd H1 D (.lst []))) ∧ ∀ i m H, W i m H →
  (J.stop i H ∧ Q (.ref D) H) ∨ (J.go i H ∧ ∃ Nx : Hp → Prop, (∀ H', Nx H' → ∃ m', m' < m ∧ W (i + 1) m' H') ∧ ∀ x H', J.yld i H x H' → g x (wipe σ vs) H' fun σ2 H2 => wipe σ2 vs = wipe σ vs ∧ tt σ2 H2 fun b H3 =>
    if b = true then te σ2 H3 fun y H4 => ∃ acc, H4 D = some (.lst acc) ∧ acc.length < sizeLine ∧ Nx (upd H4 D (.lst (acc ++ [y]))) else Nx H3)
theorem lc {wi : TI} {g : TG} {vs : List Nat} (q : wi σ H fun J H1 => LcP J g t te vs σ Q H1) : tLc wi g t te vs σ H Q := q
noncomputable def WP (A B : Prop) : Prop := A ∧ B
theorem wp (h : A1) (q : A2) : WP A1 A2 := ⟨h, q⟩
theorem yes (q : B true H) : tYes σ H B := q
theorem same_up {H H' : Hp} {p : Addr} {o : HO} (h : H p = none) (s : Same H H') : Same H (upd H' p o) := fun a u e => by rw [upd_ne (ne_of_none e h)]; exact s a u e
theorem same_new {H : Hp} {p : Addr} {o : HO} (h : H p = none) : Same H (upd H p o) := same_up h (Same.refl H)
theorem snoc {H : Hp} {p : Addr} {xs : List Int} {z : Int} : upd H p (.lst (xs.map V.int ++ [.int z])) p = some (.lst ((xs ++ [z]).map V.int)) := by rw [upd_same, List.map_append]; rfl
/-- a comprehension whose turns leave what stands: the list of the turns that are kept -/
theorem lcFil {J : It} {n : Nat} {G : Hp → Prop} {Y : Nat → Hp → V → Hp → Prop} {g : TG} {vs : List Nat} (w : Walk J n G Y) (hn : n < 16777216) (c : Nat → Bool) (f : Nat → V) (hG : ∀ H', Same H H' → G H') (hY : ∀ i H x H', Y i H x H' → Same H H')
    (hs : ∀ i x H1 H' (R : V → Hp → Prop) (R0 : Hp → Prop), i < n → Same H H1 → Y i H1 x H' → (c i = true → ∀ H4, Same H' H4 → R (f i) H4) → (c i = false → ∀ H4, Same H' H4 → R0 H4) →
      g x (wipe σ vs) H' fun σ2 H2 => WP (wipe σ2 vs = wipe σ vs) (t σ2 H2 fun b H3 => IfP b (te σ2 H3 R) (R0 H3)))
    (q : ∀ p H2, H p = none → Same H H2 → H2 p = some (.lst (((List.range n).filter c).map f)) → Q (.ref p) H2) : LcP J g t te vs σ Q H := fun p hp => by
  refine lc_it w (fun i H' => Same H H' ∧ H' p = some (.lst (((List.range i).filter c).map f))) ⟨same_new hp, upd_same⟩ (fun i H' _ h => hG H' h.1) (fun i x H1 H' hi h y => ?_) (fun H' h => q p H' hp h.1 h.2)
  obtain ⟨h1, h2⟩ := h
  have s1 := hY i H1 x H' y
  refine hs i x H1 H' _ _ hi h1 y (fun hc H4 s4 => ⟨_, s4 _ _ (s1 _ _ h2), ?_, same_up hp (h1.trans (s1.trans s4)), ?_⟩) (fun hc H4 s4 => ⟨h1.trans (s1.trans s4), ?_⟩)
  · rw [List.length_map]
    have := List.length_filter_le c (List.range i)
    rw [List.length_range] at this
    rw [sizeLine_eq]; omega
  · rw [upd_same, List.range_succ, List.filter_append, List.map_append, List.filter_cons, if_pos hc]; rfl
  · rw [List.range_succ, List.filter_append, List.map_append, List.filter_cons, if_neg (by rw [hc]; decide)]
    rw [s4 _ _ (s1 _ _ h2)]; simp
theorem lcMap {J : It} {n : Nat} {G : Hp → Prop} {Y : Nat → Hp → V → Hp → Prop} {g : TG} {vs : List Nat} (w : Walk J n G Y) (hn : n < 16777216) (f : Nat → V) (hG : ∀ H', Same H H' → G H') (hY : ∀ i H x H', Y i H x H' → Same H H')
    (hs : ∀ i x H1 H' (R : V → Hp → Prop) (R0 : Hp → Prop), i < n → Same H H1 → Y i H1 x H' → (∀ H4, Same H' H4 → R (f i) H4) →
      g x (wipe σ vs) H' fun σ2 H2 => WP (wipe σ2 vs = wipe σ vs) (t σ2 H2 fun b H3 => IfP b (te σ2 H3 R) (R0 H3)))
    (q : ∀ p H2, H p = none → Same H H2 → H2 p = some (.lst ((List.range n).map f)) → Q (.ref p) H2) : LcP J g t te vs σ Q H := by
  refine lcFil w hn (fun _ => true) f hG hY (fun i x H1 H' R R0 hi h1 y hr _ => hs i x H1 H' R R0 hi h1 y (hr rfl)) ?_
  rw [List.filter_eq_self.mpr (fun _ _ => rfl)]
  exact q
theorem sameFn {f : Nat → V} : ∀ i H x H', YFn f i H x H' → Same H H' := fun _ _ _ _ y => y.1 ▸ Same.refl _
theorem sameAt {xs : List V} : ∀ i H x H', YAt xs i H x H' → Same H H' := fun _ _ _ _ y => y.1 ▸ Same.refl _
/-- reversed ranges -/
noncomputable def RrP (a b : Int) (H : Hp) (R : It → Hp → Prop) : Prop := -(2 ^ 62) ≤ a ∧ a < 2 ^ 62 ∧ -(2 ^ 62) ≤ b ∧ b < 2 ^ 62 ∧ R (Itc (a + (((b - a).toNat : Nat) : Int) - 1) (-1) (b - a).toNat) H
noncomputable def Rg1P (x : V) (H : Hp) (R : Int → Int → Hp → Prop) : Prop := ∃ j, x = .int j ∧ R 0 j H
theorem rrv {tr : L2.St → Hp → (Int → Int → Hp → Prop) → Prop} {R : It → Hp → Prop} (q : tr σ H fun a b H1 => RrP a b H1 R) : iRevR tr σ H R := q
theorem rr {a b : Int} {R : It → Hp → Prop} (h : -(2 ^ 62) ≤ a ∧ a < 2 ^ 62 ∧ -(2 ^ 62) ≤ b ∧ b < 2 ^ 62) (q : R (Itc (a + (((b - a).toNat : Nat) : Int) - 1) (-1) (b - a).toNat) H) : RrP a b H R := ⟨h.1, h.2.1, h.2.2.1, h.2.2.2, q⟩
theorem rg1 {R : Int → Int → Hp → Prop} (q : ta σ H fun x H1 => Rg1P x H1 R) : tRg1 ta σ H R := q
theorem rg1p {R : Int → Int → Hp → Prop} (q : R 0 j H) : Rg1P (.int j) H R := ⟨j, rfl, q⟩
/-- isinstance with a built-in class -/
theorem isi {n : String} {tv : Value} (ty : TyX K H x tv) (q : Q (.bl b) H) (e : PySem.W.kitOne K tv (.type n) = some b) : rIsi K [x, .ty n] H Q := ⟨x, .ty n, tv, .type n, b, rfl, .ty n, ty, e, q⟩
theorem isiI {n : String} (q : Q (.bl b) H) (e : kitB "int" n = some b) : rIsi K [.int i, .ty n] H Q := isi (.base (.int i)) q (kit_ty e)
noncomputable def rLtS : R2 := fun x y H Q => ∃ i j, x = .str i ∧ y = .str j ∧ Q (.bl (decide (i.cps.toList < j.cps.toList))) H
theorem ltS {a b : Str} (q : Q (.bl (decide (a.cps.toList < b.cps.toList))) H) : rLtS (.str a) (.str b) H Q := ⟨a, b, rfl, rfl, q⟩
theorem eqB {p q' : Bool} : decide (V.bl p = V.bl q') = decide (p = q') := by simp
theorem eqvB {a b : Bool} (q : Q (.bl (decide (a = b))) H) : rEq (.bl a) (.bl b) H Q := eqv (by rw [eqB]; exact q)
noncomputable def rMin2 : List V → Hp → VK → Prop := fun xs H Q => ∃ i j, xs = [.int i, .int j] ∧ Q (.int (if j < i then j else i)) H
theorem min2 (q : Q (.int (if j < i then j else i)) H) : rMin2 [.int i, .int j] H Q := ⟨i, j, rfl, q⟩
theorem notin_ints {z : Int} : ∀ xs : List Int, (∀ y ∈ xs, y ≠ z) → inV (.int z) (xs.map V.int) = false
  | [], _ => rfl
  | y :: xs, h => by
    have ih := notin_ints xs fun u hu => h u (List.mem_cons_of_mem _ hu)
    unfold inV at *
    rw [List.map_cons, List.any_cons, ih, Bool.or_false]
    show (y == z) = false
    exact beq_eq_false_iff_ne.mpr (h y List.mem_cons_self)
theorem inT {p : Addr} {xs : List V} {neg : Bool} (h : SqT K H p xs) (f : xs.all flatV = true) (q : Q (.bl (if neg then !inV (.int i) xs else inV (.int i) xs)) H) : rIn K neg (.int i) (.ref p) H Q := ⟨p, xs, rfl, .inr h, rfl, f, q⟩
/-- == of lists of ints -/
theorem eqvAll_int : ∀ xs ys : List Int, PyData.eqvAll (xs.map .int) (ys.map .int) = decide (xs = ys)
  | [], [] => by simp [PyData.eqvAll]
  | [], _ :: _ => by simp [PyData.eqvAll]
  | _ :: _, [] => by simp [PyData.eqvAll]
  | x :: xs, y :: ys => by
    simp only [List.map_cons, PyData.eqvAll, PyData.eqv, eqvAll_int xs ys]
    by_cases h : x = y
    · subst h; simp
    · simp [h]
theorem canLay_ints : ∀ xs : List Int, PyData.canLayAll0 (xs.map .int) = true
  | [] => rfl
  | _ :: xs => by simp [PyData.canLayAll0, PyData.canLay0, canLay_ints xs]
theorem depth_ints : ∀ xs : List Int, PyData.depthAll (xs.map .int) = 0
  | [] => rfl
  | _ :: xs => by simp [PyData.depthAll, PyData.depth, depth_ints xs]
theorem shaped_ints (xs : List Int) : SeqAt.shaped (.list (xs.map .int)) = true := by
  simp [SeqAt.shaped, PyData.canLay0, PyData.depth, canLay_ints, depth_ints]
theorem dpAll_int : ∀ xs : List Int, DpAll K H (xs.map V.int) (xs.map PyData.int)
  | [] => .nil
  | x :: xs => .cons (.int x) (dpAll_int xs)
theorem eqDI {p q' : Addr} {xs ys : List Int} (h1 : SqL K H p (xs.map V.int)) (h2 : SqL K H q' (ys.map V.int)) (q : Q (.bl (decide (xs = ys))) H) : rEqD K (.ref p) (.ref q') H Q :=
  ⟨_, _, .lst h1 (dpAll_int xs), .lst h2 (dpAll_int ys), shaped_ints xs, shaped_ints ys, by rw [show PyData.eqv (.list (xs.map .int)) (.list (ys.map .int)) = decide (xs = ys) from eqvAll_int xs ys]; exact q⟩
noncomputable def rList (K : PySem.W.Frag) : List V → Hp → VK → Prop := fun xs H Q => ∃ p ys, xs = [.ref p] ∧ (SqL K H p ys ∨ SqT K H p ys) ∧ ∀ l, H l = none → Q (.ref l) (upd H l (.lst ys))
theorem listL {p : Addr} {xs : List V} (h : SqL K H p xs) (q : ∀ l, H l = none → Q (.ref l) (upd H l (.lst xs))) : rList K [.ref p] H Q := ⟨p, xs, rfl, .inl h, q⟩
noncomputable def rDivmod : List V → Hp → VK → Prop := fun xs H Q => ∃ i j, xs = [.int i, .int j] ∧ CDiv i j ∧ ∀ p, H p = none → Q (.ref p) (upd H p (.tup [.int (i / j), .int (i % j)]))
theorem dvm (c : CDiv i j) (q : ∀ p, H p = none → Q (.ref p) (upd H p (.tup [.int (i / j), .int (i % j)]))) : rDivmod [.int i, .int j] H Q := ⟨i, j, rfl, c, q⟩
theorem cat {l b : Addr} {xs zs : List V} (h1 : H l = some (.lst xs)) (h2 : H b = some (.lst zs)) (hz : xs.length + zs.length ≤ sizeLine) (q : ∀ p, H p = none → Q (.ref p) (upd H p (.lst (xs ++ zs)))) : rCat (.ref l) (.ref b) H Q := ⟨l, b, xs, zs, rfl, rfl, h1, h2, hz, q⟩
noncomputable def TwP (K : PySem.W.Frag) (x : V) (H : Hp) (R : It → Hp → Prop) : Prop := ∃ a, x = .ref a ∧ (∃ xs, SqT K H a xs) ∧ R (Itt K a) H
theorem twk {R : It → Hp → Prop} (q : te σ H fun x H1 => TwP K x H1 R) : iTup K te σ H R := q
/-- a list of tuples of ints -/
noncomputable def TL (H : Hp) (l : Addr) (n : Nat) (f : Nat → List Int) : Prop := ∃ ps : List Addr, H l = some (.lst (ps.map V.ref)) ∧ ps.length = n ∧ ∀ j a, ps[j]? = some a → H a = some (.tup ((f j).map V.int))
theorem TL.keep {H' : Hp} {l : Addr} {n : Nat} {f : Nat → List Int} (t : TL H l n f) (s : Same H H') : TL H' l n f := by
  obtain ⟨ps, h1, h2, h3⟩ := t
  exact ⟨ps, s _ _ h1, h2, fun j a e => s _ _ (h3 j a e)⟩
theorem TL.nil {l : Addr} {f : Nat → List Int} (h : H l = some (.lst [])) : TL H l 0 f := ⟨[], h, rfl, fun j a e => by cases e⟩
theorem TL.snoc {l t : Addr} {n : Nat} {f : Nat → List Int} (x : TL H l n f) (h : H t = some (.tup ((f n).map V.int))) : ∃ xs, H l = some (.lst xs) ∧ xs.length = n ∧ TL (upd H l (.lst (xs ++ [.ref t]))) l (n + 1) f := by
  obtain ⟨ps, h1, h2, h3⟩ := x
  have ne : ∀ {a : Addr} {ys : List V}, H a = some (.tup ys) → a ≠ l := fun e => ne_of e h1 (by intro z; cases z)
  refine ⟨_, h1, by rw [List.length_map]; exact h2, ps ++ [t], by rw [upd_same, List.map_append]; rfl, by rw [List.length_append, h2]; rfl, fun j a e => ?_⟩
  by_cases hj : j < ps.length
  · rw [List.getElem?_append_left hj] at e
    rw [upd_ne (ne (h3 j a e))]; exact h3 j a e
  · rw [List.getElem?_append_right (by omega)] at e
    have hj2 : j - ps.length = 0 := by
      rcases Nat.eq_zero_or_pos (j - ps.length) with z | z
      · exact z
      · rw [List.getElem?_eq_none (by show 1 ≤ _; omega)] at e; cases e
    rw [hj2] at e
    have e2 : t = a := Option.some.inj e
    subst e2
    rw [upd_ne (ne h), show j = n by omega]; exact h
theorem TL.len {l : Addr} {n : Nat} {f : Nat → List Int} (x : TL H l n f) : ∃ xs, H l = some (.lst xs) ∧ xs.length = n := by
  obtain ⟨ps, h1, h2, h3⟩ := x
  exact ⟨_, h1, by rw [List.length_map]; exact h2⟩
theorem TL.get {l : Addr} {n j : Nat} {f : Nat → List Int} (x : TL H l n f) (hj : j < n) : ∃ xs a, H l = some (.lst xs) ∧ atI xs (j : Int) = some (.ref a) ∧ H a = some (.tup ((f j).map V.int)) := by
  obtain ⟨ps, h1, h2, h3⟩ := x
  have hj2 : j < ps.length := by omega
  refine ⟨_, ps[j], h1, atI_nat ?_, h3 j _ (List.getElem?_eq_getElem hj2)⟩
  rw [List.getElem?_map, List.getElem?_eq_getElem hj2]; rfl
/-- a list of lists of ints -/
noncomputable def LL (H : Hp) (l : Addr) (n : Nat) (f : Nat → List Int) : Prop := ∃ ps : List Addr, H l = some (.lst (ps.map V.ref)) ∧ ps.length = n ∧ ∀ j a, ps[j]? = some a → H a = some (.lst ((f j).map V.int))
theorem LL.keep {H' : Hp} {l : Addr} {n : Nat} {f : Nat → List Int} (t : LL H l n f) (s : Same H H') : LL H' l n f := by
  obtain ⟨ps, h1, h2, h3⟩ := t
  exact ⟨ps, s _ _ h1, h2, fun j a e => s _ _ (h3 j a e)⟩
theorem LL.nil {l : Addr} {f : Nat → List Int} (h : H l = some (.lst [])) : LL H l 0 f := ⟨[], h, rfl, fun j a e => by cases e⟩
theorem LL.snoc {l t : Addr} {n : Nat} {f : Nat → List Int} (x : LL H l n f) (h : H t = some (.lst ((f n).map V.int))) (ne : t ≠ l) : ∃ xs, H l = some (.lst xs) ∧ xs.length = n ∧ LL (upd H l (.lst (xs ++ [.ref t]))) l (n + 1) f := by
  obtain ⟨ps, h1, h2, h3⟩ := x
  have nl : ∀ {j : Nat} {a : Addr}, ps[j]? = some a → a ≠ l := fun {j a} e z => by
    have e2 := h3 j a e
    rw [z, h1] at e2
    have e3 : ps.map V.ref = (f j).map V.int := by injection e2 with e2; injection e2
    cases hp : ps with
    | nil => rw [hp] at e; cases e
    | cons b r =>
      rw [hp] at e3
      cases hf : f j with
      | nil => rw [hf] at e3; cases e3
      | cons z zs => rw [hf] at e3; injection e3 with e4; cases e4
  refine ⟨_, h1, by rw [List.length_map]; exact h2, ps ++ [t], by rw [upd_same, List.map_append]; rfl, by rw [List.length_append, h2]; rfl, fun j a e => ?_⟩
  by_cases hj : j < ps.length
  · rw [List.getElem?_append_left hj] at e
    rw [upd_ne (nl e)]; exact h3 j a e
  · rw [List.getElem?_append_right (by omega)] at e
    have hj2 : j - ps.length = 0 := by
      rcases Nat.eq_zero_or_pos (j - ps.length) with z | z
      · exact z
      · rw [List.getElem?_eq_none (by show 1 ≤ _; omega)] at e; cases e
    rw [hj2] at e
    have e2 : t = a := Option.some.inj e
    subst e2
    rw [upd_ne ne, show j = n by omega]; exact h
theorem LL.len {l : Addr} {n : Nat} {f : Nat → List Int} (x : LL H l n f) : ∃ xs, H l = some (.lst xs) ∧ xs.length = n := by
  obtain ⟨ps, h1, h2, h3⟩ := x
  exact ⟨_, h1, by rw [List.length_map]; exact h2⟩
theorem LL.all {l : Addr} {n : Nat} {f : Nat → List Int} (x : LL H l n f) : ∃ xs, H l = some (.lst xs) ∧ xs.length = n ∧ ∀ j v, xs[j]? = some v → ∃ a, v = .ref a ∧ H a = some (.lst ((f j).map V.int)) := by
  obtain ⟨ps, h1, h2, h3⟩ := x
  refine ⟨_, h1, by rw [List.length_map]; exact h2, fun j v e => ?_⟩
  rw [List.getElem?_map] at e
  cases ea : ps[j]? with
  | none => rw [ea] at e; cases e
  | some a => rw [ea] at e; exact ⟨a, (Option.some.inj e).symm, h3 j a ea⟩
theorem LL.get {l : Addr} {n j : Nat} {f : Nat → List Int} (x : LL H l n f) (hj : j < n) : ∃ xs a, H l = some (.lst xs) ∧ atI xs (j : Int) = some (.ref a) ∧ H a = some (.lst ((f j).map V.int)) := by
  obtain ⟨ps, h1, h2, h3⟩ := x
  have hj2 : j < ps.length := by omega
  refine ⟨_, ps[j], h1, atI_nat ?_, h3 j _ (List.getElem?_eq_getElem hj2)⟩
  rw [List.getElem?_map, List.getElem?_eq_getElem hj2]; rfl
theorem LL.congr {l : Addr} {n : Nat} {f g : Nat → List Int} (x : LL H l n f) (h : ∀ j, j < n → f j = g j) : LL H l n g := by
  obtain ⟨ps, h1, h2, h3⟩ := x
  refine ⟨ps, h1, h2, fun j a e => ?_⟩
  have hj : j < ps.length := by
    rcases Nat.lt_or_ge j ps.length with z | z
    · exact z
    · rw [List.getElem?_eq_none z] at e; cases e
  rw [← h j (by omega)]; exact h3 j a e
/-- a comprehension over two ranges -/
noncomputable def Lc2In (J1 : It) (g1 : TG) (tt1 : TT) (te : TE) (vs1 : List Nat) (D : Addr) (Nx : Hp → Prop) (σ2 : L2.St) (H4 : Hp) : Prop := ∃ W1 : Nat → Nat → Hp → Prop, (∃ m, W1 0 m H4) ∧ ∀ j k H, W1 j k H →
      (J1.stop j H ∧ Nx H) ∨ (J1.go j H ∧ ∃ Nx1 : Hp → Prop, (∀ H', Nx1 H' → ∃ k', k' < k ∧ W1 (j + 1) k' H') ∧ ∀ x H', J1.yld j H x H' → g1 x (wipe σ2 vs1) H' fun σ3 H5 => wipe σ3 vs1 = wipe σ2 vs1 ∧ tt1 σ3 H5 fun b H6 =>
        if b = true then te σ3 H6 fun y H7 => ∃ acc, H7 D = some (.lst acc) ∧ acc.length < sizeLine ∧ Nx1 (upd H7 D (.lst (acc ++ [y]))) else Nx1 H6)
noncomputable def Lc2P (J : It) (g : TG) (tt : TT) (wi1 : TI) (g1 : TG) (tt1 : TT) (te : TE) (vs vs1 : List Nat) (σ : L2.St) (Q : VK) (H1 : Hp) : Prop := ∀ D, H1 D = none → ∃ W : Nat → Nat → Hp → Prop, (∃ m, W 0 m (upd H1 D (.lst []))) ∧ ∀ i m H, W i m H →
  (J.stop i H ∧ Q (.ref D) H) ∨ (J.go i H ∧ ∃ Nx : Hp → Prop, (∀ H', Nx H' → ∃ m', m' < m ∧ W (i + 1) m' H') ∧ ∀ x H', J.yld i H x H' → g x (wipe σ vs) H' fun σ2 H2 => wipe σ2 vs = wipe σ vs ∧ tt σ2 H2 fun b H3 =>
    if b = true then wi1 σ2 H3 fun J1 H4 => Lc2In J1 g1 tt1 te vs1 D Nx σ2 H4 else Nx H3)
theorem lc2 {wi wi1 : TI} {g g1 : TG} {tt tt1 : TT} {vs vs1 : List Nat} (q : wi σ H fun J H1 => Lc2P J g tt wi1 g1 tt1 te vs vs1 σ Q H1) : tLc2 wi g tt wi1 g1 tt1 te vs vs1 σ H Q := q
/-- what is made after i whole turns of the outer walk -/
noncomputable def made (m : Nat) (f : Nat → Nat → V) (i : Nat) : List V := (List.range i).flatMap fun i => (List.range m).map (f i)
theorem slL {a : Addr} {xs : List V} {lo hi : Option Int} (h : SqL K H a xs) (q : ∀ p, H p = none → Q (.ref p) (upd H p (.lst (cutV xs lo hi)))) : rSlL K (.ref a) lo hi H Q := ⟨a, xs, rfl, h, q⟩
end
section
variable {X : Cx}
theorem o_rep : OpR X (binaryOp .Mult) rRepN := op_rep
theorem pget_list : PGet X (rGetN X.K) := by
  intro pins s σ H o i ov iv Q I ro ri h
  obtain ⟨p, xs, k, v, rfl, rfl, hq, hk, hx, q⟩ := h
  cases ro
  obtain ⟨t, rfl⟩ := ri
  obtain ⟨its, r, pl, hz⟩ := I.list hq
  obtain ⟨w, ew, rw'⟩ := r.get hx
  exact wpAny_getItem_list pl.isList (by omega) (by omega) (by rw [Int.toNat_natCast]; simpa using ew) ⟨v, H, I, rw', q⟩
theorem o_addS : OpR X (binaryOp .Add) rCatS := op_add_str
theorem c_min2 (hc : X.calm = true) : CallR X (.builtin "min") rMin2 := call_min2 hc
theorem c_divmod : CallR X (.builtin "divmod") rDivmod := call_divmod
theorem c_listK {K : PySem.W.Frag} (h : X.K = K) : CallR X (.type "list") (rList K) := by subst h; exact call_list_of
theorem c_isiK {K : PySem.W.Frag} (h : X.K = K) : CallR X (.builtin "isinstance") (rIsi K) := by subst h; exact call_isi
theorem c_lenK {K : PySem.W.Frag} (h : X.K = K) : CallR X (.builtin "len") (rLen K) := by subst h; exact call_len
theorem ix_seqK {K : PySem.W.Frag} (h : X.K = K) : IxR X (rIx K) := by subst h; exact ix_seq
theorem sl_listK {K : PySem.W.Frag} (h : X.K = K) : SlR X (rSlL K) := by subst h; exact sl_list
theorem pe_fldK {K : PySem.W.Frag} {e : Expr} {ta : TE} {f : Str} {pos : Pos} (h : X.K = K) (he : PE X e ta) (hb : attributeBase e f X.env (eval e X.env) = eval e X.env) : PE X (.Attribute e f pos) (tFld K ta f) := by subst h; exact pe_fld he hb
theorem c_int : CallR X (.type "int") rInt1 := call_int1
end
end Gx
local macro_rules | `(tactic| walk_at "few") => `(tactic| (refine Nat.lt_of_le_of_lt (m := 30) ?_ (by decide); repeat (first | exact Nat.zero_le _ | refine Gx.few ?_)))
local macro_rules | `(tactic| walk_at "side") => `(tactic| ((try dsimp only [L2.CMul, L2.CDiv, L2.CPow, L2.CDivN]); first | omega | decide | assumption))
local macro_rules | `(tactic| walk_at "go1") => `(tactic| (first
  | with_reducible refine Gx.seq ?_
  | with_reducible refine Gx.asg ?_
  | with_reducible refine Gx.op ?_
  | ((with_reducible refine' Gx.var ?h0 ?_); (case h0 => rfl))
  | with_reducible refine Gx.cst ?_
  | with_reducible refine Gx.i0 ?_
  | with_reducible refine Gx.name ?_
  | with_reducible refine Gx.cons ?_
  | with_reducible refine Gx.nil ?_
  | with_reducible refine Gx.call ?_
  | with_reducible refine Gx.cb ?_
  | with_reducible refine Gx.int1 ?_
  | with_reducible refine Gx.intB ?_
  | with_reducible refine Gx.abs1 ?_
  | with_reducible refine Gx.un ?_
  | with_reducible refine Gx.uu ?_
  | with_reducible refine Gx.ifs ?_
  | with_reducible refine Gx.ifx ?_
  | with_reducible refine Gx.test ?_
  | with_reducible refine Gx.tB ?_
  | with_reducible refine Gx.tb_go ?_
  | with_reducible refine Gx.bv_go ?_
  | with_reducible refine Gx.and_ ?_
  | with_reducible refine Gx.or_ ?_
  | with_reducible refine Gx.not_ ?_
  | with_reducible refine Gx.andV ?_
  | with_reducible refine Gx.m1 ?_
  | with_reducible refine Gx.m1s ?_
  | with_reducible refine Gx.orW ?_
  | with_reducible refine Gx.andW ?_
  | with_reducible refine Gx.orV ?_
  | with_reducible refine Gx.notV ?_
  | with_reducible refine Gx.eqvI ?_
  | with_reducible refine Gx.nevI ?_
  | with_reducible refine Gx.eqvS ?_
  | with_reducible refine Gx.eqvB ?_
  | with_reducible refine Gx.ltS ?_
  | with_reducible refine Gx.nevS ?_
  | with_reducible refine Gx.ret ?_
  | with_reducible refine Gx.retN ?_
  | with_reducible refine Gx.drop ?_
  | with_reducible refine Gx.next ?_
  | with_reducible refine Gx.brk ?_
  | with_reducible refine Gx.cnt ?_
  | with_reducible refine Gx.if_t ?_
  | with_reducible refine Gx.if_f ?_
  | with_reducible refine Gx.if_nt ?_
  | with_reducible refine Gx.whI_t ?_
  | with_reducible refine Gx.whI_f ?_
  | with_reducible refine Gx.if_nf ?_
  | with_reducible refine Gx.for_ ?_
  | with_reducible refine Gx.rng1 ?_
  | with_reducible refine Gx.rng2 ?_
  | with_reducible refine Gx.rng3 ?_
  | with_reducible refine Gx.lwk ?_
  | with_reducible refine Gx.twk ?_
  | with_reducible refine Gx.lst ?_
  | with_reducible refine Gx.tup ?_
  | with_reducible refine Gx.bm ?_
  | with_reducible refine Gx.lc ?_
  | with_reducible refine Gx.lc2 ?_
  | with_reducible refine Gx.gcons ?_
  | with_reducible refine Gx.gnil ?_
  | with_reducible refine Gx.strw ?_
  | with_reducible refine Gx.strp ?_
  | with_reducible refine Gx.fld ?_
  | with_reducible refine Gx.sfld ?_
  | with_reducible refine Gx.meth ?_
  | with_reducible refine Gx.make ?_
  | with_reducible refine Gx.augS ?_
  | with_reducible refine Gx.sub ?_
  | with_reducible refine Gx.slc ?_
  | with_reducible refine Gx.noP ?_
  | with_reducible refine Gx.part ?_
  | with_reducible refine Gx.ptp ?_
  | with_reducible refine Gx.sbp ?_
  | ((with_reducible refine' Gx.wp ?h0 ?_); (case h0 => rfl))
  | with_reducible refine Gx.yes ?_
  | with_reducible refine Gx.rrv ?_
  | with_reducible refine Gx.rg1 ?_
  | with_reducible refine Gx.rg1p ?_
  | ((with_reducible refine' Gx.aug ?h0 ?_); (case h0 => rfl))
  | with_reducible refine Gx.augI ?_))
local macro_rules | `(tactic| walk_at "go") => `(tactic| repeat walk_at "go1")

/-! An own exception whose __init__ begins with super().__init__(e), its base chain ending at ValueError: the promise of that __init__. -/
namespace Sx
open PySem PySem.W PySem.Calls PyProof.Rows L2

/-- what the written part says of the class at C and of its __init__ at f -/
structure SupK (P : Program) (K : Frag) (mg : Str → Option Value) (C f : Addr) (fd : FuncData) (qual : Str) (st : Stmt) : Prop where
  ex : ∃ (oc : Value) (od : Option Addr) (kV doc pm ct : Value) (an : Option Addr) (cda cc : Addr) (osl : Array (Option Value)),
    fd = ksFn "__init__" qual (defArgs st) (defBody st) (defScope st) .none kV doc pm an (.ref cda) ct cc ∧ K.lookup f = some ⟨oc, od, .func fd, osl⟩ ∧ codeIn K (.ref cda) qual = true ∧
    (∃ (ccl : Value) (cdd : Option Addr) (vs : Array Value) (ccs : Array (Option Value)) (file : Str) (tf : Tok), K.lookup cda = some ⟨ccl, cdd, .fields vs, ccs⟩ ∧ vs[2]? = some (.str file tf) ∧ ((P.main.file : Str) == file) = true) ∧
    (∃ (cl : Value) (cld : Option Addr) (csl : Array (Option Value)), K.lookup cc = some ⟨cl, cld, .cell (some (.ref C)), csl⟩)
  top : (P.main.scope.names.lookup ("super" : Str)).isSome = false
  ns : mg "super" = none
  sub : mroIn K C (.ref C) = some true
  opq : nsIn K cStatics "thirdparty.any" = some none
  sup : ks_superIn K C C "__init__" = some (some (.builtin "ValueError.__init__"))
  isV : subIn K (.ref C) (.type "ValueError") = some true

/-- the scope of such an __init__ -/
structure SupScope (N P : List Str) (sc : Scope) : Prop where
  kind : sc.kind = .function
  co : sc.isCoroutine = false
  gen : sc.isGenerator = false
  nd : N.Nodup
  pre : N.take P.length = P
  par : ∀ x ∈ P, sc.names.lookup x = some .local
  nocell : ∀ y ∈ sc.names, y.2 ≠ .cell
  free : ∀ y ∈ sc.names, y.2 = .free → y.1 = "__class__"
  ks : sc.names.lookup ("super" : Str) = some .globalImplicit
  kc : sc.names.lookup ("__class__" : Str) = some .free

noncomputable def cxS (P : Program) (w : World) (K : Frag) (mg : Str → Option Value) (base : Heap) (N : List Str) (qual : Str) (scope : Scope) (f cda cc : Addr) (A : Around) (outer : List Env) (s : Shared) (H : Hp) : Cx where
  prog := P
  w := w
  K := K
  mg := mg
  base := base
  A := A.deeper (ksEnv qual scope s.heap.objs.size f (.ref cda) cc)
  N := N
  s_0 := s
  H_0 := H
  env := ksEnv qual scope s.heap.objs.size f (.ref cda) cc
  outer := outer
  stack := ksEnv qual scope s.heap.objs.size f (.ref cda) cc :: outer
  ex := []
  calm := true
  fn := fun _ => false
  pn := []
  xe := fun _ _ => False

theorem start_at {N : List Str} {vs : List V} {i : Nat} {v : V} (h : (L2.start N vs)[i]? = some (some v)) : vs[i]? = some v := by
  rcases Nat.lt_or_ge i vs.length with q | q
  · simpa [L2.start, List.getElem?_append, q] using h
  · simp [L2.start, List.getElem?_append, Nat.not_lt.mpr q, List.getElem?_replicate] at h
theorem inv_sup {P : Program} {w : World} {K : Frag} {mg : Str → Option Value} {base : Heap} {N ps : List Str} {qual : Str} {scope : Scope} {f cda cc C : Addr} {A : Around} {outer : List Env} {s : Shared} {H : Hp} {us : List Value} {vs : List V} {cl : Value} {cld : Option Addr} {csl : Array (Option Value)} {h1 : Heap} {t : Nat}
    (S : SupScope N ps scope) (hd : A.handled = none) (e0 : Env0 P w K mg base A outer s H) (hl : vs.length = ps.length) (r : Vals vs us) (hcc : K.lookup cc = some ⟨cl, cld, .cell (some (.ref C)), csl⟩)
    (hn : h1.Ns s.heap.objs.size (fun x => (ps.zip us).reverse.lookup x)) (hk : ∀ b o, s.heap.get? b = some o → h1.get? b = some o) :
    Inv (cxS P w K mg base N qual scope f cda cc A outer s H) [] (L2.start N vs) H { s with heap := h1, toks := t } := by
  have hpl : ps.length ≤ N.length := by have := congrArg List.length S.pre; rw [List.length_take] at this; omega
  have noA : ∀ b : Addr, b ∉ (cxS P w K mg base N qual scope f cda cc A outer s H).ex := fun b z => absurd (show b ∈ ([] : List Addr) from z) (by simp)
  have bcc : base.get? cc = some ⟨cl, cld, .cell (some (.ref C)), csl⟩ := e0.mod.kin _ _ hcc
  have one : ∀ {x : Str} {c : Addr}, ([(("__class__" : Str), cc)] : List (Str × Addr)).lookup x = some c → x = "__class__" ∧ c = cc := fun {x c} e => by
    by_cases hx : x = ("__class__" : Str)
    · subst hx
      simp [List.lookup] at e
      exact ⟨rfl, e.symm⟩
    · have hb : (x == ("__class__" : Str)) = false := beq_eq_false_iff_ne.mpr hx
      simp [List.lookup, hb] at e
  refine ⟨⟨e0.mod, S.kind, rfl, rfl, Nat.le_refl _, fun y z c h1 h2 => ?_, fun y hy => ?_, fun y c h _ => (Bool.noConfusion h), fun _ => hd, Around.frames_deeper e0.frames, .inr ⟨rfl, rfl⟩, fun b z => absurd z (noA b), e0.bs, e0.bsz, fun b _ _ => noA b, fun b z => absurd z (noA b), e0.funs, e0.frf⟩,
    rfl, e0.bare, Un.kept hk, ⟨_, hn, fun i y v h1 h2 h3 => ?_⟩, fun y c h => ⟨some (.ref C), ?_⟩, e0.hok.fresh (Nat.le_refl _), fun y c h => ?_, fun p hp => absurd (show p ∈ ([] : List (Addr × Obj)) from hp) (by simp), e0.hok.kept hk, ?_⟩
  · exact (one h1).1.trans (one h2).1.symm
  · have hy : scope.names.lookup y = some .cell ∨ scope.names.lookup y = some .free := hy
    rcases hy with hy | hy
    · exact absurd rfl (S.nocell _ (PySem.mem_of_lookup hy))
    · have := S.free _ (PySem.mem_of_lookup hy) rfl
      dsimp only at this
      subst this
      exact ⟨cc, rfl⟩
  · have ha := start_at h2
    have hi : i < vs.length := (List.getElem?_eq_some_iff.mp ha).1
    obtain ⟨u, hu, rv⟩ := r.get ha
    have hp : ps[i]? = some y := by
      rw [← S.pre, List.getElem?_take_of_lt (by omega)]; exact h1
    have ndP : ps.Nodup := by rw [← S.pre]; exact S.nd.sublist (List.take_sublist _ _)
    refine ⟨u, rv, .inl ⟨S.par y (List.mem_of_getElem? hp), ?_⟩⟩
    have hul : us.length = ps.length := by rw [← r.length]; exact hl
    show (ps.zip us).reverse.lookup y = some u
    have mem : (y, u) ∈ (ps.zip us).reverse := List.mem_reverse.mpr (List.mem_of_getElem? (i := i) (by rw [List.getElem?_zip_eq_some]; exact ⟨hp, hu⟩))
    have keys : ∀ v', (y, v') ∈ (ps.zip us).reverse → v' = u := fun v' hm => by
      rw [List.mem_reverse, List.mem_iff_getElem?] at hm
      obtain ⟨j, hj⟩ := hm
      rw [List.getElem?_zip_eq_some] at hj
      have hij : j = i := by
        have hjl : j < ps.length := (List.getElem?_eq_some_iff.mp hj.1).1
        have hil : i < ps.length := (List.getElem?_eq_some_iff.mp hp).1
        exact (List.getElem?_inj hjl ndP).mp (hj.1.trans hp.symm)
      rw [hij, hu] at hj
      exact (Option.some.inj hj.2).symm
    cases hlk : (ps.zip us).reverse.lookup y with
    | none =>
      exfalso
      have := List.lookup_eq_none_iff.mp hlk _ mem
      simp at this
    | some v' => rw [keys v' (PySem.mem_of_lookup hlk)]
  · obtain ⟨rfl, rfl⟩ := one h
    exact ⟨_, hk _ _ (e0.bs _ _ bcc).1, rfl⟩
  · obtain ⟨rfl, rfl⟩ := one h
    exact (e0.bs _ _ bcc).2
  · show (vs.map some ++ List.replicate (N.length - vs.length) none).length = N.length
    rw [List.length_append, List.length_map, List.length_replicate]; omega

/-- the method-wrapper called: the args are laid anew, nothing of it is told -/
theorem sup_call {X : Cx} {pins : List (Addr × Obj)} {σ : L2.St} {H : Hp} {s : Shared} {a u C : Addr} {us : List Value} {Q : Value → Shared → Prop} {A : Around} {E : Value → Shared → Prop} (T : OexC X.K C) (I : Inv X pins σ H s) (e : H a = some (exo a C none)) (hu : s.heap.get? u = some (kxs_mw "ValueError.__init__" a)) (hl : us.length ≤ sizeLine)
    (h : ∀ s', Inv X pins σ H s' → Q .none s') : wpAny (model X.prog X.w) A (call (.ref u) us) Q E s := by
  obtain ⟨nm, q, N, bs, bm, sn, sub, ab, col, dd, k0, k1, k2, k3, k5, hC, hbm⟩ := T.cls
  obtain ⟨t1, ho⟩ := exo_at I.hok e
  have hCh := I.kIn _ _ hC
  obtain ⟨hp, g, d, t, os⟩ := s
  have fin : ∀ h', (∀ b o, b ≠ a → hp.get? b = some o → h'.get? b = some o) → h'.get? a = some (excObj C hp.objs.size none .none) → h'.get? hp.objs.size = some (excTup us) → Q .none ⟨h', g, d, t, os⟩ := fun h' k hx _ => by
    have J := I.write (t' := t) (x := a) (e := a) (o := exo a C none) (by rw [e]; exact True.intro) (.inl rfl) k ⟨_, hx⟩ (exo_ok hx)
    have eu : upd H a (exo a C none) = H := by
      funext b
      by_cases hb : b = a
      · rw [hb, upd_same, e]
      · rw [upd_ne hb]
    rw [eu] at J
    exact h _ J
  refine wpAny_call (codeAny_of_tree ?_)
  show wpAny _ A.in1 (callAny (.ref u) ⟨us, []⟩) _ _ _
  simp only [callAny]
  refine wpAny_bind (wpAny_load hu ?_)
  simp only [kxs_mw, show (Value.type "method-wrapper" == Value.type "method" || Value.type "method-wrapper" == Value.type "builtin_function_or_method" || Value.type "method-wrapper" == Value.type "method-wrapper") = true by decide, if_true]
  refine KFB.if_so (by decide) ?_
  refine wpAny_bind (check_bound_init F.excBase_ValueError.toExcCallFacts hCh ho rfl ?_)
  refine wpAny_bind (wpAny_pure (wpAny_pure ?_))
  refine ⟨plainId_quiet F.excBase_ValueError.init.plain _, codeAny_builtin F.excBase_ValueError.initEntry ?_⟩
  exact exc_init_tree (cls := .ref C) (t0 := t1) (dv := none) (c2 := .none) (c3 := .none) (b4 := .bool false) ho hl fin

/-- super() in a body -/
theorem sup_base {P : Program} {w : World} {K : Frag} {mg : Str → Option Value} {base : Heap} {N : List Str} {qual : Str} {scope : Scope} {f cda cc C a : Addr} {A : Around} {outer : List Env} {s0 s : Shared} {H0 H : Hp} {pins : List (Addr × Obj)} {σ : L2.St} {fd : FuncData} {ar : Arg} {body : List Stmt} {p0 p1 : Pos} {attr : Str} {whole : Sem Value}
    {oc cl ccl : Value} {od cld cdd : Option Addr} {osl csl ccs : Array (Option Value)} {vs : Array Value} {file : Str} {tf : Tok} {Q : Value → Shared → Prop} {E : Value → Shared → Prop} {N0 ps : List Str}
    (S : SupScope N0 ps scope) (T : OexC K C) (I : Inv (cxS P w K mg base N qual scope f cda cc A outer s0 H0) pins σ H s) (e : H a = some (exo a C none)) (lkf : K.lookup f = some ⟨oc, od, .func fd, osl⟩) (hp : (fd.params.posonlyargs ++ fd.params.args).head? = some ar) (hlo : scope.names.lookup ar.arg = some .local)
    (hN : N[0]? = some ar.arg) (hσ : σ[0]? = some (some (.ref a)))
    (hcode : K.lookup cda = some ⟨ccl, cdd, .fields vs, ccs⟩) (hvs : vs[2]? = some (.str file tf)) (hfile : ((P.main.file : Str) == file) = true) (hcc : K.lookup cc = some ⟨cl, cld, .cell (some (.ref C)), csl⟩) (hsub : mroIn K C (.ref C) = some true) (hns : mg "super" = none)
    (htop : (P.main.scope.names.lookup ("super" : Str)).isSome = false) (hat : (attr == ("__class__" : Str)) = false)
    (h : ∀ so h', (∀ b o, s.heap.get? b = some o → h'.get? b = some o) → h'.get? so = some (ks_superObj C a C) → Q (.ref so) { s with heap := h' }) :
    PySem.wpAt (model P w) (A.deeper (ksEnv qual scope s0.heap.objs.size f (.ref cda) cc)) (.func body (ksEnv qual scope s0.heap.objs.size f (.ref cda) cc))
      (attributeBase (.Call (.Name "super" p0) [] [] p1) attr (ksEnv qual scope s0.heap.objs.size f (.ref cda) cc) whole) Q E s := by
  have KX : K.In s.heap := I.kIn
  obtain ⟨nm, q, NN, bs, bm, sn, sub, ab, col, dd, k0, k1, k2, k3, k5, hC, hbm⟩ := T.cls
  have hCh := KX _ _ hC
  obtain ⟨t1, ho⟩ := exo_at I.hok e
  obtain ⟨m, hm, hlook⟩ := I.loc
  obtain ⟨mb, b1, b2⟩ := I.ok.mod.blt
  have hv : m ar.arg = some (.ref a) := by
    obtain ⟨u, ru, lk⟩ := hlook 0 _ _ hN hσ (.inl hlo)
    obtain rfl : u = .ref a := ru
    rcases lk with ⟨_, z⟩ | ⟨z, _⟩
    · exact z
    · have z : scope.names.lookup ar.arg = some .cell ∨ scope.names.lookup ar.arg = some .free := z
      rw [hlo] at z
      rcases z with z | z <;> cases z
  have hglob : s.heap.Ns mainGlobals mg := I.ok.mod.glob.keeps I.bk
  have hblt : s.heap.Ns builtinsNs mb := b1.keeps I.bk
  obtain ⟨hh, g, d, t, os⟩ := s
  refine ks_wpAt_super_base (env := ksEnv qual scope s0.heap.objs.size f (.ref cda) cc) S.ks S.kc hat rfl (KX _ _ lkf) rfl hp rfl (KX _ _ hcode) rfl hvs hfile htop ?_
  refine ks_loadName_global S.kind S.ks (loadGlobal_builtin (env := ksEnv qual scope s0.heap.objs.size f (.ref cda) cc) hglob hns hblt ((b2 "super" (by decide)).trans (by first | rfl | kernel_rfl)) ⟨rfl, ?_⟩)
  refine wpAny_loadName_free S.kind S.kc rfl ⟨_, KX _ _ hcc, rfl⟩ ?_
  refine wpAny_loadName_local S.kind hlo hm hv ?_
  refine ks_wpAny_isType_cls hCh rfl ⟨rfl, ?_⟩
  refine ks_wpAny_call_super hCh rfl ho rfl (fun c e => by cases e) (looks_mroIn KX hsub) (fun h' e' k => ?_)
  exact h _ _ (fun b o x => k b o x) e'

/-- THE RULE for an __init__ that begins with super().__init__(e, ..) -/
theorem fn_sup {P : Program} {w : World} {K : Frag} {mg : Str → Option Value} {base : Heap} {k : Nat} {C f : Addr} {fd : FuncData} {qual : Str} {st : Stmt} {N ps : List Str} {sp : Sp} {e : Expr} {es : List Expr} {p0 p1 p2 p3 p4 : Pos} {rest : List Stmt} {ar : Arg}
    (T : OexC K C) (F : SupK P K mg C f fd qual st) (S : SupScope N ps (defScope st)) (len : ∀ vs H Q E, sp vs H Q E → vs.length = ps.length)
    (hbd : defBody st = .Expr (.Call (.Attribute (.Call (.Name "super" p0) [] [] p1) "__init__" p2) (e :: es) [] p3) p4 :: rest)
    (har : ((defArgs st).posonlyargs ++ (defArgs st).args).head? = some ar) (hlo : (defScope st).names.lookup ar.arg = some .local) (hN : N[0]? = some ar.arg)
    (he : ∀ env, starEach (e :: es) env = (false, eval e env) :: starEach es env) (hev : ∀ env, ∃ pl : Sem Bool, eval (.Call (.Attribute (.Call (.Name "super" p0) [] [] p1) "__init__" p2) (e :: es) [] p3) env = (do
      let ov ← attributeBase (.Call (.Name "super" p0) [] [] p1) "__init__" env (eval (.Call (.Name "super" p0) [] [] p1) env)
      standAt p2.atName
      let (f, first) ← holding [ov] (getMethod ov "__init__" pl)
      callWith p3 f first (backTo p3 (starEach (e :: es) env)) []))
    (hpl : ∀ env, (backTo p3 (starEach es env)).any (·.1) = false)
    (hbody : ∀ (cda cc : Addr) (A : Around) (outer : List Env) (s : Shared) (H : Hp) (vs : List V) (Q : VK) (E : XK), sp vs H Q E →
      ∃ ta t a ws, PA (cxS P w K mg base N qual (defScope st) f cda cc A outer s H) (e :: es) ta ∧ PSs (cxS P w K mg base N qual (defScope st) f cda cc A outer s H) rest t ∧ vs = .ref a :: ws ∧ H a = some (exo a C none) ∧
        ta (L2.start N vs) H fun us H1 => us.length ≤ 1000 ∧ H1 a = some (exo a C none) ∧ t { nx := fun _ H' => Q .non H', rt := Q } (L2.start N vs) H1) :
    FnOk P w K mg base CX0 (k + 1) f fd ps sp := by
  obtain ⟨oc, od, kV, doc, pm, ct, an, cda, cc, osl, rfl, lk, hcd, ⟨ccl, cdd, vsC, ccs, file, tf, lcode, hvs, hfile⟩, cl, cld, csl, lcell⟩ := F.ex
  refine ⟨len, fun A outer s H args us vs Q E hr e0 hb r hsp => ?_⟩
  have hl := len _ _ _ _ hsp
  have KX : K.In s.heap := e0.mod.kin.keeps fun b o e => (e0.bs b o e).1
  have lim : s.heap.NoLimit := e0.mod.nolimit.keeps fun b o e => (e0.bs b o e).1
  refine ks_codeAny_call_defAt (body := .Expr (.Call (.Attribute (.Call (.Name "super" p0) [] [] p1) "__init__" p2) (e :: es) [] p3) p4 :: rest) (binds := ps.zip us) hr.depth (KX _ _ lk) rfl lim (codeRec_of KX hcd) (by show FuncBody.stmts (defBody st) = _; rw [hbd]) hb S.nocell
    (fun y hy => S.par _ (List.of_mem_zip hy).1) (fun h₁ hns hk₁ => ?_) S.co S.gen S.kind
  have I := inv_sup (t := s.toks + (ps.zip us).length) (f := f) (cda := cda) (qual := qual) (w := w) S hr.hd e0 hl r lcell hns hk₁
  obtain ⟨ta, t, a, ws, hA, hS, rfl, ea, hta⟩ := hbody cda cc A outer s H vs Q E hsp
  have hσ : (L2.start N (.ref a :: ws))[0]? = some (some (.ref a)) := rfl
  obtain ⟨pl, hev⟩ := hev (ksEnv qual (defScope st) s.heap.objs.size f (.ref cda) cc)
  refine ks_wpAt_execs_cons (ks_wpAt_Expr_any (ks_wpAt_MethodCall ?_ hev) (hi := I.quiet))
  refine sup_base S T I ea lk har hlo hN hσ lcode hvs hfile lcell F.sub F.ns F.top (by decide) fun so h' k hso => ?_
  have I1 := I.kept (t' := s.toks + (ps.zip us).length) k
  have KX1 : K.In h' := I1.kIn
  obtain ⟨nm, q, NN, bs, bm, sn, sub, ab, col, dd, k0, k1, k2, k3, k5, hC, hbm⟩ := T.cls
  obtain ⟨t1, ho⟩ := exo_at I1.hok ea
  have hI : Looks (model P w) h' (isInstance (.ref a) (.type "ValueError")) true := (show InstAt h' a _ C none from ⟨ho, rfl, rfl, trivial⟩).type.andThen (looks_subIn KX1 F.isV)
  have hcl : clsIn K C = some { name := nm, bases := bs, mro := .ref C :: bm, ns := NN, qualname := q, hasDict := true, slotNames := sn, subclasses := sub, abstract := ab, collection := col, hasDel := false } := by unfold clsIn; rw [hC] <;> rfl
  have hsup := F.sup
  unfold ks_superIn at hsup
  rw [hcl, Option.bind_some] at hsup
  have hxC : a ≠ C := fun z => by
    have h1 := KX1 _ _ hC
    have h2 := ho
    rw [z] at h2
    rw [show h'.get? C = _ from h2] at h1
    cases h1
  refine kxs_getMethod kxs_ValueError hso (looks_opaque KX1 F.opq) (l₀ := .ref C :: bm) (fun A Q E s k q => wpAny_bind ((looks_clsIn KX1 hcl) A _ E s k (wpAny_pure q))) rfl KX1 hsup hI hxC (by decide) ?_
  have I2 := I1.kept (h' := h'.push (kxs_mw "ValueError.__init__" a)) (t' := s.toks + (ps.zip us).length + 1) fun b o e => Heap.get?_push_of_some _ e
  have hu : (h'.push (kxs_mw "ValueError.__init__" a)).get? h'.objs.size = some (kxs_mw "ValueError.__init__" a) := Heap.get?_push_at rfl rfl
  have hfr : H h'.objs.size = none := I1.hok.fresh (Nat.le_refl _)
  have I3 := I2.pins_of (pins' := [(h'.objs.size, kxs_mw "ValueError.__init__" a)]) fun p hp => by
    rcases List.mem_singleton.mp hp with rfl
    exact ⟨hu, hfr, fun z => absurd I1.lt (by rw [← show h'.objs.size = _ from z]; exact Nat.lt_irrefl _), I1.nofs (Nat.le_refl _), fun v z => by cases z⟩
  refine kxs_callWith (i := "ValueError.__init__") (x := a) ?_ ?_
  · rw [he]; exact (show (false || (backTo p3 (starEach es (ksEnv qual (defScope st) s.heap.objs.size f (.ref cda) cc))).any (·.1)) = false from by rw [Bool.false_or]; exact hpl _)
  rw [he]
  refine evalArgs_plain ?_
  have hAr := hA.run p3 _ _ _ _ _ I3 hta
  rw [he] at hAr
  refine wpAny_mono hAr (fun vs1 s1 h1 => ?_) (fun _ _ z => False.elim z)
  obtain ⟨xs, H1, J, rv, hle, ea1, hrest⟩ := h1
  have pu := J.pin (h'.objs.size, kxs_mw "ValueError.__init__" a) (List.mem_append_right _ (List.mem_singleton.mpr rfl))
  refine ⟨pu.1, ?_⟩
  refine sup_call (X := cxS P w K mg base N qual (defScope st) f cda cc A outer s H) T J ea1 pu.1 (show vs1.length ≤ sizeLine by rw [← show xs.length = vs1.length from Paired.length rv, sizeLine_eq]; omega) fun s2 J2 => ?_
  refine wpAt_of_any (wpAny_mono (hS.run _ _ _ _ _ J2 hrest) (fun fl s3 h3 => ?_) fun _ _ z => False.elim z)
  have fin : ∀ {σ' : L2.St} {H' : Hp} {v : V} {u : Value}, Inv (cxS P w K mg base N qual (defScope st) f cda cc A outer s H) [(h'.objs.size, kxs_mw "ValueError.__init__" a)] σ' H' s3 → RelV v u → Q v H' → CE outer P w H s Q u s3 :=
    fun {σ' H' v u} J rv q => ⟨v, H', J.os, J.bare, J.base, J.hok, rv, q⟩
  cases fl with
  | ret u =>
    obtain ⟨v, σ', H', J, rv, q⟩ := h3
    exact fin J rv q
  | next =>
    obtain ⟨σ', H', J, q⟩ := h3
    exact fin (v := V.non) (u := Value.none) J rfl q
  | brk =>
    obtain ⟨_, _, _, q⟩ := h3
    exact q.elim
  | cont =>
    obtain ⟨_, _, _, q⟩ := h3
    exact q.elim

/-! ### an own class E(Base) with def __init__(self, x): super().__init__(f"..") ; self.f = x -/
/-- what isinstance asks of the class -/
structure IsC (K : Frag) (C : Addr) : Prop where
  cl : (clsIn K C).isSome = true
  ga : findIn K (.ref C) "__getattribute__" = some (some (.builtin "BaseException.__getattribute__"))
  gg : findIn K (.ref C) "__getattr__" = some none
  bs : subIn K (.ref C) (.type "BaseException") = some true
  ca : findIn K (.ref C) "__class__" = some (some (.builtin "object.__class__"))
  sp : specialIn K (.builtin "object.__class__") "__get__" = some (some (.builtin "getset_descriptor.__get__"))
  tk : takesIn K (.builtin "object.__class__") = some true
  ob : mroIn K C (.type "object") = some true
structure ExcAt (P : Program) (K : Frag) (mg : Str → Option Value) (x q : Str) (st : Stmt) (ps : List Str) where
  C : Addr
  a : Addr
  d : FuncData
  g : mg x = some (.ref C)
  o : OexC K C
  s : SupK P K mg C a d q st
  i : findIn K (.ref C) "__init__" = some (some (.ref a))
  t : typeIn K (.ref a) = some (.type "function")
  b : Binds K d ps []
  xf : XfC K C
  is : IsC K C
  te : exmOne K (.ref C) (.ref C) = some true
/-- an own class without an __init__ -/
structure BareAt (K : Frag) (mg : Str → Option Value) (x : Str) where
  C : Addr
  g : mg x = some (.ref C)
  k : keepIn K (.ref C) = true
  x : excIn K C [.type "ValueError", .type "Exception", .type "BaseException", .type "object"] "ValueError.__new__" = true
  b : subIn K (.ref C) (.type "BaseException") = some true
  t : typeIn K (.ref C) = some (.type "type")
  te : exmOne K (.ref C) (.ref C) = some true
/-- such an __init__ with one text field -/
noncomputable def sp1 (C : Addr) (f : Str) : Sp := fun vs H Q _ => ∃ (a : Addr) (z : Str), vs = [.ref a, .str z] ∧ z.length ≤ 1000 ∧ H a = some (exo a C none) ∧ ∀ dx, H dx = none → dx ≠ a → Q .non (upd (upd H dx (exd dx [(f, .str z)])) a (exo a C (some dx)))
theorem mkO {C : Addr} {f z : Str} {H : Hp} {Q : XK} (hz : z.length ≤ 1000) (q : ∀ d, H d = none → Q (.ref C) (some d) (upd H d (.xd [(f, .str z)]))) {σ : L2.St} {ta : TA} (hta : ∀ R : List V → Hp → Prop, R [.str z] H → ta σ H R) : tMkO C (sp1 C f) [] ta σ H Q := by
  refine hta _ ⟨by show 1 ≤ 1000; decide, fun a ha => ⟨a, z, rfl, hz, upd_same, fun dx hd hne => ⟨rfl, dx, [(f, .str z)], upd_same, ?_, ?_, ?_⟩⟩⟩
  · rw [upd_ne hne, upd_same]
  · rw [upd_ne hne] at hd; exact hd
  · rw [upd_ne hne] at hd
    have e : upd (L2.del (upd (upd (upd H a (exo a C none)) dx (exd dx [(f, .str z)])) a (exo a C (some dx))) a) dx (.xd [(f, .str z)]) = upd H dx (.xd [(f, .str z)]) := by
      funext b
      by_cases hb : b = dx
      · rw [hb, upd_same, upd_same]
      · rw [upd_ne hb, upd_ne hb]
        by_cases hba : b = a
        · rw [hba, L2.del_same, ha]
        · rw [L2.del_ne hba, upd_ne hba, upd_ne hb, upd_ne hba]
    rw [e]
    exact q dx hd
/-- isinstance(e, c) of the caught exception, without a dict -/
noncomputable def rIsN (K : Frag) (D a : Addr) (cls : Value) (d : Option Addr) : List V → Hp → VK → Prop := fun xs H Q => ∃ (c : V) (cv : Value) (b : Bool), xs = [.ref a, c] ∧ cls = .ref D ∧ d = none ∧ (∀ u, RelV c u → u = cv) ∧ kitOne K (.ref D) cv = some b ∧ Q (.bl b) H
theorem call_isN {X : Cx} {a D : Addr} {oe : Obj} {cls : Value} {d : Option Addr} {pn : List (Addr × Obj)} (T : IsC X.K D) (hz : Zc cls d oe) (hf : ∃ vs, oe.data = .fields vs) : CallR (X.suite a ((a, oe) :: pn)) (.builtin "isinstance") (rIsN X.K D a cls d) := by
  intro pins s σ H xs us Q I r h
  obtain ⟨c, cv, b, rfl, rfl, rfl, hcv, e, q⟩ := h
  cases r with
  | cons rx rr =>
    cases rr with
    | cons rt rr =>
      cases rr
      cases rx
      obtain rfl := hcv _ rt
      have pe := (I.pin (a, oe) (List.mem_append_left _ List.mem_cons_self)).1
      obtain ⟨vs, hv⟩ := hf
      have J : InstAt s.heap a oe D none := ⟨pe, hz.1, by unfold notCls; rw [hv] <;> rfl, by rw [hz.2]; trivial⟩
      exact kia_one (kitx_exc T.cl T.ga T.gg T.bs T.ca T.sp T.tk T.ob) I.kIn J e (fun z => nomatch z) fun tk => ⟨.bl b, H, I.kept (t' := tk) fun _ _ z => z, rfl, q⟩

/-! ### calls whose wish about exceptions knows the caller's slots -/
section
variable {X : Cx} {CX : CXT} {k : Nat} {f C : Addr} {fd : FuncData} {ps : List Str} {sp : Sp} {E : L2.St → XK} {x m : Str} {p pos apos : Pos} {e o : Expr} {es : List Expr} {ta : TE} {t : TA}
noncomputable def tMakeS (C : Addr) (sp : Sp) (E : L2.St → XK) (t : TA) : TE := fun σ H Q => t σ H fun vs H1 => ∀ x dx, H1 x = none → H1 dx = none → dx ≠ x → sp (.ref x :: vs) (upd (upd H1 dx (.own x)) x (.ins C dx [])) (fun v H2 => v = .non ∧ Q (.ref x) H2) (E σ)
theorem makeS_run {pins : List (Addr × Obj)} {σ : L2.St} {H : Hp} {s : Shared} {Q : VK} {us : List Value} {vs : List V} (M : Mk X.K C f) (F : FnOk X.prog X.w X.K X.mg X.base CX k f fd ps sp) (hr : Room (k + 1) X.A) (hb : Binds X.K fd ps []) (hx : PassesAt CX X σ (E σ)) (I : Inv X pins σ H s) (r : Vals vs us)
    (h : ∀ x dx, H x = none → H dx = none → dx ≠ x → sp (.ref x :: vs) (upd (upd H dx (.own x)) x (.ins C dx [])) (fun v H2 => v = .non ∧ Q (.ref x) H2) (E σ)) : wpAny (model X.prog X.w) X.A (call (.ref C) us) (EP X pins σ Q) X.xe s := by
  generalize hn : s.heap.objs.size = n
  have q0 := h (n + 1) n (I.hok.fresh (by omega)) (I.hok.fresh (by omega)) (by show ¬ (n : Nat) = n + 1; omega)
  subst hn
  have J := Inv.made (C := C) I
  have rv : Vals (V.ref (s.heap.objs.size + 1) :: vs) (Value.ref (s.heap.objs.size + 1) :: us) := .cons (show RelV (V.ref (s.heap.objs.size + 1)) (Value.ref (s.heap.objs.size + 1)) from rfl) r
  have hl := (Paired.length rv).symm.trans (F.len _ _ _ _ q0)
  have bd := hb _ (Value.ref (s.heap.objs.size + 1) :: us) J.kIn (by rw [List.append_nil]; exact hl)
  rw [List.append_nil] at bd
  refine wpAny_call (make_map (f := f) I.kIn M.makes M.init (beq_iff_eq.mp M.fn) ?_)
  refine codeAny_mono (F.run _ X.stack _ _ _ _ _ _ (E σ) (hr.make C us []) (J.env0.make C us []) bd rv q0) fun res s' hq => ?_
  match res, hq with
  | .error e, hq => exact hx pins _ _ e s' J hq
  | .ok (.ret u), hq =>
    obtain ⟨v, H', I3, rv, ev, q3⟩ := J.after hq
    subst ev
    exact ⟨rv, V.ref (s.heap.objs.size + 1), H', I3, rfl, q3⟩
  | .ok .next, hq => exact hq.elim
  | .ok .brk, hq => exact hq.elim
  | .ok .cont, hq => exact hq.elim
theorem pe_makeS (M : Mk X.K C f) (F : FnOk X.prog X.w X.K X.mg X.base CX k f fd ps sp) (hr : Room (k + 1) X.A) (hg : Gl X x) (hm : X.mg x = some (.ref C)) (hb : Binds X.K fd ps []) (hx : ∀ σ, PassesAt CX X σ (E σ)) (ha : PA X (e :: es) t)
    (hdb : (x == ("__debug__" : Str)) = false := by decide) (he : starEach (e :: es) X.env = (false, eval e X.env) :: starEach es X.env := by rfl) (hpl : (backTo pos (starEach es X.env)).any (·.1) = false := by rfl) : PE X (.Call (.Name x p) (e :: es) [] pos) (tMakeS C sp E t) :=
  ⟨fun pins s σ H Q I h => wpAny_Call_Name_kw (ld_glob I hg hm (callWith_K (h₀ := X.base) I.ok.mod.kin M.kp (thn (ha.run pos pins s σ H _ I h) fun us s1 ⟨vs, H1, I1, r, q⟩ => ⟨I1.kIn, makeS_run M F hr hb (hx σ) I1 r q⟩) he hpl) hdb)⟩
noncomputable def tMethS (C : Addr) (m : Str) (sp : Sp) (E : L2.St → XK) (ta : TE) (t : TA) : TE := fun σ H Q => ta σ H fun x H1 => ∃ a dx fs, x = .ref a ∧ H1 a = some (.ins C dx fs) ∧ fs.lookup m = none ∧ t σ H1 fun vs H2 => sp (x :: vs) H2 Q (E σ)
theorem pe_methS {pl : Sem Bool} (he : PE X o ta) (c : Cls X.K C) (hm : Meth X.K C m f) (F : FnOk X.prog X.w X.K X.mg X.base CX k f fd ps sp) (hr : Room k X.A) (hb : Binds X.K fd ps []) (hx : ∀ σ, PassesAt CX X σ (E σ)) (ha : PA X (e :: es) t)
    (hst : starEach (e :: es) X.env = (false, eval e X.env) :: starEach es X.env := by rfl) (hpl : (backTo pos (starEach es X.env)).any (·.1) = false := by rfl)
    (ht : eval (.Call (.Attribute o m apos) (e :: es) [] pos) X.env = (eval o X.env >>= fun ov => standAt apos.atName >>= fun _ => holding [ov] (getMethod ov m pl) >>= fun z => callWith pos z.1 z.2 (backTo pos (starEach (e :: es) X.env)) (backToKw pos (keywordEach [] X.env))) := by rfl) :
    PE X (.Call (.Attribute o m apos) (e :: es) [] pos) (tMethS C m sp E ta t) := by
  refine ⟨fun pins s σ H Q I h => methodCall_KW (pl := pl) (thn (he.run pins s σ H _ I h) fun u s1 ⟨x, H1, I1, rx, a, dx, fs, ex, ea, l, q⟩ => ?_) ht⟩
  subst ex
  obtain rfl : u = Value.ref a := rx
  exact getmeth_ok I1 ea c hm l (callWith_K (first := [.ref a]) (h₀ := X.base) I.ok.mod.kin hm.kp (thn (ha.run pos pins s1 σ H1 _ I1 q) fun us s2 ⟨vs, H2, I2, r, q2⟩ => ⟨I2.kIn, run_fnS (us := .ref a :: us) (vs := .ref a :: vs) F hr hb (hx σ) I2 (.cons rfl r) q2⟩) hst hpl)
theorem pe_methS0 {pl : Sem Bool} (he : PE X o ta) (c : Cls X.K C) (hm : Meth X.K C m f) (F : FnOk X.prog X.w X.K X.mg X.base CX k f fd ps sp) (hr : Room k X.A) (hb : Binds X.K fd ps []) (hx : ∀ σ, PassesAt CX X σ (E σ))
    (ht : eval (.Call (.Attribute o m apos) [] [] pos) X.env = (eval o X.env >>= fun ov => standAt apos.atName >>= fun _ => holding [ov] (getMethod ov m pl) >>= fun z => callWith pos z.1 z.2 (backTo pos (starEach [] X.env)) (backToKw pos (keywordEach [] X.env))) := by rfl) :
    PE X (.Call (.Attribute o m apos) [] [] pos) (tMethS C m sp E ta tNil) := by
  refine ⟨fun pins s σ H Q I h => methodCall_KW (pl := pl) (thn (he.run pins s σ H _ I h) fun u s1 ⟨x, H1, I1, rx, a, dx, fs, ex, ea, l, q⟩ => ?_) ht⟩
  subst ex
  obtain rfl : u = Value.ref a := rx
  exact getmeth_ok I1 ea c hm l (PySem.W.callWith_K0 (first := [.ref a]) I1.kIn hm.kp (run_fnS (us := [.ref a]) (vs := [.ref a]) F hr hb (hx σ) I1 (.cons rfl .nil) q))
end
/-- an error with this name is raised, whatever was made before -/
noncomputable def Err (C : Addr) (H : Hp) (z : Str) (E : XK) : Prop := ∀ (H' : Hp) (d : Addr), Same H H' → H' d = none → E (.ref C) (some d) (upd H' d (.xd [("name", .str z)]))
theorem Err.mono {C : Addr} {H H1 : Hp} {z : Str} {E : XK} (h : Err C H z E) (s : Same H H1) : Err C H1 z E := fun H' d s2 hd => h H' d (s.trans s2) hd
theorem Err.now {C : Addr} {H : Hp} {z : Str} {E : XK} (h : Err C H z E) : ∀ d, H d = none → E (.ref C) (some d) (upd H d (.xd [("name", .str z)])) := fun d hd => h H d (Same.refl H) hd
/-- an error without a field is raised -/
noncomputable def ErrB (C : Addr) (H : Hp) (E : XK) : Prop := ∀ H', Same H H' → E (.ref C) none H'
theorem ErrB.mono {C : Addr} {H H1 : Hp} {E : XK} (h : ErrB C H E) (s : Same H H1) : ErrB C H1 E := fun H' s2 => h H' (s.trans s2)
/-- the first number out of its bounds -/
noncomputable def kindBad (w h d c : Int) : Option Str := if ¬ (1 ≤ w ∧ w ≤ 64) then some "width" else if ¬ (1 ≤ h ∧ h ≤ 64) then some "height" else if ¬ (1 ≤ d ∧ d ≤ 8) then some "depth" else if ¬ (c = 1 ∨ c = 3) then some "channels" else none
noncomputable def frameBad (w h d c t : Int) : Option Str := match kindBad w h d c with
  | some z => some z
  | none => if ¬ (1 ≤ t ∧ t ≤ 16) then some "tile" else if w * h * c > 3072 then some "size" else none
theorem kindBad_none {w h d c : Int} : kindBad w h d c = none ↔ (1 ≤ w ∧ w ≤ 64) ∧ (1 ≤ h ∧ h ≤ 64) ∧ (1 ≤ d ∧ d ≤ 8) ∧ (c = 1 ∨ c = 3) := by
  unfold kindBad
  by_cases h1 : 1 ≤ w ∧ w ≤ 64 <;> by_cases h2 : 1 ≤ h ∧ h ≤ 64 <;> by_cases h3 : 1 ≤ d ∧ d ≤ 8 <;> by_cases h4 : c = 1 ∨ c = 3 <;> simp [h1, h2, h3, h4]
theorem frameBad_none {w h d c t : Int} : frameBad w h d c t = none ↔ (1 ≤ w ∧ w ≤ 64) ∧ (1 ≤ h ∧ h ≤ 64) ∧ (1 ≤ d ∧ d ≤ 8) ∧ (c = 1 ∨ c = 3) ∧ (1 ≤ t ∧ t ≤ 16) ∧ w * h * c ≤ 3072 := by
  unfold frameBad
  cases e : kindBad w h d c with
  | some z =>
    constructor
    · intro h; cases h
    · rintro ⟨a, b, c', d', _⟩
      rw [kindBad_none.mpr ⟨a, b, c', d'⟩] at e; cases e
  | none =>
    obtain ⟨a, b, c', d'⟩ := kindBad_none.mp e
    by_cases h5 : 1 ≤ t ∧ t ≤ 16 <;> by_cases h6 : w * h * c > 3072 <;> simp [a, b, c', d', h5, h6] <;> omega
/-- the first part of a key, of a channel and a pixel, that is out of its bounds -/
noncomputable def keyBad (c n d : Nat) (ch ti pl : Int) : Option Str := if ¬ (0 ≤ ch ∧ ch ≤ (c : Int) - 1) then some "channel" else if ¬ (0 ≤ ti ∧ ti ≤ (n : Int) - 1) then some "tile" else if ¬ (0 ≤ pl ∧ pl ≤ (d : Int) - 1) then some "plane" else none
section
variable {K : Frag} {σ : L2.St} {H : Hp} {Q : VK} {D : Ends} {ta te : TE} {t : TA} {sp : Sp} {E : L2.St → XK} {C a : Addr} {m f : Str} {cls : Value} {d : Option Addr} {v : V}
noncomputable def CS (sp : Sp) (vs : List V) (H : Hp) (Q : VK) (E : XK) : Prop := sp vs H Q E
theorem callS (q : t σ H fun vs H1 => CS sp vs H1 Q (E σ)) : tCallS sp E t σ H Q := q
noncomputable def MkS (C : Addr) (sp : Sp) (vs : List V) (H : Hp) (Q : VK) (E : XK) : Prop := ∀ x dx, H x = none → H dx = none → dx ≠ x → CS sp (.ref x :: vs) (upd (upd H dx (.own x)) x (.ins C dx [])) (fun v H2 => v = .non ∧ Q (.ref x) H2) E
theorem makeS (q : t σ H fun vs H1 => MkS C sp vs H1 Q (E σ)) : tMakeS C sp E t σ H Q := q
noncomputable def MtS (C : Addr) (m : Str) (sp : Sp) (E : L2.St → XK) (t : TA) (σ : L2.St) (x : V) (H : Hp) (Q : VK) : Prop := ∃ a dx fs, x = .ref a ∧ H a = some (.ins C dx fs) ∧ fs.lookup m = none ∧ t σ H fun vs H2 => sp (x :: vs) H2 Q (E σ)
theorem methS (q : ta σ H fun x H1 => MtS C m sp E t σ x H1 Q) : tMethS C m sp E ta t σ H Q := q
theorem mts {dx : Addr} {fs : List (Str × V)} (h : H a = some (.ins C dx fs)) (n : fs.lookup m = none) (q : t σ H fun vs H2 => CS sp (.ref a :: vs) H2 Q (E σ)) : MtS C m sp E t σ (.ref a) H Q := ⟨a, dx, fs, rfl, h, n, q⟩
noncomputable def XfP (a : Addr) (cls : Value) (d : Option Addr) (C : Addr) (f : Str) (x : V) (H : Hp) (Q : VK) : Prop := x = .ref a ∧ cls = .ref C ∧ ∃ (dd : Addr) (fs : List (Str × V)) (v : V), d = some dd ∧ H dd = some (.xd fs) ∧ fs.lookup f = some v ∧ Q v H
theorem xf (q : te σ H fun x H1 => XfP a cls d C f x H1 Q) : tXf a cls d C f te σ H Q := q
theorem isNR {c : Addr} {b : Bool} (k : kitOne K (.ref C) (.ref c) = some b) (q : Q (.bl b) H) : rIsN K C a (.ref C) none [.ref a, .ref c] H Q := ⟨.ref c, .ref c, b, rfl, rfl, rfl, fun u e => e, k, q⟩
/-- the except clause takes it -/
theorem took {c : Value} {i : Nat} {ts : Addr → Value → Option Addr → TS} {Wout : WX} {H' : Hp} (h : exmOne K cls c = some true) (q : ∀ a, H' a = none → ts a cls d { nx := fun σ' H' => D.nx (σ'.set i none) H', rt := D.rt, bk := fun σ' H' => D.bk (σ'.set i none) H', ct := fun σ' H' => D.ct (σ'.set i none) H' } (σ.set i (some (.ref a))) H') : WE (wAs K c i ts Wout D) σ cls d H' :=
  ⟨true, h, fun _ => q, fun z => Bool.noConfusion z⟩
end
end Sx
local macro_rules | `(tactic| walk_at "go1") => `(tactic| (first
  | with_reducible refine Sx.callS ?_
  | with_reducible refine Sx.makeS ?_
  | with_reducible refine Sx.methS ?_
  | with_reducible refine Sx.xf ?_))

/-! The frame: a call sees a part R of what is tracked; the part S beside it stays as it is. -/
namespace Fx
open PySem L2
/-- what may stand beside: lists, dicts, sets, instances with their own dicts -/
noncomputable def Fit (S : Hp) (a : Addr) : HO → Prop
  | .lst _ => True
  | .dK _ => True
  | .dT _ => True
  | .set _ _ => True
  | .own y => ∃ C fs, S y = some (.ins C a fs)
  | .ins _ dx _ => S dx = some (.own a)
  | _ => False
structure Own (R H S : Hp) : Prop where
  eq : ∀ a, H a = match S a with | some o => some o | none => R a
  dj : ∀ a o, S a = some o → R a = none
  ft : ∀ a o, S a = some o → Fit S a o
section
variable {R H S R' : Hp} {a b : Addr} {o u : HO}
theorem Own.at (O : Own R H S) (h : S a = some o) : H a = some o := by rw [O.eq, h]
theorem Own.off (O : Own R H S) (h : S a = none) : H a = R a := by rw [O.eq, h]
theorem Own.nos (O : Own R H S) (h : R a = some o) : S a = none := by
  cases e : S a with
  | none => rfl
  | some u => rw [O.dj a u e] at h; cases h
theorem Own.same (O : Own R H S) : Same R H := fun a o h => by rw [O.off (O.nos h)]; exact h
theorem Own.non (O : Own R H S) (h : H a = none) : R a = none ∧ S a = none := by
  have := O.eq a
  cases e : S a with
  | none => rw [e] at this; exact ⟨this.symm.trans h, rfl⟩
  | some u => rw [e] at this; rw [this] at h; cases h
theorem Own.tup {xs : List V} (O : Own R H S) (h : H a = some (.tup xs)) : R a = some (.tup xs) := by
  cases e : S a with
  | none => rw [← O.off e]; exact h
  | some u =>
    rw [O.at e] at h
    cases h
    exact (O.ft a _ e).elim
theorem Own.frz {ob : Obj} {w : HO} (O : Own R H S) (h : H a = some (.frz ob w)) : R a = some (.frz ob w) := by
  cases e : S a with
  | none => rw [← O.off e]; exact h
  | some u =>
    rw [O.at e] at h
    cases h
    exact (O.ft a _ e).elim
theorem Own.tbl {ps} (O : Own R H S) (h : H a = some (.tbl ps)) : R a = some (.tbl ps) := by
  cases e : S a with
  | none => rw [← O.off e]; exact h
  | some u =>
    rw [O.at e] at h
    cases h
    exact (O.ft a _ e).elim
noncomputable def over (R S : Hp) : Hp := fun a => match S a with | some o => some o | none => R a
theorem over_own (dj : ∀ a o, S a = some o → R a = none) (ft : ∀ a o, S a = some o → Fit S a o) : Own R (over R S) S := ⟨fun _ => rfl, dj, ft⟩
end
section
variable {P : Program} {w : World} {R H S R' : Hp} {h h' : Heap}
theorem down (O : Own R H S) (x : HOk P w H h) : HOk P w R h := fun a o e => by
  refine (x a o (O.same a o e)).stay (fun _ _ _ q => q) (fun b q => ?_) (fun _ _ q => O.tup q)
  cases es : S b with
  | none => rw [← O.off es]; exact q
  | some u =>
    have q2 := (O.at es).symm.trans q
    cases q2
    obtain ⟨C, fs, z⟩ := O.ft b _ es
    rw [O.dj a _ z] at e; cases e
theorem there {a : Addr} {o : HO} (x : ObjOk P w H h a o) (f : Fit S a o) : ∃ ob, h.get? a = some ob := by
  cases o with
  | lst xs => obtain ⟨z, its, n, r, q⟩ := x; exact ⟨_, q⟩
  | dK kvs => obtain ⟨z, y, vs, r, ob, es, ep, q, c⟩ := x; exact ⟨_, q⟩
  | set _ _ => obtain ⟨ob, es, ep, t, q, c⟩ := x; exact ⟨_, q⟩
  | dT kvs => obtain ⟨z, y, xs, r, ob, es, ep, q, c⟩ := x; exact ⟨_, q⟩
  | own y => exact x
  | ins C dx fs => obtain ⟨d, z, ne, q, r⟩ := x; exact ⟨_, q⟩
  | tup _ => exact f.elim
  | xd _ => exact f.elim
  | rng _ _ => exact f.elim
  | frz _ _ => exact f.elim
  | tbl _ => exact f.elim
  | met _ _ => exact f.elim
  | ext _ => exact f.elim
theorem stays (O : Own R H S) (O' : Own R' (over R' S) S) (kp : ∀ b u, h.get? b = some u → R b = none → S b ≠ none → h'.get? b = some u) (tp : ∀ b xs, R b = some (.tup xs) → R' b = some (.tup xs)) {a : Addr} {o : HO} (e : S a = some o) (x : ObjOk P w H h a o) : ObjOk P w (over R' S) h' a o := by
  have ka : ∀ u, h.get? a = some u → h'.get? a = some u := fun u q => kp a u q (O.dj a o e) (by rw [e]; exact fun z => nomatch z)
  have fit := O.ft a o e
  cases o with
  | lst xs => obtain ⟨z, its, n, r, q⟩ := x; exact ⟨z, its, n, r, ka _ q⟩
  | dK kvs => obtain ⟨z, y, vs, r, ob, es, ep, q, c⟩ := x; exact ⟨z, y, vs, r, ob, es, ep, ka _ q, c⟩
  | set _ _ => obtain ⟨ob, es, ep, t, q, c⟩ := x; exact ⟨ob, es, ep, t, ka _ q, c⟩
  | dT kvs =>
    obtain ⟨z, y, xs, r, ob, es, ep, q, c⟩ := x
    exact ⟨z, y, xs, Paired.mapP r fun p q z => ⟨z.1, O'.same _ _ (tp _ _ (O.tup z.2.1)), z.2.2⟩, ob, es, ep, ka _ q, c⟩
  | own y => obtain ⟨ob, q⟩ := x; exact ⟨ob, ka _ q⟩
  | ins C dx fs =>
    obtain ⟨d, z, ne, q, mA, ⟨od, es, ep, e2, c⟩, r⟩ := x
    have f : S dx = some (.own a) := fit
    exact ⟨O'.at f, z, ne, ka _ q, mA, ⟨od, es, ep, kp dx od e2 (O.dj dx _ f) (by rw [f]; exact fun z => nomatch z), c⟩, r⟩
  | tup _ => exact fit.elim
  | xd _ => exact fit.elim
  | rng _ _ => exact fit.elim
  | frz _ _ => exact fit.elim
  | tbl _ => exact fit.elim
  | met _ _ => exact fit.elim
  | ext _ => exact fit.elim
theorem up (O' : Own R' (over R' S) S) (x : HOk P w R' h') (st : ∀ a o, S a = some o → ObjOk P w (over R' S) h' a o) : HOk P w (over R' S) h' := fun a o e => by
  cases es : S a with
  | some u => rw [O'.at es] at e; cases e; exact st a _ es
  | none =>
    rw [O'.off es] at e
    exact (x a o e).stay (fun _ _ _ q => q) (fun b q => O'.same _ _ q) (fun b xs q => O'.same _ _ q)
end
noncomputable def fr (sp : Sp) : Sp := fun vs H Q E => ∃ R S, Own R H S ∧ sp vs R (fun v R' => ∀ H', Own R' H' S → Q v H') (fun c d R' => ∀ H', Own R' H' S → E c d H')
section
variable {P : Program} {w : World} {K : PySem.W.Frag} {mg : Str → Option Value} {base : Heap} {k : Nat} {f : Addr} {fd : FuncData} {ps : List Str} {sp : Sp}
theorem env (O : Own R H S) {A : Around} {outer : List Env} {s : Shared} (e : Env0 P w K mg base A outer s H) : Env0 P w K mg base A outer s R :=
  ⟨e.frames, e.mod, fun b o q => ⟨(e.bs b o q).1, (O.non (e.bs b o q).2).1⟩, e.bsz, e.funs, fun b q => (O.non (e.frf b q)).1, down O e.hok, e.bare⟩
theorem nofs {O : Own R H S} {A : Around} {outer : List Env} {s : Shared} (e : Env0 P w K mg base A outer s H) {b : Addr} (h : S b ≠ none) : b ∉ frs outer := fun q => by
  have := (O.non (e.frf b q)).2
  exact h this
theorem ce {O : Own R H S} {A : Around} {outer : List Env} {s s' : Shared} {Q : VK} {u : Value} (e : Env0 P w K mg base A outer s H) (c : CE outer P w R s (fun v R' => ∀ H', Own R' H' S → Q v H') u s') : CE outer P w H s Q u s' := by
  obtain ⟨v, R', h1, h2, un, hok, rv, q⟩ := c
  have dj : ∀ a o, S a = some o → R' a = none := fun a o ea => by
    obtain ⟨ob, hob⟩ := there (e.hok a o (O.at ea)) (O.ft a o ea)
    exact un.free a ob hob (O.dj a o ea) (fun z => nomatch z)
  have O' := over_own dj O.ft
  refine ⟨v, over R' S, h1, h2, ⟨fun b o q n nf nx => un.keep b o q (O.non n).1 nf nx, fun b o q n nf nx => un.slot b o q (O.non n).1 nf nx, fun b o q n nx => ?_, un.there, fun b xs q => O'.same _ _ (un.tups b xs (O.tup q)), fun b o xs q => O'.same _ _ (un.frzs b o xs (O.frz q)), fun b ps q => ?_⟩, up O' hok fun a o ea => ?_, rv, q _ O'⟩
  · rw [O'.off (O.non n).2]; exact un.free b o q (O.non n).1 nx
  · obtain ⟨more, z⟩ := un.tbls b ps (O.tbl q)
    exact ⟨more, O'.same _ _ z⟩
  · exact stays O O' (fun b u q n nn => un.keep b u q n (nofs (O := O) e nn) (fun z => nomatch z)) un.tups ea (e.hok a o (O.at ea))
theorem frame0 (F : FnOk P w K mg base CX0 k f fd ps sp) : FnOk P w K mg base CX0 k f fd ps (fr sp) := by
  refine ⟨fun vs H Q E ⟨R, S, O, h⟩ => F.len _ _ _ _ h, fun A outer s H args us vs Q E hr e bt rv ⟨R, S, O, h⟩ => ?_⟩
  refine codeAny_mono (F.run A outer s R args us vs _ _ hr (env O e) bt rv h) fun r s' c => ?_
  match r, c with
  | .ok (.ret u), c => exact ce (O := O) e c
  | .ok .next, c => exact c
  | .ok .brk, c => exact c
  | .ok .cont, c => exact c
  | .error er, c => exact c
end
end Fx
/-! Steps with a part beside. -/
namespace Nx
open PySem L2 Fx
noncomputable def e0 : Hp := fun _ => none
noncomputable def one (b : Addr) (o : HO) : Hp := fun a => if a = b then some o else none
section
variable {K : PySem.W.Frag} {R H S R0 R1 R2 S1 S2 H1 H2 H3 : Hp} {a b p l : Addr} {o u : HO} {xs ys : List V} {σ : L2.St} {Q : VK} {E : XK} {sp : Sp} {vs dvs : List V} {v : V}
theorem one_at : one b o b = some o := if_pos rfl
theorem one_ne (h : a ≠ b) : one b o a = none := if_neg h
theorem one_some {x : HO} (h : one b o a = some x) : a = b ∧ x = o := by
  unfold one at h
  by_cases e : a = b
  · rw [if_pos e] at h; exact ⟨e, (Option.some.inj h).symm⟩
  · rw [if_neg e] at h; cases h
theorem own0 : Own H H e0 := ⟨fun _ => rfl, (fun a o e => nomatch e), fun a o e => nomatch e⟩
theorem own0_eq (O : Own R H e0) : H = R := funext fun a => by rw [O.eq]; rfl
theorem at1 (O : Own R H (one b o)) : H b = some o := O.at one_at
theorem no1 (O : Own R H (one b o)) : R b = none := O.dj b o one_at
theorem off1 (O : Own R H (one b o)) (h : a ≠ b) : H a = R a := O.off (one_ne h)
theorem mk1 (h : R b = none) (f : Fit (one b o) b o) (e : H b = some o) (k : ∀ a, a ≠ b → H a = R a) : Own R H (one b o) := ⟨fun a => by
    by_cases c : a = b
    · rw [c, one_at]; exact e
    · rw [one_ne c]; exact k a c, fun a x q => by obtain ⟨c, _⟩ := one_some q; rw [c]; exact h, fun a x q => by obtain ⟨c, d⟩ := one_some q; subst c; subst d; exact f⟩
theorem top1 (h : H p = none) : Own H (upd H p (.lst xs)) (one p (.lst xs)) := mk1 h trivial upd_same fun _ c => upd_ne c
/-- a new object is laid below -/
theorem new (O : Own R H S) (h : H p = none) : Own (upd R p o) (upd H p o) S := ⟨fun a => by
    by_cases c : a = p
    · rw [c, upd_same, (O.non h).2, upd_same]
    · rw [upd_ne c, O.eq, upd_ne c], (fun a x q => by
      by_cases c : a = p
      · rw [c, (O.non h).2] at q; cases q
      · rw [upd_ne c]; exact O.dj a x q), O.ft⟩
/-- two parts beside as one -/
theorem nest (O : Own R H S) (O2 : Own R2 R S2) : Own R2 H (over S2 S) := ⟨fun a => by
    unfold over
    cases e : S a with
    | some x => exact O.at e
    | none => rw [O.off e]; exact O2.eq a, fun a x q => by
      unfold over at q
      cases e : S a with
      | some y => exact (O2.non (O.dj a y e)).1
      | none => rw [e] at q; exact O2.dj a x q, fun a x q => by
      have up : ∀ b y, S2 b = some y → over S2 S b = some y := fun b y z => by
        unfold over; rw [O.nos (O2.at z)]; exact z
      have up2 : ∀ b y, S b = some y → over S2 S b = some y := fun b y z => by unfold over; rw [z]
      have key : Fit S a x ∨ Fit S2 a x := by
        unfold over at q
        cases e : S a with
        | some y => rw [e] at q; cases q; exact .inl (O.ft a _ e)
        | none => rw [e] at q; exact .inr (O2.ft a _ q)
      cases x with
      | ins C dx fs =>
        rcases key with z | z
        · exact up2 _ _ z
        · exact up _ _ z
      | own y =>
        rcases key with ⟨C, fs, z⟩ | ⟨C, fs, z⟩
        · exact ⟨C, fs, up2 _ _ z⟩
        · exact ⟨C, fs, up _ _ z⟩
      | _ => rcases key with z | z <;> exact z⟩
theorem split (O : Own R H S) (O2 : Own R2 R S2) {R2' H' : Hp} (N : Own R2' H' (over S2 S)) : Own R2' (over R2' S2) S2 ∧ Own (over R2' S2) H' S := by
  have dj2 : ∀ a o, S2 a = some o → R2' a = none := fun a o e => N.dj a o (by unfold over; rw [O.nos (O2.at e)]; exact e)
  refine ⟨over_own dj2 O2.ft, ⟨fun a => ?_, fun a x e => ?_, O.ft⟩⟩
  · rw [N.eq]
    unfold over
    cases S a <;> rfl
  · have e2 := N.dj a x (by unfold over; rw [e])
    have e3 := (O2.non (O.dj a x e)).2
    unfold over; rw [e3]; exact e2
theorem whole (q : Gx.CP sp vs dvs H Q E) : Gx.CP (fr sp) vs dvs H Q E := ⟨H, e0, own0, by
  have e1 : (fun v R' => ∀ H', Own R' H' e0 → Q v H') = Q := by
    funext v R'
    exact propext ⟨fun h => h R' own0, fun h H' O => by rw [own0_eq O]; exact h⟩
  have e2 : (fun c d R' => ∀ H', Own R' H' e0 → E c d H') = E := by
    funext c d R'
    exact propext ⟨fun h => h R' own0, fun h H' O => by rw [own0_eq O]; exact h⟩
  rw [e1, e2]; exact q⟩
theorem inF (O : Own R H S) (q : Gx.CP sp vs dvs R (fun v R' => ∀ H', Own R' H' S → Q v H') (fun c d R' => ∀ H', Own R' H' S → E c d H')) : Gx.CP (fr sp) vs dvs H Q E := ⟨R, S, O, q⟩
end
end Nx
namespace Nx
open PySem L2 Fx
section
variable {K : PySem.W.Frag} {R H S R0 R1 R2 S1 S2 H1 H2 H3 : Hp} {a b p l : Addr} {o u : HO} {xs ys : List V} {σ : L2.St} {Q : VK} {E : XK} {v : V}
theorem viaS (s : Same R H) (f : R a = some o) : H a = some o := s a o f
theorem viaL (s : Same R H) (f : SqL K R a xs) : SqL K H a xs := s.seq f
mutual
theorem dpKeep (s : Same R H) : ∀ (d : PyData) (v : V), Dp K R v d → Dp K H v d
  | .none, _, h => by cases h; exact .non
  | .bool b, _, h => by cases h; exact .bl b
  | .int i, _, h => by cases h; exact .int i
  | .str x, _, h => by cases h; exact .str x
  | .list ds, _, h => by
    cases h with
    | lst hs ha => exact .lst (s.seq hs) (dpsKeep s ds _ ha)
  | .tuple ds, _, h => by
    cases h with
    | tup hs ha => exact .tup (by
        rcases hs with (z | ⟨ob, z⟩) | z
        · exact .inl (.inl (s _ _ z))
        · exact .inl (.inr ⟨ob, s _ _ z⟩)
        · exact .inr z) (dpsKeep s ds _ ha)
  | .dict _, _, h => by cases h
theorem dpsKeep (s : Same R H) : ∀ (ds : List PyData) (vs : List V), DpAll K R vs ds → DpAll K H vs ds
  | [], _, h => by cases h; exact .nil
  | d :: ds, _, h => by
    cases h with
    | cons h1 h2 => exact .cons (dpKeep s d _ h1) (dpsKeep s ds _ h2)
end
theorem viaD {d : PyData} (s : Same R H) (h : Dp K R v d) : Dp K H v d := dpKeep s d v h
/-- new objects, what is made named -/
theorem lst0 (h : xs.length ≤ sizeLine) (q : ∀ p H', H p = none → Same H H' → H' p = some (.lst xs) → Q (.ref p) H') : Gx.LstP xs H Q := Gx.lstP h fun p hp => q p _ hp (Gx.same_new hp) upd_same
theorem tup0 (h : xs.length ≤ sizeLine) (q : ∀ p H', H p = none → Same H H' → H' p = some (.tup xs) → Q (.ref p) H') : Gx.TupP xs H Q := Gx.tupP h fun p hp => q p _ hp (Gx.same_new hp) upd_same
theorem made0 (q : ∀ l H', H l = none → Same H H' → H' l = some o → Q (.ref l) H') : ∀ l, H l = none → Q (.ref l) (upd H l o) := fun l hl => q l _ hl (Gx.same_new hl) upd_same
theorem Own.made (O : Own R H S) (q : ∀ l R' H', R l = none → Own R' H' S → Same R R' → R' l = some o → Q (.ref l) H') : ∀ l, H l = none → Q (.ref l) (upd H l o) := fun l hl => q l _ _ (O.non hl).1 (Nx.new O hl) (Gx.same_new (O.non hl).1) upd_same
variable {b0 : Addr}
theorem slL0 {lo hi : Option Int} (h : SqL K H a xs) (q : ∀ p H', H p = none → Same H H' → H' p = some (.lst (cutV xs lo hi)) → Q (.ref p) H') : rSlL K (.ref a) lo hi H Q := Gx.slL h (made0 q)
theorem cat0 {zs : List V} (h1 : H a = some (.lst xs)) (h2 : H b0 = some (.lst zs)) (hz : xs.length + zs.length ≤ sizeLine) (q : ∀ p H', H p = none → Same H H' → H' p = some (.lst (xs ++ zs)) → Q (.ref p) H') : rCat (.ref a) (.ref b0) H Q := Gx.cat h1 h2 hz (made0 q)
theorem repN0 {n : Nat} (h : H a = some (.lst [v])) (hn : n ≤ 100000) (q : ∀ p H', H p = none → Same H H' → H' p = some (.lst (List.replicate n v)) → Q (.ref p) H') : Gx.rRepN (.ref a) (.int (n : Int)) H Q := Gx.repN h hn (made0 q)
theorem listL0 (h : SqL K H a xs) (q : ∀ p H', H p = none → Same H H' → H' p = some (.lst xs) → Q (.ref p) H') : Gx.rList K [.ref a] H Q := Gx.listL h (made0 q)
noncomputable def Bm0P (K : PySem.W.Frag) (T : String) (r : V → List V → Hp → VK → Prop) (x : V) (H : Hp) (Q : VK) : Prop := tyV K T x H ∧ r x [] H Q
theorem bm0 {T : String} {r : V → List V → Hp → VK → Prop} {to : TE} (q : to σ H fun x H1 => Bm0P K T r x H1 Q) : tBM0 K T r to σ H Q := q
theorem nevB {x y : Bool} (q : Q (.bl (!decide (x = y))) H) : rNe (.bl x) (.bl y) H Q := Gx.nev (by rw [Gx.eqB]; exact q)
theorem Own.grow {H' : Hp} (O : Own R H S) (s : Same H H') : ∃ R', Own R' H' S ∧ Same R R' ∧ ∀ a o, H a = none → H' a = some o → R' a = some o := by
  refine ⟨fun a => match S a with | some _ => none | none => H' a, ⟨fun a => ?_, fun a x e => ?_, O.ft⟩, fun a x e => ?_, fun a x e q => ?_⟩
  · cases e : S a with
    | some x => exact s _ _ (O.at e)
    | none => rfl
  · show (match S a with | some _ => none | none => H' a) = none
    rw [e]
  · show (match S a with | some _ => none | none => H' a) = some x
    rw [O.nos e]; exact s _ _ (O.same _ _ e)
  · show (match S a with | some _ => none | none => H' a) = some x
    rw [(O.non e).2]; exact q
noncomputable def EnP (K : PySem.W.Frag) (vs : List V) (H : Hp) (T : It → Hp → Prop) : Prop := ∃ a xs, vs = [.ref a] ∧ SqL K H a xs ∧ T (Ite K a) H
theorem enumw {tr : TA} {T : It → Hp → Prop} (q : tr σ H fun vs H1 => EnP K vs H1 T) : iEnum K tr σ H T := q
theorem en {T : It → Hp → Prop} (h : SqL K H a xs) (q : T (Ite K a) H) : EnP K [.ref a] H T := ⟨a, xs, rfl, h, q⟩
/-- an instance with the four numbers of a kind -/
noncomputable def K4 (K : PySem.W.Frag) (H : Hp) (x : Addr) (w h d c : V) : Prop := ∃ (C dx : Addr) (fs : List (Str × V)), H x = some (.ins C dx fs) ∧ Cls K C ∧ (NoAttr K C "width" ∧ NoAttr K C "height" ∧ NoAttr K C "depth" ∧ NoAttr K C "channels") ∧ fs.lookup ("width" : Str) = some w ∧ fs.lookup ("height" : Str) = some h ∧ fs.lookup ("depth" : Str) = some d ∧ fs.lookup ("channels" : Str) = some c
theorem K4.keep {x : Addr} {w h d c : V} (k : K4 K R x w h d c) (s : Same R H) : K4 K H x w h d c := by
  obtain ⟨C, dx, fs, e, r⟩ := k
  exact ⟨C, dx, fs, s _ _ e, r⟩
/-- isinstance with an own class -/
structure IsO (K : PySem.W.Frag) (C : Addr) : Prop where
  ca : PySem.W.findIn K (.ref C) "__class__" = some (some (.builtin "object.__class__"))
  sp : PySem.W.specialIn K (.builtin "object.__class__") "__get__" = some (some (.builtin "getset_descriptor.__get__"))
  tk : PySem.W.takesIn K (.builtin "object.__class__") = some true
  ob : PySem.W.mroIn K C (.type "object") = some true
theorem isiO {C D dx : Addr} {fs : List (Str × V)} {k : Bool} (I : IsO K C) (cl : Cls K C) (h : H a = some (.ins C dx fs)) (e : PySem.W.kitOne K (.ref C) (.ref D) = some k) (q : Q (.bl k) H) : rIsi K [.ref a, .ref D] H Q := ⟨.ref a, .ref D, .ref C, .ref D, k, rfl, .own D, .base (.ins h cl I.ca I.sp I.tk I.ob), e, q⟩
theorem isiOs {C dx : Addr} {fs : List (Str × V)} (I : IsO K C) (cl : Cls K C) (h : H a = some (.ins C dx fs)) (q : Q (.bl true) H) : rIsi K [.ref a, .ref C] H Q := isiO I cl h (by unfold PySem.W.kitOne; rw [if_pos (by simp)]) q
end
end Nx
local macro_rules | `(tactic| walk_at "xsame1") => `(tactic| first
  | assumption
  | exact Fx.Own.same (by assumption))
local macro_rules | `(tactic| walk_at "xsame") => `(tactic| first
  | assumption
  | exact L2.Same.refl _
  | (refine' L2.Same.trans ?s1 ?s2; (case s2 => walk_at "xsame1"); (case s1 => walk_at "xsame")))
local macro_rules | `(tactic| walk_at "fact") => `(tactic| first
  | assumption
  | exact Nx.at1 (by assumption)
  | exact L2.upd_same
  | (refine' Nx.viaS ?s ?f; (case s => walk_at "xsame1"); (case f => walk_at "fact"))
  | (refine' L2.SqL.of ?f; (case f => walk_at "fact"))
  | (refine' Nx.viaL ?s ?f; (case s => walk_at "xsame1"); (case f => walk_at "fact"))
  | (refine' L2.SqT.of ?f; (case f => walk_at "fact"))
  | (refine' Nx.viaD ?s ?f; (case s => walk_at "xsame1"); (case f => walk_at "fact")))
local macro_rules | `(tactic| walk_at "run1") => `(tactic| first
  | walk_at "go1"
  | with_reducible refine Nx.bm0 ?_
  | ((with_reducible refine' Gx.ixL ?hf ?ha ?_); (case hf => walk_at "fact"); (case ha => rfl))
  | ((with_reducible refine' Gx.ixT ?hf ?ha ?_); (case hf => walk_at "fact"); (case ha => rfl))
  | with_reducible refine Nx.nevB ?_
  | with_reducible refine Nx.enumw ?_
  | ((with_reducible refine' Gx.ic ?hc ?_); (case hc => walk_at "side"))
  | ((with_reducible refine' Gx.gtup ?hf ?ha ?_); (case hf => walk_at "fact"); (case ha => rfl)))
local macro_rules | `(tactic| walk_at "run") => `(tactic| repeat walk_at "run1")
local macro_rules | `(tactic| walk_at "lit") => `(tactic| repeat (first
  | walk_at "run1"
  | with_reducible refine Gx.if_dno (by decide) ?_
  | with_reducible refine Gx.if_dy (by decide) ?_))

namespace Ch
open PySem L2
/-! a chain of two comparisons -/
noncomputable def ChP (r' : R2) (tc : TE) (y z : V) (σ : L2.St) (H : Hp) (Q : VK) : Prop := ∃ k, z = .bl k ∧ Gx.IfP k (tc σ H fun w H4 => r' y w H4 Q) (Q (.bl false) H)
theorem chain {r r' : R2} {ta tb tc : TE} {σ : L2.St} {H : Hp} {Q : VK} (q : ta σ H fun x H1 => tb σ H1 fun y H2 => r x y H2 fun z H3 => ChP r' tc y z σ H3 Q) : tChain r r' ta tb tc σ H Q := q
theorem chp {r' : R2} {tc : TE} {y z : V} {σ : L2.St} {H : Hp} {Q : VK} (k : Bool) (h : z = .bl k) (q : Gx.IfP k (tc σ H fun w H4 => r' y w H4 Q) (Q (.bl false) H)) : ChP r' tc y z σ H Q := ⟨k, h, q⟩
theorem nonA {P : Prop} (q : P) : V.non = V.non ∧ P := ⟨rfl, q⟩
section
variable {A1 A2 : Prop} {a : Addr} {H : Hp} {Q : VK}
theorem ifN_y {inst : Decidable (V.non = V.non)} (q : A1) : Gx.IfP (@decide (V.non = V.non) inst) A1 A2 := Gx.if_y (decide_eq_true rfl) q
theorem ifN_n {inst : Decidable (V.ref a = V.non)} (q : A2) : Gx.IfP (@decide (V.ref a = V.non) inst) A1 A2 := Gx.if_n (decide_eq_false (by simp)) q
theorem ifN_i {b : Int} {inst : Decidable (V.int b = V.non)} (q : A2) : Gx.IfP (@decide (V.int b = V.non) inst) A1 A2 := Gx.if_n (decide_eq_false (by simp)) q
theorem ifN_s {b : Str} {inst : Decidable (V.str b = V.non)} (q : A2) : Gx.IfP (@decide (V.str b = V.non) inst) A1 A2 := Gx.if_n (decide_eq_false (by simp)) q
theorem nfN_y {inst : Decidable (V.non = V.non)} (q : A2) : Gx.IfP (!@decide (V.non = V.non) inst) A1 A2 := Gx.if_n (by rw [decide_eq_true rfl]; rfl) q
theorem nfN_n {inst : Decidable (V.ref a = V.non)} (q : A1) : Gx.IfP (!@decide (V.ref a = V.non) inst) A1 A2 := Gx.if_y (by rw [decide_eq_false (by simp)]; rfl) q
theorem nfN_i {b : Int} {inst : Decidable (V.int b = V.non)} (q : A1) : Gx.IfP (!@decide (V.int b = V.non) inst) A1 A2 := Gx.if_y (by rw [decide_eq_false (by simp)]; rfl) q
theorem nfN_s {b : Str} {inst : Decidable (V.str b = V.non)} (q : A1) : Gx.IfP (!@decide (V.str b = V.non) inst) A1 A2 := Gx.if_y (by rw [decide_eq_false (by simp)]; rfl) q
end
end Ch
local macro_rules | `(tactic| walk_at "run1") => `(tactic| (first
  | with_reducible refine Ch.chain ?_
  | ((with_reducible refine' Ch.chp _ ?h ?_); (case h => rfl))
  | with_reducible refine Ch.nonA ?_
  | with_reducible refine Ch.ifN_y ?_
  | with_reducible refine Ch.ifN_n ?_
  | with_reducible refine Ch.ifN_i ?_
  | with_reducible refine Ch.ifN_s ?_
  | with_reducible refine Ch.nfN_y ?_
  | with_reducible refine Ch.nfN_n ?_
  | with_reducible refine Ch.nfN_i ?_
  | with_reducible refine Ch.nfN_s ?_))

namespace Bs
open PySem L2
/-- a bit string as a text of the signs 0 and 1 -/
noncomputable def cd (b : Bool) : Nat := if b then 49 else 48
noncomputable def S (bs : List Bool) : Str := ⟨(bs.map cd).toArray⟩
theorem cd_inj {a b : Bool} (h : cd a = cd b) : a = b := by cases a <;> cases b <;> first | rfl | (exact absurd h (by decide))
theorem len (bs : List Bool) : (S bs).length = bs.length := by simp [S, Str.length]
theorem cat (a b : List Bool) : S a ++ S b = S (a ++ b) := by
  show Str.mk ((a.map cd).toArray ++ (b.map cd).toArray) = Str.mk ((a ++ b).map cd).toArray
  rw [List.map_append]; simp
theorem inj {a b : List Bool} : S a = S b ↔ a = b := by
  constructor
  · intro h
    have h2 : a.map cd = b.map cd := congrArg (fun x : Str => x.cps.toList) h
    exact List.map_inj_right (f := cd) (fun _ _ => cd_inj) |>.mp h2
  · intro h; rw [h]
theorem lit0 : Str.ofString "0" = S [false] := by decide +kernel
theorem lit1 : Str.ofString "1" = S [true] := by decide +kernel
theorem lit_ : Str.ofString "" = S [] := by decide +kernel
theorem eq1 (b : Bool) : decide (S [b] = Str.ofString "1") = b := by
  rw [lit1]; cases b
  · exact decide_eq_false (fun h => absurd (inj.mp h) (by decide))
  · exact decide_eq_true rfl
theorem eq0 (b : Bool) : decide (S [b] = Str.ofString "0") = !b := by
  rw [lit0]; cases b
  · exact decide_eq_true rfl
  · exact decide_eq_false (fun h => absurd (inj.mp h) (by decide))
theorem at_ {bs : List Bool} {i : Nat} (h : i < bs.length) : atI (S bs).cps.toList (i : Int) = some (cd (bs.getD i false)) := by
  refine atI_nat ?_
  show (bs.map cd)[i]? = _
  rw [List.getElem?_map, List.getElem?_eq_getElem h]
  simp [List.getD_eq_getElem?_getD, List.getElem?_eq_getElem h]
theorem get_ {bs : List Bool} {i : Nat} (h : i < bs.length) : (S bs).cps[i]? = some (cd (bs.getD i false)) := by
  show ((bs.map cd).toArray)[i]? = _
  rw [List.getElem?_toArray, List.getElem?_map, List.getElem?_eq_getElem h]
  simp [List.getD_eq_getElem?_getD, List.getElem?_eq_getElem h]
section
variable {K : PySem.W.Frag} {H : Hp} {Q : VK}
theorem ix {bs : List Bool} {i : Int} (h0 : 0 ≤ i) (h1 : i < bs.length) (hz : bs.length ≤ 16777216) (q : Q (.str (S [bs.getD i.toNat false])) H) : rIx K (.str (S bs)) (.int i) H Q := by
  have e : i = (i.toNat : Int) := by omega
  rw [e]
  refine Gx.ixS (by rw [len, sizeLine_eq]; exact hz) (at_ (by omega)) ?_
  exact q
theorem lenB {bs : List Bool} (hz : bs.length ≤ 16777216) (q : Q (.int (bs.length : Nat)) H) : Gx.rLen K [.str (S bs)] H Q := by
  refine Gx.lenS (by rw [len, sizeLine_eq]; exact hz) ?_
  rw [len]; exact q
end
/-- a bit string, bit by bit -/
theorem walk {bs : List Bool} : Walk (Its (S bs)) bs.length (fun _ => True) (fun i H v H' => H' = H ∧ v = .str (S [bs.getD i false])) := by
  have e : (S bs).cps.size = bs.length := len bs
  refine ⟨fun i H hi _ => ?_, fun H _ => ?_, fun i H v H' hi _ y => ?_⟩
  · show i < (S bs).cps.size; omega
  · show (S bs).cps.size ≤ bs.length; omega
  · obtain ⟨h1, c, hc, rfl⟩ := y
    refine ⟨h1, ?_⟩
    have h := get_ hi
    rw [hc] at h
    rw [Option.some.inj h]; rfl
theorem cut_hi (bs : List Bool) (n : Nat) : cutS (S bs) none (some (n : Int)) = S (bs.take n) := by
  unfold cutS
  have e1 : HT.sIx (S bs).length 0 none = 0 := rfl
  have e2 : HT.sIx (S bs).length (S bs).length (some (n : Int)) = min n bs.length := by
    rw [len]; unfold HT.sIx
    first
      | omega
      | (simp only []; split <;> omega)
      | (split <;> omega)
  rw [e1, e2]
  show Str.mk (List.take (min n bs.length - 0) ((bs.map cd).drop 0)).toArray = Str.mk ((bs.take n).map cd).toArray
  rw [List.drop_zero, Nat.sub_zero, ← List.map_take]
  congr 3
  rw [← List.take_take, List.take_length]
theorem cut_lo (bs : List Bool) (n : Nat) : cutS (S bs) (some (n : Int)) none = S (bs.drop n) := by
  unfold cutS
  have e1 : HT.sIx (S bs).length 0 (some (n : Int)) = min n bs.length := by
    rw [len]; unfold HT.sIx
    first
      | omega
      | (simp only []; split <;> omega)
      | (split <;> omega)
  have e2 : HT.sIx (S bs).length (S bs).length none = bs.length := by rw [len]; rfl
  rw [e1, e2]
  show Str.mk (List.take (bs.length - min n bs.length) ((bs.map cd).drop (min n bs.length))).toArray = Str.mk ((bs.drop n).map cd).toArray
  rw [← List.map_drop, ← List.map_take]
  congr 3
  by_cases h : n ≤ bs.length
  · rw [Nat.min_eq_left h, List.take_of_length_le (by rw [List.length_drop]; omega)]
  · rw [Nat.min_eq_right (by omega), List.drop_eq_nil_of_le (Nat.le_refl _), List.drop_eq_nil_of_le (by omega), List.take_nil]
end Bs

namespace Fb
open PySem PySem.W PySem.Builtin PyProof.Rows PySem.Calls
/-! a number's binary digits by its format, as the model lays them -/
noncomputable def ds (n : Int) : List Nat := (Nat.toDigits 2 n.natAbs).map fun c => (if (98 : Nat) == 88 then c.toUpper else c).toNat
noncomputable def sg (n : Int) : List Nat := if decide (n < 0) = true then [45] else []
noncomputable def dd (n : Int) : List Nat := if (ds n).isEmpty then [] else List.replicate (Int.toNat 0 - (ds n).length) 48 ++ ds n
noncomputable def pad (n : Int) : Nat := ((-1 : Int) - (((sg n).length : Int) + (([] : List Nat).length : Int) + (([] : List Nat).length : Int)) - ((dd n).length : Int)).toNat
noncomputable def X (n : Int) : Str := ⟨(List.replicate (pad n) 32 ++ sg n ++ [] ++ List.replicate 0 32 ++ dd n ++ [] ++ List.replicate 0 32).toArray⟩
theorem fmt_eq (n : Int) (t u : Tok) : «int.__format__» ⟨[.int n t, .str (Str.ofString "b") u], []⟩ = retStr (X n) := by kernel_rfl
theorem ds_nat (n : Nat) : ds (n : Int) = (Nat.toDigits 2 n).map Char.toNat := by
  unfold ds; rw [Int.natAbs_natCast]; rfl
/-- the k lowest binary digits of r, the highest first -/
noncomputable def bin : Nat → Nat → List Bool
  | 0, _ => []
  | k + 1, r => bin k (r / 2) ++ [decide (r % 2 = 1)]
theorem bin_len : ∀ k r, (bin k r).length = k
  | 0, _ => rfl
  | k + 1, r => by unfold bin; rw [List.length_append, bin_len k]; rfl
theorem dig01 (r : Nat) : [(r % 2).digitChar].map Char.toNat = [decide (r % 2 = 1)].map Bs.cd := by
  have h : r % 2 = 0 ∨ r % 2 = 1 := by omega
  rcases h with h | h <;> rw [h] <;> decide
theorem ds_led : ∀ (k r : Nat), r < 2 ^ k → (Nat.toDigits 2 (2 ^ k + r)).map Char.toNat = (true :: bin k r).map Bs.cd
  | 0, r, h => by
    have e : r = 0 := by simpa using h
    subst e
    decide
  | k + 1, r, h => by
    have hp := Nat.two_pow_pos k
    have e2 : 2 ^ (k + 1) = 2 * 2 ^ k := by rw [Nat.pow_succ, Nat.mul_comm]
    rw [Nat.toDigits_of_base_le (by decide) (by omega), List.map_append]
    have e3 : (2 ^ (k + 1) + r) / 2 = 2 ^ k + r / 2 := by omega
    have e4 : (2 ^ (k + 1) + r) % 2 = r % 2 := by omega
    rw [e3, e4, ds_led k (r / 2) (by omega), dig01]
    show _ = (true :: (bin k (r / 2) ++ [decide (r % 2 = 1)])).map Bs.cd
    rw [← List.map_append]; rfl
theorem X_led {k r : Nat} (h : r < 2 ^ k) : X (((2 ^ k + r : Nat)) : Int) = Bs.S (true :: bin k r) := by
  have e : ds (((2 ^ k + r : Nat)) : Int) = (true :: bin k r).map Bs.cd := by rw [ds_nat, ds_led k r h]
  have e1 : sg (((2 ^ k + r : Nat)) : Int) = [] := by unfold sg; rw [decide_eq_false (by omega)]; rfl
  have e2 : dd (((2 ^ k + r : Nat)) : Int) = (true :: bin k r).map Bs.cd := by
    unfold dd; rw [e, show Int.toNat 0 = 0 from rfl, Nat.zero_sub]; rfl
  have e3 : pad (((2 ^ k + r : Nat)) : Int) = 0 := by unfold pad; rw [e1, e2]; simp only [List.length_nil]; omega
  unfold X
  rw [e1, e2, e3]
  simp [Bs.S]
theorem gives_b (n : Int) (t u : Tok) : Gives («int.__format__» ⟨[.int n t, .str (Str.ofString "b") u], []⟩) (.str (X n)) := by
  rw [fmt_eq]
  exact .of_eq rfl
section
variable {Y : L2.Cx}
/-- {x:b} -/
noncomputable def tFmtB (te : L2.TE) : L2.TE := fun σ H Q => te σ H fun x H1 => ∃ n : Int, x = .int n ∧ (X n).length ≤ sizeLine ∧ Q (.str (X n)) H1
theorem pe_fmtB {e : Expr} {te : L2.TE} {pos p1 p2 : Pos} {j : Nat} (he : L2.PE Y e te) : L2.PE Y (.FormattedValue e (-1) (some (.JoinedStr [.Constant (.str "b") j p1] p2)) pos) (tFmtB te) := by
  refine ⟨fun pins s σ H Q I h => wpAny_FormattedValue_spec (L2.thn (he.run pins s σ H _ I h) fun v s1 hv => ?_)⟩
  obtain ⟨x, H1, I1, r1, n, rfl, hz, q⟩ := hv
  obtain ⟨t, rfl⟩ := r1
  refine wpAny_JoinedStr_one (Calls.Constant_str ⟨_, _, rfl, ?_⟩)
  exact wpAny_formatField_spec (by decide) (fun s' => typeIs_int s' n t) F.slot_int_format F.entry_int_format F.args_int_format_2 (fun u => gives_b n t u) ⟨.str (X n), H1, ((I1.tok _).tok _).tok _, ⟨_, rfl⟩, q⟩ (by decide) hz
end
end Fb

namespace I2
open PySem PySem.NumText PySem.Calls PyProof.Rows L2
/-! a number read from binary digits -/
noncomputable def dv (b : Bool) : Nat := if b then 1 else 0
/-- the value of bits, the highest first -/
noncomputable def val (bs : List Bool) : Nat := bs.foldl (fun a b => a * 2 + dv b) 0
theorem cd_ne (b : Bool) : Bs.cd b ≠ 95 ∧ Bs.cd b ≠ 45 ∧ Bs.cd b ≠ 43 ∧ Bs.cd b ≠ 98 ∧ Bs.cd b ≠ 66 ∧ Bs.cd b ≠ 120 ∧ Bs.cd b ≠ 88 ∧ Bs.cd b ≠ 111 ∧ Bs.cd b ≠ 79 ∧ Bs.cd b ≠ 0 := by cases b <;> decide
theorem blank_cd (b : Bool) : NumText.blank (Bs.cd b) = false := by cases b <;> rfl
theorem turn2 (a : Array Nat) (k : Bool) (b : Bool) : NumText.step 2 (a, k) (Bs.cd b) = some (a.push (dv b), true) := by cases b <;> rfl
theorem turns2 : ∀ (bs : List Bool) (a : Array Nat), (bs.map Bs.cd).foldlM (NumText.step 2) (a, true) = some (bs.foldl (fun x b => x.push (dv b)) a, true)
  | [], _ => rfl
  | b :: bs, a => by
    rw [List.map_cons, List.foldlM_cons, turn2]
    exact turns2 bs (a.push (dv b))
theorem digs2 (b : Bool) (bs : List Bool) : NumText.digits? 2 ((b :: bs).map Bs.cd) = some ((b :: bs).foldl (fun x b => x.push (dv b)) #[]) := by
  unfold NumText.digits?
  rw [List.map_cons, List.foldlM_cons, turn2]
  show (List.foldlM (NumText.step 2) ((#[] : Array Nat).push (dv b), true) (bs.map Bs.cd)).bind _ = _
  rw [turns2]
  rfl
theorem worth : ∀ (bs : List Bool) (a : Array Nat), (bs.foldl (fun x b => x.push (dv b)) a).foldl (fun acc d => acc * 2 + d) 0 = bs.foldl (fun x b => x * 2 + dv b) (a.foldl (fun acc d => acc * 2 + d) 0)
  | [], _ => rfl
  | b :: bs, a => by
    rw [List.foldl_cons, worth bs (a.push (dv b)), List.foldl_cons]
    congr 1
    simp
theorem nodrop (bs : List Bool) : (bs.map Bs.cd).dropWhile NumText.blank = bs.map Bs.cd := by
  cases bs with
  | nil => rfl
  | cons b bs => rw [List.map_cons, List.dropWhile_cons, blank_cd]; rfl
theorem nosign (bs : List Bool) : NumText.sign (bs.map Bs.cd) = (false, bs.map Bs.cd) := by
  cases bs with
  | nil => rfl
  | cons b bs => cases b <;> rfl
theorem nopre (bs : List Bool) : NumText.prefix? (bs.map Bs.cd) = none := by
  match bs with
  | [] => rfl
  | [b] => cases b <;> rfl
  | b :: c :: r => cases b <;> cases c <;> rfl
theorem nobase (bs : List Bool) : NumText.based 2 (bs.map Bs.cd) = (2, false, bs.map Bs.cd) := by
  unfold NumText.based
  rw [nopre]; rfl
theorem read2 (b : Bool) (bs : List Bool) : (int_private% "readNumeral") 0 2 ((b :: bs).map Bs.cd) = (int_private% "Numeral.value") ((val (b :: bs) : Nat) : Int) := by
  rw [readNumeral_eq, nodrop, nosign]
  show judge 0 false (based 2 ((b :: bs).map Bs.cd)).1 (based 2 ((b :: bs).map Bs.cd)).2.1 (digits? (based 2 ((b :: bs).map Bs.cd)).1 (((based 2 ((b :: bs).map Bs.cd)).2.2.reverse.dropWhile blank).reverse)) = _
  rw [nobase]
  show judge 0 false 2 false (digits? 2 ((((b :: bs).map Bs.cd).reverse.dropWhile blank).reverse)) = _
  rw [← List.map_reverse, nodrop, List.map_reverse, List.reverse_reverse, digs2]
  show (int_private% "Numeral.value") ((((b :: bs).foldl (fun x b => x.push (dv b)) (#[] : Array Nat)).foldl (fun acc d => acc * 2 + d) 0 : Nat) : Int) = _
  rw [worth]; rfl
theorem seen2 (bs : List Bool) : numTextOf (Bs.S bs) = bs.map Bs.cd ∧ numSeenOf (Bs.S bs) = bs.map Bs.cd := by
  have e1 : numTextOf (Bs.S bs) = bs.map Bs.cd := by
    refine if_pos ?_
    rw [← Array.all_toList, List.all_eq_true]
    intro c hc
    obtain ⟨b, _, rfl⟩ := List.mem_map.mp (show c ∈ bs.map Bs.cd from hc)
    cases b <;> decide
  refine ⟨e1, ?_⟩
  show (numTextOf (Bs.S bs)).takeWhile _ = _
  rw [e1]
  exact NumText.takeWhile_all fun c hc => by
    obtain ⟨b, _, rfl⟩ := List.mem_map.mp hc
    exact bne_iff_ne.mpr (cd_ne b).2.2.2.2.2.2.2.2.2
structure Kept (p : Prop) : Prop where
  out : p
set_option maxHeartbeats 4000000 in
theorem gives2 {bs : List Bool} {b : Bool} {u t : Tok} (hl : (b :: bs).length ≤ 640) : Gives (Builtin.«int.__new__» ⟨[.type "int", .str (Bs.S (b :: bs)) u, .int 2 t], []⟩) (.int ((val (b :: bs) : Nat) : Int)) :=
  .of_wp fun M A E s Q hQ => by
    obtain ⟨hp, g, d, tk, os⟩ := s
    have f1 := F.conv_sub_int
    have f2 := F.madeHere_int
    have f6 : typeOf (.str (Bs.S (b :: bs)) u) = pure (.type "str") := rfl
    obtain ⟨e1, e2⟩ := seen2 (b :: bs)
    have hk := Kept.mk (And.intro (show (numSeenOf (Bs.S (b :: bs))).length ≤ 640 by rw [e2, List.length_map]; exact hl)
      (And.intro (show (int_private% "readNumeral") 0 2 (numSeenOf (Bs.S (b :: bs))) = (int_private% "Numeral.value") ((val (b :: bs) : Nat) : Int) by rw [e2]; exact read2 b bs) (show ((numSeenOf (Bs.S (b :: bs))).length == (numTextOf (Bs.S (b :: bs))).length) = true by rw [e1, e2]; exact beq_self_eq_true _)))
    clear e1 e2 hl
    repeat (any_goals (first | assumption | ((with_reducible show wpAny _ _ ((int_private% "intFromText") _ _ _) _ _ _); refine Hx.wp_textB hk.out.1 hk.out.2.1 hk.out.2.2 ?_) | wp_step))
    all_goals first | exact ⟨_, rfl, hQ⟩ | skip
theorem call2 {prog : Program} {w : World} {A : Around} {E : Value → Shared → Prop} {s : Shared} {Q : Value → Shared → Prop} {bs : List Bool} {b : Bool} {u t : Tok} (hl : (b :: bs).length ≤ 640)
    (hQ : Q (.int ((val (b :: bs) : Nat) : Int) s.toks) { s with toks := s.toks + 1 }) : wpAny (model prog w) A (call (.type "int") [.str (Bs.S (b :: bs)) u, .int 2 t]) Q E s :=
  callType_new F.called_int F.newNe_int (Hx.typeCall_int_2 _ _) (Hx.newCall_int_2 _ _) (fun obj => F.initArgs_range_2 obj _ _) F.entry_int_new (gives2 hl).meets (show (Made.int ((val (b :: bs) : Nat) : Int)).post _ s from ⟨rfl, hQ⟩)
/-- int(t, 2) -/
noncomputable def rInt2 : List V → Hp → VK → Prop := fun xs H Q => ∃ (b : Bool) (bs : List Bool), xs = [.str (Bs.S (b :: bs)), .int 2] ∧ (b :: bs).length ≤ 640 ∧ Q (.int ((val (b :: bs) : Nat) : Int)) H
theorem c_int2 {X : Cx} : CallR X (.type "int") rInt2 := by
  intro pins s σ H xs us Q I r h
  obtain ⟨b, bs, rfl, hl, q⟩ := h
  obtain ⟨u, w', rfl, r1, r2⟩ := vals2 r
  obtain ⟨t1, rfl⟩ := r1
  obtain ⟨t2, rfl⟩ := r2
  exact call2 hl ⟨.int ((val (b :: bs) : Nat) : Int), H, I.tok _, ⟨_, rfl⟩, q⟩
end I2

namespace Fb
open I2
theorem val_app (bs : List Bool) (b : Bool) : val (bs ++ [b]) = val bs * 2 + dv b := by unfold val; rw [List.foldl_append]; rfl
theorem dv_of (r : Nat) : dv (decide (r % 2 = 1)) = r % 2 := by
  have h : r % 2 = 0 ∨ r % 2 = 1 := by omega
  rcases h with h | h <;> rw [h] <;> rfl
theorem val_bin : ∀ k v, val (bin k v) = v % 2 ^ k
  | 0, v => by simp [bin, val, Nat.mod_one]
  | k + 1, v => by
    unfold bin
    rw [val_app, val_bin k (v / 2), dv_of, Nat.pow_succ, Nat.mul_comm (2 ^ k) 2, Nat.mod_mul]
    omega
theorem val_lt (bs : List Bool) : val bs < 2 ^ bs.length := by
  suffices h : ∀ (n : Nat) (bs : List Bool), bs.length = n → val bs < 2 ^ n from h _ bs rfl
  intro n
  induction n with
  | zero => intro bs h; rw [List.length_eq_zero_iff.mp h]; decide
  | succ n ih =>
    intro bs h
    rcases List.eq_nil_or_concat bs with e | ⟨cs, b, e⟩
    · rw [e] at h; cases h
    · rw [List.concat_eq_append] at e
      subst e
      rw [List.length_append, List.length_singleton] at h
      have := ih cs (by omega)
      rw [val_app, Nat.pow_succ]
      have hb : dv b ≤ 1 := by cases b <;> decide
      omega
theorem bin_val (bs : List Bool) : bin bs.length (val bs) = bs := by
  suffices h : ∀ (n : Nat) (bs : List Bool), bs.length = n → bin n (val bs) = bs from h _ bs rfl
  intro n
  induction n with
  | zero => intro bs h; rw [List.length_eq_zero_iff.mp h]; rfl
  | succ n ih =>
    intro bs h
    rcases List.eq_nil_or_concat bs with e | ⟨cs, b, e⟩
    · rw [e] at h; cases h
    · rw [List.concat_eq_append] at e
      subst e
      rw [List.length_append, List.length_singleton] at h
      unfold bin
      rw [val_app, show (val cs * 2 + dv b) / 2 = val cs by cases b <;> (unfold dv; simp) <;> omega, ih cs (by omega)]
      congr 2
      cases b <;> (unfold dv; simp) <;> omega
theorem bin_mod : ∀ k v, bin k (v % 2 ^ k) = bin k v
  | 0, _ => rfl
  | k + 1, v => by
    unfold bin
    have e1 : v % 2 ^ (k + 1) / 2 = v / 2 % 2 ^ k := by
      rw [Nat.pow_succ, Nat.mul_comm, Nat.mod_mul]; omega
    have e2 : v % 2 ^ (k + 1) % 2 = v % 2 := by
      rw [Nat.pow_succ, Nat.mul_comm, Nat.mod_mul]; omega
    rw [e1, e2, bin_mod k (v / 2)]
section
open PySem L2
variable {σ : L2.St} {H : Hp} {Q : VK} {te : TE}
noncomputable def FbP (x : V) (H : Hp) (Q : VK) : Prop := ∃ n : Int, x = .int n ∧ (X n).length ≤ sizeLine ∧ Q (.str (X n)) H
theorem fmt (q : te σ H fun x H1 => FbP x H1 Q) : tFmtB te σ H Q := q
theorem fbp {k r : Nat} {n : Int} (e : n = ((2 ^ k + r : Nat) : Int)) (h : r < 2 ^ k) (hk : k ≤ 100000) (q : Q (.str (Bs.S (true :: bin k r))) H) : FbP (.int n) H Q :=
  ⟨n, rfl, by rw [e, X_led h, Bs.len, List.length_cons, bin_len, sizeLine_eq]; omega, by rw [e, X_led h]; exact q⟩
theorem int2 {bs : List Bool} (h : bs ≠ []) (hl : bs.length ≤ 640) (q : Q (.int (val bs : Nat)) H) : rInt2 [.str (Bs.S bs), .int 2] H Q := by
  cases bs with
  | nil => exact absurd rfl h
  | cons b bs => exact ⟨b, bs, rfl, hl, q⟩
end
end Fb

namespace Pk
open PySem L2 I2 Fb
/-! bits and bytes -/
noncomputable def ckStep (a : Int × Int) (b : Int) : Int × Int := ((a.1 + b) % 256, (a.2 + (a.1 + b) % 256) % 256)
noncomputable def ck (xs : List Int) : Int × Int := xs.foldl ckStep (0, 0)
noncomputable def nb (n : Nat) : Nat := (n + 7) / 8
noncomputable def fill (bs : List Bool) : List Bool := bs ++ List.replicate (8 * nb bs.length - bs.length) false
/-- the i-th eight of some bits -/
noncomputable def ei (l : List Bool) (i : Nat) : List Bool := (l.drop (8 * i)).take 8
noncomputable def pk (bs : List Bool) : List Int := (List.range (nb bs.length)).map fun i => ((val (ei (fill bs) i) : Nat) : Int)
noncomputable def un (xs : List Nat) : List Bool := (xs.map (bin 8)).flatten
theorem un_len (xs : List Nat) : (un xs).length = 8 * xs.length := by
  unfold un
  induction xs with
  | nil => rfl
  | cons x xs ih => rw [List.map_cons, List.flatten_cons, List.length_append, ih, bin_len, List.length_cons]; omega
/-- the law's part: the i-th eight and seven zeros -/
noncomputable def part (bs : List Bool) (i : Nat) : List Bool := ei bs i ++ List.replicate 7 false
theorem cut_both (bs : List Bool) (n k : Nat) : cutS (Bs.S bs) (some (n : Int)) (some ((n + k : Nat) : Int)) = Bs.S ((bs.drop n).take k) := by
  unfold cutS
  rw [HT.sIx_nat, HT.sIx_nat, Bs.len]
  show Str.mk (List.take (min (n + k) bs.length - min n bs.length) ((bs.map Bs.cd).drop (min n bs.length))).toArray = Str.mk (((bs.drop n).take k).map Bs.cd).toArray
  rw [← List.map_drop, ← List.map_take]
  congr 3
  by_cases h : n ≤ bs.length
  · rw [Nat.min_eq_left h]
    by_cases h2 : n + k ≤ bs.length
    · rw [Nat.min_eq_left h2, Nat.add_sub_cancel_left]
    · rw [Nat.min_eq_right (by omega), List.take_of_length_le (by rw [List.length_drop]; omega), List.take_of_length_le (by rw [List.length_drop]; omega)]
  · rw [Nat.min_eq_right (a := n + k) (b := bs.length) (by omega), Nat.min_eq_right (a := n) (b := bs.length) (by omega), List.drop_eq_nil_of_le (Nat.le_refl _), List.drop_eq_nil_of_le (by omega), List.take_nil, List.take_nil]
theorem glue (e : Str) (he : e.cps = #[]) : ∀ (rows : List (List Bool)) (a : List Bool), (rows.map Bs.S).foldl (fun acc p => acc ++ e.cps ++ p.cps) (Bs.S a).cps = (Bs.S (a ++ rows.flatten)).cps
  | [], a => by rw [List.flatten_nil, List.append_nil]; rfl
  | r :: rows, a => by
    rw [List.map_cons, List.foldl_cons, he, Array.append_empty, List.flatten_cons, ← List.append_assoc]
    rw [← he]
    have := glue e he rows (a ++ r)
    rw [← this]
    congr 1
    have c := Bs.cat a r
    have := congrArg Str.cps c
    exact this
theorem joinE (rows : List (List Bool)) : Txt.join (Str.ofString "") (rows.map Bs.S) = Bs.S rows.flatten := by
  have he : (Str.ofString "").cps = #[] := rfl
  cases rows with
  | nil => rfl
  | cons r rows =>
    have := glue (Str.ofString "") he rows r
    show Str.mk (((r :: rows).map Bs.S).drop 1 |>.foldl (fun acc p => acc ++ (Str.ofString "").cps ++ p.cps) (Bs.S r).cps) = _
    rw [List.map_cons, List.drop_one, List.tail_cons, this, List.flatten_cons]
theorem sum_len : ∀ (rows : List (List Bool)), (∀ r ∈ rows, r.length ≤ 8) → ((rows.map Bs.S).map (·.length)).sum ≤ 8 * rows.length
  | [], _ => Nat.le_refl _
  | r :: rows, h => by
    have ih := sum_len rows fun x hx => h x (List.mem_cons_of_mem _ hx)
    have h1 := h r (List.mem_cons_self ..)
    rw [List.map_cons, List.map_cons, List.sum_cons, List.length_cons, Bs.len]
    omega
theorem joinN {rows : List (List Bool)} (h8 : ∀ r ∈ rows, r.length ≤ 8) (hl : rows.length ≤ 1000000) : ((rows.map Bs.S).map (·.length)).sum + (rows.map Bs.S).length * (Str.ofString "").length ≤ 16777216 := by
  have := sum_len rows h8
  have e0 : (Str.ofString "").length = 0 := rfl
  rw [e0, Nat.mul_zero]
  omega
end Pk

namespace Bx
open PySem L2
/-- a box of drawn digits: the list b holds the list p of ints and a place; all of H0 stands beside -/
structure Box (H0 H : Hp) (b p : Addr) (xs : List Int) : Prop where
  same : Same H0 H
  nb : H0 b = none
  np : H0 p = none
  bx : ∃ k : Nat, H b = some (.lst [.ref p, .int (k : Int)])
  dg : H p = some (.lst (xs.map V.int))
theorem Box.ne {H0 H : Hp} {b p : Addr} {xs : List Int} (B : Box H0 H b p xs) : p ≠ b := by
  obtain ⟨k, hk⟩ := B.bx
  intro e
  rw [← e, B.dg] at hk
  have h := Option.some.inj hk
  cases xs with
  | nil => cases h
  | cons x xs => cases h
/-- a new object beside -/
theorem Box.new {H0 H : Hp} {b p c : Addr} {xs : List Int} {o : HO} (B : Box H0 H b p xs) (hc : H c = none) : Box (upd H0 c o) (upd H c o) b p xs := by
  obtain ⟨k, hk⟩ := B.bx
  have h1 : b ≠ c := ne_of_none hk hc
  have h2 : p ≠ c := ne_of_none B.dg hc
  refine ⟨fun a u e => ?_, by rw [upd_ne h1]; exact B.nb, by rw [upd_ne h2]; exact B.np, ⟨k, by rw [upd_ne h1]; exact hk⟩, by rw [upd_ne h2]; exact B.dg⟩
  by_cases ha : a = c
  · subst ha; rw [upd_same] at e ⊢; exact e
  · rw [upd_ne ha] at e ⊢; exact B.same a u e
/-- what was made beside, in a heap that keeps all -/
theorem Box.keep {H0 H H' : Hp} {b p : Addr} {xs : List Int} (B : Box H0 H b p xs) (s : Same H H') : Box H0 H' b p xs := by
  obtain ⟨k, hk⟩ := B.bx
  exact ⟨B.same.trans s, B.nb, B.np, ⟨k, s _ _ hk⟩, s _ _ B.dg⟩
end Bx

namespace Rd
open PySem L2 I2 Fb Pk
/-! records and headers, as rows of 32 numbers -/
/-- some digits, filled up to 160 -/
noncomputable def full (bs : List Bool) : List Bool := bs ++ List.replicate (160 - bs.length) false
noncomputable def body (bs : List Bool) : List Nat := (List.range 20).map fun k => val (ei (full bs) k)
noncomputable def I (xs : List Nat) : List Int := xs.map fun v : Nat => (v : Int)
noncomputable def W (xs : List Nat) : List V := xs.map fun v : Nat => V.int (v : Int)
theorem WI (xs : List Nat) : (I xs).map V.int = W xs := by unfold I W; rw [List.map_map]; rfl
theorem W_app (xs ys : List Nat) : W (xs ++ ys) = W xs ++ W ys := List.map_append
theorem W_len (xs : List Nat) : (W xs).length = xs.length := List.length_map ..
theorem W_get {xs : List Nat} {k : Nat} (h : k < xs.length) : atI (W xs) (k : Int) = some (.int ((xs.getD k 0 : Nat) : Int)) := by
  refine atI_nat ?_
  unfold W
  rw [List.getElem?_map, List.getElem?_eq_getElem h, List.getD_eq_getElem?_getD, List.getElem?_eq_getElem h]; rfl
theorem W_last {xs : List Nat} (h : xs.length = 32) : atI (W xs) (-1) = some (.int ((xs.getD 31 0 : Nat) : Int)) := by
  have e : atI (W xs) (-1) = atI (W xs) ((31 : Nat) : Int) := by
    unfold atI
    rw [W_len, h]
    rfl
  rw [e]
  exact W_get (by omega)
theorem cut_mid {xs : List Nat} (h : xs.length = 32) : cutV (W xs) (some 6) (some (-1)) = W ((xs.drop 6).take 25) := by
  unfold cutV
  rw [W_len, h]
  have e1 : HT.sIx 32 0 (some 6) = 6 := rfl
  have e2 : HT.sIx 32 32 (some (-1)) = 31 := rfl
  rw [e1, e2]
  unfold W
  rw [List.map_take, List.map_drop]
/-- what a row of 32 bytes tells -/
noncomputable def dec (xs : List Nat) : Option (Nat × Nat × List Bool) :=
  if xs.getD 0 0 = 75 ∧ xs.getD 31 0 = 75 ∧ 1 ≤ xs.getD 5 0 ∧ xs.getD 5 0 ≤ 160 then
    some (xs.getD 1 0 * 256 + xs.getD 2 0, xs.getD 3 0 * 256 + xs.getD 4 0, (un ((xs.drop 6).take 20)).take (xs.getD 5 0)) else none
theorem un_app (xs ys : List Nat) : un (xs ++ ys) = un xs ++ un ys := by unfold un; rw [List.map_append, List.flatten_append]
theorem more {xs : List Nat} {c : Nat} (hl : xs.length = 32) (h : c ≤ 160) : (un ((xs.drop 6).take 25)).take c = (un ((xs.drop 6).take 20)).take c := by
  have e : (xs.drop 6).take 25 = (xs.drop 6).take 20 ++ ((xs.drop 6).drop 20).take 5 := by
    rw [← List.take_add]
  rw [e, un_app, List.take_append_of_le_length]
  rw [un_len, List.length_take, List.length_drop]
  omega
/-- an answer: none, or a tuple of two numbers and a text -/
noncomputable def Told (d : Option (Nat × Nat × List Bool)) (v : V) (H : Hp) : Prop :=
  match d with
  | none => v = .non
  | some (a, b, bs) => ∃ t, v = .ref t ∧ H t = some (.tup [.int (a : Int), .int (b : Int), .str (Bs.S bs)])
theorem Told.keep {d : Option (Nat × Nat × List Bool)} {v : V} {H H' : Hp} (t : Told d v H) (s : Same H H') : Told d v H' := by
  cases d with
  | none => exact t
  | some r => obtain ⟨t, e, h⟩ := t; exact ⟨t, e, s _ _ h⟩
end Rd
namespace Bx
open PySem L2
theorem Box.put {H0 H : Hp} {b p c : Addr} {xs : List Int} {o : HO} (B : Box H0 H b p xs) (w : c ≠ b ∧ c ≠ p ∧ H0 c = none) : Box H0 (upd H c o) b p xs := by
  obtain ⟨k, hk⟩ := B.bx
  exact ⟨Gx.same_up w.2.2 B.same, B.nb, B.np, ⟨k, by rw [upd_ne w.1.symm]; exact hk⟩, by rw [upd_ne w.2.1.symm]; exact B.dg⟩
end Bx

namespace Nx
open PySem L2 Fx
section
variable {K : PySem.W.Frag} {R H S R0 R1 R2 S1 S2 H1 H2 H3 : Hp} {a b p l : Addr} {o u : HO} {xs ys : List V} {σ : L2.St} {Q : VK} {E : XK} {v : V}
/-- a box of drawn digits -/
structure Bo (R H : Hp) (b p : Addr) (xs : List Int) : Prop where
  bx : ∃ k : Nat, Own R H (one b (.lst [.ref p, .int (k : Int)]))
  dg : R p = some (.lst (xs.map V.int))
variable {ns : List Int}
theorem Bo.same (B : Bo R H b p ns) : Same R H := let ⟨_, O⟩ := B.bx; O.same
theorem Bo.new (B : Bo R H b p ns) (h : H a = none) : R a = none ∧ Bo (upd R a o) (upd H a o) b p ns := by
  obtain ⟨⟨k, O⟩, d⟩ := B
  exact ⟨(O.non h).1, ⟨k, Nx.new O h⟩, (Gx.same_new (O.non h).1) _ _ d⟩
theorem lstB (h : xs.length ≤ sizeLine) (B : Bo R H b p ns) (q : ∀ l R' H', R l = none → Bo R' H' b p ns → Same R R' → R' l = some (.lst xs) → Q (.ref l) H') : Gx.LstP xs H Q := Gx.lstP h fun l hp => q l _ _ (B.new hp (o := .lst xs)).1 (B.new hp).2 (Gx.same_new (B.new hp (o := .lst xs)).1) upd_same
/-- any rule that makes one new object -/
theorem Bo.made (B : Bo R H b p ns) (q : ∀ l R' H', R l = none → Bo R' H' b p ns → Same R R' → R' l = some o → Q (.ref l) H') : ∀ l, H l = none → Q (.ref l) (upd H l o) := fun l hl => q l _ _ (B.new hl (o := o)).1 (B.new hl).2 (Gx.same_new (B.new hl (o := o)).1) upd_same
variable {b0 : Addr}
theorem slLB {lo hi : Option Int} (h : SqL K H a xs) (B : Bo R H b p ns) (q : ∀ l R' H', R l = none → Bo R' H' b p ns → Same R R' → R' l = some (.lst (cutV xs lo hi)) → Q (.ref l) H') : rSlL K (.ref a) lo hi H Q := Gx.slL h (B.made q)
theorem catB {zs : List V} (h1 : H a = some (.lst xs)) (h2 : H b0 = some (.lst zs)) (hz : xs.length + zs.length ≤ sizeLine) (B : Bo R H b p ns) (q : ∀ l R' H', R l = none → Bo R' H' b p ns → Same R R' → R' l = some (.lst (xs ++ zs)) → Q (.ref l) H') : rCat (.ref a) (.ref b0) H Q := Gx.cat h1 h2 hz (B.made q)
theorem repNB {n : Nat} (h : H a = some (.lst [v])) (hn : n ≤ 100000) (B : Bo R H b p ns) (q : ∀ l R' H', R l = none → Bo R' H' b p ns → Same R R' → R' l = some (.lst (List.replicate n v)) → Q (.ref l) H') : Gx.rRepN (.ref a) (.int (n : Int)) H Q := Gx.repN h hn (B.made q)
theorem Bo.start (hb : H b = none) (hp : H p = some (.lst (ns.map V.int))) : Bo H (upd H b (.lst [.ref p, .int 0])) b p ns := ⟨⟨0, top1 hb⟩, hp⟩
theorem Bo.old (B : Bo R H b p ns) : Bx.Box (fun a => if a = p then none else R a) H b p ns := by
  obtain ⟨⟨k, O⟩, d⟩ := B
  exact ⟨fun a x e => by
    by_cases c : a = p
    · rw [if_pos c] at e; cases e
    · rw [if_neg c] at e; exact O.same a x e, by
    by_cases c : b = p
    · rw [if_pos c]
    · rw [if_neg c]; exact no1 O, if_pos rfl, ⟨k, at1 O⟩, O.same _ _ d⟩
theorem Bo.again (B : Bo R H b p ns) {G H' : Hp} (B' : Bx.Box G H' b p ns) (kp : ∀ c, c ≠ b → H' c = H c) : Bo R H' b p ns := by
  obtain ⟨⟨k, O⟩, d⟩ := B
  obtain ⟨j, hj⟩ := B'.bx
  exact ⟨⟨j, mk1 (no1 O) trivial hj fun c hc => (kp c hc).trans (off1 O hc)⟩, d⟩
/-- behind a call that leaves all that stands: a part R' that holds what is new -/
theorem Bo.grow (B : Bo R H b p ns) (s : Same H H1) : ∃ R', Bo R' H1 b p ns ∧ Same R R' ∧ ∀ a o, H a = none → H1 a = some o → R' a = some o := by
  obtain ⟨⟨k, O⟩, d⟩ := B
  have hs : Same R (fun a => if a = b then none else H1 a) := fun a x e => by
    by_cases c : a = b
    · rw [c, no1 O] at e; cases e
    · show (if a = b then none else H1 a) = some x
      rw [if_neg c]; exact s _ _ (O.same _ _ e)
  refine ⟨fun a => if a = b then none else H1 a, ⟨⟨k, mk1 (if_pos rfl) trivial (s _ _ (at1 O)) fun c hc => (if_neg hc).symm⟩, hs _ _ d⟩, hs, fun a x e q => ?_⟩
  have c : a ≠ b := fun c => by rw [c, at1 O] at e; cases e
  show (if a = b then none else H1 a) = some x
  rw [if_neg c]; exact q
theorem Bo.step (B : Bo R H b p ns) : ∃ S, Own R H S ∧ ∀ R' H', Own R' H' S → Same R R' → Bo R' H' b p ns := by
  obtain ⟨⟨k, O⟩, d⟩ := B
  exact ⟨_, O, fun R' H' O' s => ⟨⟨k, O'⟩, s _ _ d⟩⟩
end
end Nx
local macro_rules | `(tactic| walk_at "xsame1") => `(tactic| exact Nx.Bo.same (by assumption))
local macro_rules | `(tactic| walk_at "fact") => `(tactic| exact Nx.Bo.dg (by assumption))

namespace Hd
open PySem L2 Rd
/-- a header's row; what a row says as a header -/
noncomputable def hdN (g w h d c t : Nat) : List Nat := [72, g, w, h, d, c, t] ++ List.replicate 24 0 ++ [72]
theorem hd_len {g w h d c t : Nat} : (hdN g w h d c t).length = 32 := rfl
noncomputable def frm (xs : List Nat) (k : Nat) : Option Str := Sx.frameBad (xs.getD k 0 : Nat) (xs.getD (k + 1) 0 : Nat) (xs.getD (k + 2) 0 : Nat) (xs.getD (k + 3) 0 : Nat) (xs.getD (k + 4) 0 : Nat)
noncomputable def dec (xs : List Nat) : Option (Nat × Nat × Nat × Nat × Nat × Nat) :=
  if xs.getD 0 0 = 72 ∧ xs.getD 31 0 = 72 ∧ frm xs 2 = none then some (xs.getD 1 0, xs.getD 2 0, xs.getD 3 0, xs.getD 4 0, xs.getD 5 0, xs.getD 6 0) else none
theorem cut_five {xs : List Nat} (h : xs.length = 32) : cutV (W xs) (some 2) (some 7) = [.int (xs.getD 2 0 : Nat), .int (xs.getD 3 0 : Nat), .int (xs.getD 4 0 : Nat), .int (xs.getD 5 0 : Nat), .int (xs.getD 6 0 : Nat)] := by
  match xs, h with
  | x0 :: x1 :: x2 :: x3 :: x4 :: x5 :: x6 :: r, h =>
    unfold cutV
    rw [W_len, h]
    rfl
theorem dec_hd {g w h d c t : Nat} (ok : Sx.frameBad w h d c t = none) : dec (hdN g w h d c t) = some (g, w, h, d, c, t) := by
  unfold dec
  rw [if_pos ⟨rfl, rfl, ok⟩]
  rfl
theorem dec_bad {xs : List Nat} (h : xs.getD 0 0 ≠ 72 ∨ xs.getD 31 0 ≠ 72) : dec xs = none := by
  unfold dec
  rw [if_neg]
  rintro ⟨h1, h2, _⟩
  rcases h with z | z
  · exact z h1
  · exact z h2
theorem pick {K : PySem.W.Frag} {H : Hp} {p : Addr} {zs : List Nat} {r : Nat} {Q : VK} (h : SqL K H p (W zs)) (hr : r < zs.length) (q : ∀ z : Nat, z ∈ zs → Q (.int (z : Int)) H) : rIx K (.ref p) (.int (r : Int)) H Q :=
  Gx.ixL h (W_get hr) (q _ (by rw [List.getD_eq_getElem?_getD, List.getElem?_eq_getElem hr]; exact List.getElem_mem hr))
end Hd

namespace Mv
open PySem L2
/-! what stands (R) and what changes (ps, an object for each address) -/
structure Hv (R H : Hp) (ps : List (Addr × HO)) : Prop where
  off : ∀ a, (∀ q ∈ ps, q.1 ≠ a) → H a = R a
  on : ∀ q ∈ ps, H q.1 = some q.2 ∧ R q.1 = none
  nd : (ps.map (·.1)).Nodup
section
variable {R H H' : Hp} {ps l1 l2 : List (Addr × HO)} {a : Addr} {o o' : HO}
theorem Hv.at (h : Hv R H ps) (m : (a, o) ∈ ps) : H a = some o := (h.on _ m).1
theorem Hv.no (h : Hv R H ps) (m : (a, o) ∈ ps) : R a = none := (h.on _ m).2
theorem Hv.same (h : Hv R H ps) : Same R H := fun a o e => by
  rw [h.off a fun q hq z => ?_]; exact e
  have := (h.on q hq).2
  rw [z, e] at this; cases this
theorem Hv.free (h : Hv R H ps) (e : H a = none) : R a = none ∧ ∀ q ∈ ps, q.1 ≠ a := by
  have n : ∀ q ∈ ps, q.1 ≠ a := fun q hq z => by
    have := (h.on q hq).1
    rw [z, e] at this; cases this
  exact ⟨(h.off a n).symm.trans e, n⟩
theorem Hv.nil : Hv H H [] := ⟨fun _ _ => rfl, (fun q m => nomatch m), List.nodup_nil⟩
theorem Hv.put (h : Hv R H (l1 ++ (a, o) :: l2)) : Hv R (upd H a o') (l1 ++ (a, o') :: l2) := by
  have nd := h.nd
  have ek : (l1 ++ (a, o') :: l2).map (·.1) = (l1 ++ (a, o) :: l2).map (·.1) := by simp
  rw [List.map_append, List.map_cons, List.nodup_append] at nd
  obtain ⟨n1, n2, n3⟩ := nd
  rw [List.nodup_cons] at n2
  refine ⟨fun c hc => ?_, fun q hq => ?_, by rw [ek]; exact h.nd⟩
  · have ca : a ≠ c := hc (a, o') (by simp)
    rw [upd_ne ca.symm]
    refine h.off c fun q hq => ?_
    rcases List.mem_append.mp hq with e | e
    · exact hc q (List.mem_append_left _ e)
    · rcases List.mem_cons.mp e with e | e
      · subst e; exact ca
      · exact hc q (List.mem_append_right _ (List.mem_cons_of_mem _ e))
  · rcases List.mem_append.mp hq with e | e
    · have ne : q.1 ≠ a := n3 _ (List.mem_map_of_mem e) _ (List.mem_cons_self ..)
      rw [upd_ne ne]
      exact h.on q (List.mem_append_left _ e)
    · rcases List.mem_cons.mp e with e | e
      · subst e; exact ⟨upd_same, (h.on (a, o) (by simp)).2⟩
      · have ne : q.1 ≠ a := fun z => n2.1 (by rw [← z]; exact List.mem_map.mpr ⟨q, e, rfl⟩)
        rw [upd_ne ne]
        exact h.on q (List.mem_append_right _ (List.mem_cons_of_mem _ e))
theorem Hv.perm (h : Hv R H l1) (p : l1.Perm l2) : Hv R H l2 := ⟨fun a n => h.off a fun q hq => n q (p.mem_iff.mp hq), fun q hq => h.on q (p.mem_iff.mpr hq), (p.map _).nodup_iff.mp h.nd⟩
/-- behind a call that leaves all that stands -/
theorem Hv.grow (h : Hv R H ps) (s : Same H H') : ∃ R', Hv R' H' ps ∧ Same R R' ∧ ∀ a o, H a = none → H' a = some o → R' a = some o := by
  refine ⟨fun a => if a ∈ ps.map (·.1) then none else H' a, ⟨fun a n => ?_, fun q hq => ⟨s _ _ (h.on q hq).1, if_pos (List.mem_map_of_mem hq)⟩, h.nd⟩, fun a o e => ?_, fun a o e f => ?_⟩
  · rw [if_neg]
    intro m
    obtain ⟨q, hq, e⟩ := List.mem_map.mp m
    exact n q hq e
  · show (if a ∈ ps.map (·.1) then none else H' a) = some o
    rw [if_neg]
    · exact s _ _ (h.same _ _ e)
    · intro m
      obtain ⟨q, hq, z⟩ := List.mem_map.mp m
      have := (h.on q hq).2
      rw [z, e] at this; cases this
  · show (if a ∈ ps.map (·.1) then none else H' a) = some o
    rw [if_neg]
    · exact f
    · intro m
      obtain ⟨q, hq, z⟩ := List.mem_map.mp m
      exact (h.free e).2 q hq z
/-- a new one that is to change -/
theorem Hv.more (h : Hv R H ps) (e : H a = none) (s : Same H H') (f : H' a = some o) : ∃ R', Hv R' H' ((a, o) :: ps) ∧ Same R R' := by
  obtain ⟨ra, na⟩ := h.free e
  obtain ⟨R', h1, h2, h3⟩ := h.grow s
  have s' : Same R (fun c => if c = a then none else R' c) := fun c u z => by
    show (if c = a then none else R' c) = some u
    rw [if_neg (fun y => by rw [y, ra] at z; cases z)]; exact h2 _ _ z
  refine ⟨fun c => if c = a then none else R' c, ⟨fun c n => ?_, fun q hq => ?_, ?_⟩, s'⟩
  · have ca : a ≠ c := n (a, o) (List.mem_cons_self ..)
    rw [if_neg ca.symm]
    exact h1.off c fun q hq => n q (List.mem_cons_of_mem _ hq)
  · rcases List.mem_cons.mp hq with z | z
    · subst z; exact ⟨f, if_pos rfl⟩
    · exact ⟨(h1.on q z).1, by rw [if_neg (na q z)]; exact (h1.on q z).2⟩
  · rw [List.map_cons, List.nodup_cons]
    refine ⟨fun m => ?_, h.nd⟩
    obtain ⟨q, hq, z⟩ := List.mem_map.mp m
    exact na q hq z
/-- what does not change any more -/
theorem Hv.less (h : Hv R H ((a, o) :: ps)) : ∃ R', Hv R' H ps ∧ Same R R' ∧ R' a = some o := by
  have nd := h.nd
  rw [List.map_cons, List.nodup_cons] at nd
  refine ⟨upd R a o, ⟨fun c n => ?_, fun q hq => ⟨(h.on q (List.mem_cons_of_mem _ hq)).1, ?_⟩, nd.2⟩, Gx.same_new (h.on (a, o) (List.mem_cons_self ..)).2, upd_same⟩
  · by_cases ca : c = a
    · subst ca; rw [upd_same]; exact (h.on (c, o) (List.mem_cons_self ..)).1
    · rw [upd_ne ca]
      refine h.off c fun q hq => ?_
      rcases List.mem_cons.mp hq with z | z
      · subst z; exact fun z => ca z.symm
      · exact n q z
  · rw [upd_ne (fun z => nd.1 (by rw [← z]; exact List.mem_map.mpr ⟨q, hq, rfl⟩))]
    exact (h.on q (List.mem_cons_of_mem _ hq)).2
theorem Hv.sw {x y : Addr × HO} (h : Hv R H (x :: y :: ps)) : Hv R H (y :: x :: ps) := h.perm (List.Perm.swap ..)
end
section
variable {R H : Hp} {a b c d e f : Addr} {o p q r s t u : HO} {ps : List (Addr × HO)}
theorem Hv.p0 (h : Hv R H ((a, o) :: ps)) : Hv R (upd H a u) ((a, u) :: ps) := Hv.put (l1 := []) h
theorem Hv.p1 {x1 : Addr × HO} (h : Hv R H (x1 :: (a, o) :: ps)) : Hv R (upd H a u) (x1 :: (a, u) :: ps) := Hv.put (l1 := [x1]) h
theorem Hv.p2 {x1 x2 : Addr × HO} (h : Hv R H (x1 :: x2 :: (a, o) :: ps)) : Hv R (upd H a u) (x1 :: x2 :: (a, u) :: ps) := Hv.put (l1 := [x1, x2]) h
theorem Hv.p3 {x1 x2 x3 : Addr × HO} (h : Hv R H (x1 :: x2 :: x3 :: (a, o) :: ps)) : Hv R (upd H a u) (x1 :: x2 :: x3 :: (a, u) :: ps) := Hv.put (l1 := [x1, x2, x3]) h
theorem Hv.p4 {x1 x2 x3 x4 : Addr × HO} (h : Hv R H (x1 :: x2 :: x3 :: x4 :: (a, o) :: ps)) : Hv R (upd H a u) (x1 :: x2 :: x3 :: x4 :: (a, u) :: ps) := Hv.put (l1 := [x1, x2, x3, x4]) h
theorem Hv.p5 {x1 x2 x3 x4 x5 : Addr × HO} (h : Hv R H (x1 :: x2 :: x3 :: x4 :: x5 :: (a, o) :: ps)) : Hv R (upd H a u) (x1 :: x2 :: x3 :: x4 :: x5 :: (a, u) :: ps) := Hv.put (l1 := [x1, x2, x3, x4, x5]) h
theorem Hv.g0 (h : Hv R H ((a, o) :: ps)) : H a = some o := h.at (List.mem_cons_self ..)
theorem Hv.g1 {x1 : Addr × HO} (h : Hv R H (x1 :: (a, o) :: ps)) : H a = some o := h.at (by simp)
theorem Hv.g2 {x1 x2 : Addr × HO} (h : Hv R H (x1 :: x2 :: (a, o) :: ps)) : H a = some o := h.at (by simp)
theorem Hv.g3 {x1 x2 x3 : Addr × HO} (h : Hv R H (x1 :: x2 :: x3 :: (a, o) :: ps)) : H a = some o := h.at (by simp)
theorem Hv.g5 {x1 x2 x3 x4 x5 : Addr × HO} (h : Hv R H (x1 :: x2 :: x3 :: x4 :: x5 :: (a, o) :: ps)) : H a = some o := h.at (by simp)
end
theorem isiLst {K : PySem.W.Frag} {H : Hp} {Q : VK} {a : Addr} {xs : List V} (h : H a = some (.lst xs)) (q : Q (.bl true) H) : rIsi K [.ref a, .ty "list"] H Q := Gx.isi (.base (.lst h)) q (kit_ty (by decide +kernel))
/-- o.f += n -/
noncomputable def AFP (K : PySem.W.Frag) (tv : TE) (rd : V → V → Hp → VK → Prop) (f : Str) (x : V) (D : Ends) (σ : L2.St) (H1 : Hp) : Prop := ∃ a C dx fs v, x = .ref a ∧ H1 a = some (.ins C dx fs) ∧ Cls K C ∧ NoAttr K C f ∧ fs.lookup f = some v ∧
  tv σ H1 fun y H2 => rd v y H2 fun z H3 => ∃ dx' fs', H3 a = some (.ins C dx' fs') ∧ fs'.length < 1000 ∧ D.nx σ (upd H3 a (.ins C dx' (putF f z fs')))
theorem fldaug {K : PySem.W.Frag} {ta tv : TE} {rd : V → V → Hp → VK → Prop} {f : Str} {D : Ends} {σ : L2.St} {H : Hp} (q : ta σ H fun x H1 => AFP K tv rd f x D σ H1) : sFldAug K ta tv rd f D σ H := q
theorem afpA {K : PySem.W.Frag} {f : Str} {D : Ends} {σ : L2.St} {H : Hp} {a C dx : Addr} {fs gs : List (Str × V)} {i j : Int} (h : H a = some (.ins C dx fs)) (c : Cls K C) (n : NoAttr K C f) (lk : fs.lookup f = some (.int i)) (l : fs.length < 1000) (e : putF f (.int (i + j)) fs = gs) (q : D.nx σ (upd H a (.ins C dx gs))) : AFP K (tC (.int j)) rAdd f (.ref a) D σ H := ⟨a, C, dx, fs, .int i, rfl, h, c, n, lk, i, j, rfl, rfl, dx, fs, h, l, by rw [e]; exact q⟩
theorem afpS {K : PySem.W.Frag} {f : Str} {D : Ends} {σ : L2.St} {H : Hp} {a C dx : Addr} {fs gs : List (Str × V)} {i j : Int} (h : H a = some (.ins C dx fs)) (c : Cls K C) (n : NoAttr K C f) (lk : fs.lookup f = some (.int i)) (l : fs.length < 1000) (e : putF f (.int (i - j)) fs = gs) (q : D.nx σ (upd H a (.ins C dx gs))) : AFP K (tC (.int j)) rSub f (.ref a) D σ H := ⟨a, C, dx, fs, .int i, rfl, h, c, n, lk, i, j, rfl, rfl, dx, fs, h, l, by rw [e]; exact q⟩
theorem Hv.rot4 {R H : Hp} {a b c d : Addr × HO} {l : List (Addr × HO)} (h : Hv R H (a :: b :: c :: d :: l)) : Hv R H (d :: b :: c :: a :: l) := by
  refine h.perm ?_
  refine (List.Perm.swap b a _).trans ?_
  refine (List.Perm.cons b (List.Perm.swap c a _)).trans ?_
  refine (List.Perm.cons b (List.Perm.cons c (List.Perm.swap d a _))).trans ?_
  refine (List.Perm.cons b (List.Perm.swap d c _)).trans ?_
  exact List.Perm.swap d b _
theorem Hv.rot3 {R H : Hp} {a b c : Addr × HO} {l : List (Addr × HO)} (h : Hv R H (a :: b :: c :: l)) : Hv R H (c :: b :: a :: l) := by
  refine h.perm ?_
  refine (List.Perm.swap b a _).trans ?_
  refine (List.Perm.cons b (List.Perm.swap c a _)).trans ?_
  exact List.Perm.swap c b _
theorem Hv.ofOwn {R0 R H : Hp} {D : Addr} {o : HO} {ps : List (Addr × HO)} (O : Fx.Own R H (Nx.one D o)) (hv : Hv R0 R ps) : Hv R0 H ((D, o) :: ps) := by
  obtain ⟨n0, n1⟩ := hv.free (Nx.no1 O)
  refine ⟨fun a n => ?_, fun q hq => ?_, ?_⟩
  · rw [Nx.off1 O (n (D, o) (List.mem_cons_self ..)).symm]
    exact hv.off a fun q hq => n q (List.mem_cons_of_mem _ hq)
  · rcases List.mem_cons.mp hq with e | e
    · subst e; exact ⟨Nx.at1 O, n0⟩
    · rw [Nx.off1 O (n1 q e)]; exact hv.on q e
  · rw [List.map_cons, List.nodup_cons]
    refine ⟨fun m => ?_, hv.nd⟩
    obtain ⟨q, hq, e⟩ := List.mem_map.mp m
    exact n1 q hq e
theorem Hv.toOwn {R0 H : Hp} {D : Addr} {xs : List V} {ps : List (Addr × HO)} (hv : Hv R0 H ((D, .lst xs) :: ps)) : ∃ R, Fx.Own R H (Nx.one D (.lst xs)) ∧ Hv R0 R ps := by
  have nd := hv.nd
  rw [List.map_cons, List.nodup_cons] at nd
  refine ⟨fun a => if a = D then none else H a, Nx.mk1 (if_pos rfl) trivial hv.g0 fun a ha => (if_neg ha).symm, ⟨fun a n => ?_, fun q hq => ?_, nd.2⟩⟩
  · show (if a = D then none else H a) = R0 a
    by_cases c : a = D
    · rw [if_pos c, c]; exact (hv.on _ (List.mem_cons_self ..)).2.symm
    · rw [if_neg c]
      refine hv.off a fun q hq => ?_
      rcases List.mem_cons.mp hq with e | e
      · subst e; exact fun z => c z.symm
      · exact n q e
  · have ne : q.1 ≠ D := fun z => nd.1 (by rw [← z]; exact List.mem_map.mpr ⟨q, hq, rfl⟩)
    refine ⟨?_, (hv.on q (List.mem_cons_of_mem _ hq)).2⟩
    show (if q.1 = D then none else H q.1) = some q.2
    rw [if_neg ne]; exact (hv.on q (List.mem_cons_of_mem _ hq)).1
/-- a list that came to stand apart is laid down -/
theorem Hv.down {R0 R H : Hp} {D : Addr} {o : HO} {ps : List (Addr × HO)} (O : Fx.Own R H (Nx.one D o)) (hv : Hv R0 R ps) : ∃ R', Hv R' H ps ∧ Same R0 R' ∧ R' D = some o := (Hv.ofOwn O hv).less
theorem Hv.more3 {R H H' : Hp} {ps : List (Addr × HO)} {a : Addr} {o : HO} (h : Hv R H ps) (e : H a = none) (s : Same H H') (f : H' a = some o) : ∃ R', Hv R' H' ((a, o) :: ps) ∧ Same R R' ∧ ∀ c u, c ≠ a → H c = none → H' c = some u → R' c = some u := by
  obtain ⟨R', h1, h2⟩ := h.more e s f
  refine ⟨R', h1, h2, fun c u ca hc hu => ?_⟩
  rw [← h1.off c fun q hq => ?_]
  · exact hu
  · rcases List.mem_cons.mp hq with z | z
    · subst z; exact fun y => ca y.symm
    · exact (h.free hc).2 q z
end Mv

namespace Gy
open PySem L2
/-- the gray bit of v in plane p -/
noncomputable def gb (v p : Nat) : Nat := (v / 2 ^ p + v / 2 ^ (p + 1)) % 2
/-- the value of gray bits from the highest plane on -/
noncomputable def vstep (v g : Nat) : Nat := v * 2 + (g ^^^ v % 2)
noncomputable def val (gs : List Nat) : Nat := gs.foldl vstep 0
theorem pw (p : Nat) : (1 : Int) * 2 ^ ((p : Nat) : Int).toNat = ((2 ^ p : Nat) : Int) := by
  rw [Int.toNat_natCast, Int.one_mul, Int.natCast_pow]; rfl
end Gy

namespace Gd
open PySem L2
/-- tiles beside one another -/
noncomputable def ac (n t : Nat) : Nat := (n + t - 1) / t
theorem ac_int {n t : Nat} (ht : 0 < t) : ((n : Int) + (t : Int) - 1) / (t : Int) = ((ac n t : Nat) : Int) := by
  unfold ac
  rw [Int.natCast_ediv]
  congr 1
  omega
theorem ac_pos {n t : Nat} (hn : 0 < n) (ht : 0 < t) : 0 < ac n t := by
  unfold ac
  exact Nat.div_pos (by omega) ht
theorem ac_le {n t : Nat} (ht : 0 < t) : ac n t ≤ n := by
  unfold ac
  rcases Nat.eq_zero_or_pos n with h | h
  · subst h; rw [Nat.zero_add]; rw [Nat.div_eq_of_lt (by omega)]; exact Nat.le_refl _
  · have := Nat.div_le_of_le_mul (m := n + t - 1) (k := t) (n := n) (by
      have : t * n = t * (n - 1) + t := by rw [← Nat.mul_succ]; congr 1; omega
      have : n - 1 ≤ t * (n - 1) := Nat.le_mul_of_pos_left _ ht
      omega)
    exact this
/-- the side of the k-th tile -/
noncomputable def sd (n t k : Nat) : Nat := min t (n - k * t)
theorem ac_mul {n t k : Nat} (ht : 0 < t) (hk : k < ac n t) : k * t < n := by
  unfold ac at hk
  have h := (Nat.le_div_iff_mul_le ht).mp (Nat.succ_le_of_lt hk)
  rw [Nat.succ_mul] at h
  omega
theorem sd_int {n t k : Nat} (ht : 0 < t) (hk : k < ac n t) : (if (n : Int) - ((k * t : Nat) : Int) < (t : Int) then (n : Int) - ((k * t : Nat) : Int) else (t : Int)) = ((sd n t k : Nat) : Int) := by
  have := ac_mul ht hk
  unfold sd
  generalize k * t = m at *
  split <;> omega
/-- the columns of one tile -/
theorem side {t k : Nat} (ht : 0 < t) : ∀ n, ((List.range n).filter fun i => decide (i / t = k)) = List.range' (k * t) (sd n t k)
  | 0 => by unfold sd; rw [Nat.zero_sub, Nat.min_zero]; rfl
  | n + 1 => by
    rw [List.range_succ, List.filter_append, side ht n]
    have d1 := Nat.div_mul_le_self n t
    have d2 := Nat.lt_div_mul_add (a := n) ht
    by_cases h : n / t = k
    · rw [List.filter_cons, if_pos (decide_eq_true h)]
      subst h
      have e1 : sd n t (n / t) = n - n / t * t := by unfold sd; omega
      have e2 : sd (n + 1) t (n / t) = (n - n / t * t) + 1 := by unfold sd; omega
      rw [e1, e2, List.range'_concat]
      congr 2
      omega
    · rw [List.filter_cons, if_neg (by simpa using h)]
      have e : sd (n + 1) t k = sd n t k := by
        unfold sd
        rcases Nat.lt_or_ge n (k * t) with z | z
        · omega
        · have : k < n / t := by
            rcases Nat.lt_trichotomy (n / t) k with y | y | y
            · have := (Nat.div_lt_iff_lt_mul ht).mp y; omega
            · exact absurd y h
            · exact y
          have g := (Nat.le_div_iff_mul_le ht).mp (Nat.succ_le_of_lt this)
          rw [Nat.succ_mul] at g
          omega
      rw [e]
      show List.range' _ _ ++ [] = _
      rw [List.append_nil]
theorem sd_pos {n t k : Nat} (ht : 0 < t) (hk : k < ac n t) : 0 < sd n t k := by
  have := ac_mul ht hk
  unfold sd; omega
end Gd

namespace Gd
open PySem L2
noncomputable def xr (a b : Nat) : Nat := if a = b then 0 else 1
noncomputable def vl (f : Nat → List Int) (j k : Nat) : Nat := ((f j).getD k 0).toNat
/-- the stored bit -/
noncomputable def sb (f : Nat → List Int) (c j k p : Nat) : Nat :=
  if c = 1 then Gy.gb (vl f 0 k) p else if j = 0 then Gy.gb (vl f 1 k) p else xr (Gy.gb (vl f 1 k) p) (Gy.gb (vl f (if j = 1 then 0 else 2) k) p)
theorem getD_mem {xs : List Int} {k : Nat} (h : k < xs.length) : xs.getD k 0 ∈ xs := by
  rw [List.getD_eq_getElem?_getD, List.getElem?_eq_getElem h]; exact List.getElem_mem h
end Gd

namespace Pq
open PySem L2
/-- the rows of a picture: whether they are right -/
noncomputable def rowOk (n d : Nat) (r : List Int) : Prop := r.length = n ∧ ∀ z ∈ r, 0 ≤ z ∧ z < ((2 ^ d : Nat) : Int)
noncomputable def rowsOk (n d c : Nat) (rows : List (List Int)) : Prop := rows.length = c ∧ ∀ r ∈ rows, rowOk n d r
noncomputable instance (n d : Nat) (r : List Int) : Decidable (rowOk n d r) := inferInstanceAs (Decidable (_ ∧ _))
noncomputable instance (n d c : Nat) (rows : List (List Int)) : Decidable (rowsOk n d c rows) := inferInstanceAs (Decidable (_ ∧ _))
/-- rows as they stand -/
noncomputable def RW (H : Hp) (l : Addr) (rows : List (List Int)) : Prop := Gx.LL H l rows.length (fun j => rows.getD j [])
theorem RW.keep {H H' : Hp} {l : Addr} {rows : List (List Int)} (x : RW H l rows) (s : Same H H') : RW H' l rows := Gx.LL.keep x s
theorem RW.all {H : Hp} {l : Addr} {rows : List (List Int)} (x : RW H l rows) : ∃ xs, H l = some (.lst xs) ∧ xs.length = rows.length ∧ ∀ j v, xs[j]? = some v → ∃ a, v = .ref a ∧ j < rows.length ∧ H a = some (.lst ((rows.getD j []).map V.int)) := by
  obtain ⟨ps, h1, h2, h3⟩ := x
  refine ⟨_, h1, by rw [List.length_map]; exact h2, fun j v e => ?_⟩
  rw [List.getElem?_map] at e
  cases ea : ps[j]? with
  | none => rw [ea] at e; cases e
  | some a =>
    rw [ea] at e
    have hj := (List.getElem?_eq_some_iff.mp ea).1
    exact ⟨a, (Option.some.inj e).symm, by omega, h3 j a ea⟩
theorem rowsAt {rows : List (List Int)} {j : Nat} (h : j < rows.length) : rows.getD j [] ∈ rows := by
  rw [List.getD_eq_getElem?_getD, List.getElem?_eq_getElem h]; exact List.getElem_mem h
theorem RW.of {H : Hp} {l : Addr} {n : Nat} {f : Nat → List Int} {rows : List (List Int)} (x : Gx.LL H l n f) (hn : rows.length = n) (e : ∀ j, j < n → f j = rows.getD j []) : RW H l rows := by
  subst hn
  exact Gx.LL.congr x e
/-- new rows, all different -/
noncomputable def LN (H0 H : Hp) (l : Addr) (n : Nat) (f : Nat → List Int) : Prop := ∃ ps : List Addr, H l = some (.lst (ps.map V.ref)) ∧ ps.length = n ∧ ps.Nodup ∧ (∀ a ∈ ps, H0 a = none ∧ a ≠ l) ∧ ∀ j a, ps[j]? = some a → H a = some (.lst ((f j).map V.int))
theorem LN.ll {H0 H : Hp} {l : Addr} {n : Nat} {f : Nat → List Int} (x : LN H0 H l n f) : Gx.LL H l n f := by
  obtain ⟨ps, h1, h2, _, _, h5⟩ := x
  exact ⟨ps, h1, h2, h5⟩
theorem lcLN {K : PySem.W.Frag} {σ : L2.St} {H : Hp} {Q : VK} {t : TT} {te : TE} {J : It} {n : Nat} {G : Hp → Prop} {Y : Nat → Hp → V → Hp → Prop} {g : TG} {vs : List Nat} (w : Walk J n G Y) (hn : n < 16777216) (f : Nat → List Int) (hG : ∀ H', Same H H' → G H') (hY : ∀ i H x H', Y i H x H' → Same H H')
    (hs : ∀ i x H1 H' (R : V → Hp → Prop) (R0 : Hp → Prop), i < n → Same H H1 → Y i H1 x H' → (∀ p H4, H' p = none → Same H' H4 → H4 p = some (.lst ((f i).map V.int)) → R (.ref p) H4) →
      g x (wipe σ vs) H' fun σ2 H2 => Gx.WP (wipe σ2 vs = wipe σ vs) (t σ2 H2 fun b H3 => Gx.IfP b (te σ2 H3 R) (R0 H3)))
    (q : ∀ p H2, H p = none → Same H H2 → LN H H2 p n f → Q (.ref p) H2) : Gx.LcP J g t te vs σ Q H := fun p hp => by
  refine lc_it w (fun i H' => Same H H' ∧ LN H H' p i f) ⟨Gx.same_new hp, [], upd_same, rfl, List.nodup_nil, (fun a h => nomatch h), fun j a e => nomatch e⟩ (fun i H' _ h => hG H' h.1) (fun i x H1 H' hi h y => ?_) (fun H' h => q p H' hp h.1 h.2)
  obtain ⟨h1, ps, e1, e2, e3, e4, e5⟩ := h
  have s1 := hY i H1 x H' y
  refine hs i x H1 H' _ _ hi h1 y (fun a H4 hf s4 ha => ?_)
  have hap : a ≠ p := (ne_of_none (s1 _ _ e1) hf).symm
  have hnm : a ∉ ps := fun hm => by
    obtain ⟨j, hj⟩ := List.getElem?_of_mem hm
    have := s1 _ _ (e5 j a hj)
    rw [hf] at this; cases this
  refine ⟨ps.map V.ref, s4 _ _ (s1 _ _ e1), by rw [List.length_map, sizeLine_eq]; omega, Gx.same_up hp (h1.trans (s1.trans s4)), ps ++ [a], by rw [upd_same, List.map_append]; rfl, by rw [List.length_append, e2]; rfl, ?_, fun b hb => ?_, fun j b eb => ?_⟩
  · refine List.nodup_append.mpr ⟨e3, List.pairwise_singleton _ _, fun b hb c hc => ?_⟩
    rw [List.mem_singleton.mp hc]
    rintro rfl
    exact hnm hb
  · rcases List.mem_append.mp hb with hb | hb
    · exact e4 b hb
    · rw [List.mem_singleton.mp hb]
      exact ⟨h1.free (s1.free hf), hap⟩
  · by_cases hj : j < ps.length
    · rw [List.getElem?_append_left hj] at eb
      rw [upd_ne (e4 b (List.mem_of_getElem? eb)).2]
      exact s4 _ _ (s1 _ _ (e5 j b eb))
    · rw [List.getElem?_append_right (by omega)] at eb
      have hj2 : j - ps.length = 0 := by
        rcases Nat.eq_zero_or_pos (j - ps.length) with z | z
        · exact z
        · rw [List.getElem?_eq_none (by show 1 ≤ _; omega)] at eb; cases eb
      rw [hj2] at eb
      cases eb
      rw [upd_ne hap, show j = i by omega]; exact ha
/-- one number of one row changed -/
theorem LN.put {H0 H : Hp} {l : Addr} {n j k : Nat} {f : Nat → List Int} {z : Int} (x : LN H0 H l n f) (hj : j < n) : ∃ xs a, H l = some (.lst xs) ∧ atI xs (j : Int) = some (.ref a) ∧ H a = some (.lst ((f j).map V.int)) ∧ H0 a = none ∧ LN H0 (upd H a (.lst (((f j).set k z).map V.int))) l n (fun i => if i = j then (f j).set k z else f i) := by
  obtain ⟨ps, e1, e2, e3, e4, e5⟩ := x
  have hj2 : j < ps.length := by omega
  have ha := e5 j _ (List.getElem?_eq_getElem hj2)
  have hm := e4 _ (List.getElem_mem hj2)
  refine ⟨_, ps[j], e1, atI_nat (by rw [List.getElem?_map, List.getElem?_eq_getElem hj2]; rfl), ha, hm.1, ps, by rw [upd_ne (Ne.symm hm.2)]; exact e1, e2, e3, e4, fun i b eb => ?_⟩
  dsimp only
  by_cases hij : i = j
  · subst hij
    rw [List.getElem?_eq_getElem hj2] at eb
    cases eb
    rw [upd_same, if_pos rfl]
  · have hb : b ≠ ps[j] := fun hb => hij (by
      have hi2 := (List.getElem?_eq_some_iff.mp eb).1
      exact (List.getElem?_inj hi2 e3).mp (by rw [eb, List.getElem?_eq_getElem hj2, hb]))
    rw [upd_ne hb, if_neg hij]; exact e5 i b eb
theorem set_ok {n d c j k : Nat} {z : Int} {f : List (List Int)} (ok : rowsOk n d c f) (hj : j < c) (hz : 0 ≤ z ∧ z < ((2 ^ d : Nat) : Int)) : rowsOk n d c (f.set j ((f.getD j []).set k z)) := by
  have hjf : j < f.length := by have := ok.1; omega
  refine ⟨by rw [List.length_set]; exact ok.1, fun r hr => ?_⟩
  rcases List.mem_or_eq_of_mem_set hr with h | h
  · exact ok.2 r h
  · have o := ok.2 _ (rowsAt hjf)
    rw [h]
    refine ⟨by rw [List.length_set]; exact o.1, fun y hy => ?_⟩
    rcases List.mem_or_eq_of_mem_set hy with g | g
    · exact o.2 y g
    · rw [g]; exact hz
/-- rows and where they stand -/
noncomputable def RP (H : Hp) : List Addr → List (List Int) → Prop
  | [], [] => True
  | a :: ps, r :: rs => H a = some (.lst (r.map V.int)) ∧ RP H ps rs
  | _, _ => False
theorem RP.of {H : Hp} : ∀ {ps : List Addr} {rows : List (List Int)}, ps.length = rows.length → (∀ j a, ps[j]? = some a → H a = some (.lst ((rows.getD j []).map V.int))) → RP H ps rows
  | [], [], _, _ => trivial
  | a :: ps, r :: rs, hl, h => ⟨h 0 a rfl, RP.of (Nat.succ.inj hl) fun j b e => by have := h (j + 1) b (by simpa using e); simpa using this⟩
  | [], _ :: _, hl, _ => by cases hl
  | _ :: _, [], hl, _ => by cases hl
theorem RP.to {H : Hp} : ∀ {ps : List Addr} {rows : List (List Int)}, RP H ps rows → ps.length = rows.length ∧ ∀ j a, ps[j]? = some a → H a = some (.lst ((rows.getD j []).map V.int))
  | [], [], _ => ⟨rfl, fun j a e => by cases e⟩
  | a :: ps, r :: rs, h => by
    obtain ⟨h1, h2⟩ := RP.to h.2
    refine ⟨congrArg (· + 1) h1, fun j b e => ?_⟩
    cases j with
    | zero => cases e; exact h.1
    | succ j => have := h2 j b (by simpa using e); simpa using this
  | [], _ :: _, h => h.elim
  | _ :: _, [], h => h.elim
theorem RP.app {H : Hp} : ∀ {ps qs : List Addr} {rows rs : List (List Int)}, RP H ps rows → RP H qs rs → RP H (ps ++ qs) (rows ++ rs)
  | [], _, [], _, _, h => h
  | _ :: _, _, _ :: _, _, h, g => ⟨h.1, RP.app h.2 g⟩
  | [], _, _ :: _, _, h, _ => h.elim
  | _ :: _, _, [], _, h, _ => h.elim
theorem RP.take {H : Hp} : ∀ {k : Nat} {ps : List Addr} {rows : List (List Int)}, RP H ps rows → RP H (ps.take k) (rows.take k)
  | 0, _, _, _ => trivial
  | _ + 1, [], [], _ => trivial
  | _ + 1, _ :: _, _ :: _, h => ⟨h.1, RP.take h.2⟩
  | _ + 1, [], _ :: _, h => h.elim
  | _ + 1, _ :: _, [], h => h.elim
theorem RP.keep {H H' : Hp} (s : Same H H') : ∀ {ps : List Addr} {rows : List (List Int)}, RP H ps rows → RP H' ps rows
  | [], [], _ => trivial
  | _ :: _, _ :: _, h => ⟨s _ _ h.1, RP.keep s h.2⟩
  | [], _ :: _, h => h.elim
  | _ :: _, [], h => h.elim
theorem RP.rw {H : Hp} {l : Addr} {ps : List Addr} {rows : List (List Int)} (h : H l = some (.lst (ps.map V.ref))) (x : RP H ps rows) : RW H l rows := ⟨ps, h, x.to.1, x.to.2⟩
theorem LN.down {H0 H R : Hp} {l : Addr} {n : Nat} {f : Nat → List Int} (x : LN H0 H l n f) (hl : H0 l = none) (g : ∀ a o, H0 a = none → H a = some o → R a = some o) : Gx.LL R l n f := by
  obtain ⟨ps, h1, h2, _, h4, h5⟩ := x
  exact ⟨ps, g _ _ hl h1, h2, fun j a e => g _ _ (h4 a (List.mem_of_getElem? e)).1 (h5 j a e)⟩
theorem LN.keep {H0 H H' : Hp} {l : Addr} {n : Nat} {f : Nat → List Int} (x : LN H0 H l n f) (s : Same H H') : LN H0 H' l n f := by
  obtain ⟨ps, h1, h2, h3, h4, h5⟩ := x
  exact ⟨ps, s _ _ h1, h2, h3, h4, fun j a e => s _ _ (h5 j a e)⟩
/-- one row taken to be changed -/
theorem LN.at {H0 H : Hp} {l : Addr} {n j : Nat} {f : Nat → List Int} (x : LN H0 H l n f) (hj : j < n) : ∃ xs a, H l = some (.lst xs) ∧ xs.length = n ∧ atI xs (j : Int) = some (.ref a) ∧ H a = some (.lst ((f j).map V.int)) ∧ H0 a = none ∧ a ≠ l ∧ ∀ (H' : Hp) (ys : List Int), Same H H' → LN H0 (upd H' a (.lst (ys.map V.int))) l n (fun i => if i = j then ys else f i) := by
  obtain ⟨ps, e1, e2, e3, e4, e5⟩ := x
  have hj2 : j < ps.length := by omega
  have ha := e5 j _ (List.getElem?_eq_getElem hj2)
  have hm := e4 _ (List.getElem_mem hj2)
  refine ⟨_, ps[j], e1, by rw [List.length_map]; exact e2, atI_nat (by rw [List.getElem?_map, List.getElem?_eq_getElem hj2]; rfl), ha, hm.1, hm.2, fun H' ys s => ⟨ps, by rw [upd_ne (Ne.symm hm.2)]; exact s _ _ e1, e2, e3, e4, fun i b eb => ?_⟩⟩
  dsimp only
  by_cases hij : i = j
  · subst hij
    rw [List.getElem?_eq_getElem hj2] at eb
    cases eb
    rw [upd_same, if_pos rfl]
  · have hb : b ≠ ps[j] := fun hb => hij (by
      have hi2 := (List.getElem?_eq_some_iff.mp eb).1
      exact (List.getElem?_inj hi2 e3).mp (by rw [eb, List.getElem?_eq_getElem hj2, hb]))
    rw [upd_ne hb, if_neg hij]; exact s _ _ (e5 i b eb)
/-- a row more, a row less -/
theorem LN.more {H0 H H' : Hp} {l t : Addr} {f : List (List Int)} {ys : List Int} (x : LN H0 H l f.length (fun j => f.getD j [])) (s : Same H H') (ht : H' t = some (.lst (ys.map V.int))) (ne : t ≠ l) : ∃ xs, H l = some (.lst xs) ∧ xs.length = f.length ∧ RW (upd H' l (.lst (xs ++ [.ref t]))) l (f ++ [ys]) := by
  obtain ⟨ps, h1, h2, h3, h4, h5⟩ := x
  refine ⟨_, h1, by rw [List.length_map]; exact h2, RP.rw (ps := ps ++ [t]) (by rw [upd_same, List.map_append]; rfl) (RP.app (RP.of h2 fun j a e => ?_) ⟨by rw [upd_ne ne]; exact ht, trivial⟩)⟩
  rw [upd_ne (h4 a (List.mem_of_getElem? e)).2]
  exact s _ _ (h5 j a e)
theorem LN.less {H0 H H' : Hp} {l : Addr} {f : List (List Int)} (x : LN H0 H l f.length (fun j => f.getD j [])) (s : Same H H') (hf : 1 ≤ f.length) : ∃ xs y, H l = some (.lst xs) ∧ xs[xs.length - 1]? = some y ∧ RW (upd H' l (.lst xs.dropLast)) l f.dropLast := by
  obtain ⟨ps, h1, h2, h3, h4, h5⟩ := x
  have hp : ps.length - 1 < ps.length := by omega
  refine ⟨_, .ref ps[ps.length - 1], h1, by rw [List.length_map, List.getElem?_map, List.getElem?_eq_getElem hp]; rfl, RP.rw (ps := ps.dropLast) (by rw [upd_same, List.map_dropLast]) ?_⟩
  rw [List.dropLast_eq_take (l := ps), List.dropLast_eq_take (l := f), h2]
  refine RP.take (RP.of h2 fun j a e => ?_)
  rw [upd_ne (h4 a (List.mem_of_getElem? e)).2]
  exact s _ _ (h5 j a e)
end Pq

namespace Dk
open PySem L2
/-! a disk: blocks, the writes that wait, cuts, what is left before the cut, what is torn -/
noncomputable def BL (R : Hp) (vs : List V) (bs : List (List Int)) : Prop := vs.length = bs.length ∧ ∀ (i : Nat) (v : V), vs[i]? = some v → ∃ (a : Addr) (b : List Int), v = .ref a ∧ bs[i]? = some b ∧ R a = some (.lst (b.map V.int))
noncomputable def PL (mk : List V → HO) (R : Hp) (vs : List V) (es : List (Nat × List Int)) : Prop := vs.length = es.length ∧ ∀ (i : Nat) (v : V), vs[i]? = some v → ∃ (t a : Addr) (e : Nat × List Int), v = .ref t ∧ es[i]? = some e ∧ R t = some (mk [.int (e.1 : Int), .ref a]) ∧ R a = some (.lst (e.2.map V.int))
section
variable {R R' : Hp} {vs : List V} {bs : List (List Int)} {es : List (Nat × List Int)} {mk : List V → HO}
theorem BL.keep (h : BL R vs bs) (s : Same R R') : BL R' vs bs := ⟨h.1, fun i v e => by
  obtain ⟨a, b, h1, h2, h3⟩ := h.2 i v e
  exact ⟨a, b, h1, h2, s _ _ h3⟩⟩
theorem PL.keep (h : PL mk R vs es) (s : Same R R') : PL mk R' vs es := ⟨h.1, fun i v e => by
  obtain ⟨t, a, b, h1, h2, h3, h4⟩ := h.2 i v e
  exact ⟨t, a, b, h1, h2, s _ _ h3, s _ _ h4⟩⟩
theorem BL.get {i : Nat} (h : BL R vs bs) (hi : i < bs.length) : ∃ a, vs[i]? = some (.ref a) ∧ R a = some (.lst ((bs.getD i []).map V.int)) := by
  have hv : i < vs.length := by rw [h.1]; exact hi
  obtain ⟨a, b, h1, h2, h3⟩ := h.2 i _ (List.getElem?_eq_getElem hv)
  exact ⟨a, by rw [List.getElem?_eq_getElem hv, h1], by rw [List.getD_eq_getElem?_getD, h2]; exact h3⟩
theorem BL.set {i : Nat} {a : Addr} {b : List Int} (h : BL R vs bs) (ha : R a = some (.lst (b.map V.int))) : BL R (vs.set i (.ref a)) (bs.set i b) := ⟨by simp [h.1], fun j v e => by
  rw [List.getElem?_set] at e ⊢
  by_cases c : i = j
  · subst c
    rw [if_pos rfl] at e ⊢
    by_cases l : i < vs.length
    · rw [if_pos l] at e
      rw [if_pos (by rw [← h.1]; exact l)]
      cases e
      exact ⟨a, b, rfl, rfl, ha⟩
    · rw [if_neg l] at e; cases e
  · rw [if_neg c] at e ⊢
    exact h.2 j v e⟩
theorem PL.nil : PL mk R [] [] := ⟨rfl, fun i v e => by simp at e⟩
theorem PL.snoc {t a : Addr} {e : Nat × List Int} (h : PL mk R vs es) (ht : R t = some (mk [.int (e.1 : Int), .ref a])) (ha : R a = some (.lst (e.2.map V.int))) : PL mk R (vs ++ [.ref t]) (es ++ [e]) := ⟨by simp [h.1], fun j v q => by
  have hl := h.1
  rcases Nat.lt_trichotomy j vs.length with c | c | c
  · rw [List.getElem?_append_left c] at q
    obtain ⟨t', a', e', h1, h2, h3, h4⟩ := h.2 j v q
    exact ⟨t', a', e', h1, by rw [List.getElem?_append_left (by omega)]; exact h2, h3, h4⟩
  · rw [List.getElem?_append_right (by omega), show j - vs.length = 0 by omega] at q
    cases q
    exact ⟨t, a, e, rfl, by rw [List.getElem?_append_right (by omega), show j - es.length = 0 by omega]; rfl, ht, ha⟩
  · rw [List.getElem?_eq_none (by simp; omega)] at q; cases q⟩
theorem PL.get {i : Nat} (h : PL mk R vs es) (hi : i < es.length) : ∃ t a e, vs[i]? = some (.ref t) ∧ es[i]? = some e ∧ R t = some (mk [.int (e.1 : Int), .ref a]) ∧ R a = some (.lst (e.2.map V.int)) := by
  have hv : i < vs.length := by rw [h.1]; exact hi
  obtain ⟨t, a, e, h1, h2, h3, h4⟩ := h.2 i _ (List.getElem?_eq_getElem hv)
  exact ⟨t, a, e, by rw [List.getElem?_eq_getElem hv, h1], h2, h3, h4⟩
end
structure St where
  bl : List (List Int)
  pe : List (Nat × List Int)
  cu : Nat
  lf : Option Nat
  tn : List Int
noncomputable def lfV : Option Nat → V
  | none => .non
  | some n => .int (n : Int)
noncomputable def zs : List Int := List.replicate 32 0
noncomputable def s0 (n : Nat) : St := ⟨List.replicate n zs, [], 0, none, []⟩
noncomputable def tear (n : Int) (new old : List Int) : List Int := new.take n.toNat ++ old.drop n.toNat
noncomputable def cutS : List Int → List (List Int) → List (Nat × List Int) → List (List Int)
  | _, bs, [] => bs
  | tn, bs, e :: r => cutS tn.tail (bs.set e.1 (tear (tn.headD 0) e.2 (bs.getD e.1 []))) r
noncomputable def St.cut (s : St) (tn : List Int) : St := ⟨cutS tn s.bl s.pe, [], s.cu + 1, none, s.tn⟩
noncomputable def flB (bs : List (List Int)) (pe : List (Nat × List Int)) : List (List Int) := pe.foldl (fun b e => b.set e.1 e.2) bs
/-- a write or flush counted, if the power stays -/
noncomputable def less : Option Nat → Option Nat
  | none => none
  | some n => some (n - 1)
noncomputable def St.use (s : St) : St := ⟨s.bl, s.pe, s.cu, less s.lf, s.tn⟩
noncomputable def St.write (s : St) (a : Nat) (b : List Int) : St := ⟨s.bl, s.pe ++ [(a, b)], s.cu, s.lf, s.tn⟩
noncomputable def St.flush (s : St) : St := ⟨flB s.bl s.pe, [], s.cu, s.lf, s.tn⟩
noncomputable def rd (s : St) (a : Nat) : List Int := s.pe.foldl (fun f e => if e.1 = a then e.2 else f) (s.bl.getD a [])
noncomputable def BOk (b : List Int) : Prop := b.length = 32 ∧ ∀ z ∈ b, 0 ≤ z ∧ z ≤ 255
noncomputable def TOk (t : List Int) : Prop := ∀ z ∈ t, 0 ≤ z ∧ z ≤ 32
noncomputable instance (b : List Int) : Decidable (BOk b) := by unfold BOk; infer_instance
noncomputable instance (b : List Int) : Decidable (TOk b) := by unfold TOk; infer_instance
/-- what a disk of n blocks keeps -/
structure Wf (n m : Nat) (s : St) : Prop where
  n1 : 4 ≤ n
  n2 : n ≤ 400
  bn : s.bl.length = n
  bb : ∀ b ∈ s.bl, BOk b
  pn : s.pe.length ≤ m
  pb : ∀ e ∈ s.pe, e.1 < n ∧ BOk e.2
  tn : TOk s.tn
  tl : s.tn.length ≤ 100000
  lf : ∀ k, s.lf = some k → k ≤ 100000
theorem zs_ok : BOk zs := by unfold zs; exact ⟨by simp, fun z h => by rw [List.eq_of_mem_replicate h]; omega⟩
theorem wf0 {n : Nat} (h1 : 4 ≤ n) (h2 : n ≤ 400) : Wf n 0 (s0 n) := ⟨h1, h2, by simp [s0], fun b h => by rw [List.eq_of_mem_replicate h]; exact zs_ok, Nat.le_refl _, (fun e h => nomatch h), (fun e h => nomatch h), Nat.zero_le _, (fun k h => nomatch h)⟩
theorem set_ok {bs : List (List Int)} {i : Nat} {b : List Int} (h : ∀ b ∈ bs, BOk b) (hb : BOk b) : ∀ c ∈ bs.set i b, BOk c := fun c hc => by
  rcases List.mem_or_eq_of_mem_set hc with e | e
  · exact h c e
  · rw [e]; exact hb
theorem tear_ok {n : Int} {a b : List Int} (ha : BOk a) (hb : BOk b) : BOk (tear n a b) := by
  obtain ⟨a1, a2⟩ := ha
  obtain ⟨b1, b2⟩ := hb
  refine ⟨by unfold tear; simp [a1, b1]; omega, fun z h => ?_⟩
  unfold tear at h
  rcases List.mem_append.mp h with e | e
  · exact a2 z (List.mem_of_mem_take e)
  · exact b2 z (List.mem_of_mem_drop e)
theorem getD_ok {bs : List (List Int)} {i : Nat} (h : ∀ b ∈ bs, BOk b) (hi : i < bs.length) : BOk (bs.getD i []) := by
  rw [List.getD_eq_getElem?_getD, List.getElem?_eq_getElem hi]
  exact h _ (List.getElem_mem hi)
theorem cutS_len : ∀ {tn : List Int} {bs : List (List Int)} {pe : List (Nat × List Int)}, (cutS tn bs pe).length = bs.length
  | _, _, [] => rfl
  | _, _, e :: r => by unfold cutS; rw [cutS_len, List.length_set]
theorem cutS_ok {n : Nat} : ∀ {tn : List Int} {bs : List (List Int)} {pe : List (Nat × List Int)}, bs.length = n → (∀ b ∈ bs, BOk b) → (∀ e ∈ pe, e.1 < n ∧ BOk e.2) → ∀ b ∈ cutS tn bs pe, BOk b
  | _, _, [], _, h, _ => h
  | tn, bs, e :: r, hn, h, g => by
    obtain ⟨g1, g2⟩ := g e (List.mem_cons_self ..)
    unfold cutS
    exact cutS_ok (by rw [List.length_set]; exact hn) (set_ok h (tear_ok g2 (getD_ok h (by omega)))) fun f hf => g f (List.mem_cons_of_mem _ hf)
theorem flB_len : ∀ {bs : List (List Int)} {pe : List (Nat × List Int)}, (flB bs pe).length = bs.length
  | _, [] => rfl
  | bs, e :: r => by
    show (flB (bs.set e.1 e.2) r).length = _
    rw [flB_len, List.length_set]
theorem flB_ok {n : Nat} : ∀ {bs : List (List Int)} {pe : List (Nat × List Int)}, (∀ b ∈ bs, BOk b) → (∀ e ∈ pe, e.1 < n ∧ BOk e.2) → ∀ b ∈ flB bs pe, BOk b
  | _, [], h, _ => h
  | bs, e :: r, h, g => flB_ok (bs := bs.set e.1 e.2) (pe := r) (set_ok h (g e (List.mem_cons_self ..)).2) fun f hf => g f (List.mem_cons_of_mem _ hf)
theorem Wf.mono {n m k : Nat} {s : St} (w : Wf n m s) (h : m ≤ k) : Wf n k s := ⟨w.n1, w.n2, w.bn, w.bb, Nat.le_trans w.pn h, w.pb, w.tn, w.tl, w.lf⟩
theorem Wf.cut {n m : Nat} {s : St} {t : List Int} (w : Wf n m s) : Wf n 0 (s.cut t) := ⟨w.n1, w.n2, cutS_len.trans w.bn, cutS_ok w.bn w.bb w.pb, Nat.le_refl _, (fun e h => nomatch h), w.tn, w.tl, (fun k h => nomatch h)⟩
theorem Wf.use {n m : Nat} {s : St} (w : Wf n m s) : Wf n m s.use := ⟨w.n1, w.n2, w.bn, w.bb, w.pn, w.pb, w.tn, w.tl, fun k h => by
  cases e : s.lf with
  | none => unfold St.use less at h; rw [e] at h; cases h
  | some j => unfold St.use less at h; rw [e] at h; have := w.lf j e; cases h; omega⟩
theorem Wf.write {n m a : Nat} {b : List Int} {s : St} (w : Wf n m s) (ha : a < n) (hb : BOk b) : Wf n (m + 1) (s.write a b) := ⟨w.n1, w.n2, w.bn, w.bb, by unfold St.write; rw [List.length_append]; have := w.pn; show _ + 1 ≤ _; omega, fun e he => by
  rcases List.mem_append.mp he with h | h
  · exact w.pb e h
  · rw [List.mem_singleton] at h; rw [h]; exact ⟨ha, hb⟩, w.tn, w.tl, w.lf⟩
theorem Wf.flush {n m : Nat} {s : St} (w : Wf n m s) : Wf n 0 s.flush := ⟨w.n1, w.n2, flB_len.trans w.bn, flB_ok w.bb w.pb, Nat.le_refl _, (fun e h => nomatch h), w.tn, w.tl, w.lf⟩
theorem rd_ok {n m a : Nat} {s : St} (w : Wf n m s) (ha : a < n) : BOk (rd s a) := by
  have key : ∀ (pe : List (Nat × List Int)) (f : List Int), BOk f → (∀ e ∈ pe, e.1 < n ∧ BOk e.2) → BOk (pe.foldl (fun f e => if e.1 = a then e.2 else f) f) := by
    intro pe
    induction pe with
    | nil => intro f h _; exact h
    | cons e r ih =>
      intro f h g
      refine ih _ ?_ fun x hx => g x (List.mem_cons_of_mem _ hx)
      show BOk (if e.1 = a then e.2 else f)
      split
      · exact (g e (List.mem_cons_self ..)).2
      · exact h
  exact key _ _ (getD_ok w.bb (by rw [w.bn]; exact ha)) w.pb
noncomputable def In (R : Hp) (rest : List (Addr × HO)) (a : Addr) (o : HO) : Prop := R a = some o ∨ (a, o) ∈ rest
theorem In.keep {R R' : Hp} {rest : List (Addr × HO)} {a : Addr} {o : HO} (i : In R rest a o) (s : Same R R') : In R' rest a o := i.imp (s _ _) id
theorem cutTo (xs : List V) (m : Nat) (h : m ≤ xs.length) : cutV xs none (some (m : Int)) = xs.take m := by
  unfold cutV
  rw [HT.sIx_nat, Nat.min_eq_left h]
  show (xs.drop 0).take (m - 0) = _
  rw [List.drop_zero, Nat.sub_zero]
theorem cutFrom (xs : List V) (m : Nat) (h : m ≤ xs.length) : cutV xs (some (m : Int)) none = xs.drop m := by
  unfold cutV
  rw [HT.sIx_nat, Nat.min_eq_left h]
  show (xs.drop m).take (xs.length - m) = _
  rw [List.take_of_length_le (by rw [List.length_drop]; omega)]
theorem cutS_app : ∀ {t : List Int} {bs : List (List Int)} {l : List (Nat × List Int)} {e : Nat × List Int}, cutS t bs (l ++ [e]) = (cutS t bs l).set e.1 (tear (t.getD l.length 0) e.2 ((cutS t bs l).getD e.1 []))
  | t, bs, [], e => by
    show (bs.set e.1 (tear (t.headD 0) e.2 (bs.getD e.1 []))) = bs.set e.1 (tear (t.getD 0 0) e.2 (bs.getD e.1 []))
    cases t <;> rfl
  | t, bs, f :: l, e => by
    rw [List.cons_append]
    unfold cutS
    rw [cutS_app (l := l), List.length_cons]
    have : t.tail.getD l.length 0 = t.getD (l.length + 1) 0 := by cases t <;> simp
    rw [this]
theorem ixN_nat {n i : Nat} (h : i < n) : ixN n (i : Int) = some i := by
  unfold ixN
  rw [if_pos (by omega), if_pos (by omega)]
  exact congrArg some (Int.toNat_natCast _)
theorem flB_app {bs : List (List Int)} {l : List (Nat × List Int)} {e : Nat × List Int} : flB bs (l ++ [e]) = (flB bs l).set e.1 e.2 := by
  unfold flB; rw [List.foldl_append]; rfl
theorem BL.ofLN {H0 H R : Hp} {l : Addr} {n : Nat} {f : Nat → List Int} {bs : List (List Int)} (x : Pq.LN H0 H l n f) (hn : bs.length = n) (e : ∀ j, j < n → f j = bs.getD j []) (g : ∀ a o, H0 a = none → a ≠ l → H a = some o → R a = some o) : ∃ vs, H l = some (.lst vs) ∧ BL R vs bs := by
  obtain ⟨ps, h1, h2, h3, h4, h5⟩ := x
  refine ⟨ps.map V.ref, h1, by rw [List.length_map, h2, hn], fun i v q => ?_⟩
  rw [List.getElem?_map] at q
  cases hpi : ps[i]? with
  | none => rw [hpi] at q; cases q
  | some a =>
    rw [hpi] at q
    cases q
    have hi : i < n := by rw [← h2]; exact (List.getElem?_eq_some_iff.mp hpi).1
    have hm := h4 a (List.mem_of_getElem? hpi)
    have hb : bs[i]? = some (bs.getD i []) := by rw [List.getD_eq_getElem?_getD, List.getElem?_eq_getElem (by omega)]; rfl
    exact ⟨a, bs.getD i [], rfl, hb, g _ _ hm.1 hm.2 (by rw [← e i hi]; exact h5 i a hpi)⟩
theorem BL.rw {R H : Hp} {l : Addr} {vs : List V} {bs : List (List Int)} (h : BL R vs bs) (s : Same R H) (hl : H l = some (.lst vs)) : Pq.RW H l bs := by
  have hp : ∃ ps : List Addr, vs = ps.map V.ref := by
    have key : ∀ (ws : List V), (∀ v ∈ ws, ∃ a, v = V.ref a) → ∃ ps : List Addr, ws = ps.map V.ref := by
      intro ws
      induction ws with
      | nil => intro _; exact ⟨[], rfl⟩
      | cons w ws ih =>
        intro hw
        obtain ⟨a, ha⟩ := hw w (List.mem_cons_self ..)
        obtain ⟨ps, hps⟩ := ih fun v hv => hw v (List.mem_cons_of_mem _ hv)
        exact ⟨a :: ps, by rw [List.map_cons, ha, hps]⟩
    refine key vs fun v hv => ?_
    obtain ⟨i, hi, rfl⟩ := List.getElem_of_mem hv
    obtain ⟨a, b, e, _⟩ := h.2 i _ (List.getElem?_eq_getElem hi)
    exact ⟨a, e⟩
  obtain ⟨ps, rfl⟩ := hp
  refine ⟨ps, hl, by rw [← h.1, List.length_map], fun j a e => ?_⟩
  obtain ⟨a', b, e1, e2, e3⟩ := h.2 j (.ref a) (by rw [List.getElem?_map, e]; rfl)
  cases e1
  dsimp only
  rw [List.getD_eq_getElem?_getD, e2]
  exact s _ _ e3
theorem BL.snoc {R : Hp} {vs : List V} {bs : List (List Int)} {a : Addr} {b : List Int} (h : BL R vs bs) (ha : R a = some (.lst (b.map V.int))) : BL R (vs ++ [.ref a]) (bs ++ [b]) := ⟨by simp [h.1], fun j v q => by
  have hl := h.1
  rcases Nat.lt_trichotomy j vs.length with c | c | c
  · rw [List.getElem?_append_left c] at q
    obtain ⟨a', b', h1, h2, h3⟩ := h.2 j v q
    exact ⟨a', b', h1, by rw [List.getElem?_append_left (by omega)]; exact h2, h3⟩
  · rw [List.getElem?_append_right (by omega), show j - vs.length = 0 by omega] at q
    cases q
    exact ⟨a, b, rfl, by rw [List.getElem?_append_right (by omega), show j - bs.length = 0 by omega]; rfl, ha⟩
  · rw [List.getElem?_eq_none (by simp; omega)] at q; cases q⟩
end Dk

namespace Cx_
open PySem L2
noncomputable def bt (bs : List Bool) (i : Int) : Bool := bs.getD i.toNat false
/-- the context of a place (the document's four neighbours) -/
noncomputable def ctx (w : Nat) (bs : List Bool) (n : Nat) : Nat :=
  (if n % w ≠ 0 ∧ bs.getD (n - 1) false = true then 1 else 0) + (if w ≤ n then (if n % w ≠ 0 ∧ bs.getD (n - w - 1) false = true then 2 else 0) + (if bs.getD (n - w) false = true then 4 else 0) + (if n % w < w - 1 ∧ bs.getD (n - w + 1) false = true then 8 else 0) else 0)
theorem ctx_lt (w : Nat) (bs : List Bool) (n : Nat) : ctx w bs n < 16 := by
  unfold ctx
  split <;> split <;> (try split) <;> (try split) <;> (try split) <;> omega
/-- it hangs on the bits before the place alone -/
theorem ctx_same {w n : Nat} {bs cs : List Bool} (hw : 0 < w) (h : ∀ i, i < n → bs.getD i false = cs.getD i false) : ctx w bs n = ctx w cs n := by
  unfold ctx
  by_cases h0 : n = 0
  · subst h0
    simp [Nat.zero_mod, show ¬ w = 0 by omega]
  rw [h (n - 1) (by omega)]
  by_cases hwn : w ≤ n
  · rw [if_pos hwn, if_pos hwn, h (n - w - 1) (by omega), h (n - w) (by omega)]
    by_cases hc : n % w < w - 1
    · rw [h (n - w + 1) (by omega)]
    · rw [if_neg (c := n % w < w - 1 ∧ bs.getD (n - w + 1) false = true) (fun z => hc z.1), if_neg (c := n % w < w - 1 ∧ cs.getD (n - w + 1) false = true) (fun z => hc z.1)]
  · rw [if_neg hwn, if_neg hwn]
end Cx_

namespace Iv
open PySem L2 Cx_
/-- how often the bit b came in the context c before place n -/
noncomputable def cnt (w : Nat) (bs : List Bool) (b : Bool) : Nat → Nat → Nat
  | 0, _ => 0
  | n + 1, c => cnt w bs b n c + if ctx w bs n = c ∧ bs.getD n false = b then 1 else 0
/-- the interval of the first n bits: low, size, whole -/
noncomputable def iv (w : Nat) (bs : List Bool) : Nat → Nat × Nat × Nat
  | 0 => (0, 1, 1)
  | n + 1 =>
    let l := (iv w bs n).1
    let s := (iv w bs n).2.1
    let h := (iv w bs n).2.2
    let z := 1 + cnt w bs false n (ctx w bs n)
    let o := 1 + cnt w bs true n (ctx w bs n)
    if bs.getD n false = true then (l * (z + o) + s * z, s * o, h * (z + o)) else (l * (z + o), s * z, h * (z + o))
theorem cnt_le (w : Nat) (bs : List Bool) (b : Bool) : ∀ n c, cnt w bs b n c ≤ n
  | 0, _ => Nat.le_refl _
  | n + 1, c => by
    have h := cnt_le w bs b n c
    unfold cnt
    split <;> omega
theorem cnt_same {w : Nat} {bs cs : List Bool} {b : Bool} (hw : 0 < w) : ∀ n c, (∀ i, i < n → bs.getD i false = cs.getD i false) → cnt w bs b n c = cnt w cs b n c
  | 0, _, _ => rfl
  | n + 1, c, h => by
    unfold cnt
    rw [cnt_same hw n c fun i hi => h i (by omega), ctx_same hw fun i hi => h i (by omega), h n (by omega)]
theorem iv_same {w : Nat} {bs cs : List Bool} (hw : 0 < w) : ∀ n, (∀ i, i < n → bs.getD i false = cs.getD i false) → iv w bs n = iv w cs n
  | 0, _ => rfl
  | n + 1, h => by
    unfold iv
    rw [iv_same hw n fun i hi => h i (by omega), cnt_same hw n _ fun i hi => h i (by omega), cnt_same hw n _ fun i hi => h i (by omega), ctx_same hw fun i hi => h i (by omega), h n (by omega)]
theorem getD_app {bs cs : List Bool} {i : Nat} (h : i < bs.length) : (bs ++ cs).getD i false = bs.getD i false := by
  rw [List.getD_eq_getElem?_getD, List.getElem?_append_left h, ← List.getD_eq_getElem?_getD]
theorem getD_len {bs cs : List Bool} {b : Bool} : (bs ++ b :: cs).getD bs.length false = b := by
  rw [List.getD_eq_getElem?_getD, List.getElem?_append_right (Nat.le_refl _), Nat.sub_self]; rfl
/-- the counts of one context after all of some bits -/
noncomputable def zs (w : Nat) (bs : List Bool) (c : Nat) : Nat := 1 + cnt w bs false bs.length c
noncomputable def os (w : Nat) (bs : List Bool) (c : Nat) : Nat := 1 + cnt w bs true bs.length c
noncomputable def lo (w : Nat) (bs : List Bool) : Nat := (iv w bs bs.length).1
noncomputable def sz (w : Nat) (bs : List Bool) : Nat := (iv w bs bs.length).2.1
noncomputable def wh (w : Nat) (bs : List Bool) : Nat := (iv w bs bs.length).2.2
/-- the context of the next bit -/
noncomputable def nx (w : Nat) (bs : List Bool) : Nat := ctx w bs bs.length
noncomputable def both (w : Nat) (bs : List Bool) : Nat := zs w bs (nx w bs) + os w bs (nx w bs)
section
variable {w : Nat} {bs : List Bool} {b : Bool} (hw : 0 < w)
include hw
theorem app_same (cs : List Bool) : ∀ i, i < bs.length → (bs ++ cs).getD i false = bs.getD i false := fun i hi => getD_app hi
theorem cnt_app (c : Nat) (b' : Bool) : cnt w (bs ++ [b]) b' (bs ++ [b]).length c = cnt w bs b' bs.length c + if nx w bs = c ∧ b = b' then 1 else 0 := by
  rw [List.length_append, List.length_singleton]
  show cnt w (bs ++ [b]) b' bs.length c + (if ctx w (bs ++ [b]) bs.length = c ∧ (bs ++ [b]).getD bs.length false = b' then 1 else 0) = _
  rw [cnt_same hw _ c (app_same hw [b]), ctx_same hw (app_same hw [b]), getD_len]; rfl
theorem zs_app (c : Nat) : zs w (bs ++ [b]) c = zs w bs c + if nx w bs = c ∧ b = false then 1 else 0 := by
  unfold zs; rw [cnt_app hw]; omega
theorem os_app (c : Nat) : os w (bs ++ [b]) c = os w bs c + if nx w bs = c ∧ b = true then 1 else 0 := by
  unfold os; rw [cnt_app hw]; omega
theorem iv_app : iv w (bs ++ [b]) (bs ++ [b]).length = if b = true then (lo w bs * both w bs + sz w bs * zs w bs (nx w bs), sz w bs * os w bs (nx w bs), wh w bs * both w bs) else (lo w bs * both w bs, sz w bs * zs w bs (nx w bs), wh w bs * both w bs) := by
  rw [List.length_append, List.length_singleton]
  rw [iv, iv_same hw bs.length (app_same hw [b]), cnt_same hw _ _ (app_same hw [b]), cnt_same hw _ _ (app_same hw [b]), ctx_same hw (app_same hw [b]), getD_len]
  rfl
theorem lo_app : lo w (bs ++ [b]) = lo w bs * both w bs + if b = true then sz w bs * zs w bs (nx w bs) else 0 := by
  unfold lo; rw [iv_app hw]; cases b <;> simp [lo]
theorem sz_app : sz w (bs ++ [b]) = if b = true then sz w bs * os w bs (nx w bs) else sz w bs * zs w bs (nx w bs) := by
  unfold sz; rw [iv_app hw]; cases b <;> simp [sz]
theorem wh_app : wh w (bs ++ [b]) = wh w bs * both w bs := by
  unfold wh; rw [iv_app hw]; cases b <;> simp [wh]
end
/-- the lists of counts as they stand -/
noncomputable def zl (w : Nat) (bs : List Bool) : List V := (List.range 16).map fun c => .int (zs w bs c : Nat)
noncomputable def ol (w : Nat) (bs : List Bool) : List V := (List.range 16).map fun c => .int (os w bs c : Nat)
theorem zl_get {w : Nat} {bs : List Bool} {c : Nat} (h : c < 16) : (zl w bs)[c]? = some (.int (zs w bs c : Nat)) := by
  unfold zl; rw [List.getElem?_map, List.getElem?_range h]; rfl
theorem ol_get {w : Nat} {bs : List Bool} {c : Nat} (h : c < 16) : (ol w bs)[c]? = some (.int (os w bs c : Nat)) := by
  unfold ol; rw [List.getElem?_map, List.getElem?_range h]; rfl
theorem set_map {f g : Nat → V} {n k : Nat} {v : V} (hk : g k = v) (h : ∀ c, c ≠ k → g c = f c) : ((List.range n).map f).set k v = (List.range n).map g := by
  apply List.ext_getElem?
  intro i
  rw [List.getElem?_set, List.getElem?_map, List.getElem?_map, List.length_map, List.length_range]
  by_cases hi : k = i
  · subst hi
    rw [if_pos rfl]
    by_cases hn : k < n
    · rw [if_pos hn, List.getElem?_range hn]; rw [← hk]; rfl
    · rw [if_neg hn, List.getElem?_eq_none (by rw [List.length_range]; omega)]; rfl
  · rw [if_neg hi]
    by_cases hn : i < n
    · rw [List.getElem?_range hn]; simp only [Option.map_some]; rw [h i (Ne.symm hi)]
    · rw [List.getElem?_eq_none (by rw [List.length_range]; omega)]; rfl
theorem zl_app0 {w : Nat} {bs : List Bool} (hw : 0 < w) : (zl w bs).set (nx w bs) (.int ((zs w bs (nx w bs) : Nat) + 1)) = zl w (bs ++ [false]) :=
  set_map (by rw [zs_app hw, if_pos ⟨rfl, rfl⟩]; rfl) fun c hc => by rw [zs_app hw, if_neg (fun z => hc z.1.symm)]; rfl
theorem zl_app1 {w : Nat} {bs : List Bool} (hw : 0 < w) : zl w bs = zl w (bs ++ [true]) :=
  List.map_congr_left fun c _ => by rw [zs_app hw, if_neg (fun z => absurd z.2 (by decide))]; rfl
theorem ol_app1 {w : Nat} {bs : List Bool} (hw : 0 < w) : (ol w bs).set (nx w bs) (.int ((os w bs (nx w bs) : Nat) + 1)) = ol w (bs ++ [true]) :=
  set_map (by rw [os_app hw, if_pos ⟨rfl, rfl⟩]; rfl) fun c hc => by rw [os_app hw, if_neg (fun z => hc z.1.symm)]; rfl
theorem ol_app0 {w : Nat} {bs : List Bool} (hw : 0 < w) : ol w bs = ol w (bs ++ [false]) :=
  List.map_congr_left fun c _ => by rw [os_app hw, if_neg (fun z => absurd z.2 (by decide))]; rfl
theorem nil_zl (w : Nat) : List.replicate 16 (V.int 1) = zl w [] := rfl
theorem nil_ol (w : Nat) : List.replicate 16 (V.int 1) = ol w [] := rfl
theorem zs_le (w : Nat) (bs : List Bool) (c : Nat) : 1 ≤ zs w bs c ∧ zs w bs c ≤ bs.length + 1 := by
  have := cnt_le w bs false bs.length c
  unfold zs; omega
theorem os_le (w : Nat) (bs : List Bool) (c : Nat) : 1 ≤ os w bs c ∧ os w bs c ≤ bs.length + 1 := by
  have := cnt_le w bs true bs.length c
  unfold os; omega
section
variable {w n : Nat} {bs : List Bool}
/-- counts from 0, as a list -/
noncomputable def cl (w : Nat) (bs : List Bool) (b : Bool) (n : Nat) : List V := (List.range 16).map fun c => .int (cnt w bs b n c : Nat)
theorem ixN_nat {n j : Nat} (hj : j < n) : ixN n (j : Int) = some j := by
  unfold ixN
  rw [if_pos (by omega), if_pos (by omega)]
  simp
end
end Iv

namespace Gx
open PySem L2
theorem bits {σ : L2.St} {H : Hp} {Q : VK} {te : TE} (q : te σ H fun x H1 => BiP x H1 Q) : tBits te σ H Q := q
theorem bip {H : Hp} {Q : VK} {i : Int} (q : Q (.int (Builtin.Int.intBits i : Nat)) H) : BiP (.int i) H Q := ⟨i, rfl, q⟩
end Gx
namespace Iv
open Cx_
/-! the interval lies in the whole -/
theorem sz_pos' {w : Nat} {bs : List Bool} : ∀ n, 0 < (iv w bs n).2.1 ∧ 0 < (iv w bs n).2.2
  | 0 => ⟨Nat.one_pos, Nat.one_pos⟩
  | n + 1 => by
    obtain ⟨h1, h2⟩ := sz_pos' (w := w) (bs := bs) n
    rw [iv]
    split
    · exact ⟨Nat.mul_pos h1 (by omega), Nat.mul_pos h2 (by omega)⟩
    · exact ⟨Nat.mul_pos h1 (by omega), Nat.mul_pos h2 (by omega)⟩
theorem in_whole {w : Nat} {bs : List Bool} : ∀ n, (iv w bs n).1 + (iv w bs n).2.1 ≤ (iv w bs n).2.2
  | 0 => Nat.le_refl _
  | n + 1 => by
    have h := in_whole (w := w) (bs := bs) n
    rw [iv]
    generalize (iv w bs n).1 = l at *
    generalize (iv w bs n).2.1 = s at *
    generalize (iv w bs n).2.2 = m at *
    generalize 1 + cnt w bs false n (ctx w bs n) = z
    generalize 1 + cnt w bs true n (ctx w bs n) = o
    have h2 := Nat.mul_le_mul_right (z + o) h
    rw [Nat.add_mul, Nat.mul_add s] at h2
    split
    · simp only []; omega
    · simp only []; omega
theorem wh_le {w : Nat} {bs : List Bool} : ∀ n, n ≤ 300 → (iv w bs n).2.2 ≤ 2 ^ (10 * n)
  | 0, _ => Nat.le_refl _
  | n + 1, hn => by
    have h := wh_le (w := w) (bs := bs) n (by omega)
    have c1 := cnt_le w bs false n (ctx w bs n)
    have c2 := cnt_le w bs true n (ctx w bs n)
    have e : (iv w bs (n + 1)).2.2 = (iv w bs n).2.2 * (1 + cnt w bs false n (ctx w bs n) + (1 + cnt w bs true n (ctx w bs n))) := by
      rw [iv]; split <;> rfl
    rw [e, show 10 * (n + 1) = 10 * n + 10 by omega, Nat.pow_add]
    exact Nat.mul_le_mul h (Nat.le_trans (show _ ≤ 602 by omega) (by decide))
theorem sz_pos (w : Nat) (bs : List Bool) : 0 < sz w bs := (sz_pos' _).1
theorem wh_pos (w : Nat) (bs : List Bool) : 0 < wh w bs := (sz_pos' _).2
theorem lo_sz (w : Nat) (bs : List Bool) : lo w bs + sz w bs ≤ wh w bs := in_whole _
end Iv
namespace Cd
/-- the first place of p from n on, within f places -/
noncomputable def first (p : Nat → Bool) : Nat → Nat → Nat
  | n, 0 => n
  | n, f + 1 => if p n = true then n else first p (n + 1) f
theorem first_spec (p : Nat → Bool) : ∀ (f n j : Nat), n ≤ j → j ≤ n + f → p j = true → p (first p n f) = true ∧ n ≤ first p n f ∧ first p n f ≤ j ∧ ∀ i, n ≤ i → i < first p n f → p i = false
  | 0, n, j, h1, h2, h3 => by
    have e : j = n := by omega
    subst e
    exact ⟨h3, Nat.le_refl _, Nat.le_refl _, fun i a b => absurd a (by unfold first at b; omega)⟩
  | f + 1, n, j, h1, h2, h3 => by
    unfold first
    by_cases h : p n = true
    · rw [if_pos h]; exact ⟨h, Nat.le_refl _, h1, fun i a b => absurd a (by omega)⟩
    · rw [if_neg h]
      have hj : n + 1 ≤ j := by
        rcases Nat.lt_or_ge n j with q | q
        · exact q
        · exact absurd (show p n = true by rw [show n = j by omega]; exact h3) h
      obtain ⟨a, b, c, d⟩ := first_spec p f (n + 1) j hj (by omega) h3
      refine ⟨a, by omega, c, fun i x y => ?_⟩
      by_cases e : i = n
      · subst e; simpa using h
      · exact d i (by omega) y
/-- the least a with a / 2^k from low / whole on -/
noncomputable def ceil (l h k : Nat) : Nat := (l * 2 ^ k + h - 1) / h
/-- its cell lies in the interval -/
noncomputable def fit (l s h k : Nat) : Bool := decide ((ceil l h k + 1) * h ≤ (l + s) * 2 ^ k)
/-- the number of digits of the shortest cell -/
noncomputable def klen (l s h : Nat) : Nat := first (fit l s h) 0 (h + 2)
theorem ceil_ge {l h k : Nat} (hh : 0 < h) : l * 2 ^ k ≤ ceil l h k * h := by
  unfold ceil
  have e := Nat.div_add_mod (l * 2 ^ k + h - 1) h
  have m := Nat.mod_lt (l * 2 ^ k + h - 1) hh
  rw [Nat.mul_comm] at e
  omega
theorem ceil_lt {l h k : Nat} (hh : 0 < h) : ceil l h k * h < l * 2 ^ k + h := by
  unfold ceil
  have e := Nat.div_mul_le_self (l * 2 ^ k + h - 1) h
  omega
theorem fit_of {l s h k : Nat} (hh : 0 < h) (g : 2 * h ≤ s * 2 ^ k) : fit l s h k = true := by
  refine decide_eq_true ?_
  have c := ceil_lt (l := l) (k := k) hh
  rw [Nat.add_mul, Nat.add_mul, Nat.one_mul]
  omega
theorem le_of_fit {l s h k : Nat} (hh : 0 < h) (g : fit l s h k = true) : h ≤ s * 2 ^ k := by
  have g2 := of_decide_eq_true g
  have c := ceil_ge (l := l) (k := k) hh
  rw [Nat.add_mul, Nat.add_mul, Nat.one_mul] at g2
  omega
theorem klen_spec {l s h : Nat} (hs : 0 < s) (hh : 0 < h) : fit l s h (klen l s h) = true ∧ ∀ i, i < klen l s h → fit l s h i = false := by
  have g : fit l s h (h + 2) = true := fit_of hh (by
    have := Nat.lt_two_pow_self (n := h)
    have e : 2 ^ (h + 2) = 4 * 2 ^ h := by rw [Nat.pow_add, Nat.mul_comm]
    have := Nat.mul_le_mul hs (Nat.le_refl (2 ^ (h + 2)))
    omega)
  obtain ⟨a, b, c, d⟩ := first_spec (fit l s h) (h + 2) 0 (h + 2) (Nat.zero_le _) (by omega) g
  exact ⟨a, fun i hi => d i (Nat.zero_le _) hi⟩
theorem klen_eq {l s h k : Nat} (hs : 0 < s) (hh : 0 < h) (g : fit l s h k = true) (m : ∀ i, i < k → fit l s h i = false) : k = klen l s h := by
  obtain ⟨a, b⟩ := klen_spec (l := l) hs hh
  rcases Nat.lt_trichotomy k (klen l s h) with q | q | q
  · have z := b k q; rw [g] at z; cases z
  · exact q
  · have z := m _ q; rw [a] at z; cases z
theorem klen_lt {l s h : Nat} (hs : 0 < s) (hh : 0 < h) (hl : l + s ≤ h) : s * 2 ^ klen l s h < 4 * h := by
  obtain ⟨a, b⟩ := klen_spec (l := l) hs hh
  cases e : klen l s h with
  | zero => rw [Nat.pow_zero, Nat.mul_one]; omega
  | succ k =>
    have z := b k (by omega)
    have n : ¬ 2 * h ≤ s * 2 ^ k := fun q => by rw [fit_of hh q] at z; cases z
    rw [Nat.pow_succ, ← Nat.mul_assoc]; omega
theorem ceil_small {l s h : Nat} (hs : 0 < s) (hh : 0 < h) (hl : l + s ≤ h) : ceil l h (klen l s h) < 2 ^ klen l s h := by
  have a := of_decide_eq_true (klen_spec (l := l) hs hh).1
  have b := Nat.mul_le_mul_right (2 ^ klen l s h) hl
  have c : (ceil l h (klen l s h) + 1) * h ≤ 2 ^ klen l s h * h := by rw [Nat.mul_comm (2 ^ _)]; exact Nat.le_trans a b
  exact Nat.le_of_mul_le_mul_right c hh
theorem klen_small {l s h b : Nat} (hs : 0 < s) (hh : 0 < h) (hl : l + s ≤ h) (hb : h ≤ 2 ^ b) : klen l s h < b + 2 := by
  have a := klen_lt (l := l) hs hh hl
  have c : 2 ^ klen l s h ≤ s * 2 ^ klen l s h := Nat.le_mul_of_pos_left _ hs
  have d : 2 ^ klen l s h < 2 ^ (b + 2) := by rw [Nat.pow_add]; omega
  exact (Nat.pow_lt_pow_iff_right (by decide)).mp d
/-- no shorter cell fits than the number of binary digits says -/
theorem bits_below {l s h i : Nat} (hs : 0 < s) (hh : 0 < h) (hi : i < PySem.Builtin.Int.intBits (((h - 1) / s : Nat) : Int)) : fit l s h i = false := by
  have e : 2 ^ i ≤ (h - 1) / s := by
    unfold PySem.Builtin.Int.intBits at hi
    generalize (h - 1) / s = x at *
    by_cases hx : x = 0
    · subst hx; simp at hi
    · have hx2 : ((x : Int) == 0) = false := by simp; omega
      rw [hx2] at hi
      simp only [Bool.false_eq_true, if_false, Int.natAbs_natCast] at hi
      exact Nat.le_trans (Nat.pow_le_pow_right (by decide) (by omega)) (Nat.log2_self_le hx)
  cases q : fit l s h i with
  | false => rfl
  | true =>
    have a := le_of_fit hh q
    have b := (Nat.le_div_iff_mul_le hs).mp e
    rw [Nat.mul_comm] at b
    omega
end Cd
namespace Iv
/-- the code of bits: so many digits, of this value -/
noncomputable def kl (w : Nat) (bs : List Bool) : Nat := Cd.klen (lo w bs) (sz w bs) (wh w bs)
noncomputable def av (w : Nat) (bs : List Bool) : Nat := Cd.ceil (lo w bs) (wh w bs) (kl w bs)
noncomputable def code (w : Nat) (bs : List Bool) : List Bool := Fb.bin (kl w bs) (av w bs)
theorem code_len (w : Nat) (bs : List Bool) : (code w bs).length = kl w bs := Fb.bin_len _ _
theorem av_lt (w : Nat) (bs : List Bool) : av w bs < 2 ^ kl w bs := Cd.ceil_small (sz_pos w bs) (wh_pos w bs) (lo_sz w bs)
theorem code_val (w : Nat) (bs : List Bool) : I2.val (code w bs) = av w bs := by
  unfold code; rw [Fb.val_bin, Nat.mod_eq_of_lt (av_lt w bs)]
theorem wh_pow {w : Nat} {bs : List Bool} (h : bs.length ≤ 300) : wh w bs ≤ 2 ^ 3000 := Nat.le_trans (wh_le _ h) (Nat.pow_le_pow_right (by decide) (by omega))
end Iv

namespace Pr
/-! products and sums over the first places -/
noncomputable def prod (f : Nat → Nat) : Nat → Nat
  | 0 => 1
  | k + 1 => prod f k * f k
noncomputable def sum (f : Nat → Nat) : Nat → Nat
  | 0 => 0
  | k + 1 => sum f k + f k
noncomputable def fct : Nat → Nat
  | 0 => 1
  | n + 1 => fct n * (n + 1)
theorem fct_pos : ∀ n, 0 < fct n
  | 0 => Nat.one_pos
  | n + 1 => Nat.mul_pos (fct_pos n) (Nat.succ_pos n)
theorem prod_pos {f : Nat → Nat} (h : ∀ i, 0 < f i) : ∀ k, 0 < prod f k
  | 0 => Nat.one_pos
  | k + 1 => Nat.mul_pos (prod_pos h k) (h k)
theorem prod_le {f g : Nat → Nat} (h : ∀ i, f i ≤ g i) : ∀ k, prod f k ≤ prod g k
  | 0 => Nat.le_refl _
  | k + 1 => Nat.mul_le_mul (prod_le h k) (h k)
theorem prod_congr {f g : Nat → Nat} : ∀ k, (∀ i, i < k → f i = g i) → prod f k = prod g k
  | 0, _ => rfl
  | k + 1, h => by unfold prod; rw [prod_congr k fun i hi => h i (by omega), h k (by omega)]
theorem prod_mul (f g : Nat → Nat) : ∀ k, prod (fun i => f i * g i) k = prod f k * prod g k
  | 0 => rfl
  | k + 1 => by
    unfold prod
    rw [prod_mul f g k]
    exact Nat.mul_mul_mul_comm ..
theorem prod_pow (f : Nat → Nat) (e : Nat) : ∀ k, prod (fun i => f i ^ e) k = prod f k ^ e
  | 0 => by simp [prod]
  | k + 1 => by unfold prod; rw [prod_pow f e k, Nat.mul_pow]
theorem prod_two (f : Nat → Nat) : ∀ k, prod (fun i => 2 ^ f i) k = 2 ^ sum f k
  | 0 => rfl
  | k + 1 => by unfold prod sum; rw [prod_two f k, Nat.pow_add]
/-- one factor grows -/
theorem prod_one {f g : Nat → Nat} {a r : Nat} : ∀ k, a < k → g a = f a * r → (∀ i, i ≠ a → g i = f i) → prod g k = prod f k * r
  | 0, h, _, _ => absurd h (by omega)
  | k + 1, h, h1, h2 => by
    unfold prod
    by_cases e : a = k
    · subst e
      rw [prod_congr (f := g) (g := f) a fun i hi => h2 i (by omega), h1, Nat.mul_assoc]
    · rw [prod_one k (by omega) h1 h2, h2 k (by omega)]
      exact Nat.mul_right_comm ..
theorem sum_one {f g : Nat → Nat} {a r : Nat} : ∀ k, a < k → g a = f a + r → (∀ i, i ≠ a → g i = f i) → sum g k = sum f k + r
  | 0, h, _, _ => absurd h (by omega)
  | k + 1, h, h1, h2 => by
    have sc : ∀ k, (∀ i, i < k → g i = f i) → sum g k = sum f k := by
      intro k
      induction k with
      | zero => intro _; rfl
      | succ k ih => intro h; unfold sum; rw [ih fun i hi => h i (by omega), h k (by omega)]
    unfold sum
    by_cases e : a = k
    · subst e
      rw [sc a fun i hi => h2 i (by omega), h1]; omega
    · rw [sum_one k (by omega) h1 h2, h2 k (by omega)]; omega
theorem fct_two : ∀ (s a b : Nat), a + b = s → fct (a + b) ≤ fct a * fct b * 2 ^ (a + b)
  | s, 0, b, _ => by
    rw [Nat.zero_add]
    show fct b ≤ 1 * fct b * 2 ^ b
    rw [Nat.one_mul]
    exact Nat.le_mul_of_pos_right _ (Nat.two_pow_pos b)
  | s, a + 1, 0, _ => by
    show fct (a + 1) ≤ fct (a + 1) * 1 * 2 ^ (a + 1)
    rw [Nat.mul_one]
    exact Nat.le_mul_of_pos_right _ (Nat.two_pow_pos _)
  | 0, a + 1, b + 1, h => by omega
  | s + 1, a + 1, b + 1, h => by
    have h1 := fct_two s a (b + 1) (by omega)
    have h2 := fct_two s (a + 1) b (by omega)
    rw [show a + 1 + (b + 1) = (a + (b + 1)) + 1 by omega]
    have e : a + 1 + b = a + (b + 1) := by omega
    rw [e] at h2
    show fct (a + (b + 1)) * (a + (b + 1) + 1) ≤ _
    rw [show a + (b + 1) + 1 = (a + 1) + (b + 1) by omega, Nat.mul_add]
    generalize fct (a + (b + 1)) = x at *
    rw [show a + 1 + (b + 1) = (a + (b + 1)) + 1 by omega, Nat.pow_succ]
    generalize 2 ^ (a + (b + 1)) = p at *
    have g1 := Nat.mul_le_mul_right (a + 1) h1
    have g2 := Nat.mul_le_mul_right (b + 1) h2
    have e1 : fct a * fct (b + 1) * p * (a + 1) = fct (a + 1) * fct (b + 1) * p := by
      show _ = fct a * (a + 1) * fct (b + 1) * p
      rw [Nat.mul_right_comm (fct a) (a + 1), Nat.mul_right_comm (fct a * fct (b + 1)) (a + 1)]
    have e2 : fct (a + 1) * fct b * p * (b + 1) = fct (a + 1) * fct (b + 1) * p := by
      show _ = fct (a + 1) * (fct b * (b + 1)) * p
      rw [← Nat.mul_assoc, Nat.mul_right_comm _ (b + 1) p]
    rw [e1] at g1
    rw [e2] at g2
    rw [← Nat.mul_assoc]
    omega
end Pr
namespace Iv
open Cx_ Pr
/-! codes are short: the whole over the size is at most a power of two -/
theorem pow16 (n : Nat) : (n + 1) ^ 16 ≤ 2 ^ (n + 51) := by
  by_cases h : n ≤ 22
  · have : ∀ m : _root_.Fin 23, (m.1 + 1) ^ 16 ≤ 2 ^ (m.1 + 51) := by decide +kernel
    exact this ⟨n, by omega⟩
  · obtain ⟨k, rfl⟩ : ∃ k, n = 22 + k := ⟨n - 22, by omega⟩
    clear h
    induction k with
    | zero => decide +kernel
    | succ k ih =>
      have step : (22 + (k + 1) + 1) ^ 16 ≤ 2 * (22 + k + 1) ^ 16 := by
        have a : (23 * (22 + (k + 1) + 1)) ^ 16 ≤ (24 * (22 + k + 1)) ^ 16 := Nat.pow_le_pow_left (by omega) 16
        rw [Nat.mul_pow, Nat.mul_pow] at a
        have b : (24 : Nat) ^ 16 ≤ 2 * 23 ^ 16 := by decide +kernel
        have c := Nat.mul_le_mul_right ((22 + k + 1) ^ 16) b
        have d : 23 ^ 16 * (22 + (k + 1) + 1) ^ 16 ≤ 23 ^ 16 * (2 * (22 + k + 1) ^ 16) := by
          refine Nat.le_trans a (Nat.le_trans c (Nat.le_of_eq ?_))
          rw [Nat.mul_comm 2 (23 ^ 16), Nat.mul_assoc]
        exact Nat.le_of_mul_le_mul_left d (by decide +kernel)
      refine Nat.le_trans step (Nat.le_trans (Nat.mul_le_mul_left 2 ih) (Nat.le_of_eq ?_))
      rw [show 22 + (k + 1) + 51 = (22 + k + 51) + 1 by omega]
      exact (Nat.pow_succ' ..).symm
theorem cnt_ne {w : Nat} {bs : List Bool} {n c : Nat} (b : Bool) (h : ¬ ctx w bs n = c) : cnt w bs b (n + 1) c = cnt w bs b n c := by
  show cnt w bs b n c + (if _ ∧ _ then 1 else 0) = _
  rw [if_neg (fun z => h z.1)]; rfl
theorem cnt_no {w : Nat} {bs : List Bool} {n c : Nat} {b : Bool} (h : ¬ bs.getD n false = b) : cnt w bs b (n + 1) c = cnt w bs b n c := by
  show cnt w bs b n c + (if _ ∧ _ then 1 else 0) = _
  rw [if_neg (fun z => h z.2)]; rfl
theorem cnt_yes {w : Nat} {bs : List Bool} {n c : Nat} {b : Bool} (h : ctx w bs n = c) (hb : bs.getD n false = b) : cnt w bs b (n + 1) c = cnt w bs b n c + 1 := by
  show cnt w bs b n c + (if _ ∧ _ then 1 else 0) = _
  rw [if_pos ⟨h, hb⟩]
/-- how many bits came in a context -/
noncomputable def many (w : Nat) (bs : List Bool) (n c : Nat) : Nat := cnt w bs false n c + cnt w bs true n c
theorem many_step (w : Nat) (bs : List Bool) (n c : Nat) : many w bs (n + 1) c = many w bs n c + if ctx w bs n = c then 1 else 0 := by
  show cnt w bs false (n + 1) c + cnt w bs true (n + 1) c = cnt w bs false n c + cnt w bs true n c + _
  by_cases h : ctx w bs n = c
  · rw [if_pos h]
    cases e : bs.getD n false
    · rw [cnt_yes h e, cnt_no (b := true) (by rw [e]; decide)]; omega
    · rw [cnt_yes h e, cnt_no (b := false) (by rw [e]; decide)]; omega
  · rw [if_neg h, cnt_ne _ h, cnt_ne _ h]; rfl
theorem many_sum (w : Nat) (bs : List Bool) : ∀ n, sum (many w bs n) 16 = n
  | 0 => rfl
  | n + 1 => by
    rw [sum_one (f := many w bs n) (a := ctx w bs n) (r := 1) 16 (ctx_lt w bs n) (by rw [many_step, if_pos rfl]) (fun i hi => by rw [many_step, if_neg (Ne.symm hi)]; rfl), many_sum w bs n]
/-- the interval by its counts: size times all (n + 1)! is the whole times all z! o! -/
theorem by_counts (w : Nat) (bs : List Bool) : ∀ n, (iv w bs n).2.1 * prod (fun c => fct (many w bs n c + 1)) 16 = (iv w bs n).2.2 * prod (fun c => fct (cnt w bs false n c) * fct (cnt w bs true n c)) 16
  | 0 => rfl
  | n + 1 => by
    have ih := by_counts w bs n
    have hc := ctx_lt w bs n
    have p1 : prod (fun c => fct (many w bs (n + 1) c + 1)) 16 = prod (fun c => fct (many w bs n c + 1)) 16 * (many w bs n (ctx w bs n) + 2) :=
      prod_one (a := ctx w bs n) 16 hc (by rw [many_step, if_pos rfl]; rfl) (fun i hi => by rw [many_step, if_neg (Ne.symm hi)])
    rw [p1]
    by_cases hb : bs.getD n false = true
    · have p2 : prod (fun c => fct (cnt w bs false (n + 1) c) * fct (cnt w bs true (n + 1) c)) 16 = prod (fun c => fct (cnt w bs false n c) * fct (cnt w bs true n c)) 16 * (1 + cnt w bs true n (ctx w bs n)) :=
        prod_one (a := ctx w bs n) 16 hc (by
          have e1 : cnt w bs false (n + 1) (ctx w bs n) = cnt w bs false n (ctx w bs n) := cnt_no (by rw [hb]; decide)
          have e2 : cnt w bs true (n + 1) (ctx w bs n) = cnt w bs true n (ctx w bs n) + 1 := cnt_yes rfl hb
          rw [e1, e2, Nat.mul_assoc, Nat.add_comm 1]; rfl) (fun i hi => by
          have e1 : ∀ b, cnt w bs b (n + 1) i = cnt w bs b n i := fun b => cnt_ne b (fun z => hi z.symm)
          rw [e1, e1])
      rw [p2, iv, if_pos hb]
      simp only []
      have e : 1 + cnt w bs false n (ctx w bs n) + (1 + cnt w bs true n (ctx w bs n)) = many w bs n (ctx w bs n) + 2 := by unfold many; omega
      rw [e, Nat.mul_mul_mul_comm, Nat.mul_comm (1 + cnt w bs true n (ctx w bs n)) (many w bs n (ctx w bs n) + 2), Nat.mul_mul_mul_comm ((iv w bs n).2.2), ih]
    · have hb2 : bs.getD n false = false := by simpa using hb
      have p2 : prod (fun c => fct (cnt w bs false (n + 1) c) * fct (cnt w bs true (n + 1) c)) 16 = prod (fun c => fct (cnt w bs false n c) * fct (cnt w bs true n c)) 16 * (1 + cnt w bs false n (ctx w bs n)) :=
        prod_one (a := ctx w bs n) 16 hc (by
          have e1 : cnt w bs true (n + 1) (ctx w bs n) = cnt w bs true n (ctx w bs n) := cnt_no (by rw [hb2]; decide)
          have e2 : cnt w bs false (n + 1) (ctx w bs n) = cnt w bs false n (ctx w bs n) + 1 := cnt_yes rfl hb2
          rw [e1, e2, Nat.mul_right_comm]; congr 1; rw [Nat.add_comm 1]; rfl) (fun i hi => by
          have e1 : ∀ b, cnt w bs b (n + 1) i = cnt w bs b n i := fun b => cnt_ne b (fun z => hi z.symm)
          rw [e1, e1])
      rw [p2, iv, if_neg hb]
      simp only []
      have e : 1 + cnt w bs false n (ctx w bs n) + (1 + cnt w bs true n (ctx w bs n)) = many w bs n (ctx w bs n) + 2 := by unfold many; omega
      rw [e, Nat.mul_mul_mul_comm, Nat.mul_comm (1 + cnt w bs false n (ctx w bs n)) (many w bs n (ctx w bs n) + 2), Nat.mul_mul_mul_comm ((iv w bs n).2.2), ih]
theorem whole_le (w : Nat) (bs : List Bool) (n : Nat) : (iv w bs n).2.2 ≤ (iv w bs n).2.1 * (2 ^ n * prod (fun c => many w bs n c + 1) 16) := by
  have h := by_counts w bs n
  have le : prod (fun c => fct (many w bs n c + 1)) 16 ≤ prod (fun c => (fct (cnt w bs false n c) * fct (cnt w bs true n c)) * (2 ^ many w bs n c * (many w bs n c + 1))) 16 := prod_le (fun c => by
    have f := fct_two _ (cnt w bs false n c) (cnt w bs true n c) rfl
    have g := Nat.mul_le_mul_right (many w bs n c + 1) f
    rw [Nat.mul_assoc] at g
    exact g) 16
  rw [prod_mul, prod_mul (fun c => 2 ^ many w bs n c), prod_two, many_sum] at le
  have pos : 0 < prod (fun c => fct (cnt w bs false n c) * fct (cnt w bs true n c)) 16 := prod_pos (fun c => Nat.mul_pos (fct_pos _) (fct_pos _)) 16
  have le2 := Nat.mul_le_mul_left ((iv w bs n).2.1) le
  rw [h, Nat.mul_left_comm] at le2
  rw [Nat.mul_comm (iv w bs n).2.2] at le2
  exact Nat.le_of_mul_le_mul_left le2 pos
theorem short {w : Nat} {bs : List Bool} (hw : 0 < w) : 16 * kl w bs < 17 * bs.length + 848 := by
  have h1 := Cd.klen_lt (sz_pos w bs) (wh_pos w bs) (lo_sz w bs)
  have h2 : wh w bs ≤ sz w bs * (2 ^ bs.length * prod (fun c => many w bs bs.length c + 1) 16) := whole_le w bs bs.length
  have h3 : sz w bs * 2 ^ kl w bs < sz w bs * (2 ^ (bs.length + 2) * prod (fun c => many w bs bs.length c + 1) 16) := by
    have e : sz w bs * (2 ^ (bs.length + 2) * prod (fun c => many w bs bs.length c + 1) 16) = 4 * (sz w bs * (2 ^ bs.length * prod (fun c => many w bs bs.length c + 1) 16)) := by
      rw [Nat.pow_add, show (2 : Nat) ^ 2 = 4 by decide, Nat.mul_comm (2 ^ bs.length) 4, Nat.mul_assoc 4, Nat.mul_left_comm (sz w bs) 4]
    rw [e]
    exact Nat.lt_of_lt_of_le h1 (Nat.mul_le_mul_left 4 h2)
  have h4 := Nat.lt_of_mul_lt_mul_left h3
  have h5 := Nat.pow_lt_pow_left h4 (show 16 ≠ 0 by decide)
  rw [Nat.mul_pow, ← prod_pow, ← Nat.pow_mul, ← Nat.pow_mul] at h5
  have h6 : prod (fun c => (many w bs bs.length c + 1) ^ 16) 16 ≤ prod (fun c => 2 ^ (many w bs bs.length c + 51)) 16 := prod_le (fun c => pow16 _) 16
  have h7 : prod (fun c => 2 ^ (many w bs bs.length c + 51)) 16 = 2 ^ (bs.length + 816) := by
    have e : (fun c => 2 ^ (many w bs bs.length c + 51)) = (fun c => 2 ^ many w bs bs.length c * 2 ^ 51) := by funext c; rw [Nat.pow_add]
    have c51 : prod (fun _ => 2 ^ 51) 16 = 2 ^ 816 := by decide +kernel
    rw [e, prod_mul, prod_two, many_sum, c51, Nat.pow_add]
  rw [h7] at h6
  have h8 := Nat.lt_of_lt_of_le h5 (Nat.mul_le_mul_left _ h6)
  rw [← Nat.pow_add] at h8
  have h9 := (Nat.pow_lt_pow_iff_right (by decide)).mp h8
  omega
end Iv

namespace Ord
open Cx_ Iv I2 Fb
/-! intervals nest; codes lie as the bits do -/
theorem cross {a x b y c z : Nat} (h1 : a * y ≤ b * x) (h2 : b * z ≤ c * y) (hy : 0 < y) : a * z ≤ c * x := by
  have g1 := Nat.mul_le_mul_right z h1
  have g2 := Nat.mul_le_mul_right x h2
  refine Nat.le_of_mul_le_mul_right (?_ : a * z * y ≤ c * x * y) hy
  rw [Nat.mul_right_comm a z y, Nat.mul_right_comm c x y]
  refine Nat.le_trans g1 ?_
  rw [Nat.mul_right_comm b x z]
  exact g2
/-- b lies in a -/
noncomputable def Nest (a b : Nat × Nat × Nat) : Prop := a.1 * b.2.2 ≤ b.1 * a.2.2 ∧ (b.1 + b.2.1) * a.2.2 ≤ (a.1 + a.2.1) * b.2.2
theorem Nest.trans {a b c : Nat × Nat × Nat} (h : 0 < b.2.2) (p : Nest a b) (q : Nest b c) : Nest a c :=
  ⟨cross p.1 q.1 h, cross q.2 p.2 h⟩
theorem Nest.refl (a : Nat × Nat × Nat) : Nest a a := ⟨Nat.le_refl _, Nat.le_refl _⟩
theorem nest_step (w : Nat) (bs : List Bool) (n : Nat) : Nest (iv w bs n) (iv w bs (n + 1)) := by
  unfold Nest
  rw [iv]
  generalize (iv w bs n).1 = l
  generalize (iv w bs n).2.1 = s
  generalize (iv w bs n).2.2 = m
  generalize 1 + cnt w bs false n (ctx w bs n) = z
  generalize 1 + cnt w bs true n (ctx w bs n) = o
  split
  · refine ⟨?_, ?_⟩
    · show l * (m * (z + o)) ≤ (l * (z + o) + s * z) * m
      rw [Nat.add_mul, Nat.mul_right_comm l (z + o) m, Nat.mul_assoc]; omega
    · show (l * (z + o) + s * z + s * o) * m ≤ (l + s) * (m * (z + o))
      rw [Nat.add_assoc, ← Nat.mul_add s, ← Nat.add_mul, Nat.mul_right_comm, Nat.mul_assoc]; exact Nat.le_refl _
  · refine ⟨?_, ?_⟩
    · show l * (m * (z + o)) ≤ (l * (z + o)) * m
      rw [Nat.mul_right_comm l (z + o) m, Nat.mul_assoc]; exact Nat.le_refl _
    · show (l * (z + o) + s * z) * m ≤ (l + s) * (m * (z + o))
      have e : (l + s) * (m * (z + o)) = (l * (z + o) + s * (z + o)) * m := by
        rw [← Nat.add_mul, Nat.mul_right_comm, Nat.mul_assoc]
      rw [e]
      exact Nat.mul_le_mul_right m (Nat.add_le_add_left (Nat.mul_le_mul_left s (Nat.le_add_right _ _)) _)
theorem nest (w : Nat) (bs : List Bool) (n : Nat) : ∀ k, Nest (iv w bs n) (iv w bs (n + k))
  | 0 => Nest.refl _
  | k + 1 => (nest w bs n k).trans (sz_pos' _).2 (nest_step w bs (n + k))
/-- bits up to the first difference -/
noncomputable def Diff (one two : List Bool) (q : List Bool) : Prop := ∃ t t', one = q ++ false :: t ∧ two = q ++ true :: t'
/-- the intervals lie apart, in order -/
theorem apart {w : Nat} {one two q : List Bool} (hw : 0 < w) (d : Diff one two q) : (lo w one + sz w one) * wh w two ≤ lo w two * wh w one := by
  obtain ⟨t, t', rfl, rfl⟩ := d
  have same : ∀ i, i < q.length → (q ++ false :: t).getD i false = (q ++ true :: t').getD i false := fun i hi => by rw [getD_app hi, getD_app hi]
  have n1 := nest w (q ++ false :: t) (q.length + 1) t.length
  have n2 := nest w (q ++ true :: t') (q.length + 1) t'.length
  rw [show q.length + 1 + t.length = (q ++ false :: t).length by rw [List.length_append, List.length_cons]; omega] at n1
  rw [show q.length + 1 + t'.length = (q ++ true :: t').length by rw [List.length_append, List.length_cons]; omega] at n2
  have e1 : iv w (q ++ false :: t) (q.length + 1) = ((iv w (q ++ false :: t) q.length).1 * (1 + cnt w (q ++ false :: t) false q.length (ctx w (q ++ false :: t) q.length) + (1 + cnt w (q ++ false :: t) true q.length (ctx w (q ++ false :: t) q.length))), (iv w (q ++ false :: t) q.length).2.1 * (1 + cnt w (q ++ false :: t) false q.length (ctx w (q ++ false :: t) q.length)), (iv w (q ++ false :: t) q.length).2.2 * (1 + cnt w (q ++ false :: t) false q.length (ctx w (q ++ false :: t) q.length) + (1 + cnt w (q ++ false :: t) true q.length (ctx w (q ++ false :: t) q.length)))) := by
    rw [iv, if_neg (by rw [getD_len]; decide)]
  have e2 : iv w (q ++ true :: t') (q.length + 1) = ((iv w (q ++ false :: t) q.length).1 * (1 + cnt w (q ++ false :: t) false q.length (ctx w (q ++ false :: t) q.length) + (1 + cnt w (q ++ false :: t) true q.length (ctx w (q ++ false :: t) q.length))) + (iv w (q ++ false :: t) q.length).2.1 * (1 + cnt w (q ++ false :: t) false q.length (ctx w (q ++ false :: t) q.length)), (iv w (q ++ false :: t) q.length).2.1 * (1 + cnt w (q ++ false :: t) true q.length (ctx w (q ++ false :: t) q.length)), (iv w (q ++ false :: t) q.length).2.2 * (1 + cnt w (q ++ false :: t) false q.length (ctx w (q ++ false :: t) q.length) + (1 + cnt w (q ++ false :: t) true q.length (ctx w (q ++ false :: t) q.length)))) := by
    rw [iv, if_pos getD_len, iv_same hw _ same, cnt_same hw _ _ same, cnt_same hw _ _ same, ctx_same hw same]
  have pos : 0 < (iv w (q ++ false :: t) (q.length + 1)).2.2 := (sz_pos' _).2
  have a1 := n1.2
  have a2 := n2.1
  rw [e1] at a1
  rw [e2] at a2
  rw [e1] at pos
  exact cross a1 a2 pos
theorem val_cons (b : Bool) (t : List Bool) : val (b :: t) = dv b * 2 ^ t.length + val t := by
  suffices h : ∀ (t : List Bool) (a : Nat), t.foldl (fun a b => a * 2 + dv b) a = a * 2 ^ t.length + val t by
    show t.foldl (fun a b => a * 2 + dv b) (0 * 2 + dv b) = _
    rw [h, Nat.zero_mul, Nat.zero_add]
  intro t
  induction t with
  | nil => intro a; show a = a * 1 + 0; omega
  | cons c t ih =>
    intro a
    show t.foldl (fun a b => a * 2 + dv b) (a * 2 + dv c) = a * 2 ^ (t.length + 1) + t.foldl (fun a b => a * 2 + dv b) (0 * 2 + dv c)
    rw [ih, ih, Nat.add_mul, Nat.pow_succ, Nat.mul_comm (2 ^ t.length) 2, ← Nat.mul_assoc, Nat.zero_mul, Nat.zero_add]
    omega
end Ord

namespace Mu
open PySem L2
noncomputable def rMulS : R2 := fun x y H Q => ∃ (z : Str) (n : Int), x = .str z ∧ y = .int n ∧ MulOk z n ∧ Q (.str (Txt.mul z n)) H
theorem o_mulS {X : Cx} : OpR X (binaryOp .Mult) rMulS := by
  intro pins s σ H x y v u Q I rx ry h
  obtain ⟨z, n, rfl, rfl, ok, q⟩ := h
  obtain ⟨t, rfl⟩ := rx
  obtain ⟨t2, rfl⟩ := ry
  exact SB.mul ok fun t' k => ⟨.str _, H, I.tok k, ⟨t', rfl⟩, q⟩
theorem cps_fold (a : Array Nat) : ∀ (k : Nat) (acc : Array Nat), ((List.replicate k a).foldl (· ++ ·) acc).toList = acc.toList ++ (List.replicate k a.toList).flatten
  | 0, acc => by simp
  | k + 1, acc => by
    rw [List.replicate_succ, List.foldl_cons, cps_fold a k, List.replicate_succ, List.flatten_cons, Array.toList_append, List.append_assoc]
/-- a text so many times -/
theorem mul_list (z : Str) (k : Nat) : Txt.mul z (k : Int) = ⟨((List.replicate k z.cps.toList).flatten).toArray⟩ := by
  unfold Txt.mul
  by_cases h0 : k = 0
  · subst h0; rfl
  rw [if_neg (by omega)]
  by_cases h1 : (((k : Int) == 1) || z.length == 0) = true
  · rw [if_pos h1]
    rw [Bool.or_eq_true] at h1
    rcases h1 with h | h
    · have e : (k : Int) = 1 := by simpa using h
      have : k = 1 := by omega
      subst this; simp
    · have hz : z.cps = #[] := by
        have : z.cps.size = 0 := by simpa [Str.length] using h
        exact Array.eq_empty_of_size_eq_zero this
      obtain ⟨c⟩ := z
      dsimp only at hz
      subst hz
      simp
  · rw [if_neg h1, Int.toNat_natCast]
    congr 1
    apply Array.ext'
    rw [cps_fold]; simp
theorem mul_S (bs : List Bool) (k : Nat) : Txt.mul (Bs.S bs) (k : Int) = Bs.S (List.replicate k bs).flatten := by
  rw [mul_list]
  show Str.mk _ = Str.mk _
  congr 2
  show (List.replicate k (bs.map Bs.cd)).flatten = ((List.replicate k bs).flatten).map Bs.cd
  rw [List.map_flatten, List.map_replicate]
theorem mulB {bs : List Bool} {k : Nat} {H : Hp} {Q : VK} (h : bs.length ≤ 4) (hk : k ≤ 1000000) (q : Q (.str (Bs.S (List.replicate k bs).flatten)) H) : rMulS (.str (Bs.S bs)) (.int (k : Int)) H Q :=
  ⟨_, _, rfl, rfl, PyProof.Rows.mulOk_of 4 1000000 (by rw [Bs.len]; exact h) (by omega) (by omega) (by decide) (by decide), by rw [mul_S]; exact q⟩
theorem flat1 (b : Bool) (k : Nat) : (List.replicate k [b]).flatten = List.replicate k b := by simp
end Mu

namespace Kn
open PySem L2 Iv Cd Ord I2 Fb Cx_
/-! what a prefix of a code tells -/
theorem val_app2 (c r : List Bool) : val (c ++ r) = val c * 2 ^ r.length + val r := by
  induction c with
  | nil => show val r = 0 * _ + _; rw [Nat.zero_mul, Nat.zero_add]
  | cons b c ih =>
    rw [List.cons_append, val_cons, ih, val_cons, List.length_append, Nat.pow_add, Nat.add_mul, Nat.mul_assoc, Nat.add_assoc]
theorem val_inj {a b : List Bool} (hl : a.length = b.length) (h : val a = val b) : a = b := by
  have e1 := bin_val a
  have e2 := bin_val b
  rw [hl, h, e2] at e1
  exact e1.symm
section
variable {w m : Nat} {c p bs : List Bool}
/-- the code's cell lies in that of what it starts with -/
theorem cell_in (h : c <+: code w bs) : val c * 2 ^ kl w bs ≤ av w bs * 2 ^ c.length ∧ (av w bs + 1) * 2 ^ c.length ≤ (val c + 1) * 2 ^ kl w bs := by
  obtain ⟨r, hr⟩ := h
  have hk : kl w bs = c.length + r.length := by rw [← code_len, ← hr, List.length_append]
  have hv : av w bs = val c * 2 ^ r.length + val r := by rw [← code_val, ← hr, val_app2]
  have hlt := val_lt r
  rw [hk, hv, Nat.pow_add]
  generalize val c = a
  generalize val r = b at *
  generalize 2 ^ r.length = R at *
  generalize 2 ^ c.length = C
  constructor
  · rw [Nat.add_mul, Nat.mul_comm C R, ← Nat.mul_assoc]; omega
  · rw [Nat.mul_comm C R, ← Nat.mul_assoc]
    exact Nat.mul_le_mul_right C (by rw [Nat.add_mul]; omega)
theorem of_cell (h1 : val c * 2 ^ kl w bs ≤ av w bs * 2 ^ c.length) (h2 : (av w bs + 1) * 2 ^ c.length ≤ (val c + 1) * 2 ^ kl w bs) : c <+: code w bs := by
  have hk : c.length ≤ kl w bs := by
    have : 2 ^ c.length ≤ 2 ^ kl w bs := by
      rw [Nat.add_mul, Nat.add_mul, Nat.one_mul, Nat.one_mul] at h2; omega
    exact (Nat.pow_le_pow_iff_right (by decide)).mp this
  obtain ⟨d, hd⟩ : ∃ d, kl w bs = c.length + d := ⟨kl w bs - c.length, by omega⟩
  have hl : (code w bs).length = c.length + d := by rw [code_len, hd]
  have hs : code w bs = (code w bs).take c.length ++ (code w bs).drop c.length := (List.take_append_drop _ _).symm
  have hv : av w bs = val ((code w bs).take c.length) * 2 ^ d + val ((code w bs).drop c.length) := by
    have : val (code w bs) = val ((code w bs).take c.length ++ (code w bs).drop c.length) := by rw [← hs]
    rw [← code_val, this, val_app2, List.length_drop, hl, Nat.add_sub_cancel_left]
  have hlt : val ((code w bs).drop c.length) < 2 ^ d := by
    have := val_lt ((code w bs).drop c.length)
    rwa [List.length_drop, hl, Nat.add_sub_cancel_left] at this
  have hlc := val_lt c
  have e : (code w bs).take c.length = c := by
    refine val_inj (by rw [List.length_take, hl]; omega) ?_
    rw [hd, Nat.pow_add, hv] at h1
    rw [hd, Nat.pow_add, hv] at h2
    generalize val ((code w bs).take c.length) = t at *
    generalize val ((code w bs).drop c.length) = r at *
    generalize val c = a at *
    have pc : 0 < 2 ^ c.length := Nat.two_pow_pos _
    generalize 2 ^ c.length = C at *
    generalize 2 ^ d = R at *
    have g1 : a * R ≤ t * R + r := Nat.le_of_mul_le_mul_right (c := C) (by rw [Nat.mul_assoc a R C, Nat.mul_comm R C]; exact h1) pc
    have g2 : t * R + r + 1 ≤ (a + 1) * R := Nat.le_of_mul_le_mul_right (c := C) (by rw [Nat.mul_assoc (a + 1) R C, Nat.mul_comm R C]; exact h2) pc
    rcases Nat.lt_trichotomy t a with q | q | q
    · have := Nat.mul_le_mul_right R (show t + 1 ≤ a from q)
      rw [Nat.add_mul] at this; omega
    · exact q
    · have := Nat.mul_le_mul_right R (show a + 1 ≤ t from q)
      omega
  exact List.prefix_iff_eq_take.mpr e.symm
theorem in_low (w : Nat) (bs : List Bool) : lo w bs * 2 ^ kl w bs ≤ av w bs * wh w bs := ceil_ge (wh_pos w bs)
theorem in_top (w : Nat) (bs : List Bool) : (av w bs + 1) * wh w bs ≤ (lo w bs + sz w bs) * 2 ^ kl w bs := of_decide_eq_true (klen_spec (sz_pos w bs) (wh_pos w bs)).1
/-- bits whose interval lies in the cell are possible -/
theorem inside (h1 : val c * wh w bs ≤ lo w bs * 2 ^ c.length) (h2 : (lo w bs + sz w bs) * 2 ^ c.length ≤ (val c + 1) * wh w bs) : c <+: code w bs :=
  of_cell (cross h1 (in_low w bs) (wh_pos w bs)) (cross (in_top w bs) h2 (wh_pos w bs))
theorem meets_low (h : c <+: code w bs) : lo w bs * 2 ^ c.length < (val c + 1) * wh w bs := by
  have h2 := cross (a := av w bs + 1) (x := 2 ^ kl w bs) (b := val c + 1) (y := 2 ^ c.length) (c := lo w bs) (z := wh w bs) (cell_in h).2
  rcases Nat.lt_or_ge (lo w bs * 2 ^ c.length) ((val c + 1) * wh w bs) with q | q
  · exact q
  · have g := h2 q (Nat.two_pow_pos _)
    have l := in_low w bs
    have := wh_pos w bs
    rw [Nat.add_mul] at g; omega
theorem meets_top (h : c <+: code w bs) : val c * wh w bs < (lo w bs + sz w bs) * 2 ^ c.length := by
  rcases Nat.lt_or_ge (val c * wh w bs) ((lo w bs + sz w bs) * 2 ^ c.length) with q | q
  · exact q
  · have g := cross q (cell_in h).1 (Nat.two_pow_pos _)
    have l := in_top w bs
    have := wh_pos w bs
    rw [Nat.add_mul] at l; omega
end
/-! the border -/
noncomputable def tp (w : Nat) (p : List Bool) : Nat := lo w p * both w p + sz w p * zs w p (nx w p)
noncomputable def bt (w : Nat) (p : List Bool) : Nat := wh w p * both w p
theorem bt_pos (w : Nat) (p : List Bool) : 0 < bt w p := Nat.mul_pos (wh_pos w p) (by unfold both; have := zs_le w p (nx w p); omega)
theorem nest_app {w : Nat} (hw : 0 < w) (p t : List Bool) : Nest (lo w p, sz w p, wh w p) (lo w (p ++ t), sz w (p ++ t), wh w (p ++ t)) := by
  have n := nest w (p ++ t) p.length t.length
  have e : iv w (p ++ t) p.length = iv w p p.length := iv_same hw _ fun i hi => getD_app hi
  rw [e, ← List.length_append] at n
  exact n
theorem up_ge {w : Nat} (hw : 0 < w) (p t : List Bool) : tp w p * wh w (p ++ true :: t) ≤ lo w (p ++ true :: t) * bt w p := by
  have n := (nest_app hw (p ++ [true]) t).1
  rw [List.append_assoc] at n
  simp only [] at n
  rw [lo_app hw, wh_app hw, if_pos rfl] at n
  exact n
theorem dn_le {w : Nat} (hw : 0 < w) (p t : List Bool) : (lo w (p ++ false :: t) + sz w (p ++ false :: t)) * bt w p ≤ tp w p * wh w (p ++ false :: t) := by
  have n := (nest_app hw (p ++ [false]) t).2
  rw [List.append_assoc] at n
  simp only [] at n
  rw [lo_app hw, wh_app hw, sz_app hw, if_neg (by decide), if_neg (by decide), Nat.add_zero] at n
  exact n
noncomputable def lower (m : Nat) (p : List Bool) : List Bool := p ++ false :: List.replicate (m - p.length - 1) true
noncomputable def upper (m : Nat) (p : List Bool) : List Bool := p ++ true :: List.replicate (m - p.length - 1) false
theorem lower_len {m : Nat} {p : List Bool} (h : p.length < m) : (lower m p).length = m := by
  unfold lower; rw [List.length_append, List.length_cons, List.length_replicate]; omega
theorem upper_len {m : Nat} {p : List Bool} (h : p.length < m) : (upper m p).length = m := by
  unfold upper; rw [List.length_append, List.length_cons, List.length_replicate]; omega
theorem below_ones : ∀ (t : List Bool), t ≠ List.replicate t.length true → ∃ q, Diff t (List.replicate t.length true) q
  | [], h => absurd rfl h
  | false :: t, _ => ⟨[], t, List.replicate t.length true, rfl, rfl⟩
  | true :: t, h => by
    obtain ⟨q, u, u', e1, e2⟩ := below_ones t (fun z => h (by rw [List.length_cons, List.replicate_succ, ← z]))
    exact ⟨true :: q, u, u', by rw [e1]; rfl, by rw [List.length_cons, List.replicate_succ, e2]; rfl⟩
theorem above_zeros : ∀ (t : List Bool), t ≠ List.replicate t.length false → ∃ q, Diff (List.replicate t.length false) t q
  | [], h => absurd rfl h
  | true :: t, _ => ⟨[], List.replicate t.length false, t, rfl, rfl⟩
  | false :: t, h => by
    obtain ⟨q, u, u', e1, e2⟩ := above_zeros t (fun z => h (by rw [List.length_cons, List.replicate_succ, ← z]))
    exact ⟨false :: q, u, u', by rw [List.length_cons, List.replicate_succ, e1]; rfl, by rw [e2]; rfl⟩
theorem diff_app {a b q : List Bool} (r : List Bool) (d : Diff a b q) : Diff (r ++ a) (r ++ b) (r ++ q) := by
  obtain ⟨t, t', rfl, rfl⟩ := d
  exact ⟨t, t', by rw [List.append_assoc], by rw [List.append_assoc]⟩
section
variable {w m : Nat} {c p : List Bool} (hw : 0 < w)
include hw
theorem no_one (h : (val c + 1) * bt w p ≤ tp w p * 2 ^ c.length) (t : List Bool) : ¬ c <+: code w (p ++ true :: t) := fun z => by
  have g := cross h (up_ge hw p t) (bt_pos w p)
  exact absurd (meets_low z) (by omega)
theorem no_zero (h : tp w p * 2 ^ c.length ≤ val c * bt w p) (t : List Bool) : ¬ c <+: code w (p ++ false :: t) := fun z => by
  have g := cross (dn_le hw p t) h (bt_pos w p)
  exact absurd (meets_top z) (by omega)
theorem to_lower (h : ¬ (val c + 1) * bt w p ≤ tp w p * 2 ^ c.length) {t : List Bool} (hl : (p ++ false :: t).length = m) (z : c <+: code w (p ++ false :: t)) : c <+: code w (lower m p) := by
  have hm : m - p.length - 1 = t.length := by rw [← hl, List.length_append, List.length_cons]; omega
  unfold lower
  rw [hm]
  by_cases e : t = List.replicate t.length true
  · rw [← e]; exact z
  · obtain ⟨q, d⟩ := below_ones t e
    have d2 := diff_app (p ++ [false]) d
    rw [List.append_assoc, List.append_assoc, List.singleton_append, List.singleton_append] at d2
    have ap := apart hw d2
    refine inside ?_ ?_
    · exact cross (Nat.le_of_lt (meets_top z)) ap (wh_pos w _)
    · exact cross (dn_le hw p _) (Nat.le_of_lt (by omega)) (bt_pos w p)
theorem to_upper (h : ¬ tp w p * 2 ^ c.length ≤ val c * bt w p) {t : List Bool} (hl : (p ++ true :: t).length = m) (z : c <+: code w (p ++ true :: t)) : c <+: code w (upper m p) := by
  have hm : m - p.length - 1 = t.length := by rw [← hl, List.length_append, List.length_cons]; omega
  unfold upper
  rw [hm]
  by_cases e : t = List.replicate t.length false
  · rw [← e]; exact z
  · obtain ⟨q, d⟩ := above_zeros t e
    have d2 := diff_app (p ++ [true]) d
    rw [List.append_assoc, List.append_assoc, List.singleton_append, List.singleton_append] at d2
    have ap := apart hw d2
    refine inside ?_ ?_
    · exact cross (Nat.le_of_lt (by omega)) (up_ge hw p _) (bt_pos w p)
    · exact cross ap (Nat.le_of_lt (meets_low z)) (wh_pos w _)
end
/-- all possible bits go on from p -/
noncomputable def From (w m : Nat) (c p : List Bool) : Prop := ∀ bs, bs.length = m → c <+: code w bs → p <+: bs
/-- the known prefix, or none -/
noncomputable def Known (w m : Nat) (c : List Bool) : Option (List Bool) → Prop
  | none => ∀ bs, bs.length = m → ¬ c <+: code w bs
  | some p => p.length ≤ m ∧ From w m c p ∧ (p.length = m → c <+: code w p) ∧ (p.length < m → c <+: code w (lower m p) ∧ c <+: code w (upper m p))
theorem next_or {p bs : List Bool} (h : p <+: bs) (hl : p.length < bs.length) : (∃ t, bs = p ++ false :: t) ∨ ∃ t, bs = p ++ true :: t := by
  obtain ⟨r, rfl⟩ := h
  cases r with
  | nil => rw [List.append_nil] at hl; omega
  | cons b t =>
    cases b with
    | false => exact .inl ⟨t, rfl⟩
    | true => exact .inr ⟨t, rfl⟩
theorem pre_zero (p t : List Bool) : (p ++ [false]) <+: (p ++ false :: t) := ⟨t, by rw [List.append_assoc]; rfl⟩
theorem pre_one (p t : List Bool) : (p ++ [true]) <+: (p ++ true :: t) := ⟨t, by rw [List.append_assoc]; rfl⟩
theorem sw (a b : List Bool) : PySem.Txt.startswith (Bs.S a) (Bs.S b) = decide (b <+: a) := by
  unfold PySem.Txt.startswith
  rw [PySem.StrLaws.subAt_eq, Bs.len, Bs.len, List.drop_zero, Nat.zero_add]
  show (decide (b.length ≤ a.length) && ((a.map Bs.cd).take b.length == b.map Bs.cd)) = _
  rw [← List.map_take, Bool.eq_iff_iff, Bool.and_eq_true, decide_eq_true_iff, decide_eq_true_iff, beq_iff_eq]
  constructor
  · rintro ⟨_, h⟩
    exact List.prefix_iff_eq_take.mpr (List.map_inj_right (f := Bs.cd) (fun _ _ => Bs.cd_inj) |>.mp h).symm
  · intro h
    exact ⟨h.length_le, by rw [← List.prefix_iff_eq_take.mp h]⟩
end Kn

namespace Gd
/-- the tile of a pixel, and its place there -/
noncomputable def tileOf (w t n : Nat) : Nat := n / w / t * ac w t + n % w / t
noncomputable def placeOf (w t n : Nat) : Nat := n / w % t * sd w t (n % w / t) + n % w % t
end Gd

namespace Gd
/-- the k-th key: channel, tile, plane -/
noncomputable def ky (T c d k : Nat) : List Int := [(k : Int) / (T : Int) % (c : Int), (k : Int) % (T : Int), (d : Int) - 1 - (k : Int) / (T : Int) / (c : Int)]
theorem ky_at {T c d k : Nat} (hc : 0 < c) : ky T c d k = [((k / T % c : Nat) : Int), ((k % T : Nat) : Int), (d : Int) - 1 - ((k / T / c : Nat) : Int)] := by
  unfold ky
  rw [Int.natCast_emod, Int.natCast_emod, Int.natCast_ediv, Int.natCast_ediv, Int.natCast_ediv]
theorem ky_back {T c k : Nat} : (k / T / c * c + k / T % c) * T + k % T = k := by
  rw [Nat.div_add_mod' (k / T) c, Nat.div_add_mod' k T]
end Gd

namespace Gd
open PySem L2
/-- the m-th pixel of tile k -/
noncomputable def pix (w t k m : Nat) : Nat := (k / ac w t * t + m / sd w t (k % ac w t)) * w + (k % ac w t * t + m % sd w t (k % ac w t))
section
variable {w h t k m n : Nat} (hw : 0 < w) (ht : 0 < t) (hk : k < ac w t * ac h t)
include hw ht hk
end
/-- how often a pixel was seen: the tiles below k are done, of tile k the places below m -/
noncomputable def sv (w t k m n : Nat) : Int := if tileOf w t n < k ∨ (tileOf w t n = k ∧ placeOf w t n < m) then 1 else 0
section
variable {w h t k m : Nat} (hw : 0 < w) (ht : 0 < t) (hk : k < ac w t * ac h t)
include hw ht hk
end
/-- all that stands but one object stands -/
noncomputable def Off (s : Addr) (H H' : Hp) : Prop := ∀ a o, H a = some o → a ≠ s → H' a = some o
theorem Off.of {s : Addr} {H H' : Hp} (e : Same H H') : Off s H H' := fun a o h _ => e a o h
theorem Off.trans {s : Addr} {H H1 H2 : Hp} (e : Off s H H1) (f : Off s H1 H2) : Off s H H2 := fun a o h n => f a o (e a o h n) n
theorem Off.up {s : Addr} {H H' : Hp} {o : HO} (e : Off s H H') : Off s H (upd H' s o) := fun a u h n => by rw [upd_ne n]; exact e a u h n
end Gd

/-! max(xs, default=d) -/
namespace Mx
open PySem PySem.Spec PyProof.Rows
section
variable {prog : Program} {w : World} {A : Around} {R : Result → Shared → Prop} {I : Addr} {fp wr : List Addr} {n : Nat} {P : Nat → Value → Prop} {St : Nat → Heap → Prop} {d : Value}
/-- the best so far, as the loop holds it: nothing, or the item twice -/
noncomputable def Held (bt : Nat → Nat → Bool) (P : Nat → Value → Prop) (j : Nat) (z : Array Value) : Prop := (j = 0 ∧ z = #[]) ∨ ∃ i v, j = i + 1 ∧ z = #[v, v] ∧ P (argBest bt i) v
noncomputable def lst_ (z : Array Value) (c : Nat) : Obj := { cls := .type "list", dict := none, data := .seq z c, slots := #[] }
theorem go (W : Walks prog w A.in1 I fp wr n P St) (bt : Nat → Nat → Bool) (hc : CmpOf prog w A.in1 .Gt P bt) (B : Addr) (hB : B ∉ fp) :
    ∀ (k j : Nat) (s : Shared) (z : Array Value) (c : Nat), n - j = k → j ≤ n → St j s.heap → Held bt P j z → s.heap.get? B = some (lst_ z c) →
    (∀ v h' tk, ((n = 0 ∧ v = d) ∨ (0 < n ∧ P (argBest bt (n - 1)) v)) → (∀ b o, b ∉ wr → b ≠ B → s.heap.get? b = some o → h'.get? b = some o) → R (.ok (.ret v)) { s with heap := h', toks := tk }) →
    codeAny (model prog w) A (.builtin "max.loop" ⟨[.ref I, .none, .ref B], [(Str.ofString "default", d)]⟩) R s := by
  have hw : B ∉ wr := fun h => hB (W.sub _ h)
  have nm : (toString "max" ++ toString ".loop" : String) = "max.loop" := by decide
  intro k
  induction k with
  | zero =>
    intro j s z c hk hj hst hh g hR
    have hin : j = n := by omega
    subst hin
    refine codeAny_builtin F.entry_max_loop ?_
    rw [Around.under_plainId F.plain_max_loop _]
    show wpAny _ A.in1 (seqItems? (.ref B) >>= _) _ _ s
    refine wpAny_bind (wpAny_seqItems g rfl ?_)
    show wpAny _ A.in1 (tryCatch (pyNext (.ref I)) _ >>= _) _ _ s
    refine wpAny_bind (wpAny_tryCatch (W.done s _ _ hst fun h' tk kp => ?_))
    have g' := kp B _ hw g
    rcases hh with ⟨h0, rfl⟩ | ⟨i, v, rfl, rfl, hv⟩
    · show wpAny _ A.in1 (rule "max.default" >>= fun _ => ret d) _ _ _
      refine wpAny_bind (wpAny_rule ?_)
      refine wpAny_pure ?_
      exact hR d h' tk (.inl ⟨h0, rfl⟩) fun b o hb _ e => kp b o hb e
    · show wpAny _ A.in1 (updateSeq B (fun _ => #[]) >>= _) _ _ _
      refine wpAny_bind ?_
      refine wpAny_updateSeq g' rfl (wpAny_bind (wpAny_letGo (wpAny_pure ?_)))
      exact hR v _ tk (.inr ⟨by omega, hv⟩) fun b o hb hbB e => (Heap.get?_update_other _ _ (Ne.symm hbB)).trans (kp b o hb e)
  | succ k ih =>
    intro j s z c hk hj hst hh g hR
    have hlt : j < n := by omega
    refine codeAny_builtin F.entry_max_loop ?_
    rw [Around.under_plainId F.plain_max_loop _]
    show wpAny _ A.in1 (seqItems? (.ref B) >>= _) _ _ s
    refine wpAny_bind (wpAny_seqItems g rfl ?_)
    show wpAny _ A.in1 (tryCatch (pyNext (.ref I)) _ >>= _) _ _ s
    refine wpAny_bind (wpAny_tryCatch (W.item j s _ _ hlt hst fun v h' tk hP hst' kp => ?_))
    have g' := kp B _ hw g
    rcases hh with ⟨h0, rfl⟩ | ⟨i, u, rfl, rfl, hu⟩
    · subst h0
      show wpAny _ A.in1 (updateSeq B (fun _ => #[v, v]) >>= _) _ _ _
      refine wpAny_bind ?_
      refine wpAny_updateSeq g' rfl ?_
      rw [nm]
      refine wpAny_pure ⟨plainId_quiet F.plain_max_loop _, ih 1 _ _ _ (by omega) hlt (W.frame _ _ _ hst' fun b hbf o e => ?_) (.inr ⟨0, v, rfl, rfl, hP⟩) (Heap.get?_update_self _ g' rfl) fun v' h'' tk'' hP' k'' => ?_⟩
      · exact (Heap.get?_update_other _ _ (fun q : B = b => hB (by rw [q]; exact hbf))).trans e
      · exact hR v' h'' tk'' hP' fun b o hb hbB e => k'' b o hb hbB ((Heap.get?_update_other _ _ (Ne.symm hbB)).trans (kp b o hb e))
    show wpAny _ A.in1 (tryCatch (holding [v, v] (richCompare .Gt v u >>= _)) _ >>= _) _ _ _
    refine wpAny_bind (wpAny_tryCatch (wpAny_holding (wpAny_bind (hc (i + 1) (argBest bt i) v u _ _ _ hP hu ?_))))
    refine wpAny_bind (wpAny_holding (wpAny_truthy_bool ?_))
    refine wpAny_bind (wpAny_letGo (wpAny_pure ?_))
    cases hb : bt (i + 1) (argBest bt i) with
    | true =>
      simp only [if_true]
      refine wpAny_bind ?_
      refine wpAny_updateSeq g' rfl (wpAny_bind (wpAny_letGo ?_))
      rw [nm]
      refine wpAny_pure ⟨plainId_quiet F.plain_max_loop _, ih (i + 1 + 1) _ _ _ (by omega) hlt (W.frame _ _ _ hst' fun b hbf o e => ?_) (.inr ⟨i + 1, v, rfl, rfl, by simp only [argBest, hb, if_true]; exact hP⟩) (Heap.get?_update_self _ g' rfl) fun v' h'' tk'' hP' k'' => ?_⟩
      · exact (Heap.get?_update_other _ _ (fun q : B = b => hB (by rw [q]; exact hbf))).trans e
      · exact hR v' h'' tk'' hP' fun b o hb hbB e => k'' b o hb hbB ((Heap.get?_update_other _ _ (Ne.symm hbB)).trans (kp b o hb e))
    | false =>
      simp only [Bool.false_eq_true, if_false]
      refine wpAny_bind (wpAny_letGo ?_)
      rw [nm]
      refine wpAny_pure ⟨plainId_quiet F.plain_max_loop _, ih (i + 1 + 1) _ _ c (by omega) hlt hst' (.inr ⟨i + 1, u, rfl, rfl, by simp only [argBest, hb, Bool.false_eq_true, if_false]; exact hu⟩) g' fun v' h'' tk'' hP' k'' => ?_⟩
      exact hR v' h'' tk'' hP' fun b o hb hbB e => k'' b o hb hbB (kp b o hb e)
end
section
variable {prog : Program} {w : World} {A : Around} {E : Value → Shared → Prop} {s : Shared} {l : Addr} {xs : Array (Int × Tok)} {d : Value}
end
end Mx
namespace Mx
open PySem L2 PyProof.Rows
variable {X : Cx}
section
variable {K : PySem.W.Frag} {σ : L2.St} {H : Hp} {Q : VK} {tr tk : TA}
theorem ckw {r : List V → List V → Hp → VK → Prop} (q : tr σ H fun vs H1 => tk σ H1 fun zs H2 => r vs zs H2 Q) : tCKw r tr tk σ H Q := q
end
end Mx
local macro_rules | `(tactic| walk_at "go1") => `(tactic| (first
  | with_reducible refine Mx.ckw ?_))

namespace Rg
open PySem L2 Gd
/-- the bounds of a frame's numbers -/
structure Dim (w h d c t : Nat) : Prop where
  w1 : 1 ≤ w
  w2 : w ≤ 64
  h1 : 1 ≤ h
  h2 : h ≤ 64
  d1 : 1 ≤ d
  d2 : d ≤ 8
  c1 : c = 1 ∨ c = 3
  t1 : 1 ≤ t
  t2 : t ≤ 16
  sz : w * h * c ≤ 3072
theorem Dim.ok {w h d c t : Nat} (D : Dim w h d c t) : Gd.ac w t ≤ 64 ∧ Gd.ac h t ≤ 64 ∧ 0 < Gd.ac w t ∧ 0 < Gd.ac h t ∧ 0 < Gd.ac w t * Gd.ac h t ∧ Gd.ac w t * Gd.ac h t ≤ 64 * 64 ∧ 1 ≤ c ∧ c ≤ 3 ∧ 0 < w * h ∧ w * h ≤ 64 * 64 := by
  obtain ⟨a1, a2, a3, a4, a5, a6, a7, a8, a9, a10⟩ := D
  have l1 := ac_le (n := w) (t := t) (by omega)
  have l2 := ac_le (n := h) (t := t) (by omega)
  have p1 := ac_pos (n := w) (t := t) (by omega) (by omega)
  have p2 := ac_pos (n := h) (t := t) (by omega) (by omega)
  exact ⟨by omega, by omega, p1, p2, Nat.mul_pos p1 p2, Nat.mul_le_mul (by omega) (by omega), by omega, by omega, Nat.mul_pos (by omega) (by omega), Nat.mul_le_mul a2 a4⟩
noncomputable def tileBox (w h t k : Nat) : Nat := sd h t (k / ac w t) * sd w t (k % ac w t)
/-- a list of regions stands at l -/
noncomputable def RL (H : Hp) (l : Addr) (rs : List (List Int)) : Prop := Gx.TL H l rs.length (fun j => rs.getD j [])
theorem RL.keep {H H' : Hp} {l : Addr} {rs : List (List Int)} (x : RL H l rs) (s : Same H H') : RL H' l rs := Gx.TL.keep x s
theorem RL.all {H : Hp} {l : Addr} {rs : List (List Int)} (x : RL H l rs) : ∃ xs, H l = some (.lst xs) ∧ xs.length = rs.length ∧ ∀ j v, xs[j]? = some v → ∃ a, v = .ref a ∧ j < rs.length ∧ H a = some (.tup ((rs.getD j []).map V.int)) := by
  obtain ⟨ps, h1, h2, h3⟩ := x
  refine ⟨_, h1, by rw [List.length_map]; exact h2, fun j v e => ?_⟩
  rw [List.getElem?_map] at e
  cases ea : ps[j]? with
  | none => rw [ea] at e; cases e
  | some a =>
    rw [ea] at e
    have hj := (List.getElem?_eq_some_iff.mp ea).1
    exact ⟨a, (Option.some.inj e).symm, by omega, h3 j a ea⟩
theorem getD_mem {rs : List (List Int)} {j : Nat} (h : j < rs.length) : rs.getD j [] ∈ rs := by
  rw [List.getD_eq_getElem?_getD, List.getElem?_eq_getElem h]; exact List.getElem_mem h
/-- references told by their rows -/
noncomputable def RR (H : Hp) (xs : List V) (rs : List (List Int)) : Prop := ∃ ps : List Addr, xs = ps.map V.ref ∧ ps.length = rs.length ∧ ∀ j a, ps[j]? = some a → H a = some (.tup ((rs.getD j []).map V.int))
section
variable {H H' : Hp} {xs ys : List V} {rs qs : List (List Int)} {l : Addr}
theorem RR.keep (x : RR H xs rs) (s : Same H H') : RR H' xs rs := by
  obtain ⟨ps, h1, h2, h3⟩ := x
  exact ⟨ps, h1, h2, fun j a e => s _ _ (h3 j a e)⟩
theorem RR.len (x : RR H xs rs) : xs.length = rs.length := by
  obtain ⟨ps, rfl, h2, h3⟩ := x
  rw [List.length_map]; exact h2
theorem RR.app (x : RR H xs rs) (y : RR H ys qs) : RR H (xs ++ ys) (rs ++ qs) := by
  obtain ⟨ps, h1, h2, h3⟩ := x
  obtain ⟨zs, g1, g2, g3⟩ := y
  refine ⟨ps ++ zs, by rw [h1, g1, List.map_append], by rw [List.length_append, List.length_append]; omega, fun j a e => ?_⟩
  rcases Nat.lt_or_ge j ps.length with z | z
  · rw [List.getElem?_append_left z] at e
    rw [List.getD_eq_getElem?_getD, List.getElem?_append_left (by omega), ← List.getD_eq_getElem?_getD]
    exact h3 j a e
  · rw [List.getElem?_append_right z] at e
    rw [List.getD_eq_getElem?_getD, List.getElem?_append_right (by omega), ← List.getD_eq_getElem?_getD, ← h2]
    exact g3 _ a e
theorem RR.one {a : Addr} {r : List Int} (h : H a = some (.tup (r.map V.int))) : RR H [.ref a] [r] := ⟨[a], rfl, rfl, fun j b e => by
  cases j with
  | zero => cases e; exact h
  | succ j => cases e⟩
theorem RR.take (x : RR H xs rs) (n : Nat) : RR H (xs.take n) (rs.take n) := by
  obtain ⟨ps, h1, h2, h3⟩ := x
  refine ⟨ps.take n, by rw [h1, List.map_take], by rw [List.length_take, List.length_take, h2], fun j a e => ?_⟩
  rw [List.getElem?_take] at e
  by_cases hj : j < n
  · rw [if_pos hj] at e
    rw [List.getD_eq_getElem?_getD, List.getElem?_take_of_lt hj, ← List.getD_eq_getElem?_getD]
    exact h3 j a e
  · rw [if_neg hj] at e; cases e
theorem RR.drop (x : RR H xs rs) (n : Nat) : RR H (xs.drop n) (rs.drop n) := by
  obtain ⟨ps, h1, h2, h3⟩ := x
  refine ⟨ps.drop n, by rw [h1, List.map_drop], by rw [List.length_drop, List.length_drop, h2], fun j a e => ?_⟩
  rw [List.getElem?_drop] at e
  rw [List.getD_eq_getElem?_getD, List.getElem?_drop, ← List.getD_eq_getElem?_getD]
  exact h3 _ a e
theorem RL.rr (x : RL H l rs) : ∃ xs, H l = some (.lst xs) ∧ RR H xs rs := by
  obtain ⟨ps, h1, h2, h3⟩ := x
  exact ⟨_, h1, ps, rfl, h2, h3⟩
end
end Rg
namespace Gx
open PySem L2
end Gx

namespace Pb
open PySem L2
/-- the bits of a packet -/
noncomputable def pb (w h t : Nat) (f : Nat → List Int) (c j k p : Nat) : List Bool := (List.range (Rg.tileBox w h t k)).map fun m => decide (Gd.sb f c j (Gd.pix w t k m) p = 1)
theorem box_le {w h t k : Nat} (h1 : t ≤ 16) : Rg.tileBox w h t k ≤ 256 := by
  unfold Rg.tileBox
  have a : Gd.sd h t (k / Gd.ac w t) ≤ 16 := by unfold Gd.sd; omega
  have b : Gd.sd w t (k % Gd.ac w t) ≤ 16 := by unfold Gd.sd; omega
  exact Nat.mul_le_mul a b
end Pb

namespace Dx
open PySem L2 Fx Nx
section
variable {K : PySem.W.Frag} {R H S : Hp} {a b p : Addr} {kvs : List (List L2.Key × V)} {k : List L2.Key} {v x y : V} {Q : VK} {D : Ends} {σ : L2.St} {td ty tv : TE}
noncomputable def DgP (x y : V) (H : Hp) (Q : VK) : Prop := ∃ a v, x = .ref a ∧ DGet H a y (some v) ∧ Q v H
theorem dget (q : td σ H fun x H1 => ty σ H1 fun y H2 => DgP x y H2 Q) : tDGet td ty σ H Q := q
noncomputable def DpP (x y v : V) (D : Ends) (σ : L2.St) (H : Hp) : Prop := ∃ a H4, x = .ref a ∧ DPut H a y v H4 ∧ D.nx σ H4
theorem dput (q : tv σ H fun v H1 => td σ H1 fun x H2 => ty σ H2 fun y H3 => DpP x y v D σ H3) : sDPut td ty tv D σ H := q
end
/-- a key's tuple -/
noncomputable def kq (j k p : Nat) : List L2.Key := [.inl (j : Int), .inl (k : Int), .inl (p : Int)]
theorem kq_inj {j k p j' k' p' : Nat} : kq j k p = kq j' k' p' ↔ j = j' ∧ k = k' ∧ p = p' := by
  unfold kq
  simp only [List.cons.injEq, Sum.inl.injEq, and_true]
  omega
/-- the gray bit that the stored channels give -/
noncomputable def nd (c j : Nat) : List Nat := if c = 1 ∨ j = 1 then [0] else [0, if j = 0 then 1 else 2]
noncomputable def bit (b : Bool) : Nat := if b = true then 1 else 0
noncomputable def gv (g : Nat → Nat → Nat → List Bool) (c j k m p : Nat) : Nat := ((nd c j).map fun s => bit ((g s k p).getD m false)).sum % 2
noncomputable def gs (g : Nat → Nat → Nat → List Bool) (c d j k m : Nat) : List Nat := (List.range d).map fun i => gv g c j k m (d - 1 - i)
noncomputable def vp (g : Nat → Nat → Nat → List Bool) (w t c d j n : Nat) : Nat := Gy.val (gs g c d j (Gd.tileOf w t n) (Gd.placeOf w t n))
end Dx
local macro_rules | `(tactic| walk_at "run1") => `(tactic| first
  | with_reducible refine Dx.dget ?_
  | with_reducible refine Dx.dput ?_)

namespace Dx
open PySem L2
/-! what packets tell of a picture -/
noncomputable def ix (c T d j k p : Nat) : Nat := ((d - 1 - p) * c + j) * T + k
theorem ix_lt {c T d j k p : Nat} (hj : j < c) (hk : k < T) (hp : p < d) : ix c T d j k p < d * c * T := by
  unfold ix
  have h1 : (d - 1 - p) * c + j < d * c := by
    have := Nat.mul_le_mul_right c (show d - 1 - p + 1 ≤ d by omega)
    rw [Nat.succ_mul] at this; omega
  have := Nat.mul_le_mul_right T (show (d - 1 - p) * c + j + 1 ≤ d * c by omega)
  rw [Nat.succ_mul] at this; omega
theorem ix_back {c T d i : Nat} (hc : 0 < c) (hT : 0 < T) (hi : i < d * c * T) : i / T % c < c ∧ i % T < T ∧ d - 1 - i / T / c < d ∧ i / T / c < d ∧ ix c T d (i / T % c) (i % T) (d - 1 - i / T / c) = i := by
  have h1 : i / T < d * c := Nat.div_lt_of_lt_mul (by rw [Nat.mul_comm]; exact hi)
  have h2 : i / T / c < d := Nat.div_lt_of_lt_mul (by rw [Nat.mul_comm]; exact h1)
  refine ⟨Nat.mod_lt _ hc, Nat.mod_lt _ hT, ?_, h2, ?_⟩
  · generalize i / T / c = u at *
    omega
  unfold ix
  rw [show d - 1 - (d - 1 - i / T / c) = i / T / c by generalize i / T / c = u at *; omega]
  exact Gd.ky_back
theorem ix_inj {c T d j k p i : Nat} (hj : j < c) (hk : k < T) (hp : p < d) (e : ix c T d j k p = i) : j = i / T % c ∧ k = i % T ∧ p = d - 1 - i / T / c := by
  unfold ix at e
  have e1 : i / T = (d - 1 - p) * c + j := by
    rw [← e, Nat.mul_comm, Nat.mul_add_div (by omega), Nat.div_eq_of_lt hk, Nat.add_zero]
  refine ⟨?_, ?_, ?_⟩
  · rw [e1, Nat.mul_comm, Nat.mul_add_mod, Nat.mod_eq_of_lt hj]
  · rw [← e, Nat.mul_comm, Nat.mul_add_mod, Nat.mod_eq_of_lt hk]
  · rw [e1, Nat.mul_comm, Nat.mul_add_div (by omega), Nat.div_eq_of_lt hj]; omega
theorem ky_ix {c T d i : Nat} (hc : 0 < c) (hT : 0 < T) (hi : i < d * c * T) : Gd.ky T c d i = [((i / T % c : Nat) : Int), ((i % T : Nat) : Int), ((d - 1 - i / T / c : Nat) : Int)] := by
  obtain ⟨_, _, _, h, _⟩ := ix_back hc hT hi
  rw [Gd.ky_at hc, show (d : Int) - 1 - ((i / T / c : Nat) : Int) = ((d - 1 - i / T / c : Nat) : Int) by generalize i / T / c = u at *; omega]
/-! the pixels before a tile, and before a key -/
noncomputable def off (w h t k : Nat) : Nat := (k / Gd.ac w t * t) * w + Gd.sd h t (k / Gd.ac w t) * (k % Gd.ac w t * t)
section
variable {w h t k : Nat} (hw : 0 < w) (ht : 0 < t) (hk : k < Gd.ac w t * Gd.ac h t)
include hw ht hk
end
/-- the bits before the i-th key -/
noncomputable def acc (w h t i : Nat) : Nat := i / (Gd.ac w t * Gd.ac h t) * (w * h) + off w h t (i % (Gd.ac w t * Gd.ac h t))
noncomputable def PT (c T d : Nat) (S : Nat → Nat → Nat → Prop) (F : Nat → Nat → Nat → List Bool → Prop) (kvs : List (List L2.Key × V)) : Prop := ∃ g : Nat → Nat → Nat → List Bool, ∀ j k p, j < c → k < T → p < d → S j k p → valV kvs (kq j k p) = some (.str (Bs.S (g j k p))) ∧ F j k p (g j k p)
theorem PT.put {c T d : Nat} {S S' : Nat → Nat → Nat → Prop} {F F' : Nat → Nat → Nat → List Bool → Prop} {kvs kvs' : List (List L2.Key × V)} {j0 k0 p0 : Nat} {b : List Bool} (x : PT c T d S F kvs) (e : ∀ key, valV kvs' key = if key = kq j0 k0 p0 then some (.str (Bs.S b)) else valV kvs key) (hb : F' j0 k0 p0 b)
    (hS : ∀ j k p, j < c → k < T → p < d → ¬ (j = j0 ∧ k = k0 ∧ p = p0) → S' j k p → S j k p ∧ ∀ y, F j k p y → F' j k p y) : PT c T d S' F' kvs' := by
  obtain ⟨g, hg⟩ := x
  refine ⟨fun j k p => if j = j0 ∧ k = k0 ∧ p = p0 then b else g j k p, fun j k p hj hk hp s => ?_⟩
  rw [e]
  dsimp only
  by_cases z : j = j0 ∧ k = k0 ∧ p = p0
  · rw [if_pos (kq_inj.mpr z), if_pos z]
    obtain ⟨rfl, rfl, rfl⟩ := z
    exact ⟨rfl, hb⟩
  · rw [if_neg (fun y => z (kq_inj.mp y)), if_neg z]
    obtain ⟨h1, h2⟩ := hS j k p hj hk hp z s
    obtain ⟨h3, h4⟩ := hg j k p hj hk hp h1
    exact ⟨h3, h2 _ h4⟩
theorem PT.mono {c T d : Nat} {S S' : Nat → Nat → Nat → Prop} {F F' : Nat → Nat → Nat → List Bool → Prop} {kvs : List (List L2.Key × V)} (x : PT c T d S F kvs) (h : ∀ j k p, j < c → k < T → p < d → S' j k p → S j k p ∧ ∀ y, F j k p y → F' j k p y) : PT c T d S' F' kvs := by
  obtain ⟨g, hg⟩ := x
  refine ⟨g, fun j k p hj hk hp s => ?_⟩
  obtain ⟨h1, h2⟩ := h j k p hj hk hp s
  obtain ⟨h3, h4⟩ := hg j k p hj hk hp h1
  exact ⟨h3, h2 _ h4⟩
end Dx

namespace En
open PySem L2
/-! lists of pairs of a key and a number -/
noncomputable def EnP (H : Hp) : List V → List (List Int × Int) → Prop
  | [], [] => True
  | v :: xs, e :: es => (∃ a kp, v = .ref a ∧ H a = some (.tup [.ref kp, .int e.2]) ∧ H kp = some (.tup (e.1.map V.int))) ∧ EnP H xs es
  | _, _ => False
theorem EnP.keep {H H' : Hp} (s : Same H H') : ∀ {xs : List V} {es : List (List Int × Int)}, EnP H xs es → EnP H' xs es
  | [], [], _ => trivial
  | _ :: _, _ :: _, ⟨⟨a, kp, e1, e2, e3⟩, r⟩ => ⟨⟨a, kp, e1, s _ _ e2, s _ _ e3⟩, EnP.keep s r⟩
  | [], _ :: _, h => h.elim
  | _ :: _, [], h => h.elim
theorem EnP.len {H : Hp} : ∀ {xs : List V} {es : List (List Int × Int)}, EnP H xs es → xs.length = es.length
  | [], [], _ => rfl
  | _ :: _, _ :: _, ⟨_, r⟩ => congrArg (· + 1) (EnP.len r)
  | [], _ :: _, h => h.elim
  | _ :: _, [], h => h.elim
theorem EnP.app {H : Hp} : ∀ {xs ys : List V} {es fs : List (List Int × Int)}, EnP H xs es → EnP H ys fs → EnP H (xs ++ ys) (es ++ fs)
  | [], _, [], _, _, h => h
  | _ :: _, _, _ :: _, _, h, g => ⟨h.1, EnP.app h.2 g⟩
  | [], _, _ :: _, _, h, _ => h.elim
  | _ :: _, _, [], _, h, _ => h.elim
theorem EnP.at {H : Hp} : ∀ {xs : List V} {es : List (List Int × Int)} {i : Nat} {v : V}, EnP H xs es → xs[i]? = some v → ∃ (e : List Int × Int) (a kp : Addr), es[i]? = some e ∧ v = .ref a ∧ H a = some (.tup [.ref kp, .int e.2]) ∧ H kp = some (.tup (e.1.map V.int))
  | [], [], _, _, _, h => by cases h
  | v :: xs, e :: es, 0, _, ⟨⟨a, kp, h1, h2, h3⟩, _⟩, h => by cases h; exact ⟨e, a, kp, rfl, h1, h2, h3⟩
  | _ :: _, _ :: _, i + 1, _, ⟨_, r⟩, h => EnP.at (i := i) r (by simpa using h)
  | [], _ :: _, _, _, h, _ => h.elim
  | _ :: _, [], _, _, h, _ => h.elim
noncomputable def EL (H : Hp) (l : Addr) (es : List (List Int × Int)) : Prop := ∃ xs, H l = some (.lst xs) ∧ EnP H xs es
theorem EL.keep {H H' : Hp} {l : Addr} {es : List (List Int × Int)} (x : EL H l es) (s : Same H H') : EL H' l es := by
  obtain ⟨xs, h1, h2⟩ := x
  exact ⟨xs, s _ _ h1, h2.keep s⟩
noncomputable def kb (c T d : Nat) (k : List Int) : Option Str := Sx.keyBad c T d (k.getD 0 0) (k.getD 1 0) (k.getD 2 0)
noncomputable def told : Option (Option Str) → List Str
  | none => []
  | some none => ["twice"]
  | some (some z) => [z]
/-! the table of what was seen -/
noncomputable def ik (k : List Int) : List L2.Key := k.map Sum.inl
theorem ik_inj {j k : List Int} : ik j = ik k ↔ j = k := by
  unfold ik
  constructor
  · intro h
    induction j generalizing k with
    | nil => cases k with
      | nil => rfl
      | cons _ _ => cases h
    | cons a j ih => cases k with
      | nil => cases h
      | cons b k => injection h with h1 h2; injection h1 with h1; rw [h1, ih h2]
  · intro h; rw [h]
noncomputable def Seen (kvs : List (List L2.Key × V)) (seen : List (List Int)) : Prop := ∀ k : List Int, (valV kvs (ik k)).isSome = decide (k ∈ seen)
theorem Seen.nil : Seen [] [] := fun k => by simp [valV]
theorem Seen.put {kvs : List (List L2.Key × V)} {seen : List (List Int)} {k : List Int} {v : V} (x : Seen kvs seen) : Seen (putK kvs (ik k) v) (seen ++ [k]) := fun j => by
  rw [valV_put]
  by_cases h : j = k
  · rw [if_pos (ik_inj.mpr h)]
    simp [h]
  · rw [if_neg (fun z => h (ik_inj.mp z)), x j]
    simp [h]
noncomputable def DiP (x y : V) (H : Hp) (Q : VK) : Prop := ∃ a o, x = .ref a ∧ DGet H a y o ∧ Q (.bl o.isSome) H
theorem din {td ty : TE} {σ : L2.St} {H : Hp} {Q : VK} (q : ty σ H fun y H1 => td σ H1 fun x H2 => DiP x y H2 Q) : tDIn ty td σ H Q := q
end En
local macro_rules | `(tactic| walk_at "run1") => `(tactic| with_reducible refine En.din ?_)

namespace Pt
open PySem L2
/-! lists of pairs of a key and its bits; the bytes of a packet file -/
abbrev PE := List Int × List Bool
noncomputable def PtP (H : Hp) : List V → List PE → Prop
  | [], [] => True
  | v :: xs, e :: es => (∃ a kp, v = .ref a ∧ H a = some (.tup [.ref kp, .str (Bs.S e.2)]) ∧ H kp = some (.tup (e.1.map V.int))) ∧ PtP H xs es
  | _, _ => False
theorem PtP.keep {H H' : Hp} (s : Same H H') : ∀ {xs : List V} {es : List PE}, PtP H xs es → PtP H' xs es
  | [], [], _ => trivial
  | _ :: _, _ :: _, ⟨⟨a, kp, e1, e2, e3⟩, r⟩ => ⟨⟨a, kp, e1, s _ _ e2, s _ _ e3⟩, PtP.keep s r⟩
  | [], _ :: _, h => h.elim
  | _ :: _, [], h => h.elim
theorem PtP.len {H : Hp} : ∀ {xs : List V} {es : List PE}, PtP H xs es → xs.length = es.length
  | [], [], _ => rfl
  | _ :: _, _ :: _, ⟨_, r⟩ => congrArg (· + 1) (PtP.len r)
  | [], _ :: _, h => h.elim
  | _ :: _, [], h => h.elim
theorem PtP.app {H : Hp} : ∀ {xs ys : List V} {es fs : List PE}, PtP H xs es → PtP H ys fs → PtP H (xs ++ ys) (es ++ fs)
  | [], _, [], _, _, h => h
  | _ :: _, _, _ :: _, _, h, g => ⟨h.1, PtP.app h.2 g⟩
  | [], _, _ :: _, _, h, _ => h.elim
  | _ :: _, _, [], _, h, _ => h.elim
theorem PtP.at {H : Hp} : ∀ {xs : List V} {es : List PE} {i : Nat} {v : V}, PtP H xs es → xs[i]? = some v → ∃ (e : PE) (a kp : Addr), es[i]? = some e ∧ v = .ref a ∧ H a = some (.tup [.ref kp, .str (Bs.S e.2)]) ∧ H kp = some (.tup (e.1.map V.int))
  | [], [], _, _, _, h => by cases h
  | v :: xs, e :: es, 0, _, ⟨⟨a, kp, h1, h2, h3⟩, _⟩, h => by cases h; exact ⟨e, a, kp, rfl, h1, h2, h3⟩
  | _ :: _, _ :: _, i + 1, _, ⟨_, r⟩, h => PtP.at (i := i) r (by simpa using h)
  | [], _ :: _, _, _, h, _ => h.elim
  | _ :: _, [], _, _, h, _ => h.elim
theorem PtP.take {H : Hp} : ∀ {xs : List V} {es : List PE} (n : Nat), PtP H xs es → PtP H (xs.take n) (es.take n)
  | xs, es, 0, _ => by simp [PtP]
  | [], [], _ + 1, _ => by simp [PtP]
  | _ :: _, _ :: _, n + 1, ⟨h, r⟩ => ⟨h, PtP.take n r⟩
  | [], _ :: _, _ + 1, h => h.elim
  | _ :: _, [], _ + 1, h => h.elim
theorem PtP.drop {H : Hp} : ∀ {xs : List V} {es : List PE} (n : Nat), PtP H xs es → PtP H (xs.drop n) (es.drop n)
  | _, _, 0, h => h
  | [], [], _ + 1, _ => by simp [PtP]
  | _ :: _, _ :: _, n + 1, ⟨_, r⟩ => PtP.drop n r
  | [], _ :: _, _ + 1, h => h.elim
  | _ :: _, [], _ + 1, h => h.elim
theorem PtP.one {H : Hp} {a kp : Addr} {k : List Int} {bs : List Bool} (h1 : H a = some (.tup [.ref kp, .str (Bs.S bs)])) (h2 : H kp = some (.tup (k.map V.int))) : PtP H [.ref a] [(k, bs)] := ⟨⟨a, kp, rfl, h1, h2⟩, trivial⟩
noncomputable def PL (H : Hp) (l : Addr) (es : List PE) : Prop := ∃ xs, H l = some (.lst xs) ∧ PtP H xs es
theorem PL.keep {H H' : Hp} {l : Addr} {es : List PE} (x : PL H l es) (s : Same H H') : PL H' l es := by
  obtain ⟨xs, h1, h2⟩ := x
  exact ⟨xs, s _ _ h1, h2.keep s⟩
noncomputable def num (c T d : Nat) (k : List Int) : Nat := Dx.ix c T d (k.getD 0 0).toNat (k.getD 1 0).toNat (k.getD 2 0).toNat
theorem kb_none {c T d : Nat} {ch ti pl : Int} : En.kb c T d [ch, ti, pl] = none ↔ (0 ≤ ch ∧ ch < c) ∧ (0 ≤ ti ∧ ti < T) ∧ 0 ≤ pl ∧ pl < d := by
  unfold En.kb Sx.keyBad
  simp only [List.getD_cons_zero, List.getD_cons_succ]
  by_cases h1 : 0 ≤ ch ∧ ch ≤ (c : Int) - 1
  · rw [if_neg (not_not_intro h1)]
    by_cases h2 : 0 ≤ ti ∧ ti ≤ (T : Int) - 1
    · rw [if_neg (not_not_intro h2)]
      by_cases h3 : 0 ≤ pl ∧ pl ≤ (d : Int) - 1
      · rw [if_neg (not_not_intro h3)]
        exact ⟨fun _ => by omega, fun _ => rfl⟩
      · rw [if_pos h3]
        exact ⟨fun z => (by cases z), fun z => absurd (by omega) h3⟩
    · rw [if_pos h2]
      exact ⟨fun z => (by cases z), fun z => absurd (by omega) h2⟩
  · rw [if_pos h1]
    exact ⟨fun z => (by cases z), fun z => absurd (by omega) h1⟩
noncomputable def wp (xs : List Int) : List Int := xs ++ [(Pk.ck xs).1, (Pk.ck xs).2]
noncomputable def two (n : Nat) : List Int := [((n / 256 : Nat) : Int), ((n % 256 : Nat) : Int)]
noncomputable def hB (w h d c t n : Nat) : List Int := wp ([80, 80, 67, 49] ++ [(w : Int), (h : Int), (d : Int), (c : Int), (t : Int)] ++ two n)
/-- where the keys stand -/
theorem PtP.keys {H : Hp} : ∀ {xs : List V} {es : List PE}, PtP H xs es → ∃ ps : List Addr, ps.length = es.length ∧ ∀ (i : Nat) (v : V), xs[i]? = some v → ∃ (e : PE) (a kp : Addr), v = V.ref a ∧ es[i]? = some e ∧ ps[i]? = some kp ∧ H a = some (.tup [.ref kp, .str (Bs.S e.2)]) ∧ H kp = some (.tup (e.1.map V.int))
  | [], [], _ => ⟨[], rfl, fun i v e => by simp at e⟩
  | v :: xs, e :: es, ⟨⟨a, kp, h1, h2, h3⟩, r⟩ => by
    obtain ⟨ps, l, f⟩ := PtP.keys r
    refine ⟨kp :: ps, by rw [List.length_cons, List.length_cons, l], fun i y ey => ?_⟩
    cases i with
    | zero => cases ey; exact ⟨e, a, kp, h1, rfl, rfl, h2, h3⟩
    | succ i => exact f i y (by simpa using ey)
  | [], _ :: _, h => h.elim
  | _ :: _, [], h => h.elim
theorem cutTo (xs : List V) (m : Nat) (h : m ≤ xs.length) : cutV xs none (some (m : Int)) = xs.take m := by
  unfold cutV
  rw [HT.sIx_nat, Nat.min_eq_left h]
  show (xs.drop 0).take (m - 0) = _
  rw [List.drop_zero, Nat.sub_zero]
theorem cutFrom (xs : List V) (m : Nat) (h : m ≤ xs.length) : cutV xs (some (m : Int)) none = xs.drop m := by
  unfold cutV
  rw [HT.sIx_nat, Nat.min_eq_left h]
  show (xs.drop m).take (xs.length - m) = _
  rw [List.take_of_length_le (by rw [List.length_drop]; omega)]
noncomputable def wd (m : Nat) : Str := (["channel", "tile", "plane"] : List Str).getD m ""
theorem three {xs : List Int} (h : xs.length = 3) : ∃ a b c, xs = [a, b, c] := by
  match xs, h with
  | [a, b, c], _ => exact ⟨a, b, c, rfl⟩
end Pt

namespace Aw
open PySem L2
/-! the code of a packet of a picture -/
@[irreducible] noncomputable def pc (w h t : Nat) (f : Nat → List Int) (c j k p : Nat) : List Bool := Iv.code (Gd.sd w t (k % Gd.ac w t)) (Pb.pb w h t f c j k p)
/-! lists of triples of a key, a number and bits -/
abbrev AE := List Int × Int × List Bool
noncomputable def AtP (H : Hp) : List V → List AE → Prop
  | [], [] => True
  | v :: xs, e :: es => (∃ a kp, v = .ref a ∧ H a = some (.tup [.ref kp, .int e.2.1, .str (Bs.S e.2.2)]) ∧ H kp = some (.tup (e.1.map V.int))) ∧ AtP H xs es
  | _, _ => False
theorem AtP.keep {H H' : Hp} (s : Same H H') : ∀ {xs : List V} {es : List AE}, AtP H xs es → AtP H' xs es
  | [], [], _ => trivial
  | _ :: _, _ :: _, ⟨⟨a, kp, e1, e2, e3⟩, r⟩ => ⟨⟨a, kp, e1, s _ _ e2, s _ _ e3⟩, AtP.keep s r⟩
  | [], _ :: _, h => h.elim
  | _ :: _, [], h => h.elim
theorem AtP.len {H : Hp} : ∀ {xs : List V} {es : List AE}, AtP H xs es → xs.length = es.length
  | [], [], _ => rfl
  | _ :: _, _ :: _, ⟨_, r⟩ => congrArg (· + 1) (AtP.len r)
  | [], _ :: _, h => h.elim
  | _ :: _, [], h => h.elim
theorem AtP.app {H : Hp} : ∀ {xs ys : List V} {es fs : List AE}, AtP H xs es → AtP H ys fs → AtP H (xs ++ ys) (es ++ fs)
  | [], _, [], _, _, h => h
  | _ :: _, _, _ :: _, _, h, g => ⟨h.1, AtP.app h.2 g⟩
  | [], _, _ :: _, _, h, _ => h.elim
  | _ :: _, _, [], _, h, _ => h.elim
theorem AtP.at {H : Hp} : ∀ {xs : List V} {es : List AE} {i : Nat} {v : V}, AtP H xs es → xs[i]? = some v → ∃ (e : AE) (a kp : Addr), es[i]? = some e ∧ v = .ref a ∧ H a = some (.tup [.ref kp, .int e.2.1, .str (Bs.S e.2.2)]) ∧ H kp = some (.tup (e.1.map V.int))
  | [], [], _, _, _, h => by cases h
  | v :: xs, e :: es, 0, _, ⟨⟨a, kp, h1, h2, h3⟩, _⟩, h => by cases h; exact ⟨e, a, kp, rfl, h1, h2, h3⟩
  | _ :: _, _ :: _, i + 1, _, ⟨_, r⟩, h => AtP.at (i := i) r (by simpa using h)
  | [], _ :: _, _, _, h, _ => h.elim
  | _ :: _, [], _, _, h, _ => h.elim
noncomputable def AL (H : Hp) (l : Addr) (es : List AE) : Prop := ∃ xs, H l = some (.lst xs) ∧ AtP H xs es
theorem AL.keep {H H' : Hp} {l : Addr} {es : List AE} (x : AL H l es) (s : Same H H') : AL H' l es := by
  obtain ⟨xs, h1, h2⟩ := x
  exact ⟨xs, s _ _ h1, h2.keep s⟩
theorem AtP.off {H : Hp} {p : Addr} {o : HO} (h : ∀ zs, H p ≠ some (.tup zs)) : ∀ {xs : List V} {es : List AE}, AtP H xs es → AtP (upd H p o) xs es
  | [], [], _ => trivial
  | _ :: _, _ :: _, ⟨⟨a, kp, e1, e2, e3⟩, r⟩ => ⟨⟨a, kp, e1, by rw [upd_ne (fun z => h _ (by rw [← z]; exact e2))]; exact e2, by rw [upd_ne (fun z => h _ (by rw [← z]; exact e3))]; exact e3⟩, AtP.off h r⟩
  | [], _ :: _, h => h.elim
  | _ :: _, [], h => h.elim
noncomputable def ans0 (cd : List Int → List Bool) : List (List Int × Int) → Nat → List AE
  | [], _ => []
  | e :: r, left => if left = 0 then [] else
    let b := ((cd e.1).drop e.2.toNat).take left
    (if b = [] then [] else [(e.1, e.2, b)]) ++ ans0 cd r (left - b.length)
@[irreducible] noncomputable def ans (cd : List Int → List Bool) (es : List (List Int × Int)) (n : Nat) : List AE := ans0 cd es n
@[irreducible] noncomputable def cdk (w h t : Nat) (f : Nat → List Int) (c : Nat) (k : List Int) : List Bool := pc w h t f c (k.getD 0 0).toNat (k.getD 1 0).toNat (k.getD 2 0).toNat
theorem s_nil {b : List Bool} : (Bs.S b = "") ↔ b = [] := by
  rw [show ("" : Str) = Bs.S [] from Bs.lit_]
  exact Bs.inj
@[irreducible] noncomputable def rest (cd : List Int → List Bool) (e : List Int × Int) : List Bool := (cd e.1).drop e.2.toNat
theorem isiLst {K : PySem.W.Frag} {H : Hp} {Q : VK} {a : Addr} {xs : List V} (h : H a = some (.lst xs)) (q : Q (.bl true) H) : rIsi K [.ref a, .ty "list"] H Q := Gx.isi (.base (.lst h)) q (kit_ty (by decide +kernel))
end Aw

namespace Ar
open PySem L2
/-! what has arrived: digits by the keys' numbers -/
noncomputable def sv (ds : List (List Bool)) : List V := ds.map fun b => V.str (Bs.S b)
theorem sv_len (ds : List (List Bool)) : (sv ds).length = ds.length := List.length_map ..
theorem sv_get {ds : List (List Bool)} {i : Nat} (h : i < ds.length) : (sv ds)[i]? = some (.str (Bs.S (ds.getD i []))) := by
  unfold sv
  rw [List.getElem?_map, List.getD_eq_getElem?_getD, List.getElem?_eq_getElem h]; rfl
theorem sv_set {ds : List (List Bool)} {i : Nat} {b : List Bool} : (sv ds).set i (.str (Bs.S b)) = sv (ds.set i b) := by
  unfold sv
  rw [List.map_set]
theorem sv_rep {n : Nat} : sv (List.replicate n []) = List.replicate n (.str "") := by
  unfold sv
  rw [List.map_replicate, ← Bs.lit_]
/-- width and places of the packet with the number i -/
noncomputable def wd (w t T c i : Nat) : Nat := Gd.sd w t (i % T % Gd.ac w t)
noncomputable def bx (w h t T i : Nat) : Nat := Rg.tileBox w h t (i % T)
/-- the prefixes that are kept beside the digits -/
structure Ok (w h t c N : Nat) (ds ps : List (List Bool)) : Prop where
  dl : ds.length = N
  pl : ps.length = N
  db : ∀ b ∈ ds, b.length ≤ 100000
  pk : ∀ i, i < N → ds.getD i [] ≠ [] → Kn.Known (wd w t (Gd.ac w t * Gd.ac h t) c i) (bx w h t (Gd.ac w t * Gd.ac h t) i) (ds.getD i []) (some (ps.getD i []))
  pn : ∀ i, i < N → ds.getD i [] = [] → ps.getD i [] = []
theorem getD_set {ds : List (List Bool)} {i j : Nat} {b : List Bool} (h : i < ds.length) : (ds.set i b).getD j [] = if j = i then b else ds.getD j [] := by
  rw [List.getD_eq_getElem?_getD, List.getElem?_set, List.getD_eq_getElem?_getD]
  by_cases c : i = j
  · subst c; rw [if_pos rfl, if_pos h, if_pos rfl]; rfl
  · rw [if_neg c, if_neg (fun e => c e.symm)]
theorem Ok.set {w h t c N i : Nat} {ds ps : List (List Bool)} {b p : List Bool} (o : Ok w h t c N ds ps) (hi : i < N) (hb : b ≠ []) (hl : b.length ≤ 100000) (k : Kn.Known (wd w t (Gd.ac w t * Gd.ac h t) c i) (bx w h t (Gd.ac w t * Gd.ac h t) i) b (some p)) : Ok w h t c N (ds.set i b) (ps.set i p) := by
  refine ⟨by rw [List.length_set]; exact o.dl, by rw [List.length_set]; exact o.pl, fun x hx => ?_, fun j hj hn => ?_, fun j hj hn => ?_⟩
  · rcases List.mem_or_eq_of_mem_set hx with e | e
    · exact o.db x e
    · rw [e]; exact hl
  · rw [getD_set (by rw [o.dl]; exact hi)] at hn ⊢
    rw [getD_set (by rw [o.pl]; exact hi)]
    by_cases e : j = i
    · subst e; rw [if_pos rfl, if_pos rfl]; exact k
    · rw [if_neg e] at hn ⊢; rw [if_neg e]; exact o.pk j hj hn
  · rw [getD_set (by rw [o.dl]; exact hi)] at hn
    rw [getD_set (by rw [o.pl]; exact hi)]
    by_cases e : j = i
    · rw [if_pos e] at hn; exact absurd hn hb
    · rw [if_neg e] at hn ⊢; exact o.pn j hj hn
theorem num_ok {c T d : Nat} {k : List Int} (hc : 0 < c) (hT : 0 < T) (kb : En.kb c T d k = none) (h3 : k.length = 3) : Pt.num c T d k < d * c * T ∧ Gd.ky T c d (Pt.num c T d k) = k := by
  obtain ⟨ch, ti, pl, rfl⟩ := Pt.three h3
  obtain ⟨⟨k1, k2⟩, ⟨k3, k4⟩, k5, k6⟩ := Pt.kb_none.mp kb
  obtain ⟨ch, rfl⟩ : ∃ n : Nat, ch = n := ⟨ch.toNat, by omega⟩
  obtain ⟨ti, rfl⟩ : ∃ n : Nat, ti = n := ⟨ti.toNat, by omega⟩
  obtain ⟨pl, rfl⟩ : ∃ n : Nat, pl = n := ⟨pl.toNat, by omega⟩
  have hn : Pt.num c T d [(ch : Int), (ti : Int), (pl : Int)] = Dx.ix c T d ch ti pl := by
    unfold Pt.num
    simp only [List.getD_cons_zero, List.getD_cons_succ, Int.toNat_natCast]
  rw [hn]
  have lt := Dx.ix_lt (c := c) (T := T) (d := d) (j := ch) (k := ti) (p := pl) (by omega) (by omega) (by omega)
  obtain ⟨e1, e2, e3⟩ := Dx.ix_inj (c := c) (T := T) (d := d) (j := ch) (k := ti) (p := pl) (by omega) (by omega) (by omega) rfl
  refine ⟨lt, ?_⟩
  rw [Dx.ky_ix hc hT lt, ← e1, ← e2, ← e3]
/-- out of what stands, to be changed -/
theorem take {R H : Hp} {ps : List (Addr × HO)} {a : Addr} {o : HO} (h : Mv.Hv R H ps) (e : R a = some o) : ∃ R', Mv.Hv R' H ((a, o) :: ps) ∧ ∀ c u, c ≠ a → R c = some u → R' c = some u := by
  have na : ∀ q ∈ ps, q.1 ≠ a := fun q hq z => by
    have := (h.on q hq).2
    rw [z, e] at this; cases this
  refine ⟨fun c => if c = a then none else R c, ⟨fun c n => ?_, fun q hq => ?_, ?_⟩, fun c u hc hu => ?_⟩
  · have ca : a ≠ c := n (a, o) (List.mem_cons_self ..)
    show H c = if c = a then none else R c
    rw [if_neg ca.symm]
    exact h.off c fun q hq => n q (List.mem_cons_of_mem _ hq)
  · rcases List.mem_cons.mp hq with z | z
    · subst z; exact ⟨h.same _ _ e, if_pos rfl⟩
    · exact ⟨(h.on q z).1, by show (if q.1 = a then none else R q.1) = none; rw [if_neg (na q z)]; exact (h.on q z).2⟩
  · rw [List.map_cons, List.nodup_cons]
    refine ⟨fun m => ?_, h.nd⟩
    obtain ⟨q, hq, z⟩ := List.mem_map.mp m
    exact na q hq z
  · show (if c = a then none else R c) = some u
    rw [if_neg hc]; exact hu
/-- without digits nothing is known -/
theorem known_nil {w m : Nat} (hm : 0 < m) : Kn.Known w m [] (some []) := ⟨Nat.zero_le _, fun bs _ _ => List.nil_prefix, fun h => (by rw [← h] at hm; exact absurd hm (Nat.lt_irrefl _)), fun _ => ⟨List.nil_prefix, List.nil_prefix⟩⟩
theorem Ok.known {w h t c N i : Nat} {ds ps : List (List Bool)} (o : Ok w h t c N ds ps) (hi : i < N) (hm : 0 < bx w h t (Gd.ac w t * Gd.ac h t) i) : Kn.Known (wd w t (Gd.ac w t * Gd.ac h t) c i) (bx w h t (Gd.ac w t * Gd.ac h t) i) (ds.getD i []) (some (ps.getD i [])) := by
  by_cases e : ds.getD i [] = []
  · rw [o.pn i hi e, e]; exact known_nil hm
  · exact o.pk i hi e
end Ar

namespace Hr
open PySem L2
/-! blocks as numbers; which of two headers is the newer -/
noncomputable def toN (b : List Int) : List Nat := b.map Int.toNat
theorem W_toN {b : List Int} (h : ∀ z ∈ b, 0 ≤ z) : b.map V.int = Rd.W (toN b) := by
  unfold Rd.W toN
  rw [List.map_map]
  exact List.map_congr_left fun z m => by
    have := h z m
    show V.int z = V.int ((z.toNat : Nat) : Int)
    rw [Int.toNat_of_nonneg this]
theorem toN_len {b : List Int} : (toN b).length = b.length := List.length_map ..
/-- what a block says as a header; which of two headers is the newer -/
noncomputable def hdr (s : Dk.St) (a : Nat) : Option (Nat × Nat × Nat × Nat × Nat × Nat) := Hd.dec (toN (Dk.rd s a))
noncomputable def newer : Option (Nat × Nat × Nat × Nat × Nat × Nat) → Option (Nat × Nat × Nat × Nat × Nat × Nat) → Option (Nat × Nat × Nat × Nat × Nat × Nat)
  | none, b => b
  | some a, none => some a
  | some a, some b => if b.1 = (a.1 + 1) % 256 then some b else some a
theorem dec_dim {xs : List Nat} {g w h d c t : Nat} (e : Hd.dec xs = some (g, w, h, d, c, t)) : Rg.Dim w h d c t := by
  unfold Hd.dec at e
  split at e
  · rename_i k
    obtain ⟨_, _, k⟩ := k
    have k : Sx.frameBad (w : Int) (h : Int) (d : Int) (c : Int) (t : Int) = none := by cases e; exact k
    obtain ⟨k1, k2, k3, k4, k5, k6⟩ := Sx.frameBad_none.mp k
    exact ⟨by omega, by omega, by omega, by omega, by omega, by omega, by omega, by omega, by omega, by exact_mod_cast k6⟩
  · cases e
theorem newer_of {a b : Option (Nat × Nat × Nat × Nat × Nat × Nat)} {z : Nat × Nat × Nat × Nat × Nat × Nat} (e : newer a b = some z) : a = some z ∨ b = some z := by
  revert e
  match a, b with
  | none, none => exact fun e => .inr e
  | none, some b => exact fun e => .inr e
  | some a, none => exact fun e => .inl e
  | some a, some b =>
    intro e
    have e2 : (if b.1 = (a.1 + 1) % 256 then some b else some a) = some z := e
    by_cases k : b.1 = (a.1 + 1) % 256
    · rw [if_pos k] at e2
      exact .inr e2
    · rw [if_neg k] at e2
      exact .inl e2
theorem newer_dim {s : Dk.St} {g w h d c t : Nat} (e : newer (hdr s 0) (hdr s 1) = some (g, w, h, d, c, t)) : Rg.Dim w h d c t := (newer_of e).elim dec_dim dec_dim
end Hr

namespace Tm
open PySem PySem.Spec PyProof.Rows L2
/-- a try whose body, as far as it is read, never raises: its clauses don't matter -/
theorem ps_try_never {X : Cx} {body : List Stmt} {hs : List ExceptHandler} {h0 : ExceptHandler} {pos : Pos} {tb : WX → TS}
    (hb : ∀ (W : WX) (pn : List (Addr × Obj)) (xe : Value → Shared → Prop), Takes (X.tr pn xe) W → PassesOwn (model X.prog X.w) X.A X.env xe → PSs (X.tr pn xe) body (tb W)) : PS X (.Try body (h0 :: hs) [] [] pos) (fun D σ H => tb (fun _ _ _ _ => False) D σ H) := by
  refine ⟨fun pins s σ H D I h => wpAny_Try_except (wpAny_mono ((hb (fun _ _ _ _ => False) (X.pn ++ pins) (fun e s₁ => wpAny (model X.prog X.w) X.A (noteFrame e X.env) (fun _ s₂ => wpAny (model X.prog X.w) X.A (setFlight e none) (fun _ s₃ =>
    wpAny (model X.prog X.w) X.A (handleBy e X.env (h0 :: hs)) (SP X pins D) X.xe s₃) X.xe s₂) X.xe s₁) (fun u t xx => ?_) PassesOwn.looking).run [] s σ H D (I.toTry _) h) (fun f s1 k => ?_) (fun e s1 he => he))⟩
  · obtain ⟨_, _, _, _, _, _, _, _, _, _, _, _, _, _, _, _, w⟩ := xx
    exact w.elim
  · cases f with
    | next =>
      obtain ⟨σ', H', J', q⟩ := k
      exact wpAny_execs_nil ⟨σ', H', J'.ofTry I.ok, q⟩
    | ret u =>
      obtain ⟨v, σ', H', J', r, q⟩ := k
      exact ⟨v, σ', H', J'.ofTry I.ok, r, q⟩
    | _ =>
      obtain ⟨σ', H', J', q⟩ := k
      exact ⟨σ', H', J'.ofTry I.ok, q⟩
end Tm

namespace My
open PySem L2
noncomputable section
noncomputable def top (i : Nat) : Stmt := PySem.Challenge.pw_packetpicture_k80_current_header.main.body.getD i (.Pass ⟨0, 0, 0, 0⟩)
abbrev s_law_same : Stmt := top 92
abbrev s_Disk_cut_count : Stmt := inClass (top 71) 9
abbrev s_Keeper___init__ : Stmt := inClass (top 82) 0
abbrev s_Disk__cut : Stmt := inClass (top 71) 7
abbrev s_Disk__use_power : Stmt := inClass (top 71) 6
abbrev s_Disk_flush : Stmt := inClass (top 71) 5
abbrev s_check_block : Stmt := top 70
abbrev s_check_range : Stmt := top 10
abbrev s_Disk__check_at : Stmt := inClass (top 71) 2
abbrev s_Disk_write : Stmt := inClass (top 71) 4
abbrev s_write_zeros : Stmt := top 77
abbrev s_Disk_size : Stmt := inClass (top 71) 1
abbrev s_area_size : Stmt := top 75
abbrev s_area_start : Stmt := top 76
abbrev s_digits_of : Stmt := top 18
abbrev s_shortest_cell : Stmt := top 21
abbrev s_Coding_interval : Stmt := inClass (top 14) 2
abbrev s_context : Stmt := top 13
abbrev s_Coding_take : Stmt := inClass (top 14) 4
abbrev s_Coding___init__ : Stmt := inClass (top 14) 0
abbrev s_coding_of : Stmt := top 15
abbrev s_interval : Stmt := top 16
abbrev s_code_of : Stmt := top 22
abbrev s_opens : Stmt := top 23
abbrev s_first_with_one : Stmt := top 25
abbrev s_last_with_zero : Stmt := top 24
abbrev s_next_bits : Stmt := top 27
abbrev s_Coding_shares : Stmt := inClass (top 14) 1
abbrev s_Coding_border : Stmt := inClass (top 14) 3
abbrev s_bit_of_cell : Stmt := top 26
abbrev s_number_of : Stmt := top 19
abbrev s_prefix_of : Stmt := top 28
abbrev s_Frame_across : Stmt := inClass (top 36) 1
abbrev s_tile_corner : Stmt := top 38
abbrev s_tile_size : Stmt := top 39
abbrev s_known_in_packet : Stmt := top 48
abbrev s_new_digits : Stmt := top 47
abbrev s_Frame_down : Stmt := inClass (top 36) 2
abbrev s_Frame_tiles : Stmt := inClass (top 36) 3
abbrev s_key_number : Stmt := top 40
abbrev s_check_key : Stmt := top 42
abbrev s_check_piece : Stmt := top 46
abbrev s_Arrived_accept : Stmt := inClass (top 49) 2
abbrev s_key_at : Stmt := top 41
abbrev s_Frame_packets : Stmt := inClass (top 36) 5
abbrev s_Arrived_packets : Stmt := inClass (top 49) 3
abbrev s_unpack : Stmt := top 52
abbrev s_number_at : Stmt := top 51
abbrev s_is_marked : Stmt := top 62
abbrev s_decode_record : Stmt := top 63
abbrev s_Disk_read : Stmt := inClass (top 71) 3
abbrev s_Arrived___init__ : Stmt := inClass (top 49) 0
abbrev s_read_log : Stmt := top 80
abbrev s_next_generation : Stmt := top 78
abbrev s_check_size : Stmt := top 35
abbrev s_check_kind : Stmt := top 34
abbrev s_Frame___init__ : Stmt := inClass (top 36) 0
abbrev s_frame_of : Stmt := top 37
abbrev s_decode_header : Stmt := top 65
abbrev s_newest_header : Stmt := top 79
abbrev s_open_keeper : Stmt := top 81
abbrev s_law_open : Stmt := top 91
abbrev s_law_is_integer : Stmt := top 87
abbrev s_law_draw : Stmt := top 86
abbrev s_encode_header : Stmt := top 64
abbrev s_law_frame : Stmt := top 89
abbrev s_law_block : Stmt := top 90
abbrev s_law_shape : Stmt := top 88
abbrev s_Disk___init__ : Stmt := inClass (top 71) 0
abbrev s_law_cell : Stmt := top 84
abbrev s_law_digits : Stmt := top 85
abbrev s_law : Stmt := top 93
set_option genInjectivity false
set_option genSizeOf false
set_option genSizeOfSpec false
/-- a def of the text as it stands behind the top -/
structure DefAt (K : PySem.W.Frag) (mg : Str → Option Value) (x : Str) (st : Stmt) (ps : List Str) where
  a : Addr
  d : FuncData
  f : Fun K x x st a d
  g : mg x = some (.ref a)
  b : Binds K d ps []
structure DefAl (K : PySem.W.Frag) (mg : Str → Option Value) (x y : Str) (st : Stmt) (ps : List Str) where
  a : Addr
  d : FuncData
  f : Fun K y y st a d
  g : mg x = some (.ref a)
  b : Binds K d ps []
structure MethAt (K : PySem.W.Frag) (C : Addr) (x q : Str) (st : Stmt) (ps : List Str) where
  a : Addr
  d : FuncData
  f : Fun K x q st a d
  b : Binds K d ps []
  m : Meth K C x a
abbrev s_OutOfRange___init__ : Stmt := inClass (top 3) 0
/-- the law's own: True, whatever the script -/
noncomputable def spLaw (K : PySem.W.Frag) : Sp := fun vs H Q _ => ∃ (a : Addr) (ns : List Int), vs = [.ref a] ∧ SqL K H a (ns.map V.int) ∧ ns.length ≤ 63 ∧ (∀ z ∈ ns, Builtin.Int.intBits z ≤ 1048576) ∧ ∀ H', Q (.bl true) H' 
set_option genInjectivity false
set_option genSizeOf false
set_option genSizeOfSpec false
structure Tx (P : Program) (K : PySem.W.Frag) (mg : Str → Option Value) where
  a_Frame : Addr
  cl_Frame : Cls K a_Frame
  g_Frame : mg "Frame" = some (.ref a_Frame)
  mk_Frame : PySem.W.makesIn K a_Frame = true
  kp_Frame : PySem.W.keepIn K (.ref a_Frame) = true
  io_Frame : Nx.IsO K a_Frame
  na_Frame_width : NoAttr K a_Frame "width"
  na_Frame_height : NoAttr K a_Frame "height"
  na_Frame_depth : NoAttr K a_Frame "depth"
  na_Frame_channels : NoAttr K a_Frame "channels"
  na_Frame_tile : NoAttr K a_Frame "tile"
  a_Disk : Addr
  cl_Disk : Cls K a_Disk
  g_Disk : mg "Disk" = some (.ref a_Disk)
  mk_Disk : PySem.W.makesIn K a_Disk = true
  kp_Disk : PySem.W.keepIn K (.ref a_Disk) = true
  na_Disk__blocks : NoAttr K a_Disk "_blocks"
  na_Disk__pending : NoAttr K a_Disk "_pending"
  na_Disk__cuts : NoAttr K a_Disk "_cuts"
  na_Disk__left : NoAttr K a_Disk "_left"
  na_Disk__torn : NoAttr K a_Disk "_torn"
  a_Arrived : Addr
  cl_Arrived : Cls K a_Arrived
  g_Arrived : mg "Arrived" = some (.ref a_Arrived)
  mk_Arrived : PySem.W.makesIn K a_Arrived = true
  kp_Arrived : PySem.W.keepIn K (.ref a_Arrived) = true
  na_Arrived_frame : NoAttr K a_Arrived "frame"
  na_Arrived__digits : NoAttr K a_Arrived "_digits"
  na_Arrived__prefixes : NoAttr K a_Arrived "_prefixes"
  a_Keeper : Addr
  cl_Keeper : Cls K a_Keeper
  g_Keeper : mg "Keeper" = some (.ref a_Keeper)
  mk_Keeper : PySem.W.makesIn K a_Keeper = true
  kp_Keeper : PySem.W.keepIn K (.ref a_Keeper) = true
  na_Keeper_frame : NoAttr K a_Keeper "frame"
  na_Keeper__disk : NoAttr K a_Keeper "_disk"
  na_Keeper__cuts : NoAttr K a_Keeper "_cuts"
  na_Keeper__generation : NoAttr K a_Keeper "_generation"
  na_Keeper__arrived : NoAttr K a_Keeper "_arrived"
  na_Keeper__used : NoAttr K a_Keeper "_used"
  a_Coding : Addr
  cl_Coding : Cls K a_Coding
  g_Coding : mg "Coding" = some (.ref a_Coding)
  mk_Coding : PySem.W.makesIn K a_Coding = true
  kp_Coding : PySem.W.keepIn K (.ref a_Coding) = true
  na_Coding_bits : NoAttr K a_Coding "bits"
  na_Coding__width : NoAttr K a_Coding "_width"
  na_Coding__low : NoAttr K a_Coding "_low"
  na_Coding__size : NoAttr K a_Coding "_size"
  na_Coding__whole : NoAttr K a_Coding "_whole"
  na_Coding__zeros : NoAttr K a_Coding "_zeros"
  na_Coding__ones : NoAttr K a_Coding "_ones"
  law_same : DefAt K mg "_law_same" s_law_same ["frame", "shape"]
  Disk_cut_count : MethAt K a_Disk "cut_count" "Disk.cut_count" s_Disk_cut_count ["self"]
  Keeper___init__ : MethAt K a_Keeper "__init__" "Keeper.__init__" s_Keeper___init__ ["self", "disk", "generation", "arrived", "used"]
  Disk__cut : MethAt K a_Disk "_cut" "Disk._cut" s_Disk__cut ["self", "torn"]
  Disk__use_power : MethAt K a_Disk "_use_power" "Disk._use_power" s_Disk__use_power ["self"]
  Disk_flush : MethAt K a_Disk "flush" "Disk.flush" s_Disk_flush ["self"]
  check_block : DefAt K mg "check_block" s_check_block ["block"]
  check_range : DefAt K mg "check_range" s_check_range ["name", "value", "least", "most"]
  Disk__check_at : MethAt K a_Disk "_check_at" "Disk._check_at" s_Disk__check_at ["self", "at"]
  Disk_write : MethAt K a_Disk "write" "Disk.write" s_Disk_write ["self", "at", "block"]
  write_zeros : DefAt K mg "write_zeros" s_write_zeros ["disk", "start", "count"]
  Disk_size : MethAt K a_Disk "size" "Disk.size" s_Disk_size ["self"]
  area_size : DefAt K mg "area_size" s_area_size ["disk"]
  area_start : DefAt K mg "area_start" s_area_start ["disk", "area"]
  digits_of : DefAt K mg "digits_of" s_digits_of ["value", "count"]
  shortest_cell : DefAt K mg "shortest_cell" s_shortest_cell ["low", "size", "whole"]
  Coding_interval : MethAt K a_Coding "interval" "Coding.interval" s_Coding_interval ["self"]
  context : DefAt K mg "context" s_context ["width", "bits", "place"]
  Coding_take : MethAt K a_Coding "take" "Coding.take" s_Coding_take ["self", "bit"]
  Coding___init__ : MethAt K a_Coding "__init__" "Coding.__init__" s_Coding___init__ ["self", "width"]
  coding_of : DefAt K mg "coding_of" s_coding_of ["width", "bits"]
  interval : DefAt K mg "interval" s_interval ["width", "bits"]
  code_of : DefAt K mg "code_of" s_code_of ["width", "bits"]
  opens : DefAt K mg "opens" s_opens ["width", "code", "bits"]
  first_with_one : DefAt K mg "first_with_one" s_first_with_one ["bits", "more"]
  last_with_zero : DefAt K mg "last_with_zero" s_last_with_zero ["bits", "more"]
  next_bits : DefAt K mg "next_bits" s_next_bits ["width", "count", "code", "bits"]
  Coding_shares : MethAt K a_Coding "shares" "Coding.shares" s_Coding_shares ["self"]
  Coding_border : MethAt K a_Coding "border" "Coding.border" s_Coding_border ["self"]
  bit_of_cell : DefAt K mg "bit_of_cell" s_bit_of_cell ["coding", "code", "value"]
  number_of : DefAt K mg "number_of" s_number_of ["digits"]
  prefix_of : DefAt K mg "prefix_of" s_prefix_of ["width", "count", "code"]
  Frame_across : MethAt K a_Frame "across" "Frame.across" s_Frame_across ["self"]
  tile_corner : DefAt K mg "tile_corner" s_tile_corner ["frame", "tile"]
  tile_size : DefAt K mg "tile_size" s_tile_size ["frame", "tile"]
  known_in_packet : DefAt K mg "known_in_packet" s_known_in_packet ["frame", "key", "digits"]
  new_digits : DefAt K mg "new_digits" s_new_digits ["digits", "start", "bits"]
  Frame_down : MethAt K a_Frame "down" "Frame.down" s_Frame_down ["self"]
  Frame_tiles : MethAt K a_Frame "tiles" "Frame.tiles" s_Frame_tiles ["self"]
  key_number : DefAt K mg "key_number" s_key_number ["frame", "key"]
  check_key : DefAt K mg "check_key" s_check_key ["frame", "key"]
  check_piece : DefAt K mg "check_piece" s_check_piece ["frame", "key", "start", "bits"]
  Arrived_accept : MethAt K a_Arrived "accept" "Arrived.accept" s_Arrived_accept ["self", "key", "start", "bits"]
  key_at : DefAt K mg "key_at" s_key_at ["frame", "number"]
  Frame_packets : MethAt K a_Frame "packets" "Frame.packets" s_Frame_packets ["self"]
  Arrived_packets : MethAt K a_Arrived "packets" "Arrived.packets" s_Arrived_packets ["self"]
  unpack : DefAt K mg "unpack" s_unpack ["row", "count"]
  number_at : DefAt K mg "number_at" s_number_at ["row", "at"]
  is_marked : DefAt K mg "is_marked" s_is_marked ["block", "mark"]
  decode_record : DefAt K mg "decode_record" s_decode_record ["block"]
  Disk_read : MethAt K a_Disk "read" "Disk.read" s_Disk_read ["self", "at"]
  Arrived___init__ : MethAt K a_Arrived "__init__" "Arrived.__init__" s_Arrived___init__ ["self", "frame"]
  read_log : DefAt K mg "read_log" s_read_log ["disk", "area", "frame"]
  next_generation : DefAt K mg "next_generation" s_next_generation ["generation"]
  check_size : DefAt K mg "check_size" s_check_size ["width", "height", "channels"]
  check_kind : DefAt K mg "check_kind" s_check_kind ["width", "height", "depth", "channels"]
  Frame___init__ : MethAt K a_Frame "__init__" "Frame.__init__" s_Frame___init__ ["self", "width", "height", "depth", "channels", "tile"]
  frame_of : DefAt K mg "frame_of" s_frame_of ["numbers"]
  decode_header : DefAt K mg "decode_header" s_decode_header ["block"]
  newest_header : DefAt K mg "newest_header" s_newest_header ["disk"]
  open_keeper : DefAt K mg "open_keeper" s_open_keeper ["disk"]
  law_open : DefAt K mg "_law_open" s_law_open ["disk"]
  law_is_integer : DefAt K mg "_law_is_integer" s_law_is_integer ["actual"]
  law_draw : DefAt K mg "_law_draw" s_law_draw ["box", "many"]
  encode_header : DefAt K mg "encode_header" s_encode_header ["generation", "frame"]
  law_frame : DefAt K mg "_law_frame" s_law_frame ["shape"]
  law_block : DefAt K mg "_law_block" s_law_block ["box", "shape", "generation"]
  law_shape : DefAt K mg "_law_shape" s_law_shape ["box", "most", "planes", "side"]
  Disk___init__ : MethAt K a_Disk "__init__" "Disk.__init__" s_Disk___init__ ["self", "blocks"]
  law_cell : DefAt K mg "_law_cell" s_law_cell ["script", "k"]
  law_digits : DefAt K mg "_law_digits" s_law_digits ["script", "first", "last"]
  law : DefAt K mg "law" s_law ["script"]
  x_OutOfRange : Sx.ExcAt P K mg "OutOfRange" "OutOfRange.__init__" s_OutOfRange___init__ ["self", "name"]
  y_BitsAhead : Sx.BareAt K mg "BitsAhead"
  y_Contradiction : Sx.BareAt K mg "Contradiction"
  y_NoSuchPacket : Sx.BareAt K mg "NoSuchPacket"
  y_NotKept : Sx.BareAt K mg "NotKept"
  y_PowerCut : Sx.BareAt K mg "PowerCut"
  is_NotKept : Sx.IsC K y_NotKept.C
  nf_OutOfRange_name : PySem.W.findIn K (.ref x_OutOfRange.C) "name" = some none
  em_OutOfRange_NotKept : PySem.W.exmOne K (.ref x_OutOfRange.C) (.ref y_NotKept.C) = some false
  em_BitsAhead_NotKept : PySem.W.exmOne K (.ref y_BitsAhead.C) (.ref y_NotKept.C) = some false
  em_BitsAhead_OutOfRange : PySem.W.exmOne K (.ref y_BitsAhead.C) (.ref x_OutOfRange.C) = some false
  em_Contradiction_NotKept : PySem.W.exmOne K (.ref y_Contradiction.C) (.ref y_NotKept.C) = some false
  em_Contradiction_OutOfRange : PySem.W.exmOne K (.ref y_Contradiction.C) (.ref x_OutOfRange.C) = some false
  em_NoSuchPacket_NotKept : PySem.W.exmOne K (.ref y_NoSuchPacket.C) (.ref y_NotKept.C) = some false
  em_NoSuchPacket_OutOfRange : PySem.W.exmOne K (.ref y_NoSuchPacket.C) (.ref x_OutOfRange.C) = some false
  em_NotKept_OutOfRange : PySem.W.exmOne K (.ref y_NotKept.C) (.ref x_OutOfRange.C) = some false
  em_PowerCut_NotKept : PySem.W.exmOne K (.ref y_PowerCut.C) (.ref y_NotKept.C) = some false
  em_PowerCut_OutOfRange : PySem.W.exmOne K (.ref y_PowerCut.C) (.ref x_OutOfRange.C) = some false
  ki_OutOfRange_OutOfRange : PySem.W.kitOne K (.ref x_OutOfRange.C) (.ref x_OutOfRange.C) = some true
  ki_NotKept_OutOfRange : PySem.W.kitOne K (.ref y_NotKept.C) (.ref x_OutOfRange.C) = some false
  n_bool : mg "bool" = none
  n_divmod : mg "divmod" = none
  n_enumerate : mg "enumerate" = none
  n_int : mg "int" = none
  n_isinstance : mg "isinstance" = none
  n_len : mg "len" = none
  n_list : mg "list" = none
  n_min : mg "min" = none
  n_range : mg "range" = none
  n_tuple : mg "tuple" = none
  t_BLOCK : Tok
  c_BLOCK : mg "BLOCK" = some (.int 32 t_BLOCK)
  t_BLOCKS_LEAST : Tok
  c_BLOCKS_LEAST : mg "BLOCKS_LEAST" = some (.int 4 t_BLOCKS_LEAST)
  t_BLOCKS_MOST : Tok
  c_BLOCKS_MOST : mg "BLOCKS_MOST" = some (.int 400 t_BLOCKS_MOST)
  t_CONTEXTS : Tok
  c_CONTEXTS : mg "CONTEXTS" = some (.int 16 t_CONTEXTS)
  t_COUNT_AT : Tok
  c_COUNT_AT : mg "COUNT_AT" = some (.int 5 t_COUNT_AT)
  t_DEPTH_MOST : Tok
  c_DEPTH_MOST : mg "DEPTH_MOST" = some (.int 8 t_DEPTH_MOST)
  t_DIGITS_AT : Tok
  c_DIGITS_AT : mg "DIGITS_AT" = some (.int 6 t_DIGITS_AT)
  t_DIGITS_MOST : Tok
  c_DIGITS_MOST : mg "DIGITS_MOST" = some (.int 65535 t_DIGITS_MOST)
  t_GENERATIONS : Tok
  c_GENERATIONS : mg "GENERATIONS" = some (.int 256 t_GENERATIONS)
  t_HEADERS : Tok
  c_HEADERS : mg "HEADERS" = some (.int 2 t_HEADERS)
  t_HEADER_FILL : Tok
  c_HEADER_FILL : mg "HEADER_FILL" = some (.int 24 t_HEADER_FILL)
  t_HEADER_MARK : Tok
  c_HEADER_MARK : mg "HEADER_MARK" = some (.int 72 t_HEADER_MARK)
  t_NUMBERS_AT : Tok
  c_NUMBERS_AT : mg "NUMBERS_AT" = some (.int 2 t_NUMBERS_AT)
  t_NUMBERS_END : Tok
  c_NUMBERS_END : mg "NUMBERS_END" = some (.int 7 t_NUMBERS_END)
  t_RECORD_MARK : Tok
  c_RECORD_MARK : mg "RECORD_MARK" = some (.int 75 t_RECORD_MARK)
  t_RECORD_MOST : Tok
  c_RECORD_MOST : mg "RECORD_MOST" = some (.int 160 t_RECORD_MOST)
  t_SIDE_MOST : Tok
  c_SIDE_MOST : mg "SIDE_MOST" = some (.int 64 t_SIDE_MOST)
  t_START_MOST : Tok
  c_START_MOST : mg "START_MOST" = some (.int 65535 t_START_MOST)
  t_TILE_MOST : Tok
  c_TILE_MOST : mg "TILE_MOST" = some (.int 16 t_TILE_MOST)
  t_VALUES_MOST : Tok
  c_VALUES_MOST : mg "VALUES_MOST" = some (.int 3072 t_VALUES_MOST)
section
variable {P : Program} {w : World} {K : PySem.W.Frag} {mg : Str → Option Value} {base : Heap}
noncomputable def fl_Frame (v0 v1 v2 v3 v4 : V) : List (Str × V) := [("width", v0), ("height", v1), ("depth", v2), ("channels", v3), ("tile", v4)]
theorem ne_Frame_width__height : ((Str.ofString "width") = Str.ofString "height") = False := eq_false (by decide +kernel)
theorem ne_Frame_width__depth : ((Str.ofString "width") = Str.ofString "depth") = False := eq_false (by decide +kernel)
theorem ne_Frame_width__channels : ((Str.ofString "width") = Str.ofString "channels") = False := eq_false (by decide +kernel)
theorem ne_Frame_width__tile : ((Str.ofString "width") = Str.ofString "tile") = False := eq_false (by decide +kernel)
theorem ne_Frame_width__across : ((Str.ofString "width") = Str.ofString "across") = False := eq_false (by decide +kernel)
theorem ne_Frame_width__down : ((Str.ofString "width") = Str.ofString "down") = False := eq_false (by decide +kernel)
theorem ne_Frame_width__tiles : ((Str.ofString "width") = Str.ofString "tiles") = False := eq_false (by decide +kernel)
theorem ne_Frame_width__packets : ((Str.ofString "width") = Str.ofString "packets") = False := eq_false (by decide +kernel)
theorem ne_Frame_height__depth : ((Str.ofString "height") = Str.ofString "depth") = False := eq_false (by decide +kernel)
theorem ne_Frame_height__channels : ((Str.ofString "height") = Str.ofString "channels") = False := eq_false (by decide +kernel)
theorem ne_Frame_height__tile : ((Str.ofString "height") = Str.ofString "tile") = False := eq_false (by decide +kernel)
theorem ne_Frame_height__across : ((Str.ofString "height") = Str.ofString "across") = False := eq_false (by decide +kernel)
theorem ne_Frame_height__down : ((Str.ofString "height") = Str.ofString "down") = False := eq_false (by decide +kernel)
theorem ne_Frame_height__tiles : ((Str.ofString "height") = Str.ofString "tiles") = False := eq_false (by decide +kernel)
theorem ne_Frame_height__packets : ((Str.ofString "height") = Str.ofString "packets") = False := eq_false (by decide +kernel)
theorem ne_Frame_depth__channels : ((Str.ofString "depth") = Str.ofString "channels") = False := eq_false (by decide +kernel)
theorem ne_Frame_depth__tile : ((Str.ofString "depth") = Str.ofString "tile") = False := eq_false (by decide +kernel)
theorem ne_Frame_depth__across : ((Str.ofString "depth") = Str.ofString "across") = False := eq_false (by decide +kernel)
theorem ne_Frame_depth__down : ((Str.ofString "depth") = Str.ofString "down") = False := eq_false (by decide +kernel)
theorem ne_Frame_depth__tiles : ((Str.ofString "depth") = Str.ofString "tiles") = False := eq_false (by decide +kernel)
theorem ne_Frame_depth__packets : ((Str.ofString "depth") = Str.ofString "packets") = False := eq_false (by decide +kernel)
theorem ne_Frame_channels__tile : ((Str.ofString "channels") = Str.ofString "tile") = False := eq_false (by decide +kernel)
theorem ne_Frame_channels__across : ((Str.ofString "channels") = Str.ofString "across") = False := eq_false (by decide +kernel)
theorem ne_Frame_channels__down : ((Str.ofString "channels") = Str.ofString "down") = False := eq_false (by decide +kernel)
theorem ne_Frame_channels__tiles : ((Str.ofString "channels") = Str.ofString "tiles") = False := eq_false (by decide +kernel)
theorem ne_Frame_channels__packets : ((Str.ofString "channels") = Str.ofString "packets") = False := eq_false (by decide +kernel)
theorem ne_Frame_tile__across : ((Str.ofString "tile") = Str.ofString "across") = False := eq_false (by decide +kernel)
theorem ne_Frame_tile__down : ((Str.ofString "tile") = Str.ofString "down") = False := eq_false (by decide +kernel)
theorem ne_Frame_tile__tiles : ((Str.ofString "tile") = Str.ofString "tiles") = False := eq_false (by decide +kernel)
theorem ne_Frame_tile__packets : ((Str.ofString "tile") = Str.ofString "packets") = False := eq_false (by decide +kernel)
theorem put_Frame_width {v0 v1 v2 v3 v4 : V} {z : V} : putF "width" z (fl_Frame v0 v1 v2 v3 v4) = fl_Frame z v1 v2 v3 v4 := by
  simp only [fl_Frame, putF, if_false, if_true, reduceIte]
theorem lk_Frame_width {v0 v1 v2 v3 v4 : V} : (fl_Frame v0 v1 v2 v3 v4).lookup ("width" : Str) = some v0 := by
  have h := lookup_putF "width" "width" v0 (fl_Frame v0 v1 v2 v3 v4)
  rw [put_Frame_width, if_pos rfl] at h
  exact h
theorem put_Frame_height {v0 v1 v2 v3 v4 : V} {z : V} : putF "height" z (fl_Frame v0 v1 v2 v3 v4) = fl_Frame v0 z v2 v3 v4 := by
  simp only [fl_Frame, putF, ne_Frame_width__height, if_false, if_true, reduceIte]
theorem lk_Frame_height {v0 v1 v2 v3 v4 : V} : (fl_Frame v0 v1 v2 v3 v4).lookup ("height" : Str) = some v1 := by
  have h := lookup_putF "height" "height" v1 (fl_Frame v0 v1 v2 v3 v4)
  rw [put_Frame_height, if_pos rfl] at h
  exact h
theorem put_Frame_depth {v0 v1 v2 v3 v4 : V} {z : V} : putF "depth" z (fl_Frame v0 v1 v2 v3 v4) = fl_Frame v0 v1 z v3 v4 := by
  simp only [fl_Frame, putF, ne_Frame_width__depth, ne_Frame_height__depth, if_false, if_true, reduceIte]
theorem lk_Frame_depth {v0 v1 v2 v3 v4 : V} : (fl_Frame v0 v1 v2 v3 v4).lookup ("depth" : Str) = some v2 := by
  have h := lookup_putF "depth" "depth" v2 (fl_Frame v0 v1 v2 v3 v4)
  rw [put_Frame_depth, if_pos rfl] at h
  exact h
theorem put_Frame_channels {v0 v1 v2 v3 v4 : V} {z : V} : putF "channels" z (fl_Frame v0 v1 v2 v3 v4) = fl_Frame v0 v1 v2 z v4 := by
  simp only [fl_Frame, putF, ne_Frame_width__channels, ne_Frame_height__channels, ne_Frame_depth__channels, if_false, if_true, reduceIte]
theorem lk_Frame_channels {v0 v1 v2 v3 v4 : V} : (fl_Frame v0 v1 v2 v3 v4).lookup ("channels" : Str) = some v3 := by
  have h := lookup_putF "channels" "channels" v3 (fl_Frame v0 v1 v2 v3 v4)
  rw [put_Frame_channels, if_pos rfl] at h
  exact h
theorem put_Frame_tile {v0 v1 v2 v3 v4 : V} {z : V} : putF "tile" z (fl_Frame v0 v1 v2 v3 v4) = fl_Frame v0 v1 v2 v3 z := by
  simp only [fl_Frame, putF, ne_Frame_width__tile, ne_Frame_height__tile, ne_Frame_depth__tile, ne_Frame_channels__tile, if_false, if_true, reduceIte]
theorem lk_Frame_tile {v0 v1 v2 v3 v4 : V} : (fl_Frame v0 v1 v2 v3 v4).lookup ("tile" : Str) = some v4 := by
  have h := lookup_putF "tile" "tile" v4 (fl_Frame v0 v1 v2 v3 v4)
  rw [put_Frame_tile, if_pos rfl] at h
  exact h
theorem ini_Frame {v0 v1 v2 v3 v4 : V} : putF "tile" v4 (putF "channels" v3 (putF "depth" v2 (putF "height" v1 (putF "width" v0 [])))) = fl_Frame v0 v1 v2 v3 v4 := by
  simp only [fl_Frame, putF, ne_Frame_width__height, ne_Frame_width__depth, ne_Frame_width__channels, ne_Frame_width__tile, ne_Frame_height__depth, ne_Frame_height__channels, ne_Frame_height__tile, ne_Frame_depth__channels, ne_Frame_depth__tile, ne_Frame_channels__tile, if_false, if_true, reduceIte]
theorem no_Frame_across {v0 v1 v2 v3 v4 : V} : (fl_Frame v0 v1 v2 v3 v4).lookup ("across" : Str) = none := by
  have q : ∀ (g : Str) (u : V) (r : List (Str × V)), ¬ g = "across" → List.lookup (Str.ofString "across") ((g, u) :: r) = List.lookup (Str.ofString "across") r := fun g u r h => by
    have hb : ((Str.ofString "across") == g) = false := beq_eq_false_iff_ne.mpr (fun z => h z.symm)
    simp only [List.lookup, hb]
  unfold fl_Frame
  rw [q _ _ _ (by rw [ne_Frame_width__across]; exact id), q _ _ _ (by rw [ne_Frame_height__across]; exact id), q _ _ _ (by rw [ne_Frame_depth__across]; exact id), q _ _ _ (by rw [ne_Frame_channels__across]; exact id), q _ _ _ (by rw [ne_Frame_tile__across]; exact id)]
  rfl
theorem no_Frame_down {v0 v1 v2 v3 v4 : V} : (fl_Frame v0 v1 v2 v3 v4).lookup ("down" : Str) = none := by
  have q : ∀ (g : Str) (u : V) (r : List (Str × V)), ¬ g = "down" → List.lookup (Str.ofString "down") ((g, u) :: r) = List.lookup (Str.ofString "down") r := fun g u r h => by
    have hb : ((Str.ofString "down") == g) = false := beq_eq_false_iff_ne.mpr (fun z => h z.symm)
    simp only [List.lookup, hb]
  unfold fl_Frame
  rw [q _ _ _ (by rw [ne_Frame_width__down]; exact id), q _ _ _ (by rw [ne_Frame_height__down]; exact id), q _ _ _ (by rw [ne_Frame_depth__down]; exact id), q _ _ _ (by rw [ne_Frame_channels__down]; exact id), q _ _ _ (by rw [ne_Frame_tile__down]; exact id)]
  rfl
theorem no_Frame_tiles {v0 v1 v2 v3 v4 : V} : (fl_Frame v0 v1 v2 v3 v4).lookup ("tiles" : Str) = none := by
  have q : ∀ (g : Str) (u : V) (r : List (Str × V)), ¬ g = "tiles" → List.lookup (Str.ofString "tiles") ((g, u) :: r) = List.lookup (Str.ofString "tiles") r := fun g u r h => by
    have hb : ((Str.ofString "tiles") == g) = false := beq_eq_false_iff_ne.mpr (fun z => h z.symm)
    simp only [List.lookup, hb]
  unfold fl_Frame
  rw [q _ _ _ (by rw [ne_Frame_width__tiles]; exact id), q _ _ _ (by rw [ne_Frame_height__tiles]; exact id), q _ _ _ (by rw [ne_Frame_depth__tiles]; exact id), q _ _ _ (by rw [ne_Frame_channels__tiles]; exact id), q _ _ _ (by rw [ne_Frame_tile__tiles]; exact id)]
  rfl
theorem no_Frame_packets {v0 v1 v2 v3 v4 : V} : (fl_Frame v0 v1 v2 v3 v4).lookup ("packets" : Str) = none := by
  have q : ∀ (g : Str) (u : V) (r : List (Str × V)), ¬ g = "packets" → List.lookup (Str.ofString "packets") ((g, u) :: r) = List.lookup (Str.ofString "packets") r := fun g u r h => by
    have hb : ((Str.ofString "packets") == g) = false := beq_eq_false_iff_ne.mpr (fun z => h z.symm)
    simp only [List.lookup, hb]
  unfold fl_Frame
  rw [q _ _ _ (by rw [ne_Frame_width__packets]; exact id), q _ _ _ (by rw [ne_Frame_height__packets]; exact id), q _ _ _ (by rw [ne_Frame_depth__packets]; exact id), q _ _ _ (by rw [ne_Frame_channels__packets]; exact id), q _ _ _ (by rw [ne_Frame_tile__packets]; exact id)]
  rfl
/-- a Frame stands at x -/
noncomputable def Frm (C : Addr) (H : Hp) (x : Addr) (w h d c t : Nat) : Prop := ∃ dx, H x = some (.ins C dx (fl_Frame (.int (w : Int)) (.int (h : Int)) (.int (d : Int)) (.int (c : Int)) (.int (t : Int))))
theorem Frm.keep {C x : Addr} {H H' : Hp} {w h d c t : Nat} (f : Frm C H x w h d c t) (s : Same H H') : Frm C H' x w h d c t := by
  obtain ⟨dx, h1⟩ := f
  exact ⟨dx, s _ _ h1⟩

noncomputable def fl_Disk (v0 v1 v2 v3 v4 : V) : List (Str × V) := [("_blocks", v0), ("_pending", v1), ("_cuts", v2), ("_left", v3), ("_torn", v4)]
theorem ne_Disk__blocks___pending : ((Str.ofString "_blocks") = Str.ofString "_pending") = False := eq_false (by decide +kernel)
theorem ne_Disk__blocks___cuts : ((Str.ofString "_blocks") = Str.ofString "_cuts") = False := eq_false (by decide +kernel)
theorem ne_Disk__blocks___left : ((Str.ofString "_blocks") = Str.ofString "_left") = False := eq_false (by decide +kernel)
theorem ne_Disk__blocks___torn : ((Str.ofString "_blocks") = Str.ofString "_torn") = False := eq_false (by decide +kernel)
theorem ne_Disk__blocks__size : ((Str.ofString "_blocks") = Str.ofString "size") = False := eq_false (by decide +kernel)
theorem ne_Disk__blocks___check_at : ((Str.ofString "_blocks") = Str.ofString "_check_at") = False := eq_false (by decide +kernel)
theorem ne_Disk__blocks__read : ((Str.ofString "_blocks") = Str.ofString "read") = False := eq_false (by decide +kernel)
theorem ne_Disk__blocks__write : ((Str.ofString "_blocks") = Str.ofString "write") = False := eq_false (by decide +kernel)
theorem ne_Disk__blocks__flush : ((Str.ofString "_blocks") = Str.ofString "flush") = False := eq_false (by decide +kernel)
theorem ne_Disk__blocks___use_power : ((Str.ofString "_blocks") = Str.ofString "_use_power") = False := eq_false (by decide +kernel)
theorem ne_Disk__blocks___cut : ((Str.ofString "_blocks") = Str.ofString "_cut") = False := eq_false (by decide +kernel)
theorem ne_Disk__blocks__cut_count : ((Str.ofString "_blocks") = Str.ofString "cut_count") = False := eq_false (by decide +kernel)
theorem ne_Disk__pending___cuts : ((Str.ofString "_pending") = Str.ofString "_cuts") = False := eq_false (by decide +kernel)
theorem ne_Disk__pending___left : ((Str.ofString "_pending") = Str.ofString "_left") = False := eq_false (by decide +kernel)
theorem ne_Disk__pending___torn : ((Str.ofString "_pending") = Str.ofString "_torn") = False := eq_false (by decide +kernel)
theorem ne_Disk__pending__size : ((Str.ofString "_pending") = Str.ofString "size") = False := eq_false (by decide +kernel)
theorem ne_Disk__pending___check_at : ((Str.ofString "_pending") = Str.ofString "_check_at") = False := eq_false (by decide +kernel)
theorem ne_Disk__pending__read : ((Str.ofString "_pending") = Str.ofString "read") = False := eq_false (by decide +kernel)
theorem ne_Disk__pending__write : ((Str.ofString "_pending") = Str.ofString "write") = False := eq_false (by decide +kernel)
theorem ne_Disk__pending__flush : ((Str.ofString "_pending") = Str.ofString "flush") = False := eq_false (by decide +kernel)
theorem ne_Disk__pending___use_power : ((Str.ofString "_pending") = Str.ofString "_use_power") = False := eq_false (by decide +kernel)
theorem ne_Disk__pending___cut : ((Str.ofString "_pending") = Str.ofString "_cut") = False := eq_false (by decide +kernel)
theorem ne_Disk__pending__cut_count : ((Str.ofString "_pending") = Str.ofString "cut_count") = False := eq_false (by decide +kernel)
theorem ne_Disk__cuts___left : ((Str.ofString "_cuts") = Str.ofString "_left") = False := eq_false (by decide +kernel)
theorem ne_Disk__cuts___torn : ((Str.ofString "_cuts") = Str.ofString "_torn") = False := eq_false (by decide +kernel)
theorem ne_Disk__cuts__size : ((Str.ofString "_cuts") = Str.ofString "size") = False := eq_false (by decide +kernel)
theorem ne_Disk__cuts___check_at : ((Str.ofString "_cuts") = Str.ofString "_check_at") = False := eq_false (by decide +kernel)
theorem ne_Disk__cuts__read : ((Str.ofString "_cuts") = Str.ofString "read") = False := eq_false (by decide +kernel)
theorem ne_Disk__cuts__write : ((Str.ofString "_cuts") = Str.ofString "write") = False := eq_false (by decide +kernel)
theorem ne_Disk__cuts__flush : ((Str.ofString "_cuts") = Str.ofString "flush") = False := eq_false (by decide +kernel)
theorem ne_Disk__cuts___use_power : ((Str.ofString "_cuts") = Str.ofString "_use_power") = False := eq_false (by decide +kernel)
theorem ne_Disk__cuts___cut : ((Str.ofString "_cuts") = Str.ofString "_cut") = False := eq_false (by decide +kernel)
theorem ne_Disk__cuts__cut_count : ((Str.ofString "_cuts") = Str.ofString "cut_count") = False := eq_false (by decide +kernel)
theorem ne_Disk__left___torn : ((Str.ofString "_left") = Str.ofString "_torn") = False := eq_false (by decide +kernel)
theorem ne_Disk__left__size : ((Str.ofString "_left") = Str.ofString "size") = False := eq_false (by decide +kernel)
theorem ne_Disk__left___check_at : ((Str.ofString "_left") = Str.ofString "_check_at") = False := eq_false (by decide +kernel)
theorem ne_Disk__left__read : ((Str.ofString "_left") = Str.ofString "read") = False := eq_false (by decide +kernel)
theorem ne_Disk__left__write : ((Str.ofString "_left") = Str.ofString "write") = False := eq_false (by decide +kernel)
theorem ne_Disk__left__flush : ((Str.ofString "_left") = Str.ofString "flush") = False := eq_false (by decide +kernel)
theorem ne_Disk__left___use_power : ((Str.ofString "_left") = Str.ofString "_use_power") = False := eq_false (by decide +kernel)
theorem ne_Disk__left___cut : ((Str.ofString "_left") = Str.ofString "_cut") = False := eq_false (by decide +kernel)
theorem ne_Disk__left__cut_count : ((Str.ofString "_left") = Str.ofString "cut_count") = False := eq_false (by decide +kernel)
theorem ne_Disk__torn__size : ((Str.ofString "_torn") = Str.ofString "size") = False := eq_false (by decide +kernel)
theorem ne_Disk__torn___check_at : ((Str.ofString "_torn") = Str.ofString "_check_at") = False := eq_false (by decide +kernel)
theorem ne_Disk__torn__read : ((Str.ofString "_torn") = Str.ofString "read") = False := eq_false (by decide +kernel)
theorem ne_Disk__torn__write : ((Str.ofString "_torn") = Str.ofString "write") = False := eq_false (by decide +kernel)
theorem ne_Disk__torn__flush : ((Str.ofString "_torn") = Str.ofString "flush") = False := eq_false (by decide +kernel)
theorem ne_Disk__torn___use_power : ((Str.ofString "_torn") = Str.ofString "_use_power") = False := eq_false (by decide +kernel)
theorem ne_Disk__torn___cut : ((Str.ofString "_torn") = Str.ofString "_cut") = False := eq_false (by decide +kernel)
theorem ne_Disk__torn__cut_count : ((Str.ofString "_torn") = Str.ofString "cut_count") = False := eq_false (by decide +kernel)
theorem put_Disk__blocks {v0 v1 v2 v3 v4 : V} {z : V} : putF "_blocks" z (fl_Disk v0 v1 v2 v3 v4) = fl_Disk z v1 v2 v3 v4 := by
  simp only [fl_Disk, putF, if_false, if_true, reduceIte]
theorem lk_Disk__blocks {v0 v1 v2 v3 v4 : V} : (fl_Disk v0 v1 v2 v3 v4).lookup ("_blocks" : Str) = some v0 := by
  have h := lookup_putF "_blocks" "_blocks" v0 (fl_Disk v0 v1 v2 v3 v4)
  rw [put_Disk__blocks, if_pos rfl] at h
  exact h
theorem put_Disk__pending {v0 v1 v2 v3 v4 : V} {z : V} : putF "_pending" z (fl_Disk v0 v1 v2 v3 v4) = fl_Disk v0 z v2 v3 v4 := by
  simp only [fl_Disk, putF, ne_Disk__blocks___pending, if_false, if_true, reduceIte]
theorem lk_Disk__pending {v0 v1 v2 v3 v4 : V} : (fl_Disk v0 v1 v2 v3 v4).lookup ("_pending" : Str) = some v1 := by
  have h := lookup_putF "_pending" "_pending" v1 (fl_Disk v0 v1 v2 v3 v4)
  rw [put_Disk__pending, if_pos rfl] at h
  exact h
theorem put_Disk__cuts {v0 v1 v2 v3 v4 : V} {z : V} : putF "_cuts" z (fl_Disk v0 v1 v2 v3 v4) = fl_Disk v0 v1 z v3 v4 := by
  simp only [fl_Disk, putF, ne_Disk__blocks___cuts, ne_Disk__pending___cuts, if_false, if_true, reduceIte]
theorem lk_Disk__cuts {v0 v1 v2 v3 v4 : V} : (fl_Disk v0 v1 v2 v3 v4).lookup ("_cuts" : Str) = some v2 := by
  have h := lookup_putF "_cuts" "_cuts" v2 (fl_Disk v0 v1 v2 v3 v4)
  rw [put_Disk__cuts, if_pos rfl] at h
  exact h
theorem put_Disk__left {v0 v1 v2 v3 v4 : V} {z : V} : putF "_left" z (fl_Disk v0 v1 v2 v3 v4) = fl_Disk v0 v1 v2 z v4 := by
  simp only [fl_Disk, putF, ne_Disk__blocks___left, ne_Disk__pending___left, ne_Disk__cuts___left, if_false, if_true, reduceIte]
theorem lk_Disk__left {v0 v1 v2 v3 v4 : V} : (fl_Disk v0 v1 v2 v3 v4).lookup ("_left" : Str) = some v3 := by
  have h := lookup_putF "_left" "_left" v3 (fl_Disk v0 v1 v2 v3 v4)
  rw [put_Disk__left, if_pos rfl] at h
  exact h
theorem put_Disk__torn {v0 v1 v2 v3 v4 : V} {z : V} : putF "_torn" z (fl_Disk v0 v1 v2 v3 v4) = fl_Disk v0 v1 v2 v3 z := by
  simp only [fl_Disk, putF, ne_Disk__blocks___torn, ne_Disk__pending___torn, ne_Disk__cuts___torn, ne_Disk__left___torn, if_false, if_true, reduceIte]
theorem lk_Disk__torn {v0 v1 v2 v3 v4 : V} : (fl_Disk v0 v1 v2 v3 v4).lookup ("_torn" : Str) = some v4 := by
  have h := lookup_putF "_torn" "_torn" v4 (fl_Disk v0 v1 v2 v3 v4)
  rw [put_Disk__torn, if_pos rfl] at h
  exact h
theorem few_Disk {v0 v1 v2 v3 v4 : V} : (fl_Disk v0 v1 v2 v3 v4).length < 1000 := by
  show 5 < 1000
  decide
theorem ini_Disk {v0 v1 v2 v3 v4 : V} : putF "_torn" v4 (putF "_left" v3 (putF "_cuts" v2 (putF "_pending" v1 (putF "_blocks" v0 [])))) = fl_Disk v0 v1 v2 v3 v4 := by
  simp only [fl_Disk, putF, ne_Disk__blocks___pending, ne_Disk__blocks___cuts, ne_Disk__blocks___left, ne_Disk__blocks___torn, ne_Disk__pending___cuts, ne_Disk__pending___left, ne_Disk__pending___torn, ne_Disk__cuts___left, ne_Disk__cuts___torn, ne_Disk__left___torn, if_false, if_true, reduceIte]
theorem no_Disk_size {v0 v1 v2 v3 v4 : V} : (fl_Disk v0 v1 v2 v3 v4).lookup ("size" : Str) = none := by
  have q : ∀ (g : Str) (u : V) (r : List (Str × V)), ¬ g = "size" → List.lookup (Str.ofString "size") ((g, u) :: r) = List.lookup (Str.ofString "size") r := fun g u r h => by
    have hb : ((Str.ofString "size") == g) = false := beq_eq_false_iff_ne.mpr (fun z => h z.symm)
    simp only [List.lookup, hb]
  unfold fl_Disk
  rw [q _ _ _ (by rw [ne_Disk__blocks__size]; exact id), q _ _ _ (by rw [ne_Disk__pending__size]; exact id), q _ _ _ (by rw [ne_Disk__cuts__size]; exact id), q _ _ _ (by rw [ne_Disk__left__size]; exact id), q _ _ _ (by rw [ne_Disk__torn__size]; exact id)]
  rfl
theorem no_Disk__check_at {v0 v1 v2 v3 v4 : V} : (fl_Disk v0 v1 v2 v3 v4).lookup ("_check_at" : Str) = none := by
  have q : ∀ (g : Str) (u : V) (r : List (Str × V)), ¬ g = "_check_at" → List.lookup (Str.ofString "_check_at") ((g, u) :: r) = List.lookup (Str.ofString "_check_at") r := fun g u r h => by
    have hb : ((Str.ofString "_check_at") == g) = false := beq_eq_false_iff_ne.mpr (fun z => h z.symm)
    simp only [List.lookup, hb]
  unfold fl_Disk
  rw [q _ _ _ (by rw [ne_Disk__blocks___check_at]; exact id), q _ _ _ (by rw [ne_Disk__pending___check_at]; exact id), q _ _ _ (by rw [ne_Disk__cuts___check_at]; exact id), q _ _ _ (by rw [ne_Disk__left___check_at]; exact id), q _ _ _ (by rw [ne_Disk__torn___check_at]; exact id)]
  rfl
theorem no_Disk_read {v0 v1 v2 v3 v4 : V} : (fl_Disk v0 v1 v2 v3 v4).lookup ("read" : Str) = none := by
  have q : ∀ (g : Str) (u : V) (r : List (Str × V)), ¬ g = "read" → List.lookup (Str.ofString "read") ((g, u) :: r) = List.lookup (Str.ofString "read") r := fun g u r h => by
    have hb : ((Str.ofString "read") == g) = false := beq_eq_false_iff_ne.mpr (fun z => h z.symm)
    simp only [List.lookup, hb]
  unfold fl_Disk
  rw [q _ _ _ (by rw [ne_Disk__blocks__read]; exact id), q _ _ _ (by rw [ne_Disk__pending__read]; exact id), q _ _ _ (by rw [ne_Disk__cuts__read]; exact id), q _ _ _ (by rw [ne_Disk__left__read]; exact id), q _ _ _ (by rw [ne_Disk__torn__read]; exact id)]
  rfl
theorem no_Disk_write {v0 v1 v2 v3 v4 : V} : (fl_Disk v0 v1 v2 v3 v4).lookup ("write" : Str) = none := by
  have q : ∀ (g : Str) (u : V) (r : List (Str × V)), ¬ g = "write" → List.lookup (Str.ofString "write") ((g, u) :: r) = List.lookup (Str.ofString "write") r := fun g u r h => by
    have hb : ((Str.ofString "write") == g) = false := beq_eq_false_iff_ne.mpr (fun z => h z.symm)
    simp only [List.lookup, hb]
  unfold fl_Disk
  rw [q _ _ _ (by rw [ne_Disk__blocks__write]; exact id), q _ _ _ (by rw [ne_Disk__pending__write]; exact id), q _ _ _ (by rw [ne_Disk__cuts__write]; exact id), q _ _ _ (by rw [ne_Disk__left__write]; exact id), q _ _ _ (by rw [ne_Disk__torn__write]; exact id)]
  rfl
theorem no_Disk_flush {v0 v1 v2 v3 v4 : V} : (fl_Disk v0 v1 v2 v3 v4).lookup ("flush" : Str) = none := by
  have q : ∀ (g : Str) (u : V) (r : List (Str × V)), ¬ g = "flush" → List.lookup (Str.ofString "flush") ((g, u) :: r) = List.lookup (Str.ofString "flush") r := fun g u r h => by
    have hb : ((Str.ofString "flush") == g) = false := beq_eq_false_iff_ne.mpr (fun z => h z.symm)
    simp only [List.lookup, hb]
  unfold fl_Disk
  rw [q _ _ _ (by rw [ne_Disk__blocks__flush]; exact id), q _ _ _ (by rw [ne_Disk__pending__flush]; exact id), q _ _ _ (by rw [ne_Disk__cuts__flush]; exact id), q _ _ _ (by rw [ne_Disk__left__flush]; exact id), q _ _ _ (by rw [ne_Disk__torn__flush]; exact id)]
  rfl
theorem no_Disk__use_power {v0 v1 v2 v3 v4 : V} : (fl_Disk v0 v1 v2 v3 v4).lookup ("_use_power" : Str) = none := by
  have q : ∀ (g : Str) (u : V) (r : List (Str × V)), ¬ g = "_use_power" → List.lookup (Str.ofString "_use_power") ((g, u) :: r) = List.lookup (Str.ofString "_use_power") r := fun g u r h => by
    have hb : ((Str.ofString "_use_power") == g) = false := beq_eq_false_iff_ne.mpr (fun z => h z.symm)
    simp only [List.lookup, hb]
  unfold fl_Disk
  rw [q _ _ _ (by rw [ne_Disk__blocks___use_power]; exact id), q _ _ _ (by rw [ne_Disk__pending___use_power]; exact id), q _ _ _ (by rw [ne_Disk__cuts___use_power]; exact id), q _ _ _ (by rw [ne_Disk__left___use_power]; exact id), q _ _ _ (by rw [ne_Disk__torn___use_power]; exact id)]
  rfl
theorem no_Disk__cut {v0 v1 v2 v3 v4 : V} : (fl_Disk v0 v1 v2 v3 v4).lookup ("_cut" : Str) = none := by
  have q : ∀ (g : Str) (u : V) (r : List (Str × V)), ¬ g = "_cut" → List.lookup (Str.ofString "_cut") ((g, u) :: r) = List.lookup (Str.ofString "_cut") r := fun g u r h => by
    have hb : ((Str.ofString "_cut") == g) = false := beq_eq_false_iff_ne.mpr (fun z => h z.symm)
    simp only [List.lookup, hb]
  unfold fl_Disk
  rw [q _ _ _ (by rw [ne_Disk__blocks___cut]; exact id), q _ _ _ (by rw [ne_Disk__pending___cut]; exact id), q _ _ _ (by rw [ne_Disk__cuts___cut]; exact id), q _ _ _ (by rw [ne_Disk__left___cut]; exact id), q _ _ _ (by rw [ne_Disk__torn___cut]; exact id)]
  rfl
theorem no_Disk_cut_count {v0 v1 v2 v3 v4 : V} : (fl_Disk v0 v1 v2 v3 v4).lookup ("cut_count" : Str) = none := by
  have q : ∀ (g : Str) (u : V) (r : List (Str × V)), ¬ g = "cut_count" → List.lookup (Str.ofString "cut_count") ((g, u) :: r) = List.lookup (Str.ofString "cut_count") r := fun g u r h => by
    have hb : ((Str.ofString "cut_count") == g) = false := beq_eq_false_iff_ne.mpr (fun z => h z.symm)
    simp only [List.lookup, hb]
  unfold fl_Disk
  rw [q _ _ _ (by rw [ne_Disk__blocks__cut_count]; exact id), q _ _ _ (by rw [ne_Disk__pending__cut_count]; exact id), q _ _ _ (by rw [ne_Disk__cuts__cut_count]; exact id), q _ _ _ (by rw [ne_Disk__left__cut_count]; exact id), q _ _ _ (by rw [ne_Disk__torn__cut_count]; exact id)]
  rfl
/-- a Disk stands at x; what else changes is rest -/
noncomputable def Dsk (C : Addr) (R H : Hp) (x : Addr) (rest : List (Addr × HO)) (s : Dk.St) : Prop := ∃ (dx pb pp pt : Addr) (vb vp : List V), Mv.Hv R H ((x, .ins C dx (fl_Disk (.ref pb) (.ref pp) (.int (s.cu : Int)) (Dk.lfV s.lf) (.ref pt))) :: (pb, .lst vb) :: (pp, .lst vp) :: rest) ∧ Dk.BL R vb s.bl ∧ Dk.PL HO.tup R vp s.pe ∧ R pt = some (.lst (s.tn.map V.int))
theorem Dsk.to {C : Addr} {R H R' H' : Hp} {x : Addr} {rest : List (Addr × HO)} {s : Dk.St} {dx pb pp pt : Addr} {vb vp : List V} (hv : Mv.Hv R' H' ((x, .ins C dx (fl_Disk (.ref pb) (.ref pp) (.int (s.cu : Int)) (Dk.lfV s.lf) (.ref pt))) :: (pb, .lst vb) :: (pp, .lst vp) :: rest)) (b : Dk.BL R' vb s.bl) (p : Dk.PL HO.tup R' vp s.pe) (t : R' pt = some (.lst (s.tn.map V.int))) : Dsk C R' H' x rest s := ⟨dx, pb, pp, pt, vb, vp, hv, b, p, t⟩
theorem Dsk.hv {C : Addr} {R H : Hp} {x : Addr} {rest : List (Addr × HO)} {s : Dk.St} (d : Dsk C R H x rest s) : ∃ ps, Mv.Hv R H (ps ++ rest) := by
  obtain ⟨dx, pb, pp, pt, vb, vp, hv, _⟩ := d
  exact ⟨[_, _, _], hv⟩
theorem Dsk.got {C : Addr} {R H : Hp} {x a : Addr} {o : HO} {rest : List (Addr × HO)} {s : Dk.St} (d : Dsk C R H x rest s) (i : Dk.In R rest a o) : H a = some o := by
  obtain ⟨ps, hv⟩ := d.hv
  rcases i with i | i
  · exact hv.same _ _ i
  · exact hv.at (List.mem_append_right _ i)
theorem Dsk.same {C : Addr} {R H : Hp} {x : Addr} {rest : List (Addr × HO)} {s : Dk.St} (d : Dsk C R H x rest s) : Same R H := by
  obtain ⟨ps, hv⟩ := d.hv
  exact hv.same
/-- behind a call that leaves all that stands -/
theorem Dsk.grow {C : Addr} {R H H' : Hp} {x : Addr} {rest : List (Addr × HO)} {s : Dk.St} (d : Dsk C R H x rest s) (e : Same H H') : ∃ R', Dsk C R' H' x rest s ∧ Same R R' ∧ ∀ a o, H a = none → H' a = some o → R' a = some o := by
  obtain ⟨dx, pb, pp, pt, vb, vp, hv, b, p, t⟩ := d
  obtain ⟨R', h1, h2, h3⟩ := hv.grow e
  exact ⟨R', ⟨dx, pb, pp, pt, vb, vp, h1, b.keep h2, p.keep h2, h2 _ _ t⟩, h2, h3⟩
theorem Dsk.put {C : Addr} {R H : Hp} {x a : Addr} {o o' : HO} {l1 l2 : List (Addr × HO)} {s : Dk.St} (d : Dsk C R H x (l1 ++ (a, o) :: l2) s) : Dsk C R (upd H a o') x (l1 ++ (a, o') :: l2) s := by
  obtain ⟨dx, pb, pp, pt, vb, vp, hv, b, p, t⟩ := d
  exact ⟨dx, pb, pp, pt, vb, vp, hv.put (l1 := _ :: _ :: _ :: l1), b, p, t⟩
theorem Dsk.perm {C : Addr} {R H : Hp} {x : Addr} {l1 l2 : List (Addr × HO)} {s : Dk.St} (d : Dsk C R H x l1 s) (h : l1.Perm l2) : Dsk C R H x l2 s := by
  obtain ⟨dx, pb, pp, pt, vb, vp, hv, b, p, t⟩ := d
  exact ⟨dx, pb, pp, pt, vb, vp, hv.perm (.cons _ (.cons _ (.cons _ h))), b, p, t⟩
theorem Dsk.more {C : Addr} {R H H' : Hp} {x a : Addr} {o : HO} {rest : List (Addr × HO)} {s : Dk.St} (d : Dsk C R H x rest s) (e : H a = none) (s' : Same H H') (f : H' a = some o) : ∃ R', Dsk C R' H' x ((a, o) :: rest) s ∧ Same R R' ∧ ∀ c u, c ≠ a → H c = none → H' c = some u → R' c = some u := by
  obtain ⟨dx, pb, pp, pt, vb, vp, hv, b, p, t⟩ := d
  obtain ⟨R', h1, h2, h3⟩ := hv.more3 e s' f
  refine ⟨R', ⟨dx, pb, pp, pt, vb, vp, h1.perm ?_, b.keep h2, p.keep h2, h2 _ _ t⟩, h2, h3⟩
  refine (List.Perm.swap _ _ _).trans (.cons _ ?_)
  refine (List.Perm.swap _ _ _).trans (.cons _ ?_)
  exact List.Perm.swap _ _ _
theorem Dsk.less {C : Addr} {R H : Hp} {x a : Addr} {o : HO} {rest : List (Addr × HO)} {s : Dk.St} (d : Dsk C R H x ((a, o) :: rest) s) : ∃ R', Dsk C R' H x rest s ∧ Same R R' ∧ R' a = some o := by
  obtain ⟨dx, pb, pp, pt, vb, vp, hv, b, p, t⟩ := d
  obtain ⟨R', h1, h2, h3⟩ := (hv.perm (l2 := (a, o) :: (x, .ins C dx (fl_Disk (.ref pb) (.ref pp) (.int (s.cu : Int)) (Dk.lfV s.lf) (.ref pt))) :: (pb, .lst vb) :: (pp, .lst vp) :: rest) (by
    refine (List.Perm.cons _ (List.Perm.cons _ (List.Perm.swap _ _ _))).trans ?_
    refine (List.Perm.cons _ (List.Perm.swap _ _ _)).trans ?_
    exact List.Perm.swap _ _ _)).less
  exact ⟨R', ⟨dx, pb, pp, pt, vb, vp, h1, b.keep h2, p.keep h2, h2 _ _ t⟩, h2, h3⟩
theorem Dsk.free {C : Addr} {R H : Hp} {x a : Addr} {rest : List (Addr × HO)} {s : Dk.St} (d : Dsk C R H x rest s) (e : H a = none) : R a = none := by
  obtain ⟨ps, hv⟩ := d.hv
  exact (hv.free e).1
theorem Dsk.on {C : Addr} {R H : Hp} {x a : Addr} {o : HO} {rest : List (Addr × HO)} {s : Dk.St} (d : Dsk C R H x rest s) (m : (a, o) ∈ rest) : H a = some o := d.got (.inr m)
theorem Dsk.ofOwn {C : Addr} {R0 R H : Hp} {x D : Addr} {o : HO} {rest : List (Addr × HO)} {s : Dk.St} (O : Fx.Own R H (Nx.one D o)) (d : Dsk C R0 R x rest s) : Dsk C R0 H x ((D, o) :: rest) s := by
  obtain ⟨dx, pb, pp, pt, vb, vp, hv, b, p, t⟩ := d
  refine ⟨dx, pb, pp, pt, vb, vp, (Mv.Hv.ofOwn O hv).perm ?_, b, p, t⟩
  refine (List.Perm.swap _ _ _).trans (.cons _ ?_)
  refine (List.Perm.swap _ _ _).trans (.cons _ ?_)
  exact List.Perm.swap _ _ _
theorem Dsk.toOwn {C : Addr} {R0 H : Hp} {x D : Addr} {xs : List V} {rest : List (Addr × HO)} {s : Dk.St} (d : Dsk C R0 H x ((D, .lst xs) :: rest) s) : ∃ R, Fx.Own R H (Nx.one D (.lst xs)) ∧ Dsk C R0 R x rest s := by
  obtain ⟨dx, pb, pp, pt, vb, vp, hv, b, p, t⟩ := d
  obtain ⟨R, O, h⟩ := Mv.Hv.toOwn (hv.perm (l2 := (D, .lst xs) :: (x, .ins C dx (fl_Disk (.ref pb) (.ref pp) (.int (s.cu : Int)) (Dk.lfV s.lf) (.ref pt))) :: (pb, .lst vb) :: (pp, .lst vp) :: rest) (by
    refine (List.Perm.cons _ (List.Perm.cons _ (List.Perm.swap _ _ _))).trans ?_
    refine (List.Perm.cons _ (List.Perm.swap _ _ _)).trans ?_
    exact List.Perm.swap _ _ _))
  exact ⟨R, O, dx, pb, pp, pt, vb, vp, h, b, p, t⟩
theorem Dsk.down {C : Addr} {R0 R H : Hp} {x D : Addr} {o : HO} {rest : List (Addr × HO)} {s : Dk.St} (O : Fx.Own R H (Nx.one D o)) (d : Dsk C R0 R x rest s) : ∃ R', Dsk C R' H x rest s ∧ Same R0 R' ∧ R' D = some o := (d.ofOwn O).less
theorem Dsk.ins {C : Addr} {R H : Hp} {x : Addr} {rest : List (Addr × HO)} {s : Dk.St} (d : Dsk C R H x rest s) : ∃ dx pb pp pt, H x = some (.ins C dx (fl_Disk (.ref pb) (.ref pp) (.int (s.cu : Int)) (Dk.lfV s.lf) (.ref pt))) := by
  obtain ⟨dx, pb, pp, pt, vb, vp, hv, b, p, t⟩ := d
  exact ⟨dx, pb, pp, pt, hv.g0⟩

noncomputable def fl_Arrived (v0 v1 v2 : V) : List (Str × V) := [("frame", v0), ("_digits", v1), ("_prefixes", v2)]
theorem ne_Arrived_frame___digits : ((Str.ofString "frame") = Str.ofString "_digits") = False := eq_false (by decide +kernel)
theorem ne_Arrived_frame___prefixes : ((Str.ofString "frame") = Str.ofString "_prefixes") = False := eq_false (by decide +kernel)
theorem ne_Arrived__digits___prefixes : ((Str.ofString "_digits") = Str.ofString "_prefixes") = False := eq_false (by decide +kernel)
theorem put_Arrived_frame {v0 v1 v2 : V} {z : V} : putF "frame" z (fl_Arrived v0 v1 v2) = fl_Arrived z v1 v2 := by
  simp only [fl_Arrived, putF, if_false, if_true, reduceIte]
theorem lk_Arrived_frame {v0 v1 v2 : V} : (fl_Arrived v0 v1 v2).lookup ("frame" : Str) = some v0 := by
  have h := lookup_putF "frame" "frame" v0 (fl_Arrived v0 v1 v2)
  rw [put_Arrived_frame, if_pos rfl] at h
  exact h
theorem put_Arrived__digits {v0 v1 v2 : V} {z : V} : putF "_digits" z (fl_Arrived v0 v1 v2) = fl_Arrived v0 z v2 := by
  simp only [fl_Arrived, putF, ne_Arrived_frame___digits, if_false, if_true, reduceIte]
theorem lk_Arrived__digits {v0 v1 v2 : V} : (fl_Arrived v0 v1 v2).lookup ("_digits" : Str) = some v1 := by
  have h := lookup_putF "_digits" "_digits" v1 (fl_Arrived v0 v1 v2)
  rw [put_Arrived__digits, if_pos rfl] at h
  exact h
theorem put_Arrived__prefixes {v0 v1 v2 : V} {z : V} : putF "_prefixes" z (fl_Arrived v0 v1 v2) = fl_Arrived v0 v1 z := by
  simp only [fl_Arrived, putF, ne_Arrived_frame___prefixes, ne_Arrived__digits___prefixes, if_false, if_true, reduceIte]
theorem lk_Arrived__prefixes {v0 v1 v2 : V} : (fl_Arrived v0 v1 v2).lookup ("_prefixes" : Str) = some v2 := by
  have h := lookup_putF "_prefixes" "_prefixes" v2 (fl_Arrived v0 v1 v2)
  rw [put_Arrived__prefixes, if_pos rfl] at h
  exact h
theorem ini_Arrived {v0 v1 v2 : V} : putF "_prefixes" v2 (putF "_digits" v1 (putF "frame" v0 [])) = fl_Arrived v0 v1 v2 := by
  simp only [fl_Arrived, putF, ne_Arrived_frame___digits, ne_Arrived_frame___prefixes, ne_Arrived__digits___prefixes, if_false, if_true, reduceIte]
/-- an Arrived stands at x, its frame at f, its lists at dl and pl -/
structure Ao (C CF : Addr) (R : Hp) (x f dl pl : Addr) (w h d c t : Nat) : Prop where
  ob : ∃ dx, R x = some (.ins C dx (fl_Arrived (.ref f) (.ref dl) (.ref pl)))
  fr : Frm CF R f w h d c t
theorem Ao.keep {C CF : Addr} {R R' : Hp} {x f dl pl : Addr} {w h d c t : Nat} (a : Ao C CF R x f dl pl w h d c t) (s : Same R R') : Ao C CF R' x f dl pl w h d c t := by
  obtain ⟨⟨dx, h1⟩, h2⟩ := a
  exact ⟨⟨dx, s _ _ h1⟩, h2.keep s⟩
/-- an Arrived with these prefixes, as the readers of values see it -/
structure Gv (C CF : Addr) (H : Hp) (x : Addr) (w h d c t : Nat) (ps : List (List Bool)) : Prop where
  ex : ∃ f dl pl, Ao C CF H x f dl pl w h d c t ∧ H pl = some (.lst (Ar.sv ps))
  D : Rg.Dim w h d c t
  ln : ps.length = d * c * (Gd.ac w t * Gd.ac h t)
  lb : ∀ n, (ps.getD n []).length ≤ 256
theorem Gv.keep {C CF : Addr} {R R' : Hp} {x : Addr} {w h d c t : Nat} {ps : List (List Bool)} (a : Gv C CF R x w h d c t ps) (s : Same R R') : Gv C CF R' x w h d c t ps := by
  obtain ⟨⟨f, dl, pl, h1, h2⟩, h3, h4, h5⟩ := a
  exact ⟨⟨f, dl, pl, h1.keep s, s _ _ h2⟩, h3, h4, h5⟩

noncomputable def fl_Keeper (v0 v1 v2 v3 v4 v5 : V) : List (Str × V) := [("frame", v0), ("_disk", v1), ("_cuts", v2), ("_generation", v3), ("_arrived", v4), ("_used", v5)]
theorem ne_Keeper_frame___disk : ((Str.ofString "frame") = Str.ofString "_disk") = False := eq_false (by decide +kernel)
theorem ne_Keeper_frame___cuts : ((Str.ofString "frame") = Str.ofString "_cuts") = False := eq_false (by decide +kernel)
theorem ne_Keeper_frame___generation : ((Str.ofString "frame") = Str.ofString "_generation") = False := eq_false (by decide +kernel)
theorem ne_Keeper_frame___arrived : ((Str.ofString "frame") = Str.ofString "_arrived") = False := eq_false (by decide +kernel)
theorem ne_Keeper_frame___used : ((Str.ofString "frame") = Str.ofString "_used") = False := eq_false (by decide +kernel)
theorem ne_Keeper__disk___cuts : ((Str.ofString "_disk") = Str.ofString "_cuts") = False := eq_false (by decide +kernel)
theorem ne_Keeper__disk___generation : ((Str.ofString "_disk") = Str.ofString "_generation") = False := eq_false (by decide +kernel)
theorem ne_Keeper__disk___arrived : ((Str.ofString "_disk") = Str.ofString "_arrived") = False := eq_false (by decide +kernel)
theorem ne_Keeper__disk___used : ((Str.ofString "_disk") = Str.ofString "_used") = False := eq_false (by decide +kernel)
theorem ne_Keeper__cuts___generation : ((Str.ofString "_cuts") = Str.ofString "_generation") = False := eq_false (by decide +kernel)
theorem ne_Keeper__cuts___arrived : ((Str.ofString "_cuts") = Str.ofString "_arrived") = False := eq_false (by decide +kernel)
theorem ne_Keeper__cuts___used : ((Str.ofString "_cuts") = Str.ofString "_used") = False := eq_false (by decide +kernel)
theorem ne_Keeper__generation___arrived : ((Str.ofString "_generation") = Str.ofString "_arrived") = False := eq_false (by decide +kernel)
theorem ne_Keeper__generation___used : ((Str.ofString "_generation") = Str.ofString "_used") = False := eq_false (by decide +kernel)
theorem ne_Keeper__arrived___used : ((Str.ofString "_arrived") = Str.ofString "_used") = False := eq_false (by decide +kernel)
theorem put_Keeper_frame {v0 v1 v2 v3 v4 v5 : V} {z : V} : putF "frame" z (fl_Keeper v0 v1 v2 v3 v4 v5) = fl_Keeper z v1 v2 v3 v4 v5 := by
  simp only [fl_Keeper, putF, if_false, if_true, reduceIte]
theorem lk_Keeper_frame {v0 v1 v2 v3 v4 v5 : V} : (fl_Keeper v0 v1 v2 v3 v4 v5).lookup ("frame" : Str) = some v0 := by
  have h := lookup_putF "frame" "frame" v0 (fl_Keeper v0 v1 v2 v3 v4 v5)
  rw [put_Keeper_frame, if_pos rfl] at h
  exact h
theorem put_Keeper__disk {v0 v1 v2 v3 v4 v5 : V} {z : V} : putF "_disk" z (fl_Keeper v0 v1 v2 v3 v4 v5) = fl_Keeper v0 z v2 v3 v4 v5 := by
  simp only [fl_Keeper, putF, ne_Keeper_frame___disk, if_false, if_true, reduceIte]
theorem lk_Keeper__disk {v0 v1 v2 v3 v4 v5 : V} : (fl_Keeper v0 v1 v2 v3 v4 v5).lookup ("_disk" : Str) = some v1 := by
  have h := lookup_putF "_disk" "_disk" v1 (fl_Keeper v0 v1 v2 v3 v4 v5)
  rw [put_Keeper__disk, if_pos rfl] at h
  exact h
theorem put_Keeper__cuts {v0 v1 v2 v3 v4 v5 : V} {z : V} : putF "_cuts" z (fl_Keeper v0 v1 v2 v3 v4 v5) = fl_Keeper v0 v1 z v3 v4 v5 := by
  simp only [fl_Keeper, putF, ne_Keeper_frame___cuts, ne_Keeper__disk___cuts, if_false, if_true, reduceIte]
theorem lk_Keeper__cuts {v0 v1 v2 v3 v4 v5 : V} : (fl_Keeper v0 v1 v2 v3 v4 v5).lookup ("_cuts" : Str) = some v2 := by
  have h := lookup_putF "_cuts" "_cuts" v2 (fl_Keeper v0 v1 v2 v3 v4 v5)
  rw [put_Keeper__cuts, if_pos rfl] at h
  exact h
theorem put_Keeper__generation {v0 v1 v2 v3 v4 v5 : V} {z : V} : putF "_generation" z (fl_Keeper v0 v1 v2 v3 v4 v5) = fl_Keeper v0 v1 v2 z v4 v5 := by
  simp only [fl_Keeper, putF, ne_Keeper_frame___generation, ne_Keeper__disk___generation, ne_Keeper__cuts___generation, if_false, if_true, reduceIte]
theorem lk_Keeper__generation {v0 v1 v2 v3 v4 v5 : V} : (fl_Keeper v0 v1 v2 v3 v4 v5).lookup ("_generation" : Str) = some v3 := by
  have h := lookup_putF "_generation" "_generation" v3 (fl_Keeper v0 v1 v2 v3 v4 v5)
  rw [put_Keeper__generation, if_pos rfl] at h
  exact h
theorem put_Keeper__arrived {v0 v1 v2 v3 v4 v5 : V} {z : V} : putF "_arrived" z (fl_Keeper v0 v1 v2 v3 v4 v5) = fl_Keeper v0 v1 v2 v3 z v5 := by
  simp only [fl_Keeper, putF, ne_Keeper_frame___arrived, ne_Keeper__disk___arrived, ne_Keeper__cuts___arrived, ne_Keeper__generation___arrived, if_false, if_true, reduceIte]
theorem lk_Keeper__arrived {v0 v1 v2 v3 v4 v5 : V} : (fl_Keeper v0 v1 v2 v3 v4 v5).lookup ("_arrived" : Str) = some v4 := by
  have h := lookup_putF "_arrived" "_arrived" v4 (fl_Keeper v0 v1 v2 v3 v4 v5)
  rw [put_Keeper__arrived, if_pos rfl] at h
  exact h
theorem put_Keeper__used {v0 v1 v2 v3 v4 v5 : V} {z : V} : putF "_used" z (fl_Keeper v0 v1 v2 v3 v4 v5) = fl_Keeper v0 v1 v2 v3 v4 z := by
  simp only [fl_Keeper, putF, ne_Keeper_frame___used, ne_Keeper__disk___used, ne_Keeper__cuts___used, ne_Keeper__generation___used, ne_Keeper__arrived___used, if_false, if_true, reduceIte]
theorem lk_Keeper__used {v0 v1 v2 v3 v4 v5 : V} : (fl_Keeper v0 v1 v2 v3 v4 v5).lookup ("_used" : Str) = some v5 := by
  have h := lookup_putF "_used" "_used" v5 (fl_Keeper v0 v1 v2 v3 v4 v5)
  rw [put_Keeper__used, if_pos rfl] at h
  exact h
theorem ini_Keeper {v0 v1 v2 v3 v4 v5 : V} : putF "_used" v5 (putF "_arrived" v4 (putF "_generation" v3 (putF "_cuts" v2 (putF "_disk" v1 (putF "frame" v0 []))))) = fl_Keeper v0 v1 v2 v3 v4 v5 := by
  simp only [fl_Keeper, putF, ne_Keeper_frame___disk, ne_Keeper_frame___cuts, ne_Keeper_frame___generation, ne_Keeper_frame___arrived, ne_Keeper_frame___used, ne_Keeper__disk___cuts, ne_Keeper__disk___generation, ne_Keeper__disk___arrived, ne_Keeper__disk___used, ne_Keeper__cuts___generation, ne_Keeper__cuts___arrived, ne_Keeper__cuts___used, ne_Keeper__generation___arrived, ne_Keeper__generation___used, ne_Keeper__arrived___used, if_false, if_true, reduceIte]
noncomputable def fl_Coding (v0 v1 v2 v3 v4 v5 v6 : V) : List (Str × V) := [("bits", v0), ("_width", v1), ("_low", v2), ("_size", v3), ("_whole", v4), ("_zeros", v5), ("_ones", v6)]
theorem ne_Coding_bits___width : ((Str.ofString "bits") = Str.ofString "_width") = False := eq_false (by decide +kernel)
theorem ne_Coding_bits___low : ((Str.ofString "bits") = Str.ofString "_low") = False := eq_false (by decide +kernel)
theorem ne_Coding_bits___size : ((Str.ofString "bits") = Str.ofString "_size") = False := eq_false (by decide +kernel)
theorem ne_Coding_bits___whole : ((Str.ofString "bits") = Str.ofString "_whole") = False := eq_false (by decide +kernel)
theorem ne_Coding_bits___zeros : ((Str.ofString "bits") = Str.ofString "_zeros") = False := eq_false (by decide +kernel)
theorem ne_Coding_bits___ones : ((Str.ofString "bits") = Str.ofString "_ones") = False := eq_false (by decide +kernel)
theorem ne_Coding_bits__shares : ((Str.ofString "bits") = Str.ofString "shares") = False := eq_false (by decide +kernel)
theorem ne_Coding_bits__interval : ((Str.ofString "bits") = Str.ofString "interval") = False := eq_false (by decide +kernel)
theorem ne_Coding_bits__border : ((Str.ofString "bits") = Str.ofString "border") = False := eq_false (by decide +kernel)
theorem ne_Coding_bits__take : ((Str.ofString "bits") = Str.ofString "take") = False := eq_false (by decide +kernel)
theorem ne_Coding__width___low : ((Str.ofString "_width") = Str.ofString "_low") = False := eq_false (by decide +kernel)
theorem ne_Coding__width___size : ((Str.ofString "_width") = Str.ofString "_size") = False := eq_false (by decide +kernel)
theorem ne_Coding__width___whole : ((Str.ofString "_width") = Str.ofString "_whole") = False := eq_false (by decide +kernel)
theorem ne_Coding__width___zeros : ((Str.ofString "_width") = Str.ofString "_zeros") = False := eq_false (by decide +kernel)
theorem ne_Coding__width___ones : ((Str.ofString "_width") = Str.ofString "_ones") = False := eq_false (by decide +kernel)
theorem ne_Coding__width__shares : ((Str.ofString "_width") = Str.ofString "shares") = False := eq_false (by decide +kernel)
theorem ne_Coding__width__interval : ((Str.ofString "_width") = Str.ofString "interval") = False := eq_false (by decide +kernel)
theorem ne_Coding__width__border : ((Str.ofString "_width") = Str.ofString "border") = False := eq_false (by decide +kernel)
theorem ne_Coding__width__take : ((Str.ofString "_width") = Str.ofString "take") = False := eq_false (by decide +kernel)
theorem ne_Coding__low___size : ((Str.ofString "_low") = Str.ofString "_size") = False := eq_false (by decide +kernel)
theorem ne_Coding__low___whole : ((Str.ofString "_low") = Str.ofString "_whole") = False := eq_false (by decide +kernel)
theorem ne_Coding__low___zeros : ((Str.ofString "_low") = Str.ofString "_zeros") = False := eq_false (by decide +kernel)
theorem ne_Coding__low___ones : ((Str.ofString "_low") = Str.ofString "_ones") = False := eq_false (by decide +kernel)
theorem ne_Coding__low__shares : ((Str.ofString "_low") = Str.ofString "shares") = False := eq_false (by decide +kernel)
theorem ne_Coding__low__interval : ((Str.ofString "_low") = Str.ofString "interval") = False := eq_false (by decide +kernel)
theorem ne_Coding__low__border : ((Str.ofString "_low") = Str.ofString "border") = False := eq_false (by decide +kernel)
theorem ne_Coding__low__take : ((Str.ofString "_low") = Str.ofString "take") = False := eq_false (by decide +kernel)
theorem ne_Coding__size___whole : ((Str.ofString "_size") = Str.ofString "_whole") = False := eq_false (by decide +kernel)
theorem ne_Coding__size___zeros : ((Str.ofString "_size") = Str.ofString "_zeros") = False := eq_false (by decide +kernel)
theorem ne_Coding__size___ones : ((Str.ofString "_size") = Str.ofString "_ones") = False := eq_false (by decide +kernel)
theorem ne_Coding__size__shares : ((Str.ofString "_size") = Str.ofString "shares") = False := eq_false (by decide +kernel)
theorem ne_Coding__size__interval : ((Str.ofString "_size") = Str.ofString "interval") = False := eq_false (by decide +kernel)
theorem ne_Coding__size__border : ((Str.ofString "_size") = Str.ofString "border") = False := eq_false (by decide +kernel)
theorem ne_Coding__size__take : ((Str.ofString "_size") = Str.ofString "take") = False := eq_false (by decide +kernel)
theorem ne_Coding__whole___zeros : ((Str.ofString "_whole") = Str.ofString "_zeros") = False := eq_false (by decide +kernel)
theorem ne_Coding__whole___ones : ((Str.ofString "_whole") = Str.ofString "_ones") = False := eq_false (by decide +kernel)
theorem ne_Coding__whole__shares : ((Str.ofString "_whole") = Str.ofString "shares") = False := eq_false (by decide +kernel)
theorem ne_Coding__whole__interval : ((Str.ofString "_whole") = Str.ofString "interval") = False := eq_false (by decide +kernel)
theorem ne_Coding__whole__border : ((Str.ofString "_whole") = Str.ofString "border") = False := eq_false (by decide +kernel)
theorem ne_Coding__whole__take : ((Str.ofString "_whole") = Str.ofString "take") = False := eq_false (by decide +kernel)
theorem ne_Coding__zeros___ones : ((Str.ofString "_zeros") = Str.ofString "_ones") = False := eq_false (by decide +kernel)
theorem ne_Coding__zeros__shares : ((Str.ofString "_zeros") = Str.ofString "shares") = False := eq_false (by decide +kernel)
theorem ne_Coding__zeros__interval : ((Str.ofString "_zeros") = Str.ofString "interval") = False := eq_false (by decide +kernel)
theorem ne_Coding__zeros__border : ((Str.ofString "_zeros") = Str.ofString "border") = False := eq_false (by decide +kernel)
theorem ne_Coding__zeros__take : ((Str.ofString "_zeros") = Str.ofString "take") = False := eq_false (by decide +kernel)
theorem ne_Coding__ones__shares : ((Str.ofString "_ones") = Str.ofString "shares") = False := eq_false (by decide +kernel)
theorem ne_Coding__ones__interval : ((Str.ofString "_ones") = Str.ofString "interval") = False := eq_false (by decide +kernel)
theorem ne_Coding__ones__border : ((Str.ofString "_ones") = Str.ofString "border") = False := eq_false (by decide +kernel)
theorem ne_Coding__ones__take : ((Str.ofString "_ones") = Str.ofString "take") = False := eq_false (by decide +kernel)
theorem put_Coding_bits {v0 v1 v2 v3 v4 v5 v6 : V} {z : V} : putF "bits" z (fl_Coding v0 v1 v2 v3 v4 v5 v6) = fl_Coding z v1 v2 v3 v4 v5 v6 := by
  simp only [fl_Coding, putF, if_false, if_true, reduceIte]
theorem lk_Coding_bits {v0 v1 v2 v3 v4 v5 v6 : V} : (fl_Coding v0 v1 v2 v3 v4 v5 v6).lookup ("bits" : Str) = some v0 := by
  have h := lookup_putF "bits" "bits" v0 (fl_Coding v0 v1 v2 v3 v4 v5 v6)
  rw [put_Coding_bits, if_pos rfl] at h
  exact h
theorem put_Coding__width {v0 v1 v2 v3 v4 v5 v6 : V} {z : V} : putF "_width" z (fl_Coding v0 v1 v2 v3 v4 v5 v6) = fl_Coding v0 z v2 v3 v4 v5 v6 := by
  simp only [fl_Coding, putF, ne_Coding_bits___width, if_false, if_true, reduceIte]
theorem lk_Coding__width {v0 v1 v2 v3 v4 v5 v6 : V} : (fl_Coding v0 v1 v2 v3 v4 v5 v6).lookup ("_width" : Str) = some v1 := by
  have h := lookup_putF "_width" "_width" v1 (fl_Coding v0 v1 v2 v3 v4 v5 v6)
  rw [put_Coding__width, if_pos rfl] at h
  exact h
theorem put_Coding__low {v0 v1 v2 v3 v4 v5 v6 : V} {z : V} : putF "_low" z (fl_Coding v0 v1 v2 v3 v4 v5 v6) = fl_Coding v0 v1 z v3 v4 v5 v6 := by
  simp only [fl_Coding, putF, ne_Coding_bits___low, ne_Coding__width___low, if_false, if_true, reduceIte]
theorem lk_Coding__low {v0 v1 v2 v3 v4 v5 v6 : V} : (fl_Coding v0 v1 v2 v3 v4 v5 v6).lookup ("_low" : Str) = some v2 := by
  have h := lookup_putF "_low" "_low" v2 (fl_Coding v0 v1 v2 v3 v4 v5 v6)
  rw [put_Coding__low, if_pos rfl] at h
  exact h
theorem put_Coding__size {v0 v1 v2 v3 v4 v5 v6 : V} {z : V} : putF "_size" z (fl_Coding v0 v1 v2 v3 v4 v5 v6) = fl_Coding v0 v1 v2 z v4 v5 v6 := by
  simp only [fl_Coding, putF, ne_Coding_bits___size, ne_Coding__width___size, ne_Coding__low___size, if_false, if_true, reduceIte]
theorem lk_Coding__size {v0 v1 v2 v3 v4 v5 v6 : V} : (fl_Coding v0 v1 v2 v3 v4 v5 v6).lookup ("_size" : Str) = some v3 := by
  have h := lookup_putF "_size" "_size" v3 (fl_Coding v0 v1 v2 v3 v4 v5 v6)
  rw [put_Coding__size, if_pos rfl] at h
  exact h
theorem put_Coding__whole {v0 v1 v2 v3 v4 v5 v6 : V} {z : V} : putF "_whole" z (fl_Coding v0 v1 v2 v3 v4 v5 v6) = fl_Coding v0 v1 v2 v3 z v5 v6 := by
  simp only [fl_Coding, putF, ne_Coding_bits___whole, ne_Coding__width___whole, ne_Coding__low___whole, ne_Coding__size___whole, if_false, if_true, reduceIte]
theorem lk_Coding__whole {v0 v1 v2 v3 v4 v5 v6 : V} : (fl_Coding v0 v1 v2 v3 v4 v5 v6).lookup ("_whole" : Str) = some v4 := by
  have h := lookup_putF "_whole" "_whole" v4 (fl_Coding v0 v1 v2 v3 v4 v5 v6)
  rw [put_Coding__whole, if_pos rfl] at h
  exact h
theorem put_Coding__zeros {v0 v1 v2 v3 v4 v5 v6 : V} {z : V} : putF "_zeros" z (fl_Coding v0 v1 v2 v3 v4 v5 v6) = fl_Coding v0 v1 v2 v3 v4 z v6 := by
  simp only [fl_Coding, putF, ne_Coding_bits___zeros, ne_Coding__width___zeros, ne_Coding__low___zeros, ne_Coding__size___zeros, ne_Coding__whole___zeros, if_false, if_true, reduceIte]
theorem lk_Coding__zeros {v0 v1 v2 v3 v4 v5 v6 : V} : (fl_Coding v0 v1 v2 v3 v4 v5 v6).lookup ("_zeros" : Str) = some v5 := by
  have h := lookup_putF "_zeros" "_zeros" v5 (fl_Coding v0 v1 v2 v3 v4 v5 v6)
  rw [put_Coding__zeros, if_pos rfl] at h
  exact h
theorem put_Coding__ones {v0 v1 v2 v3 v4 v5 v6 : V} {z : V} : putF "_ones" z (fl_Coding v0 v1 v2 v3 v4 v5 v6) = fl_Coding v0 v1 v2 v3 v4 v5 z := by
  simp only [fl_Coding, putF, ne_Coding_bits___ones, ne_Coding__width___ones, ne_Coding__low___ones, ne_Coding__size___ones, ne_Coding__whole___ones, ne_Coding__zeros___ones, if_false, if_true, reduceIte]
theorem lk_Coding__ones {v0 v1 v2 v3 v4 v5 v6 : V} : (fl_Coding v0 v1 v2 v3 v4 v5 v6).lookup ("_ones" : Str) = some v6 := by
  have h := lookup_putF "_ones" "_ones" v6 (fl_Coding v0 v1 v2 v3 v4 v5 v6)
  rw [put_Coding__ones, if_pos rfl] at h
  exact h
theorem few_Coding {v0 v1 v2 v3 v4 v5 v6 : V} : (fl_Coding v0 v1 v2 v3 v4 v5 v6).length < 1000 := by
  show 7 < 1000
  decide
theorem ini_Coding {v0 v1 v2 v3 v4 v5 v6 : V} : putF "_ones" v6 (putF "_zeros" v5 (putF "_whole" v4 (putF "_size" v3 (putF "_low" v2 (putF "_width" v1 (putF "bits" v0 [])))))) = fl_Coding v0 v1 v2 v3 v4 v5 v6 := by
  simp only [fl_Coding, putF, ne_Coding_bits___width, ne_Coding_bits___low, ne_Coding_bits___size, ne_Coding_bits___whole, ne_Coding_bits___zeros, ne_Coding_bits___ones, ne_Coding__width___low, ne_Coding__width___size, ne_Coding__width___whole, ne_Coding__width___zeros, ne_Coding__width___ones, ne_Coding__low___size, ne_Coding__low___whole, ne_Coding__low___zeros, ne_Coding__low___ones, ne_Coding__size___whole, ne_Coding__size___zeros, ne_Coding__size___ones, ne_Coding__whole___zeros, ne_Coding__whole___ones, ne_Coding__zeros___ones, if_false, if_true, reduceIte]
theorem no_Coding_shares {v0 v1 v2 v3 v4 v5 v6 : V} : (fl_Coding v0 v1 v2 v3 v4 v5 v6).lookup ("shares" : Str) = none := by
  have q : ∀ (g : Str) (u : V) (r : List (Str × V)), ¬ g = "shares" → List.lookup (Str.ofString "shares") ((g, u) :: r) = List.lookup (Str.ofString "shares") r := fun g u r h => by
    have hb : ((Str.ofString "shares") == g) = false := beq_eq_false_iff_ne.mpr (fun z => h z.symm)
    simp only [List.lookup, hb]
  unfold fl_Coding
  rw [q _ _ _ (by rw [ne_Coding_bits__shares]; exact id), q _ _ _ (by rw [ne_Coding__width__shares]; exact id), q _ _ _ (by rw [ne_Coding__low__shares]; exact id), q _ _ _ (by rw [ne_Coding__size__shares]; exact id), q _ _ _ (by rw [ne_Coding__whole__shares]; exact id), q _ _ _ (by rw [ne_Coding__zeros__shares]; exact id), q _ _ _ (by rw [ne_Coding__ones__shares]; exact id)]
  rfl
theorem no_Coding_interval {v0 v1 v2 v3 v4 v5 v6 : V} : (fl_Coding v0 v1 v2 v3 v4 v5 v6).lookup ("interval" : Str) = none := by
  have q : ∀ (g : Str) (u : V) (r : List (Str × V)), ¬ g = "interval" → List.lookup (Str.ofString "interval") ((g, u) :: r) = List.lookup (Str.ofString "interval") r := fun g u r h => by
    have hb : ((Str.ofString "interval") == g) = false := beq_eq_false_iff_ne.mpr (fun z => h z.symm)
    simp only [List.lookup, hb]
  unfold fl_Coding
  rw [q _ _ _ (by rw [ne_Coding_bits__interval]; exact id), q _ _ _ (by rw [ne_Coding__width__interval]; exact id), q _ _ _ (by rw [ne_Coding__low__interval]; exact id), q _ _ _ (by rw [ne_Coding__size__interval]; exact id), q _ _ _ (by rw [ne_Coding__whole__interval]; exact id), q _ _ _ (by rw [ne_Coding__zeros__interval]; exact id), q _ _ _ (by rw [ne_Coding__ones__interval]; exact id)]
  rfl
theorem no_Coding_border {v0 v1 v2 v3 v4 v5 v6 : V} : (fl_Coding v0 v1 v2 v3 v4 v5 v6).lookup ("border" : Str) = none := by
  have q : ∀ (g : Str) (u : V) (r : List (Str × V)), ¬ g = "border" → List.lookup (Str.ofString "border") ((g, u) :: r) = List.lookup (Str.ofString "border") r := fun g u r h => by
    have hb : ((Str.ofString "border") == g) = false := beq_eq_false_iff_ne.mpr (fun z => h z.symm)
    simp only [List.lookup, hb]
  unfold fl_Coding
  rw [q _ _ _ (by rw [ne_Coding_bits__border]; exact id), q _ _ _ (by rw [ne_Coding__width__border]; exact id), q _ _ _ (by rw [ne_Coding__low__border]; exact id), q _ _ _ (by rw [ne_Coding__size__border]; exact id), q _ _ _ (by rw [ne_Coding__whole__border]; exact id), q _ _ _ (by rw [ne_Coding__zeros__border]; exact id), q _ _ _ (by rw [ne_Coding__ones__border]; exact id)]
  rfl
theorem no_Coding_take {v0 v1 v2 v3 v4 v5 v6 : V} : (fl_Coding v0 v1 v2 v3 v4 v5 v6).lookup ("take" : Str) = none := by
  have q : ∀ (g : Str) (u : V) (r : List (Str × V)), ¬ g = "take" → List.lookup (Str.ofString "take") ((g, u) :: r) = List.lookup (Str.ofString "take") r := fun g u r h => by
    have hb : ((Str.ofString "take") == g) = false := beq_eq_false_iff_ne.mpr (fun z => h z.symm)
    simp only [List.lookup, hb]
  unfold fl_Coding
  rw [q _ _ _ (by rw [ne_Coding_bits__take]; exact id), q _ _ _ (by rw [ne_Coding__width__take]; exact id), q _ _ _ (by rw [ne_Coding__low__take]; exact id), q _ _ _ (by rw [ne_Coding__size__take]; exact id), q _ _ _ (by rw [ne_Coding__whole__take]; exact id), q _ _ _ (by rw [ne_Coding__zeros__take]; exact id), q _ _ _ (by rw [ne_Coding__ones__take]; exact id)]
  rfl
/-- a Coding stands at x; its two lists of counts at z and o -/
structure Cod (C : Addr) (H : Hp) (x z o : Addr) (w : Nat) (bs : List Bool) : Prop where
  ob : ∃ dx, H x = some (.ins C dx (fl_Coding (.str (Bs.S bs)) (.int (w : Int)) (.int (Iv.lo w bs : Nat)) (.int (Iv.sz w bs : Nat)) (.int (Iv.wh w bs : Nat)) (.ref z) (.ref o)))
  hz : H z = some (.lst (Iv.zl w bs))
  ho : H o = some (.lst (Iv.ol w bs))
  zo : z ≠ o
theorem Cod.keep {C x z o : Addr} {H H' : Hp} {w : Nat} {bs : List Bool} (c : Cod C H x z o w bs) (s : Same H H') : Cod C H' x z o w bs := by
  obtain ⟨⟨dx, h1⟩, h2, h3, h4⟩ := c
  exact ⟨⟨dx, s _ _ h1⟩, s _ _ h2, s _ _ h3, h4⟩
theorem Cod.xz {C x z o : Addr} {H : Hp} {w : Nat} {bs : List Bool} (c : Cod C H x z o w bs) : x ≠ z ∧ x ≠ o := by
  obtain ⟨⟨dx, h1⟩, h2, h3, h4⟩ := c
  exact ⟨ne_of h1 h2 (by intro z; cases z), ne_of h1 h3 (by intro z; cases z)⟩
theorem nx_at {w : Nat} {bs : List Bool} {f : Nat → V} : atI ((List.range 16).map f) ((Iv.nx w bs : Nat) : Int) = some (f (Iv.nx w bs)) := by
  refine atI_nat ?_
  rw [List.getElem?_map, List.getElem?_range (show Iv.nx w bs < 16 from Cx_.ctx_lt w bs bs.length)]; rfl

theorem scx_OutOfRange : Sx.SupScope ["self", "name"] ["self", "name"] (defScope s_OutOfRange___init__) := ⟨rfl, rfl, rfl, by decide +kernel, rfl, by decide +kernel, by decide +kernel, by decide +kernel, rfl, rfl⟩
theorem ok_OutOfRange___init__ (T : Tx P K mg) : FnOk P w K mg base CX0 1 T.x_OutOfRange.a T.x_OutOfRange.d ["self", "name"] (Sx.sp1 T.x_OutOfRange.C "name") := by
  refine Sx.fn_sup (k := 0) T.x_OutOfRange.o T.x_OutOfRange.s scx_OutOfRange (fun vs H Q E h => ?_) rfl rfl rfl rfl (fun _ => rfl) (fun _ => ⟨_, rfl⟩) (fun _ => rfl) (fun cda cc A outer s H vs Q E h => ?_)
  · obtain ⟨a, z, rfl, _⟩ := h; rfl
  obtain ⟨a, z, rfl, hz, ha, q⟩ := h
  have hs : sizeLine = 16777216 := sizeLine_eq
  refine ⟨_, _, a, [.str z], pa_cons (pe_joined (PJ.cons (pe_fmt (pv 1)) (PJ.cons pe_str PJ.nil))) pa_nil, pss_one (ps_ost (pv 0) (pv 1)), rfl, ha, ?_⟩
  have l1 : ∀ x y : Str, (x ++ y).length = x.length + y.length := fun x y => Str.length_append x y
  refine ⟨.str z, rfl, .inl ⟨z, rfl, by omega, z, rfl, by rw [l1]; show 0 + _ ≤ _; omega, _, rfl, by rw [l1, l1]; show 0 + _ + 16 ≤ _; omega, by show 1 ≤ 1000; decide, ha, ?_⟩⟩
  exact ⟨.str z, rfl, .ref a, rfl, a, _, rfl, T.x_OutOfRange.o, T.nf_OutOfRange_name, .inl ⟨ha, fun dx hd hne => q dx hd hne⟩⟩

set_option hygiene false
local macro_rules | `(tactic| walk_at "go1") => `(tactic| (first
  | refine Gx.fp (by assumption) T.cl_Frame T.na_Frame_width lk_Frame_width ?_
  | refine Gx.fp (by assumption) T.cl_Frame T.na_Frame_height lk_Frame_height ?_
  | refine Gx.fp (by assumption) T.cl_Frame T.na_Frame_depth lk_Frame_depth ?_
  | refine Gx.fp (by assumption) T.cl_Frame T.na_Frame_channels lk_Frame_channels ?_
  | refine Gx.fp (by assumption) T.cl_Frame T.na_Frame_tile lk_Frame_tile ?_
  | refine Gx.fp (by assumption) T.cl_Disk T.na_Disk__blocks lk_Disk__blocks ?_
  | refine Gx.fp (by assumption) T.cl_Disk T.na_Disk__pending lk_Disk__pending ?_
  | refine Gx.fp (by assumption) T.cl_Disk T.na_Disk__cuts lk_Disk__cuts ?_
  | refine Gx.fp (by assumption) T.cl_Disk T.na_Disk__left lk_Disk__left ?_
  | refine Gx.fp (by assumption) T.cl_Disk T.na_Disk__torn lk_Disk__torn ?_
  | refine Gx.fp (by assumption) T.cl_Arrived T.na_Arrived_frame lk_Arrived_frame ?_
  | refine Gx.fp (by assumption) T.cl_Arrived T.na_Arrived__digits lk_Arrived__digits ?_
  | refine Gx.fp (by assumption) T.cl_Arrived T.na_Arrived__prefixes lk_Arrived__prefixes ?_
  | refine Gx.fp (by assumption) T.cl_Keeper T.na_Keeper_frame lk_Keeper_frame ?_
  | refine Gx.fp (by assumption) T.cl_Keeper T.na_Keeper__disk lk_Keeper__disk ?_
  | refine Gx.fp (by assumption) T.cl_Keeper T.na_Keeper__cuts lk_Keeper__cuts ?_
  | refine Gx.fp (by assumption) T.cl_Keeper T.na_Keeper__generation lk_Keeper__generation ?_
  | refine Gx.fp (by assumption) T.cl_Keeper T.na_Keeper__arrived lk_Keeper__arrived ?_
  | refine Gx.fp (by assumption) T.cl_Keeper T.na_Keeper__used lk_Keeper__used ?_
  | refine Gx.fp (by assumption) T.cl_Coding T.na_Coding_bits lk_Coding_bits ?_
  | refine Gx.fp (by assumption) T.cl_Coding T.na_Coding__width lk_Coding__width ?_
  | refine Gx.fp (by assumption) T.cl_Coding T.na_Coding__low lk_Coding__low ?_
  | refine Gx.fp (by assumption) T.cl_Coding T.na_Coding__size lk_Coding__size ?_
  | refine Gx.fp (by assumption) T.cl_Coding T.na_Coding__whole lk_Coding__whole ?_
  | refine Gx.fp (by assumption) T.cl_Coding T.na_Coding__zeros lk_Coding__zeros ?_
  | refine Gx.fp (by assumption) T.cl_Coding T.na_Coding__ones lk_Coding__ones ?_))
set_option hygiene true
noncomputable def sp_law_same (K : PySem.W.Frag) (CF : Addr) : Sp := fun vs H Q _ => ∃ (x l : Addr) (w h d c t : Nat), vs = [.ref x, .ref l] ∧ Frm CF H x w h d c t ∧ H l = some (.lst ([(w : Int), (h : Int), (d : Int), (c : Int), (t : Int)].map V.int)) ∧ ∀ H', Same H H' → Q (.bl true) H'

theorem sc_law_same : FnScope ["frame", "shape"] ["frame", "shape"] (defScope s_law_same) := ⟨rfl, rfl, rfl, by decide +kernel, rfl, by decide +kernel, by decide +kernel⟩
theorem ok_law_same (T : Tx P K mg) : FnOk P w K mg base CX0 1 T.law_same.a T.law_same.d ["frame", "shape"] (sp_law_same K T.a_Frame) := by
  refine T.law_same.f.ok sc_law_same (fun vs H Q E h => ?_) (fun cdv A outer s H vs Q E hr h => ⟨_, pss_cons (ps_if (pt_not (pt_val (pe_callB (Gx.c_isiK (K := K) rfl) rfl T.n_isinstance (by decide +kernel) (pa_cons (pv 0) (pa_cons (pe_glob (v := .ref T.a_Frame) rfl T.g_Frame rfl) pa_nil))))) (pss_one (ps_ret (pe_bl))) (pss_nil))
      (pss_one (ps_ret (pe_cmpR (op_eqD hr.units) (pe_lst (pa_cons (pe_fld (pv 0) rfl) (pa_cons (pe_fld (pv 0) rfl) (pa_cons (pe_fld (pv 0) rfl) (pa_cons (pe_fld (pv 0) rfl) (pa_cons (pe_fld (pv 0) rfl) pa_nil)))))) (pv 1) (nomark _)))), ?_⟩)
  · obtain ⟨x, l, w, h, d, c, t, rfl, _⟩ := h
    rfl
  · skip
    obtain ⟨x, l, w, h, d, c, t, rfl, fr, hl, q⟩ := h
    obtain ⟨dx, hx⟩ := id fr
    walk_at "run"
    refine Nx.isiOs T.io_Frame T.cl_Frame hx ?_
    walk_at "run"
    refine Nx.lst0 (by show 5 ≤ sizeLine; decide) fun p9 H9 n9 s9 h9 => ?_
    walk_at "run"
    refine Gx.eqDI (xs := [(w : Int), (h : Int), (d : Int), (c : Int), (t : Int)]) (ys := [(w : Int), (h : Int), (d : Int), (c : Int), (t : Int)]) (SqL.of h9) (SqL.of (s9 _ _ hl)) ?_
    rw [decide_eq_true rfl]
    exact q _ s9

theorem cp_law_same {K : PySem.W.Frag} {CF x l : Addr} {w h d c t : Nat} {H : Hp} {Q : VK} {E : XK} (fr : Frm CF H x w h d c t) (hl : H l = some (.lst ([(w : Int), (h : Int), (d : Int), (c : Int), (t : Int)].map V.int))) (q : ∀ H', Same H H' → Q (.bl true) H') : Gx.CP (sp_law_same K CF) [.ref x, .ref l] [] H Q E := ⟨x, l, w, h, d, c, t, rfl, fr, hl, q⟩

noncomputable def sp_Disk_cut_count (C : Addr) : Sp := fun vs H Q _ => ∃ (R : Hp) (x : Addr) (rest : List (Addr × HO)) (s : Dk.St), vs = [.ref x] ∧ Dsk C R H x rest s ∧ Q (.int (s.cu : Int)) H

theorem sc_Disk_cut_count : FnScope ["self"] ["self"] (defScope s_Disk_cut_count) := ⟨rfl, rfl, rfl, by decide +kernel, rfl, by decide +kernel, by decide +kernel⟩
theorem ok_Disk_cut_count (T : Tx P K mg) : FnOk P w K mg base CX0 1 T.Disk_cut_count.a T.Disk_cut_count.d ["self"] (sp_Disk_cut_count T.a_Disk) := by
  refine T.Disk_cut_count.f.ok sc_Disk_cut_count (fun vs H Q E h => ?_) (fun cdv A outer s H vs Q E hr h => ⟨_, pss_one (ps_ret (pe_fld (pv 0) rfl)), ?_⟩)
  · obtain ⟨R, x, rest, s, rfl, _⟩ := h
    rfl
  · skip
    obtain ⟨R, x, rest, s, rfl, ds, q⟩ := h
    obtain ⟨dx, pb, pp, pt, vb, vp, hv, b, p, t⟩ := ds
    have hx := hv.g0
    walk_at "run"
    exact q

theorem cp_Disk_cut_count {C x : Addr} {R H : Hp} {rest : List (Addr × HO)} {s : Dk.St} {Q : VK} {E : XK} (ds : Dsk C R H x rest s) (q : Q (.int (s.cu : Int)) H) : Gx.CP (sp_Disk_cut_count C) [.ref x] [] H Q E := ⟨R, x, rest, s, rfl, ds, q⟩

noncomputable def sp_Keeper_init (CK C CA CF : Addr) : Sp := fun vs H Q _ => ∃ (H0 R0 : Hp) (rest : List (Addr × HO)) (k dk x y f dl pl : Addr) (s : Dk.St) (n m w h d c t : Nat) (g u : Int), vs = [.ref k, .ref x, .int g, .ref y, .int u] ∧ H k = some (.ins CK dk []) ∧ Same H0 H ∧ H0 k = none ∧ Dsk C R0 H0 x rest s ∧ Dk.Wf n m s ∧ Ao CA CF R0 y f dl pl w h d c t ∧
  ∀ R H', Same R0 R → Dsk C R H' x rest s → R k = some (.ins CK dk (fl_Keeper (.ref f) (.ref x) (.int (s.cu : Int)) (.int g) (.ref y) (.int u))) → Q .non H'

theorem sc_Keeper___init__ : FnScope ["self", "disk", "generation", "arrived", "used"] ["self", "disk", "generation", "arrived", "used"] (defScope s_Keeper___init__) := ⟨rfl, rfl, rfl, by decide +kernel, rfl, by decide +kernel, by decide +kernel⟩
theorem ok_Keeper___init__ (T : Tx P K mg) : FnOk P w K mg base CX0 2 T.Keeper___init__.a T.Keeper___init__.d ["self", "disk", "generation", "arrived", "used"] (sp_Keeper_init T.a_Keeper T.a_Disk T.a_Arrived T.a_Frame) := by
  refine T.Keeper___init__.f.ok sc_Keeper___init__ (fun vs H Q E h => ?_) (fun cdv A outer s H vs Q E hr h => ⟨_, pss_cons (ps_fld (pv 0) (pe_fld (pv 3) rfl) rfl)
      (pss_cons (ps_fld (pv 0) (pv 1) rfl)
      (pss_cons (ps_fld (pv 0) (pe_meth0 (pv 1) T.cl_Disk T.Disk_cut_count.m (ok_Disk_cut_count T) (hr.mono (by decide)) T.Disk_cut_count.b .nil pass0) rfl)
      (pss_cons (ps_fld (pv 0) (pv 2) rfl)
      (pss_cons (ps_fld (pv 0) (pv 3) rfl)
      (pss_one (ps_fld (pv 0) (pv 4) rfl)))))), ?_⟩)
  · obtain ⟨H0, R0, rest, k, dk, x, y, f, dl, pl, s, n, m, w, h, d, c, t, g, u, rfl, _⟩ := h
    rfl
  · skip
    obtain ⟨H0, R0, rest, k, dk, x, y, f, dl, pl, s, n, m, w, h, d, c, t, g, u, rfl, hk, s0, h0, ds0, wf, ao0, q⟩ := h
    obtain ⟨R1, ds1, sR1, _⟩ := ds0.more h0 s0 hk
    have ao1 := ao0.keep sR1
    obtain ⟨⟨dy, hy⟩, _⟩ := id (ao1.keep ds1.same)
    walk_at "run"
    refine Gx.sfp hk T.cl_Keeper T.na_Keeper_frame (by walk_at "few") rfl ?_
    have ds2 : Dsk T.a_Disk R1 (upd H k (.ins T.a_Keeper dk (putF "frame" (.ref f) []))) x ((k, .ins T.a_Keeper dk (putF "frame" (.ref f) [])) :: rest) s := ds1.put (l1 := [])
    generalize upd H k (.ins T.a_Keeper dk (putF "frame" (.ref f) [])) = H2 at ds2 ⊢
    have hk2 := ds2.on (List.mem_cons_self ..)
    walk_at "run"
    refine Gx.sfp hk2 T.cl_Keeper T.na_Keeper__disk (by walk_at "few") rfl ?_
    have ds3 : Dsk T.a_Disk R1 (upd H2 k (.ins T.a_Keeper dk (putF "_disk" (.ref x) (putF "frame" (.ref f) [])))) x ((k, .ins T.a_Keeper dk (putF "_disk" (.ref x) (putF "frame" (.ref f) []))) :: rest) s := ds2.put (l1 := [])
    generalize upd H2 k (.ins T.a_Keeper dk (putF "_disk" (.ref x) (putF "frame" (.ref f) []))) = H3 at ds3 ⊢
    have hk3 := ds3.on (List.mem_cons_self ..)
    walk_at "run"
    obtain ⟨_, _, _, _, hx⟩ := ds3.ins
    refine Gx.mp hx no_Disk_cut_count ?_
    walk_at "run"
    refine cp_Disk_cut_count ds3 ?_
    walk_at "run"
    refine Gx.sfp hk3 T.cl_Keeper T.na_Keeper__cuts (by walk_at "few") rfl ?_
    have ds4 : Dsk T.a_Disk R1 (upd H3 k (.ins T.a_Keeper dk (putF "_cuts" (.int (s.cu : Int)) (putF "_disk" (.ref x) (putF "frame" (.ref f) []))))) x ((k, .ins T.a_Keeper dk (putF "_cuts" (.int (s.cu : Int)) (putF "_disk" (.ref x) (putF "frame" (.ref f) [])))) :: rest) s := ds3.put (l1 := [])
    generalize upd H3 k (.ins T.a_Keeper dk (putF "_cuts" (.int (s.cu : Int)) (putF "_disk" (.ref x) (putF "frame" (.ref f) [])))) = H4 at ds4 ⊢
    have hk4 := ds4.on (List.mem_cons_self ..)
    walk_at "run"
    refine Gx.sfp hk4 T.cl_Keeper T.na_Keeper__generation (by walk_at "few") rfl ?_
    have ds5 : Dsk T.a_Disk R1 (upd H4 k (.ins T.a_Keeper dk (putF "_generation" (.int g) (putF "_cuts" (.int (s.cu : Int)) (putF "_disk" (.ref x) (putF "frame" (.ref f) [])))))) x ((k, .ins T.a_Keeper dk (putF "_generation" (.int g) (putF "_cuts" (.int (s.cu : Int)) (putF "_disk" (.ref x) (putF "frame" (.ref f) []))))) :: rest) s := ds4.put (l1 := [])
    generalize upd H4 k (.ins T.a_Keeper dk (putF "_generation" (.int g) (putF "_cuts" (.int (s.cu : Int)) (putF "_disk" (.ref x) (putF "frame" (.ref f) []))))) = H5 at ds5 ⊢
    have hk5 := ds5.on (List.mem_cons_self ..)
    walk_at "run"
    refine Gx.sfp hk5 T.cl_Keeper T.na_Keeper__arrived (by walk_at "few") rfl ?_
    have ds6 : Dsk T.a_Disk R1 (upd H5 k (.ins T.a_Keeper dk (putF "_arrived" (.ref y) (putF "_generation" (.int g) (putF "_cuts" (.int (s.cu : Int)) (putF "_disk" (.ref x) (putF "frame" (.ref f) []))))))) x ((k, .ins T.a_Keeper dk (putF "_arrived" (.ref y) (putF "_generation" (.int g) (putF "_cuts" (.int (s.cu : Int)) (putF "_disk" (.ref x) (putF "frame" (.ref f) [])))))) :: rest) s := ds5.put (l1 := [])
    generalize upd H5 k (.ins T.a_Keeper dk (putF "_arrived" (.ref y) (putF "_generation" (.int g) (putF "_cuts" (.int (s.cu : Int)) (putF "_disk" (.ref x) (putF "frame" (.ref f) [])))))) = H6 at ds6 ⊢
    have hk6 := ds6.on (List.mem_cons_self ..)
    walk_at "run"
    refine Gx.sfp hk6 T.cl_Keeper T.na_Keeper__used (by walk_at "few") rfl ?_
    have ds7 : Dsk T.a_Disk R1 (upd H6 k (.ins T.a_Keeper dk (putF "_used" (.int u) (putF "_arrived" (.ref y) (putF "_generation" (.int g) (putF "_cuts" (.int (s.cu : Int)) (putF "_disk" (.ref x) (putF "frame" (.ref f) [])))))))) x ((k, .ins T.a_Keeper dk (putF "_used" (.int u) (putF "_arrived" (.ref y) (putF "_generation" (.int g) (putF "_cuts" (.int (s.cu : Int)) (putF "_disk" (.ref x) (putF "frame" (.ref f) []))))))) :: rest) s := ds6.put (l1 := [])
    rw [ini_Keeper] at ds7 ⊢
    obtain ⟨R9, ds9, sR9, hk9⟩ := ds7.less
    exact q R9 _ (sR1.trans sR9) ds9 hk9

theorem mk_Keeper {CK C CA CF x y f dl pl : Addr} {R H : Hp} {rest : List (Addr × HO)} {s : Dk.St} {n m w h d c t : Nat} {g u : Int} {Q : VK} {E : XK} (ds : Dsk C R H x rest s) (wf : Dk.Wf n m s) (ao : Ao CA CF R y f dl pl w h d c t) (q : ∀ k dk R' H', Same R R' → Dsk C R' H' x rest s → R' k = some (.ins CK dk (fl_Keeper (.ref f) (.ref x) (.int (s.cu : Int)) (.int g) (.ref y) (.int u))) → Q (.ref k) H') :
    Gx.MkP CK (sp_Keeper_init CK C CA CF) [.ref x, .int g, .ref y, .int u] [] H Q E := by
  intro k dk hk hdk hne
  exact ⟨H, R, rest, k, dk, x, y, f, dl, pl, s, n, m, w, h, d, c, t, g, u, rfl, upd_same, Gx.same_up hk (Gx.same_new hdk), hk, ds, wf, ao, fun R' H' s' ds' h' => ⟨rfl, q k dk R' H' s' ds' h'⟩⟩

noncomputable def sp_Disk__cut (C : Addr) : Sp := fun vs H Q _ => ∃ (R : Hp) (x tp : Addr) (rest : List (Addr × HO)) (s : Dk.St) (n m : Nat) (t : List Int), vs = [.ref x, .ref tp] ∧ Dsk C R H x rest s ∧ Dk.Wf n m s ∧ m ≤ 1000 ∧ R tp = some (.lst (t.map V.int)) ∧ Dk.TOk t ∧ t.length ≤ 100001 ∧ s.cu ≤ 1000000 ∧ ∀ R' H', Same R R' → Dsk C R' H' x rest (s.cut t) → Q .non H'

theorem sc_Disk__cut : FnScope ["self", "torn", "number", "at", "block", "count"] ["self", "torn"] (defScope s_Disk__cut) := ⟨rfl, rfl, rfl, by decide +kernel, rfl, by decide +kernel, by decide +kernel⟩
theorem ok_Disk__cut (T : Tx P K mg) : FnOk P w K mg base CX0 1 T.Disk__cut.a T.Disk__cut.d ["self", "torn"] (sp_Disk__cut T.a_Disk) := by
  refine T.Disk__cut.f.ok sc_Disk__cut (fun vs H Q E h => ?_) (fun cdv A outer s H vs Q E hr h => ⟨_, pss_cons (ps_for PassesOwn.never rfl (pi_enum rfl T.n_enumerate (pa_cons (pe_fld (pv 0) rfl) pa_nil)) (pg_tup rfl (pgs_cons (pg_name (i := 2) sc_Disk__cut.nd rfl (Or.inl rfl)) (pgs_cons (pg_tup rfl (pgs_cons (pg_name (i := 3) sc_Disk__cut.nd rfl (Or.inl rfl)) (pgs_cons (pg_name (i := 4) sc_Disk__cut.nd rfl (Or.inl rfl)) pgs_nil))) pgs_nil)))
      (pss_cons (ps_set (i := 5) sc_Disk__cut.nd rfl (Or.inl rfl) (pe_ifExp (pt_cmpR op_lt (pv 2) (pe_callB (Gx.c_lenK (K := K) rfl) rfl T.n_len (by decide +kernel) (pa_cons (pv 1) pa_nil)) (nomark _)) (pe_ix (Gx.ix_seqK (K := K) rfl) (pv 1) (pv 2) (fun _ _ => rfl)) (pe_int)))
      (pss_one (ps_asg (pe_op op_cat (pe_slice (Gx.sl_listK (K := K) rfl) (pv 4) po_none (po_some (pv 5))) (pe_slice (Gx.sl_listK (K := K) rfl) (pe_ix (Gx.ix_seqK (K := K) rfl) (pe_fld (pv 0) rfl) (pv 3) (fun _ _ => rfl)) (po_some (pv 5)) po_none)) (pg_sub (pe_fld (pv 0) rfl) (pv 3) set_list)))))
      (pss_cons (ps_fld (pv 0) (pe_lst pa_nil) rfl)
      (pss_cons (ps_fld (pv 0) (pe_non) rfl)
      (pss_one (ps_fldaug (pv 0) (pe_int) in_add)))), ?_⟩)
  · obtain ⟨R, x, tp, rest, s, n, m, t, rfl, _⟩ := h
    rfl
  · skip
    obtain ⟨R, x, tp, rest, s, n, m, t, rfl, ds, w, hm, htp, htk_, htl, hcu, q⟩ := h
    obtain ⟨dx, pb, pp, pt, vb, vp, hv, hb, hp, ht⟩ := ds
    have hx := hv.g0
    have hpb := hv.g1
    have hpp := hv.g2
    have htp' := hv.same _ _ htp
    walk_at "run"
    refine Nx.en (SqL.of hpp) ?_
    have hpl : vp.length = s.pe.length := hp.1
    have hpm := w.pn
    refine Gx.fw (walk_enum (xs := vp)) (fun i σ' H' => ∃ (R' : Hp) (vb' : List V) (v2 v3 v4 v5 : Option V), Same R R' ∧ Mv.Hv R' H' ((x, .ins T.a_Disk dx (fl_Disk (.ref pb) (.ref pp) (.int (s.cu : Int)) (Dk.lfV s.lf) (.ref pt))) :: (pb, .lst vb') :: (pp, .lst vp) :: rest) ∧ Dk.BL R' vb' (Dk.cutS t s.bl (s.pe.take i)) ∧ σ' = [some (.ref x), some (.ref tp), v2, v3, v4, v5]) ⟨R, vb, none, none, none, none, Same.refl _, hv, hb, rfl⟩ (fun i σ' H' _ ⟨R', vb', v2, v3, v4, v5, _, hv', _⟩ => SqL.of hv'.g2) ?_ ?_
    · rintro i tq σ' H4 H4' hi ⟨R', vb', v2, v3, v4, v5, sR, hv', hb', rfl⟩ ⟨ta, w1, w2, rfl, hn, rfl, q1, q2⟩
      cases q1
      dsimp only at q2
      obtain ⟨te, aq, e, rfl, he, h1, h2⟩ := hp.2 i _ q2
      have htk : s.pe.take (i + 1) = s.pe.take i ++ [e] := by rw [List.take_add_one, he]; rfl
      have hil : i < s.pe.length := by omega
      obtain ⟨g1, g2⟩ := w.pb e (List.mem_of_getElem? he)
      rw [htk, Dk.cutS_app, List.length_take, Nat.min_eq_left (by omega)]
      obtain ⟨at', bq⟩ := e
      dsimp only at *
      have hbn : (Dk.cutS t s.bl (s.pe.take i)).length = n := Dk.cutS_len.trans w.bn
      have hbk := Dk.cutS_ok (tn := t) w.bn w.bb (fun e he => w.pb e (List.mem_of_mem_take he : e ∈ s.pe)) (pe := s.pe.take i)
      generalize Dk.cutS t s.bl (s.pe.take i) = bs at *
      have htk0 := htk_
      have s5 := Gx.same_new (o := .tup [.int (i : Int), .ref te]) hn
      have ht5 : upd H4 ta (.tup [.int (i : Int), .ref te]) ta = some (.tup [.int (i : Int), .ref te]) := upd_same
      obtain ⟨R5, hv5, sR5, _⟩ := hv'.grow s5
      generalize upd H4 ta (.tup [.int (i : Int), .ref te]) = H5 at s5 ht5 hv5
      have hb5 := hb'.keep sR5
      have sR5 := sR.trans sR5
      clear hv' hb' sR
      have h15 := hv5.same _ _ (sR5 _ _ h1)
      have h25 := hv5.same _ _ (sR5 _ _ h2)
      have ht5' := hv5.same _ _ (sR5 _ _ htp)
      have hpb5 := hv5.g1
      have hx5 := hv5.g0
      have hbqk := (Dk.getD_ok (i := at') hbk (by omega))
      obtain ⟨ba, hba, hbv⟩ := hb5.get (i := at') (by omega)
      have hbv5 := hv5.same _ _ hbv
      have ck : ∃ ck : Nat, t.getD i 0 = (ck : Int) ∧ ck ≤ 32 := by
        rcases Nat.lt_or_ge i t.length with c | c
        · have hm := htk0 _ (Gd.getD_mem c)
          exact ⟨(t.getD i 0).toNat, by omega, by omega⟩
        · exact ⟨0, by rw [List.getD_eq_getElem?_getD, List.getElem?_eq_none c]; rfl, by omega⟩
      obtain ⟨ck, hck, hck2⟩ := ck
      rw [hck]
      have hlv : vb'.length = n := hb5.1.trans hbn
      walk_at "run"
      refine Gx.lenL (SqL.of ht5') ?_
      rw [List.length_map]
      walk_at "run"
      refine Gx.if_d (fun e => ?_) (fun e => ?_)
      · walk_at "run"
        refine Gx.ixL (SqL.of ht5') (Gx.at_map (by omega)) ?_
        rw [hck]
        walk_at "run"
        refine Nx.slL0 (SqL.of h25) fun p6 H6 n6 s6 h6 => ?_
        rw [show cutV (bq.map V.int) none (some ((ck : Nat) : Int)) = (bq.take ck).map V.int from (Dk.cutTo (bq.map V.int) ck (by rw [List.length_map, g2.1]; exact hck2)).trans List.map_take.symm] at h6
        have hpb6 := s6 _ _ hpb5
        have hx6 := s6 _ _ hx5
        walk_at "run"
        refine Gx.ixL (SqL.of hpb6) (atI_nat hba) ?_
        walk_at "run"
        refine Nx.slL0 (SqL.of (s6 _ _ hbv5)) fun p7 H7 n7 s7 h7 => ?_
        rw [show cutV ((bs.getD at' []).map V.int) (some ((ck : Nat) : Int)) none = ((bs.getD at' []).drop ck).map V.int from (Dk.cutFrom _ ck (by rw [List.length_map, hbqk.1]; exact hck2)).trans List.map_drop.symm] at h7
        have h67 := s7 _ _ h6
        have hx7 := s7 _ _ hx6
        walk_at "run"
        refine Nx.cat0 h67 h7 (by rw [List.length_map, List.length_map, List.length_take, List.length_drop, g2.1, hbqk.1, sizeLine_eq]; omega) fun p8 H8 n8 s8 h8 => ?_
        rw [← List.map_append] at h8
        have sB := s6.trans (s7.trans s8)
        obtain ⟨R8, hv8, sR8, gR8⟩ := hv5.grow sB
        have hp8 : R8 p8 = some (.lst ((Dk.tear (ck : Int) bq (bs.getD at' [])).map V.int)) := by
          rw [gR8 _ _ ((s6.trans s7).free n8) h8]
          unfold Dk.tear
          rw [Int.toNat_natCast]
        have hpb8 := hv8.g1
        have hx8 := hv8.g0
        walk_at "run"
        refine Gx.setL (j := at') hpb8 (Dk.ixN_nat (by omega)) ?_
        exact ⟨R8, _, _, _, _, _, sR5.trans sR8, hv8.p1, (hb5.keep sR8).set hp8, rfl⟩
      · obtain rfl : ck = 0 := by
          rw [List.getD_eq_getElem?_getD, List.getElem?_eq_none (by omega)] at hck
          have : (0 : Int) = (ck : Int) := hck
          omega
        walk_at "run"
        refine Nx.slL0 (SqL.of h25) fun p6 H6 n6 s6 h6 => ?_
        rw [show cutV (bq.map V.int) none (some (0 : Int)) = (bq.take 0).map V.int from (Dk.cutTo (bq.map V.int) 0 (by rw [List.length_map, g2.1]; exact hck2)).trans List.map_take.symm] at h6
        have hpb6 := s6 _ _ hpb5
        have hx6 := s6 _ _ hx5
        walk_at "run"
        refine Gx.ixL (SqL.of hpb6) (atI_nat hba) ?_
        walk_at "run"
        refine Nx.slL0 (SqL.of (s6 _ _ hbv5)) fun p7 H7 n7 s7 h7 => ?_
        rw [show cutV ((bs.getD at' []).map V.int) (some (0 : Int)) none = ((bs.getD at' []).drop 0).map V.int from (Dk.cutFrom _ 0 (by rw [List.length_map, hbqk.1]; exact hck2)).trans List.map_drop.symm] at h7
        have h67 := s7 _ _ h6
        have hx7 := s7 _ _ hx6
        walk_at "run"
        refine Nx.cat0 h67 h7 (by rw [List.length_map, List.length_map, List.length_take, List.length_drop, g2.1, hbqk.1, sizeLine_eq]; omega) fun p8 H8 n8 s8 h8 => ?_
        rw [← List.map_append] at h8
        have sB := s6.trans (s7.trans s8)
        obtain ⟨R8, hv8, sR8, gR8⟩ := hv5.grow sB
        have hp8 : R8 p8 = some (.lst ((Dk.tear ((0 : Nat) : Int) bq (bs.getD at' [])).map V.int)) := by
          rw [gR8 _ _ ((s6.trans s7).free n8) h8]
          unfold Dk.tear
          rw [Int.toNat_natCast]
        have hpb8 := hv8.g1
        have hx8 := hv8.g0
        walk_at "run"
        refine Gx.setL (j := at') hpb8 (Dk.ixN_nat (by omega)) ?_
        exact ⟨R8, _, _, _, _, _, sR5.trans sR8, hv8.p1, (hb5.keep sR8).set hp8, rfl⟩
    rintro σ' H4 ⟨R', vb', v2, v3, v4, v5, sR, hv', hb', rfl⟩
    rw [List.take_of_length_le (by omega)] at hb'
    have hx5 := hv'.g0
    walk_at "run"
    refine Nx.lst0 (by show 0 ≤ sizeLine; decide) fun p5 H5 n5 s5 h5 => ?_
    obtain ⟨R5, hv5, sR5⟩ := hv'.more n5 s5 h5
    have hb5 := hb'.keep sR5
    have hx5 := hv5.g1
    walk_at "run"
    refine Gx.sfp hx5 T.cl_Disk T.na_Disk__pending few_Disk put_Disk__pending ?_
    have hv6 := hv5.p1 (u := .ins T.a_Disk dx (fl_Disk (.ref pb) (.ref p5) (.int (s.cu : Int)) (Dk.lfV s.lf) (.ref pt)))
    have hx6 := hv6.g1
    walk_at "run"
    refine Gx.sfp hx6 T.cl_Disk T.na_Disk__left few_Disk put_Disk__left ?_
    have hv7 := hv6.p1 (u := .ins T.a_Disk dx (fl_Disk (.ref pb) (.ref p5) (.int (s.cu : Int)) .non (.ref pt)))
    have hx7 := hv7.g1
    walk_at "run"
    with_reducible refine Mv.fldaug ?_
    walk_at "run"
    refine Mv.afpA hx7 T.cl_Disk T.na_Disk__cuts lk_Disk__cuts few_Disk put_Disk__cuts ?_
    have hv8 := hv7.p1 (u := .ins T.a_Disk dx (fl_Disk (.ref pb) (.ref p5) (.int ((s.cu : Int) + 1)) .non (.ref pt)))
    obtain ⟨R9, hv9, sR9, _⟩ := hv8.rot4.less
    have sA := sR.trans (sR5.trans sR9)
    exact q R9 _ sA ⟨dx, pb, p5, pt, vb', [], hv9, hb5.keep sR9, Dk.PL.nil, sA _ _ ht⟩

theorem cp_Disk__cut {C x tp : Addr} {R H : Hp} {rest : List (Addr × HO)} {s : Dk.St} {n m : Nat} {t : List Int} {Q : VK} {E : XK} (ds : Dsk C R H x rest s) (w : Dk.Wf n m s) (hm : m ≤ 1000) (ht : R tp = some (.lst (t.map V.int))) (hk : Dk.TOk t) (hl : t.length ≤ 100001) (hc : s.cu ≤ 1000000) (q : ∀ R' H', Same R R' → Dsk C R' H' x rest (s.cut t) → Q .non H') : Gx.CP (sp_Disk__cut C) [.ref x, .ref tp] [] H Q E := ⟨R, x, tp, rest, s, n, m, t, rfl, ds, w, hm, ht, hk, hl, hc, q⟩

noncomputable def sp_Disk__use_power (CP C : Addr) : Sp := fun vs H Q E => ∃ (R : Hp) (x : Addr) (rest : List (Addr × HO)) (s : Dk.St) (n m : Nat), vs = [.ref x] ∧ Dsk C R H x rest s ∧ Dk.Wf n m s ∧ m ≤ 1000 ∧ s.cu ≤ 1000000 ∧ (s.lf ≠ some 0 → ∀ H', Dsk C R H' x rest s.use → Q .non H') ∧ (s.lf = some 0 → ∀ R' H', Same R R' → Dsk C R' H' x rest (s.cut s.tn) → Sx.ErrB CP H' E)

theorem sc_Disk__use_power : FnScope ["self"] ["self"] (defScope s_Disk__use_power) := ⟨rfl, rfl, rfl, by decide +kernel, rfl, by decide +kernel, by decide +kernel⟩
theorem ok_Disk__use_power (T : Tx P K mg) : FnOk P w K mg base (L2.CX P w) 2 T.Disk__use_power.a T.Disk__use_power.d ["self"] (sp_Disk__use_power T.y_PowerCut.C T.a_Disk) := by
  refine T.Disk__use_power.f.okX sc_Disk__use_power (fun vs H Q E h => ?_) (fun cdv A outer s H vs Q E hr h => ⟨_, pss_cons (ps_if (pt_cmpR op_isN (pe_fld (pv 0) rfl) (pe_non) (nomark _)) (pss_one (ps_retN)) (pss_nil))
      (pss_cons (ps_if (pt_cmpR op_eq (pe_fld (pv 0) rfl) (pe_int) (nomark _)) (pss_cons (ps_expr (pe_meth (pv 0) T.cl_Disk T.Disk__cut.m (ok_Disk__cut T) (hr.mono (by decide)) T.Disk__cut.b .nil pass0 (pa_cons (pe_fld (pv 0) rfl) pa_nil)))
      (pss_one (ps_raise rfl (takes_of rfl rfl rfl rfl) (pmk_own PySem.F.excBase_ValueError T.y_PowerCut.x T.y_PowerCut.g T.y_PowerCut.k (raises_own T.y_PowerCut.b T.y_PowerCut.t) rfl)))) (pss_nil))
      (pss_one (ps_fldaug (pv 0) (pe_int) in_sub))), ?_⟩)
  · obtain ⟨R, x, rest, s, n, m, rfl, _⟩ := h
    rfl
  · skip
    obtain ⟨R, x, rest, s, n, m, rfl, ds, w, hm, hcu, q, qe⟩ := h
    have ds0 := ds
    obtain ⟨dx, pb, pp, pt, vb, vp, hv, hb, hp, ht⟩ := ds
    have hx := hv.g0
    cases hlf : s.lf with
    | none =>
      rw [hlf] at hx hv
      dsimp only [Dk.lfV] at hx hv
      have hu : Dk.lfV s.use.lf = .non := by unfold Dk.St.use; dsimp only; rw [hlf]; rfl
      walk_at "run"
      exact q (by rw [hlf]; exact fun z => nomatch z) H ⟨dx, pb, pp, pt, vb, vp, by rw [hu]; exact hv, hb, hp, ht⟩
    | some k =>
      rw [hlf] at hx hv
      dsimp only [Dk.lfV] at hx hv
      walk_at "run"
      refine Gx.if_d (fun e => ?_) (fun e => ?_)
      · have k0 : k = 0 := by omega
        walk_at "run"
        refine Gx.mp hx no_Disk__cut ?_
        walk_at "run"
        refine cp_Disk__cut ds0 w hm ht w.tn (Nat.le_succ_of_le w.tl) hcu fun R' H' sR ds' => ?_
        walk_at "run"
        exact qe (by rw [hlf, k0]) R' H' sR ds' H' (Same.refl _)
      · have k0 : k ≠ 0 := by omega
        have hu : Dk.lfV s.use.lf = .int ((k : Int) - 1) := by unfold Dk.St.use; dsimp only; rw [hlf]; show V.int ((k - 1 : Nat) : Int) = _; congr 1; omega
        walk_at "run"
        with_reducible refine Mv.fldaug ?_
        walk_at "run"
        refine Mv.afpS hx T.cl_Disk T.na_Disk__left lk_Disk__left few_Disk put_Disk__left ?_
        exact q (by rw [hlf]; intro z; injection z with z; exact k0 z) _ ⟨dx, pb, pp, pt, vb, vp, by rw [hu]; exact hv.p0, hb, hp, ht⟩

theorem cs_Disk__use_power {CP C x : Addr} {R H : Hp} {rest : List (Addr × HO)} {s : Dk.St} {n m : Nat} {Q : VK} {E : XK} (ds : Dsk C R H x rest s) (w : Dk.Wf n m s) (hm : m ≤ 1000) (hc : s.cu ≤ 1000000) (q : s.lf ≠ some 0 → ∀ H', Dsk C R H' x rest s.use → Q .non H') (qe : s.lf = some 0 → ∀ R' H', Same R R' → Dsk C R' H' x rest (s.cut s.tn) → Sx.ErrB CP H' E) : Sx.CS (sp_Disk__use_power CP C) [.ref x] H Q E := ⟨R, x, rest, s, n, m, rfl, ds, w, hm, hc, q, qe⟩

noncomputable def sp_Disk_flush (CP C : Addr) : Sp := fun vs H Q E => ∃ (R : Hp) (x : Addr) (rest : List (Addr × HO)) (s : Dk.St) (n m : Nat), vs = [.ref x] ∧ Dsk C R H x rest s ∧ Dk.Wf n m s ∧ m ≤ 1000 ∧ s.cu ≤ 1000000 ∧ (s.lf ≠ some 0 → ∀ R' H', Same R R' → Dsk C R' H' x rest s.use.flush → Q .non H') ∧ (s.lf = some 0 → ∀ R' H', Same R R' → Dsk C R' H' x rest (s.cut s.tn) → Sx.ErrB CP H' E)

theorem sc_Disk_flush : FnScope ["self", "at", "block"] ["self"] (defScope s_Disk_flush) := ⟨rfl, rfl, rfl, by decide +kernel, rfl, by decide +kernel, by decide +kernel⟩
theorem ok_Disk_flush (T : Tx P K mg) : FnOk P w K mg base (L2.CX P w) 3 T.Disk_flush.a T.Disk_flush.d ["self"] (sp_Disk_flush T.y_PowerCut.C T.a_Disk) := by
  refine T.Disk_flush.f.okX sc_Disk_flush (fun vs H Q E h => ?_) (fun cdv A outer s H vs Q E hr h => ⟨_, pss_cons (ps_expr (Sx.pe_methS0 (pv 0) T.cl_Disk T.Disk__use_power.m (ok_Disk__use_power T) (hr.mono (by decide)) T.Disk__use_power.b (fun σ => passAt (takes_of rfl rfl rfl rfl) σ)))
      (pss_cons (ps_for (passes_of rfl) rfl (pi_list (pe_fld (pv 0) rfl)) (pg_tup rfl (pgs_cons (pg_name (i := 1) sc_Disk_flush.nd rfl (Or.inl rfl)) (pgs_cons (pg_name (i := 2) sc_Disk_flush.nd rfl (Or.inl rfl)) pgs_nil)))
      (pss_one (ps_asg (pv 2) (pg_sub (pe_fld (pv 0) rfl) (pv 1) set_list))))
      (pss_one (ps_fld (pv 0) (pe_lst pa_nil) rfl))), ?_⟩)
  · obtain ⟨R, x, rest, s, n, m, rfl, _⟩ := h
    rfl
  · skip
    obtain ⟨R, x, rest, s, n, m, rfl, ds, w, hm, hcu, q, qe⟩ := h
    have ds0 := ds
    obtain ⟨dx, pb, pp, pt, vb, vp, hv, hb, hp, ht⟩ := ds
    have hx := hv.g0
    walk_at "run"
    refine Sx.mts hx no_Disk__use_power ?_
    walk_at "run"
    refine cs_Disk__use_power ds0 w hm hcu (fun nz H1 ds1 => ?_) qe
    have q := q nz
    have w1 := w.use
    clear hx hv hb hp ht ds0 qe
    obtain ⟨dx, pb, pp, pt, vb, vp, hv, hb, hp, ht⟩ := ds1
    have hx := hv.g0
    have hpp := hv.g2
    have hpl : vp.length = s.use.pe.length := hp.1
    have hpm := w1.pn
    walk_at "run"
    refine Gx.lp (SqL.of hpp) ?_
    refine Gx.fw (walk_list (xs := vp)) (fun i σ' H' => ∃ (vb' : List V) (v1 v2 : Option V), Mv.Hv R H' ((x, .ins T.a_Disk dx (fl_Disk (.ref pb) (.ref pp) (.int (s.use.cu : Int)) (Dk.lfV s.use.lf) (.ref pt))) :: (pb, .lst vb') :: (pp, .lst vp) :: rest) ∧ Dk.BL R vb' (Dk.flB s.use.bl (s.use.pe.take i)) ∧ σ' = [some (.ref x), v1, v2]) ⟨vb, none, none, hv, hb, rfl⟩ (fun i σ' H' _ ⟨_, _, _, hv', _⟩ => SqL.of hv'.g2) ?_ ?_
    · rintro i y σ' H4 H4' hi ⟨vb', v1, v2, hv', hb', rfl⟩ ⟨rfl, hy⟩
      obtain ⟨te, aq, e, rfl, he, h1, h2⟩ := hp.2 i y hy
      have htk : s.use.pe.take (i + 1) = s.use.pe.take i ++ [e] := by rw [List.take_add_one, he]; rfl
      obtain ⟨g1, g2⟩ := w1.pb e (List.mem_of_getElem? he)
      rw [htk, Dk.flB_app]
      have hbn : (Dk.flB s.use.bl (s.use.pe.take i)).length = n := Dk.flB_len.trans w1.bn
      obtain ⟨at', bq⟩ := e
      dsimp only at *
      generalize Dk.flB s.use.bl (s.use.pe.take i) = bs at *
      have h1' := hv'.same _ _ h1
      have hx' := hv'.g0
      have hpb' := hv'.g1
      have hlv : vb'.length = n := hb'.1.trans hbn
      walk_at "run"
      refine Gx.setL (j := at') hpb' (Dk.ixN_nat (by omega)) ?_
      exact ⟨_, _, _, hv'.p1, hb'.set h2, rfl⟩
    rintro σ' H4 ⟨vb', v1, v2, hv', hb', rfl⟩
    rw [List.take_of_length_le (by omega)] at hb'
    have hx' := hv'.g0
    walk_at "run"
    refine Nx.lst0 (by show 0 ≤ sizeLine; decide) fun p5 H5 n5 s5 h5 => ?_
    obtain ⟨R5, hv5, sR5⟩ := hv'.more n5 s5 h5
    have hx5 := hv5.g1
    walk_at "run"
    refine Gx.sfp hx5 T.cl_Disk T.na_Disk__pending few_Disk put_Disk__pending ?_
    have hv6 := hv5.p1 (u := .ins T.a_Disk dx (fl_Disk (.ref pb) (.ref p5) (.int (s.use.cu : Int)) (Dk.lfV s.use.lf) (.ref pt)))
    obtain ⟨R9, hv9, sR9, _⟩ := hv6.rot4.less
    have sA := sR5.trans sR9
    exact q R9 _ sA ⟨dx, pb, p5, pt, vb', [], hv9, hb'.keep sA, Dk.PL.nil, sA _ _ ht⟩

theorem cs_Disk_flush {CP C x : Addr} {R H : Hp} {rest : List (Addr × HO)} {s : Dk.St} {n m : Nat} {Q : VK} {E : XK} (ds : Dsk C R H x rest s) (w : Dk.Wf n m s) (hm : m ≤ 1000) (hc : s.cu ≤ 1000000) (q : s.lf ≠ some 0 → ∀ R' H', Same R R' → Dsk C R' H' x rest s.use.flush → Q .non H') (qe : s.lf = some 0 → ∀ R' H', Same R R' → Dsk C R' H' x rest (s.cut s.tn) → Sx.ErrB CP H' E) : Sx.CS (sp_Disk_flush CP C) [.ref x] H Q E := ⟨R, x, rest, s, n, m, rfl, ds, w, hm, hc, q, qe⟩
theorem cp_Disk_flush {CP C x : Addr} {R H : Hp} {rest : List (Addr × HO)} {s : Dk.St} {n m : Nat} {Q : VK} {E : XK} (ds : Dsk C R H x rest s) (w : Dk.Wf n m s) (hm : m ≤ 1000) (hc : s.cu ≤ 1000000) (hl : s.lf ≠ some 0) (q : ∀ R' H', Same R R' → Dsk C R' H' x rest s.use.flush → Q .non H') : Gx.CP (sp_Disk_flush CP C) [.ref x] [] H Q E := ⟨R, x, rest, s, n, m, rfl, ds, w, hm, hc, fun _ => q, fun e => absurd e hl⟩

noncomputable def sp_check_block (CE : Addr) : Sp := fun vs H Q E => ∃ (a : Addr) (b : List Int), vs = [.ref a] ∧ H a = some (.lst (b.map V.int)) ∧ (Dk.BOk b → Q .non H) ∧ (¬ Dk.BOk b → Sx.Err CE H "block" E)

theorem sc_check_block : FnScope ["block", "byte"] ["block"] (defScope s_check_block) := ⟨rfl, rfl, rfl, by decide +kernel, rfl, by decide +kernel, by decide +kernel⟩
theorem ok_check_block (T : Tx P K mg) : FnOk P w K mg base (L2.CX P w) 3 T.check_block.a T.check_block.d ["block"] (sp_check_block T.x_OutOfRange.C) := by
  refine T.check_block.f.okX sc_check_block (fun vs H Q E h => ?_) (fun cdv A outer s H vs Q E hr h => ⟨_, pss_cons (ps_if (PW.pt (pw_or (pt_not (pt_val (pe_callB (Gx.c_isiK (K := K) rfl) rfl T.n_isinstance (by decide +kernel) (pa_cons (pv 0) (pa_cons (pe_bltn (v := .ty "list") rfl T.n_list (by decide +kernel) rfl) pa_nil))))) (pw_or1 (pt_cmpR op_ne (pe_callB (Gx.c_lenK (K := K) rfl) rfl T.n_len (by decide +kernel) (pa_cons (pv 0) pa_nil)) (pe_glob (v := .int 32) rfl T.c_BLOCK ⟨_, rfl⟩) (nomark _))))) (pss_one (ps_raise rfl (takes_of rfl rfl rfl rfl) (pmk_oex T.x_OutOfRange.o T.x_OutOfRange.i T.x_OutOfRange.t (ok_OutOfRange___init__ T) (hr.mono (by decide)) T.x_OutOfRange.b .nil pass0 rfl T.x_OutOfRange.g (pa_cons (pe_str) pa_nil)))) (pss_nil))
      (pss_one (ps_for (passes_of rfl) rfl (pi_list (pv 0)) (pg_name (i := 1) sc_check_block.nd rfl (Or.inl rfl))
      (pss_one (ps_if (PW.pt (pw_or (pt_not (pt_val (pe_callB (Gx.c_isiK (K := K) rfl) rfl T.n_isinstance (by decide +kernel) (pa_cons (pv 1) (pa_cons (pe_bltn (v := .ty "int") rfl T.n_int (by decide +kernel) rfl) pa_nil))))) (pw_or (pt_cmpR op_lt (pv 1) (pe_int) (nomark _)) (pw_or1 (pt_cmpR op_gt (pv 1) (pe_int) (nomark _)))))) (pss_one (ps_raise rfl (takes_of rfl rfl rfl rfl) (pmk_oex T.x_OutOfRange.o T.x_OutOfRange.i T.x_OutOfRange.t (ok_OutOfRange___init__ T) (hr.mono (by decide)) T.x_OutOfRange.b .nil pass0 rfl T.x_OutOfRange.g (pa_cons (pe_str) pa_nil)))) (pss_nil))))), ?_⟩)
  · obtain ⟨a, b, rfl, _⟩ := h
    rfl
  · skip
    obtain ⟨a, b, rfl, ha, q, qe⟩ := h
    walk_at "run"
    refine Mv.isiLst ha ?_
    walk_at "run"
    refine Gx.lenL (SqL.of ha) ?_
    rw [List.length_map]
    walk_at "run"
    refine Gx.if_dn (fun e => ?_) (fun e => ?_)
    · walk_at "run"
      exact Sx.mkO (by decide) (qe (fun z => e (by rw [z.1]; rfl))).now fun R h => by walk_at "run"; exact h
    have hl : b.length = 32 := by omega
    walk_at "run"
    refine Gx.lp (SqL.of ha) ?_
    refine Gx.fw (walk_list (xs := b.map V.int)) (fun i σ' H' => H' = H ∧ (∀ j, j < i → 0 ≤ b.getD j 0 ∧ b.getD j 0 ≤ 255) ∧ ∃ v : Option V, σ' = [some (.ref a), v]) ⟨rfl, fun _ h => absurd h (Nat.not_lt_zero _), none, rfl⟩ (fun i σ' H' _ hh => by rw [hh.1]; exact SqL.of ha) ?_ ?_
    · rintro i y σ' H2 H2' hi ⟨rfl, hj, v, rfl⟩ ⟨rfl, hy⟩
      rw [List.length_map] at hi
      rw [List.getElem?_map, List.getElem?_eq_getElem hi] at hy
      have hy := Option.some.inj hy
      subst hy
      have eg : b.getD i 0 = b[i] := by rw [List.getD_eq_getElem?_getD, List.getElem?_eq_getElem hi]; rfl
      walk_at "run"
      refine Gx.isiI ?_ rfl
      walk_at "lit"
      refine Gx.if_d (fun e => ?_) (fun e => ?_)
      · walk_at "run"
        exact Sx.mkO (by decide) (qe fun z => by have := z.2 _ (List.getElem_mem hi); omega).now fun R h => by walk_at "run"; exact h
      walk_at "run"
      refine Gx.if_d (fun e' => ?_) (fun e' => ?_)
      · walk_at "run"
        exact Sx.mkO (by decide) (qe fun z => by have := z.2 _ (List.getElem_mem hi); omega).now fun R h => by walk_at "run"; exact h
      walk_at "run"
      refine ⟨rfl, fun j hj' => ?_, _, rfl⟩
      rcases Nat.lt_or_ge j i with c | c
      · exact hj j c
      · obtain rfl : j = i := by omega
        rw [eg]; omega
    rintro σ' H2 ⟨rfl, hj, v, rfl⟩
    refine q ⟨hl, fun z hz => ?_⟩
    obtain ⟨i, hi, rfl⟩ := List.getElem_of_mem hz
    have := hj i (by rw [List.length_map]; exact hi)
    rw [List.getD_eq_getElem?_getD, List.getElem?_eq_getElem hi] at this
    exact this

theorem cs_check_block {CE a : Addr} {b : List Int} {H : Hp} {Q : VK} {E : XK} (h : H a = some (.lst (b.map V.int))) (q : Dk.BOk b → Q .non H) (qe : ¬ Dk.BOk b → Sx.Err CE H "block" E) : Sx.CS (sp_check_block CE) [.ref a] H Q E := ⟨a, b, rfl, h, q, qe⟩

/-- a number against its bounds -/
noncomputable def sp_check_range (C : Addr) : Sp := fun vs H Q E => ∃ (z : Str) (v l m : Int), vs = [.str z, .int v, .int l, .int m] ∧ z.length ≤ 1000 ∧ (l ≤ v → v ≤ m → Q .non H) ∧ (¬ (l ≤ v ∧ v ≤ m) → Sx.Err C H z E)

theorem sc_check_range : FnScope ["name", "value", "least", "most"] ["name", "value", "least", "most"] (defScope s_check_range) := ⟨rfl, rfl, rfl, by decide +kernel, rfl, by decide +kernel, by decide +kernel⟩
theorem ok_check_range (T : Tx P K mg) : FnOk P w K mg base (L2.CX P w) 3 T.check_range.a T.check_range.d ["name", "value", "least", "most"] (sp_check_range T.x_OutOfRange.C) := by
  refine T.check_range.f.okX sc_check_range (fun vs H Q E h => ?_) (fun cdv A outer s H vs Q E hr h => ⟨_, pss_one (ps_if (PW.pt (pw_or (pt_cmpR op_lt (pv 1) (pv 2) (nomark _)) (pw_or1 (pt_cmpR op_gt (pv 1) (pv 3) (nomark _))))) (pss_one (ps_raise rfl (takes_of rfl rfl rfl rfl) (pmk_oex T.x_OutOfRange.o T.x_OutOfRange.i T.x_OutOfRange.t (ok_OutOfRange___init__ T) (hr.mono (by decide)) T.x_OutOfRange.b .nil pass0 rfl T.x_OutOfRange.g (pa_cons (pv 0) pa_nil)))) (pss_nil)), ?_⟩)
  · obtain ⟨z, v, l, m, rfl, _⟩ := h
    rfl
  · skip
    obtain ⟨z, v, l, m, rfl, hz, q, qe⟩ := h
    walk_at "go"
    refine Gx.if_d (fun h => ?_) (fun h => ?_)
    · walk_at "go"
      exact Sx.mkO hz (qe (by omega)).now fun R h => by walk_at "go"; exact h
    walk_at "go"
    refine Gx.if_d (fun h2 => ?_) (fun h2 => ?_)
    · walk_at "go"
      exact Sx.mkO hz (qe (by omega)).now fun R h => by walk_at "go"; exact h
    walk_at "go"
    exact q (by omega) (by omega)

theorem cs_check_range {C : Addr} {z : Str} {v l m : Int} {H : Hp} {Q : VK} {E : XK} (q : l ≤ v → v ≤ m → Q .non H) (qe : ¬ (l ≤ v ∧ v ≤ m) → Sx.Err C H z E) (hz : z.length ≤ 1000 := by decide) : Sx.CS (sp_check_range C) [.str z, .int v, .int l, .int m] H Q E := ⟨z, v, l, m, rfl, hz, q, qe⟩
noncomputable def sp_Disk__check_at (CE C : Addr) : Sp := fun vs H Q E => ∃ (R : Hp) (x : Addr) (rest : List (Addr × HO)) (s : Dk.St) (n m : Nat) (z : Int), vs = [.ref x, .int z] ∧ Dsk C R H x rest s ∧ Dk.Wf n m s ∧ (0 ≤ z → z < n → Q .non H) ∧ (¬ (0 ≤ z ∧ z < n) → Sx.Err CE H "at" E)

theorem sc_Disk__check_at : FnScope ["self", "at"] ["self", "at"] (defScope s_Disk__check_at) := ⟨rfl, rfl, rfl, by decide +kernel, rfl, by decide +kernel, by decide +kernel⟩
theorem ok_Disk__check_at (T : Tx P K mg) : FnOk P w K mg base (L2.CX P w) 4 T.Disk__check_at.a T.Disk__check_at.d ["self", "at"] (sp_Disk__check_at T.x_OutOfRange.C T.a_Disk) := by
  refine T.Disk__check_at.f.okX sc_Disk__check_at (fun vs H Q E h => ?_) (fun cdv A outer s H vs Q E hr h => ⟨_, pss_one (ps_expr (pe_callS (ok_check_range T) (hr.mono (by decide)) rfl T.check_range.g T.check_range.f.kp T.check_range.b (fun σ => passAt (takes_of rfl rfl rfl rfl) σ) (pa_cons (pe_str) (pa_cons (pv 1) (pa_cons (pe_int) (pa_cons (pe_op op_sub (pe_callB (Gx.c_lenK (K := K) rfl) rfl T.n_len (by decide +kernel) (pa_cons (pe_fld (pv 0) rfl) pa_nil)) (pe_int)) pa_nil)))))), ?_⟩)
  · obtain ⟨R, x, rest, s, n, m, z, rfl, _⟩ := h
    rfl
  · skip
    obtain ⟨R, x, rest, s, n, m, z, rfl, ds, w, q, qe⟩ := h
    obtain ⟨dx, pb, pp, pt, vb, vp, hv, b, p, t⟩ := ds
    have hx := hv.g0
    have hb := hv.g1
    walk_at "run"
    refine Gx.lenL (SqL.of hb) ?_
    rw [b.1, w.bn]
    walk_at "run"
    refine cs_check_range (fun e1 e2 => ?_) (fun e => qe (by omega))
    walk_at "run"
    exact q e1 (by omega)

theorem cs_Disk__check_at {CE C x : Addr} {R H : Hp} {rest : List (Addr × HO)} {s : Dk.St} {n m : Nat} {z : Int} {Q : VK} {E : XK} (ds : Dsk C R H x rest s) (w : Dk.Wf n m s) (q : 0 ≤ z → z < n → Q .non H) (qe : ¬ (0 ≤ z ∧ z < n) → Sx.Err CE H "at" E) : Sx.CS (sp_Disk__check_at CE C) [.ref x, .int z] H Q E := ⟨R, x, rest, s, n, m, z, rfl, ds, w, q, qe⟩

noncomputable def sp_Disk_write (K : PySem.W.Frag) (CE CP C : Addr) : Sp := fun vs H Q E => ∃ (R : Hp) (x bp : Addr) (rest : List (Addr × HO)) (s : Dk.St) (n m : Nat) (z : Int) (b : List Int), vs = [.ref x, .int z, .ref bp] ∧ Dsk C R H x rest s ∧ Dk.Wf n m s ∧ m ≤ 1000 ∧ s.cu ≤ 1000000 ∧ Dk.In R rest bp (.lst (b.map V.int)) ∧
  (¬ (0 ≤ z ∧ z < n) → Sx.Err CE H "at" E) ∧ ((0 ≤ z ∧ z < n) → (¬ Dk.BOk b → Sx.Err CE H "block" E) ∧ (Dk.BOk b → (s.lf ≠ some 0 → ∀ R' H', Same R R' → Dsk C R' H' x rest (s.use.write z.toNat b) → Q .non H') ∧ (s.lf = some 0 → ∀ R' H', Same R R' → Dsk C R' H' x rest (s.cut s.tn) → Sx.ErrB CP H' E)))

theorem sc_Disk_write : FnScope ["self", "at", "block"] ["self", "at", "block"] (defScope s_Disk_write) := ⟨rfl, rfl, rfl, by decide +kernel, rfl, by decide +kernel, by decide +kernel⟩
theorem ok_Disk_write (T : Tx P K mg) : FnOk P w K mg base (L2.CX P w) 5 T.Disk_write.a T.Disk_write.d ["self", "at", "block"] (sp_Disk_write K T.x_OutOfRange.C T.y_PowerCut.C T.a_Disk) := by
  refine T.Disk_write.f.okX sc_Disk_write (fun vs H Q E h => ?_) (fun cdv A outer s H vs Q E hr h => ⟨_, pss_cons (ps_expr (Sx.pe_methS (pv 0) T.cl_Disk T.Disk__check_at.m (ok_Disk__check_at T) (hr.mono (by decide)) T.Disk__check_at.b (fun σ => passAt (takes_of rfl rfl rfl rfl) σ) (pa_cons (pv 1) pa_nil)))
      (pss_cons (ps_expr (pe_callS (ok_check_block T) (hr.mono (by decide)) rfl T.check_block.g T.check_block.f.kp T.check_block.b (fun σ => passAt (takes_of rfl rfl rfl rfl) σ) (pa_cons (pv 2) pa_nil)))
      (pss_cons (ps_expr (Sx.pe_methS0 (pv 0) T.cl_Disk T.Disk__use_power.m (ok_Disk__use_power T) (hr.mono (by decide)) T.Disk__use_power.b (fun σ => passAt (takes_of rfl rfl rfl rfl) σ)))
      (pss_one (ps_expr (pe_bm PySem.F.plainAttrs_list PySem.F.slot_list_append PySem.F.type_list_append mt_append (pe_fld (pv 0) rfl) (pa_cons (pe_tup (pa_cons (pv 1) (pa_cons (pe_callTy (Gx.c_listK (K := K) rfl) rfl T.n_list (by decide +kernel) (pa_cons (pv 2) pa_nil)) pa_nil))) pa_nil)))))), ?_⟩)
  · obtain ⟨R, x, bp, rest, s, n, m, z, b, rfl, _⟩ := h
    rfl
  · skip
    obtain ⟨R, x, bp, rest, s, n, m, z, b, rfl, ds, w, hm, hcu, hi, qa, q⟩ := h
    have ds0 := ds
    obtain ⟨dx, pb, pp, pt, vb, vp, hv, hb, hp, ht⟩ := ds
    have hx := hv.g0
    walk_at "run"
    refine Sx.mts hx no_Disk__check_at ?_
    walk_at "run"
    refine cs_Disk__check_at ds0 w (fun e1 e2 => ?_) qa
    obtain ⟨qb, q⟩ := q ⟨e1, e2⟩
    walk_at "run"
    refine cs_check_block (ds0.got hi) (fun bok => ?_) qb
    obtain ⟨q, qe⟩ := q bok
    walk_at "run"
    refine Sx.mts hx no_Disk__use_power ?_
    walk_at "run"
    refine cs_Disk__use_power ds0 w hm hcu (fun nz H1 ds1 => ?_) qe
    have q := q nz
    have w1 := w.use
    have hbp := ds1.got hi
    clear hx hv hb hp ht ds0 qe qb qa
    obtain ⟨dx, pb, pp, pt, vb, vp, hv, hb, hp, ht⟩ := ds1
    have hx := hv.g0
    have hpp := hv.g2
    have hpl : vp.length = s.use.pe.length := hp.1
    have hpm := w1.pn
    obtain ⟨z, rfl⟩ : ∃ m : Nat, z = m := ⟨z.toNat, by omega⟩
    rw [Int.toNat_natCast] at q
    walk_at "run"
    refine Gx.bmS (Gx.tyL (SqL.of hpp)) ?_
    walk_at "run"
    refine Nx.listL0 (SqL.of hbp) fun p5 H5 n5 s5 h5 => ?_
    walk_at "run"
    refine Nx.tup0 (by show 2 ≤ sizeLine; decide) fun p6 H6 n6 s6 h6 => ?_
    have s56 := s5.trans s6
    obtain ⟨R6, hv6, sR6, gR6⟩ := hv.grow s56
    have hpp6 := hv6.g2
    walk_at "run"
    refine Gx.app hpp6 (by rw [sizeLine_eq]; omega) ?_
    exact q R6 _ sR6 ⟨dx, pb, pp, pt, vb, vp ++ [.ref p6], hv6.p2, hb.keep sR6, (hp.keep sR6).snoc (e := (z, b)) (gR6 _ _ (s5.free n6) h6) (gR6 _ _ n5 (s6 _ _ h5)), sR6 _ _ ht⟩

theorem cp_Disk_write {K : PySem.W.Frag} {CE CP C x bp : Addr} {R H : Hp} {rest : List (Addr × HO)} {s : Dk.St} {n m z : Nat} {b : List Int} {Q : VK} {E : XK} (ds : Dsk C R H x rest s) (w : Dk.Wf n m s) (hm : m ≤ 1000) (hc : s.cu ≤ 1000000) (hi : Dk.In R rest bp (.lst (b.map V.int))) (hz : z < n) (hb : Dk.BOk b) (hl : s.lf = none) (q : ∀ R' H', Same R R' → Dsk C R' H' x rest (s.write z b) → Q .non H') : Gx.CP (sp_Disk_write K CE CP C) [.ref x, .int (z : Int), .ref bp] [] H Q E := ⟨R, x, bp, rest, s, n, m, z, b, rfl, ds, w, hm, hc, hi, fun e => absurd ⟨by omega, by omega⟩ e, fun _ => ⟨fun f => absurd hb f, fun _ => ⟨fun _ R' H' s' d => q R' H' s' (by
  have e : s.use = s := by cases s; cases hl; rfl
  rw [e, Int.toNat_natCast] at d
  exact d), fun e => by rw [hl] at e; cases e⟩⟩⟩
/-- noughts written to k blocks from a on -/
noncomputable def wz (s : Dk.St) (a k : Nat) : Dk.St := (List.range k).foldl (fun s i => s.write (a + i) Dk.zs) s
theorem wz_succ (s : Dk.St) (a k : Nat) : wz s a (k + 1) = (wz s a k).write (a + k) Dk.zs := by unfold wz; rw [List.range_succ, List.foldl_append]; rfl
theorem wz_lf (s : Dk.St) (a : Nat) : ∀ k, (wz s a k).lf = s.lf
  | 0 => rfl
  | k + 1 => by rw [wz_succ]; exact wz_lf s a k
theorem wz_cu (s : Dk.St) (a : Nat) : ∀ k, (wz s a k).cu = s.cu
  | 0 => rfl
  | k + 1 => by rw [wz_succ]; exact wz_cu s a k
theorem wz_wf {n m : Nat} {s : Dk.St} {a : Nat} (w : Dk.Wf n m s) : ∀ k, a + k ≤ n → Dk.Wf n (m + k) (wz s a k)
  | 0, _ => w
  | k + 1, h => by rw [wz_succ]; exact (wz_wf w k (by omega)).write (by omega) Dk.zs_ok
noncomputable def sp_write_zeros (C : Addr) : Sp := fun vs H Q _ => ∃ (R : Hp) (x : Addr) (rest : List (Addr × HO)) (s : Dk.St) (n m a k : Nat), vs = [.ref x, .int (a : Int), .int (k : Int)] ∧ Dsk C R H x rest s ∧ Dk.Wf n m s ∧ m + k ≤ 1000 ∧ s.cu ≤ 1000000 ∧ a + k ≤ n ∧ s.lf = none ∧ ∀ R' H', Same R R' → Dsk C R' H' x rest (wz s a k) → Q .non H'

theorem sc_write_zeros : FnScope ["disk", "start", "count", "at"] ["disk", "start", "count"] (defScope s_write_zeros) := ⟨rfl, rfl, rfl, by decide +kernel, rfl, by decide +kernel, by decide +kernel⟩
theorem ok_write_zeros (T : Tx P K mg) : FnOk P w K mg base CX0 6 T.write_zeros.a T.write_zeros.d ["disk", "start", "count"] (sp_write_zeros T.a_Disk) := by
  refine T.write_zeros.f.ok sc_write_zeros (fun vs H Q E h => ?_) (fun cdv A outer s H vs Q E hr h => ⟨_, pss_one (ps_for PassesOwn.never rfl (pi_range2 rfl T.n_range (pa_cons (pv 1) (pa_cons (pe_op op_add (pv 1) (pv 2)) pa_nil))) (pg_name (i := 3) sc_write_zeros.nd rfl (Or.inl rfl))
      (pss_one (ps_expr (pe_meth (pv 0) T.cl_Disk T.Disk_write.m (ok_Disk_write T) (hr.mono (by decide)) T.Disk_write.b .nil passL (pa_cons (pv 3) (pa_cons (pe_op Gx.o_rep (pe_lst (pa_cons (pe_int) pa_nil)) (pe_glob (v := .int 32) rfl T.c_BLOCK ⟨_, rfl⟩)) pa_nil)))))), ?_⟩)
  · obtain ⟨R, x, rest, s, n, m, a, k, rfl, _⟩ := h
    rfl
  · skip
    obtain ⟨R, x, rest, s0, n, m, a, k, rfl, ds, w, hm, hc, hak, hl, q⟩ := h
    have hn := w.n2
    walk_at "run"
    refine Gx.r2 ⟨by omega, by omega, by omega, by omega⟩ ?_
    rw [show ((a : Int) + (k : Int) - (a : Int)).toNat = k by omega]
    refine Gx.fw walk_range (fun i σ' H' => ∃ (R' : Hp) (v3 : Option V), Same R R' ∧ Dsk T.a_Disk R' H' x rest (wz s0 a i) ∧ σ' = [some (.ref x), some (.int (a : Int)), some (.int (k : Int)), v3]) ⟨R, none, Same.refl _, ds, rfl⟩ (fun _ _ _ _ _ => trivial) ?_ ?_
    · clear ds
      rintro i y σ' H3 H3' hi ⟨R3, v3, sR3, ds3, rfl⟩ ⟨rfl, hy⟩
      have hy2 : y = .int ((a + i : Nat) : Int) := hy.trans (congrArg V.int (by omega))
      subst hy2
      obtain ⟨dx, pb, pp, pt, vb, vp, hv, _⟩ := id ds3
      have hx := hv.g0
      walk_at "run"
      refine Gx.mp hx no_Disk_write ?_
      walk_at "run"
      refine Nx.lst0 (by show 1 ≤ sizeLine; decide) fun z0 H4 n4 s4 h4 => ?_
      walk_at "run"
      refine Nx.repN0 (n := 32) h4 (by omega) fun z1 H5 n5 s5 h5 => ?_
      obtain ⟨R5, ds5, sR5, g5⟩ := ds3.grow (s4.trans s5)
      have h5 : H5 z1 = some (.lst (Dk.zs.map V.int)) := by rw [h5]; unfold Dk.zs; rw [List.map_replicate]
      have r5 := g5 _ _ (s4.free n5) h5
      refine cp_Disk_write ds5 (wz_wf w i (by omega)) (by omega) (by rw [wz_cu]; exact hc) (.inl r5) (show a + i < n by omega) Dk.zs_ok (by rw [wz_lf]; exact hl) fun R6 H6 sR6 ds6 => ?_
      walk_at "run"
      exact ⟨R6, _, sR3.trans (sR5.trans sR6), by rw [wz_succ]; exact ds6, rfl⟩
    rintro σ' H3 ⟨R3, v3, sR3, ds3, rfl⟩
    walk_at "run"
    exact q R3 H3 sR3 ds3

theorem cp_write_zeros {C x : Addr} {R H : Hp} {rest : List (Addr × HO)} {s : Dk.St} {n m a k : Nat} {Q : VK} {E : XK} (ds : Dsk C R H x rest s) (w : Dk.Wf n m s) (hm : m + k ≤ 1000) (hc : s.cu ≤ 1000000) (hak : a + k ≤ n) (hl : s.lf = none) (q : ∀ R' H', Same R R' → Dsk C R' H' x rest (wz s a k) → Q .non H') : Gx.CP (sp_write_zeros C) [.ref x, .int (a : Int), .int (k : Int)] [] H Q E := ⟨R, x, rest, s, n, m, a, k, rfl, ds, w, hm, hc, hak, hl, q⟩

noncomputable def sp_Disk_size (C : Addr) : Sp := fun vs H Q _ => ∃ (R : Hp) (x : Addr) (rest : List (Addr × HO)) (s : Dk.St) (n m : Nat), vs = [.ref x] ∧ Dsk C R H x rest s ∧ Dk.Wf n m s ∧ Q (.int (n : Int)) H

theorem sc_Disk_size : FnScope ["self"] ["self"] (defScope s_Disk_size) := ⟨rfl, rfl, rfl, by decide +kernel, rfl, by decide +kernel, by decide +kernel⟩
theorem ok_Disk_size (T : Tx P K mg) : FnOk P w K mg base CX0 1 T.Disk_size.a T.Disk_size.d ["self"] (sp_Disk_size T.a_Disk) := by
  refine T.Disk_size.f.ok sc_Disk_size (fun vs H Q E h => ?_) (fun cdv A outer s H vs Q E hr h => ⟨_, pss_one (ps_ret (pe_callB (Gx.c_lenK (K := K) rfl) rfl T.n_len (by decide +kernel) (pa_cons (pe_fld (pv 0) rfl) pa_nil))), ?_⟩)
  · obtain ⟨R, x, rest, s, n, m, rfl, _⟩ := h
    rfl
  · skip
    obtain ⟨R, x, rest, s, n, m, rfl, ds, w, q⟩ := h
    obtain ⟨dx, pb, pp, pt, vb, vp, hv, b, p, t⟩ := ds
    have hx := hv.g0
    have hb := hv.g1
    walk_at "run"
    refine Gx.lenL (SqL.of hb) ?_
    rw [b.1, w.bn]
    exact q

theorem cp_Disk_size {C x : Addr} {R H : Hp} {rest : List (Addr × HO)} {s : Dk.St} {n m : Nat} {Q : VK} {E : XK} (ds : Dsk C R H x rest s) (w : Dk.Wf n m s) (q : Q (.int (n : Int)) H) : Gx.CP (sp_Disk_size C) [.ref x] [] H Q E := ⟨R, x, rest, s, n, m, rfl, ds, w, q⟩

noncomputable def sp_area_size (C : Addr) : Sp := fun vs H Q _ => ∃ (R : Hp) (x : Addr) (rest : List (Addr × HO)) (s : Dk.St) (n m : Nat), vs = [.ref x] ∧ Dsk C R H x rest s ∧ Dk.Wf n m s ∧ 2 ≤ n ∧ Q (.int (((n - 2) / 2 : Nat) : Int)) H

theorem sc_area_size : FnScope ["disk"] ["disk"] (defScope s_area_size) := ⟨rfl, rfl, rfl, by decide +kernel, rfl, by decide +kernel, by decide +kernel⟩
theorem ok_area_size (T : Tx P K mg) : FnOk P w K mg base CX0 2 T.area_size.a T.area_size.d ["disk"] (sp_area_size T.a_Disk) := by
  refine T.area_size.f.ok sc_area_size (fun vs H Q E h => ?_) (fun cdv A outer s H vs Q E hr h => ⟨_, pss_one (ps_ret (pe_op op_fdiv (pe_op op_sub (pe_meth0 (pv 0) T.cl_Disk T.Disk_size.m (ok_Disk_size T) (hr.mono (by decide)) T.Disk_size.b .nil pass0) (pe_glob (v := .int 2) rfl T.c_HEADERS ⟨_, rfl⟩)) (pe_int))), ?_⟩)
  · obtain ⟨R, x, rest, s, n, m, rfl, _⟩ := h
    rfl
  · skip
    obtain ⟨R, x, rest, s0, n, m, rfl, ds, w, hn, q⟩ := h
    obtain ⟨dx, pb, pp, pt, vb, vp, hv, _⟩ := id ds
    walk_at "run"
    refine Gx.mp (hv.g0) no_Disk_size ?_
    walk_at "run"
    refine cp_Disk_size ds w ?_
    walk_at "run"
    rw [show ((n : Int) - 2) / 2 = (((n - 2) / 2 : Nat) : Int) by omega]
    exact q

theorem cp_area_size {C x : Addr} {R H : Hp} {rest : List (Addr × HO)} {s : Dk.St} {n m : Nat} {Q : VK} {E : XK} (ds : Dsk C R H x rest s) (w : Dk.Wf n m s) (hn : 2 ≤ n) (q : Q (.int (((n - 2) / 2 : Nat) : Int)) H) : Gx.CP (sp_area_size C) [.ref x] [] H Q E := ⟨R, x, rest, s, n, m, rfl, ds, w, hn, q⟩

noncomputable def sp_area_start (C : Addr) : Sp := fun vs H Q _ => ∃ (R : Hp) (x : Addr) (rest : List (Addr × HO)) (s : Dk.St) (n m a : Nat), vs = [.ref x, .int (a : Int)] ∧ Dsk C R H x rest s ∧ Dk.Wf n m s ∧ 2 ≤ n ∧ n ≤ 1000 ∧ a ≤ 1000 ∧ Q (.int ((2 + a * ((n - 2) / 2) : Nat) : Int)) H

theorem sc_area_start : FnScope ["disk", "area"] ["disk", "area"] (defScope s_area_start) := ⟨rfl, rfl, rfl, by decide +kernel, rfl, by decide +kernel, by decide +kernel⟩
theorem ok_area_start (T : Tx P K mg) : FnOk P w K mg base CX0 3 T.area_start.a T.area_start.d ["disk", "area"] (sp_area_start T.a_Disk) := by
  refine T.area_start.f.ok sc_area_start (fun vs H Q E h => ?_) (fun cdv A outer s H vs Q E hr h => ⟨_, pss_one (ps_ret (pe_op op_add (pe_glob (v := .int 2) rfl T.c_HEADERS ⟨_, rfl⟩) (pe_op op_mul (pv 1) (pe_call (ok_area_size T) (hr.mono (by decide)) rfl T.area_size.g T.area_size.f.kp T.area_size.b .nil pass0 (pa_cons (pv 0) pa_nil))))), ?_⟩)
  · obtain ⟨R, x, rest, s, n, m, a, rfl, _⟩ := h
    rfl
  · skip
    obtain ⟨R, x, rest, s0, n, m, a, rfl, ds, w, hn, hn2, ha, q⟩ := h
    walk_at "run"
    refine cp_area_size ds w hn ?_
    generalize (n - 2) / 2 = u at *
    walk_at "run"
    rw [show (2 : Int) + (a : Int) * (u : Int) = ((2 + a * u : Nat) : Int) by rw [Int.natCast_add, Int.natCast_mul]; rfl]
    exact q

theorem cp_area_start {C x : Addr} {R H : Hp} {rest : List (Addr × HO)} {s : Dk.St} {n m a : Nat} {Q : VK} {E : XK} (ds : Dsk C R H x rest s) (w : Dk.Wf n m s) (hn : 2 ≤ n) (hn2 : n ≤ 1000) (ha : a ≤ 1000) (q : Q (.int ((2 + a * ((n - 2) / 2) : Nat) : Int)) H) : Gx.CP (sp_area_start C) [.ref x, .int (a : Int)] [] H Q E := ⟨R, x, rest, s, n, m, a, rfl, ds, w, hn, hn2, ha, q⟩

/-- the lowest binary digits -/
noncomputable def sp_digits_of : Sp := fun vs H Q _ => ∃ (v c : Nat), vs = [.int (v : Int), .int (c : Int)] ∧ c ≤ 10000 ∧ Q (.str (Bs.S (Fb.bin c v))) H

theorem sc_digits_of : FnScope ["value", "count", "power", "led", "digits"] ["value", "count"] (defScope s_digits_of) := ⟨rfl, rfl, rfl, by decide +kernel, rfl, by decide +kernel, by decide +kernel⟩
theorem ok_digits_of (T : Tx P K mg) : FnOk P w K mg base CX0 1 T.digits_of.a T.digits_of.d ["value", "count"] (sp_digits_of) := by
  refine T.digits_of.f.ok sc_digits_of (fun vs H Q E h => ?_) (fun cdv A outer s H vs Q E hr h => ⟨_, pss_cons (ps_set (i := 2) sc_digits_of.nd rfl (Or.inl rfl) (pe_op op_shl (pe_int) (pv 1)))
      (pss_cons (ps_set (i := 3) sc_digits_of.nd rfl (Or.inl rfl) (pe_op op_add (pv 2) (pe_op op_mod (pv 0) (pv 2))))
      (pss_cons (ps_set (i := 4) sc_digits_of.nd rfl (Or.inl rfl) (pe_joined1 (Fb.pe_fmtB (pv 3))))
      (pss_one (ps_ret (pe_slice sl_str (pv 4) (po_some (pe_int)) po_none))))), ?_⟩)
  · obtain ⟨v, c, rfl, _⟩ := h
    rfl
  · skip
    obtain ⟨v, c, rfl, hc, q⟩ := h
    walk_at "go"
    refine Gx.ic ⟨by omega, by omega, by decide⟩ ?_
    rw [Gy.pw]
    walk_at "go"
    refine Gx.ic (Int.natCast_pos.mpr (Nat.two_pow_pos c)) ?_
    walk_at "go"
    refine Fb.fmt ?_
    walk_at "go"
    refine Fb.fbp (k := c) (r := v % 2 ^ c) (by rw [Int.natCast_add, Int.natCast_emod]) (Nat.mod_lt _ (Nat.two_pow_pos c)) (by omega) ?_
    walk_at "go"
    refine Gx.slS (by rw [Bs.len, List.length_cons, Fb.bin_len, sizeLine_eq]; omega) ?_
    rw [show cutS (Bs.S (true :: Fb.bin c (v % 2 ^ c))) (some 1) none = Bs.S (Fb.bin c v) by rw [show (1 : Int) = ((1 : Nat) : Int) from rfl, Bs.cut_lo, Fb.bin_mod]; rfl]
    exact q

theorem cp_digits_of {v c : Int} {H : Hp} {Q : VK} {E : XK} (h0 : 0 ≤ v) (h1 : 0 ≤ c) (h2 : c ≤ 10000) (q : Q (.str (Bs.S (Fb.bin c.toNat v.toNat))) H) : Gx.CP sp_digits_of [.int v, .int c] [] H Q E :=
  ⟨v.toNat, c.toNat, by rw [List.append_nil, Int.toNat_of_nonneg h0, Int.toNat_of_nonneg h1], by omega, q⟩

noncomputable def sp_shortest_cell : Sp := fun vs H Q _ => ∃ (l s h : Nat), vs = [.int (l : Int), .int (s : Int), .int (h : Int)] ∧ 0 < s ∧ l + s ≤ h ∧ h ≤ 2 ^ 3000 ∧ Q (.str (Bs.S (Fb.bin (Cd.klen l s h) (Cd.ceil l h (Cd.klen l s h))))) H

theorem sc_shortest_cell : FnScope ["low", "size", "whole", "count", "value"] ["low", "size", "whole"] (defScope s_shortest_cell) := ⟨rfl, rfl, rfl, by decide +kernel, rfl, by decide +kernel, by decide +kernel⟩
theorem ok_shortest_cell (T : Tx P K mg) : FnOk P w K mg base CX0 2 T.shortest_cell.a T.shortest_cell.d ["low", "size", "whole"] (sp_shortest_cell) := by
  refine T.shortest_cell.f.ok sc_shortest_cell (fun vs H Q E h => ?_) (fun cdv A outer s H vs Q E hr h => ⟨_, pss_cons (ps_set (i := 3) sc_shortest_cell.nd rfl (Or.inl rfl) (pe_bits (pe_op op_fdivW (pe_op op_sub (pv 2) (pe_int)) (pv 1))))
      (pss_one (ps_while PassesOwn.never (pt_val (pe_bl))
      (pss_cons (ps_set (i := 4) sc_shortest_cell.nd rfl (Or.inl rfl) (pe_op op_fdivW (pe_op op_sub (pe_op op_add (pe_op op_shlW (pv 0) (pv 3)) (pv 2)) (pe_int)) (pv 2)))
      (pss_cons (ps_if (pt_cmpR op_le (pe_op op_mulW (pe_op op_add (pv 4) (pe_int)) (pv 2)) (pe_op op_shlW (pe_op op_add (pv 0) (pv 1)) (pv 3)) (nomark _)) (pss_one (ps_ret (pe_call (ok_digits_of T) (hr.mono (by decide)) rfl T.digits_of.g T.digits_of.f.kp T.digits_of.b .nil pass0 (pa_cons (pv 4) (pa_cons (pv 3) pa_nil))))) (pss_nil))
      (pss_one (ps_aug (i := 3) sc_shortest_cell.nd rfl (Or.inl rfl) (pe_int) ip_add)))))), ?_⟩)
  · obtain ⟨l, s, h, rfl, _⟩ := h
    rfl
  · skip
    obtain ⟨l, s, h, rfl, hs, hl, hh, q⟩ := h
    have hpos : 0 < h := by omega
    have hK := Cd.klen_small (l := l) hs hpos hl hh
    have wl : ∀ {x : Nat} {k : Nat}, x < 2 ^ k → (x : Int).natAbs < 2 ^ k := fun h => by rw [Int.natAbs_natCast]; exact h
    have h3000 : h < 2 ^ 3001 := Nat.lt_of_le_of_lt hh (Nat.pow_lt_pow_right (by decide) (by decide))
    walk_at "go"
    refine Gx.bits ?_
    walk_at "go"
    refine Gx.ic (wide_div (b := 3001) (by omega) (wl (by omega)) (by decide) (by decide)) ?_
    rw [show ((h : Int) - 1) / (s : Int) = (((h - 1) / s : Nat) : Int) by rw [Int.natCast_ediv]; congr 1; omega]
    refine Gx.bip ?_
    have hk0 : ∀ i, i < Builtin.Int.intBits (((h - 1) / s : Nat) : Int) → Cd.fit l s h i = false := fun i hi => Cd.bits_below hs hpos hi
    walk_at "go"
    refine Gx.whl (fun m σ' H' => H' = H ∧ ∃ (k : Nat) (vv : Option V), m + k = Cd.klen l s h ∧ (∀ i, i < k → Cd.fit l s h i = false) ∧ σ' = [some (.int (l : Int)), some (.int (s : Int)), some (.int (h : Int)), some (.int (k : Int)), vv]) (Cd.klen l s h - Builtin.Int.intBits (((h - 1) / s : Nat) : Int))
      ⟨rfl, Builtin.Int.intBits (((h - 1) / s : Nat) : Int), none, ?_, hk0, rfl⟩ ?_
    · have : ¬ Cd.klen l s h < Builtin.Int.intBits (((h - 1) / s : Nat) : Int) := fun z => by
        have a := hk0 _ z
        rw [(Cd.klen_spec (l := l) hs hpos).1] at a; cases a
      omega
    rintro m σ' H' ⟨rfl, k, vv, hmk, hno, rfl⟩
    walk_at "go"
    have hsh : ∀ {x : Nat}, x < 2 ^ 3001 → CShl (x : Int) (k : Int) := fun hx => shl_ok (n := 3001) (wl hx) (by omega)
    refine Gx.ic (hsh (by omega)) ?_
    have hc : ((l : Int) * 2 ^ ((k : Nat) : Int).toNat + (h : Int) - 1) / (h : Int) = ((Cd.ceil l h k : Nat) : Int) := by
      unfold Cd.ceil
      rw [Int.toNat_natCast, Int.natCast_ediv]
      congr 1
      have e : ((l * 2 ^ k : Nat) : Int) = (l : Int) * 2 ^ k := by rw [Int.natCast_mul, Int.natCast_pow]; rfl
      omega
    walk_at "go"
    refine Gx.ic (wide_div (b := 3001) (by omega) (wl h3000) (by decide) (by decide)) ?_
    rw [hc]
    walk_at "go"
    have hcl := Cd.ceil_lt (l := l) (k := k) hpos
    have hb : Cd.ceil l h k + 1 < 2 ^ (6010) := by
      have e1 : Cd.ceil l h k ≤ Cd.ceil l h k * h := Nat.le_mul_of_pos_right _ hpos
      have e2 : l * 2 ^ k ≤ 2 ^ 3001 * 2 ^ 3002 := Nat.mul_le_mul (by omega) (Nat.pow_le_pow_right (by decide) (by omega))
      rw [← Nat.pow_add] at e2
      have e3 : (2 : Nat) ^ 6010 = 2 ^ 6003 * 128 := by rw [show 6010 = 6003 + 7 from rfl, Nat.pow_add]
      have e4 : (2 : Nat) ^ 3001 ≤ 2 ^ 6003 := Nat.pow_le_pow_right (by decide) (by decide)
      omega
    refine Gx.ic (wide_mul (a := 6010) (b := 3001) (wl (x := Cd.ceil l h k + 1) hb) (wl h3000) (by decide) (by decide) (by decide)) ?_
    walk_at "go"
    refine Gx.ic (hsh (x := l + s) (by omega)) ?_
    walk_at "go"
    have hd : decide ((((Cd.ceil l h k : Nat) : Int) + 1) * (h : Int) ≤ ((l : Int) + (s : Int)) * 2 ^ ((k : Nat) : Int).toNat) = Cd.fit l s h k := by
      unfold Cd.fit
      refine decide_eq_decide.mpr ?_
      rw [Int.toNat_natCast, show (((Cd.ceil l h k : Nat) : Int) + 1) * (h : Int) = (((Cd.ceil l h k + 1) * h : Nat) : Int) by rw [Int.natCast_mul]; rfl, show ((l : Int) + (s : Int)) * 2 ^ k = (((l + s) * 2 ^ k : Nat) : Int) by rw [Int.natCast_mul, Int.natCast_pow]; rfl]
      exact Int.ofNat_le
    rw [hd]
    refine Gx.if_b (fun hf => ?_) (fun hf => ?_)
    · have ek := Cd.klen_eq hs hpos hf hno
      walk_at "go"
      refine cp_digits_of (by omega) (by omega) (by omega) ?_
      rw [Int.toNat_natCast, Int.toNat_natCast, ek]
      exact q
    · have hlt : k < Cd.klen l s h := by
        rcases Nat.lt_or_ge k (Cd.klen l s h) with z | z
        · exact z
        · have e : k = Cd.klen l s h := by omega
          rw [e, (Cd.klen_spec (l := l) hs hpos).1] at hf; cases hf
      walk_at "go"
      refine ⟨m - 1, by omega, rfl, k + 1, _, by omega, fun i hi => ?_, rfl⟩
      by_cases e : i = k
      · subst e; exact hf
      · exact hno i (by omega)

theorem cp_shortest_cell {l s h : Nat} {H : Hp} {Q : VK} {E : XK} (hs : 0 < s) (hl : l + s ≤ h) (hh : h ≤ 2 ^ 3000) (q : Q (.str (Bs.S (Fb.bin (Cd.klen l s h) (Cd.ceil l h (Cd.klen l s h))))) H) : Gx.CP sp_shortest_cell [.int (l : Int), .int (s : Int), .int (h : Int)] [] H Q E := ⟨l, s, h, rfl, hs, hl, hh, q⟩

noncomputable def sp_Coding_interval (C : Addr) : Sp := fun vs H Q _ => ∃ (x z o : Addr) (w : Nat) (bs : List Bool), vs = [.ref x] ∧ Cod C H x z o w bs ∧
  ∀ (p : Addr), H p = none → Q (.ref p) (upd H p (.tup [.int (Iv.lo w bs : Nat), .int (Iv.sz w bs : Nat), .int (Iv.wh w bs : Nat)]))

theorem sc_Coding_interval : FnScope ["self"] ["self"] (defScope s_Coding_interval) := ⟨rfl, rfl, rfl, by decide +kernel, rfl, by decide +kernel, by decide +kernel⟩
theorem ok_Coding_interval (T : Tx P K mg) : FnOk P w K mg base CX0 1 T.Coding_interval.a T.Coding_interval.d ["self"] (sp_Coding_interval T.a_Coding) := by
  refine T.Coding_interval.f.ok sc_Coding_interval (fun vs H Q E h => ?_) (fun cdv A outer s H vs Q E hr h => ⟨_, pss_one (ps_ret (pe_tup (pa_cons (pe_fld (pv 0) rfl) (pa_cons (pe_fld (pv 0) rfl) (pa_cons (pe_fld (pv 0) rfl) pa_nil))))), ?_⟩)
  · obtain ⟨x, z, o, w, bs, rfl, _⟩ := h
    rfl
  · skip
    obtain ⟨x, z, o, w, bs, rfl, ⟨⟨dx, hx⟩, hz, ho, hzo⟩, q⟩ := h
    walk_at "go"
    exact Gx.tupP (by show 3 ≤ sizeLine; decide) q

theorem cp_Coding_interval {C x z o : Addr} {w : Nat} {bs : List Bool} {H : Hp} {Q : VK} {E : XK} (c : Cod C H x z o w bs)
    (q : ∀ (p : Addr), H p = none → Q (.ref p) (upd H p (.tup [.int (Iv.lo w bs : Nat), .int (Iv.sz w bs : Nat), .int (Iv.wh w bs : Nat)]))) : Gx.CP (sp_Coding_interval C) [.ref x] [] H Q E := ⟨x, z, o, w, bs, rfl, c, q⟩

/-- the context of a place -/
noncomputable def sp_context : Sp := fun vs H Q _ => ∃ (w n : Nat) (bs : List Bool), vs = [.int (w : Int), .str (Bs.S bs), .int (n : Int)] ∧ 0 < w ∧ n ≤ bs.length ∧ bs.length ≤ 100000 ∧ Q (.int (Cx_.ctx w bs n : Nat)) H

theorem sc_context : FnScope ["width", "bits", "place", "column", "total"] ["width", "bits", "place"] (defScope s_context) := ⟨rfl, rfl, rfl, by decide +kernel, rfl, by decide +kernel, by decide +kernel⟩
theorem ok_context (T : Tx P K mg) : FnOk P w K mg base CX0 1 T.context.a T.context.d ["width", "bits", "place"] (sp_context) := by
  refine T.context.f.ok sc_context (fun vs H Q E h => ?_) (fun cdv A outer s H vs Q E hr h => ⟨_, pss_cons (ps_set (i := 3) sc_context.nd rfl (Or.inl rfl) (pe_op op_mod (pv 2) (pv 0)))
      (pss_cons (ps_set (i := 4) sc_context.nd rfl (Or.inl rfl) (pe_int))
      (C8.pss_cut (ps_if (PW.pt (pw_and (pt_cmpR op_ne (pv 3) (pe_int) (nomark _)) (pw_and1 (pt_cmpR op_eq (pe_ix (Gx.ix_seqK (K := K) rfl) (pv 1) (pe_op op_sub (pv 2) (pe_int)) (fun _ _ => rfl)) (pe_str) (nomark _))))) (pss_one (ps_aug (i := 4) sc_context.nd rfl (Or.inl rfl) (pe_int) ip_add)) (pss_nil))
      (C8.pss_cut (ps_if (pt_cmpR op_ge (pv 2) (pv 0) (nomark _)) (C8.pss_cut (ps_if (PW.pt (pw_and (pt_cmpR op_ne (pv 3) (pe_int) (nomark _)) (pw_and1 (pt_cmpR op_eq (pe_ix (Gx.ix_seqK (K := K) rfl) (pv 1) (pe_op op_sub (pe_op op_sub (pv 2) (pv 0)) (pe_int)) (fun _ _ => rfl)) (pe_str) (nomark _))))) (pss_one (ps_aug (i := 4) sc_context.nd rfl (Or.inl rfl) (pe_int) ip_add)) (pss_nil))
      (C8.pss_cut (ps_if (pt_cmpR op_eq (pe_ix (Gx.ix_seqK (K := K) rfl) (pv 1) (pe_op op_sub (pv 2) (pv 0)) (fun _ _ => rfl)) (pe_str) (nomark _)) (pss_one (ps_aug (i := 4) sc_context.nd rfl (Or.inl rfl) (pe_int) ip_add)) (pss_nil))
      (pss_one (ps_if (PW.pt (pw_and (pt_cmpR op_lt (pv 3) (pe_op op_sub (pv 0) (pe_int)) (nomark _)) (pw_and1 (pt_cmpR op_eq (pe_ix (Gx.ix_seqK (K := K) rfl) (pv 1) (pe_op op_add (pe_op op_sub (pv 2) (pv 0)) (pe_int)) (fun _ _ => rfl)) (pe_str) (nomark _))))) (pss_one (ps_aug (i := 4) sc_context.nd rfl (Or.inl rfl) (pe_int) ip_add)) (pss_nil))))) (pss_nil))
      (pss_one (ps_ret (pv 4)))))), ?_⟩)
  · obtain ⟨w, n, bs, rfl, _⟩ := h
    rfl
  · skip
    obtain ⟨w, n, bs, rfl, hw, hn, hb, q⟩ := h
    walk_at "go"
    refine Gx.ic (by omega) ?_
    have hc : (n : Int) % (w : Int) = ((n % w : Nat) : Int) := by omega
    have hml := Nat.mod_lt n hw
    rw [hc]
    walk_at "go"
    have nz : (!decide (((n % w : Nat) : Int) = 0)) = decide (n % w ≠ 0) := by
      rw [← decide_not]; exact decide_eq_decide.mpr (by omega)
    refine Gx.cut (fun σ' H' => H' = H ∧ σ' = [some (.int (w : Int)), some (.str (Bs.S bs)), some (.int (n : Int)), some (.int ((n % w : Nat) : Int)), some (.int ((if n % w ≠ 0 ∧ bs.getD (n - 1) false = true then 1 else 0 : Nat) : Int))]) ?_ ?_
    · walk_at "go"
      rw [nz]
      refine Gx.if_d (fun h1 => ?_) (fun h1 => ?_)
      · walk_at "go"
        have hne : n ≠ 0 := fun e => h1 (by rw [e, Nat.zero_mod])
        refine Bs.ix (by omega) (by omega) (by omega) ?_
        rw [show ((n : Int) - 1).toNat = n - 1 by omega]
        walk_at "go"
        rw [Bs.eq1]
        refine Gx.if_b (fun h2 => ?_) (fun h2 => ?_)
        · walk_at "go"
          refine ⟨rfl, ?_⟩
          rw [if_pos ⟨h1, h2⟩]; rfl
        · walk_at "go"
          refine ⟨rfl, ?_⟩
          rw [if_neg (fun z => by rw [h2] at z; exact absurd z.2 (by decide))]; rfl
      · walk_at "go"
        refine ⟨rfl, ?_⟩
        rw [if_neg (fun z => h1 z.1)]; rfl
    · rintro σ' H' ⟨rfl, rfl⟩
      generalize ht : (if n % w ≠ 0 ∧ bs.getD (n - 1) false = true then 1 else 0 : Nat) = t
      refine Gx.cut (fun σ' H2 => H2 = H' ∧ σ' = [some (.int (w : Int)), some (.str (Bs.S bs)), some (.int (n : Int)), some (.int ((n % w : Nat) : Int)), some (.int ((Cx_.ctx w bs n : Nat) : Int))]) ?_ ?_
      · walk_at "go"
        refine Gx.if_d (fun h1 => ?_) (fun h1 => ?_)
        · refine Gx.cut (fun σ' H2 => H2 = H' ∧ σ' = [some (.int (w : Int)), some (.str (Bs.S bs)), some (.int (n : Int)), some (.int ((n % w : Nat) : Int)), some (.int ((t + (if n % w ≠ 0 ∧ bs.getD (n - w - 1) false = true then 2 else 0) : Nat) : Int))]) ?_ ?_
          · walk_at "go"
            rw [nz]
            refine Gx.if_d (fun h1 => ?_) (fun h1 => ?_)
            · walk_at "go"
              have hne : n ≠ w := fun e => h1 (by rw [e, Nat.mod_self])
              refine Bs.ix (by omega) (by omega) (by omega) ?_
              rw [show ((n : Int) - (w : Int) - 1).toNat = n - w - 1 by omega]
              walk_at "go"
              rw [Bs.eq1]
              refine Gx.if_b (fun h2 => ?_) (fun h2 => ?_)
              · walk_at "go"
                refine ⟨rfl, ?_⟩
                rw [if_pos ⟨h1, h2⟩]; rfl
              · walk_at "go"
                refine ⟨rfl, ?_⟩
                rw [if_neg (fun z => by rw [h2] at z; exact absurd z.2 (by decide))]; rfl
            · walk_at "go"
              refine ⟨rfl, ?_⟩
              rw [if_neg (fun z => h1 z.1)]; rfl
          · rintro σ' H2 ⟨rfl, rfl⟩
            generalize ht2 : (t + (if n % w ≠ 0 ∧ bs.getD (n - w - 1) false = true then 2 else 0) : Nat) = t2
            refine Gx.cut (fun σ' H3 => H3 = H2 ∧ σ' = [some (.int (w : Int)), some (.str (Bs.S bs)), some (.int (n : Int)), some (.int ((n % w : Nat) : Int)), some (.int ((t2 + (if bs.getD (n - w) false = true then 4 else 0) : Nat) : Int))]) ?_ ?_
            · walk_at "go"
              refine Bs.ix (by omega) (by omega) (by omega) ?_
              rw [show ((n : Int) - (w : Int)).toNat = n - w by omega]
              walk_at "go"
              rw [Bs.eq1]
              refine Gx.if_b (fun h2 => ?_) (fun h2 => ?_)
              · walk_at "go"
                refine ⟨rfl, ?_⟩
                rw [if_pos h2]; rfl
              · walk_at "go"
                refine ⟨rfl, ?_⟩
                rw [if_neg (by rw [h2]; decide)]; rfl
            · rintro σ' H3 ⟨rfl, rfl⟩
              generalize ht3 : (t2 + (if bs.getD (n - w) false = true then 4 else 0) : Nat) = t3
              have fin : ∀ c : Bool, (n % w < w - 1 ∧ bs.getD (n - w + 1) false = true ↔ c = true) → Cx_.ctx w bs n = t3 + (if c = true then 8 else 0) := fun c hc => by
                unfold Cx_.ctx
                rw [if_pos (show w ≤ n by omega), ht]
                have e : (if n % w < w - 1 ∧ bs.getD (n - w + 1) false = true then 8 else 0) = (if c = true then 8 else 0 : Nat) := by
                  by_cases h : c = true
                  · rw [if_pos (hc.mpr h), if_pos h]
                  · rw [if_neg (fun z => h (hc.mp z)), if_neg h]
                rw [e]; omega
              walk_at "go"
              refine Gx.if_d (fun h1 => ?_) (fun h1 => ?_)
              · walk_at "go"
                refine Bs.ix (by omega) (by omega) (by omega) ?_
                rw [show ((n : Int) - (w : Int) + 1).toNat = n - w + 1 by omega]
                walk_at "go"
                rw [Bs.eq1]
                refine Gx.if_b (fun h2 => ?_) (fun h2 => ?_)
                · walk_at "go"
                  refine ⟨rfl, ?_⟩
                  rw [fin true (by rw [h2]; constructor <;> intro _ <;> first | trivial | exact ⟨by omega, rfl⟩)]; rfl
                · walk_at "go"
                  refine ⟨rfl, ?_⟩
                  rw [fin false (by rw [h2]; constructor <;> intro z <;> first | exact absurd z.2 (by decide) | exact absurd z (by decide))]; rfl
              · walk_at "go"
                refine ⟨rfl, ?_⟩
                rw [fin false ⟨fun z => absurd z.1 (by omega), fun z => absurd z (by decide)⟩]; rfl
        · walk_at "go"
          refine ⟨rfl, ?_⟩
          unfold Cx_.ctx
          rw [if_neg (show ¬ w ≤ n by omega), ht]; rfl
      · rintro σ' H2 ⟨rfl, rfl⟩
        walk_at "go"
        exact q

theorem cp_context {w n : Int} {bs : List Bool} {H : Hp} {Q : VK} {E : XK} (hw : 0 < w) (h0 : 0 ≤ n) (hn : n ≤ bs.length) (hb : bs.length ≤ 100000) (q : Q (.int (Cx_.ctx w.toNat bs n.toNat : Nat)) H) : Gx.CP sp_context [.int w, .str (Bs.S bs), .int n] [] H Q E :=
  ⟨w.toNat, n.toNat, bs, by rw [List.append_nil, Int.toNat_of_nonneg h0, Int.toNat_of_nonneg (Int.le_of_lt hw)], by omega, by omega, hb, q⟩

noncomputable def sp_Coding_take (C : Addr) : Sp := fun vs H Q _ => ∃ (x z o : Addr) (w : Nat) (bs : List Bool) (b : Bool), vs = [.ref x, .str (Bs.S [b])] ∧ Cod C H x z o w bs ∧ 0 < w ∧ bs.length ≤ 100000 ∧
  ∀ H', Cod C H' x z o w (bs ++ [b]) → (∀ c, c ≠ x → c ≠ z → c ≠ o → H' c = H c) → Q .non H'

theorem sc_Coding_take : FnScope ["self", "bit", "here", "zeros", "ones"] ["self", "bit"] (defScope s_Coding_take) := ⟨rfl, rfl, rfl, by decide +kernel, rfl, by decide +kernel, by decide +kernel⟩
theorem ok_Coding_take (T : Tx P K mg) : FnOk P w K mg base CX0 2 T.Coding_take.a T.Coding_take.d ["self", "bit"] (sp_Coding_take T.a_Coding) := by
  refine T.Coding_take.f.ok sc_Coding_take (fun vs H Q E h => ?_) (fun cdv A outer s H vs Q E hr h => ⟨_, pss_cons (ps_set (i := 2) sc_Coding_take.nd rfl (Or.inl rfl) (pe_call (ok_context T) (hr.mono (by decide)) rfl T.context.g T.context.f.kp T.context.b .nil pass0 (pa_cons (pe_fld (pv 0) rfl) (pa_cons (pe_fld (pv 0) rfl) (pa_cons (pe_callB (Gx.c_lenK (K := K) rfl) rfl T.n_len (by decide +kernel) (pa_cons (pe_fld (pv 0) rfl) pa_nil)) pa_nil)))))
      (pss_cons (ps_set (i := 3) sc_Coding_take.nd rfl (Or.inl rfl) (pe_ix (Gx.ix_seqK (K := K) rfl) (pe_fld (pv 0) rfl) (pv 2) (fun _ _ => rfl)))
      (pss_cons (ps_set (i := 4) sc_Coding_take.nd rfl (Or.inl rfl) (pe_ix (Gx.ix_seqK (K := K) rfl) (pe_fld (pv 0) rfl) (pv 2) (fun _ _ => rfl)))
      (pss_cons (ps_fld (pv 0) (pe_op op_mul (pe_fld (pv 0) rfl) (pe_op op_add (pv 3) (pv 4))) rfl)
      (pss_cons (ps_fld (pv 0) (pe_op op_mul (pe_fld (pv 0) rfl) (pe_op op_add (pv 3) (pv 4))) rfl)
      (pss_cons (ps_if (pt_cmpR op_eq (pv 1) (pe_str) (nomark _)) (pss_cons (ps_fld (pv 0) (pe_op op_mul (pe_fld (pv 0) rfl) (pv 3)) rfl)
      (pss_one (ps_augS (pe_fld (pv 0) rfl) (pv 2) Gx.pget_list (pe_int) ip_add set_list))) (pss_cons (ps_fld (pv 0) (pe_op op_add (pe_fld (pv 0) rfl) (pe_op op_mul (pe_fld (pv 0) rfl) (pv 3))) rfl)
      (pss_cons (ps_fld (pv 0) (pe_op op_mul (pe_fld (pv 0) rfl) (pv 4)) rfl)
      (pss_one (ps_augS (pe_fld (pv 0) rfl) (pv 2) Gx.pget_list (pe_int) ip_add set_list)))))
      (pss_one (ps_fld (pv 0) (pe_op Gx.o_addS (pe_fld (pv 0) rfl) (pv 1)) rfl))))))), ?_⟩)
  · obtain ⟨x, z, o, w, bs, b, rfl, _⟩ := h
    rfl
  · skip
    obtain ⟨x, z, o, w, bs, b, rfl, cod, hw, hb, q⟩ := h
    have hxz := cod.xz
    obtain ⟨⟨dx, hx⟩, hz, ho, hzo⟩ := cod
    have hzl := (Iv.zs_le w bs (Iv.nx w bs))
    have hol := (Iv.os_le w bs (Iv.nx w bs))
    walk_at "go"
    refine Bs.lenB (by omega) ?_
    walk_at "go"
    refine cp_context (by omega) (by omega) (by omega) hb ?_
    rw [Int.toNat_natCast, Int.toNat_natCast]
    walk_at "go"
    refine Gx.ixL (SqL.of hz) nx_at ?_
    walk_at "go"
    refine Gx.ixL (SqL.of ho) nx_at ?_
    walk_at "go"
    refine Gx.ic (.inr (by omega)) ?_
    walk_at "go"
    refine Gx.sfp hx T.cl_Coding T.na_Coding__low few_Coding put_Coding__low ?_
    have hx1 := upd_same (H := H) (a := x) (o := .ins T.a_Coding dx (fl_Coding (.str (Bs.S bs)) (.int (w : Int)) (.int ((Iv.lo w bs : Nat) * ((Iv.zs w bs (Iv.nx w bs) : Nat) + (Iv.os w bs (Iv.nx w bs) : Nat)))) (.int (Iv.sz w bs : Nat)) (.int (Iv.wh w bs : Nat)) (.ref z) (.ref o)))
    walk_at "go"
    refine Gx.ic (.inr (by omega)) ?_
    walk_at "go"
    refine Gx.sfp hx1 T.cl_Coding T.na_Coding__whole few_Coding put_Coding__whole ?_
    rw [upd_upd]
    clear hx1
    walk_at "go"
    rw [Bs.eq0]
    cases b with
    | false =>
      walk_at "go"
      refine Gx.fp upd_same T.cl_Coding T.na_Coding__size lk_Coding__size ?_
      walk_at "go"
      refine Gx.ic (.inr (by omega)) ?_
      walk_at "go"
      refine Gx.sfp upd_same T.cl_Coding T.na_Coding__size few_Coding put_Coding__size ?_
      rw [upd_upd]
      walk_at "go"
      refine Gx.fp upd_same T.cl_Coding T.na_Coding__zeros lk_Coding__zeros ?_
      walk_at "go"
      refine Gx.getN (SqL.of (by rw [upd_ne hxz.1.symm]; exact hz)) (by have := Cx_.ctx_lt w bs bs.length; omega) (Iv.zl_get (Cx_.ctx_lt w bs bs.length)) ?_
      walk_at "go"
      refine Gx.agL (by rw [upd_ne hxz.1.symm]; exact hz) (by unfold Iv.zl; rw [List.length_map, List.length_range]; exact Cx_.ctx_lt w bs bs.length) ?_
      walk_at "go"
      refine Gx.fp (by rw [upd_ne hxz.1]; exact upd_same) T.cl_Coding T.na_Coding_bits lk_Coding_bits ?_
      walk_at "go"
      refine Gx.addS (by rw [Bs.len, Bs.len, sizeLine_eq]; show _ + 1 ≤ _; omega) ?_
      rw [Bs.cat]
      walk_at "go"
      refine Gx.sfp (by rw [upd_ne hxz.1]; exact upd_same) T.cl_Coding T.na_Coding_bits few_Coding put_Coding_bits ?_
      refine q _ ⟨⟨dx, ?_⟩, ?_, ?_, hzo⟩ fun c h1 h2 h3 => ?_
      · rw [upd_same, Iv.lo_app hw, Iv.sz_app hw, Iv.wh_app hw]
        simp only [Bool.false_eq_true, if_false, Nat.add_zero, Iv.both, Int.natCast_mul, Int.natCast_add]
      · rw [upd_ne hxz.1.symm, upd_same]; exact congrArg (fun l => some (HO.lst l)) (Iv.zl_app0 hw)
      · rw [upd_ne hxz.2.symm, upd_ne hzo.symm, upd_ne hxz.2.symm, ho, Iv.ol_app0 hw]
      · rw [upd_ne h1, upd_ne h2, upd_ne h1]
    | true =>
      walk_at "go"
      refine Gx.fp upd_same T.cl_Coding T.na_Coding__low lk_Coding__low ?_
      walk_at "go"
      refine Gx.fp upd_same T.cl_Coding T.na_Coding__size lk_Coding__size ?_
      walk_at "go"
      refine Gx.ic (.inr (by omega)) ?_
      walk_at "go"
      refine Gx.sfp upd_same T.cl_Coding T.na_Coding__low few_Coding put_Coding__low ?_
      rw [upd_upd]
      walk_at "go"
      refine Gx.fp upd_same T.cl_Coding T.na_Coding__size lk_Coding__size ?_
      walk_at "go"
      refine Gx.ic (.inr (by omega)) ?_
      walk_at "go"
      refine Gx.sfp upd_same T.cl_Coding T.na_Coding__size few_Coding put_Coding__size ?_
      rw [upd_upd]
      walk_at "go"
      refine Gx.fp upd_same T.cl_Coding T.na_Coding__ones lk_Coding__ones ?_
      walk_at "go"
      refine Gx.getN (SqL.of (by rw [upd_ne hxz.2.symm]; exact ho)) (by have := Cx_.ctx_lt w bs bs.length; omega) (Iv.ol_get (Cx_.ctx_lt w bs bs.length)) ?_
      walk_at "go"
      refine Gx.agL (by rw [upd_ne hxz.2.symm]; exact ho) (by unfold Iv.ol; rw [List.length_map, List.length_range]; exact Cx_.ctx_lt w bs bs.length) ?_
      walk_at "go"
      refine Gx.fp (by rw [upd_ne hxz.2]; exact upd_same) T.cl_Coding T.na_Coding_bits lk_Coding_bits ?_
      walk_at "go"
      refine Gx.addS (by rw [Bs.len, Bs.len, sizeLine_eq]; show _ + 1 ≤ _; omega) ?_
      rw [Bs.cat]
      walk_at "go"
      refine Gx.sfp (by rw [upd_ne hxz.2]; exact upd_same) T.cl_Coding T.na_Coding_bits few_Coding put_Coding_bits ?_
      refine q _ ⟨⟨dx, ?_⟩, ?_, ?_, hzo⟩ fun c h1 h2 h3 => ?_
      · rw [upd_same, Iv.lo_app hw, Iv.sz_app hw, Iv.wh_app hw]
        simp only [if_true, Iv.both, Int.natCast_mul, Int.natCast_add]
      · rw [upd_ne hxz.1.symm, upd_ne hzo, upd_ne hxz.1.symm, hz, Iv.zl_app1 hw]
      · rw [upd_ne hxz.2.symm, upd_same]; exact congrArg (fun l => some (HO.lst l)) (Iv.ol_app1 hw)
      · rw [upd_ne h1, upd_ne h3, upd_ne h1]

theorem cp_Coding_take {C x z o : Addr} {w : Nat} {bs : List Bool} {b : Bool} {H : Hp} {Q : VK} {E : XK} (c : Cod C H x z o w bs) (hw : 0 < w) (hb : bs.length ≤ 100000)
    (q : ∀ H', Cod C H' x z o w (bs ++ [b]) → (∀ c, c ≠ x → c ≠ z → c ≠ o → H' c = H c) → Q .non H') : Gx.CP (sp_Coding_take C) [.ref x, .str (Bs.S [b])] [] H Q E := ⟨x, z, o, w, bs, b, rfl, c, hw, hb, q⟩

noncomputable def sp_Coding_init (C : Addr) : Sp := fun vs H Q _ => ∃ (H0 : Hp) (x dx : Addr) (w : Nat), vs = [.ref x, .int (w : Int)] ∧ H x = some (.ins C dx []) ∧ 0 < w ∧ Same H0 H ∧ H0 x = none ∧
  ∀ (z o : Addr) (H' : Hp), H0 z = none → H0 o = none → Same H0 H' → Cod C H' x z o w [] → Q .non H'

theorem sc_Coding___init__ : FnScope ["self", "width"] ["self", "width"] (defScope s_Coding___init__) := ⟨rfl, rfl, rfl, by decide +kernel, rfl, by decide +kernel, by decide +kernel⟩
theorem ok_Coding___init__ (T : Tx P K mg) : FnOk P w K mg base CX0 1 T.Coding___init__.a T.Coding___init__.d ["self", "width"] (sp_Coding_init T.a_Coding) := by
  refine T.Coding___init__.f.ok sc_Coding___init__ (fun vs H Q E h => ?_) (fun cdv A outer s H vs Q E hr h => ⟨_, pss_cons (ps_fld (pv 0) (pe_str) rfl)
      (pss_cons (ps_fld (pv 0) (pv 1) rfl)
      (pss_cons (ps_fld (pv 0) (pe_int) rfl)
      (pss_cons (ps_fld (pv 0) (pe_int) rfl)
      (pss_cons (ps_fld (pv 0) (pe_int) rfl)
      (pss_cons (ps_fld (pv 0) (pe_op Gx.o_rep (pe_lst (pa_cons (pe_int) pa_nil)) (pe_glob (v := .int 16) rfl T.c_CONTEXTS ⟨_, rfl⟩)) rfl)
      (pss_one (ps_fld (pv 0) (pe_op Gx.o_rep (pe_lst (pa_cons (pe_int) pa_nil)) (pe_glob (v := .int 16) rfl T.c_CONTEXTS ⟨_, rfl⟩)) rfl))))))), ?_⟩)
  · obtain ⟨H0, x, dx, w, rfl, _⟩ := h
    rfl
  · skip
    obtain ⟨H0, x, dx, w, rfl, hx, hw, s0, h0, q⟩ := h
    walk_at "go"
    refine Gx.sfp hx T.cl_Coding T.na_Coding_bits (by walk_at "few") rfl ?_
    walk_at "go"
    refine Gx.sfp upd_same T.cl_Coding T.na_Coding__width (by walk_at "few") rfl ?_
    walk_at "go"
    refine Gx.sfp upd_same T.cl_Coding T.na_Coding__low (by walk_at "few") rfl ?_
    walk_at "go"
    refine Gx.sfp upd_same T.cl_Coding T.na_Coding__size (by walk_at "few") rfl ?_
    walk_at "go"
    refine Gx.sfp upd_same T.cl_Coding T.na_Coding__whole (by walk_at "few") rfl ?_
    walk_at "go"
    rw [upd_upd, upd_upd, upd_upd, upd_upd]
    refine Gx.lstP (by show 1 ≤ sizeLine; decide) fun l1 hl1 => ?_
    walk_at "go"
    refine Gx.repN (n := 16) upd_same (by decide) fun z hz => ?_
    have xl : x ≠ l1 := fun e => by rw [← e, upd_same] at hl1; cases hl1
    have xz : x ≠ z := fun e => by rw [← e, upd_ne xl, upd_same] at hz; cases hz
    walk_at "go"
    refine Gx.sfp (by rw [upd_ne xz, upd_ne xl]; exact upd_same) T.cl_Coding T.na_Coding__zeros (by walk_at "few") rfl ?_
    walk_at "go"
    refine Gx.lstP (by show 1 ≤ sizeLine; decide) fun l2 hl2 => ?_
    walk_at "go"
    refine Gx.repN (n := 16) upd_same (by decide) fun o ho => ?_
    have xl2 : x ≠ l2 := fun e => by rw [← e, upd_same] at hl2; cases hl2
    have xo : x ≠ o := fun e => by rw [← e, upd_ne xl2, upd_same] at ho; cases ho
    have zl2 : z ≠ l2 := fun e => by rw [← e, upd_ne xz.symm, upd_same] at hl2; cases hl2
    have zo : z ≠ o := fun e => by rw [← e, upd_ne zl2, upd_ne xz.symm, upd_same] at ho; cases ho
    walk_at "go"
    refine Gx.sfp (by rw [upd_ne xo, upd_ne xl2]; exact upd_same) T.cl_Coding T.na_Coding__ones (by walk_at "few") rfl ?_
    have l1z : l1 ≠ z := fun e => by rw [← e, upd_same] at hz; cases hz
    have hl10 : H l1 = none := by rw [upd_ne (Ne.symm xl)] at hl1; exact hl1
    have hz0 : H z = none := by rw [upd_ne l1z.symm, upd_ne xz.symm] at hz; exact hz
    have hl20 : H l2 = none := by
      by_cases e1 : l2 = l1
      · rw [e1]; exact hl10
      · rw [upd_ne xl2.symm, upd_ne zl2.symm, upd_ne e1, upd_ne xl2.symm] at hl2; exact hl2
    have l2o : l2 ≠ o := fun e => by rw [← e, upd_same] at ho; cases ho
    have ho0 : H o = none := by
      by_cases e1 : o = l1
      · rw [e1]; exact hl10
      · rw [upd_ne l2o.symm, upd_ne xo.symm, upd_ne zo.symm, upd_ne e1, upd_ne xo.symm] at ho; exact ho
    refine q z o _ (s0.free hz0) (s0.free ho0) ?_ ⟨⟨dx, ?_⟩, ?_, ?_, zo⟩
    · refine Gx.same_up h0 (Gx.same_up (s0.free ho0) (Gx.same_up (s0.free hl20) (Gx.same_up h0 (Gx.same_up (s0.free hz0) (Gx.same_up (s0.free hl10) (Gx.same_up h0 s0))))))
    · rw [upd_same, ini_Coding, Bs.lit_]; rfl
    · rw [upd_ne xz.symm, upd_ne zo, upd_ne zl2, upd_ne xz.symm, upd_same, Iv.nil_zl w]
    · rw [upd_ne xo.symm, upd_same, Iv.nil_ol w]


noncomputable def sp_coding_of (C : Addr) : Sp := fun vs H Q _ => ∃ (w : Nat) (bs : List Bool), vs = [.int (w : Int), .str (Bs.S bs)] ∧ 0 < w ∧ bs.length ≤ 100000 ∧
  ∀ (x z o : Addr) (H' : Hp), H x = none → H z = none → H o = none → Same H H' → Cod C H' x z o w bs → Q (.ref x) H'

theorem sc_coding_of : FnScope ["width", "bits", "coding", "bit"] ["width", "bits"] (defScope s_coding_of) := ⟨rfl, rfl, rfl, by decide +kernel, rfl, by decide +kernel, by decide +kernel⟩
theorem ok_coding_of (T : Tx P K mg) : FnOk P w K mg base CX0 3 T.coding_of.a T.coding_of.d ["width", "bits"] (sp_coding_of T.a_Coding) := by
  refine T.coding_of.f.ok sc_coding_of (fun vs H Q E h => ?_) (fun cdv A outer s H vs Q E hr h => ⟨_, pss_cons (ps_set (i := 2) sc_coding_of.nd rfl (Or.inl rfl) (pe_make ⟨T.mk_Coding, T.Coding___init__.m.at_, T.Coding___init__.m.fn, T.kp_Coding⟩ (ok_Coding___init__ T) (hr.mono (by decide)) rfl T.g_Coding T.Coding___init__.b .nil pass0 (pa_cons (pv 0) pa_nil)))
      (pss_cons (ps_for PassesOwn.never rfl (pi_str (pv 1)) (pg_name (i := 3) sc_coding_of.nd rfl (Or.inl rfl))
      (pss_one (ps_expr (pe_meth (pv 2) T.cl_Coding T.Coding_take.m (ok_Coding_take T) (hr.mono (by decide)) T.Coding_take.b .nil pass0 (pa_cons (pv 3) pa_nil)))))
      (pss_one (ps_ret (pv 2)))), ?_⟩)
  · obtain ⟨w, bs, rfl, _⟩ := h
    rfl
  · skip
    obtain ⟨w, bs, rfl, hw, hb, q⟩ := h
    walk_at "go"
    intro x dx hx hdx hne
    refine ⟨H, x, dx, w, rfl, upd_same, hw, Gx.same_up hx (Gx.same_new hdx), hx, fun z o H1 hz ho s1 c1 => ⟨rfl, ?_⟩⟩
    walk_at "go"
    refine Gx.fw walk_str (fun i σ' H' => Same H H' ∧ Cod T.a_Coding H' x z o w (bs.take i) ∧ ∃ bv : Option V, σ' = [some (.int (w : Int)), some (.str (Bs.S bs)), some (.ref x), bv]) ⟨s1, c1, none, rfl⟩ (fun _ _ _ _ _ => trivial) ?_ ?_
    · rintro i v σ' H2 H2' hi ⟨s2, c2, bv, rfl⟩ ⟨rfl, c, hc, rfl⟩
      have hil : i < bs.length := by
        have e : (Bs.S bs).cps.size = bs.length := Bs.len bs
        omega
      have hcb : (⟨#[c]⟩ : Str) = Bs.S [bs.getD i false] := by
        have h := Bs.get_ hil
        rw [hc] at h
        rw [Option.some.inj h]; rfl
      rw [hcb]
      walk_at "go"
      obtain ⟨dx, hx2⟩ := c2.ob
      refine Gx.mp hx2 no_Coding_take ?_
      walk_at "go"
      refine cp_Coding_take c2 hw (by rw [List.length_take]; omega) fun H3 c3 k3 => ?_
      walk_at "go"
      have e : bs.take i ++ [bs.getD i false] = bs.take (i + 1) := by
        rw [List.take_add_one, List.getD_eq_getElem?_getD, List.getElem?_eq_getElem hil]; rfl
      rw [e] at c3
      exact ⟨fun a u ea => (k3 a (ne_of_none ea hx) (ne_of_none ea hz) (ne_of_none ea ho)).trans (s2 a u ea), c3, _, rfl⟩
    · rintro σ' H2 ⟨s2, c2, bv, rfl⟩
      have e : (Bs.S bs).cps.size = bs.length := Bs.len bs
      rw [e, List.take_length] at c2
      walk_at "go"
      exact q x z o H2 hx hz ho s2 c2

theorem cp_coding_of {C : Addr} {w : Int} {bs : List Bool} {H : Hp} {Q : VK} {E : XK} (hw : 0 < w) (hb : bs.length ≤ 100000)
    (q : ∀ (x z o : Addr) (H' : Hp), H x = none → H z = none → H o = none → Same H H' → Cod C H' x z o w.toNat bs → Q (.ref x) H') : Gx.CP (sp_coding_of C) [.int w, .str (Bs.S bs)] [] H Q E :=
  ⟨w.toNat, bs, by rw [List.append_nil, Int.toNat_of_nonneg (Int.le_of_lt hw)], by omega, hb, q⟩

noncomputable def sp_interval : Sp := fun vs H Q _ => ∃ (w : Nat) (bs : List Bool), vs = [.int (w : Int), .str (Bs.S bs)] ∧ 0 < w ∧ bs.length ≤ 100000 ∧
  ∀ (p : Addr) (H' : Hp), Same H H' → H' p = some (.tup [.int (Iv.lo w bs : Nat), .int (Iv.sz w bs : Nat), .int (Iv.wh w bs : Nat)]) → Q (.ref p) H'

theorem sc_interval : FnScope ["width", "bits"] ["width", "bits"] (defScope s_interval) := ⟨rfl, rfl, rfl, by decide +kernel, rfl, by decide +kernel, by decide +kernel⟩
theorem ok_interval (T : Tx P K mg) : FnOk P w K mg base CX0 4 T.interval.a T.interval.d ["width", "bits"] (sp_interval) := by
  refine T.interval.f.ok sc_interval (fun vs H Q E h => ?_) (fun cdv A outer s H vs Q E hr h => ⟨_, pss_one (ps_ret (pe_meth0 (pe_call (ok_coding_of T) (hr.mono (by decide)) rfl T.coding_of.g T.coding_of.f.kp T.coding_of.b .nil pass0 (pa_cons (pv 0) (pa_cons (pv 1) pa_nil))) T.cl_Coding T.Coding_interval.m (ok_Coding_interval T) (hr.mono (by decide)) T.Coding_interval.b .nil pass0)), ?_⟩)
  · obtain ⟨w, bs, rfl, _⟩ := h
    rfl
  · skip
    obtain ⟨w, bs, rfl, hw, hb, q⟩ := h
    walk_at "go"
    refine cp_coding_of (by omega) hb fun x z o H1 hx hz ho s1 c1 => ?_
    rw [Int.toNat_natCast] at c1
    obtain ⟨dx, hx1⟩ := c1.ob
    walk_at "go"
    refine Gx.mp hx1 no_Coding_interval ?_
    walk_at "go"
    refine cp_Coding_interval c1 fun p hp => ?_
    exact q p _ (s1.trans (Gx.same_new hp)) upd_same

theorem cp_interval {w : Int} {bs : List Bool} {H : Hp} {Q : VK} {E : XK} (hw : 0 < w) (hb : bs.length ≤ 100000)
    (q : ∀ (p : Addr) (H' : Hp), Same H H' → H' p = some (.tup [.int (Iv.lo w.toNat bs : Nat), .int (Iv.sz w.toNat bs : Nat), .int (Iv.wh w.toNat bs : Nat)]) → Q (.ref p) H') :
    Gx.CP sp_interval [.int w, .str (Bs.S bs)] [] H Q E := ⟨w.toNat, bs, by rw [List.append_nil, Int.toNat_of_nonneg (Int.le_of_lt hw)], by omega, hb, q⟩

/-- the code; what is made on the way stands beside -/
noncomputable def sp_code_of : Sp := fun vs H Q _ => ∃ (w : Nat) (bs : List Bool), vs = [.int (w : Int), .str (Bs.S bs)] ∧ 0 < w ∧ bs.length ≤ 300 ∧ ∀ H', Same H H' → Q (.str (Bs.S (Iv.code w bs))) H'

theorem sc_code_of : FnScope ["width", "bits", "low", "size", "whole"] ["width", "bits"] (defScope s_code_of) := ⟨rfl, rfl, rfl, by decide +kernel, rfl, by decide +kernel, by decide +kernel⟩
theorem ok_code_of (T : Tx P K mg) : FnOk P w K mg base CX0 5 T.code_of.a T.code_of.d ["width", "bits"] (sp_code_of) := by
  refine T.code_of.f.ok sc_code_of (fun vs H Q E h => ?_) (fun cdv A outer s H vs Q E hr h => ⟨_, pss_cons (ps_asg (pe_call (ok_interval T) (hr.mono (by decide)) rfl T.interval.g T.interval.f.kp T.interval.b .nil pass0 (pa_cons (pv 0) (pa_cons (pv 1) pa_nil))) (pg_tup rfl (pgs_cons (pg_name (i := 2) sc_code_of.nd rfl (Or.inl rfl)) (pgs_cons (pg_name (i := 3) sc_code_of.nd rfl (Or.inl rfl)) (pgs_cons (pg_name (i := 4) sc_code_of.nd rfl (Or.inl rfl)) pgs_nil)))))
      (pss_one (ps_ret (pe_call (ok_shortest_cell T) (hr.mono (by decide)) rfl T.shortest_cell.g T.shortest_cell.f.kp T.shortest_cell.b .nil pass0 (pa_cons (pv 2) (pa_cons (pv 3) (pa_cons (pv 4) pa_nil)))))), ?_⟩)
  · obtain ⟨w, bs, rfl, _⟩ := h
    rfl
  · skip
    obtain ⟨w, bs, rfl, hw, hb, q⟩ := h
    walk_at "go"
    refine cp_interval (by omega) (by omega) fun p H1 s1 h1 => ?_
    rw [Int.toNat_natCast] at h1
    refine Gx.gtup (SqT.of h1) rfl ?_
    walk_at "go"
    refine cp_shortest_cell (Iv.sz_pos w bs) (Iv.lo_sz w bs) (Iv.wh_pow hb) ?_
    exact q H1 s1

theorem cp_code_of {w : Int} {bs : List Bool} {H : Hp} {Q : VK} {E : XK} (hw : 0 < w) (hb : bs.length ≤ 300) (q : ∀ H', Same H H' → Q (.str (Bs.S (Iv.code w.toNat bs))) H') : Gx.CP sp_code_of [.int w, .str (Bs.S bs)] [] H Q E :=
  ⟨w.toNat, bs, by rw [List.append_nil, Int.toNat_of_nonneg (Int.le_of_lt hw)], by omega, hb, q⟩

noncomputable def sp_opens : Sp := fun vs H Q _ => ∃ (w : Nat) (bs cs : List Bool), vs = [.int (w : Int), .str (Bs.S cs), .str (Bs.S bs)] ∧ 0 < w ∧ bs.length ≤ 300 ∧ ∀ H', Same H H' → Q (.bl (Txt.startswith (Bs.S (Iv.code w bs)) (Bs.S cs))) H'

theorem sc_opens : FnScope ["width", "code", "bits"] ["width", "code", "bits"] (defScope s_opens) := ⟨rfl, rfl, rfl, by decide +kernel, rfl, by decide +kernel, by decide +kernel⟩
theorem ok_opens (T : Tx P K mg) : FnOk P w K mg base CX0 6 T.opens.a T.opens.d ["width", "code", "bits"] (sp_opens) := by
  refine T.opens.f.ok sc_opens (fun vs H Q E h => ?_) (fun cdv A outer s H vs Q E hr h => ⟨_, pss_one (ps_ret (pe_m1 PySem.F.slot_str_startswith PySem.F.type_str_startswith mt_startswith (pe_call (ok_code_of T) (hr.mono (by decide)) rfl T.code_of.g T.code_of.f.kp T.code_of.b .nil pass0 (pa_cons (pv 0) (pa_cons (pv 2) pa_nil))) (pv 1))), ?_⟩)
  · obtain ⟨w, bs, cs, rfl, _⟩ := h
    rfl
  · skip
    obtain ⟨w, bs, cs, rfl, hw, hb, q⟩ := h
    walk_at "go"
    refine cp_code_of (w := (w : Int)) (by omega) hb fun H1 s1 => ?_
    rw [Int.toNat_natCast]
    walk_at "go"
    exact ⟨_, _, rfl, rfl, q _ s1⟩

theorem cp_opens {w : Int} {bs cs : List Bool} {H : Hp} {Q : VK} {E : XK} (hw : 0 < w) (hb : bs.length ≤ 300) (q : ∀ H', Same H H' → Q (.bl (Txt.startswith (Bs.S (Iv.code w.toNat bs)) (Bs.S cs))) H') : Gx.CP sp_opens [.int w, .str (Bs.S cs), .str (Bs.S bs)] [] H Q E :=
  ⟨w.toNat, bs, cs, by rw [List.append_nil, Int.toNat_of_nonneg (Int.le_of_lt hw)], by omega, hb, q⟩

noncomputable def sp_first_with_one : Sp := fun vs H Q _ => ∃ (p : List Bool) (n : Nat), vs = [.str (Bs.S p), .int (n : Int)] ∧ p.length ≤ 1000 ∧ n ≤ 1000 ∧ Q (.str (Bs.S (p ++ true :: List.replicate n false))) H

theorem sc_first_with_one : FnScope ["bits", "more"] ["bits", "more"] (defScope s_first_with_one) := ⟨rfl, rfl, rfl, by decide +kernel, rfl, by decide +kernel, by decide +kernel⟩
theorem ok_first_with_one (T : Tx P K mg) : FnOk P w K mg base CX0 1 T.first_with_one.a T.first_with_one.d ["bits", "more"] (sp_first_with_one) := by
  refine T.first_with_one.f.ok sc_first_with_one (fun vs H Q E h => ?_) (fun cdv A outer s H vs Q E hr h => ⟨_, pss_one (ps_ret (pe_op Gx.o_addS (pe_op Gx.o_addS (pv 0) (pe_str)) (pe_op Mu.o_mulS (pe_str) (pv 1)))), ?_⟩)
  · obtain ⟨p, n, rfl, _⟩ := h
    rfl
  · skip
    obtain ⟨p, n, rfl, hp, hn, q⟩ := h
    walk_at "go"
    rw [Bs.lit0]
    refine Gx.addS (by rw [Bs.len]; try rw [Bs.lit1]; 
                       rw [Bs.len, sizeLine_eq]; show _ + 1 ≤ _; omega) ?_
    try rw [Bs.lit1]
    rw [Bs.cat]
    walk_at "go"
    refine Mu.mulB (by decide) (by omega) ?_
    refine Gx.addS (by rw [Bs.len, Bs.len, Mu.flat1, List.length_append, List.length_replicate, sizeLine_eq]; show _ + 1 + _ ≤ _; omega) ?_
    rw [Bs.cat, Mu.flat1, List.append_assoc]
    exact q

theorem cp_first_with_one {p : List Bool} {n : Int} {H : Hp} {Q : VK} {E : XK} (hp : p.length ≤ 1000) (h0 : 0 ≤ n) (hn : n ≤ 1000) (q : Q (.str (Bs.S (p ++ true :: List.replicate n.toNat false))) H) : Gx.CP sp_first_with_one [.str (Bs.S p), .int n] [] H Q E := ⟨p, n.toNat, by rw [List.append_nil, Int.toNat_of_nonneg h0], hp, by omega, q⟩

noncomputable def sp_last_with_zero : Sp := fun vs H Q _ => ∃ (p : List Bool) (n : Nat), vs = [.str (Bs.S p), .int (n : Int)] ∧ p.length ≤ 1000 ∧ n ≤ 1000 ∧ Q (.str (Bs.S (p ++ false :: List.replicate n true))) H

theorem sc_last_with_zero : FnScope ["bits", "more"] ["bits", "more"] (defScope s_last_with_zero) := ⟨rfl, rfl, rfl, by decide +kernel, rfl, by decide +kernel, by decide +kernel⟩
theorem ok_last_with_zero (T : Tx P K mg) : FnOk P w K mg base CX0 1 T.last_with_zero.a T.last_with_zero.d ["bits", "more"] (sp_last_with_zero) := by
  refine T.last_with_zero.f.ok sc_last_with_zero (fun vs H Q E h => ?_) (fun cdv A outer s H vs Q E hr h => ⟨_, pss_one (ps_ret (pe_op Gx.o_addS (pe_op Gx.o_addS (pv 0) (pe_str)) (pe_op Mu.o_mulS (pe_str) (pv 1)))), ?_⟩)
  · obtain ⟨p, n, rfl, _⟩ := h
    rfl
  · skip
    obtain ⟨p, n, rfl, hp, hn, q⟩ := h
    walk_at "go"
    rw [Bs.lit0]
    refine Gx.addS (by rw [Bs.len]; try rw [Bs.lit1]; 
                       rw [Bs.len, sizeLine_eq]; show _ + 1 ≤ _; omega) ?_
    try rw [Bs.lit1]
    rw [Bs.cat]
    walk_at "go"
    refine Mu.mulB (by decide) (by omega) ?_
    refine Gx.addS (by rw [Bs.len, Bs.len, Mu.flat1, List.length_append, List.length_replicate, sizeLine_eq]; show _ + 1 + _ ≤ _; omega) ?_
    rw [Bs.cat, Mu.flat1, List.append_assoc]
    exact q

theorem cp_last_with_zero {p : List Bool} {n : Int} {H : Hp} {Q : VK} {E : XK} (hp : p.length ≤ 1000) (h0 : 0 ≤ n) (hn : n ≤ 1000) (q : Q (.str (Bs.S (p ++ false :: List.replicate n.toNat true))) H) : Gx.CP sp_last_with_zero [.str (Bs.S p), .int n] [] H Q E := ⟨p, n.toNat, by rw [List.append_nil, Int.toNat_of_nonneg h0], hp, by omega, q⟩

noncomputable def sp_next_bits : Sp := fun vs H Q _ => ∃ (w m : Nat) (c p : List Bool), vs = [.int (w : Int), .int (m : Int), .str (Bs.S c), .str (Bs.S p)] ∧ 0 < w ∧ p.length < m ∧ m ≤ 256 ∧
  ∀ (r : Addr) H', H r = none → Same H H' → H' r = some (.lst ((if c <+: Iv.code w (Kn.lower m p) then [V.str (Bs.S [false])] else []) ++ (if c <+: Iv.code w (Kn.upper m p) then [V.str (Bs.S [true])] else []))) → Q (.ref r) H'

theorem sc_next_bits : FnScope ["width", "count", "code", "bits", "more", "found"] ["width", "count", "code", "bits"] (defScope s_next_bits) := ⟨rfl, rfl, rfl, by decide +kernel, rfl, by decide +kernel, by decide +kernel⟩
theorem ok_next_bits (T : Tx P K mg) : FnOk P w K mg base CX0 7 T.next_bits.a T.next_bits.d ["width", "count", "code", "bits"] (sp_next_bits) := by
  refine T.next_bits.f.ok sc_next_bits (fun vs H Q E h => ?_) (fun cdv A outer s H vs Q E hr h => ⟨_, pss_cons (ps_set (i := 4) sc_next_bits.nd rfl (Or.inl rfl) (pe_op op_sub (pe_op op_sub (pv 1) (pe_callB (Gx.c_lenK (K := K) rfl) rfl T.n_len (by decide +kernel) (pa_cons (pv 3) pa_nil))) (pe_int)))
      (pss_cons (ps_set (i := 5) sc_next_bits.nd rfl (Or.inl rfl) (pe_lst pa_nil))
      (pss_cons (ps_if (pt_val (pe_call (ok_opens T) (hr.mono (by decide)) rfl T.opens.g T.opens.f.kp T.opens.b .nil pass0 (pa_cons (pv 0) (pa_cons (pv 2) (pa_cons (pe_call (ok_last_with_zero T) (hr.mono (by decide)) rfl T.last_with_zero.g T.last_with_zero.f.kp T.last_with_zero.b .nil pass0 (pa_cons (pv 3) (pa_cons (pv 4) pa_nil))) pa_nil))))) (pss_one (ps_expr (pe_bm PySem.F.plainAttrs_list PySem.F.slot_list_append PySem.F.type_list_append mt_append (pv 5) (pa_cons (pe_str) pa_nil)))) (pss_nil))
      (pss_cons (ps_if (pt_val (pe_call (ok_opens T) (hr.mono (by decide)) rfl T.opens.g T.opens.f.kp T.opens.b .nil pass0 (pa_cons (pv 0) (pa_cons (pv 2) (pa_cons (pe_call (ok_first_with_one T) (hr.mono (by decide)) rfl T.first_with_one.g T.first_with_one.f.kp T.first_with_one.b .nil pass0 (pa_cons (pv 3) (pa_cons (pv 4) pa_nil))) pa_nil))))) (pss_one (ps_expr (pe_bm PySem.F.plainAttrs_list PySem.F.slot_list_append PySem.F.type_list_append mt_append (pv 5) (pa_cons (pe_str) pa_nil)))) (pss_nil))
      (pss_one (ps_ret (pv 5)))))), ?_⟩)
  · obtain ⟨w, m, c, p, rfl, _⟩ := h
    rfl
  · skip
    obtain ⟨w, m, c, p, rfl, hw, hp, hm, q⟩ := h
    walk_at "go"
    refine Bs.lenB (by omega) ?_
    walk_at "go"
    refine Gx.lstP (Nat.zero_le _) fun r hr => ?_
    walk_at "go"
    have em : ((m : Int) - (p.length : Int) - 1).toNat = m - p.length - 1 := by omega
    have ll := Kn.lower_len hp
    have lu := Kn.upper_len hp
    refine cp_last_with_zero (by omega) (by omega) (by omega) ?_
    rw [em]
    walk_at "go"
    refine cp_opens (bs := Kn.lower m p) (by omega) (by omega) fun H1 s1 => ?_
    rw [Int.toNat_natCast, Kn.sw]
    have k1 := s1 _ _ (upd_same (H := H) (a := r) (o := .lst []))
    have s0 : Same H H1 := (Gx.same_new hr).trans s1
    walk_at "go"
    have rest : ∀ (xs : List V) (H2 : Hp), H2 r = some (.lst xs) → Same H H2 → xs.length ≤ 1 → (∀ (H' : Hp), Same H H' → H' r = some (.lst (xs ++ (if c <+: Iv.code w (Kn.upper m p) then [V.str (Bs.S [true])] else []))) → Q (.ref r) H') → Q (.ref r) H2 ∨ True := fun _ _ _ _ _ _ => .inr trivial
    refine Gx.if_d (fun h1 => ?_) (fun h1 => ?_)
    · walk_at "go"
      refine Gx.bmS (Gx.tyL (SqL.of k1)) ?_
      walk_at "go"
      refine Gx.app k1 (by rw [sizeLine_eq]; show 0 < _; omega) ?_
      walk_at "go"
      have k2 : upd H1 r (.lst ([] ++ [V.str (Str.ofString "0")])) r = some (.lst [V.str (Bs.S [false])]) := by rw [upd_same, ← Bs.lit0]; rfl
      have s2 := Gx.same_up (o := .lst ([] ++ [V.str (Str.ofString "0")])) hr s0
      generalize upd H1 r (.lst ([] ++ [V.str (Str.ofString "0")])) = H2 at k2 s2
      refine cp_first_with_one (by omega) (by omega) (by omega) ?_
      rw [em]
      walk_at "go"
      refine cp_opens (bs := Kn.upper m p) (by omega) (by omega) fun H3 s3 => ?_
      rw [Int.toNat_natCast, Kn.sw]
      have k3 := s3 _ _ k2
      walk_at "go"
      refine Gx.if_d (fun h2 => ?_) (fun h2 => ?_)
      · walk_at "go"
        refine Gx.bmS (Gx.tyL (SqL.of k3)) ?_
        walk_at "go"
        refine Gx.app k3 (by rw [sizeLine_eq]; show 1 < _; omega) ?_
        walk_at "go"
        refine q r _ hr (Gx.same_up hr (s2.trans s3)) ?_
        rw [if_pos h1, if_pos h2, upd_same, Bs.lit1]
      · walk_at "go"
        refine q r _ hr (s2.trans s3) ?_
        rw [if_pos h1, if_neg h2, k3]; rfl
    · walk_at "go"
      refine cp_first_with_one (by omega) (by omega) (by omega) ?_
      rw [em]
      walk_at "go"
      refine cp_opens (bs := Kn.upper m p) (by omega) (by omega) fun H3 s3 => ?_
      rw [Int.toNat_natCast, Kn.sw]
      have k3 := s3 _ _ k1
      walk_at "go"
      refine Gx.if_d (fun h2 => ?_) (fun h2 => ?_)
      · walk_at "go"
        refine Gx.bmS (Gx.tyL (SqL.of k3)) ?_
        walk_at "go"
        refine Gx.app k3 (by rw [sizeLine_eq]; show 0 < _; omega) ?_
        walk_at "go"
        refine q r _ hr (Gx.same_up hr (s0.trans s3)) ?_
        rw [if_neg h1, if_pos h2, upd_same, Bs.lit1]
      · walk_at "go"
        refine q r _ hr (s0.trans s3) ?_
        rw [if_neg h1, if_neg h2, k3]; rfl

theorem cp_next_bits {w m : Nat} {c p : List Bool} {H : Hp} {Q : VK} {E : XK} (hw : 0 < w) (hp : p.length < m) (hm : m ≤ 256)
    (q : ∀ (r : Addr) H', H r = none → Same H H' → H' r = some (.lst ((if c <+: Iv.code w (Kn.lower m p) then [V.str (Bs.S [false])] else []) ++ (if c <+: Iv.code w (Kn.upper m p) then [V.str (Bs.S [true])] else []))) → Q (.ref r) H') : Gx.CP sp_next_bits [.int (w : Int), .int (m : Int), .str (Bs.S c), .str (Bs.S p)] [] H Q E := ⟨w, m, c, p, rfl, hw, hp, hm, q⟩

noncomputable def sp_Coding_shares (C : Addr) : Sp := fun vs H Q _ => ∃ (x z o : Addr) (w : Nat) (bs : List Bool), vs = [.ref x] ∧ Cod C H x z o w bs ∧ 0 < w ∧ bs.length ≤ 100000 ∧
  ∀ (p : Addr), H p = none → Q (.ref p) (upd H p (.tup [.int (Iv.zs w bs (Iv.nx w bs) : Nat), .int (Iv.os w bs (Iv.nx w bs) : Nat)]))

theorem sc_Coding_shares : FnScope ["self", "here"] ["self"] (defScope s_Coding_shares) := ⟨rfl, rfl, rfl, by decide +kernel, rfl, by decide +kernel, by decide +kernel⟩
theorem ok_Coding_shares (T : Tx P K mg) : FnOk P w K mg base CX0 2 T.Coding_shares.a T.Coding_shares.d ["self"] (sp_Coding_shares T.a_Coding) := by
  refine T.Coding_shares.f.ok sc_Coding_shares (fun vs H Q E h => ?_) (fun cdv A outer s H vs Q E hr h => ⟨_, pss_cons (ps_set (i := 1) sc_Coding_shares.nd rfl (Or.inl rfl) (pe_call (ok_context T) (hr.mono (by decide)) rfl T.context.g T.context.f.kp T.context.b .nil pass0 (pa_cons (pe_fld (pv 0) rfl) (pa_cons (pe_fld (pv 0) rfl) (pa_cons (pe_callB (Gx.c_lenK (K := K) rfl) rfl T.n_len (by decide +kernel) (pa_cons (pe_fld (pv 0) rfl) pa_nil)) pa_nil)))))
      (pss_one (ps_ret (pe_tup (pa_cons (pe_ix (Gx.ix_seqK (K := K) rfl) (pe_fld (pv 0) rfl) (pv 1) (fun _ _ => rfl)) (pa_cons (pe_ix (Gx.ix_seqK (K := K) rfl) (pe_fld (pv 0) rfl) (pv 1) (fun _ _ => rfl)) pa_nil))))), ?_⟩)
  · obtain ⟨x, z, o, w, bs, rfl, _⟩ := h
    rfl
  · skip
    obtain ⟨x, z, o, w, bs, rfl, ⟨⟨dx, hx⟩, hz, ho, hzo⟩, hw, hb, q⟩ := h
    walk_at "go"
    refine Bs.lenB (by omega) ?_
    walk_at "go"
    refine cp_context (by omega) (by omega) (by omega) hb ?_
    rw [Int.toNat_natCast, Int.toNat_natCast]
    walk_at "go"
    refine Gx.ixL (SqL.of hz) nx_at ?_
    walk_at "go"
    refine Gx.ixL (SqL.of ho) nx_at ?_
    walk_at "go"
    exact Gx.tupP (by show 2 ≤ sizeLine; decide) q

theorem cp_Coding_shares {C x z o : Addr} {w : Nat} {bs : List Bool} {H : Hp} {Q : VK} {E : XK} (c : Cod C H x z o w bs) (hw : 0 < w) (hb : bs.length ≤ 100000)
    (q : ∀ (p : Addr), H p = none → Q (.ref p) (upd H p (.tup [.int (Iv.zs w bs (Iv.nx w bs) : Nat), .int (Iv.os w bs (Iv.nx w bs) : Nat)]))) : Gx.CP (sp_Coding_shares C) [.ref x] [] H Q E := ⟨x, z, o, w, bs, rfl, c, hw, hb, q⟩

noncomputable def sp_Coding_border (C : Addr) : Sp := fun vs H Q _ => ∃ (x z o : Addr) (w : Nat) (bs : List Bool), vs = [.ref x] ∧ Cod C H x z o w bs ∧ 0 < w ∧ bs.length ≤ 100000 ∧
  ∀ (p : Addr) H', Same H H' → H p = none → H' p = some (.tup [.int (Kn.tp w bs : Nat), .int (Kn.bt w bs : Nat)]) → Q (.ref p) H'

theorem sc_Coding_border : FnScope ["self", "zeros", "ones", "both"] ["self"] (defScope s_Coding_border) := ⟨rfl, rfl, rfl, by decide +kernel, rfl, by decide +kernel, by decide +kernel⟩
theorem ok_Coding_border (T : Tx P K mg) : FnOk P w K mg base CX0 3 T.Coding_border.a T.Coding_border.d ["self"] (sp_Coding_border T.a_Coding) := by
  refine T.Coding_border.f.ok sc_Coding_border (fun vs H Q E h => ?_) (fun cdv A outer s H vs Q E hr h => ⟨_, pss_cons (ps_asg (pe_meth0 (pv 0) T.cl_Coding T.Coding_shares.m (ok_Coding_shares T) (hr.mono (by decide)) T.Coding_shares.b .nil pass0) (pg_tup rfl (pgs_cons (pg_name (i := 1) sc_Coding_border.nd rfl (Or.inl rfl)) (pgs_cons (pg_name (i := 2) sc_Coding_border.nd rfl (Or.inl rfl)) pgs_nil))))
      (pss_cons (ps_set (i := 3) sc_Coding_border.nd rfl (Or.inl rfl) (pe_op op_add (pv 1) (pv 2)))
      (pss_one (ps_ret (pe_tup (pa_cons (pe_op op_add (pe_op op_mul (pe_fld (pv 0) rfl) (pv 3)) (pe_op op_mul (pe_fld (pv 0) rfl) (pv 1))) (pa_cons (pe_op op_mul (pe_fld (pv 0) rfl) (pv 3)) pa_nil)))))), ?_⟩)
  · obtain ⟨x, z, o, w, bs, rfl, _⟩ := h
    rfl
  · skip
    obtain ⟨x, z, o, w, bs, rfl, cod, hw, hb, q⟩ := h
    obtain ⟨dx, hx⟩ := cod.ob
    have hzl := (Iv.zs_le w bs (Iv.nx w bs))
    have hol := (Iv.os_le w bs (Iv.nx w bs))
    walk_at "go"
    refine Gx.mp hx no_Coding_shares ?_
    walk_at "go"
    refine cp_Coding_shares cod hw hb fun ps hps => ?_
    have s1 := Gx.same_new (o := .tup [.int (Iv.zs w bs (Iv.nx w bs) : Nat), .int (Iv.os w bs (Iv.nx w bs) : Nat)]) hps
    refine Gx.gtup (SqT.of upd_same) rfl ?_
    have hx := s1 _ _ hx
    walk_at "go"
    refine Gx.ic (.inr (by omega)) ?_
    walk_at "go"
    refine Gx.ic (.inr (by omega)) ?_
    walk_at "go"
    refine Gx.ic (.inr (by omega)) ?_
    walk_at "go"
    refine Gx.tupP (by show 2 ≤ sizeLine; decide) fun p hp => ?_
    refine q p _ (s1.trans (Gx.same_new hp)) (s1.free hp) ?_
    rw [upd_same]
    simp only [Kn.tp, Kn.bt, Iv.both, Int.natCast_mul, Int.natCast_add]

theorem cp_Coding_border {C x z o : Addr} {w : Nat} {bs : List Bool} {H : Hp} {Q : VK} {E : XK} (c : Cod C H x z o w bs) (hw : 0 < w) (hb : bs.length ≤ 100000)
    (q : ∀ (p : Addr) H', Same H H' → H p = none → H' p = some (.tup [.int (Kn.tp w bs : Nat), .int (Kn.bt w bs : Nat)]) → Q (.ref p) H') : Gx.CP (sp_Coding_border C) [.ref x] [] H Q E := ⟨x, z, o, w, bs, rfl, c, hw, hb, q⟩

noncomputable def sp_bit_of_cell (C : Addr) : Sp := fun vs H Q _ => ∃ (x z o : Addr) (w : Nat) (bs c : List Bool), vs = [.ref x, .str (Bs.S c), .int (I2.val c : Nat)] ∧ Cod C H x z o w bs ∧ 0 < w ∧ bs.length ≤ 290 ∧ c.length ≤ 1000 ∧
  ∀ H', Same H H' → ((I2.val c + 1) * Kn.bt w bs ≤ Kn.tp w bs * 2 ^ c.length → Q (.str (Bs.S [false])) H') ∧ (¬ (I2.val c + 1) * Kn.bt w bs ≤ Kn.tp w bs * 2 ^ c.length → Kn.tp w bs * 2 ^ c.length ≤ I2.val c * Kn.bt w bs → Q (.str (Bs.S [true])) H') ∧
    (¬ (I2.val c + 1) * Kn.bt w bs ≤ Kn.tp w bs * 2 ^ c.length → ¬ Kn.tp w bs * 2 ^ c.length ≤ I2.val c * Kn.bt w bs → Q .non H')

theorem sc_bit_of_cell : FnScope ["coding", "code", "value", "top", "bottom", "scaled"] ["coding", "code", "value"] (defScope s_bit_of_cell) := ⟨rfl, rfl, rfl, by decide +kernel, rfl, by decide +kernel, by decide +kernel⟩
theorem ok_bit_of_cell (T : Tx P K mg) : FnOk P w K mg base CX0 4 T.bit_of_cell.a T.bit_of_cell.d ["coding", "code", "value"] (sp_bit_of_cell T.a_Coding) := by
  refine T.bit_of_cell.f.ok sc_bit_of_cell (fun vs H Q E h => ?_) (fun cdv A outer s H vs Q E hr h => ⟨_, pss_cons (ps_asg (pe_meth0 (pv 0) T.cl_Coding T.Coding_border.m (ok_Coding_border T) (hr.mono (by decide)) T.Coding_border.b .nil pass0) (pg_tup rfl (pgs_cons (pg_name (i := 3) sc_bit_of_cell.nd rfl (Or.inl rfl)) (pgs_cons (pg_name (i := 4) sc_bit_of_cell.nd rfl (Or.inl rfl)) pgs_nil))))
      (pss_cons (ps_set (i := 5) sc_bit_of_cell.nd rfl (Or.inl rfl) (pe_op op_shlW (pv 3) (pe_callB (Gx.c_lenK (K := K) rfl) rfl T.n_len (by decide +kernel) (pa_cons (pv 1) pa_nil))))
      (pss_cons (ps_if (pt_cmpR op_le (pe_op op_mulW (pe_op op_add (pv 2) (pe_int)) (pv 4)) (pv 5) (nomark _)) (pss_one (ps_ret (pe_str))) (pss_nil))
      (pss_cons (ps_if (pt_cmpR op_le (pv 5) (pe_op op_mulW (pv 2) (pv 4)) (nomark _)) (pss_one (ps_ret (pe_str))) (pss_nil))
      (pss_one (ps_ret (pe_non)))))), ?_⟩)
  · obtain ⟨x, z, o, w, bs, c, rfl, _⟩ := h
    rfl
  · skip
    obtain ⟨x, z, o, w, bs, c, rfl, cod, hw, hb, hc, q⟩ := h
    obtain ⟨dx, hx⟩ := cod.ob
    walk_at "go"
    refine Gx.mp hx no_Coding_border ?_
    walk_at "go"
    refine cp_Coding_border cod hw (by omega) fun p H1 s1 hp0 hp => ?_
    refine Gx.gtup (SqT.of hp) rfl ?_
    obtain ⟨q1, q2, q3⟩ := q H1 s1
    have wl : ∀ {x : Nat} {k : Nat}, x < 2 ^ k → (x : Int).natAbs < 2 ^ k := fun h => by rw [Int.natAbs_natCast]; exact h
    have hzl := (Iv.zs_le w bs (Iv.nx w bs))
    have hol := (Iv.os_le w bs (Iv.nx w bs))
    have hwh := Iv.wh_pow (w := w) (bs := bs) (by omega)
    have hls := Iv.lo_sz w bs
    have b1 : Kn.bt w bs < 2 ^ 3010 := by
      have e : Kn.bt w bs ≤ 2 ^ 3000 * 1000 := by
        unfold Kn.bt Iv.both; exact Nat.mul_le_mul hwh (by omega)
      have e2 : (2 : Nat) ^ 3010 = 2 ^ 3000 * 1024 := by rw [show 3010 = 3000 + 10 from rfl, Nat.pow_add]
      have := Nat.two_pow_pos 3000
      omega
    have b2 : Kn.tp w bs < 2 ^ 3011 := by
      have e : Kn.tp w bs ≤ 2 ^ 3000 * 1000 := by
        unfold Kn.tp
        have e1 : Iv.lo w bs * Iv.both w bs ≤ Iv.lo w bs * 1000 := Nat.mul_le_mul_left _ (by unfold Iv.both; omega)
        have e2 : Iv.sz w bs * Iv.zs w bs (Iv.nx w bs) ≤ Iv.sz w bs * 1000 := Nat.mul_le_mul_left _ (by omega)
        have e3 : (Iv.lo w bs + Iv.sz w bs) * 1000 ≤ 2 ^ 3000 * 1000 := Nat.mul_le_mul_right _ (by omega)
        rw [Nat.add_mul] at e3; omega
      have e2 : (2 : Nat) ^ 3011 = 2 ^ 3000 * 2048 := by rw [show 3011 = 3000 + 11 from rfl, Nat.pow_add]
      have := Nat.two_pow_pos 3000
      omega
    have b3 : I2.val c + 1 < 2 ^ 1001 := by
      have e1 := Fb.val_lt c
      have e2 : 2 ^ c.length ≤ 2 ^ 1000 := Nat.pow_le_pow_right (by decide) hc
      have e3 : (2 : Nat) ^ 1001 = 2 ^ 1000 * 2 := rfl
      have := Nat.two_pow_pos 1000
      omega
    generalize Kn.tp w bs = top at *
    generalize Kn.bt w bs = bot at *
    generalize I2.val c = a at *
    walk_at "go"
    refine Bs.lenB (by omega) ?_
    refine Gx.ic (shl_ok (n := 3011) (wl b2) (by omega)) ?_
    walk_at "go"
    rw [Int.toNat_natCast]
    refine Gx.ic (wide_mul (a := 1001) (b := 3010) (wl (x := a + 1) b3) (wl b1) (by decide) (by decide) (by decide)) ?_
    walk_at "go"
    have f1 : decide (((a : Int) + 1) * (bot : Int) ≤ (top : Int) * 2 ^ c.length) = decide ((a + 1) * bot ≤ top * 2 ^ c.length) := by
      refine decide_eq_decide.mpr ?_
      rw [show ((a : Int) + 1) * (bot : Int) = (((a + 1) * bot : Nat) : Int) by rw [Int.natCast_mul]; rfl, show (top : Int) * 2 ^ c.length = ((top * 2 ^ c.length : Nat) : Int) by rw [Int.natCast_mul, Int.natCast_pow]; rfl]
      exact Int.ofNat_le
    have f2 : decide ((top : Int) * 2 ^ c.length ≤ (a : Int) * (bot : Int)) = decide (top * 2 ^ c.length ≤ a * bot) := by
      refine decide_eq_decide.mpr ?_
      rw [show (a : Int) * (bot : Int) = ((a * bot : Nat) : Int) by rw [Int.natCast_mul], show (top : Int) * 2 ^ c.length = ((top * 2 ^ c.length : Nat) : Int) by rw [Int.natCast_mul, Int.natCast_pow]; rfl]
      exact Int.ofNat_le
    rw [f1]
    refine Gx.if_d (fun h1 => ?_) (fun h1 => ?_)
    · walk_at "go"
      rw [Bs.lit0]
      exact q1 h1
    walk_at "go"
    refine Gx.ic (wide_mul (a := 1001) (b := 3010) (wl (x := a) (by omega)) (wl b1) (by decide) (by decide) (by decide)) ?_
    walk_at "go"
    rw [f2]
    refine Gx.if_d (fun h2 => ?_) (fun h2 => ?_)
    · walk_at "go"
      rw [Bs.lit1]
      exact q2 h1 h2
    walk_at "go"
    exact q3 h1 h2

theorem cp_bit_of_cell {C x z o : Addr} {w : Nat} {bs c : List Bool} {H : Hp} {Q : VK} {E : XK} (cod : Cod C H x z o w bs) (hw : 0 < w) (hb : bs.length ≤ 290) (hc : c.length ≤ 1000)
    (q : ∀ H', Same H H' → ((I2.val c + 1) * Kn.bt w bs ≤ Kn.tp w bs * 2 ^ c.length → Q (.str (Bs.S [false])) H') ∧ (¬ (I2.val c + 1) * Kn.bt w bs ≤ Kn.tp w bs * 2 ^ c.length → Kn.tp w bs * 2 ^ c.length ≤ I2.val c * Kn.bt w bs → Q (.str (Bs.S [true])) H') ∧
    (¬ (I2.val c + 1) * Kn.bt w bs ≤ Kn.tp w bs * 2 ^ c.length → ¬ Kn.tp w bs * 2 ^ c.length ≤ I2.val c * Kn.bt w bs → Q .non H')) : Gx.CP (sp_bit_of_cell C) [.ref x, .str (Bs.S c), .int (I2.val c : Nat)] [] H Q E := ⟨x, z, o, w, bs, c, rfl, cod, hw, hb, hc, q⟩

noncomputable def sp_number_of : Sp := fun vs H Q _ => ∃ (bs : List Bool), vs = [.str (Bs.S bs)] ∧ bs.length ≤ 600 ∧ Q (.int (I2.val bs : Nat)) H

theorem sc_number_of : FnScope ["digits"] ["digits"] (defScope s_number_of) := ⟨rfl, rfl, rfl, by decide +kernel, rfl, by decide +kernel, by decide +kernel⟩
theorem ok_number_of (T : Tx P K mg) : FnOk P w K mg base CX0 1 T.number_of.a T.number_of.d ["digits"] (sp_number_of) := by
  refine T.number_of.f.ok sc_number_of (fun vs H Q E h => ?_) (fun cdv A outer s H vs Q E hr h => ⟨_, pss_one (ps_ret (pe_callTy I2.c_int2 rfl T.n_int (by decide +kernel) (pa_cons (pe_op Gx.o_addS (pe_str) (pv 0)) (pa_cons (pe_int) pa_nil)))), ?_⟩)
  · obtain ⟨bs, rfl, _⟩ := h
    rfl
  · skip
    obtain ⟨bs, rfl, hb, q⟩ := h
    walk_at "go"
    rw [Bs.lit0]
    refine Gx.addS (by rw [Bs.len, Bs.len, sizeLine_eq]; show 1 + _ ≤ _; omega) ?_
    rw [Bs.cat]
    walk_at "go"
    refine Fb.int2 (by intro h; cases h) (by rw [List.length_append]; show 1 + _ ≤ _; omega) ?_
    exact q

theorem cp_number_of {bs : List Bool} {H : Hp} {Q : VK} {E : XK} (hb : bs.length ≤ 600) (q : Q (.int (I2.val bs : Nat)) H) : Gx.CP sp_number_of [.str (Bs.S bs)] [] H Q E := ⟨bs, rfl, hb, q⟩

noncomputable def pfV : Option (List Bool) → V
  | none => .non
  | some p => .str (Bs.S p)
noncomputable def sp_prefix_of (C : Addr) : Sp := fun vs H Q _ => ∃ (w m : Nat) (c : List Bool), vs = [.int (w : Int), .int (m : Int), .str (Bs.S c)] ∧ 0 < w ∧ m ≤ 256 ∧ c.length ≤ 100000 ∧
  ∀ (r : Option (List Bool)) H', Same H H' → Kn.Known w m c r → Q (pfV r) H'

theorem sc_prefix_of : FnScope ["width", "count", "code", "value", "coding", "bit", "found"] ["width", "count", "code"] (defScope s_prefix_of) := ⟨rfl, rfl, rfl, by decide +kernel, rfl, by decide +kernel, by decide +kernel⟩
theorem ok_prefix_of (T : Tx P K mg) : FnOk P w K mg base CX0 8 T.prefix_of.a T.prefix_of.d ["width", "count", "code"] (sp_prefix_of T.a_Coding) := by
  refine T.prefix_of.f.ok sc_prefix_of (fun vs H Q E h => ?_) (fun cdv A outer s H vs Q E hr h => ⟨_, pss_cons (ps_if (pt_cmpR op_ge (pe_op op_mul (pe_int) (pe_callB (Gx.c_lenK (K := K) rfl) rfl T.n_len (by decide +kernel) (pa_cons (pv 2) pa_nil))) (pe_op op_add (pe_op op_mul (pe_int) (pv 1)) (pe_int)) (nomark _)) (pss_one (ps_ret (pe_non))) (pss_nil))
      (pss_cons (ps_set (i := 3) sc_prefix_of.nd rfl (Or.inl rfl) (pe_call (ok_number_of T) (hr.mono (by decide)) rfl T.number_of.g T.number_of.f.kp T.number_of.b .nil pass0 (pa_cons (pv 2) pa_nil)))
      (pss_cons (ps_set (i := 4) sc_prefix_of.nd rfl (Or.inl rfl) (pe_make ⟨T.mk_Coding, T.Coding___init__.m.at_, T.Coding___init__.m.fn, T.kp_Coding⟩ (ok_Coding___init__ T) (hr.mono (by decide)) rfl T.g_Coding T.Coding___init__.b .nil pass0 (pa_cons (pv 0) pa_nil)))
      (pss_cons (ps_while PassesOwn.never (pt_cmpR op_lt (pe_callB (Gx.c_lenK (K := K) rfl) rfl T.n_len (by decide +kernel) (pa_cons (pe_fld (pv 4) rfl) pa_nil)) (pv 1) (nomark _))
      (pss_cons (ps_set (i := 5) sc_prefix_of.nd rfl (Or.inl rfl) (pe_call (ok_bit_of_cell T) (hr.mono (by decide)) rfl T.bit_of_cell.g T.bit_of_cell.f.kp T.bit_of_cell.b .nil pass0 (pa_cons (pv 4) (pa_cons (pv 2) (pa_cons (pv 3) pa_nil)))))
      (pss_cons (ps_if (pt_cmpR op_isN (pv 5) (pe_non) (nomark _)) (pss_cons (ps_set (i := 6) sc_prefix_of.nd rfl (Or.inl rfl) (pe_call (ok_next_bits T) (hr.mono (by decide)) rfl T.next_bits.g T.next_bits.f.kp T.next_bits.b .nil pass0 (pa_cons (pv 0) (pa_cons (pv 1) (pa_cons (pv 2) (pa_cons (pe_fld (pv 4) rfl) pa_nil))))))
      (pss_cons (ps_if (pt_cmpR op_eq (pe_callB (Gx.c_lenK (K := K) rfl) rfl T.n_len (by decide +kernel) (pa_cons (pv 6) pa_nil)) (pe_int) (nomark _)) (pss_one (ps_ret (pe_fld (pv 4) rfl))) (pss_nil))
      (pss_cons (ps_if (pt_cmpR op_eq (pe_callB (Gx.c_lenK (K := K) rfl) rfl T.n_len (by decide +kernel) (pa_cons (pv 6) pa_nil)) (pe_int) (nomark _)) (pss_one (ps_ret (pe_non))) (pss_nil))
      (pss_one (ps_set (i := 5) sc_prefix_of.nd rfl (Or.inl rfl) (pe_ix (Gx.ix_seqK (K := K) rfl) (pv 6) (pe_int) (fun _ _ => rfl))))))) (pss_nil))
      (pss_one (ps_expr (pe_meth (pv 4) T.cl_Coding T.Coding_take.m (ok_Coding_take T) (hr.mono (by decide)) T.Coding_take.b .nil pass0 (pa_cons (pv 5) pa_nil)))))))
      (pss_one (ps_ret (pe_ifExp (pt_val (pe_call (ok_opens T) (hr.mono (by decide)) rfl T.opens.g T.opens.f.kp T.opens.b .nil pass0 (pa_cons (pv 0) (pa_cons (pv 2) (pa_cons (pe_fld (pv 4) rfl) pa_nil))))) (pe_fld (pv 4) rfl) (pe_non))))))), ?_⟩)
  · obtain ⟨w, m, c, rfl, _⟩ := h
    rfl
  · skip
    obtain ⟨w, m, c, rfl, hw, hm, hc, q⟩ := h
    walk_at "go"
    refine Bs.lenB (by omega) ?_
    refine Gx.ic (.inl (by decide)) ?_
    walk_at "go"
    refine Gx.ic (.inl (by decide)) ?_
    walk_at "go"
    refine Gx.if_d (fun hlong => ?_) (fun hlong => ?_)
    · walk_at "go"
      refine q none H (Same.refl H) fun bs hl hp => ?_
      have h1 := Iv.short (w := w) (bs := bs) hw
      have h2 := hp.length_le
      rw [Iv.code_len] at h2
      omega
    walk_at "go"
    refine cp_number_of (by omega) ?_
    walk_at "go"
    intro x dx hx hdx hne
    refine ⟨H, x, dx, w, rfl, upd_same, hw, Gx.same_up hx (Gx.same_new hdx), hx, fun z o H1 hz ho s1 c1 => ⟨rfl, ?_⟩⟩
    walk_at "go"
    refine Gx.whl (fun k σ' H' => ∃ (p : List Bool) (bv fv : Option V), k + p.length = m ∧ Same H H' ∧ Cod T.a_Coding H' x z o w p ∧ Kn.From w m c p ∧ σ' = [some (.int (w : Int)), some (.int (m : Int)), some (.str (Bs.S c)), some (.int (I2.val c : Nat)), some (.ref x), bv, fv]) m
      ⟨[], none, none, by simp, s1, c1, fun bs _ _ => List.nil_prefix, rfl⟩ ?_
    rintro k σ' H2 ⟨p, bv, fv, hkm, s2, c2, fr, rfl⟩
    obtain ⟨dx2, hx2⟩ := id c2.ob
    have hpm : p.length ≤ m := by omega
    walk_at "go"
    refine Bs.lenB (by omega) ?_
    walk_at "go"
    have keep : ∀ {H3 H4 : Hp}, Same H H3 → (∀ c, c ≠ x → c ≠ z → c ≠ o → H4 c = H3 c) → Same H H4 := fun s k a u ea => (k a (ne_of_none ea hx) (ne_of_none ea hz) (ne_of_none ea ho)).trans (s a u ea)
    refine Gx.whI_d (fun hlt => ?_) (fun hge => ?_)
    · have hlt2 : p.length < m := by omega
      walk_at "go"
      refine cp_bit_of_cell c2 hw (by omega) (by omega) fun H3 s3 => ⟨fun g1 => ?_, fun g1 g2 => ?_, fun g1 g2 => ?_⟩
      · walk_at "go"
        refine ⟨rfl, ?_⟩
        rw [decide_eq_false (by intro h; cases h)]
        walk_at "go"
        obtain ⟨dx3, hx3⟩ := (c2.keep s3).ob
        refine Gx.mp hx3 no_Coding_take ?_
        walk_at "go"
        refine cp_Coding_take (c2.keep s3) hw (by omega) fun H4 c4 k4 => ?_
        walk_at "go"
        refine ⟨k - 1, by omega, p ++ [false], _, _, by rw [List.length_append, List.length_singleton]; omega, keep (s2.trans s3) k4, c4, fun bs hl hc2 => ?_, rfl⟩
        rcases Kn.next_or (fr bs hl hc2) (by omega) with ⟨t, e⟩ | ⟨t, e⟩
        · rw [e]; exact Kn.pre_zero p t
        · rw [e] at hc2; exact absurd hc2 (Kn.no_one hw g1 t)
      · walk_at "go"
        refine ⟨rfl, ?_⟩
        rw [decide_eq_false (by intro h; cases h)]
        walk_at "go"
        obtain ⟨dx3, hx3⟩ := (c2.keep s3).ob
        refine Gx.mp hx3 no_Coding_take ?_
        walk_at "go"
        refine cp_Coding_take (c2.keep s3) hw (by omega) fun H4 c4 k4 => ?_
        walk_at "go"
        refine ⟨k - 1, by omega, p ++ [true], _, _, by rw [List.length_append, List.length_singleton]; omega, keep (s2.trans s3) k4, c4, fun bs hl hc2 => ?_, rfl⟩
        rcases Kn.next_or (fr bs hl hc2) (by omega) with ⟨t, e⟩ | ⟨t, e⟩
        · rw [e] at hc2; exact absurd hc2 (Kn.no_zero hw g2 t)
        · rw [e]; exact Kn.pre_one p t
      · walk_at "go"
        refine ⟨rfl, ?_⟩
        rw [decide_eq_true rfl]
        obtain ⟨dx3, hx3⟩ := id (c2.keep s3).ob
        walk_at "go"
        refine cp_next_bits hw hlt2 hm fun r H4 hr s4 hr4 => ?_
        have s34 := s3.trans s4
        have c4 := c2.keep s34
        obtain ⟨dx4, hx4⟩ := id c4.ob
        have lo1 : ∀ t, (p ++ false :: t).length = m → c <+: Iv.code w (p ++ false :: t) → c <+: Iv.code w (Kn.lower m p) := fun t hl => Kn.to_lower hw g1 hl
        have up1 : ∀ t, (p ++ true :: t).length = m → c <+: Iv.code w (p ++ true :: t) → c <+: Iv.code w (Kn.upper m p) := fun t hl => Kn.to_upper hw g2 hl
        walk_at "go"
        refine Gx.lenL (SqL.of hr4) ?_
        by_cases dl : c <+: Iv.code w (Kn.lower m p) <;> by_cases du : c <+: Iv.code w (Kn.upper m p)
        · rw [if_pos dl, if_pos du] at hr4 ⊢
          walk_at "go"
          refine Gx.if_dy (by decide) ?_
          walk_at "go"
          exact q (some p) H4 (s2.trans s34) ⟨hpm, fr, fun e => by omega, fun _ => ⟨dl, du⟩⟩
        · rw [if_pos dl, if_neg du] at hr4 ⊢
          walk_at "go"
          refine Gx.if_dno (by decide) ?_
          walk_at "go"
          refine Gx.lenL (SqL.of hr4) ?_
          walk_at "go"
          refine Gx.if_dno (by decide) ?_
          walk_at "go"
          refine Gx.ixL (SqL.of hr4) (at_of (j := 0) rfl rfl) ?_
          walk_at "go"
          refine Gx.mp hx4 no_Coding_take ?_
          walk_at "go"
          refine cp_Coding_take c4 hw (by omega) fun H5 c5 k5 => ?_
          walk_at "go"
          refine ⟨k - 1, by omega, p ++ [false], _, _, by rw [List.length_append, List.length_singleton]; omega, keep (s2.trans s34) k5, c5, fun bs hl hc2 => ?_, rfl⟩
          rcases Kn.next_or (fr bs hl hc2) (by omega) with ⟨t, e⟩ | ⟨t, e⟩
          · rw [e]; exact Kn.pre_zero p t
          · rw [e] at hc2 hl; exact absurd (up1 t hl hc2) du
        · rw [if_neg dl, if_pos du] at hr4 ⊢
          walk_at "go"
          refine Gx.if_dno (by decide) ?_
          walk_at "go"
          refine Gx.lenL (SqL.of hr4) ?_
          walk_at "go"
          refine Gx.if_dno (by decide) ?_
          walk_at "go"
          refine Gx.ixL (SqL.of hr4) (at_of (j := 0) rfl rfl) ?_
          walk_at "go"
          refine Gx.mp hx4 no_Coding_take ?_
          walk_at "go"
          refine cp_Coding_take c4 hw (by omega) fun H5 c5 k5 => ?_
          walk_at "go"
          refine ⟨k - 1, by omega, p ++ [true], _, _, by rw [List.length_append, List.length_singleton]; omega, keep (s2.trans s34) k5, c5, fun bs hl hc2 => ?_, rfl⟩
          rcases Kn.next_or (fr bs hl hc2) (by omega) with ⟨t, e⟩ | ⟨t, e⟩
          · rw [e] at hc2 hl; exact absurd (lo1 t hl hc2) dl
          · rw [e]; exact Kn.pre_one p t
        · rw [if_neg dl, if_neg du] at hr4 ⊢
          walk_at "go"
          refine Gx.if_dno (by decide) ?_
          walk_at "go"
          refine Gx.lenL (SqL.of hr4) ?_
          walk_at "go"
          refine Gx.if_dy (by decide) ?_
          walk_at "go"
          refine q none H4 (s2.trans s34) fun bs hl hc2 => ?_
          rcases Kn.next_or (fr bs hl hc2) (by omega) with ⟨t, e⟩ | ⟨t, e⟩
          · rw [e] at hc2 hl; exact dl (lo1 t hl hc2)
          · rw [e] at hc2 hl; exact du (up1 t hl hc2)
    · have epm : p.length = m := by omega
      walk_at "go"
      refine cp_opens (by omega) (by omega) fun H3 s3 => ?_
      rw [Int.toNat_natCast, Kn.sw]
      obtain ⟨dx3, hx3⟩ := (c2.keep s3).ob
      walk_at "go"
      refine Gx.if_d (fun h1 => ?_) (fun h1 => ?_)
      · walk_at "go"
        exact q (some p) H3 (s2.trans s3) ⟨hpm, fr, fun _ => h1, fun h => by omega⟩
      · walk_at "go"
        refine q none H3 (s2.trans s3) fun bs hl hc2 => ?_
        have e : p = bs := (fr bs hl hc2).eq_of_length (by omega)
        rw [← e] at hc2
        exact h1 hc2

theorem cp_prefix_of {C : Addr} {w m : Nat} {c : List Bool} {H : Hp} {Q : VK} {E : XK} (hw : 0 < w) (hm : m ≤ 256) (hc : c.length ≤ 100000) (q : ∀ (r : Option (List Bool)) H', Same H H' → Kn.Known w m c r → Q (pfV r) H') : Gx.CP (sp_prefix_of C) [.int (w : Int), .int (m : Int), .str (Bs.S c)] [] H Q E := ⟨w, m, c, rfl, hw, hm, hc, q⟩

noncomputable def sp_Frame_across (C : Addr) : Sp := fun vs H Q _ => ∃ (x : Addr) (w h d c t : Nat), vs = [.ref x] ∧ Frm C H x w h d c t ∧ 1 ≤ t ∧ t ≤ 16 ∧ Q (.int (Gd.ac w t : Nat)) H

theorem sc_Frame_across : FnScope ["self"] ["self"] (defScope s_Frame_across) := ⟨rfl, rfl, rfl, by decide +kernel, rfl, by decide +kernel, by decide +kernel⟩
theorem ok_Frame_across (T : Tx P K mg) : FnOk P w K mg base CX0 1 T.Frame_across.a T.Frame_across.d ["self"] (sp_Frame_across T.a_Frame) := by
  refine T.Frame_across.f.ok sc_Frame_across (fun vs H Q E h => ?_) (fun cdv A outer s H vs Q E hr h => ⟨_, pss_one (ps_ret (pe_op op_fdiv (pe_op op_sub (pe_op op_add (pe_fld (pv 0) rfl) (pe_fld (pv 0) rfl)) (pe_int)) (pe_fld (pv 0) rfl))), ?_⟩)
  · obtain ⟨x, w, h, d, c, t, rfl, _⟩ := h
    rfl
  · skip
    obtain ⟨x, w, h, d, c, t, rfl, ⟨dx, hx⟩, ht1, ht2, q⟩ := h
    walk_at "go"
    refine Gx.ic ⟨by omega, by omega⟩ ?_
    rw [Gd.ac_int (by omega)]
    exact q

theorem cp_Frame_across {C x : Addr} {w h d c t : Nat} {H : Hp} {Q : VK} {E : XK} (f : Frm C H x w h d c t) (h1 : 1 ≤ t) (h2 : t ≤ 16) (q : Q (.int (Gd.ac w t : Nat)) H) : Gx.CP (sp_Frame_across C) [.ref x] [] H Q E := ⟨x, w, h, d, c, t, rfl, f, h1, h2, q⟩

noncomputable def sp_tile_corner (C : Addr) : Sp := fun vs H Q _ => ∃ (x : Addr) (w h d c t k : Nat), vs = [.ref x, .int (k : Int)] ∧ Frm C H x w h d c t ∧ 1 ≤ t ∧ t ≤ 16 ∧ 1 ≤ w ∧ w ≤ 64 ∧ k ≤ 100000 ∧ ∀ p, H p = none → Q (.ref p) (upd H p (.tup [.int (k % Gd.ac w t * t : Nat), .int (k / Gd.ac w t * t : Nat)]))

theorem sc_tile_corner : FnScope ["frame", "tile", "across"] ["frame", "tile"] (defScope s_tile_corner) := ⟨rfl, rfl, rfl, by decide +kernel, rfl, by decide +kernel, by decide +kernel⟩
theorem ok_tile_corner (T : Tx P K mg) : FnOk P w K mg base CX0 2 T.tile_corner.a T.tile_corner.d ["frame", "tile"] (sp_tile_corner T.a_Frame) := by
  refine T.tile_corner.f.ok sc_tile_corner (fun vs H Q E h => ?_) (fun cdv A outer s H vs Q E hr h => ⟨_, pss_cons (ps_set (i := 2) sc_tile_corner.nd rfl (Or.inl rfl) (pe_meth0 (pv 0) T.cl_Frame T.Frame_across.m (ok_Frame_across T) (hr.mono (by decide)) T.Frame_across.b .nil pass0))
      (pss_one (ps_ret (pe_tup (pa_cons (pe_op op_mul (pe_op op_mod (pv 1) (pv 2)) (pe_fld (pv 0) rfl)) (pa_cons (pe_op op_mul (pe_op op_fdiv (pv 1) (pv 2)) (pe_fld (pv 0) rfl)) pa_nil))))), ?_⟩)
  · obtain ⟨x, w, h, d, c, t, k, rfl, _⟩ := h
    rfl
  · skip
    obtain ⟨x, w, h, d, c, t, k, rfl, ⟨dx, hx⟩, ht1, ht2, hw1, hw, hk, q⟩ := h
    have l1 := Gd.ac_le (n := w) (t := t) (by omega)
    have l2 := Gd.ac_pos (n := w) (t := t) (by omega) (by omega)
    walk_at "go"
    refine Gx.mp hx no_Frame_across ?_
    walk_at "go"
    refine cp_Frame_across ⟨dx, hx⟩ ht1 ht2 ?_
    walk_at "go"
    refine Gx.ic (by omega) ?_
    walk_at "go"
    refine Gx.ic (.inr (by omega)) ?_
    walk_at "go"
    refine Gx.ic ⟨by omega, by omega⟩ ?_
    walk_at "go"
    refine Gx.ic (.inr (by omega)) ?_
    walk_at "go"
    rw [← Int.natCast_emod, ← Int.natCast_ediv, ← Int.natCast_mul, ← Int.natCast_mul]
    exact Gx.tupP (by show 2 ≤ sizeLine; decide) q

theorem cp_tile_corner {C x : Addr} {w h d c t k : Nat} {H : Hp} {Q : VK} {E : XK} (f : Frm C H x w h d c t) (h1 : 1 ≤ t) (h2 : t ≤ 16) (hw1 : 1 ≤ w) (hw : w ≤ 64) (hk : k ≤ 100000) (q : ∀ p, H p = none → Q (.ref p) (upd H p (.tup [.int (k % Gd.ac w t * t : Nat), .int (k / Gd.ac w t * t : Nat)]))) :
    Gx.CP (sp_tile_corner C) [.ref x, .int (k : Int)] [] H Q E := ⟨x, w, h, d, c, t, k, rfl, f, h1, h2, hw1, hw, hk, q⟩
noncomputable def sp_tile_size (C : Addr) : Sp := fun vs H Q _ => ∃ (x : Addr) (w h d c t k : Nat), vs = [.ref x, .int (k : Int)] ∧ Frm C H x w h d c t ∧ 1 ≤ t ∧ t ≤ 16 ∧ 1 ≤ w ∧ w ≤ 64 ∧ 1 ≤ h ∧ h ≤ 64 ∧ k < Gd.ac w t * Gd.ac h t ∧
  ∀ p H', H p = none → Same H H' → H' p = some (.tup [.int (Gd.sd w t (k % Gd.ac w t) : Nat), .int (Gd.sd h t (k / Gd.ac w t) : Nat)]) → Q (.ref p) H'

theorem sc_tile_size : FnScope ["frame", "tile", "left", "top"] ["frame", "tile"] (defScope s_tile_size) := ⟨rfl, rfl, rfl, by decide +kernel, rfl, by decide +kernel, by decide +kernel⟩
theorem ok_tile_size (T : Tx P K mg) : FnOk P w K mg base CX0 3 T.tile_size.a T.tile_size.d ["frame", "tile"] (sp_tile_size T.a_Frame) := by
  refine T.tile_size.f.ok sc_tile_size (fun vs H Q E h => ?_) (fun cdv A outer s H vs Q E hr h => ⟨_, pss_cons (ps_asg (pe_call (ok_tile_corner T) (hr.mono (by decide)) rfl T.tile_corner.g T.tile_corner.f.kp T.tile_corner.b .nil pass0 (pa_cons (pv 0) (pa_cons (pv 1) pa_nil))) (pg_tup rfl (pgs_cons (pg_name (i := 2) sc_tile_size.nd rfl (Or.inl rfl)) (pgs_cons (pg_name (i := 3) sc_tile_size.nd rfl (Or.inl rfl)) pgs_nil))))
      (pss_one (ps_ret (pe_tup (pa_cons (pe_callB (Gx.c_min2 rfl) rfl T.n_min (by decide +kernel) (pa_cons (pe_fld (pv 0) rfl) (pa_cons (pe_op op_sub (pe_fld (pv 0) rfl) (pv 2)) pa_nil))) (pa_cons (pe_callB (Gx.c_min2 rfl) rfl T.n_min (by decide +kernel) (pa_cons (pe_fld (pv 0) rfl) (pa_cons (pe_op op_sub (pe_fld (pv 0) rfl) (pv 3)) pa_nil))) pa_nil))))), ?_⟩)
  · obtain ⟨x, w, h, d, c, t, k, rfl, _⟩ := h
    rfl
  · skip
    obtain ⟨x, w, h, d, c, t, k, rfl, ⟨dx, hx⟩, ht1, ht2, hw1, hw, hh1, hh, hk, q⟩ := h
    have l1 := Gd.ac_le (n := w) (t := t) (by omega)
    have l2 := Gd.ac_pos (n := w) (t := t) (by omega) (by omega)
    have l3 := Gd.ac_le (n := h) (t := t) (by omega)
    have l4 : Gd.ac w t * Gd.ac h t ≤ 64 * 64 := Nat.mul_le_mul (by omega) (by omega)
    have m1 : k % Gd.ac w t < Gd.ac w t := Nat.mod_lt _ l2
    have m2 : k / Gd.ac w t < Gd.ac h t := Nat.div_lt_of_lt_mul hk
    walk_at "go"
    refine cp_tile_corner ⟨dx, hx⟩ ht1 ht2 hw1 hw (by omega) fun p hp => ?_
    refine Gx.gtup (SqT.of upd_same) rfl ?_
    have hx := Gx.same_new (o := .tup [.int (k % Gd.ac w t * t : Nat), .int (k / Gd.ac w t * t : Nat)]) hp _ _ hx
    walk_at "go"
    refine Gx.min2 ?_
    walk_at "go"
    refine Gx.min2 ?_
    walk_at "go"
    rw [Gd.sd_int (by omega) m1, Gd.sd_int (by omega) m2]
    refine Gx.tupP (by show 2 ≤ sizeLine; decide) fun p2 hp2 => ?_
    exact q p2 _ (((Gx.same_new hp).free hp2)) ((Gx.same_new hp).trans (Gx.same_new hp2)) upd_same

theorem cp_tile_size {C x : Addr} {w h d c t k : Nat} {H : Hp} {Q : VK} {E : XK} (f : Frm C H x w h d c t) (h1 : 1 ≤ t) (h2 : t ≤ 16) (hw1 : 1 ≤ w) (hw : w ≤ 64) (hh1 : 1 ≤ h) (hh : h ≤ 64) (hk : k < Gd.ac w t * Gd.ac h t)
    (q : ∀ p H', H p = none → Same H H' → H' p = some (.tup [.int (Gd.sd w t (k % Gd.ac w t) : Nat), .int (Gd.sd h t (k / Gd.ac w t) : Nat)]) → Q (.ref p) H') :
    Gx.CP (sp_tile_size C) [.ref x, .int (k : Int)] [] H Q E := ⟨x, w, h, d, c, t, k, rfl, f, h1, h2, hw1, hw, hh1, hh, hk, q⟩

noncomputable def sp_known_in_packet (CN CF : Addr) : Sp := fun vs H Q E => ∃ (x p : Addr) (w h d c t : Nat) (ch pl : Int) (ti : Nat) (bs : List Bool), vs = [.ref x, .ref p, .str (Bs.S bs)] ∧ Frm CF H x w h d c t ∧ Rg.Dim w h d c t ∧ H p = some (.tup [.int ch, .int (ti : Int), .int pl]) ∧ ti < Gd.ac w t * Gd.ac h t ∧ bs.length ≤ 100000 ∧
  (∀ pr H', Same H H' → Kn.Known (Gd.sd w t (ti % Gd.ac w t)) (Rg.tileBox w h t ti) bs (some pr) → Q (.str (Bs.S pr)) H') ∧ (Kn.Known (Gd.sd w t (ti % Gd.ac w t)) (Rg.tileBox w h t ti) bs none → Sx.ErrB CN H E)

theorem sc_known_in_packet : FnScope ["frame", "key", "digits", "width", "height", "known_bits"] ["frame", "key", "digits"] (defScope s_known_in_packet) := ⟨rfl, rfl, rfl, by decide +kernel, rfl, by decide +kernel, by decide +kernel⟩
theorem ok_known_in_packet (T : Tx P K mg) : FnOk P w K mg base (L2.CX P w) 9 T.known_in_packet.a T.known_in_packet.d ["frame", "key", "digits"] (sp_known_in_packet T.y_NoSuchPacket.C T.a_Frame) := by
  refine T.known_in_packet.f.okX sc_known_in_packet (fun vs H Q E h => ?_) (fun cdv A outer s H vs Q E hr h => ⟨_, pss_cons (ps_asg (pe_call (ok_tile_size T) (hr.mono (by decide)) rfl T.tile_size.g T.tile_size.f.kp T.tile_size.b .nil pass0 (pa_cons (pv 0) (pa_cons (pe_ix (Gx.ix_seqK (K := K) rfl) (pv 1) (pe_int) (fun _ _ => rfl)) pa_nil))) (pg_tup rfl (pgs_cons (pg_name (i := 3) sc_known_in_packet.nd rfl (Or.inl rfl)) (pgs_cons (pg_name (i := 4) sc_known_in_packet.nd rfl (Or.inl rfl)) pgs_nil))))
      (pss_cons (ps_set (i := 5) sc_known_in_packet.nd rfl (Or.inl rfl) (pe_call (ok_prefix_of T) (hr.mono (by decide)) rfl T.prefix_of.g T.prefix_of.f.kp T.prefix_of.b .nil pass0 (pa_cons (pv 3) (pa_cons (pe_op op_mul (pv 3) (pv 4)) (pa_cons (pv 2) pa_nil)))))
      (pss_cons (ps_if (pt_cmpR op_isN (pv 5) (pe_non) (nomark _)) (pss_one (ps_raise rfl (takes_of rfl rfl rfl rfl) (pmk_own PySem.F.excBase_ValueError T.y_NoSuchPacket.x T.y_NoSuchPacket.g T.y_NoSuchPacket.k (raises_own T.y_NoSuchPacket.b T.y_NoSuchPacket.t) rfl))) (pss_nil))
      (pss_one (ps_ret (pv 5))))), ?_⟩)
  · obtain ⟨x, p, w, h, d, c, t, ch, pl, ti, bs, rfl, _⟩ := h
    rfl
  · skip
    obtain ⟨x, p, w, h, d, c, t, ch, pl, ti, bs, rfl, fr, D, hp, ht, hb, q, qn⟩ := h
    obtain ⟨a1, a2, a3, a4, a5, a6, a7, a8, a9, a10⟩ := id D
    walk_at "run"
    refine cp_tile_size fr a8 a9 a1 a2 a3 a4 ht fun p2 H2 n2 s2 h2 => ?_
    walk_at "run"
    obtain ⟨l1, l2, l3, l4, l5, l6, l7⟩ := D.ok
    have hk1 := Nat.mod_lt ti l3
    have hsd := Gd.sd_pos (n := w) (t := t) (k := ti % Gd.ac w t) (by omega) hk1
    have hs1 : Gd.sd w t (ti % Gd.ac w t) ≤ 16 := by unfold Gd.sd; omega
    have hs2 : Gd.sd h t (ti / Gd.ac w t) ≤ 16 := by unfold Gd.sd; omega
    have hbox := Pb.box_le (w := w) (h := h) (k := ti) (t := t) a9
    refine Gx.ic (.inr (by omega)) ?_
    walk_at "run"
    rw [← Int.natCast_mul, show Gd.sd w t (ti % Gd.ac w t) * Gd.sd h t (ti / Gd.ac w t) = Rg.tileBox w h t ti by unfold Rg.tileBox; exact Nat.mul_comm _ _]
    refine cp_prefix_of hsd (by omega) hb fun r H3 s3 kn => ?_
    cases r with
    | none =>
      walk_at "run"
      exact (qn kn) H3 (s2.trans s3)
    | some pr =>
      walk_at "run"
      refine Gx.if_n (decide_eq_false (show ¬ pfV (some pr) = V.non from fun z => nomatch z)) ?_
      walk_at "run"
      exact q pr H3 (s2.trans s3) kn

theorem cs_known_in_packet {CN CF x p : Addr} {w h d c t : Nat} {ch pl : Int} {ti : Nat} {bs : List Bool} {H : Hp} {Q : VK} {E : XK} (fr : Frm CF H x w h d c t) (D : Rg.Dim w h d c t) (hp : H p = some (.tup [.int ch, .int (ti : Int), .int pl])) (ht : ti < Gd.ac w t * Gd.ac h t) (hb : bs.length ≤ 100000) (q : ∀ pr H', Same H H' → Kn.Known (Gd.sd w t (ti % Gd.ac w t)) (Rg.tileBox w h t ti) bs (some pr) → Q (.str (Bs.S pr)) H') (qn : Kn.Known (Gd.sd w t (ti % Gd.ac w t)) (Rg.tileBox w h t ti) bs none → Sx.ErrB CN H E) : Sx.CS (sp_known_in_packet CN CF) [.ref x, .ref p, .str (Bs.S bs)] H Q E := ⟨x, p, w, h, d, c, t, ch, pl, ti, bs, rfl, fr, D, hp, ht, hb, q, qn⟩

noncomputable def sp_new_digits (CA CC : Addr) : Sp := fun vs H Q E => ∃ (D bs : List Bool) (st : Nat), vs = [.str (Bs.S D), .int (st : Int), .str (Bs.S bs)] ∧ D.length ≤ 100000 ∧ bs.length ≤ 100000 ∧ (D.length < st → Sx.ErrB CA H E) ∧ (st ≤ D.length → (¬ (D.drop st).take bs.length <+: bs → Sx.ErrB CC H E) ∧ ((D.drop st).take bs.length <+: bs → Q (.str (Bs.S (bs.drop (D.length - st)))) H))

theorem sc_new_digits : FnScope ["digits", "start", "bits", "old"] ["digits", "start", "bits"] (defScope s_new_digits) := ⟨rfl, rfl, rfl, by decide +kernel, rfl, by decide +kernel, by decide +kernel⟩
theorem ok_new_digits (T : Tx P K mg) : FnOk P w K mg base (L2.CX P w) 1 T.new_digits.a T.new_digits.d ["digits", "start", "bits"] (sp_new_digits T.y_BitsAhead.C T.y_Contradiction.C) := by
  refine T.new_digits.f.okX sc_new_digits (fun vs H Q E h => ?_) (fun cdv A outer s H vs Q E hr h => ⟨_, pss_cons (ps_if (pt_cmpR op_gt (pv 1) (pe_callB (Gx.c_lenK (K := K) rfl) rfl T.n_len (by decide +kernel) (pa_cons (pv 0) pa_nil)) (nomark _)) (pss_one (ps_raise rfl (takes_of rfl rfl rfl rfl) (pmk_own PySem.F.excBase_ValueError T.y_BitsAhead.x T.y_BitsAhead.g T.y_BitsAhead.k (raises_own T.y_BitsAhead.b T.y_BitsAhead.t) rfl))) (pss_nil))
      (pss_cons (ps_set (i := 3) sc_new_digits.nd rfl (Or.inl rfl) (pe_slice sl_str (pv 0) (po_some (pv 1)) (po_some (pe_op op_add (pv 1) (pe_callB (Gx.c_lenK (K := K) rfl) rfl T.n_len (by decide +kernel) (pa_cons (pv 2) pa_nil))))))
      (pss_cons (ps_if (pt_not (pt_val (pe_m1 PySem.F.slot_str_startswith PySem.F.type_str_startswith mt_startswith (pv 2) (pv 3)))) (pss_one (ps_raise rfl (takes_of rfl rfl rfl rfl) (pmk_own PySem.F.excBase_ValueError T.y_Contradiction.x T.y_Contradiction.g T.y_Contradiction.k (raises_own T.y_Contradiction.b T.y_Contradiction.t) rfl))) (pss_nil))
      (pss_one (ps_ret (pe_slice sl_str (pv 2) (po_some (pe_callB (Gx.c_lenK (K := K) rfl) rfl T.n_len (by decide +kernel) (pa_cons (pv 3) pa_nil))) po_none))))), ?_⟩)
  · obtain ⟨D, bs, st, rfl, _⟩ := h
    rfl
  · skip
    obtain ⟨D, bs, st, rfl, hD, hb, qa, q⟩ := h
    walk_at "run"
    refine Bs.lenB (by omega) ?_
    walk_at "run"
    refine Gx.if_d (fun e => ?_) (fun e => ?_)
    · walk_at "run"
      exact qa (by omega) H (Same.refl _)
    obtain ⟨qc, q⟩ := q (by omega)
    walk_at "run"
    refine Bs.lenB (by omega) ?_
    walk_at "run"
    rw [show (st : Int) + (bs.length : Int) = ((st + bs.length : Nat) : Int) by omega]
    refine Gx.slS (by rw [Bs.len]; show _ ≤ 16777216; omega) ?_
    rw [Pk.cut_both]
    walk_at "run"
    refine ⟨_, _, rfl, rfl, ?_⟩
    rw [Kn.sw]
    walk_at "run"
    refine Gx.if_dn (fun e => ?_) (fun e => ?_)
    · walk_at "run"
      exact qc e H (Same.refl _)
    have q := q e
    have hol : ((D.drop st).take bs.length).length = min bs.length (D.length - st) := by rw [List.length_take, List.length_drop]
    walk_at "run"
    refine Bs.lenB (by omega) ?_
    walk_at "run"
    refine Gx.slS (by rw [Bs.len]; show _ ≤ 16777216; omega) ?_
    rw [Bs.cut_lo, hol]
    have e2 : bs.drop (min bs.length (D.length - st)) = bs.drop (D.length - st) := by
      rcases Nat.le_total bs.length (D.length - st) with z | z
      · rw [Nat.min_eq_left z, List.drop_of_length_le z, List.drop_of_length_le (Nat.le_refl _)]
      · rw [Nat.min_eq_right z]
    rw [e2]
    walk_at "run"
    exact q

theorem cs_new_digits {CA CC : Addr} {D bs : List Bool} {st : Nat} {H : Hp} {Q : VK} {E : XK} (hD : D.length ≤ 100000) (hb : bs.length ≤ 100000) (qa : D.length < st → Sx.ErrB CA H E) (qc : st ≤ D.length → ¬ (D.drop st).take bs.length <+: bs → Sx.ErrB CC H E) (q : st ≤ D.length → (D.drop st).take bs.length <+: bs → Q (.str (Bs.S (bs.drop (D.length - st)))) H) : Sx.CS (sp_new_digits CA CC) [.str (Bs.S D), .int (st : Int), .str (Bs.S bs)] H Q E := ⟨D, bs, st, rfl, hD, hb, qa, fun e => ⟨qc e, q e⟩⟩

noncomputable def sp_Frame_down (C : Addr) : Sp := fun vs H Q _ => ∃ (x : Addr) (w h d c t : Nat), vs = [.ref x] ∧ Frm C H x w h d c t ∧ 1 ≤ t ∧ t ≤ 16 ∧ Q (.int (Gd.ac h t : Nat)) H

theorem sc_Frame_down : FnScope ["self"] ["self"] (defScope s_Frame_down) := ⟨rfl, rfl, rfl, by decide +kernel, rfl, by decide +kernel, by decide +kernel⟩
theorem ok_Frame_down (T : Tx P K mg) : FnOk P w K mg base CX0 1 T.Frame_down.a T.Frame_down.d ["self"] (sp_Frame_down T.a_Frame) := by
  refine T.Frame_down.f.ok sc_Frame_down (fun vs H Q E h => ?_) (fun cdv A outer s H vs Q E hr h => ⟨_, pss_one (ps_ret (pe_op op_fdiv (pe_op op_sub (pe_op op_add (pe_fld (pv 0) rfl) (pe_fld (pv 0) rfl)) (pe_int)) (pe_fld (pv 0) rfl))), ?_⟩)
  · obtain ⟨x, w, h, d, c, t, rfl, _⟩ := h
    rfl
  · skip
    obtain ⟨x, w, h, d, c, t, rfl, ⟨dx, hx⟩, ht1, ht2, q⟩ := h
    walk_at "go"
    refine Gx.ic ⟨by omega, by omega⟩ ?_
    rw [Gd.ac_int (by omega)]
    exact q

theorem cp_Frame_down {C x : Addr} {w h d c t : Nat} {H : Hp} {Q : VK} {E : XK} (f : Frm C H x w h d c t) (h1 : 1 ≤ t) (h2 : t ≤ 16) (q : Q (.int (Gd.ac h t : Nat)) H) : Gx.CP (sp_Frame_down C) [.ref x] [] H Q E := ⟨x, w, h, d, c, t, rfl, f, h1, h2, q⟩

noncomputable def sp_Frame_tiles (C : Addr) : Sp := fun vs H Q _ => ∃ (x : Addr) (w h d c t : Nat), vs = [.ref x] ∧ Frm C H x w h d c t ∧ 1 ≤ t ∧ t ≤ 16 ∧ w ≤ 64 ∧ h ≤ 64 ∧ Q (.int (Gd.ac w t * Gd.ac h t : Nat)) H

theorem sc_Frame_tiles : FnScope ["self"] ["self"] (defScope s_Frame_tiles) := ⟨rfl, rfl, rfl, by decide +kernel, rfl, by decide +kernel, by decide +kernel⟩
theorem ok_Frame_tiles (T : Tx P K mg) : FnOk P w K mg base CX0 2 T.Frame_tiles.a T.Frame_tiles.d ["self"] (sp_Frame_tiles T.a_Frame) := by
  refine T.Frame_tiles.f.ok sc_Frame_tiles (fun vs H Q E h => ?_) (fun cdv A outer s H vs Q E hr h => ⟨_, pss_one (ps_ret (pe_op op_mul (pe_meth0 (pv 0) T.cl_Frame T.Frame_across.m (ok_Frame_across T) (hr.mono (by decide)) T.Frame_across.b .nil pass0) (pe_meth0 (pv 0) T.cl_Frame T.Frame_down.m (ok_Frame_down T) (hr.mono (by decide)) T.Frame_down.b .nil pass0))), ?_⟩)
  · obtain ⟨x, w, h, d, c, t, rfl, _⟩ := h
    rfl
  · skip
    obtain ⟨x, w, h, d, c, t, rfl, ⟨dx, hx⟩, ht1, ht2, hw, hh, q⟩ := h
    have l1 := Gd.ac_le (n := w) (t := t) (by omega)
    walk_at "go"
    refine Gx.mp hx no_Frame_across ?_
    walk_at "go"
    refine cp_Frame_across ⟨dx, hx⟩ ht1 ht2 ?_
    walk_at "go"
    refine Gx.mp hx no_Frame_down ?_
    walk_at "go"
    refine cp_Frame_down ⟨dx, hx⟩ ht1 ht2 ?_
    refine Gx.ic (.inl (by omega)) ?_
    rw [← Int.natCast_mul]
    exact q

theorem cp_Frame_tiles {C x : Addr} {w h d c t : Nat} {H : Hp} {Q : VK} {E : XK} (f : Frm C H x w h d c t) (h1 : 1 ≤ t) (h2 : t ≤ 16) (hw : w ≤ 64) (hh : h ≤ 64) (q : Q (.int (Gd.ac w t * Gd.ac h t : Nat)) H) : Gx.CP (sp_Frame_tiles C) [.ref x] [] H Q E := ⟨x, w, h, d, c, t, rfl, f, h1, h2, hw, hh, q⟩

noncomputable def sp_key_number (K : PySem.W.Frag) (C : Addr) : Sp := fun vs H Q _ => ∃ (x p : Addr) (w h d c t k : Nat), vs = [.ref x, .ref p] ∧ Frm C H x w h d c t ∧ 1 ≤ t ∧ t ≤ 16 ∧ 1 ≤ w ∧ w ≤ 64 ∧ 1 ≤ h ∧ h ≤ 64 ∧ 1 ≤ c ∧ c ≤ 3 ∧ SqT K H p ((Gd.ky (Gd.ac w t * Gd.ac h t) c d k).map V.int) ∧ k ≤ 1000000 ∧ Q (.int (k : Int)) H

theorem sc_key_number : FnScope ["frame", "key", "channel", "tile", "plane", "higher_planes"] ["frame", "key"] (defScope s_key_number) := ⟨rfl, rfl, rfl, by decide +kernel, rfl, by decide +kernel, by decide +kernel⟩
theorem ok_key_number (T : Tx P K mg) : FnOk P w K mg base CX0 3 T.key_number.a T.key_number.d ["frame", "key"] (sp_key_number K T.a_Frame) := by
  refine T.key_number.f.ok sc_key_number (fun vs H Q E h => ?_) (fun cdv A outer s H vs Q E hr h => ⟨_, pss_cons (ps_asg (pv 1) (pg_tup rfl (pgs_cons (pg_name (i := 2) sc_key_number.nd rfl (Or.inl rfl)) (pgs_cons (pg_name (i := 3) sc_key_number.nd rfl (Or.inl rfl)) (pgs_cons (pg_name (i := 4) sc_key_number.nd rfl (Or.inl rfl)) pgs_nil)))))
      (pss_cons (ps_set (i := 5) sc_key_number.nd rfl (Or.inl rfl) (pe_op op_sub (pe_op op_sub (pe_fld (pv 0) rfl) (pe_int)) (pv 4)))
      (pss_one (ps_ret (pe_op op_add (pe_op op_mul (pe_op op_add (pe_op op_mul (pv 5) (pe_fld (pv 0) rfl)) (pv 2)) (pe_meth0 (pv 0) T.cl_Frame T.Frame_tiles.m (ok_Frame_tiles T) (hr.mono (by decide)) T.Frame_tiles.b .nil pass0)) (pv 3))))), ?_⟩)
  · obtain ⟨x, p, w, h, d, c, t, k, rfl, _⟩ := h
    rfl
  · skip
    obtain ⟨x, p, w, h, d, c, t, k, rfl, fr, ht1, ht2, hw1, hw, hh1, hh, hc1, hc, hp, hk, q⟩ := h
    have l1 := Gd.ac_le (n := w) (t := t) (by omega)
    have l2 := Gd.ac_le (n := h) (t := t) (by omega)
    have l4 : Gd.ac w t * Gd.ac h t ≤ 64 * 64 := Nat.mul_le_mul (by omega) (by omega)
    have back := Gd.ky_back (T := Gd.ac w t * Gd.ac h t) (c := c) (k := k)
    rw [Gd.ky_at (by omega)] at hp
    simp only [List.map_cons, List.map_nil] at hp
    obtain ⟨T0, hT⟩ : ∃ T0, T0 = Gd.ac w t * Gd.ac h t := ⟨_, rfl⟩
    rw [← hT] at hp back l4
    have g1 : k / T0 / c ≤ k := Nat.le_trans (Nat.div_le_self _ _) (Nat.div_le_self _ _)
    have g2 : k / T0 / c * c + k / T0 % c ≤ k := by rw [Nat.div_add_mod']; exact Nat.div_le_self _ _
    generalize k / T0 / c = u at *
    generalize k / T0 % c = v at *
    generalize k % T0 = z at *
    obtain ⟨dx, hx⟩ := id fr
    walk_at "go"
    refine Gx.gtup hp rfl ?_
    walk_at "go"
    refine Gx.ic (.inr (by omega)) ?_
    walk_at "go"
    refine Gx.mp hx no_Frame_tiles ?_
    walk_at "go"
    refine cp_Frame_tiles fr ht1 ht2 hw hh ?_
    walk_at "go"
    rw [← hT, show (d : Int) - 1 - ((d : Int) - 1 - (u : Int)) = (u : Int) by omega]
    refine Gx.ic (.inr (by omega)) ?_
    walk_at "go"
    rw [← Int.natCast_mul, ← Int.natCast_add, ← Int.natCast_mul, ← Int.natCast_add, back]
    exact q

theorem cp_key_number {K : PySem.W.Frag} {C x p : Addr} {w h d c t k : Nat} {H : Hp} {Q : VK} {E : XK} (f : Frm C H x w h d c t) (h1 : 1 ≤ t) (h2 : t ≤ 16) (hw1 : 1 ≤ w) (hw : w ≤ 64) (hh1 : 1 ≤ h) (hh : h ≤ 64) (hc1 : 1 ≤ c) (hc : c ≤ 3)
    (hp : SqT K H p ((Gd.ky (Gd.ac w t * Gd.ac h t) c d k).map V.int)) (hk : k ≤ 1000000) (q : Q (.int (k : Int)) H) : Gx.CP (sp_key_number K C) [.ref x, .ref p] [] H Q E := ⟨x, p, w, h, d, c, t, k, rfl, f, h1, h2, hw1, hw, hh1, hh, hc1, hc, hp, hk, q⟩

noncomputable def sp_check_key (CE C : Addr) : Sp := fun vs H Q E => ∃ (x p : Addr) (w h d c t : Nat) (ch ti pl : Int), vs = [.ref x, .ref p] ∧ Frm C H x w h d c t ∧ 1 ≤ t ∧ t ≤ 16 ∧ w ≤ 64 ∧ h ≤ 64 ∧ H p = some (.tup [.int ch, .int ti, .int pl]) ∧
  (Sx.keyBad c (Gd.ac w t * Gd.ac h t) d ch ti pl = none → Q .non H) ∧ (∀ z, Sx.keyBad c (Gd.ac w t * Gd.ac h t) d ch ti pl = some z → Sx.Err CE H z E)

theorem sc_check_key : FnScope ["frame", "key", "channel", "tile", "plane"] ["frame", "key"] (defScope s_check_key) := ⟨rfl, rfl, rfl, by decide +kernel, rfl, by decide +kernel, by decide +kernel⟩
theorem ok_check_key (T : Tx P K mg) : FnOk P w K mg base (L2.CX P w) 4 T.check_key.a T.check_key.d ["frame", "key"] (sp_check_key T.x_OutOfRange.C T.a_Frame) := by
  refine T.check_key.f.okX sc_check_key (fun vs H Q E h => ?_) (fun cdv A outer s H vs Q E hr h => ⟨_, pss_cons (ps_asg (pv 1) (pg_tup rfl (pgs_cons (pg_name (i := 2) sc_check_key.nd rfl (Or.inl rfl)) (pgs_cons (pg_name (i := 3) sc_check_key.nd rfl (Or.inl rfl)) (pgs_cons (pg_name (i := 4) sc_check_key.nd rfl (Or.inl rfl)) pgs_nil)))))
      (pss_cons (ps_expr (pe_callS (ok_check_range T) (hr.mono (by decide)) rfl T.check_range.g T.check_range.f.kp T.check_range.b (fun σ => passAt (takes_of rfl rfl rfl rfl) σ) (pa_cons (pe_str) (pa_cons (pv 2) (pa_cons (pe_int) (pa_cons (pe_op op_sub (pe_fld (pv 0) rfl) (pe_int)) pa_nil))))))
      (pss_cons (ps_expr (pe_callS (ok_check_range T) (hr.mono (by decide)) rfl T.check_range.g T.check_range.f.kp T.check_range.b (fun σ => passAt (takes_of rfl rfl rfl rfl) σ) (pa_cons (pe_str) (pa_cons (pv 3) (pa_cons (pe_int) (pa_cons (pe_op op_sub (pe_meth0 (pv 0) T.cl_Frame T.Frame_tiles.m (ok_Frame_tiles T) (hr.mono (by decide)) T.Frame_tiles.b .nil pass0) (pe_int)) pa_nil))))))
      (pss_one (ps_expr (pe_callS (ok_check_range T) (hr.mono (by decide)) rfl T.check_range.g T.check_range.f.kp T.check_range.b (fun σ => passAt (takes_of rfl rfl rfl rfl) σ) (pa_cons (pe_str) (pa_cons (pv 4) (pa_cons (pe_int) (pa_cons (pe_op op_sub (pe_fld (pv 0) rfl) (pe_int)) pa_nil))))))))), ?_⟩)
  · obtain ⟨x, p, w, h, d, c, t, ch, ti, pl, rfl, _⟩ := h
    rfl
  · skip
    obtain ⟨x, p, w, h, d, c, t, ch, ti, pl, rfl, fr, ht1, ht2, hw, hh, hp, q, qe⟩ := h
    unfold Sx.keyBad at q qe
    obtain ⟨dx, hx⟩ := id fr
    walk_at "go"
    refine Gx.gtup (SqT.of hp) rfl ?_
    walk_at "go"
    refine cs_check_range (fun a1 a2 => ?_) (fun a => qe _ (if_pos a))
    rw [if_neg (not_not_intro ⟨a1, a2⟩)] at q qe
    walk_at "go"
    refine Gx.mp hx no_Frame_tiles ?_
    walk_at "go"
    refine cp_Frame_tiles fr ht1 ht2 hw hh ?_
    walk_at "go"
    refine cs_check_range (fun b1 b2 => ?_) (fun a => qe _ (if_pos a))
    rw [if_neg (not_not_intro ⟨b1, b2⟩)] at q qe
    walk_at "go"
    refine cs_check_range (fun c1 c2 => ?_) (fun a => qe _ (if_pos a))
    rw [if_neg (not_not_intro ⟨c1, c2⟩)] at q
    walk_at "go"
    exact q rfl

theorem cs_check_key {CE C x p : Addr} {w h d c t : Nat} {ch ti pl : Int} {H : Hp} {Q : VK} {E : XK} (f : Frm C H x w h d c t) (h1 : 1 ≤ t) (h2 : t ≤ 16) (hw : w ≤ 64) (hh : h ≤ 64) (hp : H p = some (.tup [.int ch, .int ti, .int pl]))
    (q : Sx.keyBad c (Gd.ac w t * Gd.ac h t) d ch ti pl = none → Q .non H) (qe : ∀ z, Sx.keyBad c (Gd.ac w t * Gd.ac h t) d ch ti pl = some z → Sx.Err CE H z E) : Sx.CS (sp_check_key CE C) [.ref x, .ref p] H Q E := ⟨x, p, w, h, d, c, t, ch, ti, pl, rfl, f, h1, h2, hw, hh, hp, q, qe⟩

noncomputable def sp_check_piece (CE CF : Addr) : Sp := fun vs H Q E => ∃ (x p : Addr) (w h d c t : Nat) (k : List Int) (st : Int) (bs : List Bool), vs = [.ref x, .ref p, .int st, .str (Bs.S bs)] ∧ Frm CF H x w h d c t ∧ Rg.Dim w h d c t ∧ H p = some (.tup (k.map V.int)) ∧ k.length = 3 ∧ bs.length ≤ 100000 ∧
  (∀ z, En.kb c (Gd.ac w t * Gd.ac h t) d k = some z → Sx.Err CE H z E) ∧ (En.kb c (Gd.ac w t * Gd.ac h t) d k = none → (¬ (0 ≤ st ∧ st ≤ 65535) → Sx.Err CE H "start" E) ∧ ((0 ≤ st ∧ st ≤ 65535) → (¬ bs.length ≤ 65535 → Sx.Err CE H "bits" E) ∧ (bs.length ≤ 65535 → Q .non H)))

theorem sc_check_piece : FnScope ["frame", "key", "start", "bits"] ["frame", "key", "start", "bits"] (defScope s_check_piece) := ⟨rfl, rfl, rfl, by decide +kernel, rfl, by decide +kernel, by decide +kernel⟩
theorem ok_check_piece (T : Tx P K mg) : FnOk P w K mg base (L2.CX P w) 5 T.check_piece.a T.check_piece.d ["frame", "key", "start", "bits"] (sp_check_piece T.x_OutOfRange.C T.a_Frame) := by
  refine T.check_piece.f.okX sc_check_piece (fun vs H Q E h => ?_) (fun cdv A outer s H vs Q E hr h => ⟨_, pss_cons (ps_expr (pe_callS (ok_check_key T) (hr.mono (by decide)) rfl T.check_key.g T.check_key.f.kp T.check_key.b (fun σ => passAt (takes_of rfl rfl rfl rfl) σ) (pa_cons (pv 0) (pa_cons (pv 1) pa_nil))))
      (pss_cons (ps_expr (pe_callS (ok_check_range T) (hr.mono (by decide)) rfl T.check_range.g T.check_range.f.kp T.check_range.b (fun σ => passAt (takes_of rfl rfl rfl rfl) σ) (pa_cons (pe_str) (pa_cons (pv 2) (pa_cons (pe_int) (pa_cons (pe_glob (v := .int 65535) rfl T.c_START_MOST ⟨_, rfl⟩) pa_nil))))))
      (pss_one (ps_if (pt_cmpR op_gt (pe_callB (Gx.c_lenK (K := K) rfl) rfl T.n_len (by decide +kernel) (pa_cons (pv 3) pa_nil)) (pe_glob (v := .int 65535) rfl T.c_DIGITS_MOST ⟨_, rfl⟩) (nomark _)) (pss_one (ps_raise rfl (takes_of rfl rfl rfl rfl) (pmk_oex T.x_OutOfRange.o T.x_OutOfRange.i T.x_OutOfRange.t (ok_OutOfRange___init__ T) (hr.mono (by decide)) T.x_OutOfRange.b .nil pass0 rfl T.x_OutOfRange.g (pa_cons (pe_str) pa_nil)))) (pss_nil)))), ?_⟩)
  · obtain ⟨x, p, w, h, d, c, t, k, st, bs, rfl, _⟩ := h
    rfl
  · skip
    obtain ⟨x, p, w, h, d, c, t, k, st, bs, rfl, fr, D, hp, h3, hbl, qk, q⟩ := h
    obtain ⟨a1, a2, a3, a4, a5, a6, a7, a8, a9, a10⟩ := id D
    obtain ⟨ch, ti, pl, rfl⟩ := Pt.three h3
    walk_at "run"
    refine cs_check_key fr a8 a9 a2 a4 hp (fun kb => ?_) (fun z kb => qk z kb)
    obtain ⟨qs, q⟩ := q kb
    walk_at "run"
    refine cs_check_range (fun b1 b2 => ?_) (fun n => qs n)
    obtain ⟨qb, q⟩ := q ⟨b1, b2⟩
    walk_at "run"
    refine Bs.lenB (by omega) ?_
    walk_at "run"
    refine Gx.if_d (fun e => ?_) (fun e => ?_)
    · walk_at "run"
      exact Sx.mkO (by decide) (qb (by omega)).now fun R h => by walk_at "run"; exact h
    · walk_at "run"
      exact q (by omega)

theorem cs_check_piece {CE CF x p : Addr} {w h d c t : Nat} {k : List Int} {st : Int} {bs : List Bool} {H : Hp} {Q : VK} {E : XK} (fr : Frm CF H x w h d c t) (D : Rg.Dim w h d c t) (hp : H p = some (.tup (k.map V.int))) (h3 : k.length = 3) (hbl : bs.length ≤ 100000) (qk : ∀ z, En.kb c (Gd.ac w t * Gd.ac h t) d k = some z → Sx.Err CE H z E) (qs : En.kb c (Gd.ac w t * Gd.ac h t) d k = none → ¬ (0 ≤ st ∧ st ≤ 65535) → Sx.Err CE H "start" E) (qb : En.kb c (Gd.ac w t * Gd.ac h t) d k = none → (0 ≤ st ∧ st ≤ 65535) → ¬ bs.length ≤ 65535 → Sx.Err CE H "bits" E) (q : En.kb c (Gd.ac w t * Gd.ac h t) d k = none → (0 ≤ st ∧ st ≤ 65535) → bs.length ≤ 65535 → Q .non H) : Sx.CS (sp_check_piece CE CF) [.ref x, .ref p, .int st, .str (Bs.S bs)] H Q E := ⟨x, p, w, h, d, c, t, k, st, bs, rfl, fr, D, hp, h3, hbl, qk, fun e => ⟨qs e, fun f => ⟨qb e f, q e f⟩⟩⟩

noncomputable def sp_Arrived_accept (K : PySem.W.Frag) (CE CA CC CN C CF : Addr) : Sp := fun vs H Q E => ∃ (R : Hp) (x f dl pl p : Addr) (rest : List (Addr × HO)) (w h d c t : Nat) (k : List Int) (st : Int) (bs : List Bool) (ds ps : List (List Bool)), vs = [.ref x, .ref p, .int st, .str (Bs.S bs)] ∧ Ao C CF R x f dl pl w h d c t ∧ Rg.Dim w h d c t ∧ Mv.Hv R H ((dl, .lst (Ar.sv ds)) :: (pl, .lst (Ar.sv ps)) :: rest) ∧ Ar.Ok w h t c (d * c * (Gd.ac w t * Gd.ac h t)) ds ps ∧ (∀ b ∈ ds, b.length ≤ 30000) ∧ R p = some (.tup (k.map V.int)) ∧ k.length = 3 ∧ bs.length ≤ 66000 ∧
  (∀ z, En.kb c (Gd.ac w t * Gd.ac h t) d k = some z → Sx.Err CE H z E) ∧ (En.kb c (Gd.ac w t * Gd.ac h t) d k = none → (¬ (0 ≤ st ∧ st ≤ 65535) → Sx.Err CE H "start" E) ∧ ((0 ≤ st ∧ st ≤ 65535) → (¬ bs.length ≤ 65535 → Sx.Err CE H "bits" E) ∧ (bs.length ≤ 65535 →
    ∀ n, n = Pt.num c (Gd.ac w t * Gd.ac h t) d k → n < d * c * (Gd.ac w t * Gd.ac h t) → ((ds.getD n []).length < st.toNat → Sx.ErrB CA H E) ∧ (st.toNat ≤ (ds.getD n []).length → (¬ ((ds.getD n []).drop st.toNat).take bs.length <+: bs → Sx.ErrB CC H E) ∧ (((ds.getD n []).drop st.toNat).take bs.length <+: bs →
      (bs.drop ((ds.getD n []).length - st.toNat) = [] → Q (.int 0) H) ∧ (bs.drop ((ds.getD n []).length - st.toNat) ≠ [] →
        (Kn.Known (Ar.wd w t (Gd.ac w t * Gd.ac h t) c n) (Ar.bx w h t (Gd.ac w t * Gd.ac h t) n) (ds.getD n [] ++ bs.drop ((ds.getD n []).length - st.toNat)) none → Sx.ErrB CN H E) ∧
        (∀ pr R' H', Same R R' → Kn.Known (Ar.wd w t (Gd.ac w t * Gd.ac h t) c n) (Ar.bx w h t (Gd.ac w t * Gd.ac h t) n) (ds.getD n [] ++ bs.drop ((ds.getD n []).length - st.toNat)) (some pr) → Mv.Hv R' H' ((dl, .lst (Ar.sv (ds.set n (ds.getD n [] ++ bs.drop ((ds.getD n []).length - st.toNat))))) :: (pl, .lst (Ar.sv (ps.set n pr))) :: rest) → Q (.int ((bs.drop ((ds.getD n []).length - st.toNat)).length : Int)) H')))))))

theorem sc_Arrived_accept : FnScope ["self", "key", "start", "bits", "number", "added", "digits"] ["self", "key", "start", "bits"] (defScope s_Arrived_accept) := ⟨rfl, rfl, rfl, by decide +kernel, rfl, by decide +kernel, by decide +kernel⟩
theorem ok_Arrived_accept (T : Tx P K mg) : FnOk P w K mg base (L2.CX P w) 10 T.Arrived_accept.a T.Arrived_accept.d ["self", "key", "start", "bits"] (sp_Arrived_accept K T.x_OutOfRange.C T.y_BitsAhead.C T.y_Contradiction.C T.y_NoSuchPacket.C T.a_Arrived T.a_Frame) := by
  refine T.Arrived_accept.f.okX sc_Arrived_accept (fun vs H Q E h => ?_) (fun cdv A outer s H vs Q E hr h => ⟨_, pss_cons (ps_expr (pe_callS (ok_check_piece T) (hr.mono (by decide)) rfl T.check_piece.g T.check_piece.f.kp T.check_piece.b (fun σ => passAt (takes_of rfl rfl rfl rfl) σ) (pa_cons (pe_fld (pv 0) rfl) (pa_cons (pv 1) (pa_cons (pv 2) (pa_cons (pv 3) pa_nil))))))
      (pss_cons (ps_set (i := 4) sc_Arrived_accept.nd rfl (Or.inl rfl) (pe_call (ok_key_number T) (hr.mono (by decide)) rfl T.key_number.g T.key_number.f.kp T.key_number.b .nil pass0 (pa_cons (pe_fld (pv 0) rfl) (pa_cons (pv 1) pa_nil))))
      (pss_cons (ps_set (i := 5) sc_Arrived_accept.nd rfl (Or.inl rfl) (pe_callS (ok_new_digits T) (hr.mono (by decide)) rfl T.new_digits.g T.new_digits.f.kp T.new_digits.b (fun σ => passAt (takes_of rfl rfl rfl rfl) σ) (pa_cons (pe_ix (Gx.ix_seqK (K := K) rfl) (pe_fld (pv 0) rfl) (pv 4) (fun _ _ => rfl)) (pa_cons (pv 2) (pa_cons (pv 3) pa_nil)))))
      (pss_cons (ps_if (pt_cmpR op_ne (pv 5) (pe_str) (nomark _)) (pss_cons (ps_set (i := 6) sc_Arrived_accept.nd rfl (Or.inl rfl) (pe_op Gx.o_addS (pe_ix (Gx.ix_seqK (K := K) rfl) (pe_fld (pv 0) rfl) (pv 4) (fun _ _ => rfl)) (pv 5)))
      (pss_cons (ps_asg (pe_callS (ok_known_in_packet T) (hr.mono (by decide)) rfl T.known_in_packet.g T.known_in_packet.f.kp T.known_in_packet.b (fun σ => passAt (takes_of rfl rfl rfl rfl) σ) (pa_cons (pe_fld (pv 0) rfl) (pa_cons (pv 1) (pa_cons (pv 6) pa_nil)))) (pg_sub (pe_fld (pv 0) rfl) (pv 4) set_list))
      (pss_one (ps_asg (pv 6) (pg_sub (pe_fld (pv 0) rfl) (pv 4) set_list))))) (pss_nil))
      (pss_one (ps_ret (pe_callB (Gx.c_lenK (K := K) rfl) rfl T.n_len (by decide +kernel) (pa_cons (pv 5) pa_nil))))))), ?_⟩)
  · obtain ⟨R, x, f, dl, pl, p, rest, w, h, d, c, t, k, st, bs, ds, ps, rfl, _⟩ := h
    rfl
  · skip
    obtain ⟨R, x, f, dl, pl, p, rest, w, h, d, c, t, k, st, bs, ds, ps, rfl, ao, D, hv, ok, hdb, hp, h3, hbl, qk, q⟩ := h
    obtain ⟨a1, a2, a3, a4, a5, a6, a7, a8, a9, a10⟩ := id D
    obtain ⟨l1, l2, l3, l4, l5, l6, l7⟩ := D.ok
    have hN : d * c * (Gd.ac w t * Gd.ac h t) ≤ 8 * 3 * (64 * 64) := Nat.mul_le_mul (Nat.mul_le_mul a6 (by omega)) l6
    obtain ⟨⟨dx, hx⟩, fr⟩ := id (ao.keep hv.same)
    have hp' := hv.same _ _ hp
    walk_at "run"
    refine cs_check_piece fr D hp' h3 (by omega) qk (fun e => (q e).1) (fun e f => ((q e).2 f).1) (fun e fz g => ?_)
    have q := ((q e).2 fz).2 g
    obtain ⟨ln, lk⟩ := Ar.num_ok (by omega) l5 e h3
    obtain ⟨n, hn⟩ : ∃ n, n = Pt.num c (Gd.ac w t * Gd.ac h t) d k := ⟨_, rfl⟩
    have q := q n hn (by omega)
    rw [← hn] at ln lk
    obtain ⟨st, rfl⟩ : ∃ m : Nat, st = m := ⟨st.toNat, by omega⟩
    rw [Int.toNat_natCast] at q
    walk_at "run"
    refine cp_key_number fr a8 a9 a1 a2 a3 a4 (by omega) (by omega) (k := n) (SqT.of (by rw [lk]; exact hp')) (by omega) ?_
    walk_at "run"
    have hdn := ok.dl
    have hpn := ok.pl
    have hD := hdb _ (show ds.getD n [] ∈ ds by rw [List.getD_eq_getElem?_getD, List.getElem?_eq_getElem (by omega)]; exact List.getElem_mem (by omega))
    refine Gx.ixL (SqL.of hv.g0) (atI_nat (Ar.sv_get (by omega))) ?_
    walk_at "run"
    refine cs_new_digits (by omega) (by omega) (fun z => q.1 z) (fun z y => (q.2 z).1 y) (fun z y => ?_)
    have q := (q.2 z).2 y
    obtain ⟨ad, had⟩ : ∃ ad, bs.drop ((ds.getD n []).length - st) = ad := ⟨_, rfl⟩
    have hal : ad.length ≤ bs.length := by rw [← had, List.length_drop]; omega
    rw [had] at q ⊢
    walk_at "run"
    refine Gx.if_dn (fun e2 => ?_) (fun e2 => ?_)
    rotate_left
    · have e3 := Aw.s_nil.mp e2
      rw [e3]
      walk_at "run"
      refine Bs.lenB (by decide) ?_
      exact q.1 e3
    have e3 : ad ≠ [] := fun z => e2 (Aw.s_nil.mpr z)
    have q := q.2 e3
    walk_at "run"
    refine Gx.ixL (SqL.of hv.g0) (atI_nat (Ar.sv_get (by omega))) ?_
    walk_at "run"
    refine Gx.addS (by rw [Bs.len, Bs.len, sizeLine_eq]; omega) ?_
    rw [Bs.cat]
    rw [← lk, Dx.ky_ix (by omega) l5 (by omega)] at hp'
    have hp3 : H p = some (.tup [.int ((n / (Gd.ac w t * Gd.ac h t) % c : Nat) : Int), .int ((n % (Gd.ac w t * Gd.ac h t) : Nat) : Int), .int ((d - 1 - n / (Gd.ac w t * Gd.ac h t) / c : Nat) : Int)]) := hp'
    walk_at "run"
    refine cs_known_in_packet fr D hp3 (Nat.mod_lt _ l5) (by rw [List.length_append]; omega) (fun pr H1 s1 kn => ?_) (fun kn => q.1 kn)
    obtain ⟨R1, hv1, sR1, _⟩ := hv.grow s1
    have hx1 := s1 _ _ hx
    walk_at "run"
    refine Gx.setL (j := n) hv1.g1 (by rw [Ar.sv_len, hpn]; unfold ixN; rw [if_pos (by omega), if_pos (by omega)]; exact congrArg some (Int.toNat_natCast _)) ?_
    rw [Ar.sv_set]
    have hv2 := hv1.p1 (u := .lst (Ar.sv (ps.set n pr)))
    have hx2 : upd H1 pl (.lst (Ar.sv (ps.set n pr))) x = some (.ins T.a_Arrived dx (fl_Arrived (.ref f) (.ref dl) (.ref pl))) := by
      rw [upd_ne (ne_of hx1 hv1.g1 (by intro z; cases z))]; exact hx1
    generalize upd H1 pl (.lst (Ar.sv (ps.set n pr))) = H2 at hv2 hx2 ⊢
    walk_at "run"
    refine Gx.setL (j := n) hv2.g0 (by rw [Ar.sv_len, hdn]; unfold ixN; rw [if_pos (by omega), if_pos (by omega)]; exact congrArg some (Int.toNat_natCast _)) ?_
    rw [Ar.sv_set]
    have hv3 := hv2.p0 (u := .lst (Ar.sv (ds.set n (ds.getD n [] ++ ad))))
    walk_at "run"
    refine Bs.lenB (by omega) ?_
    exact q.2 pr R1 _ sR1 kn hv3

noncomputable def sp_key_at (C : Addr) : Sp := fun vs H Q _ => ∃ (x : Addr) (w h d c t k : Nat), vs = [.ref x, .int (k : Int)] ∧ Frm C H x w h d c t ∧ 1 ≤ t ∧ t ≤ 16 ∧ 1 ≤ w ∧ w ≤ 64 ∧ 1 ≤ h ∧ h ≤ 64 ∧ 1 ≤ c ∧ c ≤ 3 ∧ ∀ p H', Same H H' → H' p = some (.tup ((Gd.ky (Gd.ac w t * Gd.ac h t) c d k).map V.int)) → Q (.ref p) H'

theorem sc_key_at : FnScope ["frame", "number", "rows", "tile", "higher_planes", "channel"] ["frame", "number"] (defScope s_key_at) := ⟨rfl, rfl, rfl, by decide +kernel, rfl, by decide +kernel, by decide +kernel⟩
theorem ok_key_at (T : Tx P K mg) : FnOk P w K mg base CX0 3 T.key_at.a T.key_at.d ["frame", "number"] (sp_key_at T.a_Frame) := by
  refine T.key_at.f.ok sc_key_at (fun vs H Q E h => ?_) (fun cdv A outer s H vs Q E hr h => ⟨_, pss_cons (ps_asg (pe_callB Gx.c_divmod rfl T.n_divmod (by decide +kernel) (pa_cons (pv 1) (pa_cons (pe_meth0 (pv 0) T.cl_Frame T.Frame_tiles.m (ok_Frame_tiles T) (hr.mono (by decide)) T.Frame_tiles.b .nil pass0) pa_nil))) (pg_tup rfl (pgs_cons (pg_name (i := 2) sc_key_at.nd rfl (Or.inl rfl)) (pgs_cons (pg_name (i := 3) sc_key_at.nd rfl (Or.inl rfl)) pgs_nil))))
      (pss_cons (ps_asg (pe_callB Gx.c_divmod rfl T.n_divmod (by decide +kernel) (pa_cons (pv 2) (pa_cons (pe_fld (pv 0) rfl) pa_nil))) (pg_tup rfl (pgs_cons (pg_name (i := 4) sc_key_at.nd rfl (Or.inl rfl)) (pgs_cons (pg_name (i := 5) sc_key_at.nd rfl (Or.inl rfl)) pgs_nil))))
      (pss_one (ps_ret (pe_tup (pa_cons (pv 5) (pa_cons (pv 3) (pa_cons (pe_op op_sub (pe_op op_sub (pe_fld (pv 0) rfl) (pe_int)) (pv 4)) pa_nil))))))), ?_⟩)
  · obtain ⟨x, w, h, d, c, t, k, rfl, _⟩ := h
    rfl
  · skip
    obtain ⟨x, w, h, d, c, t, k, rfl, fr, ht1, ht2, hw1, hw, hh1, hh, hc1, hc, q⟩ := h
    have l1 := Gd.ac_le (n := w) (t := t) (by omega)
    have l2 := Gd.ac_le (n := h) (t := t) (by omega)
    have p1 := Gd.ac_pos (n := w) (t := t) (by omega) (by omega)
    have p2 := Gd.ac_pos (n := h) (t := t) (by omega) (by omega)
    have p3 : 0 < Gd.ac w t * Gd.ac h t := Nat.mul_pos p1 p2
    have l4 : Gd.ac w t * Gd.ac h t ≤ 64 * 64 := Nat.mul_le_mul (by omega) (by omega)
    obtain ⟨dx, hx⟩ := id fr
    walk_at "go"
    refine Gx.mp hx no_Frame_tiles ?_
    walk_at "go"
    refine cp_Frame_tiles fr ht1 ht2 hw hh ?_
    walk_at "go"
    refine Gx.dvm ⟨by omega, by omega⟩ fun pa hpa => ?_
    walk_at "go"
    refine Gx.gtup (SqT.of upd_same) rfl ?_
    have s1 := Gx.same_new (o := .tup [.int ((k : Int) / ((Gd.ac w t * Gd.ac h t : Nat) : Int)), .int ((k : Int) % ((Gd.ac w t * Gd.ac h t : Nat) : Int))]) hpa
    have hx := s1 _ _ hx
    walk_at "go"
    refine Gx.dvm ⟨by omega, by omega⟩ fun pb hpb => ?_
    walk_at "go"
    refine Gx.gtup (SqT.of upd_same) rfl ?_
    have s2 := Gx.same_new (o := .tup [.int ((k : Int) / ((Gd.ac w t * Gd.ac h t : Nat) : Int) / (c : Int)), .int ((k : Int) / ((Gd.ac w t * Gd.ac h t : Nat) : Int) % (c : Int))]) hpb
    have hx := s2 _ _ hx
    walk_at "go"
    refine Gx.tupP (by show 3 ≤ sizeLine; decide) fun p hp => ?_
    exact q p _ (s1.trans (s2.trans (Gx.same_new hp))) upd_same

noncomputable def sp_Frame_packets (C : Addr) : Sp := fun vs H Q _ => ∃ (x : Addr) (w h d c t : Nat), vs = [.ref x] ∧ Frm C H x w h d c t ∧ 1 ≤ t ∧ t ≤ 16 ∧ w ≤ 64 ∧ h ≤ 64 ∧ d ≤ 8 ∧ c ≤ 3 ∧ Q (.int (d * c * (Gd.ac w t * Gd.ac h t) : Nat)) H

theorem sc_Frame_packets : FnScope ["self"] ["self"] (defScope s_Frame_packets) := ⟨rfl, rfl, rfl, by decide +kernel, rfl, by decide +kernel, by decide +kernel⟩
theorem ok_Frame_packets (T : Tx P K mg) : FnOk P w K mg base CX0 3 T.Frame_packets.a T.Frame_packets.d ["self"] (sp_Frame_packets T.a_Frame) := by
  refine T.Frame_packets.f.ok sc_Frame_packets (fun vs H Q E h => ?_) (fun cdv A outer s H vs Q E hr h => ⟨_, pss_one (ps_ret (pe_op op_mul (pe_op op_mul (pe_fld (pv 0) rfl) (pe_fld (pv 0) rfl)) (pe_meth0 (pv 0) T.cl_Frame T.Frame_tiles.m (ok_Frame_tiles T) (hr.mono (by decide)) T.Frame_tiles.b .nil pass0))), ?_⟩)
  · obtain ⟨x, w, h, d, c, t, rfl, _⟩ := h
    rfl
  · skip
    obtain ⟨x, w, h, d, c, t, rfl, ⟨dx, hx⟩, ht1, ht2, hw, hh, hd, hc, q⟩ := h
    have l1 : d * c ≤ 8 * 3 := Nat.mul_le_mul hd hc
    walk_at "go"
    refine Gx.ic (.inl (by omega)) ?_
    walk_at "go"
    refine Gx.mp hx no_Frame_tiles ?_
    walk_at "go"
    refine cp_Frame_tiles ⟨dx, hx⟩ ht1 ht2 hw hh ?_
    rw [← Int.natCast_mul]
    refine Gx.ic (.inl (by omega)) ?_
    rw [← Int.natCast_mul]
    exact q

theorem cp_Frame_packets {C x : Addr} {w h d c t : Nat} {H : Hp} {Q : VK} {E : XK} (f : Frm C H x w h d c t) (h1 : 1 ≤ t) (h2 : t ≤ 16) (hw : w ≤ 64) (hh : h ≤ 64) (hd : d ≤ 8) (hc : c ≤ 3) (q : Q (.int (d * c * (Gd.ac w t * Gd.ac h t) : Nat)) H) : Gx.CP (sp_Frame_packets C) [.ref x] [] H Q E := ⟨x, w, h, d, c, t, rfl, f, h1, h2, hw, hh, hd, hc, q⟩

noncomputable def sp_unpack (K : PySem.W.Frag) : Sp := fun vs H Q _ => ∃ (p : Addr) (xs : List Nat) (n : Nat), vs = [.ref p, .int (n : Int)] ∧ SqL K H p (xs.map fun v : Nat => V.int (v : Int)) ∧ xs.length ≤ 10000 ∧ ∀ H', Same H H' → Q (.str (Bs.S ((Pk.un xs).take n))) H'

theorem sc_unpack : FnScope ["row", "count", "bits", "byte"] ["row", "count"] (defScope s_unpack) := ⟨rfl, rfl, rfl, by decide +kernel, rfl, by decide +kernel, by decide +kernel⟩
theorem ok_unpack (T : Tx P K mg) : FnOk P w K mg base CX0 2 T.unpack.a T.unpack.d ["row", "count"] (sp_unpack K) := by
  refine T.unpack.f.ok sc_unpack (fun vs H Q E h => ?_) (fun cdv A outer s H vs Q E hr h => ⟨_, pss_cons (ps_set (i := 2) sc_unpack.nd rfl (Or.inl rfl) (pe_join (pe_str) (pe_lc (own := [("byte", 3)]) (g := (gName 3)) (tt := tYes) rfl sc_unpack.nd (pi_list (pv 0)) (blkOk_by (own := [("byte", 3)]) (N := ["row", "count", "bits", "byte"]) (sc := defScope s_unpack) (by decide +kernel)) (fun _ _ _ _ _ => (pg_name (i := 3) sc_unpack.nd rfl (Or.inl rfl))) (fun _ _ _ _ _ => pts_nil) (fun _ _ _ _ _ => pe_call (ok_digits_of T) (hr.mono (by decide)) rfl T.digits_of.g T.digits_of.f.kp T.digits_of.b .nil pass0 (pa_cons (pv 3) (pa_cons (pe_int) pa_nil))))))
      (pss_one (ps_ret (pe_slice sl_str (pv 2) po_none (po_some (pv 1))))), ?_⟩)
  · obtain ⟨p, xs, n, rfl, _⟩ := h
    rfl
  · skip
    obtain ⟨p, xs, n, rfl, hp, hl, q⟩ := h
    walk_at "go"
    refine Gx.lp hp ?_
    refine Gx.lcMap walk_list (by rw [List.length_map]; omega) (fun i => V.str (Bs.S (Fb.bin 8 (xs.getD i 0)))) (fun _ s => s.seq hp) Gx.sameAt ?_ ?_
    · rintro i x H3 H3' R R0 hi s3 ⟨rfl, hx⟩ hr
      rw [List.length_map] at hi
      rw [List.getElem?_map, List.getElem?_eq_getElem hi] at hx
      cases hx
      walk_at "go"
      refine cp_digits_of (by omega) (by omega) (by omega) ?_
      rw [Int.toNat_natCast]
      have := hr _ (Same.refl _)
      rw [show xs.getD i 0 = xs[i] by rw [List.getD_eq_getElem?_getD, List.getElem?_eq_getElem hi]; rfl] at this
      exact this
    intro pl H3 hpl s3 hL
    rw [List.length_map] at hL
    have hL2 : H3 pl = some (.lst ((xs.map (Fb.bin 8)).map fun r => V.str (Bs.S r))) := by
      rw [hL, List.map_map]
      congr 2
      refine List.ext_getElem (by simp) fun i h1 h2 => ?_
      rw [List.length_map, List.length_range] at h1
      rw [List.getElem_map, List.getElem_map, List.getElem_range, List.getD_eq_getElem?_getD, List.getElem?_eq_getElem h1]
      rfl
    refine ⟨_, pl, (xs.map (Fb.bin 8)).map Bs.S, rfl, rfl, .inl (by rw [List.map_map]; exact SqL.of hL2), Pk.joinN (fun r hr => by obtain ⟨v, _, rfl⟩ := List.mem_map.mp hr; rw [Fb.bin_len]; omega) (by rw [List.length_map]; omega), ?_⟩
    rw [Pk.joinE, show (xs.map (Fb.bin 8)).flatten = Pk.un xs from rfl]
    walk_at "go"
    have hul := Pk.un_len xs
    refine Gx.slS (by rw [Bs.len, sizeLine_eq]; show (Pk.un xs).length ≤ _; omega) ?_
    rw [Bs.cut_hi]
    exact q _ s3

theorem cp_unpack {K : PySem.W.Frag} {p : Addr} {xs : List Nat} {n : Nat} {H : Hp} {Q : VK} {E : XK} (hp : SqL K H p (xs.map fun v : Nat => V.int (v : Int))) (hl : xs.length ≤ 10000) (q : ∀ H', Same H H' → Q (.str (Bs.S ((Pk.un xs).take n))) H') : Gx.CP (sp_unpack K) [.ref p, .int (n : Int)] [] H Q E := ⟨p, xs, n, rfl, hp, hl, q⟩

noncomputable def sp_number_at (K : PySem.W.Frag) : Sp := fun vs H Q _ => ∃ (p : Addr) (xs : List Nat) (k : Nat), vs = [.ref p, .int (k : Int)] ∧ SqL K H p (Rd.W xs) ∧ k + 1 < xs.length ∧ Q (.int ((xs.getD k 0 * 256 + xs.getD (k + 1) 0 : Nat) : Int)) H

theorem sc_number_at : FnScope ["row", "at"] ["row", "at"] (defScope s_number_at) := ⟨rfl, rfl, rfl, by decide +kernel, rfl, by decide +kernel, by decide +kernel⟩
theorem ok_number_at (T : Tx P K mg) : FnOk P w K mg base CX0 1 T.number_at.a T.number_at.d ["row", "at"] (sp_number_at K) := by
  refine T.number_at.f.ok sc_number_at (fun vs H Q E h => ?_) (fun cdv A outer s H vs Q E hr h => ⟨_, pss_one (ps_ret (pe_op op_add (pe_op op_mul (pe_ix (Gx.ix_seqK (K := K) rfl) (pv 0) (pv 1) (fun _ _ => rfl)) (pe_int)) (pe_ix (Gx.ix_seqK (K := K) rfl) (pv 0) (pe_op op_add (pv 1) (pe_int)) (fun _ _ => rfl)))), ?_⟩)
  · obtain ⟨p, xs, k, rfl, _⟩ := h
    rfl
  · skip
    obtain ⟨p, xs, k, rfl, hp, hk, q⟩ := h
    walk_at "go"
    refine Gx.ixL hp (Rd.W_get (by omega)) ?_
    walk_at "go"
    refine Gx.ic (.inr (by decide)) ?_
    walk_at "go"
    rw [show ((k : Int) + 1) = ((k + 1 : Nat) : Int) by omega]
    refine Gx.ixL hp (Rd.W_get hk) ?_
    walk_at "go"
    rw [Int.natCast_add, Int.natCast_mul] at q
    exact q

theorem cp_number_at {K : PySem.W.Frag} {p : Addr} {xs : List Nat} {k : Nat} {H : Hp} {Q : VK} {E : XK} (hp : SqL K H p (Rd.W xs)) (hk : k + 1 < xs.length) (q : Q (.int ((xs.getD k 0 * 256 + xs.getD (k + 1) 0 : Nat) : Int)) H) : Gx.CP (sp_number_at K) [.ref p, .int (k : Int)] [] H Q E := ⟨p, xs, k, rfl, hp, hk, q⟩

noncomputable def sp_is_marked (K : PySem.W.Frag) : Sp := fun vs H Q _ => ∃ (p : Addr) (xs : List Nat) (m : Nat), vs = [.ref p, .int (m : Int)] ∧ SqL K H p (Rd.W xs) ∧ xs.length = 32 ∧ Q (.bl (decide (xs.getD 0 0 = m) && decide (xs.getD 31 0 = m))) H

theorem sc_is_marked : FnScope ["block", "mark"] ["block", "mark"] (defScope s_is_marked) := ⟨rfl, rfl, rfl, by decide +kernel, rfl, by decide +kernel, by decide +kernel⟩
theorem ok_is_marked (T : Tx P K mg) : FnOk P w K mg base CX0 1 T.is_marked.a T.is_marked.d ["block", "mark"] (sp_is_marked K) := by
  refine T.is_marked.f.ok sc_is_marked (fun vs H Q E h => ?_) (fun cdv A outer s H vs Q E hr h => ⟨_, pss_one (ps_ret (Gx.pe_andW (pe_and (pe_cmpR op_eq (pe_ix (Gx.ix_seqK (K := K) rfl) (pv 0) (pe_int) (fun _ _ => rfl)) (pv 1) (nomark _)) (pe_one (pe_cmpR op_eq (pe_ix (Gx.ix_seqK (K := K) rfl) (pv 0) (pe_un un_neg (pe_int)) (fun _ _ => rfl)) (pv 1) (nomark _)))))), ?_⟩)
  · obtain ⟨p, xs, m, rfl, _⟩ := h
    rfl
  · skip
    obtain ⟨p, xs, m, rfl, hp, hl, q⟩ := h
    have e0 : ∀ k, decide (((xs.getD k 0 : Nat) : Int) = (m : Int)) = decide (xs.getD k 0 = m) := fun k => decide_eq_decide.mpr (by omega)
    walk_at "go"
    refine Gx.ixL hp (Rd.W_get (k := 0) (by omega)) ?_
    walk_at "go"
    rw [e0]
    refine Gx.andp (d := decide (xs.getD 31 0 = m)) (fun R r => ?_) q
    walk_at "go"
    refine Gx.ixL hp (Rd.W_last hl) ?_
    walk_at "go"
    rw [e0]
    exact r

theorem cp_is_marked {K : PySem.W.Frag} {p : Addr} {xs : List Nat} {m : Int} {H : Hp} {Q : VK} {E : XK} (hp : SqL K H p (Rd.W xs)) (hl : xs.length = 32) (hm : 0 ≤ m) (q : Q (.bl (decide (xs.getD 0 0 = m.toNat) && decide (xs.getD 31 0 = m.toNat))) H) : Gx.CP (sp_is_marked K) [.ref p, .int m] [] H Q E := ⟨p, xs, m.toNat, by rw [List.append_nil, Int.toNat_of_nonneg hm], hp, hl, q⟩

noncomputable def sp_decode_record (K : PySem.W.Frag) : Sp := fun vs H Q _ => ∃ (p : Addr) (xs : List Nat), vs = [.ref p] ∧ SqL K H p (Rd.W xs) ∧ xs.length = 32 ∧ ∀ v H', Same H H' → Rd.Told (Rd.dec xs) v H' → Q v H'

theorem sc_decode_record : FnScope ["block", "count"] ["block"] (defScope s_decode_record) := ⟨rfl, rfl, rfl, by decide +kernel, rfl, by decide +kernel, by decide +kernel⟩
theorem ok_decode_record (T : Tx P K mg) : FnOk P w K mg base CX0 3 T.decode_record.a T.decode_record.d ["block"] (sp_decode_record K) := by
  refine T.decode_record.f.ok sc_decode_record (fun vs H Q E h => ?_) (fun cdv A outer s H vs Q E hr h => ⟨_, pss_cons (ps_set (i := 1) sc_decode_record.nd rfl (Or.inl rfl) (pe_ix (Gx.ix_seqK (K := K) rfl) (pv 0) (pe_glob (v := .int 5) rfl T.c_COUNT_AT ⟨_, rfl⟩) (fun _ _ => rfl)))
      (pss_cons (ps_if (PW.pt (pw_or (pt_not (pt_val (pe_call (ok_is_marked T) (hr.mono (by decide)) rfl T.is_marked.g T.is_marked.f.kp T.is_marked.b .nil pass0 (pa_cons (pv 0) (pa_cons (pe_glob (v := .int 75) rfl T.c_RECORD_MARK ⟨_, rfl⟩) pa_nil))))) (pw_or (pt_cmpR op_lt (pv 1) (pe_int) (nomark _)) (pw_or1 (pt_cmpR op_gt (pv 1) (pe_glob (v := .int 160) rfl T.c_RECORD_MOST ⟨_, rfl⟩) (nomark _)))))) (pss_one (ps_ret (pe_non))) (pss_nil))
      (pss_one (ps_ret (pe_tup (pa_cons (pe_call (ok_number_at T) (hr.mono (by decide)) rfl T.number_at.g T.number_at.f.kp T.number_at.b .nil pass0 (pa_cons (pv 0) (pa_cons (pe_int) pa_nil))) (pa_cons (pe_call (ok_number_at T) (hr.mono (by decide)) rfl T.number_at.g T.number_at.f.kp T.number_at.b .nil pass0 (pa_cons (pv 0) (pa_cons (pe_int) pa_nil))) (pa_cons (pe_call (ok_unpack T) (hr.mono (by decide)) rfl T.unpack.g T.unpack.f.kp T.unpack.b .nil pass0 (pa_cons (pe_slice (Gx.sl_listK (K := K) rfl) (pv 0) (po_some (pe_glob (v := .int 6) rfl T.c_DIGITS_AT ⟨_, rfl⟩)) (po_some (pe_un un_neg (pe_int)))) (pa_cons (pv 1) pa_nil))) pa_nil))))))), ?_⟩)
  · obtain ⟨p, xs, rfl, _⟩ := h
    rfl
  · skip
    obtain ⟨p, xs, rfl, hp, hl, q⟩ := h
    walk_at "go"
    refine Gx.ixL hp (Rd.W_get (k := 5) (by omega)) ?_
    walk_at "go"
    refine cp_is_marked hp hl (by decide) ?_
    have no : ∀ h : ¬ (xs.getD 0 0 = 75 ∧ xs.getD 31 0 = 75 ∧ 1 ≤ xs.getD 5 0 ∧ xs.getD 5 0 ≤ 160), Q .non H := fun h => q _ _ (Same.refl _) (by unfold Rd.dec; rw [if_neg h]; rfl)
    walk_at "go"
    refine Gx.if_b (fun c => ?_) (fun c => ?_)
    · walk_at "go"
      refine no fun ⟨a, b, _⟩ => ?_
      rw [show (75 : Int).toNat = 75 from rfl, a, b] at c
      cases c
    walk_at "go"
    have c2 : xs.getD 0 0 = 75 ∧ xs.getD 31 0 = 75 := by
      rw [show (75 : Int).toNat = 75 from rfl] at c
      simpa using c
    refine Gx.if_d (fun d => ?_) (fun d => ?_)
    · walk_at "go"
      exact no fun ⟨_, _, a, _⟩ => by omega
    walk_at "go"
    refine Gx.if_d (fun f => ?_) (fun f => ?_)
    · walk_at "go"
      exact no fun ⟨_, _, _, a⟩ => by omega
    walk_at "go"
    refine cp_number_at (k := 1) hp (by omega) ?_
    walk_at "go"
    refine cp_number_at (k := 3) hp (by omega) ?_
    walk_at "go"
    refine Gx.slL hp fun r hr => ?_
    rw [Rd.cut_mid hl]
    walk_at "go"
    have m1 := Gx.same_new (o := .lst (Rd.W ((xs.drop 6).take 25))) hr
    refine cp_unpack (K := K) (xs := (xs.drop 6).take 25) (SqL.of upd_same) (by rw [List.length_take, List.length_drop]; omega) fun H2 m2 => ?_
    rw [Rd.more hl (by omega)]
    walk_at "go"
    refine Gx.tupP (by show 3 ≤ sizeLine; decide) fun t ht => ?_
    refine q _ _ (m1.trans (m2.trans (Gx.same_new ht))) ?_
    unfold Rd.dec
    rw [if_pos ⟨c2.1, c2.2, by omega, by omega⟩]
    exact ⟨t, rfl, upd_same⟩

theorem cp_decode_record {K : PySem.W.Frag} {p : Addr} {xs : List Nat} {H : Hp} {Q : VK} {E : XK} (hp : SqL K H p (Rd.W xs)) (hl : xs.length = 32) (q : ∀ v H', Same H H' → Rd.Told (Rd.dec xs) v H' → Q v H') : Gx.CP (sp_decode_record K) [.ref p] [] H Q E := ⟨p, xs, rfl, hp, hl, q⟩

noncomputable def sp_Disk_read (K : PySem.W.Frag) (CE C : Addr) : Sp := fun vs H Q E => ∃ (R : Hp) (x : Addr) (rest : List (Addr × HO)) (s : Dk.St) (n m : Nat) (z : Int), vs = [.ref x, .int z] ∧ Dsk C R H x rest s ∧ Dk.Wf n m s ∧ m ≤ 1000 ∧ (0 ≤ z → z < n → ∀ p H', H p = none → Same H H' → H' p = some (.lst ((Dk.rd s z.toNat).map V.int)) → Q (.ref p) H') ∧ (¬ (0 ≤ z ∧ z < n) → Sx.Err CE H "at" E)

theorem sc_Disk_read : FnScope ["self", "at", "found", "place", "block"] ["self", "at"] (defScope s_Disk_read) := ⟨rfl, rfl, rfl, by decide +kernel, rfl, by decide +kernel, by decide +kernel⟩
theorem ok_Disk_read (T : Tx P K mg) : FnOk P w K mg base (L2.CX P w) 5 T.Disk_read.a T.Disk_read.d ["self", "at"] (sp_Disk_read K T.x_OutOfRange.C T.a_Disk) := by
  refine T.Disk_read.f.okX sc_Disk_read (fun vs H Q E h => ?_) (fun cdv A outer s H vs Q E hr h => ⟨_, pss_cons (ps_expr (Sx.pe_methS (pv 0) T.cl_Disk T.Disk__check_at.m (ok_Disk__check_at T) (hr.mono (by decide)) T.Disk__check_at.b (fun σ => passAt (takes_of rfl rfl rfl rfl) σ) (pa_cons (pv 1) pa_nil)))
      (pss_cons (ps_set (i := 2) sc_Disk_read.nd rfl (Or.inl rfl) (pe_ix (Gx.ix_seqK (K := K) rfl) (pe_fld (pv 0) rfl) (pv 1) (fun _ _ => rfl)))
      (pss_cons (ps_for (passes_of rfl) rfl (pi_list (pe_fld (pv 0) rfl)) (pg_tup rfl (pgs_cons (pg_name (i := 3) sc_Disk_read.nd rfl (Or.inl rfl)) (pgs_cons (pg_name (i := 4) sc_Disk_read.nd rfl (Or.inl rfl)) pgs_nil)))
      (pss_one (ps_if (pt_cmpR op_eq (pv 3) (pv 1) (nomark _)) (pss_one (ps_set (i := 2) sc_Disk_read.nd rfl (Or.inl rfl) (pv 4))) (pss_nil))))
      (pss_one (ps_ret (pe_callTy (Gx.c_listK (K := K) rfl) rfl T.n_list (by decide +kernel) (pa_cons (pv 2) pa_nil)))))), ?_⟩)
  · obtain ⟨R, x, rest, s, n, m, z, rfl, _⟩ := h
    rfl
  · skip
    obtain ⟨R, x, rest, s, n, m, z, rfl, ds, w, hm, q, qe⟩ := h
    have ds0 := ds
    obtain ⟨dx, pb, pp, pt, vb, vp, hv, hb, hp, ht⟩ := ds
    have hx := hv.g0
    have hpb := hv.g1
    have hpp := hv.g2
    walk_at "run"
    refine Sx.mts hx no_Disk__check_at ?_
    walk_at "run"
    refine cs_Disk__check_at ds0 w (fun e1 e2 => ?_) qe
    obtain ⟨z, rfl⟩ : ∃ m : Nat, z = m := ⟨z.toNat, by omega⟩
    have q := q e1 e2
    rw [Int.toNat_natCast] at q
    obtain ⟨ba, hba, hbv⟩ := hb.get (i := z) (by rw [w.bn]; omega)
    walk_at "run"
    refine Gx.ixL (SqL.of hpb) (atI_nat hba) ?_
    walk_at "run"
    refine Gx.lp (SqL.of hpp) ?_
    refine Gx.fw (walk_list (xs := vp)) (fun i σ' H' => H' = H ∧ ∃ (fa : Addr) (v3 v4 : Option V), R fa = some (.lst (((s.pe.take i).foldl (fun f e => if e.1 = z then e.2 else f) (s.bl.getD z [])).map V.int)) ∧ σ' = [some (.ref x), some (.int (z : Int)), some (.ref fa), v3, v4]) ⟨rfl, ba, none, none, hbv, rfl⟩ (fun i σ' H' _ hh => by rw [hh.1]; exact SqL.of hpp) ?_ ?_
    · rintro i y σ' H2 H2' hi ⟨rfl, fa, v3, v4, hfa, rfl⟩ ⟨rfl, hy⟩
      obtain ⟨tq, aq, e, rfl, he, h1, h2⟩ := hp.2 i y hy
      have htk : s.pe.take (i + 1) = s.pe.take i ++ [e] := by rw [List.take_add_one, he]; rfl
      have h1' := hv.same _ _ h1
      obtain ⟨at', bq⟩ := e
      dsimp only at *
      walk_at "run"
      refine Gx.if_d (fun e => ?_) (fun e => ?_)
      · walk_at "run"
        refine ⟨rfl, aq, _, _, ?_, rfl⟩
        rw [htk, List.foldl_append]
        show R aq = some (.lst ((if at' = z then bq else _).map V.int))
        rw [if_pos (by omega)]
        exact h2
      · walk_at "run"
        refine ⟨rfl, fa, _, _, ?_, rfl⟩
        rw [htk, List.foldl_append]
        show R fa = some (.lst ((if at' = z then bq else _).map V.int))
        rw [if_neg (by omega)]
        exact hfa
    rintro σ' H2 ⟨rfl, fa, v3, v4, hfa, rfl⟩
    rw [List.take_of_length_le (by rw [hp.1]; exact Nat.le_refl _)] at hfa
    walk_at "run"
    exact Nx.listL0 (SqL.of (hv.same _ _ hfa)) fun p H' n' s' h' => q p H' n' s' h'

theorem cp_Disk_read {K : PySem.W.Frag} {CE C x : Addr} {R H : Hp} {rest : List (Addr × HO)} {s : Dk.St} {n m z : Nat} {Q : VK} {E : XK} (ds : Dsk C R H x rest s) (w : Dk.Wf n m s) (hm : m ≤ 1000) (hz : z < n) (q : ∀ p H', H p = none → Same H H' → H' p = some (.lst ((Dk.rd s z).map V.int)) → Q (.ref p) H') : Gx.CP (sp_Disk_read K CE C) [.ref x, .int (z : Int)] [] H Q E := ⟨R, x, rest, s, n, m, z, rfl, ds, w, hm, fun _ _ => q, fun e => absurd ⟨by omega, by omega⟩ e⟩

noncomputable def sp_Arrived_init (C CF : Addr) : Sp := fun vs H Q _ => ∃ (H0 R0 : Hp) (rest : List (Addr × HO)) (x dx f : Addr) (w h d c t : Nat), vs = [.ref x, .ref f] ∧ H x = some (.ins C dx []) ∧ Same H0 H ∧ H0 x = none ∧ Mv.Hv R0 H0 rest ∧ Frm CF R0 f w h d c t ∧ Rg.Dim w h d c t ∧
  ∀ dl pl R H', Same R0 R → Ao C CF R x f dl pl w h d c t → Mv.Hv R H' ((dl, .lst (Ar.sv (List.replicate (d * c * (Gd.ac w t * Gd.ac h t)) []))) :: (pl, .lst (Ar.sv (List.replicate (d * c * (Gd.ac w t * Gd.ac h t)) []))) :: rest) → Q .non H'

theorem sc_Arrived___init__ : FnScope ["self", "frame"] ["self", "frame"] (defScope s_Arrived___init__) := ⟨rfl, rfl, rfl, by decide +kernel, rfl, by decide +kernel, by decide +kernel⟩
theorem ok_Arrived___init__ (T : Tx P K mg) : FnOk P w K mg base CX0 5 T.Arrived___init__.a T.Arrived___init__.d ["self", "frame"] (sp_Arrived_init T.a_Arrived T.a_Frame) := by
  refine T.Arrived___init__.f.ok sc_Arrived___init__ (fun vs H Q E h => ?_) (fun cdv A outer s H vs Q E hr h => ⟨_, pss_cons (ps_fld (pv 0) (pv 1) rfl)
      (pss_cons (ps_fld (pv 0) (pe_op Gx.o_rep (pe_lst (pa_cons (pe_str) pa_nil)) (pe_meth0 (pv 1) T.cl_Frame T.Frame_packets.m (ok_Frame_packets T) (hr.mono (by decide)) T.Frame_packets.b .nil pass0)) rfl)
      (pss_one (ps_fld (pv 0) (pe_op Gx.o_rep (pe_lst (pa_cons (pe_str) pa_nil)) (pe_meth0 (pv 1) T.cl_Frame T.Frame_packets.m (ok_Frame_packets T) (hr.mono (by decide)) T.Frame_packets.b .nil pass0)) rfl))), ?_⟩)
  · obtain ⟨H0, R0, rest, x, dx, f, w, h, d, c, t, rfl, _⟩ := h
    rfl
  · skip
    obtain ⟨H0, R0, rest, x, dx, f, w, h, d, c, t, rfl, hx, s0, h0, hv0, fr, D, q⟩ := h
    obtain ⟨a1, a2, a3, a4, a5, a6, a7, a8, a9, a10⟩ := id D
    obtain ⟨l1, l2, l3, l4, l5, l6, l7⟩ := D.ok
    have hN : d * c * (Gd.ac w t * Gd.ac h t) ≤ 8 * 3 * (64 * 64) := Nat.mul_le_mul (Nat.mul_le_mul a6 (by omega)) l6
    obtain ⟨R1, hv1, sR1⟩ := hv0.more h0 s0 hx
    have fr1 := fr.keep sR1
    walk_at "run"
    refine Gx.sfp hx T.cl_Arrived T.na_Arrived_frame (by walk_at "few") rfl ?_
    have hv2 := hv1.p0 (u := .ins T.a_Arrived dx (putF "frame" (.ref f) []))
    generalize upd H x (.ins T.a_Arrived dx (putF "frame" (.ref f) [])) = H2 at hv2 ⊢
    obtain ⟨df, hf⟩ := id (fr1.keep hv2.same)
    walk_at "run"
    refine Nx.lst0 (by show 1 ≤ sizeLine; decide) fun p3 H3 n3 s3 h3 => ?_
    obtain ⟨R3, hv3, sR3, _⟩ := hv2.grow s3
    have fr3 := fr1.keep sR3
    walk_at "run"
    refine Gx.mp (s3 _ _ hf) no_Frame_packets ?_
    walk_at "run"
    refine cp_Frame_packets (fr3.keep hv3.same) a8 a9 a2 a4 a6 (by omega) ?_
    generalize hNN : d * c * (Gd.ac w t * Gd.ac h t) = N at *
    refine Nx.repN0 (n := N) h3 (by omega) fun dl H4 n4 s4 h4 => ?_
    rw [← Ar.sv_rep] at h4
    obtain ⟨R4, hv4, sR4⟩ := hv3.more n4 s4 h4
    have fr4 := fr3.keep sR4
    have hx4 := hv4.g1
    walk_at "run"
    refine Gx.sfp hx4 T.cl_Arrived T.na_Arrived__digits (by walk_at "few") rfl ?_
    have hv5 := hv4.p1 (u := .ins T.a_Arrived dx (putF "_digits" (.ref dl) (putF "frame" (.ref f) [])))
    generalize upd H4 x (.ins T.a_Arrived dx (putF "_digits" (.ref dl) (putF "frame" (.ref f) []))) = H5 at hv5 ⊢
    obtain ⟨df5, hf5⟩ := id (fr4.keep hv5.same)
    walk_at "run"
    refine Nx.lst0 (by show 1 ≤ sizeLine; decide) fun p6 H6 n6 s6 h6 => ?_
    obtain ⟨R6, hv6, sR6, _⟩ := hv5.grow s6
    have fr6 := fr4.keep sR6
    walk_at "run"
    refine Gx.mp (s6 _ _ hf5) no_Frame_packets ?_
    walk_at "run"
    refine cp_Frame_packets (fr6.keep hv6.same) a8 a9 a2 a4 a6 (by omega) ?_
    rw [hNN]
    refine Nx.repN0 (n := N) h6 (by omega) fun pl H7 n7 s7 h7 => ?_
    rw [← Ar.sv_rep] at h7
    obtain ⟨R7, hv7, sR7⟩ := hv6.more n7 s7 h7
    have fr7 := fr6.keep sR7
    have hx7 := hv7.g2
    walk_at "run"
    refine Gx.sfp hx7 T.cl_Arrived T.na_Arrived__prefixes (by walk_at "few") rfl ?_
    have hv8 := hv7.p2 (u := .ins T.a_Arrived dx (putF "_prefixes" (.ref pl) (putF "_digits" (.ref dl) (putF "frame" (.ref f) []))))
    rw [ini_Arrived] at hv8 ⊢
    obtain ⟨R9, hv9, sR9, hx9⟩ := hv8.rot3.less
    have sA := sR1.trans (sR3.trans (sR4.trans (sR6.trans (sR7.trans sR9))))
    exact q dl pl R9 _ sA ⟨⟨dx, hx9⟩, fr7.keep sR9⟩ hv9

theorem mk_Arrived {C CF : Addr} {R : Hp} {rest : List (Addr × HO)} {f : Addr} {w h d c t : Nat} {H : Hp} {Q : VK} {E : XK} (hv : Mv.Hv R H rest) (fr : Frm CF R f w h d c t) (D : Rg.Dim w h d c t) (q : ∀ x dl pl R' H', Same R R' → Ao C CF R' x f dl pl w h d c t → Mv.Hv R' H' ((dl, .lst (Ar.sv (List.replicate (d * c * (Gd.ac w t * Gd.ac h t)) []))) :: (pl, .lst (Ar.sv (List.replicate (d * c * (Gd.ac w t * Gd.ac h t)) []))) :: rest) → Q (.ref x) H') :
    Gx.MkP C (sp_Arrived_init C CF) [.ref f] [] H Q E := by
  intro x dx hx hdx hne
  exact ⟨H, R, rest, x, dx, f, w, h, d, c, t, rfl, upd_same, Gx.same_up hx (Gx.same_new hdx), hx, hv, fr, D, fun dl pl R' H' s ao hv' => ⟨rfl, q x dl pl R' H' s ao hv'⟩⟩
/-- a log whose first block says nothing -/
noncomputable def sp_read_log (CA CF C : Addr) : Sp := fun vs H Q _ => ∃ (R : Hp) (x f : Addr) (rest : List (Addr × HO)) (s : Dk.St) (n m a w h d c t : Nat), vs = [.ref x, .int (a : Int), .ref f] ∧ Dsk C R H x rest s ∧ Dk.Wf n m s ∧ m ≤ 1000 ∧ a ≤ 1 ∧ Frm CF R f w h d c t ∧ Rg.Dim w h d c t ∧ Rd.dec (Hr.toN (Dk.rd s (2 + a * ((n - 2) / 2)))) = none ∧ ∀ t' y dl pl R' H', Same R R' → Dsk C R' H' x rest s → R' t' = some (.tup [.ref y, .int 0]) → Ao CA CF R' y f dl pl w h d c t → Q (.ref t') H'

theorem sc_read_log : FnScope ["disk", "area", "frame", "arrived", "start", "used", "record", "number", "first", "digits"] ["disk", "area", "frame"] (defScope s_read_log) := ⟨rfl, rfl, rfl, by decide +kernel, rfl, by decide +kernel, by decide +kernel⟩
theorem ok_read_log (T : Tx P K mg) : FnOk P w K mg base CX0 11 T.read_log.a T.read_log.d ["disk", "area", "frame"] (sp_read_log T.a_Arrived T.a_Frame T.a_Disk) := by
  refine T.read_log.f.ok sc_read_log (fun vs H Q E h => ?_) (fun cdv A outer s H vs Q E hr h => ⟨_, pss_cons (ps_set (i := 3) sc_read_log.nd rfl (Or.inl rfl) (pe_make ⟨T.mk_Arrived, T.Arrived___init__.m.at_, T.Arrived___init__.m.fn, T.kp_Arrived⟩ (ok_Arrived___init__ T) (hr.mono (by decide)) rfl T.g_Arrived T.Arrived___init__.b .nil pass0 (pa_cons (pv 2) pa_nil)))
      (pss_cons (ps_set (i := 4) sc_read_log.nd rfl (Or.inl rfl) (pe_call (ok_area_start T) (hr.mono (by decide)) rfl T.area_start.g T.area_start.f.kp T.area_start.b .nil pass0 (pa_cons (pv 0) (pa_cons (pv 1) pa_nil))))
      (pss_cons (ps_for PassesOwn.never rfl (pi_range1 rfl T.n_range (pa_cons (pe_call (ok_area_size T) (hr.mono (by decide)) rfl T.area_size.g T.area_size.f.kp T.area_size.b .nil pass0 (pa_cons (pv 0) pa_nil)) pa_nil)) (pg_name (i := 5) sc_read_log.nd rfl (Or.inl rfl))
      (pss_cons (ps_set (i := 6) sc_read_log.nd rfl (Or.inl rfl) (pe_call (ok_decode_record T) (hr.mono (by decide)) rfl T.decode_record.g T.decode_record.f.kp T.decode_record.b .nil pass0 (pa_cons (pe_meth (pv 0) T.cl_Disk T.Disk_read.m (ok_Disk_read T) (hr.mono (by decide)) T.Disk_read.b .nil passL (pa_cons (pe_op op_add (pv 4) (pv 5)) pa_nil)) pa_nil)))
      (pss_cons (ps_if (PW.pt (pw_or (pt_cmpR op_isN (pv 6) (pe_non) (nomark _)) (pw_or1 (pt_cmpR op_ge (pe_ix (Gx.ix_seqK (K := K) rfl) (pv 6) (pe_int) (fun _ _ => rfl)) (pe_meth0 (pv 2) T.cl_Frame T.Frame_packets.m (ok_Frame_packets T) (hr.mono (by decide)) T.Frame_packets.b .nil pass0) (nomark _))))) (pss_one (ps_ret (pe_tup (pa_cons (pv 3) (pa_cons (pv 5) pa_nil))))) (pss_nil))
      (pss_cons (ps_asg (pv 6) (pg_tup rfl (pgs_cons (pg_name (i := 7) sc_read_log.nd rfl (Or.inl rfl)) (pgs_cons (pg_name (i := 8) sc_read_log.nd rfl (Or.inl rfl)) (pgs_cons (pg_name (i := 9) sc_read_log.nd rfl (Or.inl rfl)) pgs_nil)))))
      (pss_one (Tm.ps_try_never (fun W pn xe tk po => pss_one (ps_expr (Sx.pe_methS (pv 3) T.cl_Arrived T.Arrived_accept.m (ok_Arrived_accept T) (hr.mono (by decide)) T.Arrived_accept.b (fun σ => passAt tk σ) (pa_cons (pe_call (ok_key_at T) (hr.mono (by decide)) rfl T.key_at.g T.key_at.f.kp T.key_at.b .nil pass0 (pa_cons (pv 2) (pa_cons (pv 7) pa_nil))) (pa_cons (pv 8) (pa_cons (pv 9) pa_nil))))))))))))
      (pss_one (ps_ret (pe_tup (pa_cons (pv 3) (pa_cons (pe_call (ok_area_size T) (hr.mono (by decide)) rfl T.area_size.g T.area_size.f.kp T.area_size.b .nil pass0 (pa_cons (pv 0) pa_nil)) pa_nil))))))), ?_⟩)
  · obtain ⟨R, x, f, rest, s, n, m, a, w, h, d, c, t, rfl, _⟩ := h
    rfl
  · skip
    obtain ⟨R, x, f, rest, s0, n, m, a, w, h, d, c, t, rfl, ds, wf, hm, ha, fr, D, hz, q⟩ := h
    have hn := wf.n1
    have hn2 := wf.n2
    obtain ⟨dx, pb, pp, pt, vb, vp, hv, hb, hp, ht⟩ := ds
    walk_at "run"
    refine mk_Arrived hv fr D fun y dl pl R1 H1 sR1 ao hv1 => ?_
    obtain ⟨R2, hv2, sR2, _⟩ := hv1.less
    obtain ⟨R3, hv3, sR3, _⟩ := hv2.less
    have sR := sR1.trans (sR2.trans sR3)
    have ds3 : Dsk T.a_Disk R3 H1 x rest s0 := ⟨dx, pb, pp, pt, vb, vp, hv3, hb.keep sR, hp.keep sR, sR _ _ ht⟩
    have ao := ao.keep (sR2.trans sR3)
    have hx := hv3.g0
    clear hv hv1 hv2 hv3 hb hp ht
    walk_at "run"
    refine cp_area_start ds3 wf (by omega) (by omega) (by omega) ?_
    have hst : 2 + a * ((n - 2) / 2) < n := by
      rcases (show a = 0 ∨ a = 1 by omega) with e | e
      · rw [e]; omega
      · rw [e]; omega
    generalize 2 + a * ((n - 2) / 2) = st at *
    walk_at "run"
    refine cp_area_size ds3 wf (by omega) ?_
    have ha1 : 1 ≤ (n - 2) / 2 := by omega
    have ha2 : (n - 2) / 2 ≤ 1000 := by omega
    generalize (n - 2) / 2 = ar at *
    walk_at "run"
    refine Gx.r1 (j := (ar : Int)) (by omega) (by omega) ?_
    rw [Int.toNat_natCast]
    refine Gx.fw walk_range (fun i σ' H' => i = 0 ∧ H' = H1 ∧ σ' = [some (.ref x), some (.int (a : Int)), some (.ref f), some (.ref y), some (.int (st : Int)), none, none, none, none, none]) ⟨rfl, rfl, rfl⟩ (fun _ _ _ _ _ => trivial) ?_ ?_
    · rintro i y1 σ' H3 H3' hi ⟨rfl, rfl, rfl⟩ ⟨rfl, hy⟩
      have hy2 : y1 = .int 0 := hy
      subst hy2
      walk_at "run"
      refine Gx.mp hx no_Disk_read ?_
      walk_at "run"
      rw [Int.add_zero]
      refine cp_Disk_read ds3 wf hm hst fun p1 H4 n4 s4 h4 => ?_
      have k0 := Dk.rd_ok wf hst
      rw [Hr.W_toN fun z m => (k0.2 z m).1] at h4
      walk_at "run"
      refine cp_decode_record (SqL.of h4) (by rw [Hr.toN_len]; exact k0.1) fun v1 H5 s5 t1 => ?_
      rw [hz] at t1
      cases (show v1 = .non from t1)
      walk_at "run"
      refine Nx.tup0 (by show 2 ≤ sizeLine; decide) fun t' H6 n6 s6 h6 => ?_
      obtain ⟨R6, ds6, sR6, g6⟩ := ds3.grow (s4.trans (s5.trans s6))
      exact q t' y dl pl R6 H6 (sR.trans sR6) ds6 (g6 _ _ ((s4.trans s5).free n6) h6) (ao.keep sR6)
    rintro σ' H3 ⟨e, _, _⟩
    omega

theorem cp_read_log {CA CF C x f : Addr} {R H : Hp} {rest : List (Addr × HO)} {s : Dk.St} {n m a w h d c t : Nat} {Q : VK} {E : XK} (ds : Dsk C R H x rest s) (wf : Dk.Wf n m s) (hm : m ≤ 1000) (ha : a ≤ 1) (fr : Frm CF R f w h d c t) (D : Rg.Dim w h d c t) (hz : Rd.dec (Hr.toN (Dk.rd s (2 + a * ((n - 2) / 2)))) = none) (q : ∀ t' y dl pl R' H', Same R R' → Dsk C R' H' x rest s → R' t' = some (.tup [.ref y, .int 0]) → Ao CA CF R' y f dl pl w h d c t → Q (.ref t') H') : Gx.CP (sp_read_log CA CF C) [.ref x, .int (a : Int), .ref f] [] H Q E := ⟨R, x, f, rest, s, n, m, a, w, h, d, c, t, rfl, ds, wf, hm, ha, fr, D, hz, q⟩

noncomputable def sp_next_generation : Sp := fun vs H Q _ => ∃ (g : Nat), vs = [.int (g : Int)] ∧ Q (.int (((g + 1) % 256 : Nat) : Int)) H

theorem sc_next_generation : FnScope ["generation"] ["generation"] (defScope s_next_generation) := ⟨rfl, rfl, rfl, by decide +kernel, rfl, by decide +kernel, by decide +kernel⟩
theorem ok_next_generation (T : Tx P K mg) : FnOk P w K mg base CX0 1 T.next_generation.a T.next_generation.d ["generation"] (sp_next_generation) := by
  refine T.next_generation.f.ok sc_next_generation (fun vs H Q E h => ?_) (fun cdv A outer s H vs Q E hr h => ⟨_, pss_one (ps_ret (pe_op op_mod (pe_op op_add (pv 0) (pe_int)) (pe_glob (v := .int 256) rfl T.c_GENERATIONS ⟨_, rfl⟩))), ?_⟩)
  · obtain ⟨g, rfl, _⟩ := h
    rfl
  · skip
    obtain ⟨g, rfl, q⟩ := h
    walk_at "run"
    rw [show ((g : Int) + 1) % 256 = (((g + 1) % 256 : Nat) : Int) by omega]
    exact q

theorem cp_next_generation {g : Nat} {H : Hp} {Q : VK} {E : XK} (q : Q (.int (((g + 1) % 256 : Nat) : Int)) H) : Gx.CP sp_next_generation [.int (g : Int)] [] H Q E := ⟨g, rfl, q⟩

noncomputable def sp_check_size (C : Addr) : Sp := fun vs H Q E => ∃ (w h c : Int), vs = [.int w, .int h, .int c] ∧ (1 ≤ w ∧ w ≤ 64) ∧ (1 ≤ h ∧ h ≤ 64) ∧ (1 ≤ c ∧ c ≤ 3) ∧ (w * h * c ≤ 3072 → Q .non H) ∧ (w * h * c > 3072 → Sx.Err C H "size" E)

theorem sc_check_size : FnScope ["width", "height", "channels"] ["width", "height", "channels"] (defScope s_check_size) := ⟨rfl, rfl, rfl, by decide +kernel, rfl, by decide +kernel, by decide +kernel⟩
theorem ok_check_size (T : Tx P K mg) : FnOk P w K mg base (L2.CX P w) 3 T.check_size.a T.check_size.d ["width", "height", "channels"] (sp_check_size T.x_OutOfRange.C) := by
  refine T.check_size.f.okX sc_check_size (fun vs H Q E h => ?_) (fun cdv A outer s H vs Q E hr h => ⟨_, pss_one (ps_if (pt_cmpR op_gt (pe_op op_mul (pe_op op_mul (pv 0) (pv 1)) (pv 2)) (pe_glob (v := .int 3072) rfl T.c_VALUES_MOST ⟨_, rfl⟩) (nomark _)) (pss_one (ps_raise rfl (takes_of rfl rfl rfl rfl) (pmk_oex T.x_OutOfRange.o T.x_OutOfRange.i T.x_OutOfRange.t (ok_OutOfRange___init__ T) (hr.mono (by decide)) T.x_OutOfRange.b .nil pass0 rfl T.x_OutOfRange.g (pa_cons (pe_str) pa_nil)))) (pss_nil)), ?_⟩)
  · obtain ⟨w, h, c, rfl, _⟩ := h
    rfl
  · skip
    obtain ⟨w, h, c, rfl, hw, hh, hc, q, qe⟩ := h
    walk_at "go"
    refine Gx.ic (.inr (by omega)) ?_
    walk_at "go"
    refine Gx.ic (.inr (by omega)) ?_
    walk_at "go"
    refine Gx.if_d (fun a => ?_) (fun a => ?_)
    · walk_at "go"
      exact Sx.mkO (by decide) (qe (by omega)).now fun R h => by walk_at "go"; exact h
    walk_at "go"
    exact q (by omega)

theorem cs_check_size {C : Addr} {w h c : Int} {H : Hp} {Q : VK} {E : XK} (hw : 1 ≤ w ∧ w ≤ 64) (hh : 1 ≤ h ∧ h ≤ 64) (hc : 1 ≤ c ∧ c ≤ 3) (q : w * h * c ≤ 3072 → Q .non H) (qe : w * h * c > 3072 → Sx.Err C H "size" E) : Sx.CS (sp_check_size C) [.int w, .int h, .int c] H Q E := ⟨w, h, c, rfl, hw, hh, hc, q, qe⟩

noncomputable def sp_check_kind (C : Addr) : Sp := fun vs H Q E => ∃ (w h d c : Int), vs = [.int w, .int h, .int d, .int c] ∧ (Sx.kindBad w h d c = none → ∀ H', Same H H' → Q .non H') ∧ (∀ z, Sx.kindBad w h d c = some z → Sx.Err C H z E)

theorem sc_check_kind : FnScope ["width", "height", "depth", "channels"] ["width", "height", "depth", "channels"] (defScope s_check_kind) := ⟨rfl, rfl, rfl, by decide +kernel, rfl, by decide +kernel, by decide +kernel⟩
theorem ok_check_kind (T : Tx P K mg) : FnOk P w K mg base (L2.CX P w) 4 T.check_kind.a T.check_kind.d ["width", "height", "depth", "channels"] (sp_check_kind T.x_OutOfRange.C) := by
  refine T.check_kind.f.okX sc_check_kind (fun vs H Q E h => ?_) (fun cdv A outer s H vs Q E hr h => ⟨_, pss_cons (ps_expr (pe_callS (ok_check_range T) (hr.mono (by decide)) rfl T.check_range.g T.check_range.f.kp T.check_range.b (fun σ => passAt (takes_of rfl rfl rfl rfl) σ) (pa_cons (pe_str) (pa_cons (pv 0) (pa_cons (pe_int) (pa_cons (pe_glob (v := .int 64) rfl T.c_SIDE_MOST ⟨_, rfl⟩) pa_nil))))))
      (pss_cons (ps_expr (pe_callS (ok_check_range T) (hr.mono (by decide)) rfl T.check_range.g T.check_range.f.kp T.check_range.b (fun σ => passAt (takes_of rfl rfl rfl rfl) σ) (pa_cons (pe_str) (pa_cons (pv 1) (pa_cons (pe_int) (pa_cons (pe_glob (v := .int 64) rfl T.c_SIDE_MOST ⟨_, rfl⟩) pa_nil))))))
      (pss_cons (ps_expr (pe_callS (ok_check_range T) (hr.mono (by decide)) rfl T.check_range.g T.check_range.f.kp T.check_range.b (fun σ => passAt (takes_of rfl rfl rfl rfl) σ) (pa_cons (pe_str) (pa_cons (pv 2) (pa_cons (pe_int) (pa_cons (pe_glob (v := .int 8) rfl T.c_DEPTH_MOST ⟨_, rfl⟩) pa_nil))))))
      (pss_one (ps_if (pt_cmpR op_notIn_seq (pv 3) (pe_tup (pa_cons (pe_int) (pa_cons (pe_int) pa_nil))) (by rfl)) (pss_one (ps_raise rfl (takes_of rfl rfl rfl rfl) (pmk_oex T.x_OutOfRange.o T.x_OutOfRange.i T.x_OutOfRange.t (ok_OutOfRange___init__ T) (hr.mono (by decide)) T.x_OutOfRange.b .nil pass0 rfl T.x_OutOfRange.g (pa_cons (pe_str) pa_nil)))) (pss_nil))))), ?_⟩)
  · obtain ⟨w, h, d, c, rfl, _⟩ := h
    rfl
  · skip
    obtain ⟨w, h, d, c, rfl, q, qe⟩ := h
    unfold Sx.kindBad at q qe
    walk_at "go"
    refine cs_check_range (fun a1 a2 => ?_) (fun a => qe _ (if_pos a))
    rw [if_neg (not_not_intro ⟨a1, a2⟩)] at q qe
    walk_at "go"
    refine cs_check_range (fun b1 b2 => ?_) (fun a => qe _ (if_pos a))
    rw [if_neg (not_not_intro ⟨b1, b2⟩)] at q qe
    walk_at "go"
    refine cs_check_range (fun c1 c2 => ?_) (fun a => qe _ (if_pos a))
    rw [if_neg (not_not_intro ⟨c1, c2⟩)] at q qe
    walk_at "go"
    refine Gx.tupP (by show 2 ≤ sizeLine; decide) fun p hp => ?_
    have s1 := Gx.same_new (o := .tup [.int 1, .int 3]) hp
    walk_at "go"
    refine Gx.inT (SqT.of upd_same) rfl ?_
    walk_at "go"
    have e : inV (.int c) [.int 1, .int 3] = decide (c = 1 ∨ c = 3) := by
      by_cases hc : c = 1 ∨ c = 3
      · rw [decide_eq_true hc]
        rcases hc with e | e <;> subst e <;> decide
      · rw [decide_eq_false hc]
        exact Gx.notin_ints [1, 3] (fun y hy e => hc (by simp at hy; omega))
    by_cases hc : c = 1 ∨ c = 3
    · rw [if_neg (not_not_intro hc)] at q
      refine Gx.if_n (by rw [e, decide_eq_true hc]; rfl) ?_
      walk_at "go"
      exact q rfl _ s1
    · rw [if_pos hc] at qe
      refine Gx.if_y (by rw [e, decide_eq_false hc]; rfl) ?_
      walk_at "go"
      exact Sx.mkO (by decide) ((qe _ rfl).mono s1).now fun R h => by walk_at "go"; exact h

theorem cs_check_kind {C : Addr} {w h d c : Int} {H : Hp} {Q : VK} {E : XK} (q : Sx.kindBad w h d c = none → ∀ H', Same H H' → Q .non H') (qe : ∀ z, Sx.kindBad w h d c = some z → Sx.Err C H z E) : Sx.CS (sp_check_kind C) [.int w, .int h, .int d, .int c] H Q E := ⟨w, h, d, c, rfl, q, qe⟩

noncomputable def sp_Frame_init (CE C : Addr) : Sp := fun vs H Q E => ∃ (H0 : Hp) (x dx : Addr) (w h d c t : Int), vs = [.ref x, .int w, .int h, .int d, .int c, .int t] ∧ H x = some (.ins C dx []) ∧ Same H0 H ∧ H0 x = none ∧
  (Sx.frameBad w h d c t = none → ∀ (H' : Hp), Same H0 H' → Frm C H' x w.toNat h.toNat d.toNat c.toNat t.toNat → Q .non H') ∧ (∀ z, Sx.frameBad w h d c t = some z → Sx.Err CE H0 z E)

theorem sc_Frame___init__ : FnScope ["self", "width", "height", "depth", "channels", "tile"] ["self", "width", "height", "depth", "channels", "tile"] (defScope s_Frame___init__) := ⟨rfl, rfl, rfl, by decide +kernel, rfl, by decide +kernel, by decide +kernel⟩
theorem ok_Frame___init__ (T : Tx P K mg) : FnOk P w K mg base (L2.CX P w) 5 T.Frame___init__.a T.Frame___init__.d ["self", "width", "height", "depth", "channels", "tile"] (sp_Frame_init T.x_OutOfRange.C T.a_Frame) := by
  refine T.Frame___init__.f.okX sc_Frame___init__ (fun vs H Q E h => ?_) (fun cdv A outer s H vs Q E hr h => ⟨_, pss_cons (ps_expr (pe_callS (ok_check_kind T) (hr.mono (by decide)) rfl T.check_kind.g T.check_kind.f.kp T.check_kind.b (fun σ => passAt (takes_of rfl rfl rfl rfl) σ) (pa_cons (pv 1) (pa_cons (pv 2) (pa_cons (pv 3) (pa_cons (pv 4) pa_nil))))))
      (pss_cons (ps_expr (pe_callS (ok_check_range T) (hr.mono (by decide)) rfl T.check_range.g T.check_range.f.kp T.check_range.b (fun σ => passAt (takes_of rfl rfl rfl rfl) σ) (pa_cons (pe_str) (pa_cons (pv 5) (pa_cons (pe_int) (pa_cons (pe_glob (v := .int 16) rfl T.c_TILE_MOST ⟨_, rfl⟩) pa_nil))))))
      (pss_cons (ps_expr (pe_callS (ok_check_size T) (hr.mono (by decide)) rfl T.check_size.g T.check_size.f.kp T.check_size.b (fun σ => passAt (takes_of rfl rfl rfl rfl) σ) (pa_cons (pv 1) (pa_cons (pv 2) (pa_cons (pv 4) pa_nil)))))
      (pss_cons (ps_fld (pv 0) (pv 1) rfl)
      (pss_cons (ps_fld (pv 0) (pv 2) rfl)
      (pss_cons (ps_fld (pv 0) (pv 3) rfl)
      (pss_cons (ps_fld (pv 0) (pv 4) rfl)
      (pss_one (ps_fld (pv 0) (pv 5) rfl)))))))), ?_⟩)
  · obtain ⟨H0, x, dx, w, h, d, c, t, rfl, _⟩ := h
    rfl
  · skip
    obtain ⟨H0, x, dx, w, h, d, c, t, rfl, hx, s0, h0, q, qe⟩ := h
    unfold Sx.frameBad at q qe
    walk_at "go"
    refine cs_check_kind (fun hk H1 s1 => ?_) (fun z e => (qe z (by rw [e])).mono s0)
    rw [hk] at q qe
    dsimp only at q qe
    obtain ⟨k1, k2, k3, k4⟩ := Sx.kindBad_none.mp hk
    have hx := s1 _ _ hx
    have s0 := s0.trans s1
    walk_at "go"
    refine cs_check_range (fun a1 a2 => ?_) (fun a => (qe _ (if_pos a)).mono s0)
    rw [if_neg (not_not_intro ⟨a1, a2⟩)] at q qe
    walk_at "go"
    refine cs_check_size k1 k2 (by omega) (fun a => ?_) (fun a => (qe _ (if_pos a)).mono s0)
    rw [if_neg (by omega)] at q
    walk_at "go"
    refine Gx.sfp hx T.cl_Frame T.na_Frame_width (by walk_at "few") rfl ?_
    walk_at "go"
    refine Gx.sfp upd_same T.cl_Frame T.na_Frame_height (by walk_at "few") rfl ?_
    walk_at "go"
    refine Gx.sfp upd_same T.cl_Frame T.na_Frame_depth (by walk_at "few") rfl ?_
    walk_at "go"
    refine Gx.sfp upd_same T.cl_Frame T.na_Frame_channels (by walk_at "few") rfl ?_
    walk_at "go"
    refine Gx.sfp upd_same T.cl_Frame T.na_Frame_tile (by walk_at "few") rfl ?_
    rw [upd_upd, upd_upd, upd_upd, upd_upd, ini_Frame]
    refine q rfl _ (Gx.same_up h0 s0) ⟨dx, ?_⟩
    rw [upd_same, Int.toNat_of_nonneg (by omega), Int.toNat_of_nonneg (by omega), Int.toNat_of_nonneg (by omega), Int.toNat_of_nonneg (by omega), Int.toNat_of_nonneg (by omega)]

theorem mk_Frame {CE C : Addr} {w h d c t : Nat} {H : Hp} {Q : VK} {E : XK} (hw : 1 ≤ w ∧ w ≤ 64) (hh : 1 ≤ h ∧ h ≤ 64) (hd : 1 ≤ d ∧ d ≤ 8) (hc : c = 1 ∨ c = 3) (ht : 1 ≤ t ∧ t ≤ 16) (hs : w * h * c ≤ 3072) (q : ∀ x H2, Same H H2 → H x = none → Frm C H2 x w h d c t → Q (.ref x) H2) :
    Gx.MkP C (sp_Frame_init CE C) [.int (w : Int), .int (h : Int), .int (d : Int), .int (c : Int), .int (t : Int)] [] H Q E := by
  intro x dx hx hdx hne
  have ok : Sx.frameBad (w : Int) (h : Int) (d : Int) (c : Int) (t : Int) = none := Sx.frameBad_none.mpr ⟨by omega, by omega, by omega, by omega, by omega, by rw [← Int.natCast_mul, ← Int.natCast_mul]; omega⟩
  exact ⟨H, x, dx, w, h, d, c, t, rfl, upd_same, Gx.same_up hx (Gx.same_new hdx), hx, fun _ H2 s2 fr => ⟨rfl, q x H2 s2 hx fr⟩, fun z e => by rw [ok] at e; cases e⟩
theorem mks_Frame {CE C : Addr} {w h d c t : Int} {H : Hp} {Q : VK} {E : XK} (q : Sx.frameBad w h d c t = none → ∀ x H2, Same H H2 → H x = none → Frm C H2 x w.toNat h.toNat d.toNat c.toNat t.toNat → Q (.ref x) H2) (qe : ∀ z, Sx.frameBad w h d c t = some z → Sx.Err CE H z E) :
    Sx.MkS C (sp_Frame_init CE C) [.int w, .int h, .int d, .int c, .int t] H Q E := by
  intro x dx hx hdx hne
  exact ⟨H, x, dx, w, h, d, c, t, rfl, upd_same, Gx.same_up hx (Gx.same_new hdx), hx, fun ok H2 s2 fr => ⟨rfl, q ok x H2 s2 hx fr⟩, qe⟩

noncomputable def sp_frame_of (K : PySem.W.Frag) (C : Addr) : Sp := fun vs H Q _ => ∃ (p : Addr) (w h d c t : Int), vs = [.ref p] ∧ SqL K H p [.int w, .int h, .int d, .int c, .int t] ∧
  (Sx.frameBad w h d c t = none → ∀ x H', H x = none → Same H H' → Frm C H' x w.toNat h.toNat d.toNat c.toNat t.toNat → Q (.ref x) H') ∧ (∀ z, Sx.frameBad w h d c t = some z → ∀ H', Same H H' → Q .non H')

theorem sc_frame_of : FnScope ["numbers", "width", "height", "depth", "channels", "tile"] ["numbers"] (defScope s_frame_of) := ⟨rfl, rfl, rfl, by decide +kernel, rfl, by decide +kernel, by decide +kernel⟩
theorem ok_frame_of (T : Tx P K mg) : FnOk P w K mg base CX0 7 T.frame_of.a T.frame_of.d ["numbers"] (sp_frame_of K T.a_Frame) := by
  refine T.frame_of.f.ok sc_frame_of (fun vs H Q E h => ?_) (fun cdv A outer s H vs Q E hr h => ⟨_, pss_cons (ps_asg (pv 0) (pg_unl rfl (pgs_cons (pg_name (i := 1) sc_frame_of.nd rfl (Or.inl rfl)) (pgs_cons (pg_name (i := 2) sc_frame_of.nd rfl (Or.inl rfl)) (pgs_cons (pg_name (i := 3) sc_frame_of.nd rfl (Or.inl rfl)) (pgs_cons (pg_name (i := 4) sc_frame_of.nd rfl (Or.inl rfl)) (pgs_cons (pg_name (i := 5) sc_frame_of.nd rfl (Or.inl rfl)) pgs_nil)))))))
      (pss_one (ps_try_only rfl rfl ⟨rfl, by decide, .inl T.x_OutOfRange.g⟩ takes0 (fun W pn xe tk po => pss_one (ps_ret (Sx.pe_makeS ⟨T.mk_Frame, T.Frame___init__.m.at_, T.Frame___init__.m.fn, T.kp_Frame⟩ (ok_Frame___init__ T) (hr.mono (by decide)) rfl T.g_Frame T.Frame___init__.b (fun σ => passAt tk σ) (pa_cons (pv 1) (pa_cons (pv 2) (pa_cons (pv 3) (pa_cons (pv 4) (pa_cons (pv 5) pa_nil)))))))) (fun a oe cls d pn hz hf => pss_one (ps_ret (pe_non))))), ?_⟩)
  · obtain ⟨p, w, h, d, c, t, rfl, _⟩ := h
    rfl
  · skip
    obtain ⟨p, w, h, d, c, t, rfl, hp, q, qe⟩ := h
    walk_at "run"
    refine ⟨p, _, rfl, hp, rfl, ?_⟩
    walk_at "run"
    refine mks_Frame (fun ok x H2 s hx fr => ?_) (fun z e H' dd s hd => ?_)
    · exact q ok x H2 hx s fr
    · refine ⟨true, T.x_OutOfRange.te, fun _ => ?_, fun z => Bool.noConfusion z⟩
      intro _ _
      walk_at "run"
      exact qe z e _ (s.trans (Gx.same_new hd))

theorem cp_frame_of {K : PySem.W.Frag} {C p : Addr} {w h d c t : Int} {H : Hp} {Q : VK} {E : XK} (hp : SqL K H p [.int w, .int h, .int d, .int c, .int t]) (q : Sx.frameBad w h d c t = none → ∀ x H', H x = none → Same H H' → Frm C H' x w.toNat h.toNat d.toNat c.toNat t.toNat → Q (.ref x) H') (qe : ∀ z, Sx.frameBad w h d c t = some z → ∀ H', Same H H' → Q .non H') :
    Gx.CP (sp_frame_of K C) [.ref p] [] H Q E := ⟨p, w, h, d, c, t, rfl, hp, q, qe⟩

/-- what a row says as a header, laid out -/
noncomputable def HTold (C : Addr) (z : Option (Nat × Nat × Nat × Nat × Nat × Nat)) (v : V) (H : Hp) : Prop := match z with
  | none => v = .non
  | some (g, w, h, d, c, t) => ∃ t' x, v = .ref t' ∧ H t' = some (.tup [.int (g : Int), .ref x]) ∧ Frm C H x w h d c t
noncomputable def sp_decode_header (K : PySem.W.Frag) (C : Addr) : Sp := fun vs H Q _ => ∃ (p : Addr) (xs : List Nat), vs = [.ref p] ∧ SqL K H p (Rd.W xs) ∧ xs.length = 32 ∧ ∀ v H', Same H H' → HTold C (Hd.dec xs) v H' → Q v H'

theorem sc_decode_header : FnScope ["block", "frame"] ["block"] (defScope s_decode_header) := ⟨rfl, rfl, rfl, by decide +kernel, rfl, by decide +kernel, by decide +kernel⟩
theorem ok_decode_header (T : Tx P K mg) : FnOk P w K mg base CX0 8 T.decode_header.a T.decode_header.d ["block"] (sp_decode_header K T.a_Frame) := by
  refine T.decode_header.f.ok sc_decode_header (fun vs H Q E h => ?_) (fun cdv A outer s H vs Q E hr h => ⟨_, pss_cons (ps_set (i := 1) sc_decode_header.nd rfl (Or.inl rfl) (pe_call (ok_frame_of T) (hr.mono (by decide)) rfl T.frame_of.g T.frame_of.f.kp T.frame_of.b .nil pass0 (pa_cons (pe_slice (Gx.sl_listK (K := K) rfl) (pv 0) (po_some (pe_glob (v := .int 2) rfl T.c_NUMBERS_AT ⟨_, rfl⟩)) (po_some (pe_glob (v := .int 7) rfl T.c_NUMBERS_END ⟨_, rfl⟩))) pa_nil)))
      (pss_cons (ps_if (PW.pt (pw_or (pt_not (pt_val (pe_call (ok_is_marked T) (hr.mono (by decide)) rfl T.is_marked.g T.is_marked.f.kp T.is_marked.b .nil pass0 (pa_cons (pv 0) (pa_cons (pe_glob (v := .int 72) rfl T.c_HEADER_MARK ⟨_, rfl⟩) pa_nil))))) (pw_or1 (pt_cmpR op_isN (pv 1) (pe_non) (nomark _))))) (pss_one (ps_ret (pe_non))) (pss_nil))
      (pss_one (ps_ret (pe_tup (pa_cons (pe_ix (Gx.ix_seqK (K := K) rfl) (pv 0) (pe_int) (fun _ _ => rfl)) (pa_cons (pv 1) pa_nil)))))), ?_⟩)
  · obtain ⟨p, xs, rfl, _⟩ := h
    rfl
  · skip
    obtain ⟨p, xs, rfl, hp, hl, q⟩ := h
    walk_at "run"
    refine Nx.slL0 hp fun p1 H1 n1 s1 h1 => ?_
    rw [Hd.cut_five hl] at h1
    have hp1 := s1.seq hp
    walk_at "run"
    have no : ∀ H2, Same H1 H2 → ¬ (xs.getD 0 0 = 72 ∧ xs.getD 31 0 = 72 ∧ Hd.frm xs 2 = none) → Q .non H2 := fun H2 s h => q _ _ (s1.trans s) (by unfold Hd.dec; rw [if_neg h]; rfl)
    refine cp_frame_of (SqL.of h1) (fun ok x H2 nx s2 fr => ?_) (fun z e H2 s2 => ?_)
    · have hp2 := s2.seq hp1
      walk_at "run"
      refine cp_is_marked hp2 hl (by decide) ?_
      walk_at "run"
      refine Gx.if_b (fun c => ?_) (fun c => ?_)
      · walk_at "run"
        refine no _ s2 fun ⟨a, b, _⟩ => ?_
        rw [show (72 : Int).toNat = 72 from rfl, a, b] at c
        cases c
      walk_at "run"
      refine Gx.ixL hp2 (Rd.W_get (k := 1) (by omega)) ?_
      walk_at "run"
      refine Nx.tup0 (by show 2 ≤ sizeLine; decide) fun t H3 n3 s3 h3 => ?_
      refine q (.ref t) H3 ?sm ?_
      case sm => walk_at "xsame"
      have c2 : xs.getD 0 0 = 72 ∧ xs.getD 31 0 = 72 := by
        rw [show (72 : Int).toNat = 72 from rfl] at c
        simpa using c
      unfold Hd.dec
      rw [if_pos ⟨c2.1, c2.2, ok⟩]
      exact ⟨t, x, rfl, h3, fr.keep s3⟩
    · have hp2 := s2.seq hp1
      walk_at "run"
      refine cp_is_marked hp2 hl (by decide) ?_
      walk_at "run"
      have ne : ¬ (xs.getD 0 0 = 72 ∧ xs.getD 31 0 = 72 ∧ Hd.frm xs 2 = none) := fun ⟨_, _, f⟩ => by
        have : Hd.frm xs 2 = some z := e
        rw [this] at f; cases f
      refine Gx.if_b (fun c => ?_) (fun c => ?_)
      · walk_at "run"
        exact no _ s2 ne
      walk_at "run"
      exact no _ s2 ne

theorem cp_decode_header {K : PySem.W.Frag} {C p : Addr} {xs : List Nat} {H : Hp} {Q : VK} {E : XK} (hp : SqL K H p (Rd.W xs)) (hl : xs.length = 32) (q : ∀ v H', Same H H' → HTold C (Hd.dec xs) v H' → Q v H') : Gx.CP (sp_decode_header K C) [.ref p] [] H Q E := ⟨p, xs, rfl, hp, hl, q⟩

theorem HTold.keep {C : Addr} {z : Option (Nat × Nat × Nat × Nat × Nat × Nat)} {v : V} {H H' : Hp} (h : HTold C z v H) (s : Same H H') : HTold C z v H' := by
  match z, h with
  | none, h => exact h
  | some _, ⟨t', x, e, h1, f⟩ => exact ⟨t', x, e, s _ _ h1, f.keep s⟩
noncomputable def sp_newest_header (CF C : Addr) : Sp := fun vs H Q _ => ∃ (R : Hp) (x : Addr) (rest : List (Addr × HO)) (s : Dk.St) (n m : Nat), vs = [.ref x] ∧ Dsk C R H x rest s ∧ Dk.Wf n m s ∧ m ≤ 1000 ∧ ∀ v H', Same H H' → HTold CF (Hr.newer (Hr.hdr s 0) (Hr.hdr s 1)) v H' → Q v H'

theorem sc_newest_header : FnScope ["disk", "first", "second"] ["disk"] (defScope s_newest_header) := ⟨rfl, rfl, rfl, by decide +kernel, rfl, by decide +kernel, by decide +kernel⟩
theorem ok_newest_header (T : Tx P K mg) : FnOk P w K mg base CX0 9 T.newest_header.a T.newest_header.d ["disk"] (sp_newest_header T.a_Frame T.a_Disk) := by
  refine T.newest_header.f.ok sc_newest_header (fun vs H Q E h => ?_) (fun cdv A outer s H vs Q E hr h => ⟨_, pss_cons (ps_set (i := 1) sc_newest_header.nd rfl (Or.inl rfl) (pe_call (ok_decode_header T) (hr.mono (by decide)) rfl T.decode_header.g T.decode_header.f.kp T.decode_header.b .nil pass0 (pa_cons (pe_meth (pv 0) T.cl_Disk T.Disk_read.m (ok_Disk_read T) (hr.mono (by decide)) T.Disk_read.b .nil passL (pa_cons (pe_int) pa_nil)) pa_nil)))
      (pss_cons (ps_set (i := 2) sc_newest_header.nd rfl (Or.inl rfl) (pe_call (ok_decode_header T) (hr.mono (by decide)) rfl T.decode_header.g T.decode_header.f.kp T.decode_header.b .nil pass0 (pa_cons (pe_meth (pv 0) T.cl_Disk T.Disk_read.m (ok_Disk_read T) (hr.mono (by decide)) T.Disk_read.b .nil passL (pa_cons (pe_int) pa_nil)) pa_nil)))
      (pss_cons (ps_if (PW.pt (pw_or (pt_cmpR op_isN (pv 1) (pe_non) (nomark _)) (pw_or1 (pt_cmpR op_isN (pv 2) (pe_non) (nomark _))))) (pss_one (ps_ret (pe_ifExp (pt_cmpR op_isN (pv 1) (pe_non) (nomark _)) (pv 2) (pv 1)))) (pss_nil))
      (pss_one (ps_ret (pe_ifExp (pt_cmpR op_eq (pe_ix (Gx.ix_seqK (K := K) rfl) (pv 2) (pe_int) (fun _ _ => rfl)) (pe_call (ok_next_generation T) (hr.mono (by decide)) rfl T.next_generation.g T.next_generation.f.kp T.next_generation.b .nil pass0 (pa_cons (pe_ix (Gx.ix_seqK (K := K) rfl) (pv 1) (pe_int) (fun _ _ => rfl)) pa_nil)) (nomark _)) (pv 2) (pv 1)))))), ?_⟩)
  · obtain ⟨R, x, rest, s, n, m, rfl, _⟩ := h
    rfl
  · skip
    obtain ⟨R, x, rest, s0, n, m, rfl, ds, w, hm, q⟩ := h
    have hn := w.n1
    obtain ⟨dx, pb, pp, pt, vb, vp, hv, _⟩ := id ds
    have hx := hv.g0
    clear hv
    walk_at "run"
    refine Gx.mp hx no_Disk_read ?_
    walk_at "run"
    refine cp_Disk_read (z := 0) ds w hm (by omega) fun p1 H1 n1 s1 h1 => ?_
    have k0 := Dk.rd_ok w (show 0 < n by omega)
    rw [Hr.W_toN fun z m => (k0.2 z m).1] at h1
    obtain ⟨R1, ds1, sR1, g1⟩ := ds.grow s1
    walk_at "run"
    refine cp_decode_header (SqL.of h1) (by rw [Hr.toN_len]; exact k0.1) fun v1 H2 s2 t1 => ?_
    obtain ⟨R2, ds2, sR2, g2⟩ := ds1.grow s2
    have hx2 := s2 _ _ (s1 _ _ hx)
    walk_at "run"
    refine Gx.mp hx2 no_Disk_read ?_
    walk_at "run"
    refine cp_Disk_read (z := 1) ds2 w hm (by omega) fun p2 H3 n3 s3 h3 => ?_
    have k1 := Dk.rd_ok w (show 1 < n by omega)
    rw [Hr.W_toN fun z m => (k1.2 z m).1] at h3
    walk_at "run"
    refine cp_decode_header (SqL.of h3) (by rw [Hr.toN_len]; exact k1.1) fun v2 H4 s4 t2 => ?_
    have t1 := t1.keep (s3.trans s4)
    have q := fun v => q v H4 (s1.trans (s2.trans (s3.trans s4)))
    change HTold _ (Hr.hdr s0 0) _ _ at t1
    change HTold _ (Hr.hdr s0 1) _ _ at t2
    clear h1 h3 k0 k1 n1 n3
    cases e1 : Hr.hdr s0 0 with
    | none =>
      rw [e1] at t1 q
      cases (show v1 = .non from t1)
      walk_at "run"
      exact q _ t2
    | some a =>
      rw [e1] at t1 q
      have t1' := t1
      obtain ⟨ta, xa, rfl, ha, fa⟩ := t1
      cases e2 : Hr.hdr s0 1 with
      | none =>
        rw [e2] at t2 q
        cases (show v2 = .non from t2)
        walk_at "run"
        exact q _ t1'
      | some b =>
        rw [e2] at t2 q
        have t2' := t2
        obtain ⟨tb, xb, rfl, hb, fb⟩ := t2
        walk_at "run"
        refine cp_next_generation ?_
        walk_at "run"
        refine Gx.if_d (fun e => ?_) (fun e => ?_)
        · walk_at "run"
          refine q _ ?_
          show HTold _ (if b.1 = (a.1 + 1) % 256 then some b else some a) _ _
          rw [if_pos (by omega)]
          exact t2'
        · walk_at "run"
          refine q _ ?_
          show HTold _ (if b.1 = (a.1 + 1) % 256 then some b else some a) _ _
          rw [if_neg (by omega)]
          exact t1'

theorem cp_newest_header {CF C x : Addr} {R H : Hp} {rest : List (Addr × HO)} {s : Dk.St} {n m : Nat} {Q : VK} {E : XK} (ds : Dsk C R H x rest s) (w : Dk.Wf n m s) (hm : m ≤ 1000) (q : ∀ v H', Same H H' → HTold CF (Hr.newer (Hr.hdr s 0) (Hr.hdr s 1)) v H' → Q v H') : Gx.CP (sp_newest_header CF C) [.ref x] [] H Q E := ⟨R, x, rest, s, n, m, rfl, ds, w, hm, q⟩

theorem Dsk.fr {C CF : Addr} {R H : Hp} {x f : Addr} {rest : List (Addr × HO)} {s : Dk.St} {w h d c t : Nat} (ds : Dsk C R H x rest s) (hr : ∀ q ∈ rest, ∃ l, q.2 = .lst l) (fr : Frm CF H f w h d c t) : Frm CF R f w h d c t := by
  obtain ⟨dx, pb, pp, pt, vb, vp, hv, _⟩ := ds
  obtain ⟨df, hf⟩ := fr
  refine ⟨df, ?_⟩
  rw [← hv.off f fun q hq e => ?_]
  · exact hf
  · have h1 := (hv.on q hq).1
    rw [e, hf] at h1
    have h2 := Option.some.inj h1
    rcases List.mem_cons.mp hq with e | hq
    · rw [e] at h2; injection h2 with h3 h4 h5; unfold fl_Frame fl_Disk at h5; simp at h5
    rcases List.mem_cons.mp hq with e | hq
    · rw [e] at h2; cases h2
    rcases List.mem_cons.mp hq with e | hq
    · rw [e] at h2; cases h2
    obtain ⟨l, e⟩ := hr q hq
    rw [e] at h2; cases h2
/-- a disk that was opened: the log after its records is noughts -/
noncomputable def opd (s : Dk.St) (n g : Nat) : Dk.St := (wz s (2 + g % 2 * ((n - 2) / 2)) ((n - 2) / 2)).use.flush
noncomputable def sp_open_keeper (CN CK CF C : Addr) : Sp := fun vs H Q E => ∃ (R : Hp) (x : Addr) (rest : List (Addr × HO)) (s : Dk.St) (n m : Nat), vs = [.ref x] ∧ Dsk C R H x rest s ∧ Dk.Wf n m s ∧ m ≤ 100 ∧ s.cu ≤ 1000000 ∧ s.lf = none ∧ (∀ q ∈ rest, ∃ l, q.2 = .lst l) ∧ (∀ a, 2 ≤ a → a < n → Rd.dec (Hr.toN (Dk.rd s a)) = none) ∧
  (Hr.newer (Hr.hdr s 0) (Hr.hdr s 1) = none → ∀ R' H', Same R R' → Dsk C R' H' x rest s → Sx.ErrB CN H' E) ∧
  (∀ g w h d c t, Hr.newer (Hr.hdr s 0) (Hr.hdr s 1) = some (g, w, h, d, c, t) → ∀ k dk f y R' H', Same R R' → Dsk C R' H' x rest (opd s n g) → R' k = some (.ins CK dk (fl_Keeper (.ref f) (.ref x) (.int ((opd s n g).cu : Int)) (.int (g : Int)) (.ref y) (.int 0))) → Frm CF R' f w h d c t → Q (.ref k) H')

theorem sc_open_keeper : FnScope ["disk", "header", "generation", "frame", "area", "arrived", "used"] ["disk"] (defScope s_open_keeper) := ⟨rfl, rfl, rfl, by decide +kernel, rfl, by decide +kernel, by decide +kernel⟩
theorem ok_open_keeper (T : Tx P K mg) : FnOk P w K mg base (L2.CX P w) 12 T.open_keeper.a T.open_keeper.d ["disk"] (sp_open_keeper T.y_NotKept.C T.a_Keeper T.a_Frame T.a_Disk) := by
  refine T.open_keeper.f.okX sc_open_keeper (fun vs H Q E h => ?_) (fun cdv A outer s H vs Q E hr h => ⟨_, pss_cons (ps_set (i := 1) sc_open_keeper.nd rfl (Or.inl rfl) (pe_call (ok_newest_header T) (hr.mono (by decide)) rfl T.newest_header.g T.newest_header.f.kp T.newest_header.b .nil pass0 (pa_cons (pv 0) pa_nil)))
      (pss_cons (ps_if (pt_cmpR op_isN (pv 1) (pe_non) (nomark _)) (pss_one (ps_raise rfl (takes_of rfl rfl rfl rfl) (pmk_own PySem.F.excBase_ValueError T.y_NotKept.x T.y_NotKept.g T.y_NotKept.k (raises_own T.y_NotKept.b T.y_NotKept.t) rfl))) (pss_nil))
      (pss_cons (ps_asg (pv 1) (pg_tup rfl (pgs_cons (pg_name (i := 2) sc_open_keeper.nd rfl (Or.inl rfl)) (pgs_cons (pg_name (i := 3) sc_open_keeper.nd rfl (Or.inl rfl)) pgs_nil))))
      (pss_cons (ps_set (i := 4) sc_open_keeper.nd rfl (Or.inl rfl) (pe_op op_mod (pv 2) (pe_int)))
      (pss_cons (ps_asg (pe_call (ok_read_log T) (hr.mono (by decide)) rfl T.read_log.g T.read_log.f.kp T.read_log.b .nil pass0 (pa_cons (pv 0) (pa_cons (pv 4) (pa_cons (pv 3) pa_nil)))) (pg_tup rfl (pgs_cons (pg_name (i := 5) sc_open_keeper.nd rfl (Or.inl rfl)) (pgs_cons (pg_name (i := 6) sc_open_keeper.nd rfl (Or.inl rfl)) pgs_nil))))
      (pss_cons (ps_expr (pe_call (ok_write_zeros T) (hr.mono (by decide)) rfl T.write_zeros.g T.write_zeros.f.kp T.write_zeros.b .nil pass0 (pa_cons (pv 0) (pa_cons (pe_op op_add (pe_call (ok_area_start T) (hr.mono (by decide)) rfl T.area_start.g T.area_start.f.kp T.area_start.b .nil pass0 (pa_cons (pv 0) (pa_cons (pv 4) pa_nil))) (pv 6)) (pa_cons (pe_op op_sub (pe_call (ok_area_size T) (hr.mono (by decide)) rfl T.area_size.g T.area_size.f.kp T.area_size.b .nil pass0 (pa_cons (pv 0) pa_nil)) (pv 6)) pa_nil)))))
      (pss_cons (ps_expr (Sx.pe_methS0 (pv 0) T.cl_Disk T.Disk_flush.m (ok_Disk_flush T) (hr.mono (by decide)) T.Disk_flush.b (fun σ => passAt (takes_of rfl rfl rfl rfl) σ)))
      (pss_one (ps_ret (pe_make ⟨T.mk_Keeper, T.Keeper___init__.m.at_, T.Keeper___init__.m.fn, T.kp_Keeper⟩ (ok_Keeper___init__ T) (hr.mono (by decide)) rfl T.g_Keeper T.Keeper___init__.b .nil pass0 (pa_cons (pv 0) (pa_cons (pv 2) (pa_cons (pv 5) (pa_cons (pv 6) pa_nil))))))))))))), ?_⟩)
  · obtain ⟨R, x, rest, s, n, m, rfl, _⟩ := h
    rfl
  · skip
    obtain ⟨R, x, rest, s0, n, m, rfl, ds, wf, hm, hc, hl, hr, hz, qn, q⟩ := h
    have hn := wf.n1
    have hn2 := wf.n2
    walk_at "run"
    refine cp_newest_header ds wf (by omega) fun v1 H1 s1 t1 => ?_
    obtain ⟨R1, ds1, sR1, _⟩ := ds.grow s1
    cases e1 : Hr.newer (Hr.hdr s0 0) (Hr.hdr s0 1) with
    | none =>
      rw [e1] at t1
      cases (show v1 = .non from t1)
      walk_at "run"
      exact qn e1 R1 H1 sR1 ds1 _ (Same.refl _)
    | some z =>
      obtain ⟨g, w, h, d, c, t⟩ := z
      rw [e1] at t1
      obtain ⟨t', f, rfl, ht, fr⟩ := t1
      have q := q g w h d c t e1
      have D := Hr.newer_dim e1
      have fr1 := ds1.fr hr fr
      have hst : 2 + g % 2 * ((n - 2) / 2) < n ∧ 2 + g % 2 * ((n - 2) / 2) + (n - 2) / 2 ≤ n := by
        rcases (show g % 2 = 0 ∨ g % 2 = 1 by omega) with e | e
        · rw [e]; omega
        · rw [e]; omega
      walk_at "run"
      rw [show ((g : Int) % 2) = ((g % 2 : Nat) : Int) by omega]
      refine cp_read_log ds1 wf (by omega) (by omega) fr1 D (hz _ (by omega) hst.1) fun t2 y dl pl R2 H2 sR2 ds2 h2 ao => ?_
      have h2' := ds2.same _ _ h2
      walk_at "run"
      refine cp_area_start ds2 wf (by omega) (by omega) (by omega) ?_
      walk_at "run"
      refine cp_area_size ds2 wf (by omega) ?_
      walk_at "run"
      rw [Int.add_zero, Int.sub_zero]
      refine cp_write_zeros ds2 wf (by omega) hc hst.2 hl fun R3 H3 sR3 ds3 => ?_
      obtain ⟨_, _, _, _, hx⟩ := ds3.ins
      walk_at "run"
      refine Sx.mts hx no_Disk_flush ?_
      walk_at "run"
      have wf3 := wz_wf (a := 2 + g % 2 * ((n - 2) / 2)) wf ((n - 2) / 2) hst.2
      refine cs_Disk_flush ds3 wf3 (by omega) (by rw [wz_cu]; exact hc) (fun _ R4 H4 sR4 ds4 => ?_) (fun e => by rw [wz_lf, hl] at e; cases e)
      walk_at "run"
      refine mk_Keeper ds4 wf3.use.flush (ao.keep (sR3.trans sR4)) fun k dk R5 H5 sR5 ds5 hk => ?_
      exact q k dk f y R5 H5 (sR1.trans (sR2.trans (sR3.trans (sR4.trans sR5)))) ds5 hk (ao.fr.keep (sR3.trans (sR4.trans sR5)))

theorem cs_open_keeper {CN CK CF C x : Addr} {R H : Hp} {rest : List (Addr × HO)} {s : Dk.St} {n m : Nat} {Q : VK} {E : XK} (ds : Dsk C R H x rest s) (wf : Dk.Wf n m s) (hm : m ≤ 100) (hc : s.cu ≤ 1000000) (hl : s.lf = none) (hr : ∀ q ∈ rest, ∃ l, q.2 = .lst l) (hz : ∀ a, 2 ≤ a → a < n → Rd.dec (Hr.toN (Dk.rd s a)) = none)
  (qn : Hr.newer (Hr.hdr s 0) (Hr.hdr s 1) = none → ∀ R' H', Same R R' → Dsk C R' H' x rest s → Sx.ErrB CN H' E)
  (q : ∀ g w h d c t, Hr.newer (Hr.hdr s 0) (Hr.hdr s 1) = some (g, w, h, d, c, t) → ∀ k dk f y R' H', Same R R' → Dsk C R' H' x rest (opd s n g) → R' k = some (.ins CK dk (fl_Keeper (.ref f) (.ref x) (.int ((opd s n g).cu : Int)) (.int (g : Int)) (.ref y) (.int 0))) → Frm CF R' f w h d c t → Q (.ref k) H') :
    Sx.CS (sp_open_keeper CN CK CF C) [.ref x] H Q E := ⟨R, x, rest, s, n, m, rfl, ds, wf, hm, hc, hl, hr, hz, qn, q⟩

noncomputable def sp_law_open (CF C : Addr) : Sp := fun vs H Q _ => ∃ (R : Hp) (x : Addr) (rest : List (Addr × HO)) (s : Dk.St) (n m : Nat), vs = [.ref x] ∧ Dsk C R H x rest s ∧ Dk.Wf n m s ∧ m ≤ 100 ∧ s.cu ≤ 1000000 ∧ s.lf = none ∧ (∀ q ∈ rest, ∃ l, q.2 = .lst l) ∧ (∀ a, 2 ≤ a → a < n → Rd.dec (Hr.toN (Dk.rd s a)) = none) ∧
  (Hr.newer (Hr.hdr s 0) (Hr.hdr s 1) = none → ∀ R' H', Same R R' → Dsk C R' H' x rest s → Q .non H') ∧
  (∀ g w h d c t, Hr.newer (Hr.hdr s 0) (Hr.hdr s 1) = some (g, w, h, d, c, t) → ∀ f R' H', Same R R' → Dsk C R' H' x rest (opd s n g) → Frm CF R' f w h d c t → Q (.ref f) H')

theorem sc_law_open : FnScope ["disk", "e"] ["disk"] (defScope s_law_open) := ⟨rfl, rfl, rfl, by decide +kernel, rfl, by decide +kernel, by decide +kernel⟩
theorem ok_law_open (T : Tx P K mg) : FnOk P w K mg base CX0 13 T.law_open.a T.law_open.d ["disk"] (sp_law_open T.a_Frame T.a_Disk) := by
  refine T.law_open.f.ok sc_law_open (fun vs H Q E h => ?_) (fun cdv A outer s H vs Q E hr h => ⟨_, pss_one (ps_try_as (i := 1) rfl rfl sc_law_open.nd rfl rfl ⟨rfl, by decide, .inl T.y_NotKept.g⟩ takes0 (fun W pn xe tk po => pss_one (ps_ret (Gx.pe_fldK (K := K) rfl (pe_callS (ok_open_keeper T) (hr.mono (by decide)) (by exact rfl) T.open_keeper.g T.open_keeper.f.kp T.open_keeper.b (fun σ => passAt tk σ) (pa_cons (pv 0) pa_nil)) rfl)))
      (fun a oe cls d pn hz hf => pss_cons (ps_if (pt_val (by exact pe_callB (Sx.call_isN T.is_NotKept hz hf) rfl T.n_isinstance (by decide +kernel) (pa_cons (pv 1) (pa_cons (pe_glob (v := .ref T.x_OutOfRange.C) rfl T.x_OutOfRange.g rfl) pa_nil)))) (pss_one (ps_ret (pe_str))) (pss_nil))
      (pss_one (ps_ret (pe_non))))), ?_⟩)
  · obtain ⟨R, x, rest, s, n, m, rfl, _⟩ := h
    rfl
  · skip
    obtain ⟨R, x, rest, s0, n, m, rfl, ds, wf, hm, hc, hl, hr, hz, qn, q⟩ := h
    walk_at "run"
    refine cs_open_keeper ds wf hm hc hl hr hz (fun e R1 H1 sR1 ds1 H2 s2 => ?_) (fun g w h d c t e k dk f y R1 H1 sR1 ds1 hk fr => ?_)
    · obtain ⟨R2, ds2, sR2, _⟩ := ds1.grow s2
      refine Sx.took T.y_NotKept.te fun a ha => ?_
      walk_at "run"
      refine Sx.isNR T.ki_NotKept_OutOfRange ?_
      walk_at "lit"
      exact qn e R2 H2 (sR1.trans sR2) ds2
    · have hk2 := ds1.same _ _ hk
      walk_at "run"
      exact q g w h d c t e f R1 H1 sR1 ds1 fr

theorem cp_law_open {CF C x : Addr} {R H : Hp} {rest : List (Addr × HO)} {s : Dk.St} {n m : Nat} {Q : VK} {E : XK} (ds : Dsk C R H x rest s) (wf : Dk.Wf n m s) (hm : m ≤ 100) (hc : s.cu ≤ 1000000) (hl : s.lf = none) (hr : ∀ q ∈ rest, ∃ l, q.2 = .lst l) (hz : ∀ a, 2 ≤ a → a < n → Rd.dec (Hr.toN (Dk.rd s a)) = none)
  (qn : Hr.newer (Hr.hdr s 0) (Hr.hdr s 1) = none → ∀ R' H', Same R R' → Dsk C R' H' x rest s → Q .non H')
  (q : ∀ g w h d c t, Hr.newer (Hr.hdr s 0) (Hr.hdr s 1) = some (g, w, h, d, c, t) → ∀ f R' H', Same R R' → Dsk C R' H' x rest (opd s n g) → Frm CF R' f w h d c t → Q (.ref f) H') : Gx.CP (sp_law_open CF C) [.ref x] [] H Q E := ⟨R, x, rest, s, n, m, rfl, ds, wf, hm, hc, hl, hr, hz, qn, q⟩

noncomputable def sp_law_is_integer : Sp := fun vs H Q _ => ∃ i : Int, vs = [.int i] ∧ Q (.bl true) H

theorem sc_law_is_integer : FnScope ["actual"] ["actual"] (defScope s_law_is_integer) := ⟨rfl, rfl, rfl, by decide +kernel, rfl, by decide +kernel, by decide +kernel⟩
theorem ok_law_is_integer (T : Tx P K mg) : FnOk P w K mg base CX0 1 T.law_is_integer.a T.law_is_integer.d ["actual"] (sp_law_is_integer) := by
  refine T.law_is_integer.f.ok sc_law_is_integer (fun vs H Q E h => ?_) (fun cdv A outer s H vs Q E hr h => ⟨_, pss_one (ps_ret (pe_and (pe_callB (Gx.c_isiK (K := K) rfl) rfl T.n_isinstance (by decide +kernel) (pa_cons (pv 0) (pa_cons (pe_bltn (v := .ty "int") rfl T.n_int (by decide +kernel) rfl) pa_nil))) (pe_one (pe_not (pe_callB (Gx.c_isiK (K := K) rfl) rfl T.n_isinstance (by decide +kernel) (pa_cons (pv 0) (pa_cons (pe_bltn (v := .ty "bool") rfl T.n_bool (by decide +kernel) rfl) pa_nil))))))), ?_⟩)
  · obtain ⟨i, rfl, _⟩ := h
    rfl
  · skip
    obtain ⟨i, rfl, q⟩ := h
    walk_at "go"
    refine Gx.isiI ?_ (by decide +kernel : kitB "int" "int" = some true)
    walk_at "go"
    refine Gx.isiI ?_ (by decide +kernel : kitB "int" "bool" = some false)
    walk_at "go"
    exact q

theorem cp_law_is_integer {i : Int} {H : Hp} {Q : VK} {E : XK} (q : Q (.bl true) H) : Gx.CP sp_law_is_integer [.int i] [] H Q E := ⟨i, rfl, q⟩

/-- a number from 0 on below the limit; the box's place moves -/
noncomputable def sp_law_draw : Sp := fun vs H Q _ => ∃ (H0 : Hp) (b p : Addr) (xs : List Int) (m : Int), vs = [.ref b, .int m] ∧ 0 < m ∧ Bx.Box H0 H b p xs ∧ ∀ (r : Int) (H' : Hp), 0 ≤ r → r < m → Bx.Box H0 H' b p xs → (∀ c, c ≠ b → H' c = H c) → Q (.int r) H'

theorem sc_law_draw : FnScope ["box", "many", "at"] ["box", "many"] (defScope s_law_draw) := ⟨rfl, rfl, rfl, by decide +kernel, rfl, by decide +kernel, by decide +kernel⟩
theorem ok_law_draw (T : Tx P K mg) : FnOk P w K mg base CX0 1 T.law_draw.a T.law_draw.d ["box", "many"] (sp_law_draw) := by
  refine T.law_draw.f.ok sc_law_draw (fun vs H Q E h => ?_) (fun cdv A outer s H vs Q E hr h => ⟨_, pss_cons (ps_set (i := 2) sc_law_draw.nd rfl (Or.inl rfl) (pe_ix (Gx.ix_seqK (K := K) rfl) (pv 0) (pe_int) (fun _ _ => rfl)))
      (pss_cons (ps_asg (pe_op op_add (pv 2) (pe_int)) (pg_sub (pv 0) (pe_int) set_list))
      (pss_cons (ps_if (pt_cmpR op_lt (pv 2) (pe_callB (Gx.c_lenK (K := K) rfl) rfl T.n_len (by decide +kernel) (pa_cons (pe_ix (Gx.ix_seqK (K := K) rfl) (pv 0) (pe_int) (fun _ _ => rfl)) pa_nil)) (nomark _)) (pss_one (ps_ret (pe_op op_mod (pe_callTy Gx.c_int rfl T.n_int (by decide +kernel) (pa_cons (pe_ix (Gx.ix_seqK (K := K) rfl) (pe_ix (Gx.ix_seqK (K := K) rfl) (pv 0) (pe_int) (fun _ _ => rfl)) (pv 2) (fun _ _ => rfl)) pa_nil)) (pv 1)))) (pss_nil))
      (pss_one (ps_ret (pe_op op_mod (pe_callTy Gx.c_int rfl T.n_int (by decide +kernel) (pa_cons (pe_op op_add (pe_op op_mul (pv 2) (pe_int)) (pe_int)) pa_nil)) (pv 1)))))), ?_⟩)
  · obtain ⟨H0, b, p, xs, m, rfl, _⟩ := h
    rfl
  · skip
    obtain ⟨H0, b, p, xs, m, rfl, hm, B, q⟩ := h
    have hne := B.ne
    obtain ⟨hs, nb, np, ⟨k, hk⟩, hd⟩ := B
    walk_at "go"
    refine Gx.ixL (SqL.of hk) (at_of (j := 1) rfl rfl) ?_
    walk_at "go"
    refine Gx.setL (j := 1) hk rfl ?_
    have hk2 : upd H b (.lst [.ref p, .int ((k : Int) + 1)]) b = some (.lst [.ref p, .int ((k + 1 : Nat) : Int)]) := by rw [upd_same]; rfl
    have hd2 : upd H b (.lst [.ref p, .int ((k : Int) + 1)]) p = some (.lst (xs.map V.int)) := by rw [upd_ne hne]; exact hd
    have B2 : Bx.Box H0 (upd H b (.lst [.ref p, .int ((k : Int) + 1)])) b p xs := ⟨Gx.same_up nb hs, nb, np, ⟨k + 1, hk2⟩, hd2⟩
    have kp : ∀ c, c ≠ b → upd H b (.lst [.ref p, .int ((k : Int) + 1)]) c = H c := fun c hc => upd_ne hc
    walk_at "go"
    refine Gx.ixL (SqL.of hk2) (at_of (j := 0) rfl rfl) ?_
    walk_at "go"
    refine Gx.lenL (SqL.of hd2) ?_
    rw [List.length_map]
    walk_at "go"
    refine Gx.if_d (fun hlt => ?_) (fun hge => ?_)
    · walk_at "go"
      refine Gx.ixL (SqL.of hk2) (at_of (j := 0) rfl rfl) ?_
      walk_at "go"
      refine Gx.ixL (SqL.of hd2) (Gx.at_map (by omega)) ?_
      walk_at "go"
      refine Gx.ic hm ?_
      exact q _ _ (Int.emod_nonneg _ (by omega)) (Int.emod_lt_of_pos _ hm) B2 kp
    · walk_at "go"
      refine Gx.ic (.inr (by decide)) ?_
      walk_at "go"
      refine Gx.ic hm ?_
      exact q _ _ (Int.emod_nonneg _ (by omega)) (Int.emod_lt_of_pos _ hm) B2 kp

theorem cp_law_draw {H0 H : Hp} {b p : Addr} {xs : List Int} {m : Int} {Q : VK} {E : XK} (B : Bx.Box H0 H b p xs) (hm : 0 < m) (q : ∀ (r : Int) (H' : Hp), 0 ≤ r → r < m → Bx.Box H0 H' b p xs → (∀ c, c ≠ b → H' c = H c) → Q (.int r) H') :
    Gx.CP sp_law_draw [.ref b, .int m] [] H Q E := ⟨H0, b, p, xs, m, rfl, hm, B, q⟩
theorem drB {R H : Hp} {b p : Addr} {xs : List Int} {m : Int} {Q : VK} {E : XK} (B : Nx.Bo R H b p xs) (hm : 0 < m) (q : ∀ (r : Nat) (H' : Hp), (r : Int) < m → Nx.Bo R H' b p xs → Q (.int (r : Int)) H') :
    Gx.CP (Fx.fr sp_law_draw) [.ref b, .int m] [] H Q E := Nx.whole (cp_law_draw B.old hm fun r H' h0 h1 B' kp => by
  have := q r.toNat H' (by omega) (B.again B' kp)
  rw [Int.toNat_of_nonneg h0] at this
  exact this)
/-- a draw among what changes -/
theorem drV {R H : Hp} {l1 l2 : List (Addr × HO)} {b p : Addr} {k : Nat} {xs : List Int} {m : Int} {Q : VK} {E : XK} (hv : Mv.Hv R H (l1 ++ (b, .lst [.ref p, .int (k : Int)]) :: l2)) (hp : R p = some (.lst (xs.map V.int))) (hm : 0 < m) (q : ∀ (r k' : Nat) (H' : Hp), (r : Int) < m → Mv.Hv R H' (l1 ++ (b, .lst [.ref p, .int (k' : Int)]) :: l2) → Q (.int (r : Int)) H') : Gx.CP sp_law_draw [.ref b, .int m] [] H Q E := by
  have hb : H b = some (.lst [.ref p, .int (k : Int)]) := hv.at (by simp)
  have hp' := hv.same _ _ hp
  have ne : p ≠ b := fun e => by
    rw [e, hb] at hp'
    injection hp' with hp'
    injection hp' with hp'
    cases xs with
    | nil => cases hp'
    | cons x xs => cases hp'
  refine cp_law_draw (H0 := fun a => if a = p ∨ a = b then none else H a) ⟨fun a o e => ?_, if_pos (.inr rfl), if_pos (.inl rfl), ⟨k, hb⟩, hp'⟩ hm fun r H' h0 h1 B' kp => ?_
  · by_cases c : a = p ∨ a = b
    · rw [if_pos c] at e; cases e
    · rw [if_neg c] at e; exact e
  · obtain ⟨k', hk'⟩ := B'.bx
    have eH : H' = upd H b (.lst [.ref p, .int (k' : Int)]) := funext fun c => by
      by_cases e : c = b
      · rw [e, hk', upd_same]
      · rw [kp c e, upd_ne e]
    have := q r.toNat k' H' (by omega) (by rw [eH]; exact hv.put)
    rw [Int.toNat_of_nonneg h0] at this
    exact this
theorem drD {C x : Addr} {R H : Hp} {l1 l2 : List (Addr × HO)} {s : Dk.St} {b p : Addr} {k : Nat} {xs : List Int} {m : Int} {Q : VK} {E : XK} (ds : Dsk C R H x (l1 ++ (b, .lst [.ref p, .int (k : Int)]) :: l2) s) (hp : R p = some (.lst (xs.map V.int))) (hm : 0 < m) (q : ∀ (r k' : Nat) (H' : Hp), (r : Int) < m → Dsk C R H' x (l1 ++ (b, .lst [.ref p, .int (k' : Int)]) :: l2) s → Q (.int (r : Int)) H') : Gx.CP sp_law_draw [.ref b, .int m] [] H Q E := by
  obtain ⟨dx, pb, pp, pt, vb, vp, hv, hb, h2, h3⟩ := ds
  exact drV (l1 := _ :: _ :: _ :: l1) hv hp hm fun r k' H' hr hv' => q r k' H' hr ⟨dx, pb, pp, pt, vb, vp, hv', hb, h2, h3⟩

noncomputable def sp_encode_header (C : Addr) : Sp := fun vs H Q _ => ∃ (x : Addr) (g w h d c t : Nat), vs = [.int (g : Int), .ref x] ∧ Frm C H x w h d c t ∧ ∀ p H', H p = none → Same H H' → H' p = some (.lst (Rd.W (Hd.hdN g w h d c t))) → Q (.ref p) H'

theorem sc_encode_header : FnScope ["generation", "frame", "numbers"] ["generation", "frame"] (defScope s_encode_header) := ⟨rfl, rfl, rfl, by decide +kernel, rfl, by decide +kernel, by decide +kernel⟩
theorem ok_encode_header (T : Tx P K mg) : FnOk P w K mg base CX0 1 T.encode_header.a T.encode_header.d ["generation", "frame"] (sp_encode_header T.a_Frame) := by
  refine T.encode_header.f.ok sc_encode_header (fun vs H Q E h => ?_) (fun cdv A outer s H vs Q E hr h => ⟨_, pss_cons (ps_set (i := 2) sc_encode_header.nd rfl (Or.inl rfl) (pe_lst (pa_cons (pe_fld (pv 1) rfl) (pa_cons (pe_fld (pv 1) rfl) (pa_cons (pe_fld (pv 1) rfl) (pa_cons (pe_fld (pv 1) rfl) (pa_cons (pe_fld (pv 1) rfl) pa_nil)))))))
      (pss_one (ps_ret (pe_op op_cat (pe_op op_cat (pe_op op_cat (pe_lst (pa_cons (pe_glob (v := .int 72) rfl T.c_HEADER_MARK ⟨_, rfl⟩) (pa_cons (pv 0) pa_nil))) (pv 2)) (pe_op Gx.o_rep (pe_lst (pa_cons (pe_int) pa_nil)) (pe_glob (v := .int 24) rfl T.c_HEADER_FILL ⟨_, rfl⟩))) (pe_lst (pa_cons (pe_glob (v := .int 72) rfl T.c_HEADER_MARK ⟨_, rfl⟩) pa_nil))))), ?_⟩)
  · obtain ⟨x, g, w, h, d, c, t, rfl, _⟩ := h
    rfl
  · skip
    obtain ⟨x, g, w, h, d, c, t, rfl, ⟨dx, hx⟩, q⟩ := h
    walk_at "run"
    refine Nx.lst0 (by show 5 ≤ sizeLine; decide) fun p1 H1 n1 s1 h1 => ?_
    walk_at "run"
    refine Nx.lst0 (by show 2 ≤ sizeLine; decide) fun p2 H2 n2 s2 h2 => ?_
    walk_at "run"
    refine Nx.cat0 h2 (s2 _ _ h1) (by show 7 ≤ sizeLine; decide) fun p3 H3 n3 s3 h3 => ?_
    walk_at "run"
    refine Nx.lst0 (by show 1 ≤ sizeLine; decide) fun p4 H4 n4 s4 h4 => ?_
    walk_at "run"
    refine Nx.repN0 (n := 24) h4 (by decide) fun p5 H5 n5 s5 h5 => ?_
    walk_at "run"
    refine Nx.cat0 ((s4.trans s5) _ _ h3) h5 (by show 31 ≤ sizeLine; decide) fun p6 H6 n6 s6 h6 => ?_
    walk_at "run"
    refine Nx.lst0 (by show 1 ≤ sizeLine; decide) fun p7 H7 n7 s7 h7 => ?_
    walk_at "run"
    refine Nx.cat0 (s7 _ _ h6) h7 (by show 32 ≤ sizeLine; decide) fun p8 H8 n8 s8 h8 => ?_
    have s : Same H H7 := by walk_at "xsame"
    exact q p8 H8 (s.free n8) (s.trans s8) h8

theorem cp_encode_header {C x : Addr} {g w h d c t : Nat} {H : Hp} {Q : VK} {E : XK} (f : Frm C H x w h d c t) (q : ∀ p H', H p = none → Same H H' → H' p = some (.lst (Rd.W (Hd.hdN g w h d c t))) → Q (.ref p) H') : Gx.CP (sp_encode_header C) [.int (g : Int), .ref x] [] H Q E := ⟨x, g, w, h, d, c, t, rfl, f, q⟩

noncomputable def sp_law_frame (K : PySem.W.Frag) (C : Addr) : Sp := fun vs H Q _ => ∃ (p : Addr) (w h d c t : Nat), vs = [.ref p] ∧ SqL K H p [.int (w : Int), .int (h : Int), .int (d : Int), .int (c : Int), .int (t : Int)] ∧ (1 ≤ w ∧ w ≤ 64) ∧ (1 ≤ h ∧ h ≤ 64) ∧ (1 ≤ d ∧ d ≤ 8) ∧ (c = 1 ∨ c = 3) ∧ (1 ≤ t ∧ t ≤ 16) ∧ w * h * c ≤ 3072 ∧ ∀ x H', H x = none → Same H H' → Frm C H' x w h d c t → Q (.ref x) H'

theorem sc_law_frame : FnScope ["shape"] ["shape"] (defScope s_law_frame) := ⟨rfl, rfl, rfl, by decide +kernel, rfl, by decide +kernel, by decide +kernel⟩
theorem ok_law_frame (T : Tx P K mg) : FnOk P w K mg base CX0 7 T.law_frame.a T.law_frame.d ["shape"] (sp_law_frame K T.a_Frame) := by
  refine T.law_frame.f.ok sc_law_frame (fun vs H Q E h => ?_) (fun cdv A outer s H vs Q E hr h => ⟨_, pss_one (ps_ret (pe_make ⟨T.mk_Frame, T.Frame___init__.m.at_, T.Frame___init__.m.fn, T.kp_Frame⟩ (ok_Frame___init__ T) (hr.mono (by decide)) rfl T.g_Frame T.Frame___init__.b .nil passL (pa_cons (pe_ix (Gx.ix_seqK (K := K) rfl) (pv 0) (pe_int) (fun _ _ => rfl)) (pa_cons (pe_ix (Gx.ix_seqK (K := K) rfl) (pv 0) (pe_int) (fun _ _ => rfl)) (pa_cons (pe_ix (Gx.ix_seqK (K := K) rfl) (pv 0) (pe_int) (fun _ _ => rfl)) (pa_cons (pe_ix (Gx.ix_seqK (K := K) rfl) (pv 0) (pe_int) (fun _ _ => rfl)) (pa_cons (pe_ix (Gx.ix_seqK (K := K) rfl) (pv 0) (pe_int) (fun _ _ => rfl)) pa_nil))))))), ?_⟩)
  · obtain ⟨p, w, h, d, c, t, rfl, _⟩ := h
    rfl
  · skip
    obtain ⟨p, w, h, d, c, t, rfl, hp, hw, hh, hd, hc, ht, hs, q⟩ := h
    walk_at "run"
    exact mk_Frame hw hh hd hc ht hs fun x H2 s hx fr => q x H2 hx s fr

theorem cp_law_frame {K : PySem.W.Frag} {C p : Addr} {w h d c t : Nat} {H : Hp} {Q : VK} {E : XK} (hp : SqL K H p [.int (w : Int), .int (h : Int), .int (d : Int), .int (c : Int), .int (t : Int)]) (hw : 1 ≤ w ∧ w ≤ 64) (hh : 1 ≤ h ∧ h ≤ 64) (hd : 1 ≤ d ∧ d ≤ 8) (hc : c = 1 ∨ c = 3) (ht : 1 ≤ t ∧ t ≤ 16) (hs : w * h * c ≤ 3072) (q : ∀ x H', H x = none → Same H H' → Frm C H' x w h d c t → Q (.ref x) H') :
    Gx.CP (sp_law_frame K C) [.ref p] [] H Q E := ⟨p, w, h, d, c, t, rfl, hp, hw, hh, hd, hc, ht, hs, q⟩

noncomputable def sp_law_block : Sp := fun vs H Q _ => ∃ (R : Hp) (b p l : Addr) (xs : List Int) (w h d c t g : Nat), vs = [.ref b, .ref l, .int (g : Int)] ∧ Nx.Bo R H b p xs ∧ R l = some (.lst [.int (w : Int), .int (h : Int), .int (d : Int), .int (c : Int), .int (t : Int)]) ∧ Sx.frameBad w h d c t = none ∧
  ∀ (e z : Addr) (zs : List Nat) (ok : Bool) (R' H' : Hp), R e = none → R z = none → Nx.Bo R' H' b p xs → Same R R' → R' e = some (.lst [.ref z, .bl ok]) → R' z = some (.lst (Rd.W zs)) → 32 ≤ zs.length → (∀ y ∈ zs.take 32, y ≤ 255) → Hd.dec (zs.take 32) = (if ok = true then some (g % 256, w, h, d, c, t) else none) → Q (.ref e) H'

theorem sc_law_block : FnScope ["box", "shape", "generation", "block", "kind"] ["box", "shape", "generation"] (defScope s_law_block) := ⟨rfl, rfl, rfl, by decide +kernel, rfl, by decide +kernel, by decide +kernel⟩
theorem ok_law_block (T : Tx P K mg) : FnOk P w K mg base CX0 8 T.law_block.a T.law_block.d ["box", "shape", "generation"] (sp_law_block) := by
  refine T.law_block.f.ok sc_law_block (fun vs H Q E h => ?_) (fun cdv A outer s H vs Q E hr h => ⟨_, pss_cons (ps_set (i := 3) sc_law_block.nd rfl (Or.inl rfl) (pe_call (Fx.frame0 (ok_encode_header T)) (hr.mono (by decide)) rfl T.encode_header.g T.encode_header.f.kp T.encode_header.b .nil pass0 (pa_cons (pe_op op_mod (pe_callTy Gx.c_int rfl T.n_int (by decide +kernel) (pa_cons (pv 2) pa_nil)) (pe_int)) (pa_cons (pe_call (Fx.frame0 (ok_law_frame T)) (hr.mono (by decide)) rfl T.law_frame.g T.law_frame.f.kp T.law_frame.b .nil pass0 (pa_cons (pv 1) pa_nil)) pa_nil))))
      (pss_cons (ps_set (i := 4) sc_law_block.nd rfl (Or.inl rfl) (pe_call (Fx.frame0 (ok_law_draw T)) (hr.mono (by decide)) rfl T.law_draw.g T.law_draw.f.kp T.law_draw.b .nil pass0 (pa_cons (pv 0) (pa_cons (pe_int) pa_nil))))
      (pss_cons (ps_if (pt_cmpR op_eq (pv 4) (pe_int) (nomark _)) (pss_one (ps_ret (pe_lst (pa_cons (pe_op Gx.o_rep (pe_lst (pa_cons (pe_int) pa_nil)) (pe_int)) (pa_cons (pe_bl) pa_nil))))) (pss_nil))
      (pss_cons (ps_if (pt_cmpR op_eq (pv 4) (pe_int) (nomark _)) (pss_one (ps_ret (pe_lst (pa_cons (pe_op op_cat (pe_slice (Gx.sl_listK (K := K) rfl) (pv 3) po_none (po_some (pe_op op_add (pe_int) (pe_call (Fx.frame0 (ok_law_draw T)) (hr.mono (by decide)) rfl T.law_draw.g T.law_draw.f.kp T.law_draw.b .nil pass0 (pa_cons (pv 0) (pa_cons (pe_int) pa_nil)))))) (pe_op Gx.o_rep (pe_lst (pa_cons (pe_int) pa_nil)) (pe_int))) (pa_cons (pe_bl) pa_nil))))) (pss_nil))
      (pss_one (ps_ret (pe_lst (pa_cons (pv 3) (pa_cons (pe_bl) pa_nil)))))))), ?_⟩)
  · obtain ⟨R, b, p, l, xs, w, h, d, c, t, g, rfl, _⟩ := h
    rfl
  · skip
    obtain ⟨R, b, p, l, xs, w, h, d, c, t, g, rfl, B, hl, ok, q⟩ := h
    obtain ⟨k1, k2, k3, k4, k5, k6⟩ := Sx.frameBad_none.mp ok
    rw [← Int.natCast_mul, ← Int.natCast_mul] at k6
    have hb : ∀ y ∈ Hd.hdN (g % 256) w h d c t, y ≤ 255 := by
      intro y m
      unfold Hd.hdN at m
      rcases List.mem_append.mp m with m | m
      · rcases List.mem_append.mp m with m | m
        · simp only [List.mem_cons, List.not_mem_nil, or_false] at m
          rcases m with m | m | m | m | m | m | m <;> omega
        · rw [List.eq_of_mem_replicate m]; omega
      · rw [List.mem_singleton.mp m]; omega
    walk_at "run"
    rw [show (g : Int) % 256 = ((g % 256 : Nat) : Int) by omega]
    obtain ⟨S, O, up⟩ := B.step
    refine Nx.inF O (cp_law_frame (w := w) (h := h) (d := d) (c := c) (t := t) (by walk_at "fact") (by omega) (by omega) (by omega) (by omega) (by omega) (by omega) fun x R6 nx s6 fr H6 O6 => ?_)
    have B := up _ _ O6 s6
    walk_at "run"
    obtain ⟨S, O, up⟩ := B.step
    refine Nx.inF O (cp_encode_header fr fun blk R7 nb s7 hb7 H7 O7 => ?_)
    have B := up _ _ O7 s7
    walk_at "run"
    refine drB B (by decide) fun kd H8 hk B => ?_
    walk_at "run"
    refine Gx.if_d (fun _ => ?_) (fun _ => ?_)
    · walk_at "run"
      refine Nx.lstB (by show 1 ≤ sizeLine; decide) B fun q1 R9 H9 n9 B s9 h9 => ?_
      walk_at "run"
      refine Nx.repNB (n := 32) (by walk_at "fact") (by decide) B fun q2 RA HA nA B sA hA => ?_
      walk_at "run"
      refine Nx.lstB (by show 2 ≤ sizeLine; decide) B fun q3 RB HB nB B sB hB => ?_
      have sQ : Same R RA := by walk_at "xsame"
      have sP : Same R R9 := by walk_at "xsame"
      refine q q3 q2 (List.replicate 32 0) false RB HB (sQ.free nB) (sP.free nA) B (sQ.trans sB) hB (by rw [sB _ _ hA]; unfold Rd.W; rw [List.map_replicate]; rfl) (by rw [List.length_replicate]; decide) (fun y m => ?_) ?_
      · rw [List.eq_of_mem_replicate (List.mem_of_mem_take m)]; omega
      · rw [if_neg (by decide)]
        exact Hd.dec_bad (.inl (by decide))
    walk_at "run"
    refine Gx.if_d (fun _ => ?_) (fun _ => ?_)
    · walk_at "run"
      refine drB B (by decide) fun r H9 hr B => ?_
      walk_at "run"
      refine Nx.slLB (SqL.of (by walk_at "fact")) B fun q1 RA HA nA B sA hA => ?_
      rw [show (1 : Int) + (r : Int) = ((1 + r : Nat) : Int) by omega, Dk.cutTo _ _ (by rw [Rd.W_len, Hd.hd_len]; omega), show (Rd.W (Hd.hdN (g % 256) w h d c t)).take (1 + r) = Rd.W ((Hd.hdN (g % 256) w h d c t).take (1 + r)) from (List.map_take ..).symm] at hA
      walk_at "run"
      refine Nx.lstB (by show 1 ≤ sizeLine; decide) B fun q2 RB HB nB B sB hB => ?_
      walk_at "run"
      refine Nx.repNB (n := 32) (by walk_at "fact") (by decide) B fun q3 RC HC nC B sC hC => ?_
      walk_at "run"
      refine Nx.catB (by walk_at "fact") (by walk_at "fact") (by rw [Rd.W_len, List.length_take, List.length_replicate, sizeLine_eq]; omega) B fun q4 RD HD nD B sD hD => ?_
      walk_at "run"
      refine Nx.lstB (by show 2 ≤ sizeLine; decide) B fun q5 RE HE nE B sE hE => ?_
      have sQ : Same R RD := by walk_at "xsame"
      have sP : Same R RC := by walk_at "xsame"
      have hlen : ((Hd.hdN (g % 256) w h d c t).take (1 + r)).length = 1 + r := by rw [List.length_take, Hd.hd_len]; omega
      refine q q5 q4 ((Hd.hdN (g % 256) w h d c t).take (1 + r) ++ List.replicate 32 0) false RE HE (sQ.free nE) (sP.free nD) B (sQ.trans sE) hE (by rw [sE _ _ hD, Rd.W_app]; rfl) (by rw [List.length_append, List.length_replicate]; omega) (fun y m => ?_) ?_
      · rcases List.mem_append.mp (List.mem_of_mem_take m) with m | m
        · exact hb y (List.mem_of_mem_take m)
        · rw [List.eq_of_mem_replicate m]; omega
      · rw [if_neg (by decide)]
        refine Hd.dec_bad (.inr ?_)
        rw [List.getD_eq_getElem?_getD, List.getElem?_take_of_lt (by omega), List.getElem?_append_right (by omega), hlen, List.getElem?_replicate, if_pos (by omega)]
        decide
    walk_at "run"
    refine Nx.lstB (by show 2 ≤ sizeLine; decide) B fun q5 RE HE nE B sE hE => ?_
    have sQ : Same R R7 := by walk_at "xsame"
    refine q q5 blk (Hd.hdN (g % 256) w h d c t) true RE HE (sQ.free nE) (s6.free nb) B (sQ.trans sE) hE (sE _ _ hb7) (Nat.le_of_eq Hd.hd_len.symm) (fun y m => hb y (List.mem_of_mem_take m)) ?_
    rw [List.take_of_length_le (Nat.le_of_eq Hd.hd_len), if_pos rfl]
    exact Hd.dec_hd ok

noncomputable def sp_law_shape : Sp := fun vs H Q _ => ∃ (R : Hp) (b p : Addr) (xs : List Int) (m n k : Nat), vs = [.ref b, .int (m : Int), .int (n : Int), .int (k : Int)] ∧ 0 < m ∧ 0 < n ∧ 0 < k ∧ Nx.Bo R H b p xs ∧
  ∀ (w h d c t : Nat) (l : Addr) (R' H' : Hp), 1 ≤ w → w ≤ m → 1 ≤ h → h ≤ m → 1 ≤ d → d ≤ n → (c = 1 ∨ c = 3) → 1 ≤ t → t ≤ k → R l = none → Nx.Bo R' H' b p xs → Same R R' → R' l = some (.lst [.int (w : Int), .int (h : Int), .int (d : Int), .int (c : Int), .int (t : Int)]) → Q (.ref l) H'

theorem sc_law_shape : FnScope ["box", "most", "planes", "side", "width", "height", "depth", "channels"] ["box", "most", "planes", "side"] (defScope s_law_shape) := ⟨rfl, rfl, rfl, by decide +kernel, rfl, by decide +kernel, by decide +kernel⟩
theorem ok_law_shape (T : Tx P K mg) : FnOk P w K mg base CX0 2 T.law_shape.a T.law_shape.d ["box", "most", "planes", "side"] (sp_law_shape) := by
  refine T.law_shape.f.ok sc_law_shape (fun vs H Q E h => ?_) (fun cdv A outer s H vs Q E hr h => ⟨_, pss_cons (ps_set (i := 4) sc_law_shape.nd rfl (Or.inl rfl) (pe_op op_add (pe_int) (pe_call (Fx.frame0 (ok_law_draw T)) (hr.mono (by decide)) rfl T.law_draw.g T.law_draw.f.kp T.law_draw.b .nil pass0 (pa_cons (pv 0) (pa_cons (pv 1) pa_nil)))))
      (pss_cons (ps_set (i := 5) sc_law_shape.nd rfl (Or.inl rfl) (pe_op op_add (pe_int) (pe_call (Fx.frame0 (ok_law_draw T)) (hr.mono (by decide)) rfl T.law_draw.g T.law_draw.f.kp T.law_draw.b .nil pass0 (pa_cons (pv 0) (pa_cons (pv 1) pa_nil)))))
      (pss_cons (ps_set (i := 6) sc_law_shape.nd rfl (Or.inl rfl) (pe_op op_add (pe_int) (pe_call (Fx.frame0 (ok_law_draw T)) (hr.mono (by decide)) rfl T.law_draw.g T.law_draw.f.kp T.law_draw.b .nil pass0 (pa_cons (pv 0) (pa_cons (pv 2) pa_nil)))))
      (pss_cons (ps_set (i := 7) sc_law_shape.nd rfl (Or.inl rfl) (pe_op op_add (pe_int) (pe_op op_mul (pe_int) (pe_callTy Gx.c_int rfl T.n_int (by decide +kernel) (pa_cons (pe_cmpR op_eq (pe_call (Fx.frame0 (ok_law_draw T)) (hr.mono (by decide)) rfl T.law_draw.g T.law_draw.f.kp T.law_draw.b .nil pass0 (pa_cons (pv 0) (pa_cons (pe_int) pa_nil))) (pe_int) (nomark _)) pa_nil)))))
      (pss_one (ps_ret (pe_lst (pa_cons (pv 4) (pa_cons (pv 5) (pa_cons (pv 6) (pa_cons (pv 7) (pa_cons (pe_op op_add (pe_int) (pe_call (Fx.frame0 (ok_law_draw T)) (hr.mono (by decide)) rfl T.law_draw.g T.law_draw.f.kp T.law_draw.b .nil pass0 (pa_cons (pv 0) (pa_cons (pv 3) pa_nil)))) pa_nil))))))))))), ?_⟩)
  · obtain ⟨R, b, p, xs, m, n, k, rfl, _⟩ := h
    rfl
  · skip
    obtain ⟨R, b, p, xs, m, n, k, rfl, hm, hn, hk, B, q⟩ := h
    walk_at "run"
    refine drB B (by omega) fun w H1 hw B => ?_
    walk_at "run"
    refine drB B (by omega) fun h H2 hh B => ?_
    walk_at "run"
    refine drB B (by omega) fun d H3 hd B => ?_
    walk_at "run"
    refine drB B (by omega) fun c H4 hc B => ?_
    walk_at "run"
    refine drB B (by omega) fun t H5 ht B => ?_
    walk_at "run"
    refine Nx.lstB (by show 5 ≤ sizeLine; decide) B fun l R' H' hl B s e => ?_
    refine q (1 + w) (1 + h) (1 + d) (if c = 0 then 3 else 1) (1 + t) l R' H' (by omega) (by omega) (by omega) (by omega) (by omega) (by omega) (by split <;> simp) (by omega) (by omega) hl B s ?_
    rw [e]
    have e1 : (1 : Int) + (w : Int) = ((1 + w : Nat) : Int) := by omega
    have e2 : (1 : Int) + (h : Int) = ((1 + h : Nat) : Int) := by omega
    have e3 : (1 : Int) + (d : Int) = ((1 + d : Nat) : Int) := by omega
    have e4 : (1 : Int) + 2 * (if decide ((c : Int) = 0) = true then 1 else 0) = ((if c = 0 then 3 else 1 : Nat) : Int) := by
      by_cases z : c = 0
      · subst z; rfl
      · rw [if_neg z, decide_eq_false (by omega)]; rfl
    have e5 : (1 : Int) + (t : Int) = ((1 + t : Nat) : Int) := by omega
    rw [e1, e2, e3, e4, e5]

noncomputable def sp_Disk_init (CE C : Addr) : Sp := fun vs H Q E => ∃ (H0 R0 : Hp) (rest : List (Addr × HO)) (x dx : Addr) (n : Int), vs = [.ref x, .int n] ∧ H x = some (.ins C dx []) ∧ Same H0 H ∧ H0 x = none ∧ Mv.Hv R0 H0 rest ∧
  ((4 ≤ n ∧ n ≤ 400) → ∀ R H', Same R0 R → Dsk C R H' x rest (Dk.s0 n.toNat) → Q .non H') ∧ (¬ (4 ≤ n ∧ n ≤ 400) → Sx.Err CE H0 "blocks" E)

theorem sc_Disk___init__ : FnScope ["self", "blocks", "_"] ["self", "blocks"] (defScope s_Disk___init__) := ⟨rfl, rfl, rfl, by decide +kernel, rfl, by decide +kernel, by decide +kernel⟩
theorem ok_Disk___init__ (T : Tx P K mg) : FnOk P w K mg base (L2.CX P w) 4 T.Disk___init__.a T.Disk___init__.d ["self", "blocks"] (sp_Disk_init T.x_OutOfRange.C T.a_Disk) := by
  refine T.Disk___init__.f.okX sc_Disk___init__ (fun vs H Q E h => ?_) (fun cdv A outer s H vs Q E hr h => ⟨_, pss_cons (ps_expr (pe_callS (ok_check_range T) (hr.mono (by decide)) rfl T.check_range.g T.check_range.f.kp T.check_range.b (fun σ => passAt (takes_of rfl rfl rfl rfl) σ) (pa_cons (pe_str) (pa_cons (pv 1) (pa_cons (pe_glob (v := .int 4) rfl T.c_BLOCKS_LEAST ⟨_, rfl⟩) (pa_cons (pe_glob (v := .int 400) rfl T.c_BLOCKS_MOST ⟨_, rfl⟩) pa_nil))))))
      (pss_cons (ps_fld (pv 0) (pe_lc (own := [("_", 2)]) (g := (gName 2)) (tt := tYes) rfl sc_Disk___init__.nd (pi_range1 rfl T.n_range (pa_cons (pv 1) pa_nil)) (blkOk_by (own := [("_", 2)]) (N := ["self", "blocks", "_"]) (sc := defScope s_Disk___init__) (by decide +kernel)) (fun _ _ _ _ _ => (pg_name (i := 2) sc_Disk___init__.nd rfl (Or.inl rfl))) (fun _ _ _ _ _ => pts_nil) (fun _ _ _ _ _ => pe_op Gx.o_rep (pe_lst (pa_cons (pe_int) pa_nil)) (pe_glob (v := .int 32) rfl T.c_BLOCK ⟨_, rfl⟩))) rfl)
      (pss_cons (ps_fld (pv 0) (pe_lst pa_nil) rfl)
      (pss_cons (ps_fld (pv 0) (pe_int) rfl)
      (pss_cons (ps_fld (pv 0) (pe_non) rfl)
      (pss_one (ps_fld (pv 0) (pe_lst pa_nil) rfl)))))), ?_⟩)
  · obtain ⟨H0, R0, rest, x, dx, n, rfl, _⟩ := h
    rfl
  · skip
    obtain ⟨H0, R0, rest, x, dx, n, rfl, hx, s0, h0, hv0, q, qe⟩ := h
    walk_at "run"
    refine cs_check_range (fun a1 a2 => ?_) (fun a => (qe a).mono s0)
    have q := q ⟨a1, a2⟩
    obtain ⟨n, rfl⟩ : ∃ m : Nat, n = m := ⟨n.toNat, by omega⟩
    rw [Int.toNat_natCast] at q
    clear qe
    obtain ⟨R1, hv1, sR1⟩ := hv0.more h0 s0 hx
    walk_at "run"
    refine Gx.r1 (by omega) (by omega) ?_
    rw [Int.toNat_natCast]
    refine Pq.lcLN (K := K) walk_range (by omega) (fun _ => Dk.zs) (fun _ _ => trivial) Gx.sameFn ?_ ?_
    · rintro i y H3 H3' R R0 hi s3 ⟨rfl, hy⟩ hr2
      walk_at "run"
      refine Nx.lst0 (by show 1 ≤ sizeLine; decide) fun p1 H4 n4 s4 h4 => ?_
      refine Nx.repN0 (n := 32) h4 (by decide) fun p2 H5 n5 s5 h5 => ?_
      exact hr2 p2 _ (s4.free n5) (s4.trans s5) (by rw [h5]; unfold Dk.zs; rw [List.map_replicate])
    intro pb H2 np s2 ll
    have hx2 := s2 _ _ hx
    have hl2 : ∃ vs, H2 pb = some (.lst vs) := by obtain ⟨ps, e, _⟩ := id ll; exact ⟨_, e⟩
    obtain ⟨vb, hvb⟩ := hl2
    obtain ⟨R2, hv2, sR2, gR2⟩ := hv1.more3 np s2 hvb
    obtain ⟨vb', e1, hb2⟩ := Dk.BL.ofLN (R := R2) (bs := List.replicate n Dk.zs) ll (by simp) (fun j hj => by rw [List.getD_eq_getElem?_getD, List.getElem?_replicate, if_pos hj]; rfl) fun a o h1 h2 h3 => gR2 a o h2 h1 h3
    obtain rfl : vb = vb' := by rw [hvb] at e1; injection e1 with e1; injection e1
    walk_at "run"
    refine Gx.sfp hx2 T.cl_Disk T.na_Disk__blocks (by walk_at "few") rfl ?_
    have hv3 := hv2.p1 (u := .ins T.a_Disk dx (putF "_blocks" (.ref pb) []))
    generalize upd H2 x (.ins T.a_Disk dx (putF "_blocks" (.ref pb) [])) = H3 at hv3 ⊢
    walk_at "run"
    refine Nx.lst0 (by show 0 ≤ sizeLine; decide) fun pp H4 n4 s4 h4 => ?_
    obtain ⟨R4, hv4, sR4⟩ := hv3.more n4 s4 h4
    have hx4 := hv4.g2
    walk_at "run"
    refine Gx.sfp hx4 T.cl_Disk T.na_Disk__pending (by walk_at "few") rfl ?_
    have hv5 := hv4.p2 (u := .ins T.a_Disk dx (putF "_pending" (.ref pp) (putF "_blocks" (.ref pb) [])))
    have hx5 := hv5.g2
    walk_at "run"
    refine Gx.sfp hx5 T.cl_Disk T.na_Disk__cuts (by walk_at "few") rfl ?_
    have hv6 := hv5.p2 (u := .ins T.a_Disk dx (putF "_cuts" (.int 0) (putF "_pending" (.ref pp) (putF "_blocks" (.ref pb) []))))
    have hx6 := hv6.g2
    walk_at "run"
    refine Gx.sfp hx6 T.cl_Disk T.na_Disk__left (by walk_at "few") rfl ?_
    have hv7 := hv6.p2 (u := .ins T.a_Disk dx (putF "_left" .non (putF "_cuts" (.int 0) (putF "_pending" (.ref pp) (putF "_blocks" (.ref pb) [])))))
    walk_at "run"
    refine Nx.lst0 (by show 0 ≤ sizeLine; decide) fun pt H8 n8 s8 h8 => ?_
    obtain ⟨R8, hv8, sR8, gR8⟩ := hv7.grow s8
    have hx8 := hv8.g2
    walk_at "run"
    refine Gx.sfp hx8 T.cl_Disk T.na_Disk__torn (by walk_at "few") rfl ?_
    have hv9 := hv8.p2 (u := .ins T.a_Disk dx (putF "_torn" (.ref pt) (putF "_left" .non (putF "_cuts" (.int 0) (putF "_pending" (.ref pp) (putF "_blocks" (.ref pb) []))))))
    rw [ini_Disk] at hv9 ⊢
    exact q R8 _ (sR1.trans (sR2.trans (sR4.trans sR8))) ⟨dx, pb, pp, pt, vb, [], hv9.rot3, hb2.keep (sR4.trans sR8), Dk.PL.nil, gR8 _ _ n8 h8⟩

theorem mk_Disk {CE C : Addr} {R : Hp} {rest : List (Addr × HO)} {n : Nat} {H : Hp} {Q : VK} {E : XK} (hv : Mv.Hv R H rest) (h4 : 4 ≤ n) (h5 : n ≤ 400) (q : ∀ x R' H2, Same R R' → Dsk C R' H2 x rest (Dk.s0 n) → Q (.ref x) H2) :
    Gx.MkP C (sp_Disk_init CE C) [.int (n : Int)] [] H Q E := by
  intro x dx hx hdx hne
  exact ⟨H, R, rest, x, dx, n, rfl, upd_same, Gx.same_up hx (Gx.same_new hdx), hx, hv, fun ok R' H2 s2 ds => ⟨rfl, q x R' H2 s2 ds⟩, fun e => absurd ⟨by omega, by omega⟩ e⟩

/-- a cell of the script, 0 beyond its end -/
noncomputable def sp_law_cell (K : PySem.W.Frag) : Sp := fun vs H Q _ => ∃ (a : Addr) (ns : List Int) (k : Nat), vs = [.ref a, .int (k : Int)] ∧ SqL K H a (ns.map V.int) ∧ k < 100000 ∧ Q (.int (ns.getD k 0)) H

theorem sc_law_cell : FnScope ["script", "k"] ["script", "k"] (defScope s_law_cell) := ⟨rfl, rfl, rfl, by decide +kernel, rfl, by decide +kernel, by decide +kernel⟩
theorem ok_law_cell (T : Tx P K mg) : FnOk P w K mg base CX0 1 T.law_cell.a T.law_cell.d ["script", "k"] (sp_law_cell K) := by
  refine T.law_cell.f.ok sc_law_cell (fun vs H Q E h => ?_) (fun cdv A outer s H vs Q E hr h => ⟨_, pss_cons (ps_if (pt_cmpR op_lt (pv 1) (pe_callB (Gx.c_lenK (K := K) rfl) rfl T.n_len (by decide +kernel) (pa_cons (pv 0) pa_nil)) (nomark _)) (pss_one (ps_ret (pe_ix (Gx.ix_seqK (K := K) rfl) (pv 0) (pv 1) (fun _ _ => rfl)))) (pss_nil))
      (pss_one (ps_ret (pe_int))), ?_⟩)
  · obtain ⟨a, ns, k, rfl, _⟩ := h
    rfl
  · skip
    obtain ⟨a, ns, k, rfl, hs, hk, q⟩ := h
    walk_at "go"
    refine Gx.lenL hs ?_
    walk_at "go"
    refine Gx.if_d (fun hlt => ?_) (fun hge => ?_)
    · rw [List.length_map] at hlt
      walk_at "go"
      exact Gx.ixL hs (Gx.at_map (by omega)) q
    · rw [List.length_map] at hge
      walk_at "go"
      have e : ns.getD k 0 = 0 := by
        rw [List.getD_eq_getElem?_getD, List.getElem?_eq_none (by omega)]; rfl
      rw [e] at q
      exact q

theorem cp_law_cell {K : PySem.W.Frag} {a : Addr} {ns : List Int} {k : Int} {H : Hp} {Q : VK} {E : XK} (hs : SqL K H a (ns.map V.int)) (h0 : 0 ≤ k) (h1 : k < 100000) (q : ∀ z : Int, (z ∈ ns ∨ z = 0) → Q (.int z) H) : Gx.CP (sp_law_cell K) [.ref a, .int k] [] H Q E := by
  refine ⟨a, ns, k.toNat, by rw [List.append_nil, Int.toNat_of_nonneg h0], hs, by omega, q _ ?_⟩
  rw [List.getD_eq_getElem?_getD]
  by_cases h : k.toNat < ns.length
  · rw [List.getElem?_eq_getElem h]; exact .inl (List.getElem_mem h)
  · rw [List.getElem?_eq_none (by omega)]; exact .inr rfl

/-- a new list of ints, as the script has them -/
noncomputable def sp_law_digits (K : PySem.W.Frag) : Sp := fun vs H Q _ => ∃ (a : Addr) (ns : List Int) (f l : Nat), vs = [.ref a, .int (f : Int), .int (l : Int)] ∧ SqL K H a (ns.map V.int) ∧ f ≤ l ∧ l ≤ 1000 ∧
  ∀ (xs : List Int) (p : Addr) (H' : Hp), H p = none → Same H H' → H' p = some (.lst (xs.map V.int)) → Q (.ref p) H'

theorem sc_law_digits : FnScope ["script", "first", "last", "digits", "k", "cell", "turn", "seed"] ["script", "first", "last"] (defScope s_law_digits) := ⟨rfl, rfl, rfl, by decide +kernel, rfl, by decide +kernel, by decide +kernel⟩
theorem ok_law_digits (T : Tx P K mg) : FnOk P w K mg base CX0 2 T.law_digits.a T.law_digits.d ["script", "first", "last"] (sp_law_digits K) := by
  refine T.law_digits.f.ok sc_law_digits (fun vs H Q E h => ?_) (fun cdv A outer s H vs Q E hr h => ⟨_, pss_cons (ps_set (i := 3) sc_law_digits.nd rfl (Or.inl rfl) (pe_lst pa_nil))
      (pss_cons (ps_for PassesOwn.never rfl (pi_range2 rfl T.n_range (pa_cons (pv 1) (pa_cons (pv 2) pa_nil))) (pg_name (i := 4) sc_law_digits.nd rfl (Or.inl rfl))
      (pss_cons (ps_set (i := 5) sc_law_digits.nd rfl (Or.inl rfl) (pe_call (ok_law_cell T) (hr.mono (by decide)) rfl T.law_cell.g T.law_cell.f.kp T.law_cell.b .nil pass0 (pa_cons (pv 0) (pa_cons (pv 4) pa_nil))))
      (C8.pss_cut (ps_if (pt_cmpR op_lt (pv 5) (pe_int) (nomark _)) (pss_one (ps_set (i := 5) sc_law_digits.nd rfl (Or.inl rfl) (pe_op op_sub (pe_int) (pe_op op_mul (pe_int) (pv 5))))) (pss_nil))
      (pss_one (ps_if (pt_cmpR op_ge (pv 5) (pe_int) (nomark _)) (pss_one (ps_for PassesOwn.never rfl (pi_range1 rfl T.n_range (pa_cons (pe_int) pa_nil)) (pg_name (i := 6) sc_law_digits.nd rfl (Or.inl rfl))
      (pss_one (ps_if (pt_cmpR op_gt (pv 5) (pe_int) (nomark _)) (pss_cons (ps_expr (pe_bm PySem.F.plainAttrs_list PySem.F.slot_list_append PySem.F.type_list_append mt_append (pv 3) (pa_cons (pe_op op_mod (pe_callTy Gx.c_int rfl T.n_int (by decide +kernel) (pa_cons (pv 5) pa_nil)) (pe_int)) pa_nil)))
      (pss_one (ps_set (i := 5) sc_law_digits.nd rfl (Or.inl rfl) (pe_op op_fdiv (pv 5) (pe_int))))) (pss_nil))))) (pss_cons (ps_set (i := 7) sc_law_digits.nd rfl (Or.inl rfl) (pe_op op_mod (pe_callTy Gx.c_int rfl T.n_int (by decide +kernel) (pa_cons (pe_op op_add (pe_op op_add (pe_op op_mul (pv 5) (pe_int)) (pe_op op_mul (pv 4) (pe_int))) (pe_int)) pa_nil)) (pe_int)))
      (pss_one (ps_for PassesOwn.never rfl (pi_range1 rfl T.n_range (pa_cons (pe_int) pa_nil)) (pg_name (i := 6) sc_law_digits.nd rfl (Or.inl rfl))
      (pss_cons (ps_set (i := 7) sc_law_digits.nd rfl (Or.inl rfl) (pe_op op_mod (pe_callTy Gx.c_int rfl T.n_int (by decide +kernel) (pa_cons (pe_op op_add (pe_op op_add (pe_op op_mul (pv 7) (pe_int)) (pe_op op_mul (pe_int) (pv 6))) (pe_int)) pa_nil)) (pe_int)))
      (pss_one (ps_expr (pe_bm PySem.F.plainAttrs_list PySem.F.slot_list_append PySem.F.type_list_append mt_append (pv 3) (pa_cons (pe_op op_mod (pe_callTy Gx.c_int rfl T.n_int (by decide +kernel) (pa_cons (pe_op op_fdiv (pv 7) (pe_int)) pa_nil)) (pe_int)) pa_nil)))))))))))))
      (pss_one (ps_ret (pv 3)))), ?_⟩)
  · obtain ⟨a, ns, f, l, rfl, _⟩ := h
    rfl
  · skip
    obtain ⟨a, ns, f, l, rfl, hs, hfl, hl, q⟩ := h
    walk_at "go"
    refine Gx.lstP (Nat.zero_le _) fun p hp => ?_
    walk_at "go"
    refine Gx.r2 (by omega) ?_
    refine Gx.fw walk_range (fun i σ' H' => ∃ (xs : List Int) (k c t sd : Option V), xs.length ≤ 60 * i ∧ Same H H' ∧ H' p = some (.lst (xs.map V.int)) ∧
      σ' = [some (.ref a), some (.int (f : Int)), some (.int (l : Int)), some (.ref p), k, c, t, sd]) ?_ (fun _ _ _ _ _ => trivial) ?_ ?_
    · exact ⟨[], none, none, none, none, Nat.zero_le _, Gx.same_new hp, upd_same, rfl⟩
    · rintro i x σ' H1 H1' hi ⟨xs, k, c, t, sd, hx, s1, hL, rfl⟩ ⟨rfl, hxi⟩
      have hxi2 : x = .int ((f + i : Nat) : Int) := hxi.trans (congrArg V.int (by omega))
      subst hxi2
      have hz : ∀ ys : List Int, ys.length ≤ 60 * i + 60 → (ys.map V.int).length < sizeLine := fun ys h => by rw [List.length_map, sizeLine_eq]; omega
      walk_at "go"
      refine cp_law_cell (s1.seq hs) (by omega) (by omega) fun c0 _ => ?_
      walk_at "go"
      refine Gx.cut (fun σ' H' => H' = H1' ∧ ∃ c1 : Int, σ' = [some (.ref a), some (.int (f : Int)), some (.int (l : Int)), some (.ref p), some (.int ((f + i : Nat) : Int)), some (.int c1), t, sd]) ?_ ?_
      · walk_at "go"
        refine Gx.if_d (fun _ => ?_) (fun _ => ?_)
        · walk_at "go"
          refine Gx.ic (.inl (by decide)) ?_
          walk_at "go"
          exact ⟨rfl, _, rfl⟩
        · walk_at "go"
          exact ⟨rfl, _, rfl⟩
      · rintro σ' H' ⟨rfl, c1, rfl⟩
        walk_at "go"
        refine Gx.if_b (fun _ => ?_) (fun _ => ?_)
        · walk_at "go"
          refine Gx.r1 (by decide) (by decide) ?_
          refine Gx.fw walk_range (fun j σ' H' => ∃ (ys : List Int) (c t : Option V) (cc : Int), ys.length ≤ 60 * i + j ∧ Same H H' ∧ H' p = some (.lst (ys.map V.int)) ∧
            σ' = [some (.ref a), some (.int (f : Int)), some (.int (l : Int)), some (.ref p), some (.int ((f + i : Nat) : Int)), some (.int cc), t, sd]) ⟨xs, none, t, c1, by omega, s1, hL, rfl⟩ (fun _ _ _ _ _ => trivial) ?_ ?_
          · rintro j x σ' H2 H2' hj ⟨ys, _, t, cc, hy, s2, hL2, rfl⟩ ⟨rfl, hxj⟩
            walk_at "go"
            refine Gx.if_b (fun _ => ?_) (fun _ => ?_)
            · walk_at "go"
              refine Gx.bmS (Gx.tyL (SqL.of hL2)) ?_
              walk_at "go"
              refine Gx.ic (by decide) ?_
              walk_at "go"
              refine Gx.app hL2 (hz ys (by omega)) ?_
              walk_at "go"
              refine Gx.ic ⟨by decide, by decide⟩ ?_
              walk_at "go"
              exact ⟨ys ++ [cc % 1000], none, some x, _, by rw [List.length_append, List.length_singleton]; omega, Gx.same_up hp s2, Gx.snoc, rfl⟩
            · walk_at "go"
              exact ⟨ys, none, some x, cc, by omega, s2, hL2, rfl⟩
          · rintro σ' H' ⟨ys, _, t, cc, hy, s2, hL2, rfl⟩
            walk_at "go"
            exact ⟨ys, _, _, _, _, by omega, s2, hL2, rfl⟩
        · walk_at "go"
          refine Gx.ic (.inr (by decide)) ?_
          walk_at "go"
          refine Gx.ic (.inr (by decide)) ?_
          walk_at "go"
          refine Gx.ic (by decide) ?_
          walk_at "go"
          refine Gx.r1 (by decide) (by decide) ?_
          refine Gx.fw walk_range (fun j σ' H' => ∃ (ys : List Int) (t : Option V) (s0 : Int), ys.length ≤ 60 * i + j ∧ Same H H' ∧ H' p = some (.lst (ys.map V.int)) ∧ 
            σ' = [some (.ref a), some (.int (f : Int)), some (.int (l : Int)), some (.ref p), some (.int ((f + i : Nat) : Int)), some (.int c1), t, some (.int s0)]) ⟨xs, t, _, by omega, s1, hL, rfl⟩ (fun _ _ _ _ _ => trivial) ?_ ?_
          · rintro j x σ' H2 H2' hj ⟨ys, t, s0, hy, s2, hL2, rfl⟩ ⟨rfl, hxj⟩
            subst hxj
            walk_at "go"
            refine Gx.ic (.inr (by decide)) ?_
            walk_at "go"
            refine Gx.ic (.inl (by decide)) ?_
            walk_at "go"
            refine Gx.ic (by decide) ?_
            walk_at "go"
            refine Gx.bmS (Gx.tyL (SqL.of hL2)) ?_
            walk_at "go"
            refine Gx.ic ⟨by decide, by decide⟩ ?_
            walk_at "go"
            refine Gx.ic (by decide) ?_
            walk_at "go"
            refine Gx.app hL2 (hz ys (by omega)) ?_
            exact ⟨ys ++ [_], _, _, by rw [List.length_append, List.length_singleton]; omega, Gx.same_up hp s2, Gx.snoc, rfl⟩
          · rintro σ' H' ⟨ys, t, s0, hy, s2, hL2, rfl⟩
            walk_at "go"
            exact ⟨ys, _, _, _, _, by omega, s2, hL2, rfl⟩
    · rintro σ' H' ⟨xs, k, c, t, sd, hx, s1, hL, rfl⟩
      walk_at "go"
      exact q xs p H' hp s1 hL

theorem cp_law_digits {K : PySem.W.Frag} {a : Addr} {ns : List Int} {f l : Int} {H : Hp} {Q : VK} {E : XK} (hs : SqL K H a (ns.map V.int)) (h0 : 0 ≤ f) (h1 : f ≤ l) (h2 : l ≤ 1000)
    (q : ∀ (xs : List Int) (p : Addr) (H' : Hp), H p = none → Same H H' → H' p = some (.lst (xs.map V.int)) → Q (.ref p) H') : Gx.CP (sp_law_digits K) [.ref a, .int f, .int l] [] H Q E :=
  ⟨a, ns, f.toNat, l.toNat, by rw [List.append_nil, Int.toNat_of_nonneg h0, Int.toNat_of_nonneg (Int.le_trans h0 h1)], hs, by omega, by omega, q⟩

theorem shapeD {C x : Addr} {R H : Hp} {rest : List (Addr × HO)} {s : Dk.St} {b p : Addr} {k : Nat} {xs : List Int} {m n j : Nat} {Q : VK} {E : XK} (ds : Dsk C R H x ((b, .lst [.ref p, .int (k : Int)]) :: rest) s) (hp : R p = some (.lst (xs.map V.int))) (hm : 0 < m) (hn : 0 < n) (hj : 0 < j) (q : ∀ (w h d c t : Nat) (l : Addr) (k' : Nat) (R' H' : Hp), 1 ≤ w → w ≤ m → 1 ≤ h → h ≤ m → 1 ≤ d → d ≤ n → (c = 1 ∨ c = 3) → 1 ≤ t → t ≤ j → Same R R' → Dsk C R' H' x ((b, .lst [.ref p, .int (k' : Int)]) :: rest) s → R' l = some (.lst [.int (w : Int), .int (h : Int), .int (d : Int), .int (c : Int), .int (t : Int)]) → Q (.ref l) H') : Gx.CP sp_law_shape [.ref b, .int (m : Int), .int (n : Int), .int (j : Int)] [] H Q E := by
  obtain ⟨R1, O, d1⟩ := Dsk.toOwn ds
  refine ⟨R1, b, p, xs, m, n, j, rfl, hm, hn, hj, ⟨⟨k, O⟩, d1.same _ _ hp⟩, fun w h d c t l R' H' a1 a2 a3 a4 a5 a6 a7 a8 a9 nl B' s hl => ?_⟩
  obtain ⟨⟨k', O'⟩, _⟩ := B'
  obtain ⟨R2, d2, s2, g2⟩ := d1.grow s
  exact q w h d c t l k' R2 H' a1 a2 a3 a4 a5 a6 a7 a8 a9 s2 (d2.ofOwn O') (g2 _ _ nl hl)
theorem blockD {C x : Addr} {R H : Hp} {rest : List (Addr × HO)} {s : Dk.St} {b p l : Addr} {k : Nat} {xs : List Int} {w h d c t g : Nat} {Q : VK} {E : XK} (ds : Dsk C R H x ((b, .lst [.ref p, .int (k : Int)]) :: rest) s) (hp : R p = some (.lst (xs.map V.int))) (hl : R l = some (.lst [.int (w : Int), .int (h : Int), .int (d : Int), .int (c : Int), .int (t : Int)])) (ok : Sx.frameBad w h d c t = none)
  (q : ∀ (e z : Addr) (zs : List Nat) (ok : Bool) (k' : Nat) (R' H' : Hp), Same R R' → Dsk C R' H' x ((b, .lst [.ref p, .int (k' : Int)]) :: rest) s → R' e = some (.lst [.ref z, .bl ok]) → R' z = some (.lst (Rd.W zs)) → 32 ≤ zs.length → (∀ y ∈ zs.take 32, y ≤ 255) → Hd.dec (zs.take 32) = (if ok = true then some (g % 256, w, h, d, c, t) else none) → Q (.ref e) H') : Gx.CP sp_law_block [.ref b, .ref l, .int (g : Int)] [] H Q E := by
  obtain ⟨R1, O, d1⟩ := Dsk.toOwn ds
  refine ⟨R1, b, p, l, xs, w, h, d, c, t, g, rfl, ⟨⟨k, O⟩, d1.same _ _ hp⟩, d1.same _ _ hl, ok, fun e z zs ok R' H' ne nz B' s he hz hz1 hz2 hz3 => ?_⟩
  obtain ⟨⟨k', O'⟩, _⟩ := B'
  obtain ⟨R2, d2, s2, g2⟩ := d1.grow s
  exact q e z zs ok k' R2 H' s2 (d2.ofOwn O') (g2 _ _ ne he) (g2 _ _ nz hz) hz1 hz2 hz3
/-- reading what was written -/
theorem rd_write {s : Dk.St} {a i : Nat} {b : List Int} : Dk.rd (s.write i b) a = if i = a then b else Dk.rd s a := by
  unfold Dk.rd Dk.St.write
  rw [List.foldl_append]
  rfl
theorem flB_get {a : Nat} : ∀ (pe : List (Nat × List Int)) (bs : List (List Int)), a < bs.length → (Dk.flB bs pe).getD a [] = pe.foldl (fun f e => if e.1 = a then e.2 else f) (bs.getD a [])
  | [], _, _ => rfl
  | e :: pe, bs, h => by
    show (Dk.flB (bs.set e.1 e.2) pe).getD a [] = _
    rw [flB_get pe _ (by rw [List.length_set]; exact h), List.foldl_cons]
    congr 1
    rw [List.getD_eq_getElem?_getD, List.getD_eq_getElem?_getD, List.getElem?_set]
    by_cases c : e.1 = a
    · rw [if_pos c, if_pos c, if_pos (by omega)]; rfl
    · rw [if_neg c, if_neg c]
theorem rd_flush {s : Dk.St} {n m a : Nat} (w : Dk.Wf n m s) (h : a < n) : Dk.rd s.flush a = Dk.rd s a := flB_get s.pe s.bl (by rw [w.bn]; exact h)
theorem rd_s0 {n a : Nat} (h : a < n) : Dk.rd (Dk.s0 n) a = Dk.zs := by
  show (List.replicate n Dk.zs).getD a [] = _
  rw [List.getD_eq_getElem?_getD, List.getElem?_replicate, if_pos h]; rfl
theorem toN_I (xs : List Nat) : Hr.toN (Rd.I xs) = xs := by
  unfold Hr.toN Rd.I
  rw [List.map_map]
  exact (List.map_congr_left fun v _ => by show Int.toNat (v : Int) = v; exact Int.toNat_natCast v).trans (List.map_id _)
theorem bok_I {xs : List Nat} (h : xs.length = 32) (g : ∀ y ∈ xs, y ≤ 255) : Dk.BOk (Rd.I xs) := by
  refine ⟨by unfold Rd.I; rw [List.length_map]; exact h, fun z m => ?_⟩
  unfold Rd.I at m
  obtain ⟨v, hv, rfl⟩ := List.mem_map.mp m
  have := g v hv
  omega
theorem cut32 {xs : List Nat} (h : 32 ≤ xs.length) : cutV (Rd.W xs) none (some 32) = Rd.W (xs.take 32) := (Dk.cutTo (Rd.W xs) 32 (by rw [Rd.W_len]; exact h)).trans (List.map_take ..).symm
noncomputable def Due80 (R : Hp) (z : Option (Nat × Nat × Nat × Nat × Nat × Nat)) (v : V) : Prop := match z with
  | none => v = .non
  | some (g, w, h, d, c, t) => ∃ u l : Addr, v = .ref u ∧ R u = some (.lst [.int (g : Int), .ref l]) ∧ R l = some (.lst [.int (w : Int), .int (h : Int), .int (d : Int), .int (c : Int), .int (t : Int)])
theorem zs_none : Hd.dec (Hr.toN Dk.zs) = none := by decide
theorem zs_rec : Rd.dec (Hr.toN Dk.zs) = none := by decide

theorem sc_law : FnScope ["script", "box", "size", "disk", "generation", "other", "shapes", "first", "second", "due", "area", "told"] ["script"] (defScope s_law) := ⟨rfl, rfl, rfl, by decide +kernel, rfl, by decide +kernel, by decide +kernel⟩
theorem ok_law (T : Tx P K mg) : FnOk P w K mg base CX0 14 T.law.a T.law.d ["script"] (spLaw K) := by
  refine T.law.f.ok sc_law (fun vs H Q E h => ?_) (fun cdv A outer s H vs Q E hr h => ⟨_, pss_cons (ps_set (i := 1) sc_law.nd rfl (Or.inl rfl) (pe_lst (pa_cons (pe_call (ok_law_digits T) (hr.mono (by decide)) rfl T.law_digits.g T.law_digits.f.kp T.law_digits.b .nil pass0 (pa_cons (pv 0) (pa_cons (pe_int) (pa_cons (pe_int) pa_nil)))) (pa_cons (pe_int) pa_nil))))
      (pss_cons (ps_set (i := 2) sc_law.nd rfl (Or.inl rfl) (pe_op op_add (pe_int) (pe_call (ok_law_draw T) (hr.mono (by decide)) rfl T.law_draw.g T.law_draw.f.kp T.law_draw.b .nil pass0 (pa_cons (pv 1) (pa_cons (pe_int) pa_nil)))))
      (pss_cons (ps_set (i := 3) sc_law.nd rfl (Or.inl rfl) (pe_make ⟨T.mk_Disk, T.Disk___init__.m.at_, T.Disk___init__.m.fn, T.kp_Disk⟩ (ok_Disk___init__ T) (hr.mono (by decide)) rfl T.g_Disk T.Disk___init__.b .nil passL (pa_cons (pv 2) pa_nil)))
      (pss_cons (ps_if (PW.pt (pw_or (pt_cmpR op_notN (pe_call (ok_newest_header T) (hr.mono (by decide)) rfl T.newest_header.g T.newest_header.f.kp T.newest_header.b .nil pass0 (pa_cons (pv 3) pa_nil)) (pe_non) (nomark _)) (pw_or1 (pt_cmpR op_notN (pe_call (ok_law_open T) (hr.mono (by decide)) rfl T.law_open.g T.law_open.f.kp T.law_open.b .nil pass0 (pa_cons (pv 3) pa_nil)) (pe_non) (nomark _))))) (pss_one (ps_ret (pe_bl))) (pss_nil))
      (pss_cons (ps_set (i := 4) sc_law.nd rfl (Or.inl rfl) (pe_op op_mod (pe_callTy Gx.c_int rfl T.n_int (by decide +kernel) (pa_cons (pe_call (ok_law_draw T) (hr.mono (by decide)) rfl T.law_draw.g T.law_draw.f.kp T.law_draw.b .nil pass0 (pa_cons (pv 1) (pa_cons (pe_int) pa_nil))) pa_nil)) (pe_int)))
      (C8.pss_cut (ps_if (pt_cmpR op_eq (pe_call (ok_law_draw T) (hr.mono (by decide)) rfl T.law_draw.g T.law_draw.f.kp T.law_draw.b .nil pass0 (pa_cons (pv 1) (pa_cons (pe_int) pa_nil))) (pe_int) (nomark _)) (pss_one (ps_set (i := 4) sc_law.nd rfl (Or.inl rfl) (pe_int))) (pss_nil))
      (pss_cons (ps_set (i := 5) sc_law.nd rfl (Or.inl rfl) (pe_op op_mod (pe_callTy Gx.c_int rfl T.n_int (by decide +kernel) (pa_cons (pe_op op_add (pv 4) (pe_ix (Gx.ix_seqK (K := K) rfl) (pe_lst (pa_cons (pe_int) (pa_cons (pe_int) (pa_cons (pe_int) (pa_cons (pe_call (ok_law_draw T) (hr.mono (by decide)) rfl T.law_draw.g T.law_draw.f.kp T.law_draw.b .nil pass0 (pa_cons (pv 1) (pa_cons (pe_int) pa_nil))) pa_nil))))) (pe_call (ok_law_draw T) (hr.mono (by decide)) rfl T.law_draw.g T.law_draw.f.kp T.law_draw.b .nil pass0 (pa_cons (pv 1) (pa_cons (pe_int) pa_nil))) (fun _ _ => rfl))) pa_nil)) (pe_int)))
      (pss_cons (ps_set (i := 6) sc_law.nd rfl (Or.inl rfl) (pe_lst (pa_cons (pe_call (ok_law_shape T) (hr.mono (by decide)) rfl T.law_shape.g T.law_shape.f.kp T.law_shape.b .nil pass0 (pa_cons (pv 1) (pa_cons (pe_int) (pa_cons (pe_int) (pa_cons (pe_int) pa_nil))))) (pa_cons (pe_call (ok_law_shape T) (hr.mono (by decide)) rfl T.law_shape.g T.law_shape.f.kp T.law_shape.b .nil pass0 (pa_cons (pv 1) (pa_cons (pe_int) (pa_cons (pe_int) (pa_cons (pe_int) pa_nil))))) pa_nil))))
      (pss_cons (ps_set (i := 7) sc_law.nd rfl (Or.inl rfl) (pe_call (ok_law_block T) (hr.mono (by decide)) rfl T.law_block.g T.law_block.f.kp T.law_block.b .nil pass0 (pa_cons (pv 1) (pa_cons (pe_ix (Gx.ix_seqK (K := K) rfl) (pv 6) (pe_int) (fun _ _ => rfl)) (pa_cons (pv 4) pa_nil)))))
      (pss_cons (ps_set (i := 8) sc_law.nd rfl (Or.inl rfl) (pe_call (ok_law_block T) (hr.mono (by decide)) rfl T.law_block.g T.law_block.f.kp T.law_block.b .nil pass0 (pa_cons (pv 1) (pa_cons (pe_ix (Gx.ix_seqK (K := K) rfl) (pv 6) (pe_int) (fun _ _ => rfl)) (pa_cons (pv 5) pa_nil)))))
      (pss_cons (ps_expr (pe_meth (pv 3) T.cl_Disk T.Disk_write.m (ok_Disk_write T) (hr.mono (by decide)) T.Disk_write.b .nil passL (pa_cons (pe_int) (pa_cons (pe_slice (Gx.sl_listK (K := K) rfl) (pe_ix (Gx.ix_seqK (K := K) rfl) (pv 7) (pe_int) (fun _ _ => rfl)) po_none (po_some (pe_int))) pa_nil))))
      (pss_cons (ps_expr (pe_meth (pv 3) T.cl_Disk T.Disk_write.m (ok_Disk_write T) (hr.mono (by decide)) T.Disk_write.b .nil passL (pa_cons (pe_int) (pa_cons (pe_slice (Gx.sl_listK (K := K) rfl) (pe_ix (Gx.ix_seqK (K := K) rfl) (pv 8) (pe_int) (fun _ _ => rfl)) po_none (po_some (pe_int))) pa_nil))))
      (C8.pss_cut (ps_if (pt_cmpR op_eq (pe_call (ok_law_draw T) (hr.mono (by decide)) rfl T.law_draw.g T.law_draw.f.kp T.law_draw.b .nil pass0 (pa_cons (pv 1) (pa_cons (pe_int) pa_nil))) (pe_int) (nomark _)) (pss_one (ps_expr (pe_meth0 (pv 3) T.cl_Disk T.Disk_flush.m (ok_Disk_flush T) (hr.mono (by decide)) T.Disk_flush.b .nil passL))) (pss_nil))
      (pss_cons (ps_set (i := 9) sc_law.nd rfl (Or.inl rfl) (pe_non))
      (C8.pss_cut (ps_if (pt_truth (pe_ix (Gx.ix_seqK (K := K) rfl) (pv 7) (pe_int) (fun _ _ => rfl)) (by intro _; rfl)) (pss_one (ps_set (i := 9) sc_law.nd rfl (Or.inl rfl) (pe_lst (pa_cons (pv 4) (pa_cons (pe_ix (Gx.ix_seqK (K := K) rfl) (pv 6) (pe_int) (fun _ _ => rfl)) pa_nil))))) (pss_nil))
      (C8.pss_cut (ps_if (PW.pt (pw_and (pt_truth (pe_ix (Gx.ix_seqK (K := K) rfl) (pv 8) (pe_int) (fun _ _ => rfl)) (by intro _; rfl)) (pw_and1 (PW.pt (pw_or (pt_not (pt_truth (pe_ix (Gx.ix_seqK (K := K) rfl) (pv 7) (pe_int) (fun _ _ => rfl)) (by intro _; rfl))) (pw_or1 (pt_cmpR op_eq (pv 5) (pe_op op_mod (pe_callTy Gx.c_int rfl T.n_int (by decide +kernel) (pa_cons (pe_op op_add (pv 4) (pe_int)) pa_nil)) (pe_int)) (nomark _)))))))) (pss_one (ps_set (i := 9) sc_law.nd rfl (Or.inl rfl) (pe_lst (pa_cons (pv 5) (pa_cons (pe_ix (Gx.ix_seqK (K := K) rfl) (pv 6) (pe_int) (fun _ _ => rfl)) pa_nil))))) (pss_nil))
      (pss_cons (ps_set (i := 10) sc_law.nd rfl (Or.inl rfl) (pe_op op_fdiv (pe_op op_sub (pv 2) (pe_int)) (pe_int)))
      (pss_cons (ps_if (PW.pt (pw_or (pt_cmpR op_ne (pe_call (ok_area_size T) (hr.mono (by decide)) rfl T.area_size.g T.area_size.f.kp T.area_size.b .nil pass0 (pa_cons (pv 3) pa_nil)) (pv 10) (nomark _)) (pw_or (pt_cmpR op_ne (pe_call (ok_area_start T) (hr.mono (by decide)) rfl T.area_start.g T.area_start.f.kp T.area_start.b .nil pass0 (pa_cons (pv 3) (pa_cons (pe_int) pa_nil))) (pe_int) (nomark _)) (pw_or1 (pt_cmpR op_ne (pe_call (ok_area_start T) (hr.mono (by decide)) rfl T.area_start.g T.area_start.f.kp T.area_start.b .nil pass0 (pa_cons (pv 3) (pa_cons (pe_int) pa_nil))) (pe_op op_add (pe_int) (pv 10)) (nomark _)))))) (pss_one (ps_ret (pe_bl))) (pss_nil))
      (pss_cons (ps_set (i := 11) sc_law.nd rfl (Or.inl rfl) (pe_call (ok_newest_header T) (hr.mono (by decide)) rfl T.newest_header.g T.newest_header.f.kp T.newest_header.b .nil pass0 (pa_cons (pv 3) pa_nil)))
      (pss_cons (ps_if (pt_cmpR op_isN (pv 9) (pe_non) (nomark _)) (pss_one (ps_ret (pe_and (pe_cmpR op_isN (pv 11) (pe_non) (nomark _)) (pe_one (pe_cmpR op_isN (pe_call (ok_law_open T) (hr.mono (by decide)) rfl T.law_open.g T.law_open.f.kp T.law_open.b .nil pass0 (pa_cons (pv 3) pa_nil)) (pe_non) (nomark _)))))) (pss_nil))
      (pss_cons (ps_if (PW.pt (pw_or (pt_not (pt_val (pe_callB (Gx.c_isiK (K := K) rfl) rfl T.n_isinstance (by decide +kernel) (pa_cons (pv 11) (pa_cons (pe_bltn (v := .ty "tuple") rfl T.n_tuple (by decide +kernel) rfl) pa_nil))))) (pw_or (pt_cmpR op_ne (pe_callB (Gx.c_lenK (K := K) rfl) rfl T.n_len (by decide +kernel) (pa_cons (pv 11) pa_nil)) (pe_int) (nomark _)) (pw_or (pt_not (pt_val (pe_call (ok_law_is_integer T) (hr.mono (by decide)) rfl T.law_is_integer.g T.law_is_integer.f.kp T.law_is_integer.b .nil pass0 (pa_cons (pe_ix (Gx.ix_seqK (K := K) rfl) (pv 11) (pe_int) (fun _ _ => rfl)) pa_nil)))) (pw_or1 (pt_cmpR op_ne (pe_ix (Gx.ix_seqK (K := K) rfl) (pv 11) (pe_int) (fun _ _ => rfl)) (pe_ix (Gx.ix_seqK (K := K) rfl) (pv 9) (pe_int) (fun _ _ => rfl)) (nomark _))))))) (pss_one (ps_ret (pe_bl))) (pss_nil))
      (pss_one (ps_ret (pe_and (pe_call (ok_law_same T) (hr.mono (by decide)) rfl T.law_same.g T.law_same.f.kp T.law_same.b .nil pass0 (pa_cons (pe_ix (Gx.ix_seqK (K := K) rfl) (pv 11) (pe_int) (fun _ _ => rfl)) (pa_cons (pe_ix (Gx.ix_seqK (K := K) rfl) (pv 9) (pe_int) (fun _ _ => rfl)) pa_nil))) (pe_one (pe_call (ok_law_same T) (hr.mono (by decide)) rfl T.law_same.g T.law_same.f.kp T.law_same.b .nil pass0 (pa_cons (pe_call (ok_law_open T) (hr.mono (by decide)) rfl T.law_open.g T.law_open.f.kp T.law_open.b .nil pass0 (pa_cons (pv 3) pa_nil)) (pa_cons (pe_ix (Gx.ix_seqK (K := K) rfl) (pv 9) (pe_int) (fun _ _ => rfl)) pa_nil))))))))))))))))))))))))))), ?_⟩)
  · obtain ⟨a, ns, rfl, _⟩ := h
    rfl
  · skip
    obtain ⟨a, ns, rfl, hs, hlen, hbits, q⟩ := h
    walk_at "run"
    refine cp_law_digits hs (by decide) (by decide) (by decide) fun xs p H1 np s1 hd => ?_
    walk_at "run"
    refine Nx.lst0 (by show 2 ≤ sizeLine; decide) fun b H2 nb s2 hb => ?_
    have hb : H2 b = some (.lst [.ref p, .int ((0 : Nat) : Int)]) := hb
    obtain ⟨R2, hv2, sR2⟩ := (Mv.Hv.nil (H := H1)).more nb s2 hb
    have hp2 := sR2 _ _ hd
    clear s1 s2 hb nb np hd hs
    walk_at "run"
    refine drV (l1 := []) hv2 hp2 (by decide) fun r0 k0 H3 hr0 hv3 => ?_
    obtain ⟨n, hn, hn1, hn2⟩ : ∃ n : Nat, (4 : Int) + (r0 : Int) = n ∧ 4 ≤ n ∧ n ≤ 9 := ⟨4 + r0, by omega, by omega, by omega⟩
    walk_at "run"
    rw [hn]
    refine mk_Disk hv3 hn1 (by omega) fun x R4 H4 sR4 ds => ?_
    have hp4 := sR4 _ _ hp2
    clear hv2 hv3 sR2 sR4 hp2
    walk_at "run"
    have w0 := Dk.wf0 hn1 (show n ≤ 400 by omega)
    have z0 : Hr.hdr (Dk.s0 n) 0 = none := by unfold Hr.hdr; rw [rd_s0 (by omega)]; exact zs_none
    have z1 : Hr.hdr (Dk.s0 n) 1 = none := by unfold Hr.hdr; rw [rd_s0 (by omega)]; exact zs_none
    refine cp_newest_header ds w0 (by omega) fun v1 H5 s5 t5 => ?_
    rw [z0, z1] at t5
    cases (show v1 = .non from t5)
    obtain ⟨R5, ds, sR5, _⟩ := ds.grow s5
    have hp5 := sR5 _ _ hp4
    clear t5 sR5 hp4 s5
    walk_at "run"
    refine cp_law_open ds w0 (by omega) (by show 0 ≤ 1000000; decide) rfl (fun q m => by rw [List.mem_singleton.mp m]; exact ⟨_, rfl⟩) (fun a h2 h3 => by rw [rd_s0 h3]; exact zs_rec) (fun _ R6 H6 sR6 ds => ?_) (fun g w h d c t e => by rw [z0, z1] at e; cases e)
    have hp6 := sR6 _ _ hp5
    clear sR6 hp5
    walk_at "run"
    refine drD (l1 := []) ds hp6 (by decide) fun r1 k1 H7 hr1 ds => ?_
    walk_at "run"
    rw [show (r1 : Int) % 256 = ((r1 % 256 : Nat) : Int) by omega]
    have hg1 : r1 % 256 < 256 := by omega
    generalize r1 % 256 = g0 at hg1 ⊢
    refine Gx.cut (fun σ' H' => ∃ (g k : Nat), g < 256 ∧ Dsk T.a_Disk R6 H' x [(b, .lst [.ref p, .int (k : Int)])] (Dk.s0 n) ∧ σ' = [some (.ref a), some (.ref b), some (.int (n : Int)), some (.ref x), some (.int (g : Int)), none, none, none, none, none, none, none]) ?_ ?_
    · walk_at "run"
      refine drD (l1 := []) ds hp6 (by decide) fun r2 k2 H8 hr2 ds => ?_
      walk_at "run"
      refine Gx.if_d (fun _ => ?_) (fun _ => ?_)
      · walk_at "run"
        exact ⟨255, k2, by decide, ds, rfl⟩
      · walk_at "run"
        exact ⟨g0, k2, hg1, ds, rfl⟩
    clear ds hr1 hg1 g0
    rintro σ' H8 ⟨g, k2, hg, ds, rfl⟩
    walk_at "run"
    refine drD (l1 := []) ds hp6 (by decide) fun r3 k3 H9 hr3 ds => ?_
    walk_at "run"
    refine Nx.lst0 (by show 4 ≤ sizeLine; decide) fun pl H10 n10 s10 h10 => ?_
    obtain ⟨R10, ds, sR10, g10⟩ := ds.grow s10
    have hp10 := sR10 _ _ hp6
    have h10 : R10 pl = some (.lst (Rd.W [1, 255, 0, r3])) := g10 _ _ n10 h10
    clear s10 n10 g10 sR10 hp6
    walk_at "run"
    refine drD (l1 := []) ds hp10 (by decide) fun r4 k4 H11 hr4 ds => ?_
    walk_at "run"
    refine Hd.pick (zs := [1, 255, 0, r3]) (SqL.of (ds.same _ _ h10)) (by show r4 < 4; omega) fun z4 _ => ?_
    walk_at "run"
    rw [show ((g : Int) + (z4 : Int)) % 256 = (((g + z4) % 256 : Nat) : Int) by omega]
    have ho : (g + z4) % 256 < 256 := by omega
    generalize (g + z4) % 256 = o at ho ⊢
    clear h10
    walk_at "run"
    refine shapeD (m := 9) (n := 8) (j := 16) ds hp10 (by decide) (by decide) (by decide) fun w1 h1 d1 c1 t1 l1 k5 R12 H12 a1 a2 a3 a4 a5 a6 a7 a8 a9 sR12 ds hl1 => ?_
    have hp12 := sR12 _ _ hp10
    have ok1 : Sx.frameBad w1 h1 d1 c1 t1 = none := by
      have hwhc : w1 * h1 * c1 ≤ 9 * 9 * 3 := Nat.mul_le_mul (Nat.mul_le_mul (by omega) (by omega)) (by omega)
      exact Sx.frameBad_none.mpr ⟨by omega, by omega, by omega, by omega, by omega, by rw [← Int.natCast_mul, ← Int.natCast_mul]; omega⟩
    clear a1 a2 a3 a4 a5 a6 a7 a8 a9 sR12 hp10
    walk_at "run"
    refine shapeD (m := 9) (n := 8) (j := 16) ds hp12 (by decide) (by decide) (by decide) fun w2 h2 d2 c2 t2 l2 k6 R13 H13 a1 a2 a3 a4 a5 a6 a7 a8 a9 sR13 ds hl2 => ?_
    have hp13 := sR13 _ _ hp12
    have hl1 := sR13 _ _ hl1
    have ok2 : Sx.frameBad w2 h2 d2 c2 t2 = none := by
      have hwhc : w2 * h2 * c2 ≤ 9 * 9 * 3 := Nat.mul_le_mul (Nat.mul_le_mul (by omega) (by omega)) (by omega)
      exact Sx.frameBad_none.mpr ⟨by omega, by omega, by omega, by omega, by omega, by rw [← Int.natCast_mul, ← Int.natCast_mul]; omega⟩
    clear a1 a2 a3 a4 a5 a6 a7 a8 a9 sR13 hp12
    walk_at "run"
    refine Nx.lst0 (by show 2 ≤ sizeLine; decide) fun ps H14 n14 s14 h14 => ?_
    obtain ⟨R14, ds, sR14, g14⟩ := ds.grow s14
    have hp14 := sR14 _ _ hp13
    have h14 := g14 _ _ n14 h14
    have hl1 := sR14 _ _ hl1
    have hl2 := sR14 _ _ hl2
    clear s14 n14 g14 sR14 hp13
    walk_at "run"
    have h14' := ds.same _ _ h14
    walk_at "run"
    refine blockD ds hp14 hl1 ok1 fun e1 z1 zs1 b1 k7 R15 H15 sR15 ds he1 hz1 zl1 zy1 zd1 => ?_
    have hp15 := sR15 _ _ hp14
    have hl1 := sR15 _ _ hl1
    have hl2 := sR15 _ _ hl2
    have h15 := sR15 _ _ h14
    have h15' := ds.same _ _ h15
    clear sR15 hp14 h14 h14'
    walk_at "run"
    refine blockD ds hp15 hl2 ok2 fun e2 z2 zs2 b2 k8 R16 H16 sR16 ds he2 hz2 zl2 zy2 zd2 => ?_
    have hp16 := sR16 _ _ hp15
    have hl1 := sR16 _ _ hl1
    have hl2 := sR16 _ _ hl2
    have h16 := sR16 _ _ h15
    have he1 := sR16 _ _ he1
    have hz1 := sR16 _ _ hz1
    clear sR16 hp15 h15 h15'
    rw [Nat.mod_eq_of_lt hg] at zd1
    rw [Nat.mod_eq_of_lt ho] at zd2
    walk_at "run"
    have he1' := ds.same _ _ he1
    have hz1' := ds.same _ _ hz1
    obtain ⟨_, _, _, _, hx⟩ := ds.ins
    refine Gx.mp hx no_Disk_write ?_
    walk_at "run"
    refine Nx.slL0 (SqL.of hz1') fun p17 H17 n17 s17 h17 => ?_
    rw [cut32 zl1] at h17
    obtain ⟨R17, ds, sR17, g17⟩ := ds.grow s17
    have hp17 := sR17 _ _ hp16
    have hl1 := sR17 _ _ hl1
    have hl2 := sR17 _ _ hl2
    have h17l := sR17 _ _ h16
    have he1 := sR17 _ _ he1
    have he2 := sR17 _ _ he2
    have hz2 := sR17 _ _ hz2
    have hpb := g17 _ _ n17 h17
    rw [← Rd.WI] at hpb
    walk_at "run"
    have bok1 := bok_I (xs := zs1.take 32) (by rw [List.length_take]; omega) zy1
    have bok2 := bok_I (xs := zs2.take 32) (by rw [List.length_take]; omega) zy2
    refine cp_Disk_write (z := 0) ds w0 (by omega) (by show 0 ≤ 1000000; decide) (.inl hpb) (by omega) bok1 rfl fun R18 H18 sR18 ds => ?_
    have wf1 := w0.write (a := 0) (show 0 < n by omega) bok1
    have hp18 := sR18 _ _ hp17
    have hl1 := sR18 _ _ hl1
    have hl2 := sR18 _ _ hl2
    have h18l := sR18 _ _ h17l
    have he1 := sR18 _ _ he1
    have he2 := sR18 _ _ he2
    have hz2 := sR18 _ _ hz2
    clear sR18 sR17 g17 hp16 hp17 h16 h17l he1' hz1' hz1 hpb h17 s17 n17 hx
    walk_at "run"
    have he2' := ds.same _ _ he2
    have hz2' := ds.same _ _ hz2
    obtain ⟨_, _, _, _, hx⟩ := ds.ins
    refine Gx.mp hx no_Disk_write ?_
    walk_at "run"
    refine Nx.slL0 (SqL.of hz2') fun p19 H19 n19 s19 h19 => ?_
    rw [cut32 zl2] at h19
    obtain ⟨R19, ds, sR19, g19⟩ := ds.grow s19
    have hp19 := sR19 _ _ hp18
    have hl1 := sR19 _ _ hl1
    have hl2 := sR19 _ _ hl2
    have h19l := sR19 _ _ h18l
    have he1 := sR19 _ _ he1
    have he2 := sR19 _ _ he2
    have hpb := g19 _ _ n19 h19
    rw [← Rd.WI] at hpb
    walk_at "run"
    refine cp_Disk_write (z := 1) ds wf1 (by omega) (by show 0 ≤ 1000000; decide) (.inl hpb) (by omega) bok2 rfl fun R20 H20 sR20 ds => ?_
    have wf2 := wf1.write (a := 1) (show 1 < n by omega) bok2
    have hp20 := sR20 _ _ hp19
    have hl1 := sR20 _ _ hl1
    have hl2 := sR20 _ _ hl2
    have h20l := sR20 _ _ h19l
    have he1 := sR20 _ _ he1
    have he2 := sR20 _ _ he2
    clear sR20 sR19 g19 hp18 hp19 h18l h19l he2' hz2' hz2 hpb h19 s19 n19 hx
    -- what the blocks say
    have y0 : Hr.hdr (((Dk.s0 n).write 0 (Rd.I (zs1.take 32))).write 1 (Rd.I (zs2.take 32))) 0 = (if b1 = true then some (g, w1, h1, d1, c1, t1) else none) := by
      unfold Hr.hdr; rw [rd_write, rd_write]; rw [if_neg (by decide), if_pos rfl, toN_I]; exact zd1
    have y1 : Hr.hdr (((Dk.s0 n).write 0 (Rd.I (zs1.take 32))).write 1 (Rd.I (zs2.take 32))) 1 = (if b2 = true then some (o, w2, h2, d2, c2, t2) else none) := by
      unfold Hr.hdr; rw [rd_write, if_pos rfl, toN_I]; exact zd2
    have y2 : ∀ a, 2 ≤ a → a < n → Rd.dec (Hr.toN (Dk.rd (((Dk.s0 n).write 0 (Rd.I (zs1.take 32))).write 1 (Rd.I (zs2.take 32))) a)) = none := fun a h2 h3 => by
      rw [rd_write, rd_write, if_neg (by omega), if_neg (by omega), rd_s0 h3]; exact zs_rec
    have lf0 : (((Dk.s0 n).write 0 (Rd.I (zs1.take 32))).write 1 (Rd.I (zs2.take 32))).lf = none := rfl
    have cu0 : (((Dk.s0 n).write 0 (Rd.I (zs1.take 32))).write 1 (Rd.I (zs2.take 32))).cu ≤ 1000000 := by show 0 ≤ 1000000; decide
    generalize ((Dk.s0 n).write 0 (Rd.I (zs1.take 32))).write 1 (Rd.I (zs2.take 32)) = s2 at ds wf2 y0 y1 y2 lf0 cu0
    clear bok1 bok2
    walk_at "run"
    refine Gx.cut (fun σ' H' => ∃ (R : Hp) (k : Nat) (s : Dk.St), Same R20 R ∧ Dsk T.a_Disk R H' x [(b, .lst [.ref p, .int (k : Int)])] s ∧ Dk.Wf n 2 s ∧ Hr.hdr s 0 = (if b1 = true then some (g, w1, h1, d1, c1, t1) else none) ∧ Hr.hdr s 1 = (if b2 = true then some (o, w2, h2, d2, c2, t2) else none) ∧ (∀ a, 2 ≤ a → a < n → Rd.dec (Hr.toN (Dk.rd s a)) = none) ∧ s.lf = none ∧ s.cu ≤ 1000000 ∧ σ' = [some (.ref a), some (.ref b), some (.int (n : Int)), some (.ref x), some (.int (g : Int)), some (.int (o : Int)), some (.ref ps), some (.ref e1), some (.ref e2), none, none, none]) ?_ ?_
    · walk_at "run"
      refine drD (l1 := []) ds hp20 (by decide) fun r2 k2 H8 hr2 ds => ?_
      walk_at "run"
      refine Gx.if_d (fun _ => ?_) (fun _ => ?_)
      · walk_at "run"
        obtain ⟨_, _, _, _, hx⟩ := ds.ins
        refine Gx.mp hx no_Disk_flush ?_
        walk_at "run"
        refine cp_Disk_flush ds wf2 (by omega) cu0 (by rw [lf0]; exact fun e => nomatch e) fun R21 H21 sR21 ds => ?_
        have eu : s2.use = s2 := by cases s2; cases lf0; rfl
        rw [eu] at ds
        walk_at "run"
        refine ⟨R21, k2, s2.flush, sR21, ds, wf2.flush.mono (by omega), ?_, ?_, fun a h2 h3 => ?_, lf0, cu0, rfl⟩
        · unfold Hr.hdr; rw [rd_flush wf2 (by omega)]; exact y0
        · unfold Hr.hdr; rw [rd_flush wf2 (by omega)]; exact y1
        · rw [rd_flush wf2 h3]; exact y2 a h2 h3
      · walk_at "run"
        exact ⟨R20, k2, s2, Same.refl _, ds, wf2, y0, y1, y2, lf0, cu0, rfl⟩
    clear ds wf2 y0 y1 y2 lf0 cu0 s2
    rintro σ' H21 ⟨R21, k9, s2, sR21, ds, wf2, y0, y1, y2, lf0, cu0, rfl⟩
    have hl1 := sR21 _ _ hl1
    have hl2 := sR21 _ _ hl2
    have h21l := sR21 _ _ h20l
    have he1 := sR21 _ _ he1
    have he2 := sR21 _ _ he2
    clear h20l sR21 hp20
    walk_at "run"
    have he1' := ds.same _ _ he1
    have he2' := ds.same _ _ he2
    have h21l' := ds.same _ _ h21l
    refine Gx.cut (fun σ' H' => ∃ (R : Hp) (v9 : V), Same R21 R ∧ Dsk T.a_Disk R H' x [(b, .lst [.ref p, .int (k9 : Int)])] s2 ∧ (if b1 = true then ∃ u : Addr, v9 = .ref u ∧ R u = some (.lst [.int (g : Int), .ref l1]) else v9 = .non) ∧ σ' = [some (.ref a), some (.ref b), some (.int (n : Int)), some (.ref x), some (.int (g : Int)), some (.int (o : Int)), some (.ref ps), some (.ref e1), some (.ref e2), some v9, none, none]) ?_ ?_
    · walk_at "run"
      refine ⟨b1, rfl, ?_⟩
      show Gx.IfP _ _ _
      cases b1 with
      | true =>
        refine Gx.if_t ?_
        walk_at "run"
        refine Nx.lst0 (by show 2 ≤ sizeLine; decide) fun u H22 n22 s22 h22 => ?_
        obtain ⟨R22, ds, sR22, g22⟩ := ds.grow s22
        walk_at "run"
        exact ⟨R22, .ref u, sR22, ds, by rw [if_pos rfl]; exact ⟨u, rfl, g22 _ _ n22 h22⟩, rfl⟩
      | false =>
        refine Gx.if_f ?_
        walk_at "run"
        exact ⟨R21, .non, Same.refl _, ds, by rw [if_neg (by decide)], rfl⟩
    clear ds
    rintro σ' H22 ⟨R22, v9, sR22, ds, hv9, rfl⟩
    have hl1 := sR22 _ _ hl1
    have hl2 := sR22 _ _ hl2
    have h22l := sR22 _ _ h21l
    have he1 := sR22 _ _ he1
    have he2 := sR22 _ _ he2
    have he1' := ds.same _ _ he1
    have he2' := ds.same _ _ he2
    have h22l' := ds.same _ _ h22l
    clear sR22 h21l h21l'
    walk_at "run"
    refine Gx.cut (fun σ' H' => ∃ (R : Hp) (v9 : V), Same R22 R ∧ Dsk T.a_Disk R H' x [(b, .lst [.ref p, .int (k9 : Int)])] s2 ∧ Due80 R (Hr.newer (Hr.hdr s2 0) (Hr.hdr s2 1)) v9 ∧ σ' = [some (.ref a), some (.ref b), some (.int (n : Int)), some (.ref x), some (.int (g : Int)), some (.int (o : Int)), some (.ref ps), some (.ref e1), some (.ref e2), some v9, none, none]) ?_ ?_
    · walk_at "run"
      refine ⟨b2, rfl, ?_⟩
      rw [y0, y1]
      clear y0 y1
      cases b2 with
      | false =>
        show Gx.IfP _ _ _
        refine Gx.if_f ?_
        walk_at "lit"
        refine ⟨R22, v9, Same.refl _, ds, ?_, rfl⟩
        cases b1 with
        | true =>
          rw [if_pos rfl] at hv9
          obtain ⟨u, rfl, hu⟩ := hv9
          exact ⟨u, l1, rfl, hu, hl1⟩
        | false => exact hv9
      | true =>
        show Gx.IfP _ _ _
        refine Gx.if_t ?_
        walk_at "run"
        refine ⟨b1, rfl, ?_⟩
        cases b1 with
        | false =>
          walk_at "lit"
          refine Nx.lst0 (by show 2 ≤ sizeLine; decide) fun u H23 n23 s23 h23 => ?_
          obtain ⟨R23, ds, sR23, g23⟩ := ds.grow s23
          walk_at "run"
          exact ⟨R23, .ref u, sR23, ds, ⟨u, l2, rfl, g23 _ _ n23 h23, sR23 _ _ hl2⟩, rfl⟩
        | true =>
          rw [if_pos rfl] at hv9
          obtain ⟨u9, rfl, hu9⟩ := hv9
          walk_at "lit"
          refine Gx.if_d (fun ho2 => ?_) (fun ho2 => ?_)
          · walk_at "run"
            refine Nx.lst0 (by show 2 ≤ sizeLine; decide) fun u H23 n23 s23 h23 => ?_
            obtain ⟨R23, ds, sR23, g23⟩ := ds.grow s23
            walk_at "run"
            refine ⟨R23, .ref u, sR23, ds, ?_, rfl⟩
            show Due80 _ (if o = (g + 1) % 256 then _ else _) _
            rw [if_pos (by omega)]
            exact ⟨u, l2, rfl, g23 _ _ n23 h23, sR23 _ _ hl2⟩
          · walk_at "run"
            refine ⟨R22, .ref u9, Same.refl _, ds, ?_, rfl⟩
            show Due80 _ (if o = (g + 1) % 256 then _ else _) _
            rw [if_neg (by omega)]
            exact ⟨u9, l1, rfl, hu9, hl1⟩
    clear ds hv9 v9 he1 he2 he1' he2' h22l h22l'
    rintro σ' H23 ⟨R23, v9, sR23, ds, du, rfl⟩
    clear hl1 hl2 sR23 y0 y1 ok1 ok2 hg ho
    walk_at "run"
    refine cp_area_size ds wf2 (by omega) ?_
    walk_at "run"
    refine Gx.if_dn (fun z => absurd (by omega) z) fun _ => ?_
    walk_at "run"
    refine cp_area_start (a := 0) ds wf2 (by omega) (by omega) (by omega) ?_
    walk_at "run"
    refine Gx.if_dn (fun z => absurd (by omega) z) fun _ => ?_
    walk_at "run"
    refine cp_area_start (a := 1) ds wf2 (by omega) (by omega) (by omega) ?_
    walk_at "run"
    refine Gx.if_dn (fun z => absurd (by omega) z) fun _ => ?_
    walk_at "run"
    refine cp_newest_header ds wf2 (by omega) fun v11 H24 s24 t24 => ?_
    obtain ⟨R24, ds, sR24, g24⟩ := ds.grow s24
    have hr : ∀ q ∈ [(b, HO.lst [.ref p, .int (k9 : Int)])], ∃ l, q.2 = .lst l := fun q m => by rw [List.mem_singleton.mp m]; exact ⟨_, rfl⟩
    walk_at "run"
    cases e : Hr.newer (Hr.hdr s2 0) (Hr.hdr s2 1) with
    | none =>
      rw [e] at du t24
      cases (show v9 = .non from du)
      cases (show v11 = .non from t24)
      walk_at "lit"
      refine cp_law_open ds wf2 (by omega) cu0 lf0 hr y2 (fun _ R25 H25 sR25 ds => ?_) (fun g w h d c t e' => by rw [e] at e'; cases e')
      walk_at "lit"
      exact q _
    | some z =>
      obtain ⟨g', w', h', d', c', t'⟩ := z
      rw [e] at du t24
      obtain ⟨u, l, rfl, hu, hl⟩ := du
      obtain ⟨tt, f, rfl, ht, fr⟩ := t24
      have hu := sR24 _ _ hu
      have hl := sR24 _ _ hl
      have hu' := ds.same _ _ hu
      have hl' := ds.same _ _ hl
      walk_at "lit"
      refine Gx.isi (.base (.tup ht)) ?_ (kit_ty (by decide +kernel : kitB "tuple" "tuple" = some true))
      walk_at "lit"
      refine Gx.lenT (SqT.of ht) ?_
      walk_at "lit"
      refine Gx.if_dn (fun z => absurd rfl z) fun _ => ?_
      walk_at "lit"
      refine cp_law_is_integer ?_
      walk_at "lit"
      refine Gx.if_dn (fun z => absurd rfl z) fun _ => ?_
      walk_at "lit"
      refine cp_law_same fr hl' fun H25 s25 => ?_
      obtain ⟨R25, ds, sR25, g25⟩ := ds.grow s25
      have hu := sR25 _ _ hu
      have hl := sR25 _ _ hl
      have hu' := ds.same _ _ hu
      walk_at "lit"
      refine cp_law_open ds wf2 (by omega) cu0 lf0 hr y2 (fun e' => by rw [e] at e'; cases e') (fun g3 w3 h3 d3 c3 t3 e3 f3 R26 H26 sR26 ds fr3 => ?_)
      rw [e] at e3
      cases e3
      have hu := sR26 _ _ hu
      have hl := sR26 _ _ hl
      have hu' := ds.same _ _ hu
      have hl' := ds.same _ _ hl
      walk_at "lit"
      refine cp_law_same (fr3.keep ds.same) hl' fun H27 s27 => ?_
      exact q _


end
theorem all_mk {l : PySem.W.OpenLaw} {w : World} {K : PySem.W.Frag} {h : Heap} {mg : Str → Option Value} {fa : Addr} (X : K.In h) (G : h.Ns mainGlobals mg) (hfa : mg "law" = some (.ref fa))
    {C_Frame : Addr}
    {C_Disk : Addr}
    {C_Arrived : Addr}
    {C_Keeper : Addr}
    {C_Coding : Addr}
    {C_OutOfRange f_OutOfRange cda_OutOfRange cc_OutOfRange N_OutOfRange : Addr} {nm_OutOfRange q_OutOfRange fi_OutOfRange : Str} {bs_OutOfRange bm_OutOfRange sub_OutOfRange : List Value} {sn_OutOfRange : List Str} {ab_OutOfRange : Bool} {col_OutOfRange : Option Bool} {dd_OutOfRange od_OutOfRange an_OutOfRange cdd_OutOfRange cld_OutOfRange : Option Addr} {k0_OutOfRange k1_OutOfRange k2_OutOfRange k3_OutOfRange k5_OutOfRange : Option Value} {oc_OutOfRange kV_OutOfRange dc_OutOfRange pm_OutOfRange ct_OutOfRange ccl_OutOfRange cl_OutOfRange : Value} {sl_OutOfRange ccs_OutOfRange csl_OutOfRange : Array (Option Value)} {vs_OutOfRange : Array Value} {tf_OutOfRange : Tok}
    {C_BitsAhead : Addr}
    {C_Contradiction : Addr}
    {C_NoSuchPacket : Addr}
    {C_NotKept : Addr}
    {C_PowerCut : Addr}
    {f_law_same : Addr} {od_law_same an_law_same : Option Addr} {sl_law_same : Array (Option Value)} {oc_law_same kV_law_same dc_law_same pm_law_same cd_law_same ct_law_same : Value}
    {f_Disk_cut_count : Addr} {od_Disk_cut_count an_Disk_cut_count : Option Addr} {sl_Disk_cut_count : Array (Option Value)} {oc_Disk_cut_count kV_Disk_cut_count dc_Disk_cut_count pm_Disk_cut_count cd_Disk_cut_count ct_Disk_cut_count : Value}
    {f_Keeper___init__ : Addr} {od_Keeper___init__ an_Keeper___init__ : Option Addr} {sl_Keeper___init__ : Array (Option Value)} {oc_Keeper___init__ kV_Keeper___init__ dc_Keeper___init__ pm_Keeper___init__ cd_Keeper___init__ ct_Keeper___init__ : Value}
    {f_Disk__cut : Addr} {od_Disk__cut an_Disk__cut : Option Addr} {sl_Disk__cut : Array (Option Value)} {oc_Disk__cut kV_Disk__cut dc_Disk__cut pm_Disk__cut cd_Disk__cut ct_Disk__cut : Value}
    {f_Disk__use_power : Addr} {od_Disk__use_power an_Disk__use_power : Option Addr} {sl_Disk__use_power : Array (Option Value)} {oc_Disk__use_power kV_Disk__use_power dc_Disk__use_power pm_Disk__use_power cd_Disk__use_power ct_Disk__use_power : Value}
    {f_Disk_flush : Addr} {od_Disk_flush an_Disk_flush : Option Addr} {sl_Disk_flush : Array (Option Value)} {oc_Disk_flush kV_Disk_flush dc_Disk_flush pm_Disk_flush cd_Disk_flush ct_Disk_flush : Value}
    {f_check_block : Addr} {od_check_block an_check_block : Option Addr} {sl_check_block : Array (Option Value)} {oc_check_block kV_check_block dc_check_block pm_check_block cd_check_block ct_check_block : Value}
    {f_check_range : Addr} {od_check_range an_check_range : Option Addr} {sl_check_range : Array (Option Value)} {oc_check_range kV_check_range dc_check_range pm_check_range cd_check_range ct_check_range : Value}
    {f_Disk__check_at : Addr} {od_Disk__check_at an_Disk__check_at : Option Addr} {sl_Disk__check_at : Array (Option Value)} {oc_Disk__check_at kV_Disk__check_at dc_Disk__check_at pm_Disk__check_at cd_Disk__check_at ct_Disk__check_at : Value}
    {f_Disk_write : Addr} {od_Disk_write an_Disk_write : Option Addr} {sl_Disk_write : Array (Option Value)} {oc_Disk_write kV_Disk_write dc_Disk_write pm_Disk_write cd_Disk_write ct_Disk_write : Value}
    {f_write_zeros : Addr} {od_write_zeros an_write_zeros : Option Addr} {sl_write_zeros : Array (Option Value)} {oc_write_zeros kV_write_zeros dc_write_zeros pm_write_zeros cd_write_zeros ct_write_zeros : Value}
    {f_Disk_size : Addr} {od_Disk_size an_Disk_size : Option Addr} {sl_Disk_size : Array (Option Value)} {oc_Disk_size kV_Disk_size dc_Disk_size pm_Disk_size cd_Disk_size ct_Disk_size : Value}
    {f_area_size : Addr} {od_area_size an_area_size : Option Addr} {sl_area_size : Array (Option Value)} {oc_area_size kV_area_size dc_area_size pm_area_size cd_area_size ct_area_size : Value}
    {f_area_start : Addr} {od_area_start an_area_start : Option Addr} {sl_area_start : Array (Option Value)} {oc_area_start kV_area_start dc_area_start pm_area_start cd_area_start ct_area_start : Value}
    {f_digits_of : Addr} {od_digits_of an_digits_of : Option Addr} {sl_digits_of : Array (Option Value)} {oc_digits_of kV_digits_of dc_digits_of pm_digits_of cd_digits_of ct_digits_of : Value}
    {f_shortest_cell : Addr} {od_shortest_cell an_shortest_cell : Option Addr} {sl_shortest_cell : Array (Option Value)} {oc_shortest_cell kV_shortest_cell dc_shortest_cell pm_shortest_cell cd_shortest_cell ct_shortest_cell : Value}
    {f_Coding_interval : Addr} {od_Coding_interval an_Coding_interval : Option Addr} {sl_Coding_interval : Array (Option Value)} {oc_Coding_interval kV_Coding_interval dc_Coding_interval pm_Coding_interval cd_Coding_interval ct_Coding_interval : Value}
    {f_context : Addr} {od_context an_context : Option Addr} {sl_context : Array (Option Value)} {oc_context kV_context dc_context pm_context cd_context ct_context : Value}
    {f_Coding_take : Addr} {od_Coding_take an_Coding_take : Option Addr} {sl_Coding_take : Array (Option Value)} {oc_Coding_take kV_Coding_take dc_Coding_take pm_Coding_take cd_Coding_take ct_Coding_take : Value}
    {f_Coding___init__ : Addr} {od_Coding___init__ an_Coding___init__ : Option Addr} {sl_Coding___init__ : Array (Option Value)} {oc_Coding___init__ kV_Coding___init__ dc_Coding___init__ pm_Coding___init__ cd_Coding___init__ ct_Coding___init__ : Value}
    {f_coding_of : Addr} {od_coding_of an_coding_of : Option Addr} {sl_coding_of : Array (Option Value)} {oc_coding_of kV_coding_of dc_coding_of pm_coding_of cd_coding_of ct_coding_of : Value}
    {f_interval : Addr} {od_interval an_interval : Option Addr} {sl_interval : Array (Option Value)} {oc_interval kV_interval dc_interval pm_interval cd_interval ct_interval : Value}
    {f_code_of : Addr} {od_code_of an_code_of : Option Addr} {sl_code_of : Array (Option Value)} {oc_code_of kV_code_of dc_code_of pm_code_of cd_code_of ct_code_of : Value}
    {f_opens : Addr} {od_opens an_opens : Option Addr} {sl_opens : Array (Option Value)} {oc_opens kV_opens dc_opens pm_opens cd_opens ct_opens : Value}
    {f_first_with_one : Addr} {od_first_with_one an_first_with_one : Option Addr} {sl_first_with_one : Array (Option Value)} {oc_first_with_one kV_first_with_one dc_first_with_one pm_first_with_one cd_first_with_one ct_first_with_one : Value}
    {f_last_with_zero : Addr} {od_last_with_zero an_last_with_zero : Option Addr} {sl_last_with_zero : Array (Option Value)} {oc_last_with_zero kV_last_with_zero dc_last_with_zero pm_last_with_zero cd_last_with_zero ct_last_with_zero : Value}
    {f_next_bits : Addr} {od_next_bits an_next_bits : Option Addr} {sl_next_bits : Array (Option Value)} {oc_next_bits kV_next_bits dc_next_bits pm_next_bits cd_next_bits ct_next_bits : Value}
    {f_Coding_shares : Addr} {od_Coding_shares an_Coding_shares : Option Addr} {sl_Coding_shares : Array (Option Value)} {oc_Coding_shares kV_Coding_shares dc_Coding_shares pm_Coding_shares cd_Coding_shares ct_Coding_shares : Value}
    {f_Coding_border : Addr} {od_Coding_border an_Coding_border : Option Addr} {sl_Coding_border : Array (Option Value)} {oc_Coding_border kV_Coding_border dc_Coding_border pm_Coding_border cd_Coding_border ct_Coding_border : Value}
    {f_bit_of_cell : Addr} {od_bit_of_cell an_bit_of_cell : Option Addr} {sl_bit_of_cell : Array (Option Value)} {oc_bit_of_cell kV_bit_of_cell dc_bit_of_cell pm_bit_of_cell cd_bit_of_cell ct_bit_of_cell : Value}
    {f_number_of : Addr} {od_number_of an_number_of : Option Addr} {sl_number_of : Array (Option Value)} {oc_number_of kV_number_of dc_number_of pm_number_of cd_number_of ct_number_of : Value}
    {f_prefix_of : Addr} {od_prefix_of an_prefix_of : Option Addr} {sl_prefix_of : Array (Option Value)} {oc_prefix_of kV_prefix_of dc_prefix_of pm_prefix_of cd_prefix_of ct_prefix_of : Value}
    {f_Frame_across : Addr} {od_Frame_across an_Frame_across : Option Addr} {sl_Frame_across : Array (Option Value)} {oc_Frame_across kV_Frame_across dc_Frame_across pm_Frame_across cd_Frame_across ct_Frame_across : Value}
    {f_tile_corner : Addr} {od_tile_corner an_tile_corner : Option Addr} {sl_tile_corner : Array (Option Value)} {oc_tile_corner kV_tile_corner dc_tile_corner pm_tile_corner cd_tile_corner ct_tile_corner : Value}
    {f_tile_size : Addr} {od_tile_size an_tile_size : Option Addr} {sl_tile_size : Array (Option Value)} {oc_tile_size kV_tile_size dc_tile_size pm_tile_size cd_tile_size ct_tile_size : Value}
    {f_known_in_packet : Addr} {od_known_in_packet an_known_in_packet : Option Addr} {sl_known_in_packet : Array (Option Value)} {oc_known_in_packet kV_known_in_packet dc_known_in_packet pm_known_in_packet cd_known_in_packet ct_known_in_packet : Value}
    {f_new_digits : Addr} {od_new_digits an_new_digits : Option Addr} {sl_new_digits : Array (Option Value)} {oc_new_digits kV_new_digits dc_new_digits pm_new_digits cd_new_digits ct_new_digits : Value}
    {f_Frame_down : Addr} {od_Frame_down an_Frame_down : Option Addr} {sl_Frame_down : Array (Option Value)} {oc_Frame_down kV_Frame_down dc_Frame_down pm_Frame_down cd_Frame_down ct_Frame_down : Value}
    {f_Frame_tiles : Addr} {od_Frame_tiles an_Frame_tiles : Option Addr} {sl_Frame_tiles : Array (Option Value)} {oc_Frame_tiles kV_Frame_tiles dc_Frame_tiles pm_Frame_tiles cd_Frame_tiles ct_Frame_tiles : Value}
    {f_key_number : Addr} {od_key_number an_key_number : Option Addr} {sl_key_number : Array (Option Value)} {oc_key_number kV_key_number dc_key_number pm_key_number cd_key_number ct_key_number : Value}
    {f_check_key : Addr} {od_check_key an_check_key : Option Addr} {sl_check_key : Array (Option Value)} {oc_check_key kV_check_key dc_check_key pm_check_key cd_check_key ct_check_key : Value}
    {f_check_piece : Addr} {od_check_piece an_check_piece : Option Addr} {sl_check_piece : Array (Option Value)} {oc_check_piece kV_check_piece dc_check_piece pm_check_piece cd_check_piece ct_check_piece : Value}
    {f_Arrived_accept : Addr} {od_Arrived_accept an_Arrived_accept : Option Addr} {sl_Arrived_accept : Array (Option Value)} {oc_Arrived_accept kV_Arrived_accept dc_Arrived_accept pm_Arrived_accept cd_Arrived_accept ct_Arrived_accept : Value}
    {f_key_at : Addr} {od_key_at an_key_at : Option Addr} {sl_key_at : Array (Option Value)} {oc_key_at kV_key_at dc_key_at pm_key_at cd_key_at ct_key_at : Value}
    {f_Frame_packets : Addr} {od_Frame_packets an_Frame_packets : Option Addr} {sl_Frame_packets : Array (Option Value)} {oc_Frame_packets kV_Frame_packets dc_Frame_packets pm_Frame_packets cd_Frame_packets ct_Frame_packets : Value}
    {f_Arrived_packets : Addr} {od_Arrived_packets an_Arrived_packets : Option Addr} {sl_Arrived_packets : Array (Option Value)} {oc_Arrived_packets kV_Arrived_packets dc_Arrived_packets pm_Arrived_packets cd_Arrived_packets ct_Arrived_packets : Value}
    {f_unpack : Addr} {od_unpack an_unpack : Option Addr} {sl_unpack : Array (Option Value)} {oc_unpack kV_unpack dc_unpack pm_unpack cd_unpack ct_unpack : Value}
    {f_number_at : Addr} {od_number_at an_number_at : Option Addr} {sl_number_at : Array (Option Value)} {oc_number_at kV_number_at dc_number_at pm_number_at cd_number_at ct_number_at : Value}
    {f_is_marked : Addr} {od_is_marked an_is_marked : Option Addr} {sl_is_marked : Array (Option Value)} {oc_is_marked kV_is_marked dc_is_marked pm_is_marked cd_is_marked ct_is_marked : Value}
    {f_decode_record : Addr} {od_decode_record an_decode_record : Option Addr} {sl_decode_record : Array (Option Value)} {oc_decode_record kV_decode_record dc_decode_record pm_decode_record cd_decode_record ct_decode_record : Value}
    {f_Disk_read : Addr} {od_Disk_read an_Disk_read : Option Addr} {sl_Disk_read : Array (Option Value)} {oc_Disk_read kV_Disk_read dc_Disk_read pm_Disk_read cd_Disk_read ct_Disk_read : Value}
    {f_Arrived___init__ : Addr} {od_Arrived___init__ an_Arrived___init__ : Option Addr} {sl_Arrived___init__ : Array (Option Value)} {oc_Arrived___init__ kV_Arrived___init__ dc_Arrived___init__ pm_Arrived___init__ cd_Arrived___init__ ct_Arrived___init__ : Value}
    {f_read_log : Addr} {od_read_log an_read_log : Option Addr} {sl_read_log : Array (Option Value)} {oc_read_log kV_read_log dc_read_log pm_read_log cd_read_log ct_read_log : Value}
    {f_next_generation : Addr} {od_next_generation an_next_generation : Option Addr} {sl_next_generation : Array (Option Value)} {oc_next_generation kV_next_generation dc_next_generation pm_next_generation cd_next_generation ct_next_generation : Value}
    {f_check_size : Addr} {od_check_size an_check_size : Option Addr} {sl_check_size : Array (Option Value)} {oc_check_size kV_check_size dc_check_size pm_check_size cd_check_size ct_check_size : Value}
    {f_check_kind : Addr} {od_check_kind an_check_kind : Option Addr} {sl_check_kind : Array (Option Value)} {oc_check_kind kV_check_kind dc_check_kind pm_check_kind cd_check_kind ct_check_kind : Value}
    {f_Frame___init__ : Addr} {od_Frame___init__ an_Frame___init__ : Option Addr} {sl_Frame___init__ : Array (Option Value)} {oc_Frame___init__ kV_Frame___init__ dc_Frame___init__ pm_Frame___init__ cd_Frame___init__ ct_Frame___init__ : Value}
    {f_frame_of : Addr} {od_frame_of an_frame_of : Option Addr} {sl_frame_of : Array (Option Value)} {oc_frame_of kV_frame_of dc_frame_of pm_frame_of cd_frame_of ct_frame_of : Value}
    {f_decode_header : Addr} {od_decode_header an_decode_header : Option Addr} {sl_decode_header : Array (Option Value)} {oc_decode_header kV_decode_header dc_decode_header pm_decode_header cd_decode_header ct_decode_header : Value}
    {f_newest_header : Addr} {od_newest_header an_newest_header : Option Addr} {sl_newest_header : Array (Option Value)} {oc_newest_header kV_newest_header dc_newest_header pm_newest_header cd_newest_header ct_newest_header : Value}
    {f_open_keeper : Addr} {od_open_keeper an_open_keeper : Option Addr} {sl_open_keeper : Array (Option Value)} {oc_open_keeper kV_open_keeper dc_open_keeper pm_open_keeper cd_open_keeper ct_open_keeper : Value}
    {f_law_open : Addr} {od_law_open an_law_open : Option Addr} {sl_law_open : Array (Option Value)} {oc_law_open kV_law_open dc_law_open pm_law_open cd_law_open ct_law_open : Value}
    {f_law_is_integer : Addr} {od_law_is_integer an_law_is_integer : Option Addr} {sl_law_is_integer : Array (Option Value)} {oc_law_is_integer kV_law_is_integer dc_law_is_integer pm_law_is_integer cd_law_is_integer ct_law_is_integer : Value}
    {f_law_draw : Addr} {od_law_draw an_law_draw : Option Addr} {sl_law_draw : Array (Option Value)} {oc_law_draw kV_law_draw dc_law_draw pm_law_draw cd_law_draw ct_law_draw : Value}
    {f_encode_header : Addr} {od_encode_header an_encode_header : Option Addr} {sl_encode_header : Array (Option Value)} {oc_encode_header kV_encode_header dc_encode_header pm_encode_header cd_encode_header ct_encode_header : Value}
    {f_law_frame : Addr} {od_law_frame an_law_frame : Option Addr} {sl_law_frame : Array (Option Value)} {oc_law_frame kV_law_frame dc_law_frame pm_law_frame cd_law_frame ct_law_frame : Value}
    {f_law_block : Addr} {od_law_block an_law_block : Option Addr} {sl_law_block : Array (Option Value)} {oc_law_block kV_law_block dc_law_block pm_law_block cd_law_block ct_law_block : Value}
    {f_law_shape : Addr} {od_law_shape an_law_shape : Option Addr} {sl_law_shape : Array (Option Value)} {oc_law_shape kV_law_shape dc_law_shape pm_law_shape cd_law_shape ct_law_shape : Value}
    {f_Disk___init__ : Addr} {od_Disk___init__ an_Disk___init__ : Option Addr} {sl_Disk___init__ : Array (Option Value)} {oc_Disk___init__ kV_Disk___init__ dc_Disk___init__ pm_Disk___init__ cd_Disk___init__ ct_Disk___init__ : Value}
    {f_law_cell : Addr} {od_law_cell an_law_cell : Option Addr} {sl_law_cell : Array (Option Value)} {oc_law_cell kV_law_cell dc_law_cell pm_law_cell cd_law_cell ct_law_cell : Value}
    {f_law_digits : Addr} {od_law_digits an_law_digits : Option Addr} {sl_law_digits : Array (Option Value)} {oc_law_digits kV_law_digits dc_law_digits pm_law_digits cd_law_digits ct_law_digits : Value}
    {f_law : Addr} {od_law an_law : Option Addr} {sl_law : Array (Option Value)} {oc_law kV_law dc_law pm_law cd_law ct_law : Value}
    {t_BLOCK : Tok}
    {t_BLOCKS_LEAST : Tok}
    {t_BLOCKS_MOST : Tok}
    {t_CONTEXTS : Tok}
    {t_COUNT_AT : Tok}
    {t_DEPTH_MOST : Tok}
    {t_DIGITS_AT : Tok}
    {t_DIGITS_MOST : Tok}
    {t_GENERATIONS : Tok}
    {t_HEADERS : Tok}
    {t_HEADER_FILL : Tok}
    {t_HEADER_MARK : Tok}
    {t_NUMBERS_AT : Tok}
    {t_NUMBERS_END : Tok}
    {t_RECORD_MARK : Tok}
    {t_RECORD_MOST : Tok}
    {t_SIDE_MOST : Tok}
    {t_START_MOST : Tok}
    {t_TILE_MOST : Tok}
    {t_VALUES_MOST : Tok}
    (g_Frame : PySem.W.nsIn K mainGlobals "Frame" = some (some (.ref C_Frame)))
    (pg_Frame : PySem.W.plainGet K C_Frame Str.empty = true)
    (hd_Frame : PySem.W.hasDictIn K C_Frame = true)
    (po_Frame : PySem.W.plainOver K C_Frame = true)
    (sa_Frame : PySem.W.findIn K (.ref C_Frame) "__setattr__" = some (some (.builtin "object.__setattr__")))
    (mk_Frame : PySem.W.makesIn K C_Frame = true)
    (kc_Frame : PySem.W.keepIn K (.ref C_Frame) = true)
    (na_Frame_width : PySem.W.findIn K (.ref C_Frame) "width" = some none)
    (na_Frame_height : PySem.W.findIn K (.ref C_Frame) "height" = some none)
    (na_Frame_depth : PySem.W.findIn K (.ref C_Frame) "depth" = some none)
    (na_Frame_channels : PySem.W.findIn K (.ref C_Frame) "channels" = some none)
    (na_Frame_tile : PySem.W.findIn K (.ref C_Frame) "tile" = some none)
    (g_Disk : PySem.W.nsIn K mainGlobals "Disk" = some (some (.ref C_Disk)))
    (pg_Disk : PySem.W.plainGet K C_Disk Str.empty = true)
    (hd_Disk : PySem.W.hasDictIn K C_Disk = true)
    (po_Disk : PySem.W.plainOver K C_Disk = true)
    (sa_Disk : PySem.W.findIn K (.ref C_Disk) "__setattr__" = some (some (.builtin "object.__setattr__")))
    (mk_Disk : PySem.W.makesIn K C_Disk = true)
    (kc_Disk : PySem.W.keepIn K (.ref C_Disk) = true)
    (na_Disk__blocks : PySem.W.findIn K (.ref C_Disk) "_blocks" = some none)
    (na_Disk__pending : PySem.W.findIn K (.ref C_Disk) "_pending" = some none)
    (na_Disk__cuts : PySem.W.findIn K (.ref C_Disk) "_cuts" = some none)
    (na_Disk__left : PySem.W.findIn K (.ref C_Disk) "_left" = some none)
    (na_Disk__torn : PySem.W.findIn K (.ref C_Disk) "_torn" = some none)
    (g_Arrived : PySem.W.nsIn K mainGlobals "Arrived" = some (some (.ref C_Arrived)))
    (pg_Arrived : PySem.W.plainGet K C_Arrived Str.empty = true)
    (hd_Arrived : PySem.W.hasDictIn K C_Arrived = true)
    (po_Arrived : PySem.W.plainOver K C_Arrived = true)
    (sa_Arrived : PySem.W.findIn K (.ref C_Arrived) "__setattr__" = some (some (.builtin "object.__setattr__")))
    (mk_Arrived : PySem.W.makesIn K C_Arrived = true)
    (kc_Arrived : PySem.W.keepIn K (.ref C_Arrived) = true)
    (na_Arrived_frame : PySem.W.findIn K (.ref C_Arrived) "frame" = some none)
    (na_Arrived__digits : PySem.W.findIn K (.ref C_Arrived) "_digits" = some none)
    (na_Arrived__prefixes : PySem.W.findIn K (.ref C_Arrived) "_prefixes" = some none)
    (g_Keeper : PySem.W.nsIn K mainGlobals "Keeper" = some (some (.ref C_Keeper)))
    (pg_Keeper : PySem.W.plainGet K C_Keeper Str.empty = true)
    (hd_Keeper : PySem.W.hasDictIn K C_Keeper = true)
    (po_Keeper : PySem.W.plainOver K C_Keeper = true)
    (sa_Keeper : PySem.W.findIn K (.ref C_Keeper) "__setattr__" = some (some (.builtin "object.__setattr__")))
    (mk_Keeper : PySem.W.makesIn K C_Keeper = true)
    (kc_Keeper : PySem.W.keepIn K (.ref C_Keeper) = true)
    (na_Keeper_frame : PySem.W.findIn K (.ref C_Keeper) "frame" = some none)
    (na_Keeper__disk : PySem.W.findIn K (.ref C_Keeper) "_disk" = some none)
    (na_Keeper__cuts : PySem.W.findIn K (.ref C_Keeper) "_cuts" = some none)
    (na_Keeper__generation : PySem.W.findIn K (.ref C_Keeper) "_generation" = some none)
    (na_Keeper__arrived : PySem.W.findIn K (.ref C_Keeper) "_arrived" = some none)
    (na_Keeper__used : PySem.W.findIn K (.ref C_Keeper) "_used" = some none)
    (g_Coding : PySem.W.nsIn K mainGlobals "Coding" = some (some (.ref C_Coding)))
    (pg_Coding : PySem.W.plainGet K C_Coding Str.empty = true)
    (hd_Coding : PySem.W.hasDictIn K C_Coding = true)
    (po_Coding : PySem.W.plainOver K C_Coding = true)
    (sa_Coding : PySem.W.findIn K (.ref C_Coding) "__setattr__" = some (some (.builtin "object.__setattr__")))
    (mk_Coding : PySem.W.makesIn K C_Coding = true)
    (kc_Coding : PySem.W.keepIn K (.ref C_Coding) = true)
    (na_Coding_bits : PySem.W.findIn K (.ref C_Coding) "bits" = some none)
    (na_Coding__width : PySem.W.findIn K (.ref C_Coding) "_width" = some none)
    (na_Coding__low : PySem.W.findIn K (.ref C_Coding) "_low" = some none)
    (na_Coding__size : PySem.W.findIn K (.ref C_Coding) "_size" = some none)
    (na_Coding__whole : PySem.W.findIn K (.ref C_Coding) "_whole" = some none)
    (na_Coding__zeros : PySem.W.findIn K (.ref C_Coding) "_zeros" = some none)
    (na_Coding__ones : PySem.W.findIn K (.ref C_Coding) "_ones" = some none)
    (ca_Frame : PySem.W.findIn K (.ref C_Frame) "__class__" = some (some (.builtin "object.__class__")))
    (ob_Frame : PySem.W.mroIn K C_Frame (.type "object") = some true)
    (topS : (l.prog.main.scope.names.lookup ("super" : Str)).isSome = false)
    (nsS : PySem.W.nsIn K mainGlobals "super" = some none)
    (opS : PySem.W.nsIn K cStatics "thirdparty.any" = some none)
    (spS : PySem.W.specialIn K (.builtin "object.__class__") "__get__" = some (some (.builtin "getset_descriptor.__get__")))
    (tkS : PySem.W.takesIn K (.builtin "object.__class__") = some true)
    (g_OutOfRange : PySem.W.nsIn K mainGlobals "OutOfRange" = some (some (.ref C_OutOfRange)))
    (lC_OutOfRange : K.lookup C_OutOfRange = some (excClassObj nm_OutOfRange q_OutOfRange C_OutOfRange N_OutOfRange bs_OutOfRange bm_OutOfRange true sn_OutOfRange sub_OutOfRange ab_OutOfRange col_OutOfRange dd_OutOfRange k0_OutOfRange k1_OutOfRange k2_OutOfRange k3_OutOfRange k5_OutOfRange "ValueError.__new__"))
    (rv_OutOfRange : PySem.HandSPX.refsVE bm_OutOfRange = true)
    (sa_OutOfRange : PySem.W.findIn K (.ref C_OutOfRange) "__setattr__" = some (some (.builtin "object.__setattr__")))
    (bb_OutOfRange : PySem.W.subIn K (.ref C_OutOfRange) (.type "BaseException") = some true)
    (ty_OutOfRange : PySem.W.typeIn K (.ref C_OutOfRange) = some (.type "type"))
    (kC_OutOfRange : PySem.W.keepIn K (.ref C_OutOfRange) = true)
    (iC_OutOfRange : PySem.W.findIn K (.ref C_OutOfRange) "__init__" = some (some (.ref f_OutOfRange)))
    (tI_OutOfRange : PySem.W.typeIn K (.ref f_OutOfRange) = some (.type "function"))
    (lf_OutOfRange : K.lookup f_OutOfRange = some ⟨oc_OutOfRange, od_OutOfRange, .func (PySem.W.ksFn "__init__" "OutOfRange.__init__" (defArgs s_OutOfRange___init__) (defBody s_OutOfRange___init__) (defScope s_OutOfRange___init__) .none kV_OutOfRange dc_OutOfRange pm_OutOfRange an_OutOfRange (.ref cda_OutOfRange) ct_OutOfRange cc_OutOfRange), sl_OutOfRange⟩)
    (cf_OutOfRange : PySem.W.codeIn K (.ref cda_OutOfRange) "OutOfRange.__init__" = true)
    (lcd_OutOfRange : K.lookup cda_OutOfRange = some ⟨ccl_OutOfRange, cdd_OutOfRange, .fields vs_OutOfRange, ccs_OutOfRange⟩)
    (vs2_OutOfRange : vs_OutOfRange[2]? = some (.str fi_OutOfRange tf_OutOfRange))
    (fil_OutOfRange : ((l.prog.main.file : Str) == fi_OutOfRange) = true)
    (lcc_OutOfRange : K.lookup cc_OutOfRange = some ⟨cl_OutOfRange, cld_OutOfRange, .cell (some (.ref C_OutOfRange)), csl_OutOfRange⟩)
    (su_OutOfRange : PySem.W.mroIn K C_OutOfRange (.ref C_OutOfRange) = some true)
    (sup_OutOfRange : PySem.W.ks_superIn K C_OutOfRange C_OutOfRange "__init__" = some (some (.builtin "ValueError.__init__")))
    (isV_OutOfRange : PySem.W.subIn K (.ref C_OutOfRange) (.type "ValueError") = some true)
    (ga_OutOfRange : PySem.W.findIn K (.ref C_OutOfRange) "__getattribute__" = some (some (.builtin "BaseException.__getattribute__")))
    (gg_OutOfRange : PySem.W.findIn K (.ref C_OutOfRange) "__getattr__" = some none)
    (ca_OutOfRange : PySem.W.findIn K (.ref C_OutOfRange) "__class__" = some (some (.builtin "object.__class__")))
    (ob_OutOfRange : PySem.W.mroIn K C_OutOfRange (.type "object") = some true)
    (hd_OutOfRange : PySem.W.hasDictIn K C_OutOfRange = true)
    (ss_OutOfRange : PySem.W.subIn K (.ref C_OutOfRange) (.ref C_OutOfRange) = some true)
    (g_BitsAhead : PySem.W.nsIn K mainGlobals "BitsAhead" = some (some (.ref C_BitsAhead)))
    (kC_BitsAhead : PySem.W.keepIn K (.ref C_BitsAhead) = true)
    (ex_BitsAhead : PySem.W.excIn K C_BitsAhead [.type "ValueError", .type "Exception", .type "BaseException", .type "object"] "ValueError.__new__" = true)
    (bb_BitsAhead : PySem.W.subIn K (.ref C_BitsAhead) (.type "BaseException") = some true)
    (ty_BitsAhead : PySem.W.typeIn K (.ref C_BitsAhead) = some (.type "type"))
    (hd_BitsAhead : PySem.W.hasDictIn K C_BitsAhead = true)
    (ss_BitsAhead : PySem.W.subIn K (.ref C_BitsAhead) (.ref C_BitsAhead) = some true)
    (g_Contradiction : PySem.W.nsIn K mainGlobals "Contradiction" = some (some (.ref C_Contradiction)))
    (kC_Contradiction : PySem.W.keepIn K (.ref C_Contradiction) = true)
    (ex_Contradiction : PySem.W.excIn K C_Contradiction [.type "ValueError", .type "Exception", .type "BaseException", .type "object"] "ValueError.__new__" = true)
    (bb_Contradiction : PySem.W.subIn K (.ref C_Contradiction) (.type "BaseException") = some true)
    (ty_Contradiction : PySem.W.typeIn K (.ref C_Contradiction) = some (.type "type"))
    (hd_Contradiction : PySem.W.hasDictIn K C_Contradiction = true)
    (ss_Contradiction : PySem.W.subIn K (.ref C_Contradiction) (.ref C_Contradiction) = some true)
    (g_NoSuchPacket : PySem.W.nsIn K mainGlobals "NoSuchPacket" = some (some (.ref C_NoSuchPacket)))
    (kC_NoSuchPacket : PySem.W.keepIn K (.ref C_NoSuchPacket) = true)
    (ex_NoSuchPacket : PySem.W.excIn K C_NoSuchPacket [.type "ValueError", .type "Exception", .type "BaseException", .type "object"] "ValueError.__new__" = true)
    (bb_NoSuchPacket : PySem.W.subIn K (.ref C_NoSuchPacket) (.type "BaseException") = some true)
    (ty_NoSuchPacket : PySem.W.typeIn K (.ref C_NoSuchPacket) = some (.type "type"))
    (hd_NoSuchPacket : PySem.W.hasDictIn K C_NoSuchPacket = true)
    (ss_NoSuchPacket : PySem.W.subIn K (.ref C_NoSuchPacket) (.ref C_NoSuchPacket) = some true)
    (g_NotKept : PySem.W.nsIn K mainGlobals "NotKept" = some (some (.ref C_NotKept)))
    (kC_NotKept : PySem.W.keepIn K (.ref C_NotKept) = true)
    (ex_NotKept : PySem.W.excIn K C_NotKept [.type "ValueError", .type "Exception", .type "BaseException", .type "object"] "ValueError.__new__" = true)
    (bb_NotKept : PySem.W.subIn K (.ref C_NotKept) (.type "BaseException") = some true)
    (ty_NotKept : PySem.W.typeIn K (.ref C_NotKept) = some (.type "type"))
    (hd_NotKept : PySem.W.hasDictIn K C_NotKept = true)
    (ss_NotKept : PySem.W.subIn K (.ref C_NotKept) (.ref C_NotKept) = some true)
    (g_PowerCut : PySem.W.nsIn K mainGlobals "PowerCut" = some (some (.ref C_PowerCut)))
    (kC_PowerCut : PySem.W.keepIn K (.ref C_PowerCut) = true)
    (ex_PowerCut : PySem.W.excIn K C_PowerCut [.type "ValueError", .type "Exception", .type "BaseException", .type "object"] "ValueError.__new__" = true)
    (bb_PowerCut : PySem.W.subIn K (.ref C_PowerCut) (.type "BaseException") = some true)
    (ty_PowerCut : PySem.W.typeIn K (.ref C_PowerCut) = some (.type "type"))
    (hd_PowerCut : PySem.W.hasDictIn K C_PowerCut = true)
    (ss_PowerCut : PySem.W.subIn K (.ref C_PowerCut) (.ref C_PowerCut) = some true)
    (cs_NotKept : (PySem.W.clsIn K C_NotKept).isSome = true)
    (ga_NotKept : PySem.W.findIn K (.ref C_NotKept) "__getattribute__" = some (some (.builtin "BaseException.__getattribute__")))
    (gg_NotKept : PySem.W.findIn K (.ref C_NotKept) "__getattr__" = some none)
    (ca_NotKept : PySem.W.findIn K (.ref C_NotKept) "__class__" = some (some (.builtin "object.__class__")))
    (ob_NotKept : PySem.W.mroIn K C_NotKept (.type "object") = some true)
    (nf_OutOfRange_name : PySem.W.findIn K (.ref C_OutOfRange) "name" = some none)
    (em_OutOfRange_NotKept : PySem.W.subIn K (.ref C_OutOfRange) (.ref C_NotKept) = some false)
    (em_BitsAhead_NotKept : PySem.W.subIn K (.ref C_BitsAhead) (.ref C_NotKept) = some false)
    (em_BitsAhead_OutOfRange : PySem.W.subIn K (.ref C_BitsAhead) (.ref C_OutOfRange) = some false)
    (em_Contradiction_NotKept : PySem.W.subIn K (.ref C_Contradiction) (.ref C_NotKept) = some false)
    (em_Contradiction_OutOfRange : PySem.W.subIn K (.ref C_Contradiction) (.ref C_OutOfRange) = some false)
    (em_NoSuchPacket_NotKept : PySem.W.subIn K (.ref C_NoSuchPacket) (.ref C_NotKept) = some false)
    (em_NoSuchPacket_OutOfRange : PySem.W.subIn K (.ref C_NoSuchPacket) (.ref C_OutOfRange) = some false)
    (em_NotKept_OutOfRange : PySem.W.subIn K (.ref C_NotKept) (.ref C_OutOfRange) = some false)
    (em_PowerCut_NotKept : PySem.W.subIn K (.ref C_PowerCut) (.ref C_NotKept) = some false)
    (em_PowerCut_OutOfRange : PySem.W.subIn K (.ref C_PowerCut) (.ref C_OutOfRange) = some false)
    (ki_OutOfRange_OutOfRange : PySem.W.kitOne K (.ref C_OutOfRange) (.ref C_OutOfRange) = some true)
    (ki_NotKept_OutOfRange : PySem.W.kitOne K (.ref C_NotKept) (.ref C_OutOfRange) = some false)
    (a_law_same : PySem.W.nsIn K mainGlobals "_law_same" = some (some (.ref f_law_same)))
    (l_law_same : K.lookup f_law_same = some ⟨oc_law_same, od_law_same, .func (PySem.W.fnOf "_law_same" "_law_same" (defArgs s_law_same) (defBody s_law_same) (defScope s_law_same) .none kV_law_same dc_law_same pm_law_same an_law_same cd_law_same ct_law_same), sl_law_same⟩)
    (c_law_same : PySem.W.codeIn K cd_law_same "_law_same" = true)
    (k_law_same : PySem.W.keepIn K (.ref f_law_same) = true)
    (a_Disk_cut_count : PySem.W.findIn K (.ref C_Disk) "cut_count" = some (some (.ref f_Disk_cut_count)))
    (i_Disk_cut_count : PySem.W.isFn K (.ref f_Disk_cut_count) = true)
    (l_Disk_cut_count : K.lookup f_Disk_cut_count = some ⟨oc_Disk_cut_count, od_Disk_cut_count, .func (PySem.W.fnOf "cut_count" "Disk.cut_count" (defArgs s_Disk_cut_count) (defBody s_Disk_cut_count) (defScope s_Disk_cut_count) .none kV_Disk_cut_count dc_Disk_cut_count pm_Disk_cut_count an_Disk_cut_count cd_Disk_cut_count ct_Disk_cut_count), sl_Disk_cut_count⟩)
    (c_Disk_cut_count : PySem.W.codeIn K cd_Disk_cut_count "Disk.cut_count" = true)
    (k_Disk_cut_count : PySem.W.keepIn K (.ref f_Disk_cut_count) = true)
    (a_Keeper___init__ : PySem.W.findIn K (.ref C_Keeper) "__init__" = some (some (.ref f_Keeper___init__)))
    (i_Keeper___init__ : PySem.W.isFn K (.ref f_Keeper___init__) = true)
    (l_Keeper___init__ : K.lookup f_Keeper___init__ = some ⟨oc_Keeper___init__, od_Keeper___init__, .func (PySem.W.fnOf "__init__" "Keeper.__init__" (defArgs s_Keeper___init__) (defBody s_Keeper___init__) (defScope s_Keeper___init__) .none kV_Keeper___init__ dc_Keeper___init__ pm_Keeper___init__ an_Keeper___init__ cd_Keeper___init__ ct_Keeper___init__), sl_Keeper___init__⟩)
    (c_Keeper___init__ : PySem.W.codeIn K cd_Keeper___init__ "Keeper.__init__" = true)
    (k_Keeper___init__ : PySem.W.keepIn K (.ref f_Keeper___init__) = true)
    (a_Disk__cut : PySem.W.findIn K (.ref C_Disk) "_cut" = some (some (.ref f_Disk__cut)))
    (i_Disk__cut : PySem.W.isFn K (.ref f_Disk__cut) = true)
    (l_Disk__cut : K.lookup f_Disk__cut = some ⟨oc_Disk__cut, od_Disk__cut, .func (PySem.W.fnOf "_cut" "Disk._cut" (defArgs s_Disk__cut) (defBody s_Disk__cut) (defScope s_Disk__cut) .none kV_Disk__cut dc_Disk__cut pm_Disk__cut an_Disk__cut cd_Disk__cut ct_Disk__cut), sl_Disk__cut⟩)
    (c_Disk__cut : PySem.W.codeIn K cd_Disk__cut "Disk._cut" = true)
    (k_Disk__cut : PySem.W.keepIn K (.ref f_Disk__cut) = true)
    (a_Disk__use_power : PySem.W.findIn K (.ref C_Disk) "_use_power" = some (some (.ref f_Disk__use_power)))
    (i_Disk__use_power : PySem.W.isFn K (.ref f_Disk__use_power) = true)
    (l_Disk__use_power : K.lookup f_Disk__use_power = some ⟨oc_Disk__use_power, od_Disk__use_power, .func (PySem.W.fnOf "_use_power" "Disk._use_power" (defArgs s_Disk__use_power) (defBody s_Disk__use_power) (defScope s_Disk__use_power) .none kV_Disk__use_power dc_Disk__use_power pm_Disk__use_power an_Disk__use_power cd_Disk__use_power ct_Disk__use_power), sl_Disk__use_power⟩)
    (c_Disk__use_power : PySem.W.codeIn K cd_Disk__use_power "Disk._use_power" = true)
    (k_Disk__use_power : PySem.W.keepIn K (.ref f_Disk__use_power) = true)
    (a_Disk_flush : PySem.W.findIn K (.ref C_Disk) "flush" = some (some (.ref f_Disk_flush)))
    (i_Disk_flush : PySem.W.isFn K (.ref f_Disk_flush) = true)
    (l_Disk_flush : K.lookup f_Disk_flush = some ⟨oc_Disk_flush, od_Disk_flush, .func (PySem.W.fnOf "flush" "Disk.flush" (defArgs s_Disk_flush) (defBody s_Disk_flush) (defScope s_Disk_flush) .none kV_Disk_flush dc_Disk_flush pm_Disk_flush an_Disk_flush cd_Disk_flush ct_Disk_flush), sl_Disk_flush⟩)
    (c_Disk_flush : PySem.W.codeIn K cd_Disk_flush "Disk.flush" = true)
    (k_Disk_flush : PySem.W.keepIn K (.ref f_Disk_flush) = true)
    (a_check_block : PySem.W.nsIn K mainGlobals "check_block" = some (some (.ref f_check_block)))
    (l_check_block : K.lookup f_check_block = some ⟨oc_check_block, od_check_block, .func (PySem.W.fnOf "check_block" "check_block" (defArgs s_check_block) (defBody s_check_block) (defScope s_check_block) .none kV_check_block dc_check_block pm_check_block an_check_block cd_check_block ct_check_block), sl_check_block⟩)
    (c_check_block : PySem.W.codeIn K cd_check_block "check_block" = true)
    (k_check_block : PySem.W.keepIn K (.ref f_check_block) = true)
    (a_check_range : PySem.W.nsIn K mainGlobals "check_range" = some (some (.ref f_check_range)))
    (l_check_range : K.lookup f_check_range = some ⟨oc_check_range, od_check_range, .func (PySem.W.fnOf "check_range" "check_range" (defArgs s_check_range) (defBody s_check_range) (defScope s_check_range) .none kV_check_range dc_check_range pm_check_range an_check_range cd_check_range ct_check_range), sl_check_range⟩)
    (c_check_range : PySem.W.codeIn K cd_check_range "check_range" = true)
    (k_check_range : PySem.W.keepIn K (.ref f_check_range) = true)
    (a_Disk__check_at : PySem.W.findIn K (.ref C_Disk) "_check_at" = some (some (.ref f_Disk__check_at)))
    (i_Disk__check_at : PySem.W.isFn K (.ref f_Disk__check_at) = true)
    (l_Disk__check_at : K.lookup f_Disk__check_at = some ⟨oc_Disk__check_at, od_Disk__check_at, .func (PySem.W.fnOf "_check_at" "Disk._check_at" (defArgs s_Disk__check_at) (defBody s_Disk__check_at) (defScope s_Disk__check_at) .none kV_Disk__check_at dc_Disk__check_at pm_Disk__check_at an_Disk__check_at cd_Disk__check_at ct_Disk__check_at), sl_Disk__check_at⟩)
    (c_Disk__check_at : PySem.W.codeIn K cd_Disk__check_at "Disk._check_at" = true)
    (k_Disk__check_at : PySem.W.keepIn K (.ref f_Disk__check_at) = true)
    (a_Disk_write : PySem.W.findIn K (.ref C_Disk) "write" = some (some (.ref f_Disk_write)))
    (i_Disk_write : PySem.W.isFn K (.ref f_Disk_write) = true)
    (l_Disk_write : K.lookup f_Disk_write = some ⟨oc_Disk_write, od_Disk_write, .func (PySem.W.fnOf "write" "Disk.write" (defArgs s_Disk_write) (defBody s_Disk_write) (defScope s_Disk_write) .none kV_Disk_write dc_Disk_write pm_Disk_write an_Disk_write cd_Disk_write ct_Disk_write), sl_Disk_write⟩)
    (c_Disk_write : PySem.W.codeIn K cd_Disk_write "Disk.write" = true)
    (k_Disk_write : PySem.W.keepIn K (.ref f_Disk_write) = true)
    (a_write_zeros : PySem.W.nsIn K mainGlobals "write_zeros" = some (some (.ref f_write_zeros)))
    (l_write_zeros : K.lookup f_write_zeros = some ⟨oc_write_zeros, od_write_zeros, .func (PySem.W.fnOf "write_zeros" "write_zeros" (defArgs s_write_zeros) (defBody s_write_zeros) (defScope s_write_zeros) .none kV_write_zeros dc_write_zeros pm_write_zeros an_write_zeros cd_write_zeros ct_write_zeros), sl_write_zeros⟩)
    (c_write_zeros : PySem.W.codeIn K cd_write_zeros "write_zeros" = true)
    (k_write_zeros : PySem.W.keepIn K (.ref f_write_zeros) = true)
    (a_Disk_size : PySem.W.findIn K (.ref C_Disk) "size" = some (some (.ref f_Disk_size)))
    (i_Disk_size : PySem.W.isFn K (.ref f_Disk_size) = true)
    (l_Disk_size : K.lookup f_Disk_size = some ⟨oc_Disk_size, od_Disk_size, .func (PySem.W.fnOf "size" "Disk.size" (defArgs s_Disk_size) (defBody s_Disk_size) (defScope s_Disk_size) .none kV_Disk_size dc_Disk_size pm_Disk_size an_Disk_size cd_Disk_size ct_Disk_size), sl_Disk_size⟩)
    (c_Disk_size : PySem.W.codeIn K cd_Disk_size "Disk.size" = true)
    (k_Disk_size : PySem.W.keepIn K (.ref f_Disk_size) = true)
    (a_area_size : PySem.W.nsIn K mainGlobals "area_size" = some (some (.ref f_area_size)))
    (l_area_size : K.lookup f_area_size = some ⟨oc_area_size, od_area_size, .func (PySem.W.fnOf "area_size" "area_size" (defArgs s_area_size) (defBody s_area_size) (defScope s_area_size) .none kV_area_size dc_area_size pm_area_size an_area_size cd_area_size ct_area_size), sl_area_size⟩)
    (c_area_size : PySem.W.codeIn K cd_area_size "area_size" = true)
    (k_area_size : PySem.W.keepIn K (.ref f_area_size) = true)
    (a_area_start : PySem.W.nsIn K mainGlobals "area_start" = some (some (.ref f_area_start)))
    (l_area_start : K.lookup f_area_start = some ⟨oc_area_start, od_area_start, .func (PySem.W.fnOf "area_start" "area_start" (defArgs s_area_start) (defBody s_area_start) (defScope s_area_start) .none kV_area_start dc_area_start pm_area_start an_area_start cd_area_start ct_area_start), sl_area_start⟩)
    (c_area_start : PySem.W.codeIn K cd_area_start "area_start" = true)
    (k_area_start : PySem.W.keepIn K (.ref f_area_start) = true)
    (a_digits_of : PySem.W.nsIn K mainGlobals "digits_of" = some (some (.ref f_digits_of)))
    (l_digits_of : K.lookup f_digits_of = some ⟨oc_digits_of, od_digits_of, .func (PySem.W.fnOf "digits_of" "digits_of" (defArgs s_digits_of) (defBody s_digits_of) (defScope s_digits_of) .none kV_digits_of dc_digits_of pm_digits_of an_digits_of cd_digits_of ct_digits_of), sl_digits_of⟩)
    (c_digits_of : PySem.W.codeIn K cd_digits_of "digits_of" = true)
    (k_digits_of : PySem.W.keepIn K (.ref f_digits_of) = true)
    (a_shortest_cell : PySem.W.nsIn K mainGlobals "shortest_cell" = some (some (.ref f_shortest_cell)))
    (l_shortest_cell : K.lookup f_shortest_cell = some ⟨oc_shortest_cell, od_shortest_cell, .func (PySem.W.fnOf "shortest_cell" "shortest_cell" (defArgs s_shortest_cell) (defBody s_shortest_cell) (defScope s_shortest_cell) .none kV_shortest_cell dc_shortest_cell pm_shortest_cell an_shortest_cell cd_shortest_cell ct_shortest_cell), sl_shortest_cell⟩)
    (c_shortest_cell : PySem.W.codeIn K cd_shortest_cell "shortest_cell" = true)
    (k_shortest_cell : PySem.W.keepIn K (.ref f_shortest_cell) = true)
    (a_Coding_interval : PySem.W.findIn K (.ref C_Coding) "interval" = some (some (.ref f_Coding_interval)))
    (i_Coding_interval : PySem.W.isFn K (.ref f_Coding_interval) = true)
    (l_Coding_interval : K.lookup f_Coding_interval = some ⟨oc_Coding_interval, od_Coding_interval, .func (PySem.W.fnOf "interval" "Coding.interval" (defArgs s_Coding_interval) (defBody s_Coding_interval) (defScope s_Coding_interval) .none kV_Coding_interval dc_Coding_interval pm_Coding_interval an_Coding_interval cd_Coding_interval ct_Coding_interval), sl_Coding_interval⟩)
    (c_Coding_interval : PySem.W.codeIn K cd_Coding_interval "Coding.interval" = true)
    (k_Coding_interval : PySem.W.keepIn K (.ref f_Coding_interval) = true)
    (a_context : PySem.W.nsIn K mainGlobals "context" = some (some (.ref f_context)))
    (l_context : K.lookup f_context = some ⟨oc_context, od_context, .func (PySem.W.fnOf "context" "context" (defArgs s_context) (defBody s_context) (defScope s_context) .none kV_context dc_context pm_context an_context cd_context ct_context), sl_context⟩)
    (c_context : PySem.W.codeIn K cd_context "context" = true)
    (k_context : PySem.W.keepIn K (.ref f_context) = true)
    (a_Coding_take : PySem.W.findIn K (.ref C_Coding) "take" = some (some (.ref f_Coding_take)))
    (i_Coding_take : PySem.W.isFn K (.ref f_Coding_take) = true)
    (l_Coding_take : K.lookup f_Coding_take = some ⟨oc_Coding_take, od_Coding_take, .func (PySem.W.fnOf "take" "Coding.take" (defArgs s_Coding_take) (defBody s_Coding_take) (defScope s_Coding_take) .none kV_Coding_take dc_Coding_take pm_Coding_take an_Coding_take cd_Coding_take ct_Coding_take), sl_Coding_take⟩)
    (c_Coding_take : PySem.W.codeIn K cd_Coding_take "Coding.take" = true)
    (k_Coding_take : PySem.W.keepIn K (.ref f_Coding_take) = true)
    (a_Coding___init__ : PySem.W.findIn K (.ref C_Coding) "__init__" = some (some (.ref f_Coding___init__)))
    (i_Coding___init__ : PySem.W.isFn K (.ref f_Coding___init__) = true)
    (l_Coding___init__ : K.lookup f_Coding___init__ = some ⟨oc_Coding___init__, od_Coding___init__, .func (PySem.W.fnOf "__init__" "Coding.__init__" (defArgs s_Coding___init__) (defBody s_Coding___init__) (defScope s_Coding___init__) .none kV_Coding___init__ dc_Coding___init__ pm_Coding___init__ an_Coding___init__ cd_Coding___init__ ct_Coding___init__), sl_Coding___init__⟩)
    (c_Coding___init__ : PySem.W.codeIn K cd_Coding___init__ "Coding.__init__" = true)
    (k_Coding___init__ : PySem.W.keepIn K (.ref f_Coding___init__) = true)
    (a_coding_of : PySem.W.nsIn K mainGlobals "coding_of" = some (some (.ref f_coding_of)))
    (l_coding_of : K.lookup f_coding_of = some ⟨oc_coding_of, od_coding_of, .func (PySem.W.fnOf "coding_of" "coding_of" (defArgs s_coding_of) (defBody s_coding_of) (defScope s_coding_of) .none kV_coding_of dc_coding_of pm_coding_of an_coding_of cd_coding_of ct_coding_of), sl_coding_of⟩)
    (c_coding_of : PySem.W.codeIn K cd_coding_of "coding_of" = true)
    (k_coding_of : PySem.W.keepIn K (.ref f_coding_of) = true)
    (a_interval : PySem.W.nsIn K mainGlobals "interval" = some (some (.ref f_interval)))
    (l_interval : K.lookup f_interval = some ⟨oc_interval, od_interval, .func (PySem.W.fnOf "interval" "interval" (defArgs s_interval) (defBody s_interval) (defScope s_interval) .none kV_interval dc_interval pm_interval an_interval cd_interval ct_interval), sl_interval⟩)
    (c_interval : PySem.W.codeIn K cd_interval "interval" = true)
    (k_interval : PySem.W.keepIn K (.ref f_interval) = true)
    (a_code_of : PySem.W.nsIn K mainGlobals "code_of" = some (some (.ref f_code_of)))
    (l_code_of : K.lookup f_code_of = some ⟨oc_code_of, od_code_of, .func (PySem.W.fnOf "code_of" "code_of" (defArgs s_code_of) (defBody s_code_of) (defScope s_code_of) .none kV_code_of dc_code_of pm_code_of an_code_of cd_code_of ct_code_of), sl_code_of⟩)
    (c_code_of : PySem.W.codeIn K cd_code_of "code_of" = true)
    (k_code_of : PySem.W.keepIn K (.ref f_code_of) = true)
    (a_opens : PySem.W.nsIn K mainGlobals "opens" = some (some (.ref f_opens)))
    (l_opens : K.lookup f_opens = some ⟨oc_opens, od_opens, .func (PySem.W.fnOf "opens" "opens" (defArgs s_opens) (defBody s_opens) (defScope s_opens) .none kV_opens dc_opens pm_opens an_opens cd_opens ct_opens), sl_opens⟩)
    (c_opens : PySem.W.codeIn K cd_opens "opens" = true)
    (k_opens : PySem.W.keepIn K (.ref f_opens) = true)
    (a_first_with_one : PySem.W.nsIn K mainGlobals "first_with_one" = some (some (.ref f_first_with_one)))
    (l_first_with_one : K.lookup f_first_with_one = some ⟨oc_first_with_one, od_first_with_one, .func (PySem.W.fnOf "first_with_one" "first_with_one" (defArgs s_first_with_one) (defBody s_first_with_one) (defScope s_first_with_one) .none kV_first_with_one dc_first_with_one pm_first_with_one an_first_with_one cd_first_with_one ct_first_with_one), sl_first_with_one⟩)
    (c_first_with_one : PySem.W.codeIn K cd_first_with_one "first_with_one" = true)
    (k_first_with_one : PySem.W.keepIn K (.ref f_first_with_one) = true)
    (a_last_with_zero : PySem.W.nsIn K mainGlobals "last_with_zero" = some (some (.ref f_last_with_zero)))
    (l_last_with_zero : K.lookup f_last_with_zero = some ⟨oc_last_with_zero, od_last_with_zero, .func (PySem.W.fnOf "last_with_zero" "last_with_zero" (defArgs s_last_with_zero) (defBody s_last_with_zero) (defScope s_last_with_zero) .none kV_last_with_zero dc_last_with_zero pm_last_with_zero an_last_with_zero cd_last_with_zero ct_last_with_zero), sl_last_with_zero⟩)
    (c_last_with_zero : PySem.W.codeIn K cd_last_with_zero "last_with_zero" = true)
    (k_last_with_zero : PySem.W.keepIn K (.ref f_last_with_zero) = true)
    (a_next_bits : PySem.W.nsIn K mainGlobals "next_bits" = some (some (.ref f_next_bits)))
    (l_next_bits : K.lookup f_next_bits = some ⟨oc_next_bits, od_next_bits, .func (PySem.W.fnOf "next_bits" "next_bits" (defArgs s_next_bits) (defBody s_next_bits) (defScope s_next_bits) .none kV_next_bits dc_next_bits pm_next_bits an_next_bits cd_next_bits ct_next_bits), sl_next_bits⟩)
    (c_next_bits : PySem.W.codeIn K cd_next_bits "next_bits" = true)
    (k_next_bits : PySem.W.keepIn K (.ref f_next_bits) = true)
    (a_Coding_shares : PySem.W.findIn K (.ref C_Coding) "shares" = some (some (.ref f_Coding_shares)))
    (i_Coding_shares : PySem.W.isFn K (.ref f_Coding_shares) = true)
    (l_Coding_shares : K.lookup f_Coding_shares = some ⟨oc_Coding_shares, od_Coding_shares, .func (PySem.W.fnOf "shares" "Coding.shares" (defArgs s_Coding_shares) (defBody s_Coding_shares) (defScope s_Coding_shares) .none kV_Coding_shares dc_Coding_shares pm_Coding_shares an_Coding_shares cd_Coding_shares ct_Coding_shares), sl_Coding_shares⟩)
    (c_Coding_shares : PySem.W.codeIn K cd_Coding_shares "Coding.shares" = true)
    (k_Coding_shares : PySem.W.keepIn K (.ref f_Coding_shares) = true)
    (a_Coding_border : PySem.W.findIn K (.ref C_Coding) "border" = some (some (.ref f_Coding_border)))
    (i_Coding_border : PySem.W.isFn K (.ref f_Coding_border) = true)
    (l_Coding_border : K.lookup f_Coding_border = some ⟨oc_Coding_border, od_Coding_border, .func (PySem.W.fnOf "border" "Coding.border" (defArgs s_Coding_border) (defBody s_Coding_border) (defScope s_Coding_border) .none kV_Coding_border dc_Coding_border pm_Coding_border an_Coding_border cd_Coding_border ct_Coding_border), sl_Coding_border⟩)
    (c_Coding_border : PySem.W.codeIn K cd_Coding_border "Coding.border" = true)
    (k_Coding_border : PySem.W.keepIn K (.ref f_Coding_border) = true)
    (a_bit_of_cell : PySem.W.nsIn K mainGlobals "bit_of_cell" = some (some (.ref f_bit_of_cell)))
    (l_bit_of_cell : K.lookup f_bit_of_cell = some ⟨oc_bit_of_cell, od_bit_of_cell, .func (PySem.W.fnOf "bit_of_cell" "bit_of_cell" (defArgs s_bit_of_cell) (defBody s_bit_of_cell) (defScope s_bit_of_cell) .none kV_bit_of_cell dc_bit_of_cell pm_bit_of_cell an_bit_of_cell cd_bit_of_cell ct_bit_of_cell), sl_bit_of_cell⟩)
    (c_bit_of_cell : PySem.W.codeIn K cd_bit_of_cell "bit_of_cell" = true)
    (k_bit_of_cell : PySem.W.keepIn K (.ref f_bit_of_cell) = true)
    (a_number_of : PySem.W.nsIn K mainGlobals "number_of" = some (some (.ref f_number_of)))
    (l_number_of : K.lookup f_number_of = some ⟨oc_number_of, od_number_of, .func (PySem.W.fnOf "number_of" "number_of" (defArgs s_number_of) (defBody s_number_of) (defScope s_number_of) .none kV_number_of dc_number_of pm_number_of an_number_of cd_number_of ct_number_of), sl_number_of⟩)
    (c_number_of : PySem.W.codeIn K cd_number_of "number_of" = true)
    (k_number_of : PySem.W.keepIn K (.ref f_number_of) = true)
    (a_prefix_of : PySem.W.nsIn K mainGlobals "prefix_of" = some (some (.ref f_prefix_of)))
    (l_prefix_of : K.lookup f_prefix_of = some ⟨oc_prefix_of, od_prefix_of, .func (PySem.W.fnOf "prefix_of" "prefix_of" (defArgs s_prefix_of) (defBody s_prefix_of) (defScope s_prefix_of) .none kV_prefix_of dc_prefix_of pm_prefix_of an_prefix_of cd_prefix_of ct_prefix_of), sl_prefix_of⟩)
    (c_prefix_of : PySem.W.codeIn K cd_prefix_of "prefix_of" = true)
    (k_prefix_of : PySem.W.keepIn K (.ref f_prefix_of) = true)
    (a_Frame_across : PySem.W.findIn K (.ref C_Frame) "across" = some (some (.ref f_Frame_across)))
    (i_Frame_across : PySem.W.isFn K (.ref f_Frame_across) = true)
    (l_Frame_across : K.lookup f_Frame_across = some ⟨oc_Frame_across, od_Frame_across, .func (PySem.W.fnOf "across" "Frame.across" (defArgs s_Frame_across) (defBody s_Frame_across) (defScope s_Frame_across) .none kV_Frame_across dc_Frame_across pm_Frame_across an_Frame_across cd_Frame_across ct_Frame_across), sl_Frame_across⟩)
    (c_Frame_across : PySem.W.codeIn K cd_Frame_across "Frame.across" = true)
    (k_Frame_across : PySem.W.keepIn K (.ref f_Frame_across) = true)
    (a_tile_corner : PySem.W.nsIn K mainGlobals "tile_corner" = some (some (.ref f_tile_corner)))
    (l_tile_corner : K.lookup f_tile_corner = some ⟨oc_tile_corner, od_tile_corner, .func (PySem.W.fnOf "tile_corner" "tile_corner" (defArgs s_tile_corner) (defBody s_tile_corner) (defScope s_tile_corner) .none kV_tile_corner dc_tile_corner pm_tile_corner an_tile_corner cd_tile_corner ct_tile_corner), sl_tile_corner⟩)
    (c_tile_corner : PySem.W.codeIn K cd_tile_corner "tile_corner" = true)
    (k_tile_corner : PySem.W.keepIn K (.ref f_tile_corner) = true)
    (a_tile_size : PySem.W.nsIn K mainGlobals "tile_size" = some (some (.ref f_tile_size)))
    (l_tile_size : K.lookup f_tile_size = some ⟨oc_tile_size, od_tile_size, .func (PySem.W.fnOf "tile_size" "tile_size" (defArgs s_tile_size) (defBody s_tile_size) (defScope s_tile_size) .none kV_tile_size dc_tile_size pm_tile_size an_tile_size cd_tile_size ct_tile_size), sl_tile_size⟩)
    (c_tile_size : PySem.W.codeIn K cd_tile_size "tile_size" = true)
    (k_tile_size : PySem.W.keepIn K (.ref f_tile_size) = true)
    (a_known_in_packet : PySem.W.nsIn K mainGlobals "known_in_packet" = some (some (.ref f_known_in_packet)))
    (l_known_in_packet : K.lookup f_known_in_packet = some ⟨oc_known_in_packet, od_known_in_packet, .func (PySem.W.fnOf "known_in_packet" "known_in_packet" (defArgs s_known_in_packet) (defBody s_known_in_packet) (defScope s_known_in_packet) .none kV_known_in_packet dc_known_in_packet pm_known_in_packet an_known_in_packet cd_known_in_packet ct_known_in_packet), sl_known_in_packet⟩)
    (c_known_in_packet : PySem.W.codeIn K cd_known_in_packet "known_in_packet" = true)
    (k_known_in_packet : PySem.W.keepIn K (.ref f_known_in_packet) = true)
    (a_new_digits : PySem.W.nsIn K mainGlobals "new_digits" = some (some (.ref f_new_digits)))
    (l_new_digits : K.lookup f_new_digits = some ⟨oc_new_digits, od_new_digits, .func (PySem.W.fnOf "new_digits" "new_digits" (defArgs s_new_digits) (defBody s_new_digits) (defScope s_new_digits) .none kV_new_digits dc_new_digits pm_new_digits an_new_digits cd_new_digits ct_new_digits), sl_new_digits⟩)
    (c_new_digits : PySem.W.codeIn K cd_new_digits "new_digits" = true)
    (k_new_digits : PySem.W.keepIn K (.ref f_new_digits) = true)
    (a_Frame_down : PySem.W.findIn K (.ref C_Frame) "down" = some (some (.ref f_Frame_down)))
    (i_Frame_down : PySem.W.isFn K (.ref f_Frame_down) = true)
    (l_Frame_down : K.lookup f_Frame_down = some ⟨oc_Frame_down, od_Frame_down, .func (PySem.W.fnOf "down" "Frame.down" (defArgs s_Frame_down) (defBody s_Frame_down) (defScope s_Frame_down) .none kV_Frame_down dc_Frame_down pm_Frame_down an_Frame_down cd_Frame_down ct_Frame_down), sl_Frame_down⟩)
    (c_Frame_down : PySem.W.codeIn K cd_Frame_down "Frame.down" = true)
    (k_Frame_down : PySem.W.keepIn K (.ref f_Frame_down) = true)
    (a_Frame_tiles : PySem.W.findIn K (.ref C_Frame) "tiles" = some (some (.ref f_Frame_tiles)))
    (i_Frame_tiles : PySem.W.isFn K (.ref f_Frame_tiles) = true)
    (l_Frame_tiles : K.lookup f_Frame_tiles = some ⟨oc_Frame_tiles, od_Frame_tiles, .func (PySem.W.fnOf "tiles" "Frame.tiles" (defArgs s_Frame_tiles) (defBody s_Frame_tiles) (defScope s_Frame_tiles) .none kV_Frame_tiles dc_Frame_tiles pm_Frame_tiles an_Frame_tiles cd_Frame_tiles ct_Frame_tiles), sl_Frame_tiles⟩)
    (c_Frame_tiles : PySem.W.codeIn K cd_Frame_tiles "Frame.tiles" = true)
    (k_Frame_tiles : PySem.W.keepIn K (.ref f_Frame_tiles) = true)
    (a_key_number : PySem.W.nsIn K mainGlobals "key_number" = some (some (.ref f_key_number)))
    (l_key_number : K.lookup f_key_number = some ⟨oc_key_number, od_key_number, .func (PySem.W.fnOf "key_number" "key_number" (defArgs s_key_number) (defBody s_key_number) (defScope s_key_number) .none kV_key_number dc_key_number pm_key_number an_key_number cd_key_number ct_key_number), sl_key_number⟩)
    (c_key_number : PySem.W.codeIn K cd_key_number "key_number" = true)
    (k_key_number : PySem.W.keepIn K (.ref f_key_number) = true)
    (a_check_key : PySem.W.nsIn K mainGlobals "check_key" = some (some (.ref f_check_key)))
    (l_check_key : K.lookup f_check_key = some ⟨oc_check_key, od_check_key, .func (PySem.W.fnOf "check_key" "check_key" (defArgs s_check_key) (defBody s_check_key) (defScope s_check_key) .none kV_check_key dc_check_key pm_check_key an_check_key cd_check_key ct_check_key), sl_check_key⟩)
    (c_check_key : PySem.W.codeIn K cd_check_key "check_key" = true)
    (k_check_key : PySem.W.keepIn K (.ref f_check_key) = true)
    (a_check_piece : PySem.W.nsIn K mainGlobals "check_piece" = some (some (.ref f_check_piece)))
    (l_check_piece : K.lookup f_check_piece = some ⟨oc_check_piece, od_check_piece, .func (PySem.W.fnOf "check_piece" "check_piece" (defArgs s_check_piece) (defBody s_check_piece) (defScope s_check_piece) .none kV_check_piece dc_check_piece pm_check_piece an_check_piece cd_check_piece ct_check_piece), sl_check_piece⟩)
    (c_check_piece : PySem.W.codeIn K cd_check_piece "check_piece" = true)
    (k_check_piece : PySem.W.keepIn K (.ref f_check_piece) = true)
    (a_Arrived_accept : PySem.W.findIn K (.ref C_Arrived) "accept" = some (some (.ref f_Arrived_accept)))
    (i_Arrived_accept : PySem.W.isFn K (.ref f_Arrived_accept) = true)
    (l_Arrived_accept : K.lookup f_Arrived_accept = some ⟨oc_Arrived_accept, od_Arrived_accept, .func (PySem.W.fnOf "accept" "Arrived.accept" (defArgs s_Arrived_accept) (defBody s_Arrived_accept) (defScope s_Arrived_accept) .none kV_Arrived_accept dc_Arrived_accept pm_Arrived_accept an_Arrived_accept cd_Arrived_accept ct_Arrived_accept), sl_Arrived_accept⟩)
    (c_Arrived_accept : PySem.W.codeIn K cd_Arrived_accept "Arrived.accept" = true)
    (k_Arrived_accept : PySem.W.keepIn K (.ref f_Arrived_accept) = true)
    (a_key_at : PySem.W.nsIn K mainGlobals "key_at" = some (some (.ref f_key_at)))
    (l_key_at : K.lookup f_key_at = some ⟨oc_key_at, od_key_at, .func (PySem.W.fnOf "key_at" "key_at" (defArgs s_key_at) (defBody s_key_at) (defScope s_key_at) .none kV_key_at dc_key_at pm_key_at an_key_at cd_key_at ct_key_at), sl_key_at⟩)
    (c_key_at : PySem.W.codeIn K cd_key_at "key_at" = true)
    (k_key_at : PySem.W.keepIn K (.ref f_key_at) = true)
    (a_Frame_packets : PySem.W.findIn K (.ref C_Frame) "packets" = some (some (.ref f_Frame_packets)))
    (i_Frame_packets : PySem.W.isFn K (.ref f_Frame_packets) = true)
    (l_Frame_packets : K.lookup f_Frame_packets = some ⟨oc_Frame_packets, od_Frame_packets, .func (PySem.W.fnOf "packets" "Frame.packets" (defArgs s_Frame_packets) (defBody s_Frame_packets) (defScope s_Frame_packets) .none kV_Frame_packets dc_Frame_packets pm_Frame_packets an_Frame_packets cd_Frame_packets ct_Frame_packets), sl_Frame_packets⟩)
    (c_Frame_packets : PySem.W.codeIn K cd_Frame_packets "Frame.packets" = true)
    (k_Frame_packets : PySem.W.keepIn K (.ref f_Frame_packets) = true)
    (a_Arrived_packets : PySem.W.findIn K (.ref C_Arrived) "packets" = some (some (.ref f_Arrived_packets)))
    (i_Arrived_packets : PySem.W.isFn K (.ref f_Arrived_packets) = true)
    (l_Arrived_packets : K.lookup f_Arrived_packets = some ⟨oc_Arrived_packets, od_Arrived_packets, .func (PySem.W.fnOf "packets" "Arrived.packets" (defArgs s_Arrived_packets) (defBody s_Arrived_packets) (defScope s_Arrived_packets) .none kV_Arrived_packets dc_Arrived_packets pm_Arrived_packets an_Arrived_packets cd_Arrived_packets ct_Arrived_packets), sl_Arrived_packets⟩)
    (c_Arrived_packets : PySem.W.codeIn K cd_Arrived_packets "Arrived.packets" = true)
    (k_Arrived_packets : PySem.W.keepIn K (.ref f_Arrived_packets) = true)
    (a_unpack : PySem.W.nsIn K mainGlobals "unpack" = some (some (.ref f_unpack)))
    (l_unpack : K.lookup f_unpack = some ⟨oc_unpack, od_unpack, .func (PySem.W.fnOf "unpack" "unpack" (defArgs s_unpack) (defBody s_unpack) (defScope s_unpack) .none kV_unpack dc_unpack pm_unpack an_unpack cd_unpack ct_unpack), sl_unpack⟩)
    (c_unpack : PySem.W.codeIn K cd_unpack "unpack" = true)
    (k_unpack : PySem.W.keepIn K (.ref f_unpack) = true)
    (a_number_at : PySem.W.nsIn K mainGlobals "number_at" = some (some (.ref f_number_at)))
    (l_number_at : K.lookup f_number_at = some ⟨oc_number_at, od_number_at, .func (PySem.W.fnOf "number_at" "number_at" (defArgs s_number_at) (defBody s_number_at) (defScope s_number_at) .none kV_number_at dc_number_at pm_number_at an_number_at cd_number_at ct_number_at), sl_number_at⟩)
    (c_number_at : PySem.W.codeIn K cd_number_at "number_at" = true)
    (k_number_at : PySem.W.keepIn K (.ref f_number_at) = true)
    (a_is_marked : PySem.W.nsIn K mainGlobals "is_marked" = some (some (.ref f_is_marked)))
    (l_is_marked : K.lookup f_is_marked = some ⟨oc_is_marked, od_is_marked, .func (PySem.W.fnOf "is_marked" "is_marked" (defArgs s_is_marked) (defBody s_is_marked) (defScope s_is_marked) .none kV_is_marked dc_is_marked pm_is_marked an_is_marked cd_is_marked ct_is_marked), sl_is_marked⟩)
    (c_is_marked : PySem.W.codeIn K cd_is_marked "is_marked" = true)
    (k_is_marked : PySem.W.keepIn K (.ref f_is_marked) = true)
    (a_decode_record : PySem.W.nsIn K mainGlobals "decode_record" = some (some (.ref f_decode_record)))
    (l_decode_record : K.lookup f_decode_record = some ⟨oc_decode_record, od_decode_record, .func (PySem.W.fnOf "decode_record" "decode_record" (defArgs s_decode_record) (defBody s_decode_record) (defScope s_decode_record) .none kV_decode_record dc_decode_record pm_decode_record an_decode_record cd_decode_record ct_decode_record), sl_decode_record⟩)
    (c_decode_record : PySem.W.codeIn K cd_decode_record "decode_record" = true)
    (k_decode_record : PySem.W.keepIn K (.ref f_decode_record) = true)
    (a_Disk_read : PySem.W.findIn K (.ref C_Disk) "read" = some (some (.ref f_Disk_read)))
    (i_Disk_read : PySem.W.isFn K (.ref f_Disk_read) = true)
    (l_Disk_read : K.lookup f_Disk_read = some ⟨oc_Disk_read, od_Disk_read, .func (PySem.W.fnOf "read" "Disk.read" (defArgs s_Disk_read) (defBody s_Disk_read) (defScope s_Disk_read) .none kV_Disk_read dc_Disk_read pm_Disk_read an_Disk_read cd_Disk_read ct_Disk_read), sl_Disk_read⟩)
    (c_Disk_read : PySem.W.codeIn K cd_Disk_read "Disk.read" = true)
    (k_Disk_read : PySem.W.keepIn K (.ref f_Disk_read) = true)
    (a_Arrived___init__ : PySem.W.findIn K (.ref C_Arrived) "__init__" = some (some (.ref f_Arrived___init__)))
    (i_Arrived___init__ : PySem.W.isFn K (.ref f_Arrived___init__) = true)
    (l_Arrived___init__ : K.lookup f_Arrived___init__ = some ⟨oc_Arrived___init__, od_Arrived___init__, .func (PySem.W.fnOf "__init__" "Arrived.__init__" (defArgs s_Arrived___init__) (defBody s_Arrived___init__) (defScope s_Arrived___init__) .none kV_Arrived___init__ dc_Arrived___init__ pm_Arrived___init__ an_Arrived___init__ cd_Arrived___init__ ct_Arrived___init__), sl_Arrived___init__⟩)
    (c_Arrived___init__ : PySem.W.codeIn K cd_Arrived___init__ "Arrived.__init__" = true)
    (k_Arrived___init__ : PySem.W.keepIn K (.ref f_Arrived___init__) = true)
    (a_read_log : PySem.W.nsIn K mainGlobals "read_log" = some (some (.ref f_read_log)))
    (l_read_log : K.lookup f_read_log = some ⟨oc_read_log, od_read_log, .func (PySem.W.fnOf "read_log" "read_log" (defArgs s_read_log) (defBody s_read_log) (defScope s_read_log) .none kV_read_log dc_read_log pm_read_log an_read_log cd_read_log ct_read_log), sl_read_log⟩)
    (c_read_log : PySem.W.codeIn K cd_read_log "read_log" = true)
    (k_read_log : PySem.W.keepIn K (.ref f_read_log) = true)
    (a_next_generation : PySem.W.nsIn K mainGlobals "next_generation" = some (some (.ref f_next_generation)))
    (l_next_generation : K.lookup f_next_generation = some ⟨oc_next_generation, od_next_generation, .func (PySem.W.fnOf "next_generation" "next_generation" (defArgs s_next_generation) (defBody s_next_generation) (defScope s_next_generation) .none kV_next_generation dc_next_generation pm_next_generation an_next_generation cd_next_generation ct_next_generation), sl_next_generation⟩)
    (c_next_generation : PySem.W.codeIn K cd_next_generation "next_generation" = true)
    (k_next_generation : PySem.W.keepIn K (.ref f_next_generation) = true)
    (a_check_size : PySem.W.nsIn K mainGlobals "check_size" = some (some (.ref f_check_size)))
    (l_check_size : K.lookup f_check_size = some ⟨oc_check_size, od_check_size, .func (PySem.W.fnOf "check_size" "check_size" (defArgs s_check_size) (defBody s_check_size) (defScope s_check_size) .none kV_check_size dc_check_size pm_check_size an_check_size cd_check_size ct_check_size), sl_check_size⟩)
    (c_check_size : PySem.W.codeIn K cd_check_size "check_size" = true)
    (k_check_size : PySem.W.keepIn K (.ref f_check_size) = true)
    (a_check_kind : PySem.W.nsIn K mainGlobals "check_kind" = some (some (.ref f_check_kind)))
    (l_check_kind : K.lookup f_check_kind = some ⟨oc_check_kind, od_check_kind, .func (PySem.W.fnOf "check_kind" "check_kind" (defArgs s_check_kind) (defBody s_check_kind) (defScope s_check_kind) .none kV_check_kind dc_check_kind pm_check_kind an_check_kind cd_check_kind ct_check_kind), sl_check_kind⟩)
    (c_check_kind : PySem.W.codeIn K cd_check_kind "check_kind" = true)
    (k_check_kind : PySem.W.keepIn K (.ref f_check_kind) = true)
    (a_Frame___init__ : PySem.W.findIn K (.ref C_Frame) "__init__" = some (some (.ref f_Frame___init__)))
    (i_Frame___init__ : PySem.W.isFn K (.ref f_Frame___init__) = true)
    (l_Frame___init__ : K.lookup f_Frame___init__ = some ⟨oc_Frame___init__, od_Frame___init__, .func (PySem.W.fnOf "__init__" "Frame.__init__" (defArgs s_Frame___init__) (defBody s_Frame___init__) (defScope s_Frame___init__) .none kV_Frame___init__ dc_Frame___init__ pm_Frame___init__ an_Frame___init__ cd_Frame___init__ ct_Frame___init__), sl_Frame___init__⟩)
    (c_Frame___init__ : PySem.W.codeIn K cd_Frame___init__ "Frame.__init__" = true)
    (k_Frame___init__ : PySem.W.keepIn K (.ref f_Frame___init__) = true)
    (a_frame_of : PySem.W.nsIn K mainGlobals "frame_of" = some (some (.ref f_frame_of)))
    (l_frame_of : K.lookup f_frame_of = some ⟨oc_frame_of, od_frame_of, .func (PySem.W.fnOf "frame_of" "frame_of" (defArgs s_frame_of) (defBody s_frame_of) (defScope s_frame_of) .none kV_frame_of dc_frame_of pm_frame_of an_frame_of cd_frame_of ct_frame_of), sl_frame_of⟩)
    (c_frame_of : PySem.W.codeIn K cd_frame_of "frame_of" = true)
    (k_frame_of : PySem.W.keepIn K (.ref f_frame_of) = true)
    (a_decode_header : PySem.W.nsIn K mainGlobals "decode_header" = some (some (.ref f_decode_header)))
    (l_decode_header : K.lookup f_decode_header = some ⟨oc_decode_header, od_decode_header, .func (PySem.W.fnOf "decode_header" "decode_header" (defArgs s_decode_header) (defBody s_decode_header) (defScope s_decode_header) .none kV_decode_header dc_decode_header pm_decode_header an_decode_header cd_decode_header ct_decode_header), sl_decode_header⟩)
    (c_decode_header : PySem.W.codeIn K cd_decode_header "decode_header" = true)
    (k_decode_header : PySem.W.keepIn K (.ref f_decode_header) = true)
    (a_newest_header : PySem.W.nsIn K mainGlobals "newest_header" = some (some (.ref f_newest_header)))
    (l_newest_header : K.lookup f_newest_header = some ⟨oc_newest_header, od_newest_header, .func (PySem.W.fnOf "newest_header" "newest_header" (defArgs s_newest_header) (defBody s_newest_header) (defScope s_newest_header) .none kV_newest_header dc_newest_header pm_newest_header an_newest_header cd_newest_header ct_newest_header), sl_newest_header⟩)
    (c_newest_header : PySem.W.codeIn K cd_newest_header "newest_header" = true)
    (k_newest_header : PySem.W.keepIn K (.ref f_newest_header) = true)
    (a_open_keeper : PySem.W.nsIn K mainGlobals "open_keeper" = some (some (.ref f_open_keeper)))
    (l_open_keeper : K.lookup f_open_keeper = some ⟨oc_open_keeper, od_open_keeper, .func (PySem.W.fnOf "open_keeper" "open_keeper" (defArgs s_open_keeper) (defBody s_open_keeper) (defScope s_open_keeper) .none kV_open_keeper dc_open_keeper pm_open_keeper an_open_keeper cd_open_keeper ct_open_keeper), sl_open_keeper⟩)
    (c_open_keeper : PySem.W.codeIn K cd_open_keeper "open_keeper" = true)
    (k_open_keeper : PySem.W.keepIn K (.ref f_open_keeper) = true)
    (a_law_open : PySem.W.nsIn K mainGlobals "_law_open" = some (some (.ref f_law_open)))
    (l_law_open : K.lookup f_law_open = some ⟨oc_law_open, od_law_open, .func (PySem.W.fnOf "_law_open" "_law_open" (defArgs s_law_open) (defBody s_law_open) (defScope s_law_open) .none kV_law_open dc_law_open pm_law_open an_law_open cd_law_open ct_law_open), sl_law_open⟩)
    (c_law_open : PySem.W.codeIn K cd_law_open "_law_open" = true)
    (k_law_open : PySem.W.keepIn K (.ref f_law_open) = true)
    (a_law_is_integer : PySem.W.nsIn K mainGlobals "_law_is_integer" = some (some (.ref f_law_is_integer)))
    (l_law_is_integer : K.lookup f_law_is_integer = some ⟨oc_law_is_integer, od_law_is_integer, .func (PySem.W.fnOf "_law_is_integer" "_law_is_integer" (defArgs s_law_is_integer) (defBody s_law_is_integer) (defScope s_law_is_integer) .none kV_law_is_integer dc_law_is_integer pm_law_is_integer an_law_is_integer cd_law_is_integer ct_law_is_integer), sl_law_is_integer⟩)
    (c_law_is_integer : PySem.W.codeIn K cd_law_is_integer "_law_is_integer" = true)
    (k_law_is_integer : PySem.W.keepIn K (.ref f_law_is_integer) = true)
    (a_law_draw : PySem.W.nsIn K mainGlobals "_law_draw" = some (some (.ref f_law_draw)))
    (l_law_draw : K.lookup f_law_draw = some ⟨oc_law_draw, od_law_draw, .func (PySem.W.fnOf "_law_draw" "_law_draw" (defArgs s_law_draw) (defBody s_law_draw) (defScope s_law_draw) .none kV_law_draw dc_law_draw pm_law_draw an_law_draw cd_law_draw ct_law_draw), sl_law_draw⟩)
    (c_law_draw : PySem.W.codeIn K cd_law_draw "_law_draw" = true)
    (k_law_draw : PySem.W.keepIn K (.ref f_law_draw) = true)
    (a_encode_header : PySem.W.nsIn K mainGlobals "encode_header" = some (some (.ref f_encode_header)))
    (l_encode_header : K.lookup f_encode_header = some ⟨oc_encode_header, od_encode_header, .func (PySem.W.fnOf "encode_header" "encode_header" (defArgs s_encode_header) (defBody s_encode_header) (defScope s_encode_header) .none kV_encode_header dc_encode_header pm_encode_header an_encode_header cd_encode_header ct_encode_header), sl_encode_header⟩)
    (c_encode_header : PySem.W.codeIn K cd_encode_header "encode_header" = true)
    (k_encode_header : PySem.W.keepIn K (.ref f_encode_header) = true)
    (a_law_frame : PySem.W.nsIn K mainGlobals "_law_frame" = some (some (.ref f_law_frame)))
    (l_law_frame : K.lookup f_law_frame = some ⟨oc_law_frame, od_law_frame, .func (PySem.W.fnOf "_law_frame" "_law_frame" (defArgs s_law_frame) (defBody s_law_frame) (defScope s_law_frame) .none kV_law_frame dc_law_frame pm_law_frame an_law_frame cd_law_frame ct_law_frame), sl_law_frame⟩)
    (c_law_frame : PySem.W.codeIn K cd_law_frame "_law_frame" = true)
    (k_law_frame : PySem.W.keepIn K (.ref f_law_frame) = true)
    (a_law_block : PySem.W.nsIn K mainGlobals "_law_block" = some (some (.ref f_law_block)))
    (l_law_block : K.lookup f_law_block = some ⟨oc_law_block, od_law_block, .func (PySem.W.fnOf "_law_block" "_law_block" (defArgs s_law_block) (defBody s_law_block) (defScope s_law_block) .none kV_law_block dc_law_block pm_law_block an_law_block cd_law_block ct_law_block), sl_law_block⟩)
    (c_law_block : PySem.W.codeIn K cd_law_block "_law_block" = true)
    (k_law_block : PySem.W.keepIn K (.ref f_law_block) = true)
    (a_law_shape : PySem.W.nsIn K mainGlobals "_law_shape" = some (some (.ref f_law_shape)))
    (l_law_shape : K.lookup f_law_shape = some ⟨oc_law_shape, od_law_shape, .func (PySem.W.fnOf "_law_shape" "_law_shape" (defArgs s_law_shape) (defBody s_law_shape) (defScope s_law_shape) .none kV_law_shape dc_law_shape pm_law_shape an_law_shape cd_law_shape ct_law_shape), sl_law_shape⟩)
    (c_law_shape : PySem.W.codeIn K cd_law_shape "_law_shape" = true)
    (k_law_shape : PySem.W.keepIn K (.ref f_law_shape) = true)
    (a_Disk___init__ : PySem.W.findIn K (.ref C_Disk) "__init__" = some (some (.ref f_Disk___init__)))
    (i_Disk___init__ : PySem.W.isFn K (.ref f_Disk___init__) = true)
    (l_Disk___init__ : K.lookup f_Disk___init__ = some ⟨oc_Disk___init__, od_Disk___init__, .func (PySem.W.fnOf "__init__" "Disk.__init__" (defArgs s_Disk___init__) (defBody s_Disk___init__) (defScope s_Disk___init__) .none kV_Disk___init__ dc_Disk___init__ pm_Disk___init__ an_Disk___init__ cd_Disk___init__ ct_Disk___init__), sl_Disk___init__⟩)
    (c_Disk___init__ : PySem.W.codeIn K cd_Disk___init__ "Disk.__init__" = true)
    (k_Disk___init__ : PySem.W.keepIn K (.ref f_Disk___init__) = true)
    (a_law_cell : PySem.W.nsIn K mainGlobals "_law_cell" = some (some (.ref f_law_cell)))
    (l_law_cell : K.lookup f_law_cell = some ⟨oc_law_cell, od_law_cell, .func (PySem.W.fnOf "_law_cell" "_law_cell" (defArgs s_law_cell) (defBody s_law_cell) (defScope s_law_cell) .none kV_law_cell dc_law_cell pm_law_cell an_law_cell cd_law_cell ct_law_cell), sl_law_cell⟩)
    (c_law_cell : PySem.W.codeIn K cd_law_cell "_law_cell" = true)
    (k_law_cell : PySem.W.keepIn K (.ref f_law_cell) = true)
    (a_law_digits : PySem.W.nsIn K mainGlobals "_law_digits" = some (some (.ref f_law_digits)))
    (l_law_digits : K.lookup f_law_digits = some ⟨oc_law_digits, od_law_digits, .func (PySem.W.fnOf "_law_digits" "_law_digits" (defArgs s_law_digits) (defBody s_law_digits) (defScope s_law_digits) .none kV_law_digits dc_law_digits pm_law_digits an_law_digits cd_law_digits ct_law_digits), sl_law_digits⟩)
    (c_law_digits : PySem.W.codeIn K cd_law_digits "_law_digits" = true)
    (k_law_digits : PySem.W.keepIn K (.ref f_law_digits) = true)
    (a_law : PySem.W.nsIn K mainGlobals "law" = some (some (.ref f_law)))
    (l_law : K.lookup f_law = some ⟨oc_law, od_law, .func (PySem.W.fnOf "law" "law" (defArgs s_law) (defBody s_law) (defScope s_law) .none kV_law dc_law pm_law an_law cd_law ct_law), sl_law⟩)
    (c_law : PySem.W.codeIn K cd_law "law" = true)
    (k_law : PySem.W.keepIn K (.ref f_law) = true)
    (n_bool : PySem.W.nsIn K mainGlobals "bool" = some none)
    (n_divmod : PySem.W.nsIn K mainGlobals "divmod" = some none)
    (n_enumerate : PySem.W.nsIn K mainGlobals "enumerate" = some none)
    (n_int : PySem.W.nsIn K mainGlobals "int" = some none)
    (n_isinstance : PySem.W.nsIn K mainGlobals "isinstance" = some none)
    (n_len : PySem.W.nsIn K mainGlobals "len" = some none)
    (n_list : PySem.W.nsIn K mainGlobals "list" = some none)
    (n_min : PySem.W.nsIn K mainGlobals "min" = some none)
    (n_range : PySem.W.nsIn K mainGlobals "range" = some none)
    (n_tuple : PySem.W.nsIn K mainGlobals "tuple" = some none)
    (c_BLOCK : PySem.W.nsIn K mainGlobals "BLOCK" = some (some (.int 32 t_BLOCK)))
    (c_BLOCKS_LEAST : PySem.W.nsIn K mainGlobals "BLOCKS_LEAST" = some (some (.int 4 t_BLOCKS_LEAST)))
    (c_BLOCKS_MOST : PySem.W.nsIn K mainGlobals "BLOCKS_MOST" = some (some (.int 400 t_BLOCKS_MOST)))
    (c_CONTEXTS : PySem.W.nsIn K mainGlobals "CONTEXTS" = some (some (.int 16 t_CONTEXTS)))
    (c_COUNT_AT : PySem.W.nsIn K mainGlobals "COUNT_AT" = some (some (.int 5 t_COUNT_AT)))
    (c_DEPTH_MOST : PySem.W.nsIn K mainGlobals "DEPTH_MOST" = some (some (.int 8 t_DEPTH_MOST)))
    (c_DIGITS_AT : PySem.W.nsIn K mainGlobals "DIGITS_AT" = some (some (.int 6 t_DIGITS_AT)))
    (c_DIGITS_MOST : PySem.W.nsIn K mainGlobals "DIGITS_MOST" = some (some (.int 65535 t_DIGITS_MOST)))
    (c_GENERATIONS : PySem.W.nsIn K mainGlobals "GENERATIONS" = some (some (.int 256 t_GENERATIONS)))
    (c_HEADERS : PySem.W.nsIn K mainGlobals "HEADERS" = some (some (.int 2 t_HEADERS)))
    (c_HEADER_FILL : PySem.W.nsIn K mainGlobals "HEADER_FILL" = some (some (.int 24 t_HEADER_FILL)))
    (c_HEADER_MARK : PySem.W.nsIn K mainGlobals "HEADER_MARK" = some (some (.int 72 t_HEADER_MARK)))
    (c_NUMBERS_AT : PySem.W.nsIn K mainGlobals "NUMBERS_AT" = some (some (.int 2 t_NUMBERS_AT)))
    (c_NUMBERS_END : PySem.W.nsIn K mainGlobals "NUMBERS_END" = some (some (.int 7 t_NUMBERS_END)))
    (c_RECORD_MARK : PySem.W.nsIn K mainGlobals "RECORD_MARK" = some (some (.int 75 t_RECORD_MARK)))
    (c_RECORD_MOST : PySem.W.nsIn K mainGlobals "RECORD_MOST" = some (some (.int 160 t_RECORD_MOST)))
    (c_SIDE_MOST : PySem.W.nsIn K mainGlobals "SIDE_MOST" = some (some (.int 64 t_SIDE_MOST)))
    (c_START_MOST : PySem.W.nsIn K mainGlobals "START_MOST" = some (some (.int 65535 t_START_MOST)))
    (c_TILE_MOST : PySem.W.nsIn K mainGlobals "TILE_MOST" = some (some (.int 16 t_TILE_MOST)))
    (c_VALUES_MOST : PySem.W.nsIn K mainGlobals "VALUES_MOST" = some (some (.int 3072 t_VALUES_MOST))) :
    ∃ fd : FuncData, (∀ (s : Shared) (v : Value), BindsTo s fd ⟨[v], []⟩ [("script", v)]) ∧ ∀ base : Heap, K.In base → base.Ns mainGlobals mg → FnOk l.prog w K mg base CX0 14 fa fd ["script"] (spLaw K) := by
  have e := hfa.symm.trans (PySem.W.mg_of X G a_law)
  cases e
  have F_law_same := fun_mk (st := s_law_same) l_law_same c_law_same k_law_same
  have F_Disk_cut_count := fun_mk (st := s_Disk_cut_count) l_Disk_cut_count c_Disk_cut_count k_Disk_cut_count
  have F_Keeper___init__ := fun_mk (st := s_Keeper___init__) l_Keeper___init__ c_Keeper___init__ k_Keeper___init__
  have F_Disk__cut := fun_mk (st := s_Disk__cut) l_Disk__cut c_Disk__cut k_Disk__cut
  have F_Disk__use_power := fun_mk (st := s_Disk__use_power) l_Disk__use_power c_Disk__use_power k_Disk__use_power
  have F_Disk_flush := fun_mk (st := s_Disk_flush) l_Disk_flush c_Disk_flush k_Disk_flush
  have F_check_block := fun_mk (st := s_check_block) l_check_block c_check_block k_check_block
  have F_check_range := fun_mk (st := s_check_range) l_check_range c_check_range k_check_range
  have F_Disk__check_at := fun_mk (st := s_Disk__check_at) l_Disk__check_at c_Disk__check_at k_Disk__check_at
  have F_Disk_write := fun_mk (st := s_Disk_write) l_Disk_write c_Disk_write k_Disk_write
  have F_write_zeros := fun_mk (st := s_write_zeros) l_write_zeros c_write_zeros k_write_zeros
  have F_Disk_size := fun_mk (st := s_Disk_size) l_Disk_size c_Disk_size k_Disk_size
  have F_area_size := fun_mk (st := s_area_size) l_area_size c_area_size k_area_size
  have F_area_start := fun_mk (st := s_area_start) l_area_start c_area_start k_area_start
  have F_digits_of := fun_mk (st := s_digits_of) l_digits_of c_digits_of k_digits_of
  have F_shortest_cell := fun_mk (st := s_shortest_cell) l_shortest_cell c_shortest_cell k_shortest_cell
  have F_Coding_interval := fun_mk (st := s_Coding_interval) l_Coding_interval c_Coding_interval k_Coding_interval
  have F_context := fun_mk (st := s_context) l_context c_context k_context
  have F_Coding_take := fun_mk (st := s_Coding_take) l_Coding_take c_Coding_take k_Coding_take
  have F_Coding___init__ := fun_mk (st := s_Coding___init__) l_Coding___init__ c_Coding___init__ k_Coding___init__
  have F_coding_of := fun_mk (st := s_coding_of) l_coding_of c_coding_of k_coding_of
  have F_interval := fun_mk (st := s_interval) l_interval c_interval k_interval
  have F_code_of := fun_mk (st := s_code_of) l_code_of c_code_of k_code_of
  have F_opens := fun_mk (st := s_opens) l_opens c_opens k_opens
  have F_first_with_one := fun_mk (st := s_first_with_one) l_first_with_one c_first_with_one k_first_with_one
  have F_last_with_zero := fun_mk (st := s_last_with_zero) l_last_with_zero c_last_with_zero k_last_with_zero
  have F_next_bits := fun_mk (st := s_next_bits) l_next_bits c_next_bits k_next_bits
  have F_Coding_shares := fun_mk (st := s_Coding_shares) l_Coding_shares c_Coding_shares k_Coding_shares
  have F_Coding_border := fun_mk (st := s_Coding_border) l_Coding_border c_Coding_border k_Coding_border
  have F_bit_of_cell := fun_mk (st := s_bit_of_cell) l_bit_of_cell c_bit_of_cell k_bit_of_cell
  have F_number_of := fun_mk (st := s_number_of) l_number_of c_number_of k_number_of
  have F_prefix_of := fun_mk (st := s_prefix_of) l_prefix_of c_prefix_of k_prefix_of
  have F_Frame_across := fun_mk (st := s_Frame_across) l_Frame_across c_Frame_across k_Frame_across
  have F_tile_corner := fun_mk (st := s_tile_corner) l_tile_corner c_tile_corner k_tile_corner
  have F_tile_size := fun_mk (st := s_tile_size) l_tile_size c_tile_size k_tile_size
  have F_known_in_packet := fun_mk (st := s_known_in_packet) l_known_in_packet c_known_in_packet k_known_in_packet
  have F_new_digits := fun_mk (st := s_new_digits) l_new_digits c_new_digits k_new_digits
  have F_Frame_down := fun_mk (st := s_Frame_down) l_Frame_down c_Frame_down k_Frame_down
  have F_Frame_tiles := fun_mk (st := s_Frame_tiles) l_Frame_tiles c_Frame_tiles k_Frame_tiles
  have F_key_number := fun_mk (st := s_key_number) l_key_number c_key_number k_key_number
  have F_check_key := fun_mk (st := s_check_key) l_check_key c_check_key k_check_key
  have F_check_piece := fun_mk (st := s_check_piece) l_check_piece c_check_piece k_check_piece
  have F_Arrived_accept := fun_mk (st := s_Arrived_accept) l_Arrived_accept c_Arrived_accept k_Arrived_accept
  have F_key_at := fun_mk (st := s_key_at) l_key_at c_key_at k_key_at
  have F_Frame_packets := fun_mk (st := s_Frame_packets) l_Frame_packets c_Frame_packets k_Frame_packets
  have F_Arrived_packets := fun_mk (st := s_Arrived_packets) l_Arrived_packets c_Arrived_packets k_Arrived_packets
  have F_unpack := fun_mk (st := s_unpack) l_unpack c_unpack k_unpack
  have F_number_at := fun_mk (st := s_number_at) l_number_at c_number_at k_number_at
  have F_is_marked := fun_mk (st := s_is_marked) l_is_marked c_is_marked k_is_marked
  have F_decode_record := fun_mk (st := s_decode_record) l_decode_record c_decode_record k_decode_record
  have F_Disk_read := fun_mk (st := s_Disk_read) l_Disk_read c_Disk_read k_Disk_read
  have F_Arrived___init__ := fun_mk (st := s_Arrived___init__) l_Arrived___init__ c_Arrived___init__ k_Arrived___init__
  have F_read_log := fun_mk (st := s_read_log) l_read_log c_read_log k_read_log
  have F_next_generation := fun_mk (st := s_next_generation) l_next_generation c_next_generation k_next_generation
  have F_check_size := fun_mk (st := s_check_size) l_check_size c_check_size k_check_size
  have F_check_kind := fun_mk (st := s_check_kind) l_check_kind c_check_kind k_check_kind
  have F_Frame___init__ := fun_mk (st := s_Frame___init__) l_Frame___init__ c_Frame___init__ k_Frame___init__
  have F_frame_of := fun_mk (st := s_frame_of) l_frame_of c_frame_of k_frame_of
  have F_decode_header := fun_mk (st := s_decode_header) l_decode_header c_decode_header k_decode_header
  have F_newest_header := fun_mk (st := s_newest_header) l_newest_header c_newest_header k_newest_header
  have F_open_keeper := fun_mk (st := s_open_keeper) l_open_keeper c_open_keeper k_open_keeper
  have F_law_open := fun_mk (st := s_law_open) l_law_open c_law_open k_law_open
  have F_law_is_integer := fun_mk (st := s_law_is_integer) l_law_is_integer c_law_is_integer k_law_is_integer
  have F_law_draw := fun_mk (st := s_law_draw) l_law_draw c_law_draw k_law_draw
  have F_encode_header := fun_mk (st := s_encode_header) l_encode_header c_encode_header k_encode_header
  have F_law_frame := fun_mk (st := s_law_frame) l_law_frame c_law_frame k_law_frame
  have F_law_block := fun_mk (st := s_law_block) l_law_block c_law_block k_law_block
  have F_law_shape := fun_mk (st := s_law_shape) l_law_shape c_law_shape k_law_shape
  have F_Disk___init__ := fun_mk (st := s_Disk___init__) l_Disk___init__ c_Disk___init__ k_Disk___init__
  have F_law_cell := fun_mk (st := s_law_cell) l_law_cell c_law_cell k_law_cell
  have F_law_digits := fun_mk (st := s_law_digits) l_law_digits c_law_digits k_law_digits
  have F_law := fun_mk (st := s_law) l_law c_law k_law
  exact ⟨PySem.W.fnOf "law" "law" (defArgs s_law) (defBody s_law) (defScope s_law) .none kV_law dc_law pm_law an_law cd_law ct_law, fun s v => .of_eq rfl, fun base _ _ => ok_law (mg := mg) {
    a_Frame := C_Frame,
    cl_Frame := ⟨pg_Frame, hd_Frame, po_Frame, sa_Frame⟩,
    g_Frame := PySem.W.mg_of X G g_Frame,
    mk_Frame := mk_Frame,
    kp_Frame := kc_Frame,
    na_Frame_width := na_Frame_width,
    na_Frame_height := na_Frame_height,
    na_Frame_depth := na_Frame_depth,
    na_Frame_channels := na_Frame_channels,
    na_Frame_tile := na_Frame_tile,
    a_Disk := C_Disk,
    cl_Disk := ⟨pg_Disk, hd_Disk, po_Disk, sa_Disk⟩,
    g_Disk := PySem.W.mg_of X G g_Disk,
    mk_Disk := mk_Disk,
    kp_Disk := kc_Disk,
    na_Disk__blocks := na_Disk__blocks,
    na_Disk__pending := na_Disk__pending,
    na_Disk__cuts := na_Disk__cuts,
    na_Disk__left := na_Disk__left,
    na_Disk__torn := na_Disk__torn,
    a_Arrived := C_Arrived,
    cl_Arrived := ⟨pg_Arrived, hd_Arrived, po_Arrived, sa_Arrived⟩,
    g_Arrived := PySem.W.mg_of X G g_Arrived,
    mk_Arrived := mk_Arrived,
    kp_Arrived := kc_Arrived,
    na_Arrived_frame := na_Arrived_frame,
    na_Arrived__digits := na_Arrived__digits,
    na_Arrived__prefixes := na_Arrived__prefixes,
    a_Keeper := C_Keeper,
    cl_Keeper := ⟨pg_Keeper, hd_Keeper, po_Keeper, sa_Keeper⟩,
    g_Keeper := PySem.W.mg_of X G g_Keeper,
    mk_Keeper := mk_Keeper,
    kp_Keeper := kc_Keeper,
    na_Keeper_frame := na_Keeper_frame,
    na_Keeper__disk := na_Keeper__disk,
    na_Keeper__cuts := na_Keeper__cuts,
    na_Keeper__generation := na_Keeper__generation,
    na_Keeper__arrived := na_Keeper__arrived,
    na_Keeper__used := na_Keeper__used,
    a_Coding := C_Coding,
    cl_Coding := ⟨pg_Coding, hd_Coding, po_Coding, sa_Coding⟩,
    g_Coding := PySem.W.mg_of X G g_Coding,
    mk_Coding := mk_Coding,
    kp_Coding := kc_Coding,
    na_Coding_bits := na_Coding_bits,
    na_Coding__width := na_Coding__width,
    na_Coding__low := na_Coding__low,
    na_Coding__size := na_Coding__size,
    na_Coding__whole := na_Coding__whole,
    na_Coding__zeros := na_Coding__zeros,
    na_Coding__ones := na_Coding__ones,
    io_Frame := ⟨ca_Frame, spS, tkS, ob_Frame⟩,
    x_OutOfRange := ⟨C_OutOfRange, f_OutOfRange, _, PySem.W.mg_of X G g_OutOfRange, ⟨⟨nm_OutOfRange, q_OutOfRange, N_OutOfRange, bs_OutOfRange, bm_OutOfRange, sn_OutOfRange, sub_OutOfRange, ab_OutOfRange, col_OutOfRange, dd_OutOfRange, k0_OutOfRange, k1_OutOfRange, k2_OutOfRange, k3_OutOfRange, k5_OutOfRange, lC_OutOfRange, rv_OutOfRange⟩, sa_OutOfRange, bb_OutOfRange, ty_OutOfRange, kC_OutOfRange⟩,
      ⟨⟨_, _, _, _, _, _, _, _, _, _, rfl, lf_OutOfRange, cf_OutOfRange, ⟨_, _, _, _, _, _, lcd_OutOfRange, vs2_OutOfRange, fil_OutOfRange⟩, _, _, _, lcc_OutOfRange⟩, topS, PySem.W.mg_none_of X G nsS, su_OutOfRange, opS, sup_OutOfRange, isV_OutOfRange⟩, iC_OutOfRange, tI_OutOfRange, Binds.all fun us hl => (match us, hl with | [_, _], _ => rfl),
      ⟨ga_OutOfRange, gg_OutOfRange, bb_OutOfRange, hd_OutOfRange⟩, ⟨by unfold PySem.W.clsIn; rw [lC_OutOfRange] <;> rfl, ga_OutOfRange, gg_OutOfRange, bb_OutOfRange, ca_OutOfRange, spS, tkS, ob_OutOfRange⟩, PySem.W.exm_ref bb_OutOfRange hd_OutOfRange ty_OutOfRange ss_OutOfRange⟩,
    y_BitsAhead := ⟨C_BitsAhead, PySem.W.mg_of X G g_BitsAhead, kC_BitsAhead, ex_BitsAhead, bb_BitsAhead, ty_BitsAhead, PySem.W.exm_ref bb_BitsAhead hd_BitsAhead ty_BitsAhead ss_BitsAhead⟩,
    y_Contradiction := ⟨C_Contradiction, PySem.W.mg_of X G g_Contradiction, kC_Contradiction, ex_Contradiction, bb_Contradiction, ty_Contradiction, PySem.W.exm_ref bb_Contradiction hd_Contradiction ty_Contradiction ss_Contradiction⟩,
    y_NoSuchPacket := ⟨C_NoSuchPacket, PySem.W.mg_of X G g_NoSuchPacket, kC_NoSuchPacket, ex_NoSuchPacket, bb_NoSuchPacket, ty_NoSuchPacket, PySem.W.exm_ref bb_NoSuchPacket hd_NoSuchPacket ty_NoSuchPacket ss_NoSuchPacket⟩,
    y_NotKept := ⟨C_NotKept, PySem.W.mg_of X G g_NotKept, kC_NotKept, ex_NotKept, bb_NotKept, ty_NotKept, PySem.W.exm_ref bb_NotKept hd_NotKept ty_NotKept ss_NotKept⟩,
    y_PowerCut := ⟨C_PowerCut, PySem.W.mg_of X G g_PowerCut, kC_PowerCut, ex_PowerCut, bb_PowerCut, ty_PowerCut, PySem.W.exm_ref bb_PowerCut hd_PowerCut ty_PowerCut ss_PowerCut⟩,
    is_NotKept := ⟨cs_NotKept, ga_NotKept, gg_NotKept, bb_NotKept, ca_NotKept, spS, tkS, ob_NotKept⟩,
    nf_OutOfRange_name := nf_OutOfRange_name,
    em_OutOfRange_NotKept := PySem.W.exm_ref bb_NotKept hd_NotKept ty_NotKept em_OutOfRange_NotKept,
    em_BitsAhead_NotKept := PySem.W.exm_ref bb_NotKept hd_NotKept ty_NotKept em_BitsAhead_NotKept,
    em_BitsAhead_OutOfRange := PySem.W.exm_ref bb_OutOfRange hd_OutOfRange ty_OutOfRange em_BitsAhead_OutOfRange,
    em_Contradiction_NotKept := PySem.W.exm_ref bb_NotKept hd_NotKept ty_NotKept em_Contradiction_NotKept,
    em_Contradiction_OutOfRange := PySem.W.exm_ref bb_OutOfRange hd_OutOfRange ty_OutOfRange em_Contradiction_OutOfRange,
    em_NoSuchPacket_NotKept := PySem.W.exm_ref bb_NotKept hd_NotKept ty_NotKept em_NoSuchPacket_NotKept,
    em_NoSuchPacket_OutOfRange := PySem.W.exm_ref bb_OutOfRange hd_OutOfRange ty_OutOfRange em_NoSuchPacket_OutOfRange,
    em_NotKept_OutOfRange := PySem.W.exm_ref bb_OutOfRange hd_OutOfRange ty_OutOfRange em_NotKept_OutOfRange,
    em_PowerCut_NotKept := PySem.W.exm_ref bb_NotKept hd_NotKept ty_NotKept em_PowerCut_NotKept,
    em_PowerCut_OutOfRange := PySem.W.exm_ref bb_OutOfRange hd_OutOfRange ty_OutOfRange em_PowerCut_OutOfRange,
    ki_OutOfRange_OutOfRange := ki_OutOfRange_OutOfRange,
    ki_NotKept_OutOfRange := ki_NotKept_OutOfRange,
    law_same := ⟨_, _, F_law_same, PySem.W.mg_of X G a_law_same, F_law_same.binds fun _ _ _ _ _ _ us hl => match us, hl with | [_, _], _ => rfl⟩,
    Disk_cut_count := ⟨_, _, F_Disk_cut_count, F_Disk_cut_count.binds fun _ _ _ _ _ _ us hl => match us, hl with | [_], _ => rfl, ⟨a_Disk_cut_count, i_Disk_cut_count, k_Disk_cut_count⟩⟩,
    Keeper___init__ := ⟨_, _, F_Keeper___init__, F_Keeper___init__.binds fun _ _ _ _ _ _ us hl => match us, hl with | [_, _, _, _, _], _ => rfl, ⟨a_Keeper___init__, i_Keeper___init__, k_Keeper___init__⟩⟩,
    Disk__cut := ⟨_, _, F_Disk__cut, F_Disk__cut.binds fun _ _ _ _ _ _ us hl => match us, hl with | [_, _], _ => rfl, ⟨a_Disk__cut, i_Disk__cut, k_Disk__cut⟩⟩,
    Disk__use_power := ⟨_, _, F_Disk__use_power, F_Disk__use_power.binds fun _ _ _ _ _ _ us hl => match us, hl with | [_], _ => rfl, ⟨a_Disk__use_power, i_Disk__use_power, k_Disk__use_power⟩⟩,
    Disk_flush := ⟨_, _, F_Disk_flush, F_Disk_flush.binds fun _ _ _ _ _ _ us hl => match us, hl with | [_], _ => rfl, ⟨a_Disk_flush, i_Disk_flush, k_Disk_flush⟩⟩,
    check_block := ⟨_, _, F_check_block, PySem.W.mg_of X G a_check_block, F_check_block.binds fun _ _ _ _ _ _ us hl => match us, hl with | [_], _ => rfl⟩,
    check_range := ⟨_, _, F_check_range, PySem.W.mg_of X G a_check_range, F_check_range.binds fun _ _ _ _ _ _ us hl => match us, hl with | [_, _, _, _], _ => rfl⟩,
    Disk__check_at := ⟨_, _, F_Disk__check_at, F_Disk__check_at.binds fun _ _ _ _ _ _ us hl => match us, hl with | [_, _], _ => rfl, ⟨a_Disk__check_at, i_Disk__check_at, k_Disk__check_at⟩⟩,
    Disk_write := ⟨_, _, F_Disk_write, F_Disk_write.binds fun _ _ _ _ _ _ us hl => match us, hl with | [_, _, _], _ => rfl, ⟨a_Disk_write, i_Disk_write, k_Disk_write⟩⟩,
    write_zeros := ⟨_, _, F_write_zeros, PySem.W.mg_of X G a_write_zeros, F_write_zeros.binds fun _ _ _ _ _ _ us hl => match us, hl with | [_, _, _], _ => rfl⟩,
    Disk_size := ⟨_, _, F_Disk_size, F_Disk_size.binds fun _ _ _ _ _ _ us hl => match us, hl with | [_], _ => rfl, ⟨a_Disk_size, i_Disk_size, k_Disk_size⟩⟩,
    area_size := ⟨_, _, F_area_size, PySem.W.mg_of X G a_area_size, F_area_size.binds fun _ _ _ _ _ _ us hl => match us, hl with | [_], _ => rfl⟩,
    area_start := ⟨_, _, F_area_start, PySem.W.mg_of X G a_area_start, F_area_start.binds fun _ _ _ _ _ _ us hl => match us, hl with | [_, _], _ => rfl⟩,
    digits_of := ⟨_, _, F_digits_of, PySem.W.mg_of X G a_digits_of, F_digits_of.binds fun _ _ _ _ _ _ us hl => match us, hl with | [_, _], _ => rfl⟩,
    shortest_cell := ⟨_, _, F_shortest_cell, PySem.W.mg_of X G a_shortest_cell, F_shortest_cell.binds fun _ _ _ _ _ _ us hl => match us, hl with | [_, _, _], _ => rfl⟩,
    Coding_interval := ⟨_, _, F_Coding_interval, F_Coding_interval.binds fun _ _ _ _ _ _ us hl => match us, hl with | [_], _ => rfl, ⟨a_Coding_interval, i_Coding_interval, k_Coding_interval⟩⟩,
    context := ⟨_, _, F_context, PySem.W.mg_of X G a_context, F_context.binds fun _ _ _ _ _ _ us hl => match us, hl with | [_, _, _], _ => rfl⟩,
    Coding_take := ⟨_, _, F_Coding_take, F_Coding_take.binds fun _ _ _ _ _ _ us hl => match us, hl with | [_, _], _ => rfl, ⟨a_Coding_take, i_Coding_take, k_Coding_take⟩⟩,
    Coding___init__ := ⟨_, _, F_Coding___init__, F_Coding___init__.binds fun _ _ _ _ _ _ us hl => match us, hl with | [_, _], _ => rfl, ⟨a_Coding___init__, i_Coding___init__, k_Coding___init__⟩⟩,
    coding_of := ⟨_, _, F_coding_of, PySem.W.mg_of X G a_coding_of, F_coding_of.binds fun _ _ _ _ _ _ us hl => match us, hl with | [_, _], _ => rfl⟩,
    interval := ⟨_, _, F_interval, PySem.W.mg_of X G a_interval, F_interval.binds fun _ _ _ _ _ _ us hl => match us, hl with | [_, _], _ => rfl⟩,
    code_of := ⟨_, _, F_code_of, PySem.W.mg_of X G a_code_of, F_code_of.binds fun _ _ _ _ _ _ us hl => match us, hl with | [_, _], _ => rfl⟩,
    opens := ⟨_, _, F_opens, PySem.W.mg_of X G a_opens, F_opens.binds fun _ _ _ _ _ _ us hl => match us, hl with | [_, _, _], _ => rfl⟩,
    first_with_one := ⟨_, _, F_first_with_one, PySem.W.mg_of X G a_first_with_one, F_first_with_one.binds fun _ _ _ _ _ _ us hl => match us, hl with | [_, _], _ => rfl⟩,
    last_with_zero := ⟨_, _, F_last_with_zero, PySem.W.mg_of X G a_last_with_zero, F_last_with_zero.binds fun _ _ _ _ _ _ us hl => match us, hl with | [_, _], _ => rfl⟩,
    next_bits := ⟨_, _, F_next_bits, PySem.W.mg_of X G a_next_bits, F_next_bits.binds fun _ _ _ _ _ _ us hl => match us, hl with | [_, _, _, _], _ => rfl⟩,
    Coding_shares := ⟨_, _, F_Coding_shares, F_Coding_shares.binds fun _ _ _ _ _ _ us hl => match us, hl with | [_], _ => rfl, ⟨a_Coding_shares, i_Coding_shares, k_Coding_shares⟩⟩,
    Coding_border := ⟨_, _, F_Coding_border, F_Coding_border.binds fun _ _ _ _ _ _ us hl => match us, hl with | [_], _ => rfl, ⟨a_Coding_border, i_Coding_border, k_Coding_border⟩⟩,
    bit_of_cell := ⟨_, _, F_bit_of_cell, PySem.W.mg_of X G a_bit_of_cell, F_bit_of_cell.binds fun _ _ _ _ _ _ us hl => match us, hl with | [_, _, _], _ => rfl⟩,
    number_of := ⟨_, _, F_number_of, PySem.W.mg_of X G a_number_of, F_number_of.binds fun _ _ _ _ _ _ us hl => match us, hl with | [_], _ => rfl⟩,
    prefix_of := ⟨_, _, F_prefix_of, PySem.W.mg_of X G a_prefix_of, F_prefix_of.binds fun _ _ _ _ _ _ us hl => match us, hl with | [_, _, _], _ => rfl⟩,
    Frame_across := ⟨_, _, F_Frame_across, F_Frame_across.binds fun _ _ _ _ _ _ us hl => match us, hl with | [_], _ => rfl, ⟨a_Frame_across, i_Frame_across, k_Frame_across⟩⟩,
    tile_corner := ⟨_, _, F_tile_corner, PySem.W.mg_of X G a_tile_corner, F_tile_corner.binds fun _ _ _ _ _ _ us hl => match us, hl with | [_, _], _ => rfl⟩,
    tile_size := ⟨_, _, F_tile_size, PySem.W.mg_of X G a_tile_size, F_tile_size.binds fun _ _ _ _ _ _ us hl => match us, hl with | [_, _], _ => rfl⟩,
    known_in_packet := ⟨_, _, F_known_in_packet, PySem.W.mg_of X G a_known_in_packet, F_known_in_packet.binds fun _ _ _ _ _ _ us hl => match us, hl with | [_, _, _], _ => rfl⟩,
    new_digits := ⟨_, _, F_new_digits, PySem.W.mg_of X G a_new_digits, F_new_digits.binds fun _ _ _ _ _ _ us hl => match us, hl with | [_, _, _], _ => rfl⟩,
    Frame_down := ⟨_, _, F_Frame_down, F_Frame_down.binds fun _ _ _ _ _ _ us hl => match us, hl with | [_], _ => rfl, ⟨a_Frame_down, i_Frame_down, k_Frame_down⟩⟩,
    Frame_tiles := ⟨_, _, F_Frame_tiles, F_Frame_tiles.binds fun _ _ _ _ _ _ us hl => match us, hl with | [_], _ => rfl, ⟨a_Frame_tiles, i_Frame_tiles, k_Frame_tiles⟩⟩,
    key_number := ⟨_, _, F_key_number, PySem.W.mg_of X G a_key_number, F_key_number.binds fun _ _ _ _ _ _ us hl => match us, hl with | [_, _], _ => rfl⟩,
    check_key := ⟨_, _, F_check_key, PySem.W.mg_of X G a_check_key, F_check_key.binds fun _ _ _ _ _ _ us hl => match us, hl with | [_, _], _ => rfl⟩,
    check_piece := ⟨_, _, F_check_piece, PySem.W.mg_of X G a_check_piece, F_check_piece.binds fun _ _ _ _ _ _ us hl => match us, hl with | [_, _, _, _], _ => rfl⟩,
    Arrived_accept := ⟨_, _, F_Arrived_accept, F_Arrived_accept.binds fun _ _ _ _ _ _ us hl => match us, hl with | [_, _, _, _], _ => rfl, ⟨a_Arrived_accept, i_Arrived_accept, k_Arrived_accept⟩⟩,
    key_at := ⟨_, _, F_key_at, PySem.W.mg_of X G a_key_at, F_key_at.binds fun _ _ _ _ _ _ us hl => match us, hl with | [_, _], _ => rfl⟩,
    Frame_packets := ⟨_, _, F_Frame_packets, F_Frame_packets.binds fun _ _ _ _ _ _ us hl => match us, hl with | [_], _ => rfl, ⟨a_Frame_packets, i_Frame_packets, k_Frame_packets⟩⟩,
    Arrived_packets := ⟨_, _, F_Arrived_packets, F_Arrived_packets.binds fun _ _ _ _ _ _ us hl => match us, hl with | [_], _ => rfl, ⟨a_Arrived_packets, i_Arrived_packets, k_Arrived_packets⟩⟩,
    unpack := ⟨_, _, F_unpack, PySem.W.mg_of X G a_unpack, F_unpack.binds fun _ _ _ _ _ _ us hl => match us, hl with | [_, _], _ => rfl⟩,
    number_at := ⟨_, _, F_number_at, PySem.W.mg_of X G a_number_at, F_number_at.binds fun _ _ _ _ _ _ us hl => match us, hl with | [_, _], _ => rfl⟩,
    is_marked := ⟨_, _, F_is_marked, PySem.W.mg_of X G a_is_marked, F_is_marked.binds fun _ _ _ _ _ _ us hl => match us, hl with | [_, _], _ => rfl⟩,
    decode_record := ⟨_, _, F_decode_record, PySem.W.mg_of X G a_decode_record, F_decode_record.binds fun _ _ _ _ _ _ us hl => match us, hl with | [_], _ => rfl⟩,
    Disk_read := ⟨_, _, F_Disk_read, F_Disk_read.binds fun _ _ _ _ _ _ us hl => match us, hl with | [_, _], _ => rfl, ⟨a_Disk_read, i_Disk_read, k_Disk_read⟩⟩,
    Arrived___init__ := ⟨_, _, F_Arrived___init__, F_Arrived___init__.binds fun _ _ _ _ _ _ us hl => match us, hl with | [_, _], _ => rfl, ⟨a_Arrived___init__, i_Arrived___init__, k_Arrived___init__⟩⟩,
    read_log := ⟨_, _, F_read_log, PySem.W.mg_of X G a_read_log, F_read_log.binds fun _ _ _ _ _ _ us hl => match us, hl with | [_, _, _], _ => rfl⟩,
    next_generation := ⟨_, _, F_next_generation, PySem.W.mg_of X G a_next_generation, F_next_generation.binds fun _ _ _ _ _ _ us hl => match us, hl with | [_], _ => rfl⟩,
    check_size := ⟨_, _, F_check_size, PySem.W.mg_of X G a_check_size, F_check_size.binds fun _ _ _ _ _ _ us hl => match us, hl with | [_, _, _], _ => rfl⟩,
    check_kind := ⟨_, _, F_check_kind, PySem.W.mg_of X G a_check_kind, F_check_kind.binds fun _ _ _ _ _ _ us hl => match us, hl with | [_, _, _, _], _ => rfl⟩,
    Frame___init__ := ⟨_, _, F_Frame___init__, F_Frame___init__.binds fun _ _ _ _ _ _ us hl => match us, hl with | [_, _, _, _, _, _], _ => rfl, ⟨a_Frame___init__, i_Frame___init__, k_Frame___init__⟩⟩,
    frame_of := ⟨_, _, F_frame_of, PySem.W.mg_of X G a_frame_of, F_frame_of.binds fun _ _ _ _ _ _ us hl => match us, hl with | [_], _ => rfl⟩,
    decode_header := ⟨_, _, F_decode_header, PySem.W.mg_of X G a_decode_header, F_decode_header.binds fun _ _ _ _ _ _ us hl => match us, hl with | [_], _ => rfl⟩,
    newest_header := ⟨_, _, F_newest_header, PySem.W.mg_of X G a_newest_header, F_newest_header.binds fun _ _ _ _ _ _ us hl => match us, hl with | [_], _ => rfl⟩,
    open_keeper := ⟨_, _, F_open_keeper, PySem.W.mg_of X G a_open_keeper, F_open_keeper.binds fun _ _ _ _ _ _ us hl => match us, hl with | [_], _ => rfl⟩,
    law_open := ⟨_, _, F_law_open, PySem.W.mg_of X G a_law_open, F_law_open.binds fun _ _ _ _ _ _ us hl => match us, hl with | [_], _ => rfl⟩,
    law_is_integer := ⟨_, _, F_law_is_integer, PySem.W.mg_of X G a_law_is_integer, F_law_is_integer.binds fun _ _ _ _ _ _ us hl => match us, hl with | [_], _ => rfl⟩,
    law_draw := ⟨_, _, F_law_draw, PySem.W.mg_of X G a_law_draw, F_law_draw.binds fun _ _ _ _ _ _ us hl => match us, hl with | [_, _], _ => rfl⟩,
    encode_header := ⟨_, _, F_encode_header, PySem.W.mg_of X G a_encode_header, F_encode_header.binds fun _ _ _ _ _ _ us hl => match us, hl with | [_, _], _ => rfl⟩,
    law_frame := ⟨_, _, F_law_frame, PySem.W.mg_of X G a_law_frame, F_law_frame.binds fun _ _ _ _ _ _ us hl => match us, hl with | [_], _ => rfl⟩,
    law_block := ⟨_, _, F_law_block, PySem.W.mg_of X G a_law_block, F_law_block.binds fun _ _ _ _ _ _ us hl => match us, hl with | [_, _, _], _ => rfl⟩,
    law_shape := ⟨_, _, F_law_shape, PySem.W.mg_of X G a_law_shape, F_law_shape.binds fun _ _ _ _ _ _ us hl => match us, hl with | [_, _, _, _], _ => rfl⟩,
    Disk___init__ := ⟨_, _, F_Disk___init__, F_Disk___init__.binds fun _ _ _ _ _ _ us hl => match us, hl with | [_, _], _ => rfl, ⟨a_Disk___init__, i_Disk___init__, k_Disk___init__⟩⟩,
    law_cell := ⟨_, _, F_law_cell, PySem.W.mg_of X G a_law_cell, F_law_cell.binds fun _ _ _ _ _ _ us hl => match us, hl with | [_, _], _ => rfl⟩,
    law_digits := ⟨_, _, F_law_digits, PySem.W.mg_of X G a_law_digits, F_law_digits.binds fun _ _ _ _ _ _ us hl => match us, hl with | [_, _, _], _ => rfl⟩,
    law := ⟨_, _, F_law, PySem.W.mg_of X G a_law, F_law.binds fun _ _ _ _ _ _ us hl => match us, hl with | [_], _ => rfl⟩,
    n_bool := PySem.W.mg_none_of X G n_bool,
    n_divmod := PySem.W.mg_none_of X G n_divmod,
    n_enumerate := PySem.W.mg_none_of X G n_enumerate,
    n_int := PySem.W.mg_none_of X G n_int,
    n_isinstance := PySem.W.mg_none_of X G n_isinstance,
    n_len := PySem.W.mg_none_of X G n_len,
    n_list := PySem.W.mg_none_of X G n_list,
    n_min := PySem.W.mg_none_of X G n_min,
    n_range := PySem.W.mg_none_of X G n_range,
    n_tuple := PySem.W.mg_none_of X G n_tuple,
    t_BLOCK := t_BLOCK,
    c_BLOCK := PySem.W.mg_of X G c_BLOCK,
    t_BLOCKS_LEAST := t_BLOCKS_LEAST,
    c_BLOCKS_LEAST := PySem.W.mg_of X G c_BLOCKS_LEAST,
    t_BLOCKS_MOST := t_BLOCKS_MOST,
    c_BLOCKS_MOST := PySem.W.mg_of X G c_BLOCKS_MOST,
    t_CONTEXTS := t_CONTEXTS,
    c_CONTEXTS := PySem.W.mg_of X G c_CONTEXTS,
    t_COUNT_AT := t_COUNT_AT,
    c_COUNT_AT := PySem.W.mg_of X G c_COUNT_AT,
    t_DEPTH_MOST := t_DEPTH_MOST,
    c_DEPTH_MOST := PySem.W.mg_of X G c_DEPTH_MOST,
    t_DIGITS_AT := t_DIGITS_AT,
    c_DIGITS_AT := PySem.W.mg_of X G c_DIGITS_AT,
    t_DIGITS_MOST := t_DIGITS_MOST,
    c_DIGITS_MOST := PySem.W.mg_of X G c_DIGITS_MOST,
    t_GENERATIONS := t_GENERATIONS,
    c_GENERATIONS := PySem.W.mg_of X G c_GENERATIONS,
    t_HEADERS := t_HEADERS,
    c_HEADERS := PySem.W.mg_of X G c_HEADERS,
    t_HEADER_FILL := t_HEADER_FILL,
    c_HEADER_FILL := PySem.W.mg_of X G c_HEADER_FILL,
    t_HEADER_MARK := t_HEADER_MARK,
    c_HEADER_MARK := PySem.W.mg_of X G c_HEADER_MARK,
    t_NUMBERS_AT := t_NUMBERS_AT,
    c_NUMBERS_AT := PySem.W.mg_of X G c_NUMBERS_AT,
    t_NUMBERS_END := t_NUMBERS_END,
    c_NUMBERS_END := PySem.W.mg_of X G c_NUMBERS_END,
    t_RECORD_MARK := t_RECORD_MARK,
    c_RECORD_MARK := PySem.W.mg_of X G c_RECORD_MARK,
    t_RECORD_MOST := t_RECORD_MOST,
    c_RECORD_MOST := PySem.W.mg_of X G c_RECORD_MOST,
    t_SIDE_MOST := t_SIDE_MOST,
    c_SIDE_MOST := PySem.W.mg_of X G c_SIDE_MOST,
    t_START_MOST := t_START_MOST,
    c_START_MOST := PySem.W.mg_of X G c_START_MOST,
    t_TILE_MOST := t_TILE_MOST,
    c_TILE_MOST := PySem.W.mg_of X G c_TILE_MOST,
    t_VALUES_MOST := t_VALUES_MOST,
    c_VALUES_MOST := PySem.W.mg_of X G c_VALUES_MOST }⟩
theorem walk {l : PySem.W.OpenLaw} {q : Program} {loose : List Str} {XP : (Str → Option Value) → Heap → Prop} {YP : World → Heap → Prop} {d : DefRec} {K : Params → PySem.W.Frag} (hn : l.most = some 63) (hdf : d.params.defaults = [])
    (hY : ∀ (w : World) (h : Heap), YP w h → (K w.params).In h)
    (F : ∀ (w : World) (mg : Str → Option Value) (fa : Addr) (h : Heap), (K w.params).In h → h.Ns mainGlobals mg → mg d.name = some (.ref fa) →
      ∃ fd : FuncData, (∀ (s : Shared) (u : Value), BindsTo s fd ⟨[u], []⟩ [("script", u)]) ∧ ∀ base : Heap, (K w.params).In base → base.Ns mainGlobals mg → FnOk l.prog w (K w.params) mg base CX0 14 fa fd ["script"] (spLaw (K w.params))) :
    PySem.W.WalkO q loose XP YP l.row.toRowW d [] (fun f vs => PySem.call f vs) :=
  L2.walk_ofB (n := 63) (k := 14) (x := "script") (CX := fun _ => CX0) (sp := fun w => spLaw (K w.params)) hn (by decide) hdf ⟨rfl, by decide, by decide⟩ hY F (fun _ _ a ns hl hb _ hS => ⟨a, ns, rfl, hS, hl, hb, fun _ => rfl⟩) fun _ _ _ _ _ z => z
end
end My
open PySem PySem.W PyProof.Rows in
set_option maxRecDepth 100000 in
set_option maxHeartbeats 0 in
theorem PySem.Challenge.cw_packetpicture_k80_current_header_holds : PySem.Challenge.rw_packetpicture_k80_current_header.Holds := by
  w_on; o_law; k_head; (case hw => w_witness2)
  k_fill
  refine My.walk (l := PySem.Challenge.rw_packetpicture_k80_current_header) rfl rfl (fun w h Y => PySem.W.kIn_of Y) ?F
  case F =>
    intro w mg fa h KX G hmg
    refine' My.all_mk KX G hmg ?g_Frame ?pg_Frame ?hd_Frame ?po_Frame ?sa_Frame ?mk_Frame ?kc_Frame ?na_Frame_width ?na_Frame_height ?na_Frame_depth ?na_Frame_channels ?na_Frame_tile ?g_Disk ?pg_Disk ?hd_Disk ?po_Disk ?sa_Disk ?mk_Disk ?kc_Disk ?na_Disk__blocks ?na_Disk__pending ?na_Disk__cuts ?na_Disk__left ?na_Disk__torn ?g_Arrived ?pg_Arrived ?hd_Arrived ?po_Arrived ?sa_Arrived ?mk_Arrived ?kc_Arrived ?na_Arrived_frame ?na_Arrived__digits ?na_Arrived__prefixes ?g_Keeper ?pg_Keeper ?hd_Keeper ?po_Keeper ?sa_Keeper ?mk_Keeper ?kc_Keeper ?na_Keeper_frame ?na_Keeper__disk ?na_Keeper__cuts ?na_Keeper__generation ?na_Keeper__arrived ?na_Keeper__used ?g_Coding ?pg_Coding ?hd_Coding ?po_Coding ?sa_Coding ?mk_Coding ?kc_Coding ?na_Coding_bits ?na_Coding__width ?na_Coding__low ?na_Coding__size ?na_Coding__whole ?na_Coding__zeros ?na_Coding__ones ?ca_Frame ?ob_Frame ?topS ?nsS ?opS ?spS ?tkS ?g_OutOfRange ?lC_OutOfRange ?rv_OutOfRange ?sa_OutOfRange ?bb_OutOfRange ?ty_OutOfRange ?kC_OutOfRange ?iC_OutOfRange ?tI_OutOfRange ?lf_OutOfRange ?cf_OutOfRange ?lcd_OutOfRange ?vs2_OutOfRange ?fil_OutOfRange ?lcc_OutOfRange ?su_OutOfRange ?sup_OutOfRange ?isV_OutOfRange ?ga_OutOfRange ?gg_OutOfRange ?ca_OutOfRange ?ob_OutOfRange ?hd_OutOfRange ?ss_OutOfRange ?g_BitsAhead ?kC_BitsAhead ?ex_BitsAhead ?bb_BitsAhead ?ty_BitsAhead ?hd_BitsAhead ?ss_BitsAhead ?g_Contradiction ?kC_Contradiction ?ex_Contradiction ?bb_Contradiction ?ty_Contradiction ?hd_Contradiction ?ss_Contradiction ?g_NoSuchPacket ?kC_NoSuchPacket ?ex_NoSuchPacket ?bb_NoSuchPacket ?ty_NoSuchPacket ?hd_NoSuchPacket ?ss_NoSuchPacket ?g_NotKept ?kC_NotKept ?ex_NotKept ?bb_NotKept ?ty_NotKept ?hd_NotKept ?ss_NotKept ?g_PowerCut ?kC_PowerCut ?ex_PowerCut ?bb_PowerCut ?ty_PowerCut ?hd_PowerCut ?ss_PowerCut ?cs_NotKept ?ga_NotKept ?gg_NotKept ?ca_NotKept ?ob_NotKept ?nf_OutOfRange_name ?em_OutOfRange_NotKept ?em_BitsAhead_NotKept ?em_BitsAhead_OutOfRange ?em_Contradiction_NotKept ?em_Contradiction_OutOfRange ?em_NoSuchPacket_NotKept ?em_NoSuchPacket_OutOfRange ?em_NotKept_OutOfRange ?em_PowerCut_NotKept ?em_PowerCut_OutOfRange ?ki_OutOfRange_OutOfRange ?ki_NotKept_OutOfRange ?a_law_same ?l_law_same ?c_law_same ?k_law_same ?a_Disk_cut_count ?i_Disk_cut_count ?l_Disk_cut_count ?c_Disk_cut_count ?k_Disk_cut_count ?a_Keeper___init__ ?i_Keeper___init__ ?l_Keeper___init__ ?c_Keeper___init__ ?k_Keeper___init__ ?a_Disk__cut ?i_Disk__cut ?l_Disk__cut ?c_Disk__cut ?k_Disk__cut ?a_Disk__use_power ?i_Disk__use_power ?l_Disk__use_power ?c_Disk__use_power ?k_Disk__use_power ?a_Disk_flush ?i_Disk_flush ?l_Disk_flush ?c_Disk_flush ?k_Disk_flush ?a_check_block ?l_check_block ?c_check_block ?k_check_block ?a_check_range ?l_check_range ?c_check_range ?k_check_range ?a_Disk__check_at ?i_Disk__check_at ?l_Disk__check_at ?c_Disk__check_at ?k_Disk__check_at ?a_Disk_write ?i_Disk_write ?l_Disk_write ?c_Disk_write ?k_Disk_write ?a_write_zeros ?l_write_zeros ?c_write_zeros ?k_write_zeros ?a_Disk_size ?i_Disk_size ?l_Disk_size ?c_Disk_size ?k_Disk_size ?a_area_size ?l_area_size ?c_area_size ?k_area_size ?a_area_start ?l_area_start ?c_area_start ?k_area_start ?a_digits_of ?l_digits_of ?c_digits_of ?k_digits_of ?a_shortest_cell ?l_shortest_cell ?c_shortest_cell ?k_shortest_cell ?a_Coding_interval ?i_Coding_interval ?l_Coding_interval ?c_Coding_interval ?k_Coding_interval ?a_context ?l_context ?c_context ?k_context ?a_Coding_take ?i_Coding_take ?l_Coding_take ?c_Coding_take ?k_Coding_take ?a_Coding___init__ ?i_Coding___init__ ?l_Coding___init__ ?c_Coding___init__ ?k_Coding___init__ ?a_coding_of ?l_coding_of ?c_coding_of ?k_coding_of ?a_interval ?l_interval ?c_interval ?k_interval ?a_code_of ?l_code_of ?c_code_of ?k_code_of ?a_opens ?l_opens ?c_opens ?k_opens ?a_first_with_one ?l_first_with_one ?c_first_with_one ?k_first_with_one ?a_last_with_zero ?l_last_with_zero ?c_last_with_zero ?k_last_with_zero ?a_next_bits ?l_next_bits ?c_next_bits ?k_next_bits ?a_Coding_shares ?i_Coding_shares ?l_Coding_shares ?c_Coding_shares ?k_Coding_shares ?a_Coding_border ?i_Coding_border ?l_Coding_border ?c_Coding_border ?k_Coding_border ?a_bit_of_cell ?l_bit_of_cell ?c_bit_of_cell ?k_bit_of_cell ?a_number_of ?l_number_of ?c_number_of ?k_number_of ?a_prefix_of ?l_prefix_of ?c_prefix_of ?k_prefix_of ?a_Frame_across ?i_Frame_across ?l_Frame_across ?c_Frame_across ?k_Frame_across ?a_tile_corner ?l_tile_corner ?c_tile_corner ?k_tile_corner ?a_tile_size ?l_tile_size ?c_tile_size ?k_tile_size ?a_known_in_packet ?l_known_in_packet ?c_known_in_packet ?k_known_in_packet ?a_new_digits ?l_new_digits ?c_new_digits ?k_new_digits ?a_Frame_down ?i_Frame_down ?l_Frame_down ?c_Frame_down ?k_Frame_down ?a_Frame_tiles ?i_Frame_tiles ?l_Frame_tiles ?c_Frame_tiles ?k_Frame_tiles ?a_key_number ?l_key_number ?c_key_number ?k_key_number ?a_check_key ?l_check_key ?c_check_key ?k_check_key ?a_check_piece ?l_check_piece ?c_check_piece ?k_check_piece ?a_Arrived_accept ?i_Arrived_accept ?l_Arrived_accept ?c_Arrived_accept ?k_Arrived_accept ?a_key_at ?l_key_at ?c_key_at ?k_key_at ?a_Frame_packets ?i_Frame_packets ?l_Frame_packets ?c_Frame_packets ?k_Frame_packets ?a_Arrived_packets ?i_Arrived_packets ?l_Arrived_packets ?c_Arrived_packets ?k_Arrived_packets ?a_unpack ?l_unpack ?c_unpack ?k_unpack ?a_number_at ?l_number_at ?c_number_at ?k_number_at ?a_is_marked ?l_is_marked ?c_is_marked ?k_is_marked ?a_decode_record ?l_decode_record ?c_decode_record ?k_decode_record ?a_Disk_read ?i_Disk_read ?l_Disk_read ?c_Disk_read ?k_Disk_read ?a_Arrived___init__ ?i_Arrived___init__ ?l_Arrived___init__ ?c_Arrived___init__ ?k_Arrived___init__ ?a_read_log ?l_read_log ?c_read_log ?k_read_log ?a_next_generation ?l_next_generation ?c_next_generation ?k_next_generation ?a_check_size ?l_check_size ?c_check_size ?k_check_size ?a_check_kind ?l_check_kind ?c_check_kind ?k_check_kind ?a_Frame___init__ ?i_Frame___init__ ?l_Frame___init__ ?c_Frame___init__ ?k_Frame___init__ ?a_frame_of ?l_frame_of ?c_frame_of ?k_frame_of ?a_decode_header ?l_decode_header ?c_decode_header ?k_decode_header ?a_newest_header ?l_newest_header ?c_newest_header ?k_newest_header ?a_open_keeper ?l_open_keeper ?c_open_keeper ?k_open_keeper ?a_law_open ?l_law_open ?c_law_open ?k_law_open ?a_law_is_integer ?l_law_is_integer ?c_law_is_integer ?k_law_is_integer ?a_law_draw ?l_law_draw ?c_law_draw ?k_law_draw ?a_encode_header ?l_encode_header ?c_encode_header ?k_encode_header ?a_law_frame ?l_law_frame ?c_law_frame ?k_law_frame ?a_law_block ?l_law_block ?c_law_block ?k_law_block ?a_law_shape ?l_law_shape ?c_law_shape ?k_law_shape ?a_Disk___init__ ?i_Disk___init__ ?l_Disk___init__ ?c_Disk___init__ ?k_Disk___init__ ?a_law_cell ?l_law_cell ?c_law_cell ?k_law_cell ?a_law_digits ?l_law_digits ?c_law_digits ?k_law_digits ?a_law ?l_law ?c_law ?k_law ?n_bool ?n_divmod ?n_enumerate ?n_int ?n_isinstance ?n_len ?n_list ?n_min ?n_range ?n_tuple ?c_BLOCK ?c_BLOCKS_LEAST ?c_BLOCKS_MOST ?c_CONTEXTS ?c_COUNT_AT ?c_DEPTH_MOST ?c_DIGITS_AT ?c_DIGITS_MOST ?c_GENERATIONS ?c_HEADERS ?c_HEADER_FILL ?c_HEADER_MARK ?c_NUMBERS_AT ?c_NUMBERS_END ?c_RECORD_MARK ?c_RECORD_MOST ?c_SIDE_MOST ?c_START_MOST ?c_TILE_MOST ?c_VALUES_MOST
    (case g_Frame => k_is)
    (case pg_Frame => k_is)
    (case hd_Frame => k_is)
    (case po_Frame => k_is)
    (case sa_Frame => k_is)
    (case mk_Frame => k_is)
    (case kc_Frame => k_is)
    (case na_Frame_width => k_is)
    (case na_Frame_height => k_is)
    (case na_Frame_depth => k_is)
    (case na_Frame_channels => k_is)
    (case na_Frame_tile => k_is)
    (case g_Disk => k_is)
    (case pg_Disk => k_is)
    (case hd_Disk => k_is)
    (case po_Disk => k_is)
    (case sa_Disk => k_is)
    (case mk_Disk => k_is)
    (case kc_Disk => k_is)
    (case na_Disk__blocks => k_is)
    (case na_Disk__pending => k_is)
    (case na_Disk__cuts => k_is)
    (case na_Disk__left => k_is)
    (case na_Disk__torn => k_is)
    (case g_Arrived => k_is)
    (case pg_Arrived => k_is)
    (case hd_Arrived => k_is)
    (case po_Arrived => k_is)
    (case sa_Arrived => k_is)
    (case mk_Arrived => k_is)
    (case kc_Arrived => k_is)
    (case na_Arrived_frame => k_is)
    (case na_Arrived__digits => k_is)
    (case na_Arrived__prefixes => k_is)
    (case g_Keeper => k_is)
    (case pg_Keeper => k_is)
    (case hd_Keeper => k_is)
    (case po_Keeper => k_is)
    (case sa_Keeper => k_is)
    (case mk_Keeper => k_is)
    (case kc_Keeper => k_is)
    (case na_Keeper_frame => k_is)
    (case na_Keeper__disk => k_is)
    (case na_Keeper__cuts => k_is)
    (case na_Keeper__generation => k_is)
    (case na_Keeper__arrived => k_is)
    (case na_Keeper__used => k_is)
    (case g_Coding => k_is)
    (case pg_Coding => k_is)
    (case hd_Coding => k_is)
    (case po_Coding => k_is)
    (case sa_Coding => k_is)
    (case mk_Coding => k_is)
    (case kc_Coding => k_is)
    (case na_Coding_bits => k_is)
    (case na_Coding__width => k_is)
    (case na_Coding__low => k_is)
    (case na_Coding__size => k_is)
    (case na_Coding__whole => k_is)
    (case na_Coding__zeros => k_is)
    (case na_Coding__ones => k_is)
    (case ca_Frame => k_is)
    (case ob_Frame => k_is)
    (case topS => first | rfl | decide +kernel)
    (case nsS => k_is)
    (case opS => k_is)
    (case spS => k_is)
    (case tkS => k_is)
    (case g_OutOfRange => k_is)
    (case lC_OutOfRange => k_is)
    (case rv_OutOfRange => first | rfl | decide +kernel)
    (case sa_OutOfRange => k_is)
    (case bb_OutOfRange => k_is)
    (case ty_OutOfRange => k_is)
    (case kC_OutOfRange => k_is)
    (case iC_OutOfRange => k_is)
    (case tI_OutOfRange => k_is)
    (case lf_OutOfRange => k_is)
    (case cf_OutOfRange => k_is)
    (case lcd_OutOfRange => k_is)
    (case vs2_OutOfRange => first | rfl | decide +kernel)
    (case fil_OutOfRange => first | rfl | decide +kernel)
    (case lcc_OutOfRange => k_is)
    (case su_OutOfRange => k_is)
    (case sup_OutOfRange => ks_is)
    (case isV_OutOfRange => k_is)
    (case ga_OutOfRange => k_is)
    (case gg_OutOfRange => k_is)
    (case ca_OutOfRange => k_is)
    (case ob_OutOfRange => k_is)
    (case hd_OutOfRange => k_is)
    (case ss_OutOfRange => first | rfl | k_is)
    (case g_BitsAhead => k_is)
    (case kC_BitsAhead => k_is)
    (case ex_BitsAhead => k_exc)
    (case bb_BitsAhead => k_is)
    (case ty_BitsAhead => k_is)
    (case hd_BitsAhead => k_is)
    (case ss_BitsAhead => first | rfl | k_is)
    (case g_Contradiction => k_is)
    (case kC_Contradiction => k_is)
    (case ex_Contradiction => k_exc)
    (case bb_Contradiction => k_is)
    (case ty_Contradiction => k_is)
    (case hd_Contradiction => k_is)
    (case ss_Contradiction => first | rfl | k_is)
    (case g_NoSuchPacket => k_is)
    (case kC_NoSuchPacket => k_is)
    (case ex_NoSuchPacket => k_exc)
    (case bb_NoSuchPacket => k_is)
    (case ty_NoSuchPacket => k_is)
    (case hd_NoSuchPacket => k_is)
    (case ss_NoSuchPacket => first | rfl | k_is)
    (case g_NotKept => k_is)
    (case kC_NotKept => k_is)
    (case ex_NotKept => k_exc)
    (case bb_NotKept => k_is)
    (case ty_NotKept => k_is)
    (case hd_NotKept => k_is)
    (case ss_NotKept => first | rfl | k_is)
    (case g_PowerCut => k_is)
    (case kC_PowerCut => k_is)
    (case ex_PowerCut => k_exc)
    (case bb_PowerCut => k_is)
    (case ty_PowerCut => k_is)
    (case hd_PowerCut => k_is)
    (case ss_PowerCut => first | rfl | k_is)
    (case cs_NotKept => first | k_is | rfl | decide +kernel)
    (case ga_NotKept => k_is)
    (case gg_NotKept => k_is)
    (case ca_NotKept => k_is)
    (case ob_NotKept => k_is)
    (case nf_OutOfRange_name => k_is)
    (case em_OutOfRange_NotKept => k_is)
    (case em_BitsAhead_NotKept => k_is)
    (case em_BitsAhead_OutOfRange => k_is)
    (case em_Contradiction_NotKept => k_is)
    (case em_Contradiction_OutOfRange => k_is)
    (case em_NoSuchPacket_NotKept => k_is)
    (case em_NoSuchPacket_OutOfRange => k_is)
    (case em_NotKept_OutOfRange => k_is)
    (case em_PowerCut_NotKept => k_is)
    (case em_PowerCut_OutOfRange => k_is)
    (case ki_OutOfRange_OutOfRange => kit_is)
    (case ki_NotKept_OutOfRange => kit_is)
    (case a_law_same => k_is)
    (case l_law_same => k_is)
    (case c_law_same => k_is)
    (case k_law_same => k_is)
    (case a_Disk_cut_count => k_is)
    (case i_Disk_cut_count => k_is)
    (case l_Disk_cut_count => k_is)
    (case c_Disk_cut_count => k_is)
    (case k_Disk_cut_count => k_is)
    (case a_Keeper___init__ => k_is)
    (case i_Keeper___init__ => k_is)
    (case l_Keeper___init__ => k_is)
    (case c_Keeper___init__ => k_is)
    (case k_Keeper___init__ => k_is)
    (case a_Disk__cut => k_is)
    (case i_Disk__cut => k_is)
    (case l_Disk__cut => k_is)
    (case c_Disk__cut => k_is)
    (case k_Disk__cut => k_is)
    (case a_Disk__use_power => k_is)
    (case i_Disk__use_power => k_is)
    (case l_Disk__use_power => k_is)
    (case c_Disk__use_power => k_is)
    (case k_Disk__use_power => k_is)
    (case a_Disk_flush => k_is)
    (case i_Disk_flush => k_is)
    (case l_Disk_flush => k_is)
    (case c_Disk_flush => k_is)
    (case k_Disk_flush => k_is)
    (case a_check_block => k_is)
    (case l_check_block => k_is)
    (case c_check_block => k_is)
    (case k_check_block => k_is)
    (case a_check_range => k_is)
    (case l_check_range => k_is)
    (case c_check_range => k_is)
    (case k_check_range => k_is)
    (case a_Disk__check_at => k_is)
    (case i_Disk__check_at => k_is)
    (case l_Disk__check_at => k_is)
    (case c_Disk__check_at => k_is)
    (case k_Disk__check_at => k_is)
    (case a_Disk_write => k_is)
    (case i_Disk_write => k_is)
    (case l_Disk_write => k_is)
    (case c_Disk_write => k_is)
    (case k_Disk_write => k_is)
    (case a_write_zeros => k_is)
    (case l_write_zeros => k_is)
    (case c_write_zeros => k_is)
    (case k_write_zeros => k_is)
    (case a_Disk_size => k_is)
    (case i_Disk_size => k_is)
    (case l_Disk_size => k_is)
    (case c_Disk_size => k_is)
    (case k_Disk_size => k_is)
    (case a_area_size => k_is)
    (case l_area_size => k_is)
    (case c_area_size => k_is)
    (case k_area_size => k_is)
    (case a_area_start => k_is)
    (case l_area_start => k_is)
    (case c_area_start => k_is)
    (case k_area_start => k_is)
    (case a_digits_of => k_is)
    (case l_digits_of => k_is)
    (case c_digits_of => k_is)
    (case k_digits_of => k_is)
    (case a_shortest_cell => k_is)
    (case l_shortest_cell => k_is)
    (case c_shortest_cell => k_is)
    (case k_shortest_cell => k_is)
    (case a_Coding_interval => k_is)
    (case i_Coding_interval => k_is)
    (case l_Coding_interval => k_is)
    (case c_Coding_interval => k_is)
    (case k_Coding_interval => k_is)
    (case a_context => k_is)
    (case l_context => k_is)
    (case c_context => k_is)
    (case k_context => k_is)
    (case a_Coding_take => k_is)
    (case i_Coding_take => k_is)
    (case l_Coding_take => k_is)
    (case c_Coding_take => k_is)
    (case k_Coding_take => k_is)
    (case a_Coding___init__ => k_is)
    (case i_Coding___init__ => k_is)
    (case l_Coding___init__ => k_is)
    (case c_Coding___init__ => k_is)
    (case k_Coding___init__ => k_is)
    (case a_coding_of => k_is)
    (case l_coding_of => k_is)
    (case c_coding_of => k_is)
    (case k_coding_of => k_is)
    (case a_interval => k_is)
    (case l_interval => k_is)
    (case c_interval => k_is)
    (case k_interval => k_is)
    (case a_code_of => k_is)
    (case l_code_of => k_is)
    (case c_code_of => k_is)
    (case k_code_of => k_is)
    (case a_opens => k_is)
    (case l_opens => k_is)
    (case c_opens => k_is)
    (case k_opens => k_is)
    (case a_first_with_one => k_is)
    (case l_first_with_one => k_is)
    (case c_first_with_one => k_is)
    (case k_first_with_one => k_is)
    (case a_last_with_zero => k_is)
    (case l_last_with_zero => k_is)
    (case c_last_with_zero => k_is)
    (case k_last_with_zero => k_is)
    (case a_next_bits => k_is)
    (case l_next_bits => k_is)
    (case c_next_bits => k_is)
    (case k_next_bits => k_is)
    (case a_Coding_shares => k_is)
    (case i_Coding_shares => k_is)
    (case l_Coding_shares => k_is)
    (case c_Coding_shares => k_is)
    (case k_Coding_shares => k_is)
    (case a_Coding_border => k_is)
    (case i_Coding_border => k_is)
    (case l_Coding_border => k_is)
    (case c_Coding_border => k_is)
    (case k_Coding_border => k_is)
    (case a_bit_of_cell => k_is)
    (case l_bit_of_cell => k_is)
    (case c_bit_of_cell => k_is)
    (case k_bit_of_cell => k_is)
    (case a_number_of => k_is)
    (case l_number_of => k_is)
    (case c_number_of => k_is)
    (case k_number_of => k_is)
    (case a_prefix_of => k_is)
    (case l_prefix_of => k_is)
    (case c_prefix_of => k_is)
    (case k_prefix_of => k_is)
    (case a_Frame_across => k_is)
    (case i_Frame_across => k_is)
    (case l_Frame_across => k_is)
    (case c_Frame_across => k_is)
    (case k_Frame_across => k_is)
    (case a_tile_corner => k_is)
    (case l_tile_corner => k_is)
    (case c_tile_corner => k_is)
    (case k_tile_corner => k_is)
    (case a_tile_size => k_is)
    (case l_tile_size => k_is)
    (case c_tile_size => k_is)
    (case k_tile_size => k_is)
    (case a_known_in_packet => k_is)
    (case l_known_in_packet => k_is)
    (case c_known_in_packet => k_is)
    (case k_known_in_packet => k_is)
    (case a_new_digits => k_is)
    (case l_new_digits => k_is)
    (case c_new_digits => k_is)
    (case k_new_digits => k_is)
    (case a_Frame_down => k_is)
    (case i_Frame_down => k_is)
    (case l_Frame_down => k_is)
    (case c_Frame_down => k_is)
    (case k_Frame_down => k_is)
    (case a_Frame_tiles => k_is)
    (case i_Frame_tiles => k_is)
    (case l_Frame_tiles => k_is)
    (case c_Frame_tiles => k_is)
    (case k_Frame_tiles => k_is)
    (case a_key_number => k_is)
    (case l_key_number => k_is)
    (case c_key_number => k_is)
    (case k_key_number => k_is)
    (case a_check_key => k_is)
    (case l_check_key => k_is)
    (case c_check_key => k_is)
    (case k_check_key => k_is)
    (case a_check_piece => k_is)
    (case l_check_piece => k_is)
    (case c_check_piece => k_is)
    (case k_check_piece => k_is)
    (case a_Arrived_accept => k_is)
    (case i_Arrived_accept => k_is)
    (case l_Arrived_accept => k_is)
    (case c_Arrived_accept => k_is)
    (case k_Arrived_accept => k_is)
    (case a_key_at => k_is)
    (case l_key_at => k_is)
    (case c_key_at => k_is)
    (case k_key_at => k_is)
    (case a_Frame_packets => k_is)
    (case i_Frame_packets => k_is)
    (case l_Frame_packets => k_is)
    (case c_Frame_packets => k_is)
    (case k_Frame_packets => k_is)
    (case a_Arrived_packets => k_is)
    (case i_Arrived_packets => k_is)
    (case l_Arrived_packets => k_is)
    (case c_Arrived_packets => k_is)
    (case k_Arrived_packets => k_is)
    (case a_unpack => k_is)
    (case l_unpack => k_is)
    (case c_unpack => k_is)
    (case k_unpack => k_is)
    (case a_number_at => k_is)
    (case l_number_at => k_is)
    (case c_number_at => k_is)
    (case k_number_at => k_is)
    (case a_is_marked => k_is)
    (case l_is_marked => k_is)
    (case c_is_marked => k_is)
    (case k_is_marked => k_is)
    (case a_decode_record => k_is)
    (case l_decode_record => k_is)
    (case c_decode_record => k_is)
    (case k_decode_record => k_is)
    (case a_Disk_read => k_is)
    (case i_Disk_read => k_is)
    (case l_Disk_read => k_is)
    (case c_Disk_read => k_is)
    (case k_Disk_read => k_is)
    (case a_Arrived___init__ => k_is)
    (case i_Arrived___init__ => k_is)
    (case l_Arrived___init__ => k_is)
    (case c_Arrived___init__ => k_is)
    (case k_Arrived___init__ => k_is)
    (case a_read_log => k_is)
    (case l_read_log => k_is)
    (case c_read_log => k_is)
    (case k_read_log => k_is)
    (case a_next_generation => k_is)
    (case l_next_generation => k_is)
    (case c_next_generation => k_is)
    (case k_next_generation => k_is)
    (case a_check_size => k_is)
    (case l_check_size => k_is)
    (case c_check_size => k_is)
    (case k_check_size => k_is)
    (case a_check_kind => k_is)
    (case l_check_kind => k_is)
    (case c_check_kind => k_is)
    (case k_check_kind => k_is)
    (case a_Frame___init__ => k_is)
    (case i_Frame___init__ => k_is)
    (case l_Frame___init__ => k_is)
    (case c_Frame___init__ => k_is)
    (case k_Frame___init__ => k_is)
    (case a_frame_of => k_is)
    (case l_frame_of => k_is)
    (case c_frame_of => k_is)
    (case k_frame_of => k_is)
    (case a_decode_header => k_is)
    (case l_decode_header => k_is)
    (case c_decode_header => k_is)
    (case k_decode_header => k_is)
    (case a_newest_header => k_is)
    (case l_newest_header => k_is)
    (case c_newest_header => k_is)
    (case k_newest_header => k_is)
    (case a_open_keeper => k_is)
    (case l_open_keeper => k_is)
    (case c_open_keeper => k_is)
    (case k_open_keeper => k_is)
    (case a_law_open => k_is)
    (case l_law_open => k_is)
    (case c_law_open => k_is)
    (case k_law_open => k_is)
    (case a_law_is_integer => k_is)
    (case l_law_is_integer => k_is)
    (case c_law_is_integer => k_is)
    (case k_law_is_integer => k_is)
    (case a_law_draw => k_is)
    (case l_law_draw => k_is)
    (case c_law_draw => k_is)
    (case k_law_draw => k_is)
    (case a_encode_header => k_is)
    (case l_encode_header => k_is)
    (case c_encode_header => k_is)
    (case k_encode_header => k_is)
    (case a_law_frame => k_is)
    (case l_law_frame => k_is)
    (case c_law_frame => k_is)
    (case k_law_frame => k_is)
    (case a_law_block => k_is)
    (case l_law_block => k_is)
    (case c_law_block => k_is)
    (case k_law_block => k_is)
    (case a_law_shape => k_is)
    (case l_law_shape => k_is)
    (case c_law_shape => k_is)
    (case k_law_shape => k_is)
    (case a_Disk___init__ => k_is)
    (case i_Disk___init__ => k_is)
    (case l_Disk___init__ => k_is)
    (case c_Disk___init__ => k_is)
    (case k_Disk___init__ => k_is)
    (case a_law_cell => k_is)
    (case l_law_cell => k_is)
    (case c_law_cell => k_is)
    (case k_law_cell => k_is)
    (case a_law_digits => k_is)
    (case l_law_digits => k_is)
    (case c_law_digits => k_is)
    (case k_law_digits => k_is)
    (case a_law => k_is)
    (case l_law => k_is)
    (case c_law => k_is)
    (case k_law => k_is)
    (case n_bool => k_is)
    (case n_divmod => k_is)
    (case n_enumerate => k_is)
    (case n_int => k_is)
    (case n_isinstance => k_is)
    (case n_len => k_is)
    (case n_list => k_is)
    (case n_min => k_is)
    (case n_range => k_is)
    (case n_tuple => k_is)
    (case c_BLOCK => k_is)
    (case c_BLOCKS_LEAST => k_is)
    (case c_BLOCKS_MOST => k_is)
    (case c_CONTEXTS => k_is)
    (case c_COUNT_AT => k_is)
    (case c_DEPTH_MOST => k_is)
    (case c_DIGITS_AT => k_is)
    (case c_DIGITS_MOST => k_is)
    (case c_GENERATIONS => k_is)
    (case c_HEADERS => k_is)
    (case c_HEADER_FILL => k_is)
    (case c_HEADER_MARK => k_is)
    (case c_NUMBERS_AT => k_is)
    (case c_NUMBERS_END => k_is)
    (case c_RECORD_MARK => k_is)
    (case c_RECORD_MOST => k_is)
    (case c_SIDE_MOST => k_is)
    (case c_START_MOST => k_is)
    (case c_TILE_MOST => k_is)
    (case c_VALUES_MOST => k_is)

