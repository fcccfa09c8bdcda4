import PyProof.Rows.All
import Wide.All
import OpenK.AllK
import Wide.FinOn
import HandS.ForMost
import HandS.EndBits
import HandS.IsInst
import HandS.Conv
import HandS.RevRange
import HandS.Walk
import HandS.Wide
import HandS.Codes
import HandS.ForExc
import HandS.ExcInit
import HandS.ExcSuper
import KE.KSuper
import KE.RegKSuper
import KE.KExcSuper
import KE.KExcIs
import HandS.ExcField
import HandS.ExcIs
import HandS.FStr
import KE.RegKIsAll
import HandS.ForExc
import HandS.NoneIn
import HandS.Comp
import HandS.Deep
import HandS.Dict
import HandS.FStr
import HandS.IntHex
import HandS.More
import HandS.SortKw
import HandS.Style
import HandS.WideBits
import KE.IntTextLaws
import KE.KEqDict
import KE.KIntText
import KE.KMinKey
import PyProof.Rows.StrMul
import PyProof.StrBlock2
import PySem.Challenge.RW_packetpicture_k14_whole_bits_belong_to_o
set_option Elab.async false
set_option linter.all false
set_option maxRecDepth 100000
set_option maxHeartbeats 4000000
set_option exponentiation.threshold 4000
/-! Names that are taken here, so that the head writes no twins of its heaps and trees: the compiled file stays small. Nothing names them. -/
theorem PySem.W.Fast.tw15873691916669176805 : True := trivial
theorem PySem.W.Fast.tw3125273989453149247 : True := trivial
theorem PySem.W.Fast.tw8827099096139453815 : True := trivial
theorem PySem.W.Fast.tw8688685440121481727 : True := trivial
theorem PySem.W.Fast.tw16722600882175316597 : True := trivial
theorem PySem.W.Fast.tw2784489153343820851 : True := trivial
theorem PySem.W.Fast.tw6041112624927016022 : True := trivial
theorem PySem.W.Fast.tw4846742300909871455 : True := trivial
theorem PySem.W.Fast.tw12317809715741683713 : True := trivial
theorem PySem.W.Fast.tw10277223377128327579 : True := trivial
theorem PySem.W.Fast.tw15959338891769770347 : True := trivial
theorem PySem.W.Fast.tw9006753849997712744 : True := trivial
theorem PySem.W.Fast.tw8195356756851220587 : True := trivial
theorem PySem.W.Fast.tw9171526485349375898 : True := trivial
theorem PySem.W.Fast.tw12094999979331291134 : True := trivial
theorem PySem.W.Fast.tw1167599146754004726 : True := trivial
theorem PySem.W.Fast.tw4166242731047431945 : True := trivial
theorem PySem.W.Fast.tw8961524264419041836 : True := trivial
theorem PySem.W.Fast.tw5045831707054748915 : True := trivial
theorem PySem.W.Fast.tw14513197194238186106 : True := trivial
theorem PySem.W.Fast.tw9463433097998764460 : True := trivial
theorem PySem.W.Fast.tw12990925874666266724 : True := trivial
theorem PySem.W.Fast.tw14436277403492383665 : True := trivial
/-! Steps of a reading, one lemma a construct; `walk_at "go"` tries them one after another. -/
namespace Gx
open PySem L2
section
variable {K : PySem.W.Frag} {σ : L2.St} {H : Hp} {Q : VK} {D : Ends} {ta tb te to ti tv : TE} {t u : TT} {tr : TA} {tu tw : TS} {x y z v : V} {i j : Int} {B : Bool → Hp → Prop} {A1 A2 : Prop} {b : Bool}
/-- a test's answer; a branch -/
noncomputable def TB (x : V) (H : Hp) (Q : Bool → Hp → Prop) : Prop := ∃ k, x = .bl k ∧ Q k H
noncomputable def IfP (c : Bool) (A B : Prop) : Prop := if c = true then A else B
theorem tb_go (q : B b H) : TB (.bl b) H B := ⟨b, rfl, q⟩
theorem if_t (q : A1) : IfP true A1 A2 := by unfold IfP; rw [if_pos rfl]; exact q
theorem if_f (q : A2) : IfP false A1 A2 := by unfold IfP; rw [if_neg Bool.false_ne_true]; exact q
theorem if_nt (q : A2) : IfP (!true) A1 A2 := if_f q
theorem if_nf (q : A1) : IfP (!false) A1 A2 := if_t q
theorem if_y {c : Bool} (h : c = true) (q : A1) : IfP c A1 A2 := by subst h; exact if_t q
theorem if_n {c : Bool} (h : c = false) (q : A2) : IfP c A1 A2 := by subst h; exact if_f q
theorem if_b {c : Bool} (q1 : c = true → A1) (q2 : c = false → A2) : IfP c A1 A2 := by
  cases c with
  | true => exact if_t (q1 rfl)
  | false => exact if_f (q2 rfl)
theorem if_d {p : Prop} [Decidable p] (q1 : p → A1) (q2 : ¬ p → A2) : IfP (decide p) A1 A2 := if_b (fun h => q1 (of_decide_eq_true h)) (fun h => q2 (of_decide_eq_false h))
theorem if_dn {p : Prop} [Decidable p] (q1 : ¬ p → A1) (q2 : p → A2) : IfP (!decide p) A1 A2 := by
  by_cases h : p
  · rw [decide_eq_true h]; exact if_f (q2 h)
  · rw [decide_eq_false h]; exact if_t (q1 h)
theorem if_dy {p : Prop} [Decidable p] (h : p) (q : A1) : IfP (decide p) A1 A2 := if_y (decide_eq_true h) q
theorem if_dno {p : Prop} [Decidable p] (h : ¬ p) (q : A2) : IfP (decide p) A1 A2 := if_n (decide_eq_false h) q
theorem if_two {c : Bool} {x y : Int} {σ : L2.St} {H : Hp} {Q' : VK} (q : ∀ n, (n = x ∨ n = y) → Q' (.int n) H) : IfP c (tC (.int x) σ H Q') (tC (.int y) σ H Q') := if_b (fun _ => q x (.inl rfl)) (fun _ => q y (.inr rfl))
/-- names, constants -/
theorem var {i : Nat} (h : σ[i]? = some (some v)) (q : Q v H) : tVar i σ H Q := ⟨v, h, q⟩
theorem cst (q : Q v H) : tC v σ H Q := q
/-- operators -/
theorem op {r : R2} (q : ta σ H fun x H1 => tb σ H1 fun y H2 => r x y H2 Q) : tOp r ta tb σ H Q := q
theorem un {r : V → Hp → VK → Prop} (q : ta σ H fun x H1 => r x H1 Q) : tUn r ta σ H Q := q
theorem i0 {g : Int → Int → V} (q : Q (g i j) H) : rI0 g (.int i) (.int j) H Q := ⟨i, j, rfl, rfl, q⟩
theorem ic {C : Int → Int → Prop} {g : Int → Int → V} (c : C i j) (q : Q (g i j) H) : rI C g (.int i) (.int j) H Q := ⟨i, j, rfl, rfl, c, q⟩
theorem uu {g : Int → V} (q : Q (g i) H) : rU g (.int i) H Q := ⟨i, rfl, q⟩
theorem eqv (q : Q (.bl (decide (x = y))) H) (h : scal x y = true := by rfl) : rEq x y H Q := ⟨h, q⟩
theorem nev (q : Q (.bl (!decide (x = y))) H) (h : scal x y = true := by rfl) : rNe x y H Q := ⟨h, q⟩
theorem eqI {p : Int} {q' : Int} : decide (V.int p = V.int q') = decide (p = q') := by simp
theorem eqS {p q' : Str} : decide (V.str p = V.str q') = decide (p = q') := by simp
theorem eqvI (q : Q (.bl (decide (i = j))) H) : rEq (.int i) (.int j) H Q := eqv (by rw [eqI]; exact q)
theorem nevI (q : Q (.bl (!decide (i = j))) H) : rNe (.int i) (.int j) H Q := nev (by rw [eqI]; exact q)
theorem eqvS {a b : Str} (q : Q (.bl (decide (a = b))) H) : rEq (.str a) (.str b) H Q := eqv (by rw [eqS]; exact q)
theorem nevS {a b : Str} (q : Q (.bl (!decide (a = b))) H) : rNe (.str a) (.str b) H Q := nev (by rw [eqS]; exact q)
/-- tests -/
theorem test (q : te σ H fun x H1 => TB x H1 B) : tTest te σ H B := q
theorem tB (q : te σ H fun x H1 => TB x H1 B) : L2.tB te σ H B := q
theorem and_ (q : t σ H fun c H1 => IfP c (u σ H1 B) (B false H1)) : tAnd t u σ H B := q
theorem or_ (q : t σ H fun c H1 => IfP c (B true H1) (u σ H1 B)) : tOr t u σ H B := q
theorem not_ (q : t σ H fun c H1 => B (!c) H1) : tNot t σ H B := q
theorem ifx (q : t σ H fun c H1 => IfP c (ta σ H1 Q) (tb σ H1 Q)) : tIf t ta tb σ H Q := q
/-- and, or, not as values -/
noncomputable def BV (x : V) (H : Hp) (Q : Bool → Hp → Prop) : Prop := ∃ c, x = .bl c ∧ Q c H
theorem bv_go (q : B b H) : BV (.bl b) H B := ⟨b, rfl, q⟩
theorem andV (q : ta σ H fun x H1 => BV x H1 fun c H1 => IfP c (tb σ H1 Q) (Q (.bl false) H1)) : tAndV ta tb σ H Q := q
theorem orV (q : ta σ H fun x H1 => BV x H1 fun c H1 => IfP c (Q (.bl true) H1) (tb σ H1 Q)) : tOrV ta tb σ H Q := q
theorem notV (q : ta σ H fun x H1 => BV x H1 fun c H1 => Q (.bl (!c)) H1) : tNotV ta σ H Q := q
/-- or, and as values, both sides looked at without a change: one answer for what follows -/
noncomputable def tOrW (ta tb : TE) : TE := tOrV ta tb
noncomputable def tAndW (ta tb : TE) : TE := tAndV ta tb
noncomputable def OrP (c : Bool) (tb : TE) (σ : L2.St) (H : Hp) (Q : VK) : Prop := if c = true then Q (.bl true) H else tb σ H Q
noncomputable def AndP (c : Bool) (tb : TE) (σ : L2.St) (H : Hp) (Q : VK) : Prop := if c = true then tb σ H Q else Q (.bl false) H
theorem orW (q : ta σ H fun x H1 => BV x H1 fun c H1 => OrP c tb σ H1 Q) : tOrW ta tb σ H Q := q
theorem andW (q : ta σ H fun x H1 => BV x H1 fun c H1 => AndP c tb σ H1 Q) : tAndW ta tb σ H Q := q
/-- methods of texts -/
noncomputable def M1P (te : TE) (r : V → List V → Hp → VK → Prop) (σ : L2.St) (x : V) (H : Hp) (Q : VK) : Prop := (∃ a, x = .str a) ∧ te σ H fun y H2 => r x [y] H2 Q
theorem m1 {r : V → List V → Hp → VK → Prop} (q : ta σ H fun x H1 => M1P te r σ x H1 Q) : tM1 r ta te σ H Q := q
theorem m1s {r : V → List V → Hp → VK → Prop} {z : Str} (q : te σ H fun y H2 => r (.str z) [y] H2 Q) : M1P te r σ (.str z) H Q := ⟨⟨z, rfl⟩, q⟩
/-- argument lists, displays -/
theorem nil {R : List V → Hp → Prop} (q : R [] H) : tNil σ H R := q
theorem cons {R : List V → Hp → Prop} (q : ta σ H fun x H1 => tr σ H1 fun xs H2 => R (x :: xs) H2) : tCons ta tr σ H R := q
/-- a new object -/
noncomputable def NewP (H : Hp) (o : HO) (Q : VK) : Prop := ∀ p, H p = none → Q (.ref p) (upd H p o)
noncomputable def LstP (xs : List V) (H : Hp) (Q : VK) : Prop := xs.length ≤ sizeLine ∧ NewP H (.lst xs) Q
noncomputable def TupP (xs : List V) (H : Hp) (Q : VK) : Prop := xs.length ≤ sizeLine ∧ NewP H (.tup xs) Q
theorem lst (q : tr σ H fun xs H1 => LstP xs H1 Q) : tLst tr σ H Q := q
theorem tup (q : tr σ H fun xs H1 => TupP xs H1 Q) : tTup tr σ H Q := q
theorem lstP {xs : List V} (h : xs.length ≤ sizeLine) (q : ∀ p, H p = none → Q (.ref p) (upd H p (.lst xs))) : LstP xs H Q := ⟨h, q⟩
theorem tupP {xs : List V} (h : xs.length ≤ sizeLine) (q : ∀ p, H p = none → Q (.ref p) (upd H p (.tup xs))) : TupP xs H Q := ⟨h, q⟩
/-- calls -/
noncomputable def CP (sp : Sp) (vs dvs : List V) (H : Hp) (Q : VK) (E : XK) : Prop := sp (vs ++ dvs) H Q E
theorem call {sp : Sp} {dvs : List V} {E : XK} (q : tr σ H fun vs H1 => CP sp vs dvs H1 Q E) : tCall sp dvs E tr σ H Q := q
theorem cb {r : List V → Hp → VK → Prop} (q : tr σ H fun vs H1 => r vs H1 Q) : tCB r tr σ H Q := q
/-- statements -/
theorem seq (q : tu { D with nx := tw D } σ H) : tSeq tu tw D σ H := q
theorem next (q : D.nx σ H) : tNext D σ H := q
theorem ret (q : te σ H D.rt) : tRet te D σ H := q
theorem retN (q : D.rt .non H) : tRetN D σ H := q
theorem drop (q : te σ H fun _ H1 => D.nx σ H1) : tDrop te D σ H := q
theorem asg {g : TG} (q : te σ H fun x H1 => g x σ H1 D.nx) : tAsg te g D σ H := q
theorem name {i : Nat} {R : L2.St → Hp → Prop} (q : R (σ.set i (some v)) H) : gName i v σ H R := q
theorem ifs {c : TT} (q : c σ H fun b H1 => IfP b (tu D σ H1) (tw D σ H1)) : tIfS c tu tw D σ H := q
theorem brk (q : D.bk σ H) : tBreak D σ H := q
theorem cnt (q : D.ct σ H) : tCont D σ H := q
noncomputable def AugP (i : Nat) (x y : V) (ip : TIp) (D : Ends) (σ : L2.St) (H : Hp) : Prop := ip x y H fun z H2 => D.nx (σ.set i (some z)) H2
theorem aug {i : Nat} {tip : TIp} (h : σ[i]? = some (some x)) (q : te σ H fun y H1 => AugP i x y tip D σ H1) : tAug i te tip D σ H := ⟨x, h, q⟩
theorem augI {n : Nat} {f : Int → Int → Int} (q : D.nx (σ.set n (some (.int (f i j)))) H) : AugP n (.int i) (.int j) (ipI f) D σ H := ⟨i, j, rfl, rfl, q⟩
/-- loops: what walks (FW), for a range -/
noncomputable def FW (J : It) (g : TG) (tb : TS) (D : Ends) (σ : L2.St) (H : Hp) : Prop := ∃ W : Nat → Nat → L2.St → Hp → Prop, (∃ m, W 0 m σ H) ∧ ∀ i m σ H, W i m σ H →
  (J.stop i H ∧ D.nx σ H) ∨ (J.go i H ∧ ∃ N : L2.St → Hp → Prop, (∀ σ' H', N σ' H' → ∃ m', m' < m ∧ W (i + 1) m' σ' H') ∧ ∀ x H', J.yld i H x H' → g x σ H' fun σ2 H2 => tb { D with nx := N, ct := N, bk := D.nx } σ2 H2)
theorem for_ {wi : TI} {g : TG} (q : wi σ H fun J H1 => FW J g tu D σ H1) : tFor wi g tu D σ H := q
noncomputable def R1P (vs : List V) (H : Hp) (R : It → Hp → Prop) : Prop := ∃ j : Int, vs = [.int j] ∧ -(2 ^ 62) ≤ j ∧ j < 2 ^ 62 ∧ R (Itr 0 j.toNat) H
noncomputable def R2P (vs : List V) (H : Hp) (R : It → Hp → Prop) : Prop := ∃ i j : Int, vs = [.int i, .int j] ∧ (-(2 ^ 62) ≤ i ∧ i < 2 ^ 62 ∧ -(2 ^ 62) ≤ j ∧ j < 2 ^ 62) ∧ R (Itr i (j - i).toNat) H
theorem rng1 {R : It → Hp → Prop} (q : tr σ H fun vs H1 => R1P vs H1 R) : iRng1 tr σ H R := q
theorem rng2 {R : It → Hp → Prop} (q : tr σ H fun vs H1 => R2P vs H1 R) : iRng2 tr σ H R := q
noncomputable def R3P (vs : List V) (H : Hp) (R : It → Hp → Prop) : Prop := ∃ (i j c : Int) (n : Nat), vs = [.int i, .int j, .int c] ∧ RgC i j c n ∧ R (Itc i c n) H
theorem rng3 {R : It → Hp → Prop} (q : tr σ H fun vs H1 => R3P vs H1 R) : iRng3 tr σ H R := q
theorem r3 {R : It → Hp → Prop} {c : Int} {n : Nat} (h : RgC i j c n) (q : R (Itc i c n) H) : R3P [.int i, .int j, .int c] H R := ⟨i, j, c, n, rfl, h, q⟩
theorem r1 {R : It → Hp → Prop} (h1 : -(2 ^ 62) ≤ j) (h2 : j < 2 ^ 62) (q : R (Itr 0 j.toNat) H) : R1P [.int j] H R := ⟨j, rfl, h1, h2, q⟩
theorem r2 {R : It → Hp → Prop} (h1 : -(2 ^ 62) ≤ i ∧ i < 2 ^ 62 ∧ -(2 ^ 62) ≤ j ∧ j < 2 ^ 62) (q : R (Itr i (j - i).toNat) H) : R2P [.int i, .int j] H R := ⟨i, j, rfl, h1, q⟩
theorem fwR {lo : Int} {n : Nat} {g : TG} (Pv : Nat → L2.St → Hp → Prop) (h0 : Pv 0 σ H) (hs : ∀ i σ H, i < n → Pv i σ H → g (.int (lo + i)) σ H fun σ2 H2 => tu { D with nx := Pv (i + 1), ct := Pv (i + 1), bk := D.nx } σ2 H2) (hd : ∀ σ H, Pv n σ H → D.nx σ H) :
    FW (Itr lo n) g tu D σ H := for_range Pv h0 hs hd
noncomputable def LP (K : PySem.W.Frag) (x : V) (H : Hp) (R : It → Hp → Prop) : Prop := ∃ a, x = .ref a ∧ (∃ xs, SqL K H a xs) ∧ R (Itl K a) H
theorem lwk {R : It → Hp → Prop} (q : te σ H fun x H1 => LP K x H1 R) : iList K te σ H R := q
theorem lp {a : Addr} {xs : List V} {R : It → Hp → Prop} (h : SqL K H a xs) (q : R (Itl K a) H) : LP K (.ref a) H R := ⟨a, rfl, ⟨xs, h⟩, q⟩
/-- built-in functions, under names of their own -/
noncomputable def rInt1 : List V → Hp → VK → Prop := fun xs H Q => (∃ i, xs = [.int i] ∧ Q (.int i) H) ∨ ∃ k, xs = [.bl k] ∧ Q (.int (if k then 1 else 0)) H
noncomputable def rAbs : List V → Hp → VK → Prop := fun xs H Q => ∃ i, xs = [.int i] ∧ Q (.int (if i < 0 then -i else i)) H
noncomputable def rStrI : List V → Hp → VK → Prop := fun xs H Q => ∃ i, xs = [.int i] ∧ i.natAbs.log2 < 1920 ∧ Q (.str (toString i)) H
noncomputable def rLen (K : PySem.W.Frag) : List V → Hp → VK → Prop := fun xs H Q => ∃ x n, xs = [x] ∧ LenV K x H n ∧ Q (.int n) H
theorem int1 (q : Q (.int i) H) : rInt1 [.int i] H Q := .inl ⟨i, rfl, q⟩
theorem intB {k : Bool} (q : Q (.int (if k then 1 else 0)) H) : rInt1 [.bl k] H Q := .inr ⟨k, rfl, q⟩
theorem abs1 (q : Q (.int (if i < 0 then -i else i)) H) : rAbs [.int i] H Q := ⟨i, rfl, q⟩
theorem strI (h : i.natAbs.log2 < 1920) (q : Q (.str (toString i)) H) : rStrI [.int i] H Q := ⟨i, rfl, h, q⟩
theorem lenL {p : Addr} {xs : List V} (h : SqL K H p xs) (q : Q (.int (xs.length : Nat)) H) : rLen K [.ref p] H Q := ⟨_, _, rfl, .inl ⟨_, h, rfl⟩, q⟩
/-- xs[i], s[i] -/
theorem ixL {p : Addr} {xs : List V} (h : SqL K H p xs) (ha : atI xs i = some v) (q : Q v H) : rIx K (.ref p) (.int i) H Q := .inl ⟨p, xs, i, v, rfl, rfl, h, ha, q⟩
theorem ixT {p : Addr} {xs : List V} (h : SqT K H p xs) (ha : atI xs i = some v) (q : Q v H) : rIx K (.ref p) (.int i) H Q := .inr (.inl ⟨p, xs, i, v, rfl, rfl, h, ha, q⟩)
theorem ixS {s : Str} {c : Nat} (h : s.length ≤ sizeLine) (ha : atI s.cps.toList i = some c) (q : Q (.str ⟨#[c]⟩) H) : rIx K (.str s) (.int i) H Q := .inr (.inr ⟨s, i, c, rfl, rfl, h, ha, q⟩)
/-- a, b = t -/
theorem gtup {n : Nat} {a : Addr} {xs : List V} {tg : TGs} {R : L2.St → Hp → Prop} (h : SqT K H a xs) (hl : xs.length = n) (q : tg xs σ H R) : gTup K n tg (.ref a) σ H R := ⟨a, xs, rfl, h, hl, q⟩
theorem gcons {g : TG} {tg : TGs} {xs : List V} {R : L2.St → Hp → Prop} (q : g v σ H fun σ' H' => tg xs σ' H' R) : gCons g tg (v :: xs) σ H R := ⟨v, xs, rfl, q⟩
theorem gnil {R : L2.St → Hp → Prop} (q : R σ H) : gNil [] σ H R := ⟨rfl, q⟩
/-- n.bit_length() -/
noncomputable def BiP (x : V) (H : Hp) (Q : VK) : Prop := ∃ i, x = .int i ∧ Q (.int (Builtin.Int.intBits i : Nat)) H
/-- o.f, o.f = v, o.m(..), C(..) -/
noncomputable def FP (K : PySem.W.Frag) (f : Str) (x : V) (H : Hp) (Q : VK) : Prop := ∃ a C dx fs v, x = .ref a ∧ H a = some (.ins C dx fs) ∧ Cls K C ∧ NoAttr K C f ∧ fs.lookup f = some v ∧ Q v H
theorem fld {f : Str} (q : ta σ H fun x H1 => FP K f x H1 Q) : tFld K ta f σ H Q := q
theorem fp {f : Str} {a C dx : Addr} {fs : List (Str × V)} (h : H a = some (.ins C dx fs)) (c : Cls K C) (n : NoAttr K C f) (l : fs.lookup f = some v) (q : Q v H) : FP K f (.ref a) H Q := ⟨a, C, dx, fs, v, rfl, h, c, n, l, q⟩
noncomputable def SFP (K : PySem.W.Frag) (f : Str) (y x : V) (D : Ends) (σ : L2.St) (H : Hp) : Prop := ∃ a C dx fs, x = .ref a ∧ H a = some (.ins C dx fs) ∧ Cls K C ∧ NoAttr K C f ∧ fs.length < 1000 ∧ D.nx σ (upd H a (.ins C dx (putF f y fs)))
theorem sfld {f : Str} (q : tv σ H fun y H1 => ta σ H1 fun x H2 => SFP K f y x D σ H2) : sFld K ta tv f D σ H := q
theorem sfp {f : Str} {a C dx : Addr} {fs gs : List (Str × V)} (h : H a = some (.ins C dx fs)) (c : Cls K C) (n : NoAttr K C f) (l : fs.length < 1000) (e : putF f y fs = gs) (q : D.nx σ (upd H a (.ins C dx gs))) : SFP K f y (.ref a) D σ H := ⟨a, C, dx, fs, rfl, h, c, n, l, by rw [e]; exact q⟩
theorem few {f : Str} {v : V} : ∀ {fs : List (Str × V)} {k : Nat}, fs.length ≤ k → (putF f v fs).length ≤ k + 1
  | [], k, _ => Nat.succ_le_succ (Nat.zero_le k)
  | (g, u) :: r, k, h => by
    unfold putF
    split
    · exact Nat.le_succ_of_le h
    · cases k with
      | zero => cases h
      | succ k => exact Nat.succ_le_succ (few (Nat.le_of_succ_le_succ h))
noncomputable def MP (C : Addr) (m : Str) (sp : Sp) (dvs : List V) (E : XK) (t : TA) (σ : L2.St) (x : V) (H : Hp) (Q : VK) : Prop := ∃ a dx fs, x = .ref a ∧ H a = some (.ins C dx fs) ∧ fs.lookup m = none ∧ t σ H fun vs H2 => sp (x :: (vs ++ dvs)) H2 Q E
theorem meth {C : Addr} {m : Str} {sp : Sp} {dvs : List V} {E : XK} (q : ta σ H fun x H1 => MP C m sp dvs E tr σ x H1 Q) : tMeth C m sp dvs E ta tr σ H Q := q
theorem mp {C a dx : Addr} {m : Str} {sp : Sp} {dvs : List V} {E : XK} {fs : List (Str × V)} (h : H a = some (.ins C dx fs)) (n : fs.lookup m = none) (q : tr σ H fun vs H2 => CP sp (.ref a :: vs) dvs H2 Q E) : MP C m sp dvs E tr σ (.ref a) H Q := ⟨a, dx, fs, rfl, h, n, q⟩
noncomputable def MkP (C : Addr) (sp : Sp) (vs dvs : List V) (H : Hp) (Q : VK) (E : XK) : Prop := ∀ x dx, H x = none → H dx = none → dx ≠ x → CP sp (.ref x :: vs) dvs (upd (upd H dx (.own x)) x (.ins C dx [])) (fun v H2 => v = .non ∧ Q (.ref x) H2) E
theorem make {C : Addr} {sp : Sp} {dvs : List V} {E : XK} (q : tr σ H fun vs H1 => MkP C sp vs dvs H1 Q E) : tMake C sp dvs E tr σ H Q := q
noncomputable def AgP (tip : TIp) (tset : TSet) (o i x y : V) (D : Ends) (σ : L2.St) (H : Hp) : Prop := tip x y H fun z H5 => tset o i z H5 fun H6 => D.nx σ H6
theorem augS {tget : V → V → Hp → VK → Prop} {tip : TIp} {tset : TSet} (q : to σ H fun o H1 => ti σ H1 fun i H2 => tget o i H2 fun x H3 => te σ H3 fun y H4 => AgP tip tset o i x y D σ H4) : tAugS to ti te tget tip tset D σ H := q
/-- o[i] = v -/
noncomputable def SbP (ti : TE) (t : TSet) (v : V) (σ : L2.St) (o : V) (H : Hp) (R : L2.St → Hp → Prop) : Prop := ti σ H fun i H2 => t o i v H2 fun H3 => R σ H3
theorem sub {ts : TSet} {R : L2.St → Hp → Prop} (q : to σ H fun o H1 => SbP ti ts v σ o H1 R) : gSub to ti ts v σ H R := q
theorem sbp {ts : TSet} {R : L2.St → Hp → Prop} (q : ti σ H fun i H2 => ts x i v H2 fun H3 => R σ H3) : SbP ti ts v σ x H R := q
/-- slices -/
noncomputable def PtP (x : V) (H : Hp) (R : Option Int → Hp → Prop) : Prop := ∃ i, x = .int i ∧ R (some i) H
theorem slc {r : V → Option Int → Option Int → Hp → VK → Prop} {tl th : TO} (q : te σ H fun x H1 => tl σ H1 fun a H2 => th σ H2 fun b H3 => r x a b H3 Q) : tSl r te tl th σ H Q := q
theorem noP {R : Option Int → Hp → Prop} (q : R none H) : tNoPart σ H R := q
theorem part {R : Option Int → Hp → Prop} (q : te σ H fun x H1 => PtP x H1 R) : tPart te σ H R := q
theorem ptp {R : Option Int → Hp → Prop} (q : R (some i) H) : PtP (.int i) H R := ⟨i, rfl, q⟩
theorem at_map {ns : List Int} {k : Nat} (h : k < ns.length) : atI (ns.map V.int) (k : Int) = some (.int (ns.getD k 0)) := by
  refine atI_nat ?_
  rw [List.getElem?_map, List.getElem?_eq_getElem h]
  simp [List.getD_eq_getElem?_getD, List.getElem?_eq_getElem h]
/-- methods of built-in types -/
noncomputable def BmP (K : PySem.W.Frag) (T : String) (r : V → List V → Hp → VK → Prop) (t : TA) (σ : L2.St) (x : V) (H : Hp) (Q : VK) : Prop := tyV K T x H ∧ t σ H fun xs H2 => r x xs H2 Q
theorem bm {T : String} {r : V → List V → Hp → VK → Prop} (q : to σ H fun x H1 => BmP K T r tr σ x H1 Q) : tBM K T r to tr σ H Q := q
theorem bmS {T : String} {r : V → List V → Hp → VK → Prop} (h : tyV K T x H) (q : tr σ H fun xs H2 => r x xs H2 Q) : BmP K T r tr σ x H Q := ⟨h, q⟩
theorem app {l : Addr} {xs : List V} (h : H l = some (.lst xs)) (hz : xs.length < sizeLine) (q : Q .non (upd H l (.lst (xs ++ [y])))) : rAppend (.ref l) [y] H Q := ⟨l, xs, y, rfl, rfl, h, hz, q⟩
theorem tyL {p : Addr} {xs : List V} (h : SqL K H p xs) : tyV K "list" (.ref p) H := .inl ⟨rfl, _, h⟩
/-- while: a word that falls -/
noncomputable def WhI (W : Nat → L2.St → Hp → Prop) (m : Nat) (tb : TS) (D : Ends) (σ : L2.St) (b : Bool) (H : Hp) : Prop :=
  if b = true then ∃ N : L2.St → Hp → Prop, (∀ σ' H', N σ' H' → ∃ m', m' < m ∧ W m' σ' H') ∧ tb { D with nx := N, ct := N, bk := D.nx } σ H else D.nx σ H
theorem whI_t {W : Nat → L2.St → Hp → Prop} {m : Nat} (q : tu { D with nx := fun σ' H' => ∃ m', m' < m ∧ W m' σ' H', ct := fun σ' H' => ∃ m', m' < m ∧ W m' σ' H', bk := D.nx } σ H) : WhI W m tu D σ true H := by
  unfold WhI; rw [if_pos rfl]; exact ⟨_, fun _ _ h => h, q⟩
theorem whI_f {W : Nat → L2.St → Hp → Prop} {m : Nat} (q : D.nx σ H) : WhI W m tu D σ false H := by
  unfold WhI; rw [if_neg Bool.false_ne_true]; exact q
/-- any walk -/
theorem fw {J : It} {n : Nat} {G : Hp → Prop} {Y : Nat → Hp → V → Hp → Prop} {g : TG} (w : Walk J n G Y) (Pv : Nat → L2.St → Hp → Prop) (h0 : Pv 0 σ H) (hG : ∀ i σ H, i ≤ n → Pv i σ H → G H)
    (hs : ∀ i x σ H H', i < n → Pv i σ H → Y i H x H' → g x σ H' fun σ2 H2 => tu { D with nx := Pv (i + 1), ct := Pv (i + 1), bk := D.nx } σ2 H2) (hd : ∀ σ H, Pv n σ H → D.nx σ H) : FW J g tu D σ H := for_it w Pv h0 hG hs hd
noncomputable def StrP (x : V) (H : Hp) (R : It → Hp → Prop) : Prop := ∃ z, x = .str z ∧ R (Its z) H
theorem strw {R : It → Hp → Prop} (q : te σ H fun x H1 => StrP x H1 R) : iStr te σ H R := q
theorem strp {z : Str} {R : It → Hp → Prop} (q : R (Its z) H) : StrP (.str z) H R := ⟨z, rfl, q⟩
/-- comprehensions -/
noncomputable def LcP (J : It) (g : TG) (tt : TT) (te : TE) (vs : List Nat) (σ : L2.St) (Q : VK) (H1 : Hp) : Prop := ∀ D, H1 D = none → ∃ W : Nat → Nat → Hp → Prop, (∃ m, W 0 m (upd H1 D (.lst []))) ∧ ∀ i m H, W i m H →
  (J.stop i H ∧ Q (.ref D) H) ∨ (J.go i H ∧ ∃ Nx : Hp → Prop, (∀ H', Nx H' → ∃ m', m' < m ∧ W (i + 1) m' H') ∧ ∀ x H', J.yld i H x H' → g x (wipe σ vs) H' fun σ2 H2 => wipe σ2 vs = wipe σ vs ∧ tt σ2 H2 fun b H3 =>
    if b = true then te σ2 H3 fun y H4 => ∃ acc, H4 D = some (.lst acc) ∧ acc.length < sizeLine ∧ Nx (upd H4 D (.lst (acc ++ [y]))) else Nx H3)
theorem lc {wi : TI} {g : TG} {vs : List Nat} (q : wi σ H fun J H1 => LcP J g t te vs σ Q H1) : tLc wi g t te vs σ H Q := q
noncomputable def WP (A B : Prop) : Prop := A ∧ B
theorem wp (h : A1) (q : A2) : WP A1 A2 := ⟨h, q⟩
theorem yes (q : B true H) : tYes σ H B := q
theorem same_up {H H' : Hp} {p : Addr} {o : HO} (h : H p = none) (s : Same H H') : Same H (upd H' p o) := fun a u e => by rw [upd_ne (ne_of_none e h)]; exact s a u e
theorem same_new {H : Hp} {p : Addr} {o : HO} (h : H p = none) : Same H (upd H p o) := same_up h (Same.refl H)
theorem snoc {H : Hp} {p : Addr} {xs : List Int} {z : Int} : upd H p (.lst (xs.map V.int ++ [.int z])) p = some (.lst ((xs ++ [z]).map V.int)) := by rw [upd_same, List.map_append]; rfl
/-- a comprehension whose turns leave what stands: the list of the turns that are kept -/
theorem lcFil {J : It} {n : Nat} {G : Hp → Prop} {Y : Nat → Hp → V → Hp → Prop} {g : TG} {vs : List Nat} (w : Walk J n G Y) (hn : n < 16777216) (c : Nat → Bool) (f : Nat → V) (hG : ∀ H', Same H H' → G H') (hY : ∀ i H x H', Y i H x H' → Same H H')
    (hs : ∀ i x H1 H' (R : V → Hp → Prop) (R0 : Hp → Prop), i < n → Same H H1 → Y i H1 x H' → (c i = true → ∀ H4, Same H' H4 → R (f i) H4) → (c i = false → ∀ H4, Same H' H4 → R0 H4) →
      g x (wipe σ vs) H' fun σ2 H2 => WP (wipe σ2 vs = wipe σ vs) (t σ2 H2 fun b H3 => IfP b (te σ2 H3 R) (R0 H3)))
    (q : ∀ p H2, H p = none → Same H H2 → H2 p = some (.lst (((List.range n).filter c).map f)) → Q (.ref p) H2) : LcP J g t te vs σ Q H := fun p hp => by
  refine lc_it w (fun i H' => Same H H' ∧ H' p = some (.lst (((List.range i).filter c).map f))) ⟨same_new hp, upd_same⟩ (fun i H' _ h => hG H' h.1) (fun i x H1 H' hi h y => ?_) (fun H' h => q p H' hp h.1 h.2)
  obtain ⟨h1, h2⟩ := h
  have s1 := hY i H1 x H' y
  refine hs i x H1 H' _ _ hi h1 y (fun hc H4 s4 => ⟨_, s4 _ _ (s1 _ _ h2), ?_, same_up hp (h1.trans (s1.trans s4)), ?_⟩) (fun hc H4 s4 => ⟨h1.trans (s1.trans s4), ?_⟩)
  · rw [List.length_map]
    have := List.length_filter_le c (List.range i)
    rw [List.length_range] at this
    rw [sizeLine_eq]; omega
  · rw [upd_same, List.range_succ, List.filter_append, List.map_append, List.filter_cons, if_pos hc]; rfl
  · rw [List.range_succ, List.filter_append, List.map_append, List.filter_cons, if_neg (by rw [hc]; decide)]
    rw [s4 _ _ (s1 _ _ h2)]; simp
theorem lcMap {J : It} {n : Nat} {G : Hp → Prop} {Y : Nat → Hp → V → Hp → Prop} {g : TG} {vs : List Nat} (w : Walk J n G Y) (hn : n < 16777216) (f : Nat → V) (hG : ∀ H', Same H H' → G H') (hY : ∀ i H x H', Y i H x H' → Same H H')
    (hs : ∀ i x H1 H' (R : V → Hp → Prop) (R0 : Hp → Prop), i < n → Same H H1 → Y i H1 x H' → (∀ H4, Same H' H4 → R (f i) H4) →
      g x (wipe σ vs) H' fun σ2 H2 => WP (wipe σ2 vs = wipe σ vs) (t σ2 H2 fun b H3 => IfP b (te σ2 H3 R) (R0 H3)))
    (q : ∀ p H2, H p = none → Same H H2 → H2 p = some (.lst ((List.range n).map f)) → Q (.ref p) H2) : LcP J g t te vs σ Q H := by
  refine lcFil w hn (fun _ => true) f hG hY (fun i x H1 H' R R0 hi h1 y hr _ => hs i x H1 H' R R0 hi h1 y (hr rfl)) ?_
  rw [List.filter_eq_self.mpr (fun _ _ => rfl)]
  exact q
theorem sameFn {f : Nat → V} : ∀ i H x H', YFn f i H x H' → Same H H' := fun _ _ _ _ y => y.1 ▸ Same.refl _
theorem sameAt {xs : List V} : ∀ i H x H', YAt xs i H x H' → Same H H' := fun _ _ _ _ y => y.1 ▸ Same.refl _
/-- reversed ranges -/
noncomputable def RrP (a b : Int) (H : Hp) (R : It → Hp → Prop) : Prop := -(2 ^ 62) ≤ a ∧ a < 2 ^ 62 ∧ -(2 ^ 62) ≤ b ∧ b < 2 ^ 62 ∧ R (Itc (a + (((b - a).toNat : Nat) : Int) - 1) (-1) (b - a).toNat) H
noncomputable def Rg1P (x : V) (H : Hp) (R : Int → Int → Hp → Prop) : Prop := ∃ j, x = .int j ∧ R 0 j H
theorem rrv {tr : L2.St → Hp → (Int → Int → Hp → Prop) → Prop} {R : It → Hp → Prop} (q : tr σ H fun a b H1 => RrP a b H1 R) : iRevR tr σ H R := q
theorem rr {a b : Int} {R : It → Hp → Prop} (h : -(2 ^ 62) ≤ a ∧ a < 2 ^ 62 ∧ -(2 ^ 62) ≤ b ∧ b < 2 ^ 62) (q : R (Itc (a + (((b - a).toNat : Nat) : Int) - 1) (-1) (b - a).toNat) H) : RrP a b H R := ⟨h.1, h.2.1, h.2.2.1, h.2.2.2, q⟩
theorem rg1 {R : Int → Int → Hp → Prop} (q : ta σ H fun x H1 => Rg1P x H1 R) : tRg1 ta σ H R := q
theorem rg1p {R : Int → Int → Hp → Prop} (q : R 0 j H) : Rg1P (.int j) H R := ⟨j, rfl, q⟩
/-- int of a text, order of texts -/
noncomputable def rIntS : List V → Hp → VK → Prop := fun xs H Q => ∃ a n, xs = [.str a] ∧ PySem.intText? a = some n ∧ a.length ≤ 640 ∧ Q (.int n) H
theorem intS {a : Str} {n : Int} (h : PySem.intText? a = some n) (hl : a.length ≤ 640) (q : Q (.int n) H) : rIntS [.str a] H Q := ⟨a, n, rfl, h, hl, q⟩
noncomputable def rLtS : R2 := fun x y H Q => ∃ i j, x = .str i ∧ y = .str j ∧ Q (.bl (decide (i.cps.toList < j.cps.toList))) H
theorem ltS {a b : Str} (q : Q (.bl (decide (a.cps.toList < b.cps.toList))) H) : rLtS (.str a) (.str b) H Q := ⟨a, b, rfl, rfl, q⟩
theorem eqB {p q' : Bool} : decide (V.bl p = V.bl q') = decide (p = q') := by simp
theorem eqvB {a b : Bool} (q : Q (.bl (decide (a = b))) H) : rEq (.bl a) (.bl b) H Q := eqv (by rw [eqB]; exact q)
noncomputable def rMin2 : List V → Hp → VK → Prop := fun xs H Q => ∃ i j, xs = [.int i, .int j] ∧ Q (.int (if j < i then j else i)) H
theorem min2 (q : Q (.int (if j < i then j else i)) H) : rMin2 [.int i, .int j] H Q := ⟨i, j, rfl, q⟩
theorem notin_ints {z : Int} : ∀ xs : List Int, (∀ y ∈ xs, y ≠ z) → inV (.int z) (xs.map V.int) = false
  | [], _ => rfl
  | y :: xs, h => by
    have ih := notin_ints xs fun u hu => h u (List.mem_cons_of_mem _ hu)
    unfold inV at *
    rw [List.map_cons, List.any_cons, ih, Bool.or_false]
    show (y == z) = false
    exact beq_eq_false_iff_ne.mpr (h y List.mem_cons_self)
theorem inT {p : Addr} {xs : List V} {neg : Bool} (h : SqT K H p xs) (f : xs.all flatV = true) (q : Q (.bl (if neg then !inV (.int i) xs else inV (.int i) xs)) H) : rIn K neg (.int i) (.ref p) H Q := ⟨p, xs, rfl, .inr h, rfl, f, q⟩
/-- == of lists of ints -/
theorem eqvAll_int : ∀ xs ys : List Int, PyData.eqvAll (xs.map .int) (ys.map .int) = decide (xs = ys)
  | [], [] => by simp [PyData.eqvAll]
  | [], _ :: _ => by simp [PyData.eqvAll]
  | _ :: _, [] => by simp [PyData.eqvAll]
  | x :: xs, y :: ys => by
    simp only [List.map_cons, PyData.eqvAll, PyData.eqv, eqvAll_int xs ys]
    by_cases h : x = y
    · subst h; simp
    · simp [h]
theorem canLay_ints : ∀ xs : List Int, PyData.canLayAll0 (xs.map .int) = true
  | [] => rfl
  | _ :: xs => by simp [PyData.canLayAll0, PyData.canLay0, canLay_ints xs]
theorem depth_ints : ∀ xs : List Int, PyData.depthAll (xs.map .int) = 0
  | [] => rfl
  | _ :: xs => by simp [PyData.depthAll, PyData.depth, depth_ints xs]
theorem dpAll_int : ∀ xs : List Int, DpAll K H (xs.map V.int) (xs.map PyData.int)
  | [] => .nil
  | x :: xs => .cons (.int x) (dpAll_int xs)
theorem sumP {p : Addr} {ns : List Int} (h : SqL K H p (ns.map V.int)) (q : Q (.int ns.sum) H) : L2.rSum K [.ref p] H Q := ⟨p, ns, rfl, h, q⟩
noncomputable def rList (K : PySem.W.Frag) : List V → Hp → VK → Prop := fun xs H Q => ∃ p ys, xs = [.ref p] ∧ (SqL K H p ys ∨ SqT K H p ys) ∧ ∀ l, H l = none → Q (.ref l) (upd H l (.lst ys))
theorem listL {p : Addr} {xs : List V} (h : SqL K H p xs) (q : ∀ l, H l = none → Q (.ref l) (upd H l (.lst xs))) : rList K [.ref p] H Q := ⟨p, xs, rfl, .inl h, q⟩
theorem cat {l b : Addr} {xs zs : List V} (h1 : H l = some (.lst xs)) (h2 : H b = some (.lst zs)) (hz : xs.length + zs.length ≤ sizeLine) (q : ∀ p, H p = none → Q (.ref p) (upd H p (.lst (xs ++ zs)))) : rCat (.ref l) (.ref b) H Q := ⟨l, b, xs, zs, rfl, rfl, h1, h2, hz, q⟩
noncomputable def TwP (K : PySem.W.Frag) (x : V) (H : Hp) (R : It → Hp → Prop) : Prop := ∃ a, x = .ref a ∧ (∃ xs, SqT K H a xs) ∧ R (Itt K a) H
theorem twk {R : It → Hp → Prop} (q : te σ H fun x H1 => TwP K x H1 R) : iTup K te σ H R := q
/-- a list of tuples of ints -/
noncomputable def TL (H : Hp) (l : Addr) (n : Nat) (f : Nat → List Int) : Prop := ∃ ps : List Addr, H l = some (.lst (ps.map V.ref)) ∧ ps.length = n ∧ ∀ j a, ps[j]? = some a → H a = some (.tup ((f j).map V.int))
theorem TL.keep {H' : Hp} {l : Addr} {n : Nat} {f : Nat → List Int} (t : TL H l n f) (s : Same H H') : TL H' l n f := by
  obtain ⟨ps, h1, h2, h3⟩ := t
  exact ⟨ps, s _ _ h1, h2, fun j a e => s _ _ (h3 j a e)⟩
theorem TL.nil {l : Addr} {f : Nat → List Int} (h : H l = some (.lst [])) : TL H l 0 f := ⟨[], h, rfl, fun j a e => by cases e⟩
theorem TL.snoc {l t : Addr} {n : Nat} {f : Nat → List Int} (x : TL H l n f) (h : H t = some (.tup ((f n).map V.int))) : ∃ xs, H l = some (.lst xs) ∧ xs.length = n ∧ TL (upd H l (.lst (xs ++ [.ref t]))) l (n + 1) f := by
  obtain ⟨ps, h1, h2, h3⟩ := x
  have ne : ∀ {a : Addr} {ys : List V}, H a = some (.tup ys) → a ≠ l := fun e => ne_of e h1 (by intro z; cases z)
  refine ⟨_, h1, by rw [List.length_map]; exact h2, ps ++ [t], by rw [upd_same, List.map_append]; rfl, by rw [List.length_append, h2]; rfl, fun j a e => ?_⟩
  by_cases hj : j < ps.length
  · rw [List.getElem?_append_left hj] at e
    rw [upd_ne (ne (h3 j a e))]; exact h3 j a e
  · rw [List.getElem?_append_right (by omega)] at e
    have hj2 : j - ps.length = 0 := by
      rcases Nat.eq_zero_or_pos (j - ps.length) with z | z
      · exact z
      · rw [List.getElem?_eq_none (by show 1 ≤ _; omega)] at e; cases e
    rw [hj2] at e
    have e2 : t = a := Option.some.inj e
    subst e2
    rw [upd_ne (ne h), show j = n by omega]; exact h
theorem TL.len {l : Addr} {n : Nat} {f : Nat → List Int} (x : TL H l n f) : ∃ xs, H l = some (.lst xs) ∧ xs.length = n := by
  obtain ⟨ps, h1, h2, h3⟩ := x
  exact ⟨_, h1, by rw [List.length_map]; exact h2⟩
theorem TL.get {l : Addr} {n j : Nat} {f : Nat → List Int} (x : TL H l n f) (hj : j < n) : ∃ xs a, H l = some (.lst xs) ∧ atI xs (j : Int) = some (.ref a) ∧ H a = some (.tup ((f j).map V.int)) := by
  obtain ⟨ps, h1, h2, h3⟩ := x
  have hj2 : j < ps.length := by omega
  refine ⟨_, ps[j], h1, atI_nat ?_, h3 j _ (List.getElem?_eq_getElem hj2)⟩
  rw [List.getElem?_map, List.getElem?_eq_getElem hj2]; rfl
theorem dp_tups : ∀ (ps : List Addr) (g : Nat → List Int), (∀ j a, ps[j]? = some a → H a = some (.tup ((g j).map V.int))) → DpAll K H (ps.map V.ref) ((List.range ps.length).map fun j => PyData.tuple ((g j).map PyData.int))
  | [], _, _ => .nil
  | a :: ps, g, h => by
    rw [List.length_cons, List.range_succ_eq_map, List.map_cons, List.map_cons, List.map_map]
    exact .cons (.tup (SqT.of (h 0 a rfl)) (dpAll_int _)) (dp_tups ps (fun j => g (j + 1)) fun j b e => h (j + 1) b (by simpa using e))
theorem TL.dp {l : Addr} {n : Nat} {f : Nat → List Int} (x : TL H l n f) : Dp K H (.ref l) (.list (((List.range n).map f).map fun r => PyData.tuple (r.map PyData.int))) := by
  obtain ⟨ps, h1, h2, h3⟩ := x
  have := dp_tups (K := K) ps f h3
  rw [h2] at this
  rw [List.map_map]
  exact .lst (SqL.of h1) this
/-- a list of lists of ints -/
noncomputable def LL (H : Hp) (l : Addr) (n : Nat) (f : Nat → List Int) : Prop := ∃ ps : List Addr, H l = some (.lst (ps.map V.ref)) ∧ ps.length = n ∧ ∀ j a, ps[j]? = some a → H a = some (.lst ((f j).map V.int))
theorem LL.keep {H' : Hp} {l : Addr} {n : Nat} {f : Nat → List Int} (t : LL H l n f) (s : Same H H') : LL H' l n f := by
  obtain ⟨ps, h1, h2, h3⟩ := t
  exact ⟨ps, s _ _ h1, h2, fun j a e => s _ _ (h3 j a e)⟩
theorem LL.nil {l : Addr} {f : Nat → List Int} (h : H l = some (.lst [])) : LL H l 0 f := ⟨[], h, rfl, fun j a e => by cases e⟩
theorem LL.snoc {l t : Addr} {n : Nat} {f : Nat → List Int} (x : LL H l n f) (h : H t = some (.lst ((f n).map V.int))) (ne : t ≠ l) : ∃ xs, H l = some (.lst xs) ∧ xs.length = n ∧ LL (upd H l (.lst (xs ++ [.ref t]))) l (n + 1) f := by
  obtain ⟨ps, h1, h2, h3⟩ := x
  have nl : ∀ {j : Nat} {a : Addr}, ps[j]? = some a → a ≠ l := fun {j a} e z => by
    have e2 := h3 j a e
    rw [z, h1] at e2
    have e3 : ps.map V.ref = (f j).map V.int := by injection e2 with e2; injection e2
    cases hp : ps with
    | nil => rw [hp] at e; cases e
    | cons b r =>
      rw [hp] at e3
      cases hf : f j with
      | nil => rw [hf] at e3; cases e3
      | cons z zs => rw [hf] at e3; injection e3 with e4; cases e4
  refine ⟨_, h1, by rw [List.length_map]; exact h2, ps ++ [t], by rw [upd_same, List.map_append]; rfl, by rw [List.length_append, h2]; rfl, fun j a e => ?_⟩
  by_cases hj : j < ps.length
  · rw [List.getElem?_append_left hj] at e
    rw [upd_ne (nl e)]; exact h3 j a e
  · rw [List.getElem?_append_right (by omega)] at e
    have hj2 : j - ps.length = 0 := by
      rcases Nat.eq_zero_or_pos (j - ps.length) with z | z
      · exact z
      · rw [List.getElem?_eq_none (by show 1 ≤ _; omega)] at e; cases e
    rw [hj2] at e
    have e2 : t = a := Option.some.inj e
    subst e2
    rw [upd_ne ne, show j = n by omega]; exact h
theorem LL.len {l : Addr} {n : Nat} {f : Nat → List Int} (x : LL H l n f) : ∃ xs, H l = some (.lst xs) ∧ xs.length = n := by
  obtain ⟨ps, h1, h2, h3⟩ := x
  exact ⟨_, h1, by rw [List.length_map]; exact h2⟩
theorem LL.all {l : Addr} {n : Nat} {f : Nat → List Int} (x : LL H l n f) : ∃ xs, H l = some (.lst xs) ∧ xs.length = n ∧ ∀ j v, xs[j]? = some v → ∃ a, v = .ref a ∧ H a = some (.lst ((f j).map V.int)) := by
  obtain ⟨ps, h1, h2, h3⟩ := x
  refine ⟨_, h1, by rw [List.length_map]; exact h2, fun j v e => ?_⟩
  rw [List.getElem?_map] at e
  cases ea : ps[j]? with
  | none => rw [ea] at e; cases e
  | some a => rw [ea] at e; exact ⟨a, (Option.some.inj e).symm, h3 j a ea⟩
theorem LL.get {l : Addr} {n j : Nat} {f : Nat → List Int} (x : LL H l n f) (hj : j < n) : ∃ xs a, H l = some (.lst xs) ∧ atI xs (j : Int) = some (.ref a) ∧ H a = some (.lst ((f j).map V.int)) := by
  obtain ⟨ps, h1, h2, h3⟩ := x
  have hj2 : j < ps.length := by omega
  refine ⟨_, ps[j], h1, atI_nat ?_, h3 j _ (List.getElem?_eq_getElem hj2)⟩
  rw [List.getElem?_map, List.getElem?_eq_getElem hj2]; rfl
theorem LL.congr {l : Addr} {n : Nat} {f g : Nat → List Int} (x : LL H l n f) (h : ∀ j, j < n → f j = g j) : LL H l n g := by
  obtain ⟨ps, h1, h2, h3⟩ := x
  refine ⟨ps, h1, h2, fun j a e => ?_⟩
  have hj : j < ps.length := by
    rcases Nat.lt_or_ge j ps.length with z | z
    · exact z
    · rw [List.getElem?_eq_none z] at e; cases e
  rw [← h j (by omega)]; exact h3 j a e
theorem dp_lists : ∀ (ps : List Addr) (g : Nat → List Int), (∀ j a, ps[j]? = some a → H a = some (.lst ((g j).map V.int))) → DpAll K H (ps.map V.ref) ((List.range ps.length).map fun j => PyData.list ((g j).map PyData.int))
  | [], _, _ => .nil
  | a :: ps, g, h => by
    rw [List.length_cons, List.range_succ_eq_map, List.map_cons, List.map_cons, List.map_map]
    exact .cons (.lst (SqL.of (h 0 a rfl)) (dpAll_int _)) (dp_lists ps (fun j => g (j + 1)) fun j b e => h (j + 1) b (by simpa using e))
theorem lay_lists : ∀ rows : List (List Int), PyData.canLayAll0 (rows.map fun r => PyData.list (r.map PyData.int)) = true ∧ PyData.depthAll (rows.map fun r => PyData.list (r.map PyData.int)) ≤ 1 ∧ PyData.eqvAll (rows.map fun r => PyData.list (r.map PyData.int)) (rows.map fun r => PyData.list (r.map PyData.int)) = true
  | [] => ⟨rfl, by simp [PyData.depthAll], by simp [PyData.eqvAll]⟩
  | r :: rows => by
    obtain ⟨h1, h2, h3⟩ := lay_lists rows
    refine ⟨by simp [PyData.canLayAll0, PyData.canLay0, canLay_ints, h1], ?_, ?_⟩
    · simp only [List.map_cons, PyData.depthAll, PyData.depth, depth_ints]; omega
    · simp [PyData.eqvAll, PyData.eqv, eqvAll_int, h3]
theorem LL.dp {l : Addr} {n : Nat} {f : Nat → List Int} (x : LL H l n f) : Dp K H (.ref l) (.list (((List.range n).map f).map fun r => PyData.list (r.map PyData.int))) := by
  obtain ⟨ps, h1, h2, h3⟩ := x
  have := dp_lists (K := K) ps f h3
  rw [h2] at this
  rw [List.map_map]
  exact .lst (SqL.of h1) this
theorem shaped_lists (rows : List (List Int)) : SeqAt.shaped (.list (rows.map fun r => PyData.list (r.map PyData.int))) = true := by
  obtain ⟨h1, h2, _⟩ := lay_lists rows
  unfold SeqAt.shaped
  simp only [PyData.canLay0, PyData.depth, h1, Bool.true_and]
  exact decide_eq_true (by omega)
/-- a comprehension whose turns make a list each -/
theorem lcLst {J : It} {n : Nat} {G : Hp → Prop} {Y : Nat → Hp → V → Hp → Prop} {g : TG} {vs : List Nat} (w : Walk J n G Y) (hn : n < 16777216) (f : Nat → List Int) (hG : ∀ H', Same H H' → G H') (hY : ∀ i H x H', Y i H x H' → Same H H')
    (hs : ∀ i x H1 H' (R : V → Hp → Prop) (R0 : Hp → Prop), i < n → Same H H1 → Y i H1 x H' → (∀ p H4, H' p = none → Same H' H4 → H4 p = some (.lst ((f i).map V.int)) → R (.ref p) H4) →
      g x (wipe σ vs) H' fun σ2 H2 => WP (wipe σ2 vs = wipe σ vs) (t σ2 H2 fun b H3 => IfP b (te σ2 H3 R) (R0 H3)))
    (q : ∀ p H2, H p = none → Same H H2 → LL H2 p n f → Q (.ref p) H2) : LcP J g t te vs σ Q H := fun p hp => by
  refine lc_it w (fun i H' => Same H H' ∧ LL H' p i f) ⟨same_new hp, LL.nil upd_same⟩ (fun i H' _ h => hG H' h.1) (fun i x H1 H' hi h y => ?_) (fun H' h => q p H' hp h.1 h.2)
  obtain ⟨h1, h2⟩ := h
  have s1 := hY i H1 x H' y
  refine hs i x H1 H' _ _ hi h1 y (fun a H4 hf s4 ha => ?_)
  obtain ⟨ys, hy, _⟩ := h2.len
  obtain ⟨xs, e1, e2, e3⟩ := (h2.keep (s1.trans s4)).snoc ha (ne_of_none (s1 _ _ hy) hf).symm
  exact ⟨xs, e1, by rw [sizeLine_eq]; omega, same_up hp (h1.trans (s1.trans s4)), e3⟩
theorem cutV_ints (xs : List Int) {b n : Nat} (h : b + n ≤ xs.length) : cutV (xs.map V.int) (some (b : Int)) (some ((b + n : Nat) : Int)) = ((xs.drop b).take n).map V.int := by
  unfold cutV
  rw [HT.sIx_nat, HT.sIx_nat, List.length_map, Nat.min_eq_left h, Nat.min_eq_left (show b ≤ xs.length by omega), Nat.add_sub_cancel_left, List.map_take, List.map_drop]
/-- a comprehension over two ranges -/
noncomputable def Lc2In (J1 : It) (g1 : TG) (tt1 : TT) (te : TE) (vs1 : List Nat) (D : Addr) (Nx : Hp → Prop) (σ2 : L2.St) (H4 : Hp) : Prop := ∃ W1 : Nat → Nat → Hp → Prop, (∃ m, W1 0 m H4) ∧ ∀ j k H, W1 j k H →
      (J1.stop j H ∧ Nx H) ∨ (J1.go j H ∧ ∃ Nx1 : Hp → Prop, (∀ H', Nx1 H' → ∃ k', k' < k ∧ W1 (j + 1) k' H') ∧ ∀ x H', J1.yld j H x H' → g1 x (wipe σ2 vs1) H' fun σ3 H5 => wipe σ3 vs1 = wipe σ2 vs1 ∧ tt1 σ3 H5 fun b H6 =>
        if b = true then te σ3 H6 fun y H7 => ∃ acc, H7 D = some (.lst acc) ∧ acc.length < sizeLine ∧ Nx1 (upd H7 D (.lst (acc ++ [y]))) else Nx1 H6)
noncomputable def Lc2P (J : It) (g : TG) (tt : TT) (wi1 : TI) (g1 : TG) (tt1 : TT) (te : TE) (vs vs1 : List Nat) (σ : L2.St) (Q : VK) (H1 : Hp) : Prop := ∀ D, H1 D = none → ∃ W : Nat → Nat → Hp → Prop, (∃ m, W 0 m (upd H1 D (.lst []))) ∧ ∀ i m H, W i m H →
  (J.stop i H ∧ Q (.ref D) H) ∨ (J.go i H ∧ ∃ Nx : Hp → Prop, (∀ H', Nx H' → ∃ m', m' < m ∧ W (i + 1) m' H') ∧ ∀ x H', J.yld i H x H' → g x (wipe σ vs) H' fun σ2 H2 => wipe σ2 vs = wipe σ vs ∧ tt σ2 H2 fun b H3 =>
    if b = true then wi1 σ2 H3 fun J1 H4 => Lc2In J1 g1 tt1 te vs1 D Nx σ2 H4 else Nx H3)
theorem lc2 {wi wi1 : TI} {g g1 : TG} {tt tt1 : TT} {vs vs1 : List Nat} (q : wi σ H fun J H1 => Lc2P J g tt wi1 g1 tt1 te vs vs1 σ Q H1) : tLc2 wi g tt wi1 g1 tt1 te vs vs1 σ H Q := q
/-- what is made after i whole turns of the outer walk -/
noncomputable def made (m : Nat) (f : Nat → Nat → V) (i : Nat) : List V := (List.range i).flatMap fun i => (List.range m).map (f i)
theorem made_len (m : Nat) (f : Nat → Nat → V) : ∀ i, (made m f i).length = i * m
  | 0 => by simp [made]
  | i + 1 => by
    have := made_len m f i
    unfold made at *
    rw [List.range_succ, List.flatMap_append, List.length_append, this, Nat.succ_mul]; simp
theorem made_succ (m : Nat) (f : Nat → Nat → V) (i : Nat) : made m f (i + 1) = made m f i ++ (List.range m).map (f i) := by
  unfold made
  rw [List.range_succ, List.flatMap_append]; simp
theorem lc2O {J : It} {n : Nat} {wi1 : TI} {g g1 : TG} {tt tt1 : TT} {vs vs1 : List Nat} {G : Hp → Prop} {Y : Nat → Hp → V → Hp → Prop} (w : Walk J n G Y) (Pv : Addr → Nat → Hp → Prop) (h0 : ∀ D, H D = none → Pv D 0 (upd H D (.lst []))) (hG : ∀ D i H', i ≤ n → Pv D i H' → G H')
    (hs : ∀ D i x H1 H', i < n → Pv D i H1 → Y i H1 x H' → g x (wipe σ vs) H' fun σ2 H2 => WP (wipe σ2 vs = wipe σ vs) (tt σ2 H2 fun b H3 => IfP b (wi1 σ2 H3 fun J1 H4 => Lc2In J1 g1 tt1 te vs1 D (Pv D (i + 1)) σ2 H4) (Pv D (i + 1) H3)))
    (hd : ∀ D H', H D = none → Pv D n H' → Q (.ref D) H') : Lc2P J g tt wi1 g1 tt1 te vs vs1 σ Q H := fun D hD => by
  refine ⟨fun i m H => m = n - i ∧ i ≤ n ∧ Pv D i H, ⟨n, by simp, Nat.zero_le _, h0 D hD⟩, ?_⟩
  rintro i m H' ⟨rfl, hi, p⟩
  have q := hG D i H' hi p
  by_cases hlt : i < n
  · refine .inr ⟨w.goes i H' hlt q, Pv D (i + 1), fun H' p' => ⟨n - (i + 1), by omega, rfl, hlt, p'⟩, fun x H2 y => hs D i x H' H2 hlt p (w.yields i H' x H2 hlt q y)⟩
  · have e : i = n := by omega
    subst e
    exact .inl ⟨w.stops H' q, hd D H' hD p⟩
theorem lc2I {J1 : It} {n : Nat} {g1 : TG} {tt1 : TT} {vs1 : List Nat} {D : Addr} {Nx : Hp → Prop} {G : Hp → Prop} {Y : Nat → Hp → V → Hp → Prop} (w : Walk J1 n G Y) (Pv : Nat → Hp → Prop) (h0 : Pv 0 H) (hG : ∀ i H', i ≤ n → Pv i H' → G H')
    (hs : ∀ i x H1 H', i < n → Pv i H1 → Y i H1 x H' → g1 x (wipe σ vs1) H' fun σ3 H5 => WP (wipe σ3 vs1 = wipe σ vs1) (tt1 σ3 H5 fun b H6 => IfP b (te σ3 H6 fun y H7 => ∃ acc, H7 D = some (.lst acc) ∧ acc.length < sizeLine ∧ Pv (i + 1) (upd H7 D (.lst (acc ++ [y])))) (Pv (i + 1) H6)))
    (hd : ∀ H', Pv n H' → Nx H') : Lc2In J1 g1 tt1 te vs1 D Nx σ H := by
  refine ⟨fun i m H => m = n - i ∧ i ≤ n ∧ Pv i H, ⟨n, by simp, Nat.zero_le _, h0⟩, ?_⟩
  rintro i m H' ⟨rfl, hi, p⟩
  have q := hG i H' hi p
  by_cases hlt : i < n
  · refine .inr ⟨w.goes i H' hlt q, Pv (i + 1), fun H' p' => ⟨n - (i + 1), by omega, rfl, hlt, p'⟩, fun x H2 y => hs i x H' H2 hlt p (w.yields i H' x H2 hlt q y)⟩
  · have e : i = n := by omega
    subst e
    exact .inl ⟨w.stops H' q, hd H' p⟩
theorem slL {a : Addr} {xs : List V} {lo hi : Option Int} (h : SqL K H a xs) (q : ∀ p, H p = none → Q (.ref p) (upd H p (.lst (cutV xs lo hi)))) : rSlL K (.ref a) lo hi H Q := ⟨a, xs, rfl, h, q⟩
end
section
variable {X : Cx}
theorem c_intS : CallR X (.type "int") rIntS := call_int_str
theorem c_min2 (hc : X.calm = true) : CallR X (.builtin "min") rMin2 := call_min2 hc
theorem c_listK {K : PySem.W.Frag} (h : X.K = K) : CallR X (.type "list") (rList K) := by subst h; exact call_list_of
theorem c_lenK {K : PySem.W.Frag} (h : X.K = K) : CallR X (.builtin "len") (rLen K) := by subst h; exact call_len
theorem ix_seqK {K : PySem.W.Frag} (h : X.K = K) : IxR X (rIx K) := by subst h; exact ix_seq
theorem sl_listK {K : PySem.W.Frag} (h : X.K = K) : SlR X (rSlL K) := by subst h; exact sl_list
theorem pe_fldK {K : PySem.W.Frag} {e : Expr} {ta : TE} {f : Str} {pos : Pos} (h : X.K = K) (he : PE X e ta) (hb : attributeBase e f X.env (eval e X.env) = eval e X.env) : PE X (.Attribute e f pos) (tFld K ta f) := by subst h; exact pe_fld he hb
theorem c_int : CallR X (.type "int") rInt1 := call_int1
theorem c_abs : CallR X (.builtin "abs") rAbs := call_abs
theorem c_strI : CallR X (.type "str") rStrI := call_str_int
end
end Gx
local macro_rules | `(tactic| walk_at "few") => `(tactic| (refine Nat.lt_of_le_of_lt (m := 30) ?_ (by decide); repeat (first | exact Nat.zero_le _ | refine Gx.few ?_)))
local macro_rules | `(tactic| walk_at "side") => `(tactic| ((try dsimp only [L2.CMul, L2.CDiv, L2.CPow, L2.CDivN]); first | omega | decide | assumption))
local macro_rules | `(tactic| walk_at "go1") => `(tactic| (first
  | with_reducible refine Gx.seq ?_
  | with_reducible refine Gx.asg ?_
  | with_reducible refine Gx.op ?_
  | ((with_reducible refine' Gx.var ?h0 ?_); (case h0 => rfl))
  | with_reducible refine Gx.cst ?_
  | with_reducible refine Gx.i0 ?_
  | with_reducible refine Gx.name ?_
  | with_reducible refine Gx.cons ?_
  | with_reducible refine Gx.nil ?_
  | with_reducible refine Gx.call ?_
  | with_reducible refine Gx.cb ?_
  | with_reducible refine Gx.int1 ?_
  | with_reducible refine Gx.intB ?_
  | with_reducible refine Gx.abs1 ?_
  | with_reducible refine Gx.un ?_
  | with_reducible refine Gx.uu ?_
  | with_reducible refine Gx.ifs ?_
  | with_reducible refine Gx.ifx ?_
  | with_reducible refine Gx.test ?_
  | with_reducible refine Gx.tB ?_
  | with_reducible refine Gx.tb_go ?_
  | with_reducible refine Gx.bv_go ?_
  | with_reducible refine Gx.and_ ?_
  | with_reducible refine Gx.or_ ?_
  | with_reducible refine Gx.not_ ?_
  | with_reducible refine Gx.andV ?_
  | with_reducible refine Gx.m1 ?_
  | with_reducible refine Gx.m1s ?_
  | with_reducible refine Gx.orW ?_
  | with_reducible refine Gx.andW ?_
  | with_reducible refine Gx.orV ?_
  | with_reducible refine Gx.notV ?_
  | with_reducible refine Gx.eqvI ?_
  | with_reducible refine Gx.nevI ?_
  | with_reducible refine Gx.eqvS ?_
  | with_reducible refine Gx.eqvB ?_
  | with_reducible refine Gx.ltS ?_
  | with_reducible refine Gx.nevS ?_
  | with_reducible refine Gx.ret ?_
  | with_reducible refine Gx.retN ?_
  | with_reducible refine Gx.drop ?_
  | with_reducible refine Gx.next ?_
  | with_reducible refine Gx.brk ?_
  | with_reducible refine Gx.cnt ?_
  | with_reducible refine Gx.if_t ?_
  | with_reducible refine Gx.if_f ?_
  | with_reducible refine Gx.if_nt ?_
  | with_reducible refine Gx.whI_t ?_
  | with_reducible refine Gx.whI_f ?_
  | with_reducible refine Gx.if_nf ?_
  | with_reducible refine Gx.for_ ?_
  | with_reducible refine Gx.rng1 ?_
  | with_reducible refine Gx.rng2 ?_
  | with_reducible refine Gx.rng3 ?_
  | with_reducible refine Gx.lwk ?_
  | with_reducible refine Gx.twk ?_
  | with_reducible refine Gx.lst ?_
  | with_reducible refine Gx.tup ?_
  | with_reducible refine Gx.bm ?_
  | with_reducible refine Gx.lc ?_
  | with_reducible refine Gx.lc2 ?_
  | with_reducible refine Gx.gcons ?_
  | with_reducible refine Gx.gnil ?_
  | with_reducible refine Gx.strw ?_
  | with_reducible refine Gx.strp ?_
  | with_reducible refine Gx.fld ?_
  | with_reducible refine Gx.sfld ?_
  | with_reducible refine Gx.meth ?_
  | with_reducible refine Gx.make ?_
  | with_reducible refine Gx.augS ?_
  | with_reducible refine Gx.sub ?_
  | with_reducible refine Gx.slc ?_
  | with_reducible refine Gx.noP ?_
  | with_reducible refine Gx.part ?_
  | with_reducible refine Gx.ptp ?_
  | with_reducible refine Gx.sbp ?_
  | ((with_reducible refine' Gx.wp ?h0 ?_); (case h0 => rfl))
  | with_reducible refine Gx.yes ?_
  | with_reducible refine Gx.rrv ?_
  | with_reducible refine Gx.rg1 ?_
  | with_reducible refine Gx.rg1p ?_
  | ((with_reducible refine' Gx.aug ?h0 ?_); (case h0 => rfl))
  | with_reducible refine Gx.augI ?_))
local macro_rules | `(tactic| walk_at "go") => `(tactic| repeat walk_at "go1")

/-! An own exception whose __init__ begins with super().__init__(e), its base chain ending at ValueError: the promise of that __init__. -/
namespace Sx
open PySem PySem.W PySem.Calls PyProof.Rows L2

/-- what the written part says of the class at C and of its __init__ at f -/
structure SupK (P : Program) (K : Frag) (mg : Str → Option Value) (C f : Addr) (fd : FuncData) (qual : Str) (st : Stmt) : Prop where
  ex : ∃ (oc : Value) (od : Option Addr) (kV doc pm ct : Value) (an : Option Addr) (cda cc : Addr) (osl : Array (Option Value)),
    fd = ksFn "__init__" qual (defArgs st) (defBody st) (defScope st) .none kV doc pm an (.ref cda) ct cc ∧ K.lookup f = some ⟨oc, od, .func fd, osl⟩ ∧ codeIn K (.ref cda) qual = true ∧
    (∃ (ccl : Value) (cdd : Option Addr) (vs : Array Value) (ccs : Array (Option Value)) (file : Str) (tf : Tok), K.lookup cda = some ⟨ccl, cdd, .fields vs, ccs⟩ ∧ vs[2]? = some (.str file tf) ∧ ((P.main.file : Str) == file) = true) ∧
    (∃ (cl : Value) (cld : Option Addr) (csl : Array (Option Value)), K.lookup cc = some ⟨cl, cld, .cell (some (.ref C)), csl⟩)
  top : (P.main.scope.names.lookup ("super" : Str)).isSome = false
  ns : mg "super" = none
  sub : mroIn K C (.ref C) = some true
  opq : nsIn K cStatics "thirdparty.any" = some none
  sup : ks_superIn K C C "__init__" = some (some (.builtin "ValueError.__init__"))
  isV : subIn K (.ref C) (.type "ValueError") = some true

/-- the scope of such an __init__ -/
structure SupScope (N P : List Str) (sc : Scope) : Prop where
  kind : sc.kind = .function
  co : sc.isCoroutine = false
  gen : sc.isGenerator = false
  nd : N.Nodup
  pre : N.take P.length = P
  par : ∀ x ∈ P, sc.names.lookup x = some .local
  nocell : ∀ y ∈ sc.names, y.2 ≠ .cell
  free : ∀ y ∈ sc.names, y.2 = .free → y.1 = "__class__"
  ks : sc.names.lookup ("super" : Str) = some .globalImplicit
  kc : sc.names.lookup ("__class__" : Str) = some .free

noncomputable def cxS (P : Program) (w : World) (K : Frag) (mg : Str → Option Value) (base : Heap) (N : List Str) (qual : Str) (scope : Scope) (f cda cc : Addr) (A : Around) (outer : List Env) (s : Shared) (H : Hp) : Cx where
  prog := P
  w := w
  K := K
  mg := mg
  base := base
  A := A.deeper (ksEnv qual scope s.heap.objs.size f (.ref cda) cc)
  N := N
  s_0 := s
  H_0 := H
  env := ksEnv qual scope s.heap.objs.size f (.ref cda) cc
  outer := outer
  stack := ksEnv qual scope s.heap.objs.size f (.ref cda) cc :: outer
  ex := []
  calm := true
  fn := fun _ => false
  pn := []
  xe := fun _ _ => False

theorem start_at {N : List Str} {vs : List V} {i : Nat} {v : V} (h : (L2.start N vs)[i]? = some (some v)) : vs[i]? = some v := by
  rcases Nat.lt_or_ge i vs.length with q | q
  · simpa [L2.start, List.getElem?_append, q] using h
  · simp [L2.start, List.getElem?_append, Nat.not_lt.mpr q, List.getElem?_replicate] at h
theorem inv_sup {P : Program} {w : World} {K : Frag} {mg : Str → Option Value} {base : Heap} {N ps : List Str} {qual : Str} {scope : Scope} {f cda cc C : Addr} {A : Around} {outer : List Env} {s : Shared} {H : Hp} {us : List Value} {vs : List V} {cl : Value} {cld : Option Addr} {csl : Array (Option Value)} {h1 : Heap} {t : Nat}
    (S : SupScope N ps scope) (hd : A.handled = none) (e0 : Env0 P w K mg base A outer s H) (hl : vs.length = ps.length) (r : Vals vs us) (hcc : K.lookup cc = some ⟨cl, cld, .cell (some (.ref C)), csl⟩)
    (hn : h1.Ns s.heap.objs.size (fun x => (ps.zip us).reverse.lookup x)) (hk : ∀ b o, s.heap.get? b = some o → h1.get? b = some o) :
    Inv (cxS P w K mg base N qual scope f cda cc A outer s H) [] (L2.start N vs) H { s with heap := h1, toks := t } := by
  have hpl : ps.length ≤ N.length := by have := congrArg List.length S.pre; rw [List.length_take] at this; omega
  have noA : ∀ b : Addr, b ∉ (cxS P w K mg base N qual scope f cda cc A outer s H).ex := fun b z => absurd (show b ∈ ([] : List Addr) from z) (by simp)
  have bcc : base.get? cc = some ⟨cl, cld, .cell (some (.ref C)), csl⟩ := e0.mod.kin _ _ hcc
  have one : ∀ {x : Str} {c : Addr}, ([(("__class__" : Str), cc)] : List (Str × Addr)).lookup x = some c → x = "__class__" ∧ c = cc := fun {x c} e => by
    by_cases hx : x = ("__class__" : Str)
    · subst hx
      simp [List.lookup] at e
      exact ⟨rfl, e.symm⟩
    · have hb : (x == ("__class__" : Str)) = false := beq_eq_false_iff_ne.mpr hx
      simp [List.lookup, hb] at e
  refine ⟨⟨e0.mod, S.kind, rfl, rfl, Nat.le_refl _, fun y z c h1 h2 => ?_, fun y hy => ?_, fun y c h _ => (Bool.noConfusion h), fun _ => hd, Around.frames_deeper e0.frames, .inr ⟨rfl, rfl⟩, fun b z => absurd z (noA b), e0.bs, e0.bsz, fun b _ _ => noA b, fun b z => absurd z (noA b), e0.funs, e0.frf⟩,
    rfl, e0.bare, Un.kept hk, ⟨_, hn, fun i y v h1 h2 h3 => ?_⟩, fun y c h => ⟨some (.ref C), ?_⟩, e0.hok.fresh (Nat.le_refl _), fun y c h => ?_, fun p hp => absurd (show p ∈ ([] : List (Addr × Obj)) from hp) (by simp), e0.hok.kept hk, ?_⟩
  · exact (one h1).1.trans (one h2).1.symm
  · have hy : scope.names.lookup y = some .cell ∨ scope.names.lookup y = some .free := hy
    rcases hy with hy | hy
    · exact absurd rfl (S.nocell _ (PySem.mem_of_lookup hy))
    · have := S.free _ (PySem.mem_of_lookup hy) rfl
      dsimp only at this
      subst this
      exact ⟨cc, rfl⟩
  · have ha := start_at h2
    have hi : i < vs.length := (List.getElem?_eq_some_iff.mp ha).1
    obtain ⟨u, hu, rv⟩ := r.get ha
    have hp : ps[i]? = some y := by
      rw [← S.pre, List.getElem?_take_of_lt (by omega)]; exact h1
    have ndP : ps.Nodup := by rw [← S.pre]; exact S.nd.sublist (List.take_sublist _ _)
    refine ⟨u, rv, .inl ⟨S.par y (List.mem_of_getElem? hp), ?_⟩⟩
    have hul : us.length = ps.length := by rw [← r.length]; exact hl
    show (ps.zip us).reverse.lookup y = some u
    have mem : (y, u) ∈ (ps.zip us).reverse := List.mem_reverse.mpr (List.mem_of_getElem? (i := i) (by rw [List.getElem?_zip_eq_some]; exact ⟨hp, hu⟩))
    have keys : ∀ v', (y, v') ∈ (ps.zip us).reverse → v' = u := fun v' hm => by
      rw [List.mem_reverse, List.mem_iff_getElem?] at hm
      obtain ⟨j, hj⟩ := hm
      rw [List.getElem?_zip_eq_some] at hj
      have hij : j = i := by
        have hjl : j < ps.length := (List.getElem?_eq_some_iff.mp hj.1).1
        have hil : i < ps.length := (List.getElem?_eq_some_iff.mp hp).1
        exact (List.getElem?_inj hjl ndP).mp (hj.1.trans hp.symm)
      rw [hij, hu] at hj
      exact (Option.some.inj hj.2).symm
    cases hlk : (ps.zip us).reverse.lookup y with
    | none =>
      exfalso
      have := List.lookup_eq_none_iff.mp hlk _ mem
      simp at this
    | some v' => rw [keys v' (PySem.mem_of_lookup hlk)]
  · obtain ⟨rfl, rfl⟩ := one h
    exact ⟨_, hk _ _ (e0.bs _ _ bcc).1, rfl⟩
  · obtain ⟨rfl, rfl⟩ := one h
    exact (e0.bs _ _ bcc).2
  · show (vs.map some ++ List.replicate (N.length - vs.length) none).length = N.length
    rw [List.length_append, List.length_map, List.length_replicate]; omega

/-- the method-wrapper called: the args are laid anew, nothing of it is told -/
theorem sup_call {X : Cx} {pins : List (Addr × Obj)} {σ : L2.St} {H : Hp} {s : Shared} {a u C : Addr} {us : List Value} {Q : Value → Shared → Prop} {A : Around} {E : Value → Shared → Prop} (T : OexC X.K C) (I : Inv X pins σ H s) (e : H a = some (exo a C none)) (hu : s.heap.get? u = some (kxs_mw "ValueError.__init__" a)) (hl : us.length ≤ sizeLine)
    (h : ∀ s', Inv X pins σ H s' → Q .none s') : wpAny (model X.prog X.w) A (call (.ref u) us) Q E s := by
  obtain ⟨nm, q, N, bs, bm, sn, sub, ab, col, dd, k0, k1, k2, k3, k5, hC, hbm⟩ := T.cls
  obtain ⟨t1, ho⟩ := exo_at I.hok e
  have hCh := I.kIn _ _ hC
  obtain ⟨hp, g, d, t, os⟩ := s
  have fin : ∀ h', (∀ b o, b ≠ a → hp.get? b = some o → h'.get? b = some o) → h'.get? a = some (excObj C hp.objs.size none .none) → h'.get? hp.objs.size = some (excTup us) → Q .none ⟨h', g, d, t, os⟩ := fun h' k hx _ => by
    have J := I.write (t' := t) (x := a) (e := a) (o := exo a C none) (by rw [e]; exact True.intro) (.inl rfl) k ⟨_, hx⟩ (exo_ok hx)
    have eu : upd H a (exo a C none) = H := by
      funext b
      by_cases hb : b = a
      · rw [hb, upd_same, e]
      · rw [upd_ne hb]
    rw [eu] at J
    exact h _ J
  refine wpAny_call (codeAny_of_tree ?_)
  show wpAny _ A.in1 (callAny (.ref u) ⟨us, []⟩) _ _ _
  simp only [callAny]
  refine wpAny_bind (wpAny_load hu ?_)
  simp only [kxs_mw, show (Value.type "method-wrapper" == Value.type "method" || Value.type "method-wrapper" == Value.type "builtin_function_or_method" || Value.type "method-wrapper" == Value.type "method-wrapper") = true by decide, if_true]
  refine KFB.if_so (by decide) ?_
  refine wpAny_bind (check_bound_init F.excBase_ValueError.toExcCallFacts hCh ho rfl ?_)
  refine wpAny_bind (wpAny_pure (wpAny_pure ?_))
  refine ⟨plainId_quiet F.excBase_ValueError.init.plain _, codeAny_builtin F.excBase_ValueError.initEntry ?_⟩
  exact exc_init_tree (cls := .ref C) (t0 := t1) (dv := none) (c2 := .none) (c3 := .none) (b4 := .bool false) ho hl fin

/-- super() in a body -/
theorem sup_base {P : Program} {w : World} {K : Frag} {mg : Str → Option Value} {base : Heap} {N : List Str} {qual : Str} {scope : Scope} {f cda cc C a : Addr} {A : Around} {outer : List Env} {s0 s : Shared} {H0 H : Hp} {pins : List (Addr × Obj)} {σ : L2.St} {fd : FuncData} {ar : Arg} {body : List Stmt} {p0 p1 : Pos} {attr : Str} {whole : Sem Value}
    {oc cl ccl : Value} {od cld cdd : Option Addr} {osl csl ccs : Array (Option Value)} {vs : Array Value} {file : Str} {tf : Tok} {Q : Value → Shared → Prop} {E : Value → Shared → Prop} {N0 ps : List Str}
    (S : SupScope N0 ps scope) (T : OexC K C) (I : Inv (cxS P w K mg base N qual scope f cda cc A outer s0 H0) pins σ H s) (e : H a = some (exo a C none)) (lkf : K.lookup f = some ⟨oc, od, .func fd, osl⟩) (hp : (fd.params.posonlyargs ++ fd.params.args).head? = some ar) (hlo : scope.names.lookup ar.arg = some .local)
    (hN : N[0]? = some ar.arg) (hσ : σ[0]? = some (some (.ref a)))
    (hcode : K.lookup cda = some ⟨ccl, cdd, .fields vs, ccs⟩) (hvs : vs[2]? = some (.str file tf)) (hfile : ((P.main.file : Str) == file) = true) (hcc : K.lookup cc = some ⟨cl, cld, .cell (some (.ref C)), csl⟩) (hsub : mroIn K C (.ref C) = some true) (hns : mg "super" = none)
    (htop : (P.main.scope.names.lookup ("super" : Str)).isSome = false) (hat : (attr == ("__class__" : Str)) = false)
    (h : ∀ so h', (∀ b o, s.heap.get? b = some o → h'.get? b = some o) → h'.get? so = some (ks_superObj C a C) → Q (.ref so) { s with heap := h' }) :
    PySem.wpAt (model P w) (A.deeper (ksEnv qual scope s0.heap.objs.size f (.ref cda) cc)) (.func body (ksEnv qual scope s0.heap.objs.size f (.ref cda) cc))
      (attributeBase (.Call (.Name "super" p0) [] [] p1) attr (ksEnv qual scope s0.heap.objs.size f (.ref cda) cc) whole) Q E s := by
  have KX : K.In s.heap := I.kIn
  obtain ⟨nm, q, NN, bs, bm, sn, sub, ab, col, dd, k0, k1, k2, k3, k5, hC, hbm⟩ := T.cls
  have hCh := KX _ _ hC
  obtain ⟨t1, ho⟩ := exo_at I.hok e
  obtain ⟨m, hm, hlook⟩ := I.loc
  obtain ⟨mb, b1, b2⟩ := I.ok.mod.blt
  have hv : m ar.arg = some (.ref a) := by
    obtain ⟨u, ru, lk⟩ := hlook 0 _ _ hN hσ (.inl hlo)
    obtain rfl : u = .ref a := ru
    rcases lk with ⟨_, z⟩ | ⟨z, _⟩
    · exact z
    · have z : scope.names.lookup ar.arg = some .cell ∨ scope.names.lookup ar.arg = some .free := z
      rw [hlo] at z
      rcases z with z | z <;> cases z
  have hglob : s.heap.Ns mainGlobals mg := I.ok.mod.glob.keeps I.bk
  have hblt : s.heap.Ns builtinsNs mb := b1.keeps I.bk
  obtain ⟨hh, g, d, t, os⟩ := s
  refine ks_wpAt_super_base (env := ksEnv qual scope s0.heap.objs.size f (.ref cda) cc) S.ks S.kc hat rfl (KX _ _ lkf) rfl hp rfl (KX _ _ hcode) rfl hvs hfile htop ?_
  refine ks_loadName_global S.kind S.ks (loadGlobal_builtin (env := ksEnv qual scope s0.heap.objs.size f (.ref cda) cc) hglob hns hblt ((b2 "super" (by decide)).trans (by first | rfl | kernel_rfl)) ⟨rfl, ?_⟩)
  refine wpAny_loadName_free S.kind S.kc rfl ⟨_, KX _ _ hcc, rfl⟩ ?_
  refine wpAny_loadName_local S.kind hlo hm hv ?_
  refine ks_wpAny_isType_cls hCh rfl ⟨rfl, ?_⟩
  refine ks_wpAny_call_super hCh rfl ho rfl (fun c e => by cases e) (looks_mroIn KX hsub) (fun h' e' k => ?_)
  exact h _ _ (fun b o x => k b o x) e'

/-- THE RULE for an __init__ that begins with super().__init__(e, ..) -/
theorem fn_sup {P : Program} {w : World} {K : Frag} {mg : Str → Option Value} {base : Heap} {k : Nat} {C f : Addr} {fd : FuncData} {qual : Str} {st : Stmt} {N ps : List Str} {sp : Sp} {e : Expr} {es : List Expr} {p0 p1 p2 p3 p4 : Pos} {rest : List Stmt} {ar : Arg}
    (T : OexC K C) (F : SupK P K mg C f fd qual st) (S : SupScope N ps (defScope st)) (len : ∀ vs H Q E, sp vs H Q E → vs.length = ps.length)
    (hbd : defBody st = .Expr (.Call (.Attribute (.Call (.Name "super" p0) [] [] p1) "__init__" p2) (e :: es) [] p3) p4 :: rest)
    (har : ((defArgs st).posonlyargs ++ (defArgs st).args).head? = some ar) (hlo : (defScope st).names.lookup ar.arg = some .local) (hN : N[0]? = some ar.arg)
    (he : ∀ env, starEach (e :: es) env = (false, eval e env) :: starEach es env) (hev : ∀ env, ∃ pl : Sem Bool, eval (.Call (.Attribute (.Call (.Name "super" p0) [] [] p1) "__init__" p2) (e :: es) [] p3) env = (do
      let ov ← attributeBase (.Call (.Name "super" p0) [] [] p1) "__init__" env (eval (.Call (.Name "super" p0) [] [] p1) env)
      standAt p2.atName
      let (f, first) ← holding [ov] (getMethod ov "__init__" pl)
      callWith p3 f first (backTo p3 (starEach (e :: es) env)) []))
    (hpl : ∀ env, (backTo p3 (starEach es env)).any (·.1) = false)
    (hbody : ∀ (cda cc : Addr) (A : Around) (outer : List Env) (s : Shared) (H : Hp) (vs : List V) (Q : VK) (E : XK), sp vs H Q E →
      ∃ ta t a ws, PA (cxS P w K mg base N qual (defScope st) f cda cc A outer s H) (e :: es) ta ∧ PSs (cxS P w K mg base N qual (defScope st) f cda cc A outer s H) rest t ∧ vs = .ref a :: ws ∧ H a = some (exo a C none) ∧
        ta (L2.start N vs) H fun us H1 => us.length ≤ 1000 ∧ H1 a = some (exo a C none) ∧ t { nx := fun _ H' => Q .non H', rt := Q } (L2.start N vs) H1) :
    FnOk P w K mg base CX0 (k + 1) f fd ps sp := by
  obtain ⟨oc, od, kV, doc, pm, ct, an, cda, cc, osl, rfl, lk, hcd, ⟨ccl, cdd, vsC, ccs, file, tf, lcode, hvs, hfile⟩, cl, cld, csl, lcell⟩ := F.ex
  refine ⟨len, fun A outer s H args us vs Q E hr e0 hb r hsp => ?_⟩
  have hl := len _ _ _ _ hsp
  have KX : K.In s.heap := e0.mod.kin.keeps fun b o e => (e0.bs b o e).1
  have lim : s.heap.NoLimit := e0.mod.nolimit.keeps fun b o e => (e0.bs b o e).1
  refine ks_codeAny_call_defAt (body := .Expr (.Call (.Attribute (.Call (.Name "super" p0) [] [] p1) "__init__" p2) (e :: es) [] p3) p4 :: rest) (binds := ps.zip us) hr.depth (KX _ _ lk) rfl lim (codeRec_of KX hcd) (by show FuncBody.stmts (defBody st) = _; rw [hbd]) hb S.nocell
    (fun y hy => S.par _ (List.of_mem_zip hy).1) (fun h₁ hns hk₁ => ?_) S.co S.gen S.kind
  have I := inv_sup (t := s.toks + (ps.zip us).length) (f := f) (cda := cda) (qual := qual) (w := w) S hr.hd e0 hl r lcell hns hk₁
  obtain ⟨ta, t, a, ws, hA, hS, rfl, ea, hta⟩ := hbody cda cc A outer s H vs Q E hsp
  have hσ : (L2.start N (.ref a :: ws))[0]? = some (some (.ref a)) := rfl
  obtain ⟨pl, hev⟩ := hev (ksEnv qual (defScope st) s.heap.objs.size f (.ref cda) cc)
  refine ks_wpAt_execs_cons (ks_wpAt_Expr_any (ks_wpAt_MethodCall ?_ hev) (hi := I.quiet))
  refine sup_base S T I ea lk har hlo hN hσ lcode hvs hfile lcell F.sub F.ns F.top (by decide) fun so h' k hso => ?_
  have I1 := I.kept (t' := s.toks + (ps.zip us).length) k
  have KX1 : K.In h' := I1.kIn
  obtain ⟨nm, q, NN, bs, bm, sn, sub, ab, col, dd, k0, k1, k2, k3, k5, hC, hbm⟩ := T.cls
  obtain ⟨t1, ho⟩ := exo_at I1.hok ea
  have hI : Looks (model P w) h' (isInstance (.ref a) (.type "ValueError")) true := (show InstAt h' a _ C none from ⟨ho, rfl, rfl, trivial⟩).type.andThen (looks_subIn KX1 F.isV)
  have hcl : clsIn K C = some { name := nm, bases := bs, mro := .ref C :: bm, ns := NN, qualname := q, hasDict := true, slotNames := sn, subclasses := sub, abstract := ab, collection := col, hasDel := false } := by unfold clsIn; rw [hC] <;> rfl
  have hsup := F.sup
  unfold ks_superIn at hsup
  rw [hcl, Option.bind_some] at hsup
  have hxC : a ≠ C := fun z => by
    have h1 := KX1 _ _ hC
    have h2 := ho
    rw [z] at h2
    rw [show h'.get? C = _ from h2] at h1
    cases h1
  refine kxs_getMethod kxs_ValueError hso (looks_opaque KX1 F.opq) (l₀ := .ref C :: bm) (fun A Q E s k q => wpAny_bind ((looks_clsIn KX1 hcl) A _ E s k (wpAny_pure q))) rfl KX1 hsup hI hxC (by decide) ?_
  have I2 := I1.kept (h' := h'.push (kxs_mw "ValueError.__init__" a)) (t' := s.toks + (ps.zip us).length + 1) fun b o e => Heap.get?_push_of_some _ e
  have hu : (h'.push (kxs_mw "ValueError.__init__" a)).get? h'.objs.size = some (kxs_mw "ValueError.__init__" a) := Heap.get?_push_at rfl rfl
  have hfr : H h'.objs.size = none := I1.hok.fresh (Nat.le_refl _)
  have I3 := I2.pins_of (pins' := [(h'.objs.size, kxs_mw "ValueError.__init__" a)]) fun p hp => by
    rcases List.mem_singleton.mp hp with rfl
    exact ⟨hu, hfr, fun z => absurd I1.lt (by rw [← show h'.objs.size = _ from z]; exact Nat.lt_irrefl _), I1.nofs (Nat.le_refl _), fun v z => by cases z⟩
  refine kxs_callWith (i := "ValueError.__init__") (x := a) ?_ ?_
  · rw [he]; exact (show (false || (backTo p3 (starEach es (ksEnv qual (defScope st) s.heap.objs.size f (.ref cda) cc))).any (·.1)) = false from by rw [Bool.false_or]; exact hpl _)
  rw [he]
  refine evalArgs_plain ?_
  have hAr := hA.run p3 _ _ _ _ _ I3 hta
  rw [he] at hAr
  refine wpAny_mono hAr (fun vs1 s1 h1 => ?_) (fun _ _ z => False.elim z)
  obtain ⟨xs, H1, J, rv, hle, ea1, hrest⟩ := h1
  have pu := J.pin (h'.objs.size, kxs_mw "ValueError.__init__" a) (List.mem_append_right _ (List.mem_singleton.mpr rfl))
  refine ⟨pu.1, ?_⟩
  refine sup_call (X := cxS P w K mg base N qual (defScope st) f cda cc A outer s H) T J ea1 pu.1 (show vs1.length ≤ sizeLine by rw [← show xs.length = vs1.length from Paired.length rv, sizeLine_eq]; omega) fun s2 J2 => ?_
  refine wpAt_of_any (wpAny_mono (hS.run _ _ _ _ _ J2 hrest) (fun fl s3 h3 => ?_) fun _ _ z => False.elim z)
  have fin : ∀ {σ' : L2.St} {H' : Hp} {v : V} {u : Value}, Inv (cxS P w K mg base N qual (defScope st) f cda cc A outer s H) [(h'.objs.size, kxs_mw "ValueError.__init__" a)] σ' H' s3 → RelV v u → Q v H' → CE outer P w H s Q u s3 :=
    fun {σ' H' v u} J rv q => ⟨v, H', J.os, J.bare, J.base, J.hok, rv, q⟩
  cases fl with
  | ret u =>
    obtain ⟨v, σ', H', J, rv, q⟩ := h3
    exact fin J rv q
  | next =>
    obtain ⟨σ', H', J, q⟩ := h3
    exact fin (v := V.non) (u := Value.none) J rfl q
  | brk =>
    obtain ⟨_, _, _, q⟩ := h3
    exact q.elim
  | cont =>
    obtain ⟨_, _, _, q⟩ := h3
    exact q.elim

/-! ### an own class E(Base) with def __init__(self, x): super().__init__(f"..") ; self.f = x -/
/-- what isinstance asks of the class -/
structure IsC (K : Frag) (C : Addr) : Prop where
  cl : (clsIn K C).isSome = true
  ga : findIn K (.ref C) "__getattribute__" = some (some (.builtin "BaseException.__getattribute__"))
  gg : findIn K (.ref C) "__getattr__" = some none
  bs : subIn K (.ref C) (.type "BaseException") = some true
  ca : findIn K (.ref C) "__class__" = some (some (.builtin "object.__class__"))
  sp : specialIn K (.builtin "object.__class__") "__get__" = some (some (.builtin "getset_descriptor.__get__"))
  tk : takesIn K (.builtin "object.__class__") = some true
  ob : mroIn K C (.type "object") = some true
structure ExcAt (P : Program) (K : Frag) (mg : Str → Option Value) (x q : Str) (st : Stmt) (ps : List Str) where
  C : Addr
  a : Addr
  d : FuncData
  g : mg x = some (.ref C)
  o : OexC K C
  s : SupK P K mg C a d q st
  i : findIn K (.ref C) "__init__" = some (some (.ref a))
  t : typeIn K (.ref a) = some (.type "function")
  b : Binds K d ps []
  xf : XfC K C
  is : IsC K C
  te : exmOne K (.ref C) (.ref C) = some true
/-- an own class without an __init__ -/
structure BareAt (K : Frag) (mg : Str → Option Value) (x : Str) where
  C : Addr
  g : mg x = some (.ref C)
  k : keepIn K (.ref C) = true
  x : excIn K C [.type "ValueError", .type "Exception", .type "BaseException", .type "object"] "ValueError.__new__" = true
  b : subIn K (.ref C) (.type "BaseException") = some true
  t : typeIn K (.ref C) = some (.type "type")
  te : exmOne K (.ref C) (.ref C) = some true
/-- such an __init__ with one text field -/
noncomputable def sp1 (C : Addr) (f : Str) : Sp := fun vs H Q _ => ∃ (a : Addr) (z : Str), vs = [.ref a, .str z] ∧ z.length ≤ 1000 ∧ H a = some (exo a C none) ∧ ∀ dx, H dx = none → dx ≠ a → Q .non (upd (upd H dx (exd dx [(f, .str z)])) a (exo a C (some dx)))
theorem mkO {C : Addr} {f z : Str} {H : Hp} {Q : XK} (hz : z.length ≤ 1000) (q : ∀ d, H d = none → Q (.ref C) (some d) (upd H d (.xd [(f, .str z)]))) {σ : L2.St} {ta : TA} (hta : ∀ R : List V → Hp → Prop, R [.str z] H → ta σ H R) : tMkO C (sp1 C f) [] ta σ H Q := by
  refine hta _ ⟨by show 1 ≤ 1000; decide, fun a ha => ⟨a, z, rfl, hz, upd_same, fun dx hd hne => ⟨rfl, dx, [(f, .str z)], upd_same, ?_, ?_, ?_⟩⟩⟩
  · rw [upd_ne hne, upd_same]
  · rw [upd_ne hne] at hd; exact hd
  · rw [upd_ne hne] at hd
    have e : upd (L2.del (upd (upd (upd H a (exo a C none)) dx (exd dx [(f, .str z)])) a (exo a C (some dx))) a) dx (.xd [(f, .str z)]) = upd H dx (.xd [(f, .str z)]) := by
      funext b
      by_cases hb : b = dx
      · rw [hb, upd_same, upd_same]
      · rw [upd_ne hb, upd_ne hb]
        by_cases hba : b = a
        · rw [hba, L2.del_same, ha]
        · rw [L2.del_ne hba, upd_ne hba, upd_ne hb, upd_ne hba]
    rw [e]
    exact q dx hd
/-- isinstance(e, c) of the caught exception, its dict known -/
noncomputable def rIsD (K : Frag) (D a : Addr) (cls : Value) (d : Option Addr) : List V → Hp → VK → Prop := fun xs H Q => ∃ (c : V) (cv : Value) (b : Bool) (dd : Addr) (fs : List (Str × V)), xs = [.ref a, c] ∧ cls = .ref D ∧ d = some dd ∧ H dd = some (.xd fs) ∧ (∀ u, RelV c u → u = cv) ∧ kitOne K (.ref D) cv = some b ∧ Q (.bl b) H
section
variable {X : Cx} {CX : CXT} {k : Nat} {f C : Addr} {fd : FuncData} {ps : List Str} {sp : Sp} {E : L2.St → XK} {x m : Str} {p pos apos : Pos} {e o : Expr} {es : List Expr} {ta : TE} {t : TA}
noncomputable def tMakeS (C : Addr) (sp : Sp) (E : L2.St → XK) (t : TA) : TE := fun σ H Q => t σ H fun vs H1 => ∀ x dx, H1 x = none → H1 dx = none → dx ≠ x → sp (.ref x :: vs) (upd (upd H1 dx (.own x)) x (.ins C dx [])) (fun v H2 => v = .non ∧ Q (.ref x) H2) (E σ)
noncomputable def tMethS (C : Addr) (m : Str) (sp : Sp) (E : L2.St → XK) (ta : TE) (t : TA) : TE := fun σ H Q => ta σ H fun x H1 => ∃ a dx fs, x = .ref a ∧ H1 a = some (.ins C dx fs) ∧ fs.lookup m = none ∧ t σ H1 fun vs H2 => sp (x :: vs) H2 Q (E σ)
end
/-- an error with this name is raised, whatever was made before -/
noncomputable def Err (C : Addr) (H : Hp) (z : Str) (E : XK) : Prop := ∀ (H' : Hp) (d : Addr), Same H H' → H' d = none → E (.ref C) (some d) (upd H' d (.xd [("name", .str z)]))
theorem Err.mono {C : Addr} {H H1 : Hp} {z : Str} {E : XK} (h : Err C H z E) (s : Same H H1) : Err C H1 z E := fun H' d s2 hd => h H' d (s.trans s2) hd
theorem Err.now {C : Addr} {H : Hp} {z : Str} {E : XK} (h : Err C H z E) : ∀ d, H d = none → E (.ref C) (some d) (upd H d (.xd [("name", .str z)])) := fun d hd => h H d (Same.refl H) hd
/-- an error without a field is raised -/
noncomputable def ErrB (C : Addr) (H : Hp) (E : XK) : Prop := ∀ H', Same H H' → E (.ref C) none H'
theorem ErrB.mono {C : Addr} {H H1 : Hp} {E : XK} (h : ErrB C H E) (s : Same H H1) : ErrB C H1 E := fun H' s2 => h H' (s.trans s2)
/-- the first number out of its bounds -/
noncomputable def kindBad (w h d c : Int) : Option Str := if ¬ (1 ≤ w ∧ w ≤ 64) then some "width" else if ¬ (1 ≤ h ∧ h ≤ 64) then some "height" else if ¬ (1 ≤ d ∧ d ≤ 8) then some "depth" else if ¬ (c = 1 ∨ c = 3) then some "channels" else none
noncomputable def frameBad (w h d c t : Int) : Option Str := match kindBad w h d c with
  | some z => some z
  | none => if ¬ (1 ≤ t ∧ t ≤ 16) then some "tile" else if w * h * c > 3072 then some "size" else none
theorem kindBad_none {w h d c : Int} : kindBad w h d c = none ↔ (1 ≤ w ∧ w ≤ 64) ∧ (1 ≤ h ∧ h ≤ 64) ∧ (1 ≤ d ∧ d ≤ 8) ∧ (c = 1 ∨ c = 3) := by
  unfold kindBad
  by_cases h1 : 1 ≤ w ∧ w ≤ 64 <;> by_cases h2 : 1 ≤ h ∧ h ≤ 64 <;> by_cases h3 : 1 ≤ d ∧ d ≤ 8 <;> by_cases h4 : c = 1 ∨ c = 3 <;> simp [h1, h2, h3, h4]
theorem frameBad_none {w h d c t : Int} : frameBad w h d c t = none ↔ (1 ≤ w ∧ w ≤ 64) ∧ (1 ≤ h ∧ h ≤ 64) ∧ (1 ≤ d ∧ d ≤ 8) ∧ (c = 1 ∨ c = 3) ∧ (1 ≤ t ∧ t ≤ 16) ∧ w * h * c ≤ 3072 := by
  unfold frameBad
  cases e : kindBad w h d c with
  | some z =>
    constructor
    · intro h; cases h
    · rintro ⟨a, b, c', d', _⟩
      rw [kindBad_none.mpr ⟨a, b, c', d'⟩] at e; cases e
  | none =>
    obtain ⟨a, b, c', d'⟩ := kindBad_none.mp e
    by_cases h5 : 1 ≤ t ∧ t ≤ 16 <;> by_cases h6 : w * h * c > 3072 <;> simp [a, b, c', d', h5, h6] <;> omega
/-- the first part of a key, of a channel and a pixel, that is out of its bounds -/
noncomputable def keyBad (c n d : Nat) (ch ti pl : Int) : Option Str := if ¬ (0 ≤ ch ∧ ch ≤ (c : Int) - 1) then some "channel" else if ¬ (0 ≤ ti ∧ ti ≤ (n : Int) - 1) then some "tile" else if ¬ (0 ≤ pl ∧ pl ≤ (d : Int) - 1) then some "plane" else none
section
variable {K : Frag} {σ : L2.St} {H : Hp} {Q : VK} {D : Ends} {ta te : TE} {t : TA} {sp : Sp} {E : L2.St → XK} {C a : Addr} {m f : Str} {cls : Value} {d : Option Addr} {v : V}
noncomputable def CS (sp : Sp) (vs : List V) (H : Hp) (Q : VK) (E : XK) : Prop := sp vs H Q E
theorem callS (q : t σ H fun vs H1 => CS sp vs H1 Q (E σ)) : tCallS sp E t σ H Q := q
noncomputable def MkS (C : Addr) (sp : Sp) (vs : List V) (H : Hp) (Q : VK) (E : XK) : Prop := ∀ x dx, H x = none → H dx = none → dx ≠ x → CS sp (.ref x :: vs) (upd (upd H dx (.own x)) x (.ins C dx [])) (fun v H2 => v = .non ∧ Q (.ref x) H2) E
theorem makeS (q : t σ H fun vs H1 => MkS C sp vs H1 Q (E σ)) : tMakeS C sp E t σ H Q := q
noncomputable def MtS (C : Addr) (m : Str) (sp : Sp) (E : L2.St → XK) (t : TA) (σ : L2.St) (x : V) (H : Hp) (Q : VK) : Prop := ∃ a dx fs, x = .ref a ∧ H a = some (.ins C dx fs) ∧ fs.lookup m = none ∧ t σ H fun vs H2 => sp (x :: vs) H2 Q (E σ)
theorem methS (q : ta σ H fun x H1 => MtS C m sp E t σ x H1 Q) : tMethS C m sp E ta t σ H Q := q
noncomputable def XfP (a : Addr) (cls : Value) (d : Option Addr) (C : Addr) (f : Str) (x : V) (H : Hp) (Q : VK) : Prop := x = .ref a ∧ cls = .ref C ∧ ∃ (dd : Addr) (fs : List (Str × V)) (v : V), d = some dd ∧ H dd = some (.xd fs) ∧ fs.lookup f = some v ∧ Q v H
theorem xf (q : te σ H fun x H1 => XfP a cls d C f x H1 Q) : tXf a cls d C f te σ H Q := q
theorem isD {dd : Addr} {fs : List (Str × V)} {D2 : V} {cv : Value} {b : Bool} (h : H dd = some (.xd fs)) (r : ∀ u, RelV D2 u → u = cv) (k : kitOne K (.ref C) cv = some b) (q : Q (.bl b) H) : rIsD K C a (.ref C) (some dd) [.ref a, D2] H Q := ⟨D2, cv, b, dd, fs, rfl, rfl, rfl, h, r, k, q⟩
theorem isT {dd : Addr} {n : String} {fs : List (Str × V)} {b : Bool} (h : H dd = some (.xd fs)) (k : kitOne K (.ref C) (.type n) = some b) (q : Q (.bl b) H) : rIsD K C a (.ref C) (some dd) [.ref a, .ty n] H Q := isD h (fun u e => e) k q
end
end Sx
local macro_rules | `(tactic| walk_at "go1") => `(tactic| (first
  | with_reducible refine Sx.callS ?_
  | with_reducible refine Sx.makeS ?_
  | with_reducible refine Sx.methS ?_
  | with_reducible refine Sx.xf ?_))

/-! The frame: a call sees a part R of what is tracked; the part S beside it stays as it is. -/
namespace Fx
open PySem L2
/-- what may stand beside: lists, dicts, sets, instances with their own dicts -/
noncomputable def Fit (S : Hp) (a : Addr) : HO → Prop
  | .lst _ => True
  | .dK _ => True
  | .dT _ => True
  | .set _ _ => True
  | .own y => ∃ C fs, S y = some (.ins C a fs)
  | .ins _ dx _ => S dx = some (.own a)
  | _ => False
structure Own (R H S : Hp) : Prop where
  eq : ∀ a, H a = match S a with | some o => some o | none => R a
  dj : ∀ a o, S a = some o → R a = none
  ft : ∀ a o, S a = some o → Fit S a o
section
variable {R H S R' : Hp} {a b : Addr} {o u : HO}
theorem Own.at (O : Own R H S) (h : S a = some o) : H a = some o := by rw [O.eq, h]
theorem Own.off (O : Own R H S) (h : S a = none) : H a = R a := by rw [O.eq, h]
theorem Own.nos (O : Own R H S) (h : R a = some o) : S a = none := by
  cases e : S a with
  | none => rfl
  | some u => rw [O.dj a u e] at h; cases h
theorem Own.same (O : Own R H S) : Same R H := fun a o h => by rw [O.off (O.nos h)]; exact h
theorem Own.non (O : Own R H S) (h : H a = none) : R a = none ∧ S a = none := by
  have := O.eq a
  cases e : S a with
  | none => rw [e] at this; exact ⟨this.symm.trans h, rfl⟩
  | some u => rw [e] at this; rw [this] at h; cases h
theorem Own.tup {xs : List V} (O : Own R H S) (h : H a = some (.tup xs)) : R a = some (.tup xs) := by
  cases e : S a with
  | none => rw [← O.off e]; exact h
  | some u =>
    rw [O.at e] at h
    cases h
    exact (O.ft a _ e).elim
theorem Own.frz {ob : Obj} {w : HO} (O : Own R H S) (h : H a = some (.frz ob w)) : R a = some (.frz ob w) := by
  cases e : S a with
  | none => rw [← O.off e]; exact h
  | some u =>
    rw [O.at e] at h
    cases h
    exact (O.ft a _ e).elim
theorem Own.tbl {ps} (O : Own R H S) (h : H a = some (.tbl ps)) : R a = some (.tbl ps) := by
  cases e : S a with
  | none => rw [← O.off e]; exact h
  | some u =>
    rw [O.at e] at h
    cases h
    exact (O.ft a _ e).elim
noncomputable def over (R S : Hp) : Hp := fun a => match S a with | some o => some o | none => R a
theorem over_own (dj : ∀ a o, S a = some o → R a = none) (ft : ∀ a o, S a = some o → Fit S a o) : Own R (over R S) S := ⟨fun _ => rfl, dj, ft⟩
end
section
variable {P : Program} {w : World} {R H S R' : Hp} {h h' : Heap}
theorem down (O : Own R H S) (x : HOk P w H h) : HOk P w R h := fun a o e => by
  refine (x a o (O.same a o e)).stay (fun _ _ _ q => q) (fun b q => ?_) (fun _ _ q => O.tup q)
  cases es : S b with
  | none => rw [← O.off es]; exact q
  | some u =>
    have q2 := (O.at es).symm.trans q
    cases q2
    obtain ⟨C, fs, z⟩ := O.ft b _ es
    rw [O.dj a _ z] at e; cases e
theorem there {a : Addr} {o : HO} (x : ObjOk P w H h a o) (f : Fit S a o) : ∃ ob, h.get? a = some ob := by
  cases o with
  | lst xs => obtain ⟨z, its, n, r, q⟩ := x; exact ⟨_, q⟩
  | dK kvs => obtain ⟨z, y, vs, r, ob, es, ep, q, c⟩ := x; exact ⟨_, q⟩
  | set _ _ => obtain ⟨ob, es, ep, t, q, c⟩ := x; exact ⟨_, q⟩
  | dT kvs => obtain ⟨z, y, xs, r, ob, es, ep, q, c⟩ := x; exact ⟨_, q⟩
  | own y => exact x
  | ins C dx fs => obtain ⟨d, z, ne, q, r⟩ := x; exact ⟨_, q⟩
  | tup _ => exact f.elim
  | xd _ => exact f.elim
  | rng _ _ => exact f.elim
  | frz _ _ => exact f.elim
  | tbl _ => exact f.elim
  | met _ _ => exact f.elim
  | ext _ => exact f.elim
theorem stays (O : Own R H S) (O' : Own R' (over R' S) S) (kp : ∀ b u, h.get? b = some u → R b = none → S b ≠ none → h'.get? b = some u) (tp : ∀ b xs, R b = some (.tup xs) → R' b = some (.tup xs)) {a : Addr} {o : HO} (e : S a = some o) (x : ObjOk P w H h a o) : ObjOk P w (over R' S) h' a o := by
  have ka : ∀ u, h.get? a = some u → h'.get? a = some u := fun u q => kp a u q (O.dj a o e) (by rw [e]; exact fun z => nomatch z)
  have fit := O.ft a o e
  cases o with
  | lst xs => obtain ⟨z, its, n, r, q⟩ := x; exact ⟨z, its, n, r, ka _ q⟩
  | dK kvs => obtain ⟨z, y, vs, r, ob, es, ep, q, c⟩ := x; exact ⟨z, y, vs, r, ob, es, ep, ka _ q, c⟩
  | set _ _ => obtain ⟨ob, es, ep, t, q, c⟩ := x; exact ⟨ob, es, ep, t, ka _ q, c⟩
  | dT kvs =>
    obtain ⟨z, y, xs, r, ob, es, ep, q, c⟩ := x
    exact ⟨z, y, xs, Paired.mapP r fun p q z => ⟨z.1, O'.same _ _ (tp _ _ (O.tup z.2.1)), z.2.2⟩, ob, es, ep, ka _ q, c⟩
  | own y => obtain ⟨ob, q⟩ := x; exact ⟨ob, ka _ q⟩
  | ins C dx fs =>
    obtain ⟨d, z, ne, q, mA, ⟨od, es, ep, e2, c⟩, r⟩ := x
    have f : S dx = some (.own a) := fit
    exact ⟨O'.at f, z, ne, ka _ q, mA, ⟨od, es, ep, kp dx od e2 (O.dj dx _ f) (by rw [f]; exact fun z => nomatch z), c⟩, r⟩
  | tup _ => exact fit.elim
  | xd _ => exact fit.elim
  | rng _ _ => exact fit.elim
  | frz _ _ => exact fit.elim
  | tbl _ => exact fit.elim
  | met _ _ => exact fit.elim
  | ext _ => exact fit.elim
theorem up (O' : Own R' (over R' S) S) (x : HOk P w R' h') (st : ∀ a o, S a = some o → ObjOk P w (over R' S) h' a o) : HOk P w (over R' S) h' := fun a o e => by
  cases es : S a with
  | some u => rw [O'.at es] at e; cases e; exact st a _ es
  | none =>
    rw [O'.off es] at e
    exact (x a o e).stay (fun _ _ _ q => q) (fun b q => O'.same _ _ q) (fun b xs q => O'.same _ _ q)
end
noncomputable def fr (sp : Sp) : Sp := fun vs H Q E => ∃ R S, Own R H S ∧ sp vs R (fun v R' => ∀ H', Own R' H' S → Q v H') (fun c d R' => ∀ H', Own R' H' S → E c d H')
section
variable {P : Program} {w : World} {K : PySem.W.Frag} {mg : Str → Option Value} {base : Heap} {k : Nat} {f : Addr} {fd : FuncData} {ps : List Str} {sp : Sp}
theorem env (O : Own R H S) {A : Around} {outer : List Env} {s : Shared} (e : Env0 P w K mg base A outer s H) : Env0 P w K mg base A outer s R :=
  ⟨e.frames, e.mod, fun b o q => ⟨(e.bs b o q).1, (O.non (e.bs b o q).2).1⟩, e.bsz, e.funs, fun b q => (O.non (e.frf b q)).1, down O e.hok, e.bare⟩
theorem nofs {O : Own R H S} {A : Around} {outer : List Env} {s : Shared} (e : Env0 P w K mg base A outer s H) {b : Addr} (h : S b ≠ none) : b ∉ frs outer := fun q => by
  have := (O.non (e.frf b q)).2
  exact h this
end
end Fx
/-! Steps with a part beside. -/
namespace Nx
open PySem L2 Fx
noncomputable def e0 : Hp := fun _ => none
noncomputable def one (b : Addr) (o : HO) : Hp := fun a => if a = b then some o else none
section
variable {K : PySem.W.Frag} {R H S R0 R1 R2 S1 S2 H1 H2 H3 : Hp} {a b p l : Addr} {o u : HO} {xs ys : List V} {σ : L2.St} {Q : VK} {E : XK} {sp : Sp} {vs dvs : List V} {v : V}
theorem one_at : one b o b = some o := if_pos rfl
theorem one_ne (h : a ≠ b) : one b o a = none := if_neg h
theorem one_some {x : HO} (h : one b o a = some x) : a = b ∧ x = o := by
  unfold one at h
  by_cases e : a = b
  · rw [if_pos e] at h; exact ⟨e, (Option.some.inj h).symm⟩
  · rw [if_neg e] at h; cases h
theorem own0 : Own H H e0 := ⟨fun _ => rfl, (fun a o e => nomatch e), fun a o e => nomatch e⟩
theorem own0_eq (O : Own R H e0) : H = R := funext fun a => by rw [O.eq]; rfl
theorem at1 (O : Own R H (one b o)) : H b = some o := O.at one_at
theorem no1 (O : Own R H (one b o)) : R b = none := O.dj b o one_at
theorem off1 (O : Own R H (one b o)) (h : a ≠ b) : H a = R a := O.off (one_ne h)
theorem mk1 (h : R b = none) (f : Fit (one b o) b o) (e : H b = some o) (k : ∀ a, a ≠ b → H a = R a) : Own R H (one b o) := ⟨fun a => by
    by_cases c : a = b
    · rw [c, one_at]; exact e
    · rw [one_ne c]; exact k a c, fun a x q => by obtain ⟨c, _⟩ := one_some q; rw [c]; exact h, fun a x q => by obtain ⟨c, d⟩ := one_some q; subst c; subst d; exact f⟩
theorem top1 (h : H p = none) : Own H (upd H p (.lst xs)) (one p (.lst xs)) := mk1 h trivial upd_same fun _ c => upd_ne c
theorem put1 (O : Own R H (one b (.lst xs))) : Own R (upd H b (.lst ys)) (one b (.lst ys)) := mk1 (no1 O) trivial upd_same fun _ c => (upd_ne c).trans (off1 O c)
/-- a new object is laid below -/
theorem new (O : Own R H S) (h : H p = none) : Own (upd R p o) (upd H p o) S := ⟨fun a => by
    by_cases c : a = p
    · rw [c, upd_same, (O.non h).2, upd_same]
    · rw [upd_ne c, O.eq, upd_ne c], (fun a x q => by
      by_cases c : a = p
      · rw [c, (O.non h).2] at q; cases q
      · rw [upd_ne c]; exact O.dj a x q), O.ft⟩
/-- two parts beside as one -/
theorem nest (O : Own R H S) (O2 : Own R2 R S2) : Own R2 H (over S2 S) := ⟨fun a => by
    unfold over
    cases e : S a with
    | some x => exact O.at e
    | none => rw [O.off e]; exact O2.eq a, fun a x q => by
      unfold over at q
      cases e : S a with
      | some y => exact (O2.non (O.dj a y e)).1
      | none => rw [e] at q; exact O2.dj a x q, fun a x q => by
      have up : ∀ b y, S2 b = some y → over S2 S b = some y := fun b y z => by
        unfold over; rw [O.nos (O2.at z)]; exact z
      have up2 : ∀ b y, S b = some y → over S2 S b = some y := fun b y z => by unfold over; rw [z]
      have key : Fit S a x ∨ Fit S2 a x := by
        unfold over at q
        cases e : S a with
        | some y => rw [e] at q; cases q; exact .inl (O.ft a _ e)
        | none => rw [e] at q; exact .inr (O2.ft a _ q)
      cases x with
      | ins C dx fs =>
        rcases key with z | z
        · exact up2 _ _ z
        · exact up _ _ z
      | own y =>
        rcases key with ⟨C, fs, z⟩ | ⟨C, fs, z⟩
        · exact ⟨C, fs, up2 _ _ z⟩
        · exact ⟨C, fs, up _ _ z⟩
      | _ => rcases key with z | z <;> exact z⟩
theorem split (O : Own R H S) (O2 : Own R2 R S2) {R2' H' : Hp} (N : Own R2' H' (over S2 S)) : Own R2' (over R2' S2) S2 ∧ Own (over R2' S2) H' S := by
  have dj2 : ∀ a o, S2 a = some o → R2' a = none := fun a o e => N.dj a o (by unfold over; rw [O.nos (O2.at e)]; exact e)
  refine ⟨over_own dj2 O2.ft, ⟨fun a => ?_, fun a x e => ?_, O.ft⟩⟩
  · rw [N.eq]
    unfold over
    cases S a <;> rfl
  · have e2 := N.dj a x (by unfold over; rw [e])
    have e3 := (O2.non (O.dj a x e)).2
    unfold over; rw [e3]; exact e2
theorem whole (q : Gx.CP sp vs dvs H Q E) : Gx.CP (fr sp) vs dvs H Q E := ⟨H, e0, own0, by
  have e1 : (fun v R' => ∀ H', Own R' H' e0 → Q v H') = Q := by
    funext v R'
    exact propext ⟨fun h => h R' own0, fun h H' O => by rw [own0_eq O]; exact h⟩
  have e2 : (fun c d R' => ∀ H', Own R' H' e0 → E c d H') = E := by
    funext c d R'
    exact propext ⟨fun h => h R' own0, fun h H' O => by rw [own0_eq O]; exact h⟩
  rw [e1, e2]; exact q⟩
end
end Nx
namespace Nx
open PySem L2 Fx
section
variable {K : PySem.W.Frag} {R H S R0 R1 R2 S1 S2 H1 H2 H3 : Hp} {a b p l : Addr} {o u : HO} {xs ys : List V} {σ : L2.St} {Q : VK} {E : XK} {v : V}
theorem viaS (s : Same R H) (f : R a = some o) : H a = some o := s a o f
theorem viaL (s : Same R H) (f : SqL K R a xs) : SqL K H a xs := s.seq f
theorem viaT (s : Same R H) (h : SqT K R a xs) : SqT K H a xs := by
  rcases h with (z | ⟨ob, z⟩) | z
  · exact .inl (.inl (s _ _ z))
  · exact .inl (.inr ⟨ob, s _ _ z⟩)
  · exact .inr z
/-- a list or a tuple -/
theorem viaLT (s : Same R H) (h : SqL K R a xs ∨ SqT K R a xs) : SqL K H a xs ∨ SqT K H a xs := h.elim (fun z => .inl (s.seq z)) fun z => .inr (viaT s z)
theorem ixLT {Q : VK} {i : Int} {v : V} (h : SqL K H p xs ∨ SqT K H p xs) (ha : atI xs i = some v) (q : Q v H) : rIx K (.ref p) (.int i) H Q := h.elim (fun h => Gx.ixL h ha q) fun h => Gx.ixT h ha q
mutual
theorem dpKeep (s : Same R H) : ∀ (d : PyData) (v : V), Dp K R v d → Dp K H v d
  | .none, _, h => by cases h; exact .non
  | .bool b, _, h => by cases h; exact .bl b
  | .int i, _, h => by cases h; exact .int i
  | .str x, _, h => by cases h; exact .str x
  | .list ds, _, h => by
    cases h with
    | lst hs ha => exact .lst (s.seq hs) (dpsKeep s ds _ ha)
  | .tuple ds, _, h => by
    cases h with
    | tup hs ha => exact .tup (by
        rcases hs with (z | ⟨ob, z⟩) | z
        · exact .inl (.inl (s _ _ z))
        · exact .inl (.inr ⟨ob, s _ _ z⟩)
        · exact .inr z) (dpsKeep s ds _ ha)
  | .dict _, _, h => by cases h
theorem dpsKeep (s : Same R H) : ∀ (ds : List PyData) (vs : List V), DpAll K R vs ds → DpAll K H vs ds
  | [], _, h => by cases h; exact .nil
  | d :: ds, _, h => by
    cases h with
    | cons h1 h2 => exact .cons (dpKeep s d _ h1) (dpsKeep s ds _ h2)
end
theorem viaD {d : PyData} (s : Same R H) (h : Dp K R v d) : Dp K H v d := dpKeep s d v h
/-- new objects, what is made named -/
theorem lst0 (h : xs.length ≤ sizeLine) (q : ∀ p H', H p = none → Same H H' → H' p = some (.lst xs) → Q (.ref p) H') : Gx.LstP xs H Q := Gx.lstP h fun p hp => q p _ hp (Gx.same_new hp) upd_same
theorem tup0 (h : xs.length ≤ sizeLine) (q : ∀ p H', H p = none → Same H H' → H' p = some (.tup xs) → Q (.ref p) H') : Gx.TupP xs H Q := Gx.tupP h fun p hp => q p _ hp (Gx.same_new hp) upd_same
/-- a list that is to change, apart -/
theorem lstT (h : xs.length ≤ sizeLine) (q : ∀ p H', Own H H' (one p (.lst xs)) → Q (.ref p) H') : Gx.LstP xs H Q := Gx.lstP h fun p hp => q p _ (top1 hp)
theorem made0 (q : ∀ l H', H l = none → Same H H' → H' l = some o → Q (.ref l) H') : ∀ l, H l = none → Q (.ref l) (upd H l o) := fun l hl => q l _ hl (Gx.same_new hl) upd_same
theorem Own.made (O : Own R H S) (q : ∀ l R' H', R l = none → Own R' H' S → Same R R' → R' l = some o → Q (.ref l) H') : ∀ l, H l = none → Q (.ref l) (upd H l o) := fun l hl => q l _ _ (O.non hl).1 (Nx.new O hl) (Gx.same_new (O.non hl).1) upd_same
variable {b0 : Addr}
theorem slL0 {lo hi : Option Int} (h : SqL K H a xs) (q : ∀ p H', H p = none → Same H H' → H' p = some (.lst (cutV xs lo hi)) → Q (.ref p) H') : rSlL K (.ref a) lo hi H Q := Gx.slL h (made0 q)
theorem cat0 {zs : List V} (h1 : H a = some (.lst xs)) (h2 : H b0 = some (.lst zs)) (hz : xs.length + zs.length ≤ sizeLine) (q : ∀ p H', H p = none → Same H H' → H' p = some (.lst (xs ++ zs)) → Q (.ref p) H') : rCat (.ref a) (.ref b0) H Q := Gx.cat h1 h2 hz (made0 q)
noncomputable def Bm0P (K : PySem.W.Frag) (T : String) (r : V → List V → Hp → VK → Prop) (x : V) (H : Hp) (Q : VK) : Prop := tyV K T x H ∧ r x [] H Q
theorem bm0 {T : String} {r : V → List V → Hp → VK → Prop} {to : TE} (q : to σ H fun x H1 => Bm0P K T r x H1 Q) : tBM0 K T r to σ H Q := q
theorem appT (O : Own R H (one l (.lst xs))) (hz : xs.length < sizeLine) (q : ∀ H', Own R H' (one l (.lst (xs ++ [v]))) → Q .non H') : rAppend (.ref l) [v] H Q := Gx.app (at1 O) hz (q _ (put1 O))
theorem nevB {x y : Bool} (q : Q (.bl (!decide (x = y))) H) : rNe (.bl x) (.bl y) H Q := Gx.nev (by rw [Gx.eqB]; exact q)
theorem Own.grow {H' : Hp} (O : Own R H S) (s : Same H H') : ∃ R', Own R' H' S ∧ Same R R' ∧ ∀ a o, H a = none → H' a = some o → R' a = some o := by
  refine ⟨fun a => match S a with | some _ => none | none => H' a, ⟨fun a => ?_, fun a x e => ?_, O.ft⟩, fun a x e => ?_, fun a x e q => ?_⟩
  · cases e : S a with
    | some x => exact s _ _ (O.at e)
    | none => rfl
  · show (match S a with | some _ => none | none => H' a) = none
    rw [e]
  · show (match S a with | some _ => none | none => H' a) = some x
    rw [O.nos e]; exact s _ _ (O.same _ _ e)
  · show (match S a with | some _ => none | none => H' a) = some x
    rw [(O.non e).2]; exact q
noncomputable def EnP (K : PySem.W.Frag) (vs : List V) (H : Hp) (T : It → Hp → Prop) : Prop := ∃ a xs, vs = [.ref a] ∧ SqL K H a xs ∧ T (Ite K a) H
theorem enumw {tr : TA} {T : It → Hp → Prop} (q : tr σ H fun vs H1 => EnP K vs H1 T) : iEnum K tr σ H T := q
theorem en {T : It → Hp → Prop} (h : SqL K H a xs) (q : T (Ite K a) H) : EnP K [.ref a] H T := ⟨a, xs, rfl, h, q⟩
/-- an instance with the four numbers of a kind -/
noncomputable def K4 (K : PySem.W.Frag) (H : Hp) (x : Addr) (w h d c : V) : Prop := ∃ (C dx : Addr) (fs : List (Str × V)), H x = some (.ins C dx fs) ∧ Cls K C ∧ (NoAttr K C "width" ∧ NoAttr K C "height" ∧ NoAttr K C "depth" ∧ NoAttr K C "channels") ∧ fs.lookup ("width" : Str) = some w ∧ fs.lookup ("height" : Str) = some h ∧ fs.lookup ("depth" : Str) = some d ∧ fs.lookup ("channels" : Str) = some c
theorem K4.keep {x : Addr} {w h d c : V} (k : K4 K R x w h d c) (s : Same R H) : K4 K H x w h d c := by
  obtain ⟨C, dx, fs, e, r⟩ := k
  exact ⟨C, dx, fs, s _ _ e, r⟩
/-- isinstance with an own class -/
structure IsO (K : PySem.W.Frag) (C : Addr) : Prop where
  ca : PySem.W.findIn K (.ref C) "__class__" = some (some (.builtin "object.__class__"))
  sp : PySem.W.specialIn K (.builtin "object.__class__") "__get__" = some (some (.builtin "getset_descriptor.__get__"))
  tk : PySem.W.takesIn K (.builtin "object.__class__") = some true
  ob : PySem.W.mroIn K C (.type "object") = some true
end
end Nx
local macro_rules | `(tactic| walk_at "xsame1") => `(tactic| first
  | assumption
  | exact Fx.Own.same (by assumption))
local macro_rules | `(tactic| walk_at "xsame") => `(tactic| first
  | assumption
  | exact L2.Same.refl _
  | (refine' L2.Same.trans ?s1 ?s2; (case s2 => walk_at "xsame1"); (case s1 => walk_at "xsame")))
local macro_rules | `(tactic| walk_at "fact") => `(tactic| first
  | assumption
  | exact Nx.at1 (by assumption)
  | exact L2.upd_same
  | (refine' Nx.viaS ?s ?f; (case s => walk_at "xsame1"); (case f => walk_at "fact"))
  | (refine' L2.SqL.of ?f; (case f => walk_at "fact"))
  | (refine' Nx.viaL ?s ?f; (case s => walk_at "xsame1"); (case f => walk_at "fact"))
  | (refine' L2.SqT.of ?f; (case f => walk_at "fact"))
  | (refine' Nx.viaD ?s ?f; (case s => walk_at "xsame1"); (case f => walk_at "fact")))
local macro_rules | `(tactic| walk_at "run1") => `(tactic| first
  | walk_at "go1"
  | with_reducible refine Nx.bm0 ?_
  | ((with_reducible refine' Gx.ixL ?hf ?ha ?_); (case hf => walk_at "fact"); (case ha => rfl))
  | ((with_reducible refine' Gx.ixT ?hf ?ha ?_); (case hf => walk_at "fact"); (case ha => rfl))
  | with_reducible refine Nx.nevB ?_
  | with_reducible refine Nx.enumw ?_
  | ((with_reducible refine' Gx.ic ?hc ?_); (case hc => walk_at "side"))
  | ((with_reducible refine' Gx.gtup ?hf ?ha ?_); (case hf => walk_at "fact"); (case ha => rfl)))
local macro_rules | `(tactic| walk_at "run") => `(tactic| repeat walk_at "run1")
local macro_rules | `(tactic| walk_at "lit") => `(tactic| repeat (first
  | walk_at "run1"
  | with_reducible refine Gx.if_dno (by decide) ?_
  | with_reducible refine Gx.if_dy (by decide) ?_))

namespace Ch
open PySem L2
/-! a chain of two comparisons -/
noncomputable def ChP (r' : R2) (tc : TE) (y z : V) (σ : L2.St) (H : Hp) (Q : VK) : Prop := ∃ k, z = .bl k ∧ Gx.IfP k (tc σ H fun w H4 => r' y w H4 Q) (Q (.bl false) H)
theorem chain {r r' : R2} {ta tb tc : TE} {σ : L2.St} {H : Hp} {Q : VK} (q : ta σ H fun x H1 => tb σ H1 fun y H2 => r x y H2 fun z H3 => ChP r' tc y z σ H3 Q) : tChain r r' ta tb tc σ H Q := q
theorem chp {r' : R2} {tc : TE} {y z : V} {σ : L2.St} {H : Hp} {Q : VK} (k : Bool) (h : z = .bl k) (q : Gx.IfP k (tc σ H fun w H4 => r' y w H4 Q) (Q (.bl false) H)) : ChP r' tc y z σ H Q := ⟨k, h, q⟩
theorem nonA {P : Prop} (q : P) : V.non = V.non ∧ P := ⟨rfl, q⟩
section
variable {A1 A2 : Prop} {a : Addr} {H : Hp} {Q : VK}
theorem ifN_y {inst : Decidable (V.non = V.non)} (q : A1) : Gx.IfP (@decide (V.non = V.non) inst) A1 A2 := Gx.if_y (decide_eq_true rfl) q
theorem ifN_n {inst : Decidable (V.ref a = V.non)} (q : A2) : Gx.IfP (@decide (V.ref a = V.non) inst) A1 A2 := Gx.if_n (decide_eq_false (by simp)) q
theorem ifN_i {b : Int} {inst : Decidable (V.int b = V.non)} (q : A2) : Gx.IfP (@decide (V.int b = V.non) inst) A1 A2 := Gx.if_n (decide_eq_false (by simp)) q
theorem ifN_s {b : Str} {inst : Decidable (V.str b = V.non)} (q : A2) : Gx.IfP (@decide (V.str b = V.non) inst) A1 A2 := Gx.if_n (decide_eq_false (by simp)) q
theorem nfN_y {inst : Decidable (V.non = V.non)} (q : A2) : Gx.IfP (!@decide (V.non = V.non) inst) A1 A2 := Gx.if_n (by rw [decide_eq_true rfl]; rfl) q
theorem nfN_n {inst : Decidable (V.ref a = V.non)} (q : A1) : Gx.IfP (!@decide (V.ref a = V.non) inst) A1 A2 := Gx.if_y (by rw [decide_eq_false (by simp)]; rfl) q
theorem nfN_i {b : Int} {inst : Decidable (V.int b = V.non)} (q : A1) : Gx.IfP (!@decide (V.int b = V.non) inst) A1 A2 := Gx.if_y (by rw [decide_eq_false (by simp)]; rfl) q
theorem nfN_s {b : Str} {inst : Decidable (V.str b = V.non)} (q : A1) : Gx.IfP (!@decide (V.str b = V.non) inst) A1 A2 := Gx.if_y (by rw [decide_eq_false (by simp)]; rfl) q
end
end Ch
local macro_rules | `(tactic| walk_at "run1") => `(tactic| (first
  | with_reducible refine Ch.chain ?_
  | ((with_reducible refine' Ch.chp _ ?h ?_); (case h => rfl))
  | with_reducible refine Ch.nonA ?_
  | with_reducible refine Ch.ifN_y ?_
  | with_reducible refine Ch.ifN_n ?_
  | with_reducible refine Ch.ifN_i ?_
  | with_reducible refine Ch.ifN_s ?_
  | with_reducible refine Ch.nfN_y ?_
  | with_reducible refine Ch.nfN_n ?_
  | with_reducible refine Ch.nfN_i ?_
  | with_reducible refine Ch.nfN_s ?_))

namespace Gd
open PySem L2
/-- tiles beside one another -/
noncomputable def ac (n t : Nat) : Nat := (n + t - 1) / t
theorem ac_int {n t : Nat} (ht : 0 < t) : ((n : Int) + (t : Int) - 1) / (t : Int) = ((ac n t : Nat) : Int) := by
  unfold ac
  rw [Int.natCast_ediv]
  congr 1
  omega
theorem ac_pos {n t : Nat} (hn : 0 < n) (ht : 0 < t) : 0 < ac n t := by
  unfold ac
  exact Nat.div_pos (by omega) ht
theorem ac_le {n t : Nat} (ht : 0 < t) : ac n t ≤ n := by
  unfold ac
  rcases Nat.eq_zero_or_pos n with h | h
  · subst h; rw [Nat.zero_add]; rw [Nat.div_eq_of_lt (by omega)]; exact Nat.le_refl _
  · have := Nat.div_le_of_le_mul (m := n + t - 1) (k := t) (n := n) (by
      have : t * n = t * (n - 1) + t := by rw [← Nat.mul_succ]; congr 1; omega
      have : n - 1 ≤ t * (n - 1) := Nat.le_mul_of_pos_left _ ht
      omega)
    exact this
/-- so large a picture may be -/
theorem room {w h c : Nat} (hh : h ≤ 3072 / (w * c)) (hp : 0 < w * c) : w * h * c ≤ 3072 := by
  have e := (Nat.le_div_iff_mul_le hp).mp hh
  rw [Nat.mul_right_comm, Nat.mul_comm]; exact e
/-- the side of the k-th tile -/
noncomputable def sd (n t k : Nat) : Nat := min t (n - k * t)
theorem ac_mul {n t k : Nat} (ht : 0 < t) (hk : k < ac n t) : k * t < n := by
  unfold ac at hk
  have h := (Nat.le_div_iff_mul_le ht).mp (Nat.succ_le_of_lt hk)
  rw [Nat.succ_mul] at h
  omega
theorem sd_int {n t k : Nat} (ht : 0 < t) (hk : k < ac n t) : (if (n : Int) - ((k * t : Nat) : Int) < (t : Int) then (n : Int) - ((k * t : Nat) : Int) else (t : Int)) = ((sd n t k : Nat) : Int) := by
  have := ac_mul ht hk
  unfold sd
  generalize k * t = m at *
  split <;> omega
/-- the columns of one tile -/
theorem side {t k : Nat} (ht : 0 < t) : ∀ n, ((List.range n).filter fun i => decide (i / t = k)) = List.range' (k * t) (sd n t k)
  | 0 => by unfold sd; rw [Nat.zero_sub, Nat.min_zero]; rfl
  | n + 1 => by
    rw [List.range_succ, List.filter_append, side ht n]
    have d1 := Nat.div_mul_le_self n t
    have d2 := Nat.lt_div_mul_add (a := n) ht
    by_cases h : n / t = k
    · rw [List.filter_cons, if_pos (decide_eq_true h)]
      subst h
      have e1 : sd n t (n / t) = n - n / t * t := by unfold sd; omega
      have e2 : sd (n + 1) t (n / t) = (n - n / t * t) + 1 := by unfold sd; omega
      rw [e1, e2, List.range'_concat]
      congr 2
      omega
    · rw [List.filter_cons, if_neg (by simpa using h)]
      have e : sd (n + 1) t k = sd n t k := by
        unfold sd
        rcases Nat.lt_or_ge n (k * t) with z | z
        · omega
        · have : k < n / t := by
            rcases Nat.lt_trichotomy (n / t) k with y | y | y
            · have := (Nat.div_lt_iff_lt_mul ht).mp y; omega
            · exact absurd y h
            · exact y
          have g := (Nat.le_div_iff_mul_le ht).mp (Nat.succ_le_of_lt this)
          rw [Nat.succ_mul] at g
          omega
      rw [e]
      show List.range' _ _ ++ [] = _
      rw [List.append_nil]
theorem sd_pos {n t k : Nat} (ht : 0 < t) (hk : k < ac n t) : 0 < sd n t k := by
  have := ac_mul ht hk
  unfold sd; omega
end Gd

namespace Gy
open PySem L2
/-- the gray bit of v in plane p -/
noncomputable def gb (v p : Nat) : Nat := (v / 2 ^ p + v / 2 ^ (p + 1)) % 2
theorem gb_int (v p : Nat) : Builtin.bitAnd (Builtin.bitXor ((v : Int) / 2 ^ (p : Int).toNat) ((v : Int) / 2 ^ ((p : Int) + 1).toNat)) 1 = ((gb v p : Nat) : Int) := by
  have e1 : (p : Int).toNat = p := rfl
  have e2 : ((p : Int) + 1).toNat = p + 1 := by omega
  have c (k : Nat) : (v : Int) / 2 ^ k = ((v / 2 ^ k : Nat) : Int) := by
    rw [Int.natCast_ediv, Int.natCast_pow]; rfl
  rw [e1, e2, c, c, Bits.bitXor_pp (Int.natCast_nonneg _) (Int.natCast_nonneg _), Int.toNat_natCast, Int.toNat_natCast]
  have h := Bits.bitAnd_mask (x := ((v / 2 ^ p ^^^ v / 2 ^ (p + 1) : Nat) : Int)) 1 (Int.natCast_nonneg _)
  rw [show (2 : Int) ^ 1 - 1 = 1 by decide] at h
  rw [h]
  have x := @Nat.xor_mod_two_eq_one (v / 2 ^ p) (v / 2 ^ (p + 1))
  unfold gb
  omega
theorem gb_le (v p : Nat) : gb v p ≤ 1 := by unfold gb; omega
/-- the value of gray bits from the highest plane on -/
noncomputable def vstep (v g : Nat) : Nat := v * 2 + (g ^^^ v % 2)
noncomputable def val (gs : List Nat) : Nat := gs.foldl vstep 0
theorem vstep_int (v g : Nat) : (v : Int) * 2 + Builtin.bitXor (g : Int) (Builtin.bitAnd (v : Int) 1) = ((vstep v g : Nat) : Int) := by
  have h := Bits.bitAnd_mask (x := (v : Int)) 1 (Int.natCast_nonneg _)
  rw [show (2 : Int) ^ 1 - 1 = 1 by decide, show (2 : Int) ^ 1 = ((2 : Nat) : Int) by decide, ← Int.natCast_emod] at h
  rw [h, Bits.bitXor_pp (Int.natCast_nonneg _) (Int.natCast_nonneg _), Int.toNat_natCast, Int.toNat_natCast]
  unfold vstep
  omega
theorem val_take {gs : List Nat} {i g : Nat} (h : gs[i]? = some g) : ((val (gs.take (i + 1)) : Nat) : Int) = (val (gs.take i) : Int) * 2 + Builtin.bitXor (g : Int) (Builtin.bitAnd (val (gs.take i) : Int) 1) := by
  rw [vstep_int]
  unfold val
  rw [List.take_add_one, h, List.foldl_append]
  rfl

/-- the gray bits of the planes below n, the highest first -/
noncomputable def grays (v n : Nat) : List Nat := (List.range n).map fun i => gb v (n - 1 - i)
theorem pw (p : Nat) : (1 : Int) * 2 ^ ((p : Nat) : Int).toNat = ((2 ^ p : Nat) : Int) := by
  rw [Int.toNat_natCast, Int.one_mul, Int.natCast_pow]; rfl
theorem pw1 (p : Nat) : (1 : Int) * 2 ^ ((p : Int) + 1).toNat = ((2 ^ (p + 1) : Nat) : Int) := by
  rw [show ((p : Int) + 1).toNat = p + 1 by omega, Int.one_mul, Int.natCast_pow]; rfl
theorem dw {v : Int} {p : Nat} (h : p ≤ 8000) : CDivW v ((2 ^ p : Nat) : Int) := by
  refine wide_div (b := p + 1) ?_ ?_ (Nat.succ_pos _) (by omega)
  · exact Int.natCast_pos.mpr (Nat.two_pow_pos p)
  · rw [Int.natAbs_natCast]; exact Nat.pow_lt_pow_right (by decide) (Nat.lt_succ_self p)
theorem ne_gb (v p : Nat) : (if (!decide ((v : Int) / ((2 ^ p : Nat) : Int) % 2 = (v : Int) / ((2 ^ (p + 1) : Nat) : Int) % 2)) = true then (1 : Int) else 0) = ((gb v p : Nat) : Int) := by
  rw [← Int.natCast_ediv, ← Int.natCast_ediv]
  unfold gb
  generalize v / 2 ^ p = a
  generalize v / 2 ^ (p + 1) = b
  by_cases h : (a : Int) % 2 = (b : Int) % 2
  · rw [decide_eq_true h]
    simp only [Bool.not_true, Bool.false_eq_true, if_false]
    omega
  · rw [decide_eq_false h]
    simp only [Bool.not_false, if_true]
    omega
theorem grays_succ (v n : Nat) : grays v (n + 1) = gb v n :: grays v n := by
  unfold grays
  rw [List.range_succ_eq_map, List.map_cons, List.map_map]
  refine congr (congrArg List.cons (by simp)) ?_
  refine List.map_congr_left fun i hi => ?_
  show gb v (n + 1 - 1 - (i + 1)) = gb v (n - 1 - i)
  congr 1; omega
theorem xor_bit (a b : Nat) (hb : b ≤ 1) : (b ^^^ a % 2) % 2 = (b + a) % 2 ∧ b ^^^ a % 2 ≤ 1 := by
  have h : a % 2 = 0 ∨ a % 2 = 1 := by omega
  have h2 : b = 0 ∨ b = 1 := by omega
  rcases h with h | h <;> rcases h2 with h2 | h2 <;> subst h2 <;> rw [h] <;> simp <;> omega
theorem half (v n : Nat) : v / 2 ^ (n + 1) = v / 2 ^ n / 2 := by rw [Nat.pow_succ, Nat.div_div_eq_div_mul]
theorem vstep_gb (v n : Nat) : vstep (v / 2 ^ (n + 1)) (gb v n) = v / 2 ^ n := by
  unfold vstep gb
  rw [half]
  generalize v / 2 ^ n = a
  have h := xor_bit (a / 2) ((a + a / 2) % 2) (by omega)
  omega
theorem fold_grays (v : Nat) : ∀ n, (grays v n).foldl vstep (v / 2 ^ n) = v
  | 0 => by simp [grays]
  | n + 1 => by rw [grays_succ, List.foldl_cons, vstep_gb, fold_grays v n]
theorem val_grays {v n : Nat} (h : v < 2 ^ n) : val (grays v n) = v := by
  have e := fold_grays v n
  rw [Nat.div_eq_of_lt h] at e
  exact e
theorem fold_bits : ∀ (bs : List Nat) (u : Nat), (∀ b ∈ bs, b ≤ 1) → (bs.foldl vstep u) / 2 ^ bs.length = u ∧ grays (bs.foldl vstep u) bs.length = bs
  | [], u, _ => by simp [grays]
  | b :: bs, u, h => by
    obtain ⟨h1, h2⟩ := fold_bits bs (vstep u b) fun x hx => h x (List.mem_cons_of_mem _ hx)
    have hb := h b (List.mem_cons_self ..)
    rw [List.foldl_cons, List.length_cons]
    generalize hr : bs.foldl vstep (vstep u b) = r at *
    have x := xor_bit u b hb
    have e1 : r / 2 ^ (bs.length + 1) = u := by
      rw [half, h1]; unfold vstep; omega
    refine ⟨e1, ?_⟩
    rw [grays_succ, h2]
    congr 1
    unfold gb
    rw [e1, h1]; unfold vstep; omega
theorem grays_val {bs : List Nat} (h : ∀ b ∈ bs, b ≤ 1) : val bs < 2 ^ bs.length ∧ grays (val bs) bs.length = bs := by
  obtain ⟨h1, h2⟩ := fold_bits bs 0 h
  refine ⟨?_, h2⟩
  have h3 := (Nat.div_eq_zero_iff.mp h1)
  rcases h3 with h3 | h3
  · have := Nat.two_pow_pos bs.length; omega
  · exact h3
theorem nats_of {xs : List Int} (h : ∀ x ∈ xs, 0 ≤ x ∧ x < 2) : ∃ bs : List Nat, xs = bs.map (fun b : Nat => (b : Int)) ∧ ∀ b ∈ bs, b ≤ 1 := by
  refine ⟨xs.map Int.toNat, ?_, ?_⟩
  · rw [List.map_map]
    conv => lhs; rw [← List.map_id xs]
    refine List.map_congr_left fun x hx => ?_
    have := h x hx
    show x = ((x.toNat : Nat) : Int)
    omega
  · intro b hb
    obtain ⟨x, hx, rfl⟩ := List.mem_map.mp hb
    have := h x hx
    omega
end Gy

namespace Bx
open PySem L2
/-- a box of drawn digits: the list b holds the list p of ints and a place; all of H0 stands beside -/
structure Box (H0 H : Hp) (b p : Addr) (xs : List Int) : Prop where
  same : Same H0 H
  nb : H0 b = none
  np : H0 p = none
  bx : ∃ k : Nat, H b = some (.lst [.ref p, .int (k : Int)])
  dg : H p = some (.lst (xs.map V.int))
theorem Box.ne {H0 H : Hp} {b p : Addr} {xs : List Int} (B : Box H0 H b p xs) : p ≠ b := by
  obtain ⟨k, hk⟩ := B.bx
  intro e
  rw [← e, B.dg] at hk
  have h := Option.some.inj hk
  cases xs with
  | nil => cases h
  | cons x xs => cases h
/-- a new object beside -/
theorem Box.new {H0 H : Hp} {b p c : Addr} {xs : List Int} {o : HO} (B : Box H0 H b p xs) (hc : H c = none) : Box (upd H0 c o) (upd H c o) b p xs := by
  obtain ⟨k, hk⟩ := B.bx
  have h1 : b ≠ c := ne_of_none hk hc
  have h2 : p ≠ c := ne_of_none B.dg hc
  refine ⟨fun a u e => ?_, by rw [upd_ne h1]; exact B.nb, by rw [upd_ne h2]; exact B.np, ⟨k, by rw [upd_ne h1]; exact hk⟩, by rw [upd_ne h2]; exact B.dg⟩
  by_cases ha : a = c
  · subst ha; rw [upd_same] at e ⊢; exact e
  · rw [upd_ne ha] at e ⊢; exact B.same a u e
/-- what was made beside, in a heap that keeps all -/
theorem Box.keep {H0 H H' : Hp} {b p : Addr} {xs : List Int} (B : Box H0 H b p xs) (s : Same H H') : Box H0 H' b p xs := by
  obtain ⟨k, hk⟩ := B.bx
  exact ⟨B.same.trans s, B.nb, B.np, ⟨k, s _ _ hk⟩, s _ _ B.dg⟩
end Bx

namespace Nx
open PySem L2 Fx
section
variable {K : PySem.W.Frag} {R H S R0 R1 R2 S1 S2 H1 H2 H3 : Hp} {a b p l : Addr} {o u : HO} {xs ys : List V} {σ : L2.St} {Q : VK} {E : XK} {v : V}
/-- a box of drawn digits -/
structure Bo (R H : Hp) (b p : Addr) (xs : List Int) : Prop where
  bx : ∃ k : Nat, Own R H (one b (.lst [.ref p, .int (k : Int)]))
  dg : R p = some (.lst (xs.map V.int))
variable {ns : List Int}
theorem Bo.same (B : Bo R H b p ns) : Same R H := let ⟨_, O⟩ := B.bx; O.same
theorem Bo.new (B : Bo R H b p ns) (h : H a = none) : R a = none ∧ Bo (upd R a o) (upd H a o) b p ns := by
  obtain ⟨⟨k, O⟩, d⟩ := B
  exact ⟨(O.non h).1, ⟨k, Nx.new O h⟩, (Gx.same_new (O.non h).1) _ _ d⟩
/-- any rule that makes one new object -/
theorem Bo.made (B : Bo R H b p ns) (q : ∀ l R' H', R l = none → Bo R' H' b p ns → Same R R' → R' l = some o → Q (.ref l) H') : ∀ l, H l = none → Q (.ref l) (upd H l o) := fun l hl => q l _ _ (B.new hl (o := o)).1 (B.new hl).2 (Gx.same_new (B.new hl (o := o)).1) upd_same
variable {b0 : Addr}
theorem Bo.start (hb : H b = none) (hp : H p = some (.lst (ns.map V.int))) : Bo H (upd H b (.lst [.ref p, .int 0])) b p ns := ⟨⟨0, top1 hb⟩, hp⟩
/-- behind a call that leaves all that stands: a part R' that holds what is new -/
theorem Bo.grow (B : Bo R H b p ns) (s : Same H H1) : ∃ R', Bo R' H1 b p ns ∧ Same R R' ∧ ∀ a o, H a = none → H1 a = some o → R' a = some o := by
  obtain ⟨⟨k, O⟩, d⟩ := B
  have hs : Same R (fun a => if a = b then none else H1 a) := fun a x e => by
    by_cases c : a = b
    · rw [c, no1 O] at e; cases e
    · show (if a = b then none else H1 a) = some x
      rw [if_neg c]; exact s _ _ (O.same _ _ e)
  refine ⟨fun a => if a = b then none else H1 a, ⟨⟨k, mk1 (if_pos rfl) trivial (s _ _ (at1 O)) fun c hc => (if_neg hc).symm⟩, hs _ _ d⟩, hs, fun a x e q => ?_⟩
  have c : a ≠ b := fun c => by rw [c, at1 O] at e; cases e
  show (if a = b then none else H1 a) = some x
  rw [if_neg c]; exact q
theorem Bo.step (B : Bo R H b p ns) : ∃ S, Own R H S ∧ ∀ R' H', Own R' H' S → Same R R' → Bo R' H' b p ns := by
  obtain ⟨⟨k, O⟩, d⟩ := B
  exact ⟨_, O, fun R' H' O' s => ⟨⟨k, O'⟩, s _ _ d⟩⟩
end
end Nx
local macro_rules | `(tactic| walk_at "xsame1") => `(tactic| exact Nx.Bo.same (by assumption))
local macro_rules | `(tactic| walk_at "fact") => `(tactic| exact Nx.Bo.dg (by assumption))

namespace Pq
open PySem L2
/-- the rows of a picture: whether they are right -/
noncomputable def rowOk (n d : Nat) (r : List Int) : Prop := r.length = n ∧ ∀ z ∈ r, 0 ≤ z ∧ z < ((2 ^ d : Nat) : Int)
noncomputable def rowsOk (n d c : Nat) (rows : List (List Int)) : Prop := rows.length = c ∧ ∀ r ∈ rows, rowOk n d r
noncomputable instance (n d : Nat) (r : List Int) : Decidable (rowOk n d r) := inferInstanceAs (Decidable (_ ∧ _))
noncomputable instance (n d c : Nat) (rows : List (List Int)) : Decidable (rowsOk n d c rows) := inferInstanceAs (Decidable (_ ∧ _))
noncomputable def pictBad (w h d c : Int) (rows : List (List Int)) : Option Str := match Sx.kindBad w h d c with
  | some z => some z
  | none => if w * h * c > 3072 then some "size" else if rowsOk (w * h).toNat d.toNat c.toNat rows then none else some "values"
/-- rows as they stand -/
noncomputable def RW (H : Hp) (l : Addr) (rows : List (List Int)) : Prop := Gx.LL H l rows.length (fun j => rows.getD j [])
theorem RW.keep {H H' : Hp} {l : Addr} {rows : List (List Int)} (x : RW H l rows) (s : Same H H') : RW H' l rows := Gx.LL.keep x s
theorem RW.all {H : Hp} {l : Addr} {rows : List (List Int)} (x : RW H l rows) : ∃ xs, H l = some (.lst xs) ∧ xs.length = rows.length ∧ ∀ j v, xs[j]? = some v → ∃ a, v = .ref a ∧ j < rows.length ∧ H a = some (.lst ((rows.getD j []).map V.int)) := by
  obtain ⟨ps, h1, h2, h3⟩ := x
  refine ⟨_, h1, by rw [List.length_map]; exact h2, fun j v e => ?_⟩
  rw [List.getElem?_map] at e
  cases ea : ps[j]? with
  | none => rw [ea] at e; cases e
  | some a =>
    rw [ea] at e
    have hj := (List.getElem?_eq_some_iff.mp ea).1
    exact ⟨a, (Option.some.inj e).symm, by omega, h3 j a ea⟩
theorem rowsAt {rows : List (List Int)} {j : Nat} (h : j < rows.length) : rows.getD j [] ∈ rows := by
  rw [List.getD_eq_getElem?_getD, List.getElem?_eq_getElem h]; exact List.getElem_mem h
theorem eqvRows : ∀ xs ys : List (List Int), PyData.eqvAll (xs.map fun r => PyData.list (r.map PyData.int)) (ys.map fun r => PyData.list (r.map PyData.int)) = decide (xs = ys)
  | [], [] => by simp [PyData.eqvAll]
  | [], _ :: _ => by simp [PyData.eqvAll]
  | _ :: _, [] => by simp [PyData.eqvAll]
  | x :: xs, y :: ys => by
    simp only [List.map_cons, PyData.eqvAll, PyData.eqv, eqvRows xs ys, Gx.eqvAll_int]
    by_cases h : x = y
    · subst h; simp
    · simp [h]
theorem rows_range (rows : List (List Int)) : (List.range rows.length).map (fun j => rows.getD j []) = rows := by
  refine List.ext_getElem (by simp) fun i h1 h2 => ?_
  rw [List.getElem_map, List.getElem_range, List.getD_eq_getElem?_getD, List.getElem?_eq_getElem h2]; rfl
theorem RW.dp {K : PySem.W.Frag} {H : Hp} {l : Addr} {rows : List (List Int)} (x : RW H l rows) : Dp K H (.ref l) (.list (rows.map fun r => PyData.list (r.map PyData.int))) := by
  have := Gx.LL.dp (K := K) x
  rw [rows_range] at this
  exact this
theorem eqRW {K : PySem.W.Frag} {H : Hp} {Q : VK} {l m : Addr} {xs ys : List (List Int)} (x : RW H l xs) (y : RW H m ys) (q : Q (.bl (decide (xs = ys))) H) : rEqD K (.ref l) (.ref m) H Q :=
  ⟨_, _, x.dp, y.dp, Gx.shaped_lists _, Gx.shaped_lists _, by rw [show PyData.eqv (.list (xs.map fun r => PyData.list (r.map PyData.int))) (.list (ys.map fun r => PyData.list (r.map PyData.int))) = decide (xs = ys) from eqvRows xs ys]; exact q⟩
theorem RW.of {H : Hp} {l : Addr} {n : Nat} {f : Nat → List Int} {rows : List (List Int)} (x : Gx.LL H l n f) (hn : rows.length = n) (e : ∀ j, j < n → f j = rows.getD j []) : RW H l rows := by
  subst hn
  exact Gx.LL.congr x e
/-- new rows, all different -/
noncomputable def LN (H0 H : Hp) (l : Addr) (n : Nat) (f : Nat → List Int) : Prop := ∃ ps : List Addr, H l = some (.lst (ps.map V.ref)) ∧ ps.length = n ∧ ps.Nodup ∧ (∀ a ∈ ps, H0 a = none ∧ a ≠ l) ∧ ∀ j a, ps[j]? = some a → H a = some (.lst ((f j).map V.int))
theorem LN.ll {H0 H : Hp} {l : Addr} {n : Nat} {f : Nat → List Int} (x : LN H0 H l n f) : Gx.LL H l n f := by
  obtain ⟨ps, h1, h2, _, _, h5⟩ := x
  exact ⟨ps, h1, h2, h5⟩
theorem lcLN {K : PySem.W.Frag} {σ : L2.St} {H : Hp} {Q : VK} {t : TT} {te : TE} {J : It} {n : Nat} {G : Hp → Prop} {Y : Nat → Hp → V → Hp → Prop} {g : TG} {vs : List Nat} (w : Walk J n G Y) (hn : n < 16777216) (f : Nat → List Int) (hG : ∀ H', Same H H' → G H') (hY : ∀ i H x H', Y i H x H' → Same H H')
    (hs : ∀ i x H1 H' (R : V → Hp → Prop) (R0 : Hp → Prop), i < n → Same H H1 → Y i H1 x H' → (∀ p H4, H' p = none → Same H' H4 → H4 p = some (.lst ((f i).map V.int)) → R (.ref p) H4) →
      g x (wipe σ vs) H' fun σ2 H2 => Gx.WP (wipe σ2 vs = wipe σ vs) (t σ2 H2 fun b H3 => Gx.IfP b (te σ2 H3 R) (R0 H3)))
    (q : ∀ p H2, H p = none → Same H H2 → LN H H2 p n f → Q (.ref p) H2) : Gx.LcP J g t te vs σ Q H := fun p hp => by
  refine lc_it w (fun i H' => Same H H' ∧ LN H H' p i f) ⟨Gx.same_new hp, [], upd_same, rfl, List.nodup_nil, (fun a h => nomatch h), fun j a e => nomatch e⟩ (fun i H' _ h => hG H' h.1) (fun i x H1 H' hi h y => ?_) (fun H' h => q p H' hp h.1 h.2)
  obtain ⟨h1, ps, e1, e2, e3, e4, e5⟩ := h
  have s1 := hY i H1 x H' y
  refine hs i x H1 H' _ _ hi h1 y (fun a H4 hf s4 ha => ?_)
  have hap : a ≠ p := (ne_of_none (s1 _ _ e1) hf).symm
  have hnm : a ∉ ps := fun hm => by
    obtain ⟨j, hj⟩ := List.getElem?_of_mem hm
    have := s1 _ _ (e5 j a hj)
    rw [hf] at this; cases this
  refine ⟨ps.map V.ref, s4 _ _ (s1 _ _ e1), by rw [List.length_map, sizeLine_eq]; omega, Gx.same_up hp (h1.trans (s1.trans s4)), ps ++ [a], by rw [upd_same, List.map_append]; rfl, by rw [List.length_append, e2]; rfl, ?_, fun b hb => ?_, fun j b eb => ?_⟩
  · refine List.nodup_append.mpr ⟨e3, List.pairwise_singleton _ _, fun b hb c hc => ?_⟩
    rw [List.mem_singleton.mp hc]
    rintro rfl
    exact hnm hb
  · rcases List.mem_append.mp hb with hb | hb
    · exact e4 b hb
    · rw [List.mem_singleton.mp hb]
      exact ⟨h1.free (s1.free hf), hap⟩
  · by_cases hj : j < ps.length
    · rw [List.getElem?_append_left hj] at eb
      rw [upd_ne (e4 b (List.mem_of_getElem? eb)).2]
      exact s4 _ _ (s1 _ _ (e5 j b eb))
    · rw [List.getElem?_append_right (by omega)] at eb
      have hj2 : j - ps.length = 0 := by
        rcases Nat.eq_zero_or_pos (j - ps.length) with z | z
        · exact z
        · rw [List.getElem?_eq_none (by show 1 ≤ _; omega)] at eb; cases eb
      rw [hj2] at eb
      cases eb
      rw [upd_ne hap, show j = i by omega]; exact ha
/-- one number of one row changed -/
theorem LN.put {H0 H : Hp} {l : Addr} {n j k : Nat} {f : Nat → List Int} {z : Int} (x : LN H0 H l n f) (hj : j < n) : ∃ xs a, H l = some (.lst xs) ∧ atI xs (j : Int) = some (.ref a) ∧ H a = some (.lst ((f j).map V.int)) ∧ H0 a = none ∧ LN H0 (upd H a (.lst (((f j).set k z).map V.int))) l n (fun i => if i = j then (f j).set k z else f i) := by
  obtain ⟨ps, e1, e2, e3, e4, e5⟩ := x
  have hj2 : j < ps.length := by omega
  have ha := e5 j _ (List.getElem?_eq_getElem hj2)
  have hm := e4 _ (List.getElem_mem hj2)
  refine ⟨_, ps[j], e1, atI_nat (by rw [List.getElem?_map, List.getElem?_eq_getElem hj2]; rfl), ha, hm.1, ps, by rw [upd_ne (Ne.symm hm.2)]; exact e1, e2, e3, e4, fun i b eb => ?_⟩
  dsimp only
  by_cases hij : i = j
  · subst hij
    rw [List.getElem?_eq_getElem hj2] at eb
    cases eb
    rw [upd_same, if_pos rfl]
  · have hb : b ≠ ps[j] := fun hb => hij (by
      have hi2 := (List.getElem?_eq_some_iff.mp eb).1
      exact (List.getElem?_inj hi2 e3).mp (by rw [eb, List.getElem?_eq_getElem hj2, hb]))
    rw [upd_ne hb, if_neg hij]; exact e5 i b eb
/-- rows and where they stand -/
noncomputable def RP (H : Hp) : List Addr → List (List Int) → Prop
  | [], [] => True
  | a :: ps, r :: rs => H a = some (.lst (r.map V.int)) ∧ RP H ps rs
  | _, _ => False
theorem RP.of {H : Hp} : ∀ {ps : List Addr} {rows : List (List Int)}, ps.length = rows.length → (∀ j a, ps[j]? = some a → H a = some (.lst ((rows.getD j []).map V.int))) → RP H ps rows
  | [], [], _, _ => trivial
  | a :: ps, r :: rs, hl, h => ⟨h 0 a rfl, RP.of (Nat.succ.inj hl) fun j b e => by have := h (j + 1) b (by simpa using e); simpa using this⟩
  | [], _ :: _, hl, _ => by cases hl
  | _ :: _, [], hl, _ => by cases hl
theorem RP.to {H : Hp} : ∀ {ps : List Addr} {rows : List (List Int)}, RP H ps rows → ps.length = rows.length ∧ ∀ j a, ps[j]? = some a → H a = some (.lst ((rows.getD j []).map V.int))
  | [], [], _ => ⟨rfl, fun j a e => by cases e⟩
  | a :: ps, r :: rs, h => by
    obtain ⟨h1, h2⟩ := RP.to h.2
    refine ⟨congrArg (· + 1) h1, fun j b e => ?_⟩
    cases j with
    | zero => cases e; exact h.1
    | succ j => have := h2 j b (by simpa using e); simpa using this
  | [], _ :: _, h => h.elim
  | _ :: _, [], h => h.elim
theorem RP.app {H : Hp} : ∀ {ps qs : List Addr} {rows rs : List (List Int)}, RP H ps rows → RP H qs rs → RP H (ps ++ qs) (rows ++ rs)
  | [], _, [], _, _, h => h
  | _ :: _, _, _ :: _, _, h, g => ⟨h.1, RP.app h.2 g⟩
  | [], _, _ :: _, _, h, _ => h.elim
  | _ :: _, _, [], _, h, _ => h.elim
theorem RP.take {H : Hp} : ∀ {k : Nat} {ps : List Addr} {rows : List (List Int)}, RP H ps rows → RP H (ps.take k) (rows.take k)
  | 0, _, _, _ => trivial
  | _ + 1, [], [], _ => trivial
  | _ + 1, _ :: _, _ :: _, h => ⟨h.1, RP.take h.2⟩
  | _ + 1, [], _ :: _, h => h.elim
  | _ + 1, _ :: _, [], h => h.elim
theorem RP.keep {H H' : Hp} (s : Same H H') : ∀ {ps : List Addr} {rows : List (List Int)}, RP H ps rows → RP H' ps rows
  | [], [], _ => trivial
  | _ :: _, _ :: _, h => ⟨s _ _ h.1, RP.keep s h.2⟩
  | [], _ :: _, h => h.elim
  | _ :: _, [], h => h.elim
theorem RP.rw {H : Hp} {l : Addr} {ps : List Addr} {rows : List (List Int)} (h : H l = some (.lst (ps.map V.ref))) (x : RP H ps rows) : RW H l rows := ⟨ps, h, x.to.1, x.to.2⟩
theorem LN.down {H0 H R : Hp} {l : Addr} {n : Nat} {f : Nat → List Int} (x : LN H0 H l n f) (hl : H0 l = none) (g : ∀ a o, H0 a = none → H a = some o → R a = some o) : Gx.LL R l n f := by
  obtain ⟨ps, h1, h2, _, h4, h5⟩ := x
  exact ⟨ps, g _ _ hl h1, h2, fun j a e => g _ _ (h4 a (List.mem_of_getElem? e)).1 (h5 j a e)⟩
theorem rowOk_getD {n d c j : Nat} {f : List (List Int)} (ok : rowsOk n d c f) (h : j < c) : rowOk n d (f.getD j []) := ok.2 _ (rowsAt (by have := ok.1; omega))
theorem rowsOk_range {n d c : Nat} {f : Nat → List Int} (h : ∀ j, j < c → (f j).length = n ∧ ∀ z ∈ f j, 0 ≤ z ∧ z < ((2 ^ d : Nat) : Int)) : rowsOk n d c ((List.range c).map f) := by
  refine ⟨by simp, fun r hr => ?_⟩
  obtain ⟨j, hj, rfl⟩ := List.mem_map.mp hr
  exact h j (List.mem_range.mp hj)
theorem getD_range {c j : Nat} {f : Nat → List Int} (h : j < c) : ((List.range c).map f).getD j [] = f j := by
  rw [List.getD_eq_getElem?_getD, List.getElem?_map, List.getElem?_range h]; rfl
theorem LN.keep {H0 H H' : Hp} {l : Addr} {n : Nat} {f : Nat → List Int} (x : LN H0 H l n f) (s : Same H H') : LN H0 H' l n f := by
  obtain ⟨ps, h1, h2, h3, h4, h5⟩ := x
  exact ⟨ps, s _ _ h1, h2, h3, h4, fun j a e => s _ _ (h5 j a e)⟩
/-- one row taken to be changed -/
theorem LN.at {H0 H : Hp} {l : Addr} {n j : Nat} {f : Nat → List Int} (x : LN H0 H l n f) (hj : j < n) : ∃ xs a, H l = some (.lst xs) ∧ xs.length = n ∧ atI xs (j : Int) = some (.ref a) ∧ H a = some (.lst ((f j).map V.int)) ∧ H0 a = none ∧ a ≠ l ∧ ∀ (H' : Hp) (ys : List Int), Same H H' → LN H0 (upd H' a (.lst (ys.map V.int))) l n (fun i => if i = j then ys else f i) := by
  obtain ⟨ps, e1, e2, e3, e4, e5⟩ := x
  have hj2 : j < ps.length := by omega
  have ha := e5 j _ (List.getElem?_eq_getElem hj2)
  have hm := e4 _ (List.getElem_mem hj2)
  refine ⟨_, ps[j], e1, by rw [List.length_map]; exact e2, atI_nat (by rw [List.getElem?_map, List.getElem?_eq_getElem hj2]; rfl), ha, hm.1, hm.2, fun H' ys s => ⟨ps, by rw [upd_ne (Ne.symm hm.2)]; exact s _ _ e1, e2, e3, e4, fun i b eb => ?_⟩⟩
  dsimp only
  by_cases hij : i = j
  · subst hij
    rw [List.getElem?_eq_getElem hj2] at eb
    cases eb
    rw [upd_same, if_pos rfl]
  · have hb : b ≠ ps[j] := fun hb => hij (by
      have hi2 := (List.getElem?_eq_some_iff.mp eb).1
      exact (List.getElem?_inj hi2 e3).mp (by rw [eb, List.getElem?_eq_getElem hj2, hb]))
    rw [upd_ne hb, if_neg hij]; exact s _ _ (e5 i b eb)
/-- a row more, a row less -/
theorem LN.more {H0 H H' : Hp} {l t : Addr} {f : List (List Int)} {ys : List Int} (x : LN H0 H l f.length (fun j => f.getD j [])) (s : Same H H') (ht : H' t = some (.lst (ys.map V.int))) (ne : t ≠ l) : ∃ xs, H l = some (.lst xs) ∧ xs.length = f.length ∧ RW (upd H' l (.lst (xs ++ [.ref t]))) l (f ++ [ys]) := by
  obtain ⟨ps, h1, h2, h3, h4, h5⟩ := x
  refine ⟨_, h1, by rw [List.length_map]; exact h2, RP.rw (ps := ps ++ [t]) (by rw [upd_same, List.map_append]; rfl) (RP.app (RP.of h2 fun j a e => ?_) ⟨by rw [upd_ne ne]; exact ht, trivial⟩)⟩
  rw [upd_ne (h4 a (List.mem_of_getElem? e)).2]
  exact s _ _ (h5 j a e)
theorem LN.less {H0 H H' : Hp} {l : Addr} {f : List (List Int)} (x : LN H0 H l f.length (fun j => f.getD j [])) (s : Same H H') (hf : 1 ≤ f.length) : ∃ xs y, H l = some (.lst xs) ∧ xs[xs.length - 1]? = some y ∧ RW (upd H' l (.lst xs.dropLast)) l f.dropLast := by
  obtain ⟨ps, h1, h2, h3, h4, h5⟩ := x
  have hp : ps.length - 1 < ps.length := by omega
  refine ⟨_, .ref ps[ps.length - 1], h1, by rw [List.length_map, List.getElem?_map, List.getElem?_eq_getElem hp]; rfl, RP.rw (ps := ps.dropLast) (by rw [upd_same, List.map_dropLast]) ?_⟩
  rw [List.dropLast_eq_take (l := ps), List.dropLast_eq_take (l := f), h2]
  refine RP.take (RP.of h2 fun j a e => ?_)
  rw [upd_ne (h4 a (List.mem_of_getElem? e)).2]
  exact s _ _ (h5 j a e)
end Pq

namespace Gd
open PySem L2
noncomputable def xr (a b : Nat) : Nat := if a = b then 0 else 1
theorem xr_int {a b : Nat} (ha : a ≤ 1) (hb : b ≤ 1) : Builtin.bitXor (a : Int) (b : Int) = ((xr a b : Nat) : Int) := by
  have h1 : a = 0 ∨ a = 1 := by omega
  have h2 : b = 0 ∨ b = 1 := by omega
  rcases h1 with e | e <;> rcases h2 with e2 | e2 <;> subst e <;> subst e2 <;> decide +kernel
theorem xr_ne (a b : Nat) : (if (!decide ((b : Int) = (a : Int))) = true then (1 : Int) else 0) = ((xr a b : Nat) : Int) := by
  unfold xr
  by_cases h : a = b
  · subst h; rw [decide_eq_true rfl, if_pos rfl]; rfl
  · rw [decide_eq_false (fun z => h (by omega)), if_neg h]; rfl
noncomputable def vl (f : Nat → List Int) (j k : Nat) : Nat := ((f j).getD k 0).toNat
/-- the stored bit -/
noncomputable def sb (f : Nat → List Int) (c j k p : Nat) : Nat :=
  if c = 1 then Gy.gb (vl f 0 k) p else if j = 0 then Gy.gb (vl f 1 k) p else xr (Gy.gb (vl f 1 k) p) (Gy.gb (vl f (if j = 1 then 0 else 2) k) p)
theorem getD_mem {xs : List Int} {k : Nat} (h : k < xs.length) : xs.getD k 0 ∈ xs := by
  rw [List.getD_eq_getElem?_getD, List.getElem?_eq_getElem h]; exact List.getElem_mem h
theorem vl_int {f : Nat → List Int} {j k : Nat} (h : k < (f j).length) (hz : ∀ z ∈ f j, 0 ≤ z) : (f j).getD k 0 = ((vl f j k : Nat) : Int) := by
  unfold vl
  rw [Int.toNat_of_nonneg (hz _ (getD_mem h))]
end Gd

namespace Gd
/-- the tile of a pixel, and its place there -/
noncomputable def tileOf (w t n : Nat) : Nat := n / w / t * ac w t + n % w / t
noncomputable def placeOf (w t n : Nat) : Nat := n / w % t * sd w t (n % w / t) + n % w % t
theorem lt_ac {n t m : Nat} (ht : 0 < t) (h : m < n) : m / t < ac n t := by
  unfold ac
  refine (Nat.lt_div_iff_mul_lt ht).mpr ?_
  have := Nat.div_mul_le_self m t
  omega
theorem tile_mod {w t n : Nat} (hw : 0 < w) (ht : 0 < t) : tileOf w t n % ac w t = n % w / t := by
  unfold tileOf
  rw [Nat.mul_comm, Nat.mul_add_mod, Nat.mod_eq_of_lt (lt_ac ht (Nat.mod_lt _ hw))]
theorem tile_div {w t n : Nat} (hw : 0 < w) (ht : 0 < t) : tileOf w t n / ac w t = n / w / t := by
  unfold tileOf
  have p := ac_pos hw ht
  rw [Nat.mul_comm, Nat.mul_add_div p, Nat.div_eq_of_lt (lt_ac ht (Nat.mod_lt _ hw)), Nat.add_zero]
theorem tile_lt {w h t n : Nat} (hw : 0 < w) (ht : 0 < t) (hn : n < w * h) : tileOf w t n < ac w t * ac h t := by
  have a := lt_ac (n := w) ht (Nat.mod_lt n hw)
  have b := lt_ac (n := h) ht (Nat.div_lt_of_lt_mul hn)
  have c := Nat.mul_le_mul_right (ac w t) (Nat.succ_le_of_lt b)
  rw [Nat.succ_mul, Nat.mul_comm (ac h t)] at c
  unfold tileOf
  omega
end Gd

namespace Gd
/-- the k-th key: channel, tile, plane -/
noncomputable def ky (T c d k : Nat) : List Int := [(k : Int) / (T : Int) % (c : Int), (k : Int) % (T : Int), (d : Int) - 1 - (k : Int) / (T : Int) / (c : Int)]
theorem ky_of {T c d i j l : Nat} (hj : j < c) (hl : l < T) : ky T c d ((i * c + j) * T + l) = [(j : Int), (l : Int), (d : Int) - 1 - (i : Int)] := by
  have e1 : ((i * c + j) * T + l) / T = i * c + j := by
    rw [Nat.mul_comm, Nat.mul_add_div (by omega), Nat.div_eq_of_lt hl, Nat.add_zero]
  have e2 : ((i * c + j) * T + l) % T = l := by rw [Nat.mul_comm, Nat.mul_add_mod, Nat.mod_eq_of_lt hl]
  have e3 : (i * c + j) / c = i := by rw [Nat.mul_comm, Nat.mul_add_div (by omega), Nat.div_eq_of_lt hj, Nat.add_zero]
  have e4 : (i * c + j) % c = j := by rw [Nat.mul_comm, Nat.mul_add_mod, Nat.mod_eq_of_lt hj]
  unfold ky
  rw [← Int.natCast_ediv, ← Int.natCast_emod, ← Int.natCast_emod, ← Int.natCast_ediv, e1, e2, e3, e4]
theorem ky_at {T c d k : Nat} (hc : 0 < c) : ky T c d k = [((k / T % c : Nat) : Int), ((k % T : Nat) : Int), (d : Int) - 1 - ((k / T / c : Nat) : Int)] := by
  unfold ky
  rw [Int.natCast_emod, Int.natCast_emod, Int.natCast_ediv, Int.natCast_ediv, Int.natCast_ediv]
theorem ky_back {T c k : Nat} : (k / T / c * c + k / T % c) * T + k % T = k := by
  rw [Nat.div_add_mod' (k / T) c, Nat.div_add_mod' k T]
end Gd

namespace Gd
open PySem L2
/-- the m-th pixel of tile k -/
noncomputable def pix (w t k m : Nat) : Nat := (k / ac w t * t + m / sd w t (k % ac w t)) * w + (k % ac w t * t + m % sd w t (k % ac w t))
theorem made_flat (W : Nat) (hW : 0 < W) (f : Nat → Nat → V) : ∀ i, Gx.made W f i = (List.range (i * W)).map fun m => f (m / W) (m % W)
  | 0 => by simp [Gx.made]
  | i + 1 => by
    rw [Gx.made_succ, made_flat W hW f i, Nat.succ_mul, List.range_add, List.map_append, List.map_map]
    congr 1
    refine List.map_congr_left fun j hj => ?_
    have hj2 := List.mem_range.mp hj
    show f i j = f ((i * W + j) / W) ((i * W + j) % W)
    rw [Nat.mul_comm, Nat.mul_add_div hW, Nat.div_eq_of_lt hj2, Nat.add_zero, Nat.mul_add_mod, Nat.mod_eq_of_lt hj2]
section
variable {w h t k m n : Nat} (hw : 0 < w) (ht : 0 < t) (hk : k < ac w t * ac h t)
include hw ht hk
theorem rows_of (hm : m < sd h t (k / ac w t) * sd w t (k % ac w t)) : m / sd w t (k % ac w t) < sd h t (k / ac w t) ∧ m % sd w t (k % ac w t) < sd w t (k % ac w t) := by
  have p := sd_pos (n := w) ht (Nat.mod_lt k (ac_pos hw ht))
  exact ⟨Nat.div_lt_of_lt_mul (by rw [Nat.mul_comm]; exact hm), Nat.mod_lt _ p⟩
theorem pix_parts (hm : m < sd h t (k / ac w t) * sd w t (k % ac w t)) : pix w t k m / w = k / ac w t * t + m / sd w t (k % ac w t) ∧ pix w t k m % w = k % ac w t * t + m % sd w t (k % ac w t) := by
  obtain ⟨h1, h2⟩ := rows_of hw ht hk hm
  have c : k % ac w t * t + m % sd w t (k % ac w t) < w := by
    generalize m % sd w t (k % ac w t) = j at *
    unfold sd at h2; omega
  unfold pix
  rw [Nat.mul_comm, Nat.mul_add_div hw, Nat.div_eq_of_lt c, Nat.mul_add_mod, Nat.mod_eq_of_lt c]
  exact ⟨rfl, rfl⟩
theorem pix_lt (hm : m < sd h t (k / ac w t) * sd w t (k % ac w t)) : pix w t k m < w * h := by
  obtain ⟨h1, h2⟩ := rows_of hw ht hk hm
  obtain ⟨e1, e2⟩ := pix_parts hw ht hk hm
  have r : pix w t k m / w < h := by
    rw [e1]
    generalize m / sd w t (k % ac w t) = i at *
    unfold sd at h1; omega
  have := (Nat.div_lt_iff_lt_mul hw).mp r
  rw [Nat.mul_comm]; exact this
theorem cut4 {a i : Nat} (hi : i < t) : (a * t + i) / t = a ∧ (a * t + i) % t = i := by
  rw [Nat.mul_comm, Nat.mul_add_div ht, Nat.div_eq_of_lt hi, Nat.mul_add_mod, Nat.mod_eq_of_lt hi]
  exact ⟨rfl, rfl⟩
theorem pix_four (hm : m < sd h t (k / ac w t) * sd w t (k % ac w t)) : pix w t k m / w / t = k / ac w t ∧ pix w t k m / w % t = m / sd w t (k % ac w t) ∧ pix w t k m % w / t = k % ac w t ∧ pix w t k m % w % t = m % sd w t (k % ac w t) := by
  obtain ⟨h1, h2⟩ := rows_of hw ht hk hm
  obtain ⟨e1, e2⟩ := pix_parts hw ht hk hm
  have i1 : m / sd w t (k % ac w t) < t := by
    generalize m / sd w t (k % ac w t) = i at *
    unfold sd at h1; omega
  have i2 : m % sd w t (k % ac w t) < t := by
    generalize m % sd w t (k % ac w t) = i at *
    unfold sd at h2; omega
  rw [e1, e2]
  exact ⟨(cut4 hw ht hk i1).1, (cut4 hw ht hk i1).2, (cut4 hw ht hk i2).1, (cut4 hw ht hk i2).2⟩
theorem pix_tile (hm : m < sd h t (k / ac w t) * sd w t (k % ac w t)) : tileOf w t (pix w t k m) = k ∧ placeOf w t (pix w t k m) = m := by
  obtain ⟨a, b, c, d⟩ := pix_four hw ht hk hm
  unfold tileOf placeOf
  rw [a, b, c, d]
  exact ⟨Nat.div_add_mod' _ _, Nat.div_add_mod' _ _⟩
theorem pix_back (hn : n < w * h) (e : tileOf w t n = k) : placeOf w t n < sd h t (k / ac w t) * sd w t (k % ac w t) ∧ pix w t k (placeOf w t n) = n := by
  have tm := tile_mod (n := n) hw ht
  have td := tile_div (n := n) hw ht
  rw [e] at tm td
  have p := sd_pos (n := w) ht (Nat.mod_lt k (ac_pos hw ht))
  have x1 := Nat.div_add_mod' (n % w) t
  have y1 := Nat.div_add_mod' (n / w) t
  have xm := Nat.mod_lt (n % w) ht
  have ym := Nat.mod_lt (n / w) ht
  have xw := Nat.mod_lt n hw
  have yh : n / w < h := Nat.div_lt_of_lt_mul hn
  have c1 : n % w % t < sd w t (k % ac w t) := by unfold sd; rw [tm]; omega
  have c2 : n / w % t < sd h t (k / ac w t) := by unfold sd; rw [td]; omega
  have pl : placeOf w t n = n / w % t * sd w t (k % ac w t) + n % w % t := by unfold placeOf; rw [← tm]
  have d1 : placeOf w t n / sd w t (k % ac w t) = n / w % t := by rw [pl, Nat.mul_comm, Nat.mul_add_div p, Nat.div_eq_of_lt c1, Nat.add_zero]
  have d2 : placeOf w t n % sd w t (k % ac w t) = n % w % t := by rw [pl, Nat.mul_comm, Nat.mul_add_mod, Nat.mod_eq_of_lt c1]
  refine ⟨?_, ?_⟩
  · have := Nat.mul_le_mul_right (sd w t (k % ac w t)) (Nat.succ_le_of_lt c2)
    rw [Nat.succ_mul] at this
    omega
  · unfold pix
    rw [d1, d2, td, tm, y1, x1]
    exact Nat.div_add_mod' n w
end
section
variable {w h t k m : Nat} (hw : 0 < w) (ht : 0 < t) (hk : k < ac w t * ac h t)
include hw ht hk
end
/-- all that stands but one object stands -/
noncomputable def Off (s : Addr) (H H' : Hp) : Prop := ∀ a o, H a = some o → a ≠ s → H' a = some o
theorem Off.of {s : Addr} {H H' : Hp} (e : Same H H') : Off s H H' := fun a o h _ => e a o h
theorem Off.trans {s : Addr} {H H1 H2 : Hp} (e : Off s H H1) (f : Off s H1 H2) : Off s H H2 := fun a o h n => f a o (e a o h n) n
theorem Off.up {s : Addr} {H H' : Hp} {o : HO} (e : Off s H H') : Off s H (upd H' s o) := fun a u h n => by rw [upd_ne n]; exact e a u h n
end Gd

/-! max(xs, default=d) -/
namespace Mx
open PySem PySem.Spec PyProof.Rows
section
variable {prog : Program} {w : World} {A : Around} {R : Result → Shared → Prop} {I : Addr} {fp wr : List Addr} {n : Nat} {P : Nat → Value → Prop} {St : Nat → Heap → Prop} {d : Value}
/-- the best so far, as the loop holds it: nothing, or the item twice -/
noncomputable def Held (bt : Nat → Nat → Bool) (P : Nat → Value → Prop) (j : Nat) (z : Array Value) : Prop := (j = 0 ∧ z = #[]) ∨ ∃ i v, j = i + 1 ∧ z = #[v, v] ∧ P (argBest bt i) v
noncomputable def lst_ (z : Array Value) (c : Nat) : Obj := { cls := .type "list", dict := none, data := .seq z c, slots := #[] }
theorem go (W : Walks prog w A.in1 I fp wr n P St) (bt : Nat → Nat → Bool) (hc : CmpOf prog w A.in1 .Gt P bt) (B : Addr) (hB : B ∉ fp) :
    ∀ (k j : Nat) (s : Shared) (z : Array Value) (c : Nat), n - j = k → j ≤ n → St j s.heap → Held bt P j z → s.heap.get? B = some (lst_ z c) →
    (∀ v h' tk, ((n = 0 ∧ v = d) ∨ (0 < n ∧ P (argBest bt (n - 1)) v)) → (∀ b o, b ∉ wr → b ≠ B → s.heap.get? b = some o → h'.get? b = some o) → R (.ok (.ret v)) { s with heap := h', toks := tk }) →
    codeAny (model prog w) A (.builtin "max.loop" ⟨[.ref I, .none, .ref B], [(Str.ofString "default", d)]⟩) R s := by
  have hw : B ∉ wr := fun h => hB (W.sub _ h)
  have nm : (toString "max" ++ toString ".loop" : String) = "max.loop" := by decide
  intro k
  induction k with
  | zero =>
    intro j s z c hk hj hst hh g hR
    have hin : j = n := by omega
    subst hin
    refine codeAny_builtin F.entry_max_loop ?_
    rw [Around.under_plainId F.plain_max_loop _]
    show wpAny _ A.in1 (seqItems? (.ref B) >>= _) _ _ s
    refine wpAny_bind (wpAny_seqItems g rfl ?_)
    show wpAny _ A.in1 (tryCatch (pyNext (.ref I)) _ >>= _) _ _ s
    refine wpAny_bind (wpAny_tryCatch (W.done s _ _ hst fun h' tk kp => ?_))
    have g' := kp B _ hw g
    rcases hh with ⟨h0, rfl⟩ | ⟨i, v, rfl, rfl, hv⟩
    · show wpAny _ A.in1 (rule "max.default" >>= fun _ => ret d) _ _ _
      refine wpAny_bind (wpAny_rule ?_)
      refine wpAny_pure ?_
      exact hR d h' tk (.inl ⟨h0, rfl⟩) fun b o hb _ e => kp b o hb e
    · show wpAny _ A.in1 (updateSeq B (fun _ => #[]) >>= _) _ _ _
      refine wpAny_bind ?_
      refine wpAny_updateSeq g' rfl (wpAny_bind (wpAny_letGo (wpAny_pure ?_)))
      exact hR v _ tk (.inr ⟨by omega, hv⟩) fun b o hb hbB e => (Heap.get?_update_other _ _ (Ne.symm hbB)).trans (kp b o hb e)
  | succ k ih =>
    intro j s z c hk hj hst hh g hR
    have hlt : j < n := by omega
    refine codeAny_builtin F.entry_max_loop ?_
    rw [Around.under_plainId F.plain_max_loop _]
    show wpAny _ A.in1 (seqItems? (.ref B) >>= _) _ _ s
    refine wpAny_bind (wpAny_seqItems g rfl ?_)
    show wpAny _ A.in1 (tryCatch (pyNext (.ref I)) _ >>= _) _ _ s
    refine wpAny_bind (wpAny_tryCatch (W.item j s _ _ hlt hst fun v h' tk hP hst' kp => ?_))
    have g' := kp B _ hw g
    rcases hh with ⟨h0, rfl⟩ | ⟨i, u, rfl, rfl, hu⟩
    · subst h0
      show wpAny _ A.in1 (updateSeq B (fun _ => #[v, v]) >>= _) _ _ _
      refine wpAny_bind ?_
      refine wpAny_updateSeq g' rfl ?_
      rw [nm]
      refine wpAny_pure ⟨plainId_quiet F.plain_max_loop _, ih 1 _ _ _ (by omega) hlt (W.frame _ _ _ hst' fun b hbf o e => ?_) (.inr ⟨0, v, rfl, rfl, hP⟩) (Heap.get?_update_self _ g' rfl) fun v' h'' tk'' hP' k'' => ?_⟩
      · exact (Heap.get?_update_other _ _ (fun q : B = b => hB (by rw [q]; exact hbf))).trans e
      · exact hR v' h'' tk'' hP' fun b o hb hbB e => k'' b o hb hbB ((Heap.get?_update_other _ _ (Ne.symm hbB)).trans (kp b o hb e))
    show wpAny _ A.in1 (tryCatch (holding [v, v] (richCompare .Gt v u >>= _)) _ >>= _) _ _ _
    refine wpAny_bind (wpAny_tryCatch (wpAny_holding (wpAny_bind (hc (i + 1) (argBest bt i) v u _ _ _ hP hu ?_))))
    refine wpAny_bind (wpAny_holding (wpAny_truthy_bool ?_))
    refine wpAny_bind (wpAny_letGo (wpAny_pure ?_))
    cases hb : bt (i + 1) (argBest bt i) with
    | true =>
      simp only [if_true]
      refine wpAny_bind ?_
      refine wpAny_updateSeq g' rfl (wpAny_bind (wpAny_letGo ?_))
      rw [nm]
      refine wpAny_pure ⟨plainId_quiet F.plain_max_loop _, ih (i + 1 + 1) _ _ _ (by omega) hlt (W.frame _ _ _ hst' fun b hbf o e => ?_) (.inr ⟨i + 1, v, rfl, rfl, by simp only [argBest, hb, if_true]; exact hP⟩) (Heap.get?_update_self _ g' rfl) fun v' h'' tk'' hP' k'' => ?_⟩
      · exact (Heap.get?_update_other _ _ (fun q : B = b => hB (by rw [q]; exact hbf))).trans e
      · exact hR v' h'' tk'' hP' fun b o hb hbB e => k'' b o hb hbB ((Heap.get?_update_other _ _ (Ne.symm hbB)).trans (kp b o hb e))
    | false =>
      simp only [Bool.false_eq_true, if_false]
      refine wpAny_bind (wpAny_letGo ?_)
      rw [nm]
      refine wpAny_pure ⟨plainId_quiet F.plain_max_loop _, ih (i + 1 + 1) _ _ c (by omega) hlt hst' (.inr ⟨i + 1, u, rfl, rfl, by simp only [argBest, hb, Bool.false_eq_true, if_false]; exact hu⟩) g' fun v' h'' tk'' hP' k'' => ?_⟩
      exact hR v' h'' tk'' hP' fun b o hb hbB e => k'' b o hb hbB (kp b o hb e)
end
section
variable {prog : Program} {w : World} {A : Around} {E : Value → Shared → Prop} {s : Shared} {l : Addr} {xs : Array (Int × Tok)} {d : Value}
end
end Mx
namespace Mx
open PySem L2 PyProof.Rows
variable {X : Cx}
section
variable {K : PySem.W.Frag} {σ : L2.St} {H : Hp} {Q : VK} {tr tk : TA}
theorem ckw {r : List V → List V → Hp → VK → Prop} (q : tr σ H fun vs H1 => tk σ H1 fun zs H2 => r vs zs H2 Q) : tCKw r tr tk σ H Q := q
end
end Mx
local macro_rules | `(tactic| walk_at "go1") => `(tactic| (first
  | with_reducible refine Mx.ckw ?_))

namespace Rg
open PySem L2 Gd
/-- the bounds of a frame's numbers -/
structure Dim (w h d c t : Nat) : Prop where
  w1 : 1 ≤ w
  w2 : w ≤ 64
  h1 : 1 ≤ h
  h2 : h ≤ 64
  d1 : 1 ≤ d
  d2 : d ≤ 8
  c1 : c = 1 ∨ c = 3
  t1 : 1 ≤ t
  t2 : t ≤ 16
  sz : w * h * c ≤ 3072
theorem Dim.ok {w h d c t : Nat} (D : Dim w h d c t) : Gd.ac w t ≤ 64 ∧ Gd.ac h t ≤ 64 ∧ 0 < Gd.ac w t ∧ 0 < Gd.ac h t ∧ 0 < Gd.ac w t * Gd.ac h t ∧ Gd.ac w t * Gd.ac h t ≤ 64 * 64 ∧ 1 ≤ c ∧ c ≤ 3 ∧ 0 < w * h ∧ w * h ≤ 64 * 64 := by
  obtain ⟨a1, a2, a3, a4, a5, a6, a7, a8, a9, a10⟩ := D
  have l1 := ac_le (n := w) (t := t) (by omega)
  have l2 := ac_le (n := h) (t := t) (by omega)
  have p1 := ac_pos (n := w) (t := t) (by omega) (by omega)
  have p2 := ac_pos (n := h) (t := t) (by omega) (by omega)
  exact ⟨by omega, by omega, p1, p2, Nat.mul_pos p1 p2, Nat.mul_le_mul (by omega) (by omega), by omega, by omega, Nat.mul_pos (by omega) (by omega), Nat.mul_le_mul a2 a4⟩
/-- the rectangle touches tile k -/
noncomputable def tch (w h t k : Nat) (l p wd ht : Int) : Bool :=
  !(decide (((k % ac w t * t + sd w t (k % ac w t) : Nat) : Int) ≤ l) || decide (l + wd ≤ ((k % ac w t * t : Nat) : Int))) && !(decide (((k / ac w t * t + sd h t (k / ac w t) : Nat) : Int) ≤ p) || decide (p + ht ≤ ((k / ac w t * t : Nat) : Int)))
noncomputable def tileBox (w h t k : Nat) : Nat := sd h t (k / ac w t) * sd w t (k % ac w t)
noncomputable def hit (w h t k : Nat) (r : List Int) : Bool := tch w h t k (r.getD 0 0) (r.getD 1 0) (r.getD 2 0) (r.getD 3 0)
theorem range_get {α : Type} (rs : List α) (z : α) : (List.range rs.length).map (fun j => rs.getD j z) = rs := by
  refine List.ext_getElem (by simp) fun i h1 h2 => ?_
  rw [List.getElem_map, List.getElem_range, List.getD_eq_getElem?_getD, List.getElem?_eq_getElem h2]; rfl
/-- a list of regions stands at l -/
noncomputable def RL (H : Hp) (l : Addr) (rs : List (List Int)) : Prop := Gx.TL H l rs.length (fun j => rs.getD j [])
theorem RL.keep {H H' : Hp} {l : Addr} {rs : List (List Int)} (x : RL H l rs) (s : Same H H') : RL H' l rs := Gx.TL.keep x s
theorem RL.all {H : Hp} {l : Addr} {rs : List (List Int)} (x : RL H l rs) : ∃ xs, H l = some (.lst xs) ∧ xs.length = rs.length ∧ ∀ j v, xs[j]? = some v → ∃ a, v = .ref a ∧ j < rs.length ∧ H a = some (.tup ((rs.getD j []).map V.int)) := by
  obtain ⟨ps, h1, h2, h3⟩ := x
  refine ⟨_, h1, by rw [List.length_map]; exact h2, fun j v e => ?_⟩
  rw [List.getElem?_map] at e
  cases ea : ps[j]? with
  | none => rw [ea] at e; cases e
  | some a =>
    rw [ea] at e
    have hj := (List.getElem?_eq_some_iff.mp ea).1
    exact ⟨a, (Option.some.inj e).symm, by omega, h3 j a ea⟩
theorem getD_mem {rs : List (List Int)} {j : Nat} (h : j < rs.length) : rs.getD j [] ∈ rs := by
  rw [List.getD_eq_getElem?_getD, List.getElem?_eq_getElem h]; exact List.getElem_mem h
/-- references told by their rows -/
noncomputable def RR (H : Hp) (xs : List V) (rs : List (List Int)) : Prop := ∃ ps : List Addr, xs = ps.map V.ref ∧ ps.length = rs.length ∧ ∀ j a, ps[j]? = some a → H a = some (.tup ((rs.getD j []).map V.int))
section
variable {H H' : Hp} {xs ys : List V} {rs qs : List (List Int)} {l : Addr}
theorem RR.keep (x : RR H xs rs) (s : Same H H') : RR H' xs rs := by
  obtain ⟨ps, h1, h2, h3⟩ := x
  exact ⟨ps, h1, h2, fun j a e => s _ _ (h3 j a e)⟩
theorem RR.len (x : RR H xs rs) : xs.length = rs.length := by
  obtain ⟨ps, rfl, h2, h3⟩ := x
  rw [List.length_map]; exact h2
theorem RR.app (x : RR H xs rs) (y : RR H ys qs) : RR H (xs ++ ys) (rs ++ qs) := by
  obtain ⟨ps, h1, h2, h3⟩ := x
  obtain ⟨zs, g1, g2, g3⟩ := y
  refine ⟨ps ++ zs, by rw [h1, g1, List.map_append], by rw [List.length_append, List.length_append]; omega, fun j a e => ?_⟩
  rcases Nat.lt_or_ge j ps.length with z | z
  · rw [List.getElem?_append_left z] at e
    rw [List.getD_eq_getElem?_getD, List.getElem?_append_left (by omega), ← List.getD_eq_getElem?_getD]
    exact h3 j a e
  · rw [List.getElem?_append_right z] at e
    rw [List.getD_eq_getElem?_getD, List.getElem?_append_right (by omega), ← List.getD_eq_getElem?_getD, ← h2]
    exact g3 _ a e
theorem RR.one {a : Addr} {r : List Int} (h : H a = some (.tup (r.map V.int))) : RR H [.ref a] [r] := ⟨[a], rfl, rfl, fun j b e => by
  cases j with
  | zero => cases e; exact h
  | succ j => cases e⟩
theorem RR.take (x : RR H xs rs) (n : Nat) : RR H (xs.take n) (rs.take n) := by
  obtain ⟨ps, h1, h2, h3⟩ := x
  refine ⟨ps.take n, by rw [h1, List.map_take], by rw [List.length_take, List.length_take, h2], fun j a e => ?_⟩
  rw [List.getElem?_take] at e
  by_cases hj : j < n
  · rw [if_pos hj] at e
    rw [List.getD_eq_getElem?_getD, List.getElem?_take_of_lt hj, ← List.getD_eq_getElem?_getD]
    exact h3 j a e
  · rw [if_neg hj] at e; cases e
theorem RR.drop (x : RR H xs rs) (n : Nat) : RR H (xs.drop n) (rs.drop n) := by
  obtain ⟨ps, h1, h2, h3⟩ := x
  refine ⟨ps.drop n, by rw [h1, List.map_drop], by rw [List.length_drop, List.length_drop, h2], fun j a e => ?_⟩
  rw [List.getElem?_drop] at e
  rw [List.getD_eq_getElem?_getD, List.getElem?_drop, ← List.getD_eq_getElem?_getD]
  exact h3 _ a e
theorem RL.rr (x : RL H l rs) : ∃ xs, H l = some (.lst xs) ∧ RR H xs rs := by
  obtain ⟨ps, h1, h2, h3⟩ := x
  exact ⟨_, h1, ps, rfl, h2, h3⟩
end
end Rg
namespace Gx
open PySem L2
end Gx

namespace Bs
open PySem L2
/-- a bit string as a text of the signs 0 and 1 -/
noncomputable def cd (b : Bool) : Nat := if b then 49 else 48
noncomputable def S (bs : List Bool) : Str := ⟨(bs.map cd).toArray⟩
theorem cd_inj {a b : Bool} (h : cd a = cd b) : a = b := by cases a <;> cases b <;> first | rfl | (exact absurd h (by decide))
theorem len (bs : List Bool) : (S bs).length = bs.length := by simp [S, Str.length]
theorem cat (a b : List Bool) : S a ++ S b = S (a ++ b) := by
  show Str.mk ((a.map cd).toArray ++ (b.map cd).toArray) = Str.mk ((a ++ b).map cd).toArray
  rw [List.map_append]; simp
theorem inj {a b : List Bool} : S a = S b ↔ a = b := by
  constructor
  · intro h
    have h2 : a.map cd = b.map cd := congrArg (fun x : Str => x.cps.toList) h
    exact List.map_inj_right (f := cd) (fun _ _ => cd_inj) |>.mp h2
  · intro h; rw [h]
theorem at_ {bs : List Bool} {i : Nat} (h : i < bs.length) : atI (S bs).cps.toList (i : Int) = some (cd (bs.getD i false)) := by
  refine atI_nat ?_
  show (bs.map cd)[i]? = _
  rw [List.getElem?_map, List.getElem?_eq_getElem h]
  simp [List.getD_eq_getElem?_getD, List.getElem?_eq_getElem h]
theorem get_ {bs : List Bool} {i : Nat} (h : i < bs.length) : (S bs).cps[i]? = some (cd (bs.getD i false)) := by
  show ((bs.map cd).toArray)[i]? = _
  rw [List.getElem?_toArray, List.getElem?_map, List.getElem?_eq_getElem h]
  simp [List.getD_eq_getElem?_getD, List.getElem?_eq_getElem h]
section
variable {K : PySem.W.Frag} {H : Hp} {Q : VK}
theorem ix {bs : List Bool} {i : Int} (h0 : 0 ≤ i) (h1 : i < bs.length) (hz : bs.length ≤ 16777216) (q : Q (.str (S [bs.getD i.toNat false])) H) : rIx K (.str (S bs)) (.int i) H Q := by
  have e : i = (i.toNat : Int) := by omega
  rw [e]
  refine Gx.ixS (by rw [len, sizeLine_eq]; exact hz) (at_ (by omega)) ?_
  exact q
theorem strbit {r : Int} (h : r = 0 ∨ r = 1) (q : ∀ c : Bool, c = decide (r = 1) → Q (.str (S [c])) H) : Gx.rStrI [.int r] H Q := by
  rcases h with h | h
  · subst h
    refine Gx.strI (by decide) ?_
    rw [show (toString (0 : Int) : Str) = S [false] by decide +kernel]
    exact q _ rfl
  · subst h
    refine Gx.strI (by decide) ?_
    rw [show (toString (1 : Int) : Str) = S [true] by decide +kernel]
    exact q _ rfl
end
/-- a bit string, bit by bit -/
theorem walk {bs : List Bool} : Walk (Its (S bs)) bs.length (fun _ => True) (fun i H v H' => H' = H ∧ v = .str (S [bs.getD i false])) := by
  have e : (S bs).cps.size = bs.length := len bs
  refine ⟨fun i H hi _ => ?_, fun H _ => ?_, fun i H v H' hi _ y => ?_⟩
  · show i < (S bs).cps.size; omega
  · show (S bs).cps.size ≤ bs.length; omega
  · obtain ⟨h1, c, hc, rfl⟩ := y
    refine ⟨h1, ?_⟩
    have h := get_ hi
    rw [hc] at h
    rw [Option.some.inj h]; rfl
end Bs

namespace Fb
open PySem PySem.W PySem.Builtin PyProof.Rows PySem.Calls
/-! a number's binary digits by its format, as the model lays them -/
noncomputable def ds (n : Int) : List Nat := (Nat.toDigits 2 n.natAbs).map fun c => (if (98 : Nat) == 88 then c.toUpper else c).toNat
noncomputable def sg (n : Int) : List Nat := if decide (n < 0) = true then [45] else []
noncomputable def dd (n : Int) : List Nat := if (ds n).isEmpty then [] else List.replicate (Int.toNat 0 - (ds n).length) 48 ++ ds n
noncomputable def pad (n : Int) : Nat := ((-1 : Int) - (((sg n).length : Int) + (([] : List Nat).length : Int) + (([] : List Nat).length : Int)) - ((dd n).length : Int)).toNat
noncomputable def X (n : Int) : Str := ⟨(List.replicate (pad n) 32 ++ sg n ++ [] ++ List.replicate 0 32 ++ dd n ++ [] ++ List.replicate 0 32).toArray⟩
/-- the k lowest binary digits of r, the highest first -/
noncomputable def bin : Nat → Nat → List Bool
  | 0, _ => []
  | k + 1, r => bin k (r / 2) ++ [decide (r % 2 = 1)]
theorem bin_len : ∀ k r, (bin k r).length = k
  | 0, _ => rfl
  | k + 1, r => by unfold bin; rw [List.length_append, bin_len k]; rfl
section
variable {Y : L2.Cx}
end
end Fb

namespace I2
open PySem PySem.NumText PySem.Calls PyProof.Rows L2
/-! a number read from binary digits -/
noncomputable def dv (b : Bool) : Nat := if b then 1 else 0
/-- the value of bits, the highest first -/
noncomputable def val (bs : List Bool) : Nat := bs.foldl (fun a b => a * 2 + dv b) 0
structure Kept (p : Prop) : Prop where
  out : p
end I2

namespace Fb
open I2
theorem val_app (bs : List Bool) (b : Bool) : val (bs ++ [b]) = val bs * 2 + dv b := by unfold val; rw [List.foldl_append]; rfl
theorem val_lt (bs : List Bool) : val bs < 2 ^ bs.length := by
  suffices h : ∀ (n : Nat) (bs : List Bool), bs.length = n → val bs < 2 ^ n from h _ bs rfl
  intro n
  induction n with
  | zero => intro bs h; rw [List.length_eq_zero_iff.mp h]; decide
  | succ n ih =>
    intro bs h
    rcases List.eq_nil_or_concat bs with e | ⟨cs, b, e⟩
    · rw [e] at h; cases h
    · rw [List.concat_eq_append] at e
      subst e
      rw [List.length_append, List.length_singleton] at h
      have := ih cs (by omega)
      rw [val_app, Nat.pow_succ]
      have hb : dv b ≤ 1 := by cases b <;> decide
      omega
theorem bin_val (bs : List Bool) : bin bs.length (val bs) = bs := by
  suffices h : ∀ (n : Nat) (bs : List Bool), bs.length = n → bin n (val bs) = bs from h _ bs rfl
  intro n
  induction n with
  | zero => intro bs h; rw [List.length_eq_zero_iff.mp h]; rfl
  | succ n ih =>
    intro bs h
    rcases List.eq_nil_or_concat bs with e | ⟨cs, b, e⟩
    · rw [e] at h; cases h
    · rw [List.concat_eq_append] at e
      subst e
      rw [List.length_append, List.length_singleton] at h
      unfold bin
      rw [val_app, show (val cs * 2 + dv b) / 2 = val cs by cases b <;> (unfold dv; simp) <;> omega, ih cs (by omega)]
      congr 2
      cases b <;> (unfold dv; simp) <;> omega
section
open PySem L2
variable {σ : L2.St} {H : Hp} {Q : VK} {te : TE}
end
end Fb

namespace Pk
open PySem L2 I2 Fb
/-! bits and bytes -/
noncomputable def ckStep (a : Int × Int) (b : Int) : Int × Int := ((a.1 + b) % 256, (a.2 + (a.1 + b) % 256) % 256)
noncomputable def ck (xs : List Int) : Int × Int := xs.foldl ckStep (0, 0)
noncomputable def nb (n : Nat) : Nat := (n + 7) / 8
noncomputable def fill (bs : List Bool) : List Bool := bs ++ List.replicate (8 * nb bs.length - bs.length) false
/-- the i-th eight of some bits -/
noncomputable def ei (l : List Bool) (i : Nat) : List Bool := (l.drop (8 * i)).take 8
noncomputable def pk (bs : List Bool) : List Int := (List.range (nb bs.length)).map fun i => ((val (ei (fill bs) i) : Nat) : Int)
noncomputable def un (xs : List Nat) : List Bool := (xs.map (bin 8)).flatten
theorem un_len (xs : List Nat) : (un xs).length = 8 * xs.length := by
  unfold un
  induction xs with
  | nil => rfl
  | cons x xs ih => rw [List.map_cons, List.flatten_cons, List.length_append, ih, bin_len, List.length_cons]; omega
/-- the law's part: the i-th eight and seven zeros -/
noncomputable def part (bs : List Bool) (i : Nat) : List Bool := ei bs i ++ List.replicate 7 false
theorem glue (e : Str) (he : e.cps = #[]) : ∀ (rows : List (List Bool)) (a : List Bool), (rows.map Bs.S).foldl (fun acc p => acc ++ e.cps ++ p.cps) (Bs.S a).cps = (Bs.S (a ++ rows.flatten)).cps
  | [], a => by rw [List.flatten_nil, List.append_nil]; rfl
  | r :: rows, a => by
    rw [List.map_cons, List.foldl_cons, he, Array.append_empty, List.flatten_cons, ← List.append_assoc]
    rw [← he]
    have := glue e he rows (a ++ r)
    rw [← this]
    congr 1
    have c := Bs.cat a r
    have := congrArg Str.cps c
    exact this
theorem joinE (rows : List (List Bool)) : Txt.join (Str.ofString "") (rows.map Bs.S) = Bs.S rows.flatten := by
  have he : (Str.ofString "").cps = #[] := rfl
  cases rows with
  | nil => rfl
  | cons r rows =>
    have := glue (Str.ofString "") he rows r
    show Str.mk (((r :: rows).map Bs.S).drop 1 |>.foldl (fun acc p => acc ++ (Str.ofString "").cps ++ p.cps) (Bs.S r).cps) = _
    rw [List.map_cons, List.drop_one, List.tail_cons, this, List.flatten_cons]
theorem sum_len : ∀ (rows : List (List Bool)), (∀ r ∈ rows, r.length ≤ 8) → ((rows.map Bs.S).map (·.length)).sum ≤ 8 * rows.length
  | [], _ => Nat.le_refl _
  | r :: rows, h => by
    have ih := sum_len rows fun x hx => h x (List.mem_cons_of_mem _ hx)
    have h1 := h r (List.mem_cons_self ..)
    rw [List.map_cons, List.map_cons, List.sum_cons, List.length_cons, Bs.len]
    omega
theorem joinN {rows : List (List Bool)} (h8 : ∀ r ∈ rows, r.length ≤ 8) (hl : rows.length ≤ 1000000) : ((rows.map Bs.S).map (·.length)).sum + (rows.map Bs.S).length * (Str.ofString "").length ≤ 16777216 := by
  have := sum_len rows h8
  have e0 : (Str.ofString "").length = 0 := rfl
  rw [e0, Nat.mul_zero]
  omega
theorem joinP {K : PySem.W.Frag} {H : Hp} {Q : VK} {p : Addr} {rows : List (List Bool)} (hp : SqL K H p (rows.map fun r => V.str (Bs.S r))) (h8 : ∀ r ∈ rows, r.length ≤ 8) (hl : rows.length ≤ 1000000) (q : Q (.str (Bs.S rows.flatten)) H) :
    ∃ a p', ∃ ys : List Str, V.str (Str.ofString "") = .str a ∧ [V.ref p] = [.ref p'] ∧ (SqL K H p' (ys.map V.str) ∨ SqT K H p' (ys.map V.str)) ∧ (ys.map (·.length)).sum + ys.length * a.length ≤ 16777216 ∧ Q (.str (Txt.join a ys)) H := by
  refine ⟨_, p, rows.map Bs.S, rfl, rfl, .inl (by rw [List.map_map]; exact hp), ?_, ?_⟩
  · have := sum_len rows h8
    have e0 : (Str.ofString "").length = 0 := rfl
    rw [e0, Nat.mul_zero]
    omega
  · rw [joinE]; exact q
theorem singles {A : Type} (g : A → Bool) : ∀ l : List A, (l.map fun i => [g i]).flatten = l.map g
  | [] => rfl
  | a :: l => by rw [List.map_cons, List.flatten_cons, singles g l, List.map_cons]; rfl
end Pk

namespace Pb
open PySem L2
/-- the bits of a packet -/
noncomputable def pb (w h t : Nat) (f : Nat → List Int) (c j k p : Nat) : List Bool := (List.range (Rg.tileBox w h t k)).map fun m => decide (Gd.sb f c j (Gd.pix w t k m) p = 1)
theorem pb_len {w h t : Nat} {f : Nat → List Int} {c j k p : Nat} : (pb w h t f c j k p).length = Rg.tileBox w h t k := by unfold pb; simp
theorem sb_le (f : Nat → List Int) (c j k p : Nat) : Gd.sb f c j k p ≤ 1 := by
  unfold Gd.sb
  have g := fun v => Gy.gb_le v p
  have x : ∀ a b, Gd.xr a b ≤ 1 := fun a b => by unfold Gd.xr; split <;> omega
  split
  · exact g _
  · split
    · exact g _
    · exact x _ _
theorem box_le {w h t k : Nat} (h1 : t ≤ 16) : Rg.tileBox w h t k ≤ 256 := by
  unfold Rg.tileBox
  have a : Gd.sd h t (k / Gd.ac w t) ≤ 16 := by unfold Gd.sd; omega
  have b : Gd.sd w t (k % Gd.ac w t) ≤ 16 := by unfold Gd.sd; omega
  exact Nat.mul_le_mul a b
theorem ix01 {K : PySem.W.Frag} {H : Hp} {Q : VK} {n : Nat} (h : n ≤ 1) (q : Q (.str (Bs.S [decide (n = 1)])) H) : rIx K (.str "01") (.int (n : Int)) H Q := by
  rw [show ("01" : Str) = Bs.S [false, true] by decide +kernel]
  refine Bs.ix (by omega) (by show (n : Int) < 2; omega) (by show 2 ≤ 16777216; decide) ?_
  rw [Int.toNat_natCast, show [false, true].getD n false = decide (n = 1) by
    match n, h with
    | 0, _ => rfl
    | 1, _ => rfl]
  exact q
theorem str01 {H : Hp} {Q : VK} {n : Nat} (h : n ≤ 1) (q : Q (.str (Bs.S [decide (n = 1)])) H) : Gx.rStrI [.int (n : Int)] H Q := Bs.strbit (by omega) fun c hc => by
  rw [hc, show decide ((n : Int) = 1) = decide (n = 1) from decide_eq_decide.mpr (by omega)]; exact q
/-- single bits joined -/
theorem joinS {K : PySem.W.Frag} {H : Hp} {Q : VK} {p : Addr} {n : Nat} {g : Nat → Bool} (hp : SqL K H p ((List.range n).map fun m => V.str (Bs.S [g m]))) (hn : n ≤ 1000000) (q : Q (.str (Bs.S ((List.range n).map g))) H) :
    ∃ a p', ∃ ys : List Str, V.str (Str.ofString "") = .str a ∧ [V.ref p] = [.ref p'] ∧ (SqL K H p' (ys.map V.str) ∨ SqT K H p' (ys.map V.str)) ∧ (ys.map (·.length)).sum + ys.length * a.length ≤ 16777216 ∧ Q (.str (Txt.join a ys)) H := by
  refine Pk.joinP (rows := (List.range n).map fun m => [g m]) (by rw [List.map_map]; exact hp) (fun r hr => ?_) (by simp; omega) (by rw [Pk.singles]; exact q)
  obtain ⟨m, _, rfl⟩ := List.mem_map.mp hr
  show 1 ≤ 8; decide
theorem rowHf {w h d c : Nat} {rows : List (List Int)} (ok : Pq.rowsOk (w * h) d c rows) {m t k : Nat} (hm : Gd.pix w t k m < w * h) : ∀ i, i < c → Gd.pix w t k m < (rows.getD i []).length ∧ ∀ z ∈ rows.getD i [], 0 ≤ z := fun i hi => by
  have o := Pq.rowOk_getD ok hi
  exact ⟨by rw [o.1]; exact hm, fun z hz => (o.2 z hz).1⟩
end Pb

namespace Dx
open PySem L2 Fx Nx
section
variable {K : PySem.W.Frag} {R H S : Hp} {a b p : Addr} {kvs : List (List L2.Key × V)} {k : List L2.Key} {v x y : V} {Q : VK} {D : Ends} {σ : L2.St} {td ty tv : TE}
noncomputable def DgP (x y : V) (H : Hp) (Q : VK) : Prop := ∃ a v, x = .ref a ∧ DGet H a y (some v) ∧ Q v H
theorem dget (q : td σ H fun x H1 => ty σ H1 fun y H2 => DgP x y H2 Q) : tDGet td ty σ H Q := q
theorem dgT (e : H a = some (.dT kvs)) (eb : H b = some (.tup (k.map kV))) (hv : valV kvs k = some v) (q : Q v H) : DgP (.ref a) (.ref b) H Q := ⟨a, v, rfl, hv ▸ DGet.t e eb, q⟩
noncomputable def DpP (x y v : V) (D : Ends) (σ : L2.St) (H : Hp) : Prop := ∃ a H4, x = .ref a ∧ DPut H a y v H4 ∧ D.nx σ H4
theorem dput (q : tv σ H fun v H1 => td σ H1 fun x H2 => ty σ H2 fun y H3 => DpP x y v D σ H3) : sDPut td ty tv D σ H := q
theorem putD (O : Own R H (one a (.dT kvs))) {ys : List (List L2.Key × V)} : Own R (upd H a (.dT ys)) (one a (.dT ys)) := mk1 (no1 O) trivial upd_same fun _ c => (upd_ne c).trans (off1 O c)
theorem dpT (O : Own R H (one a (.dT kvs))) (eb : H b = some (.tup (k.map kV))) (hl : kvs.length < sizeLine) (q : ∀ H', Own R H' (one a (.dT (putK kvs k v))) → D.nx σ H') : DpP (.ref a) (.ref b) v D σ H := ⟨a, _, rfl, DPut.t (at1 O) eb hl, q _ (putD O)⟩
theorem dnewT (q : ∀ p H', Own H H' (one p (.dT [])) → Q (.ref p) H') : tDNewT σ H Q := fun p hp => q p _ (mk1 hp trivial upd_same fun _ c => upd_ne c)
end
/-- a key's tuple -/
noncomputable def kq (j k p : Nat) : List L2.Key := [.inl (j : Int), .inl (k : Int), .inl (p : Int)]
theorem kq_inj {j k p j' k' p' : Nat} : kq j k p = kq j' k' p' ↔ j = j' ∧ k = k' ∧ p = p' := by
  unfold kq
  simp only [List.cons.injEq, Sum.inl.injEq, and_true]
  omega
/-- the packets that stand in a table -/
noncomputable def PK (kvs : List (List L2.Key × V)) (c T d : Nat) (g : Nat → Nat → Nat → List Bool) : Prop := ∀ j k p, j < c → k < T → p < d → valV kvs (kq j k p) = some (.str (Bs.S (g j k p)))
/-- the gray bit that the stored channels give -/
noncomputable def nd (c j : Nat) : List Nat := if c = 1 ∨ j = 1 then [0] else [0, if j = 0 then 1 else 2]
noncomputable def bit (b : Bool) : Nat := if b = true then 1 else 0
noncomputable def gv (g : Nat → Nat → Nat → List Bool) (c j k m p : Nat) : Nat := ((nd c j).map fun s => bit ((g s k p).getD m false)).sum % 2
noncomputable def gs (g : Nat → Nat → Nat → List Bool) (c d j k m : Nat) : List Nat := (List.range d).map fun i => gv g c j k m (d - 1 - i)
noncomputable def vp (g : Nat → Nat → Nat → List Bool) (w t c d j n : Nat) : Nat := Gy.val (gs g c d j (Gd.tileOf w t n) (Gd.placeOf w t n))
theorem gv_le (g : Nat → Nat → Nat → List Bool) (c j k m p : Nat) : gv g c j k m p ≤ 1 := by unfold gv; omega
theorem gs_le {g : Nat → Nat → Nat → List Bool} {c d j k m : Nat} : ∀ b ∈ gs g c d j k m, b ≤ 1 := fun b hb => by
  obtain ⟨i, _, rfl⟩ := List.mem_map.mp hb
  exact gv_le _ _ _ _ _ _
theorem gs_len {g : Nat → Nat → Nat → List Bool} {c d j k m : Nat} : (gs g c d j k m).length = d := by unfold gs; simp
theorem vp_lt (g : Nat → Nat → Nat → List Bool) (w t c d j n : Nat) : vp g w t c d j n < 2 ^ d := by
  have := (Gy.grays_val (gs_le (g := g) (c := c) (d := d) (j := j) (k := Gd.tileOf w t n) (m := Gd.placeOf w t n))).1
  rw [gs_len] at this
  exact this
theorem nd_lt {c j s : Nat} (hc : c = 1 ∨ c = 3) (h : s ∈ nd c j) : s < c := by
  unfold nd at h
  by_cases z : c = 1 ∨ j = 1
  · rw [if_pos z, List.mem_singleton] at h; omega
  · rw [if_neg z] at h
    simp at h
    rcases h with rfl | rfl
    · omega
    · split <;> omega
theorem gs_take {g : Nat → Nat → Nat → List Bool} {c d j k m i : Nat} (hi : i < d) : (gs g c d j k m).take (i + 1) = (gs g c d j k m).take i ++ [gv g c j k m (d - 1 - i)] := by
  rw [List.take_add_one]
  unfold gs
  rw [List.getElem?_map, List.getElem?_range hi]; rfl
theorem sum_cast {α : Type} (F : α → Nat) : ∀ l : List α, (l.map fun s => ((F s : Nat) : Int)).sum = (((l.map F).sum : Nat) : Int)
  | [] => rfl
  | x :: l => by rw [List.map_cons, List.map_cons, List.sum_cons, List.sum_cons, sum_cast F l]; omega
theorem over_list {α β : Type} (z : α) (F : α → β) (l : List α) : (List.range l.length).map (fun i => F (l.getD i z)) = l.map F := by
  have := congrArg (List.map F) (Rg.range_get l z)
  rw [List.map_map] at this
  exact this
/-- the rows that packets tell -/
noncomputable def vrow (g : Nat → Nat → Nat → List Bool) (w t c d n j : Nat) : List Int := (List.range n).map fun i => ((vp g w t c d j i : Nat) : Int)
noncomputable def vrows (g : Nat → Nat → Nat → List Bool) (w t c d n : Nat) : List (List Int) := (List.range c).map (vrow g w t c d n)
theorem vrows_ok (g : Nat → Nat → Nat → List Bool) (w t c d n : Nat) : Pq.rowsOk n d c (vrows g w t c d n) := Pq.rowsOk_range fun j hj => ⟨by unfold vrow; simp, fun z hz => by
  obtain ⟨i, _, rfl⟩ := List.mem_map.mp hz
  have := vp_lt g w t c d j i
  omega⟩
theorem vrows_len (g : Nat → Nat → Nat → List Bool) (w t c d n : Nat) : (vrows g w t c d n).length = c := by unfold vrows; simp
theorem vrows_at {g : Nat → Nat → Nat → List Bool} {w t c d n j : Nat} (hj : j < c) : (vrows g w t c d n).getD j [] = vrow g w t c d n j := Pq.getD_range hj
end Dx
local macro_rules | `(tactic| walk_at "run1") => `(tactic| first
  | with_reducible refine Dx.dget ?_
  | with_reducible refine Dx.dput ?_)

namespace Mu
open PySem L2
end Mu

namespace Dx
open PySem L2
/-! what packets tell of a picture -/
theorem bit_sb {f : Nat → List Int} {c j k p : Nat} : bit (decide (Gd.sb f c j k p = 1)) = Gd.sb f c j k p := by
  have := Pb.sb_le f c j k p
  unfold bit
  by_cases h : Gd.sb f c j k p = 1
  · rw [decide_eq_true h, if_pos rfl, h]
  · rw [decide_eq_false h, if_neg Bool.false_ne_true]; omega
theorem gv_sb {f : Nat → List Int} {c j n p : Nat} (hc : c = 1 ∨ c = 3) (hj : j < c) : ((nd c j).map fun s => Gd.sb f c s n p).sum % 2 = Gy.gb (Gd.vl f j n) p := by
  have g0 := Gy.gb_le (Gd.vl f 0 n) p
  have g1 := Gy.gb_le (Gd.vl f 1 n) p
  have g2 := Gy.gb_le (Gd.vl f 2 n) p
  unfold nd Gd.sb Gd.xr
  rcases hc with rfl | rfl
  · have : j = 0 := by omega
    subst this
    simp
    omega
  · rcases (show j = 0 ∨ j = 1 ∨ j = 2 by omega) with rfl | rfl | rfl
    · simp
      split <;> omega
    · simp
      omega
    · simp
      split <;> omega
theorem pb_at {w h t : Nat} {f : Nat → List Int} {c s k m p : Nat} (hm : m < Rg.tileBox w h t k) : (Pb.pb w h t f c s k p).getD m false = decide (Gd.sb f c s (Gd.pix w t k m) p = 1) := by
  unfold Pb.pb
  rw [List.getD_eq_getElem?_getD, List.getElem?_map, List.getElem?_range hm]; rfl
theorem gv_pb {w h t d c j n p : Nat} {f : Nat → List Int} {g : Nat → Nat → Nat → List Bool} (D : Rg.Dim w h d c t) (hj : j < c) (hn : n < w * h) (e : ∀ s, s < c → g s (Gd.tileOf w t n) p = Pb.pb w h t f c s (Gd.tileOf w t n) p) : gv g c j (Gd.tileOf w t n) (Gd.placeOf w t n) p = Gy.gb (Gd.vl f j n) p := by
  obtain ⟨a1, a2, a3, a4, a5, a6, a7, a8, a9, a10⟩ := id D
  have tl := Gd.tile_lt (t := t) (show 0 < w by omega) (show 0 < t by omega) hn
  have pb := Gd.pix_back (w := w) (h := h) (t := t) (show 0 < w by omega) (show 0 < t by omega) tl hn rfl
  rw [← gv_sb a7 hj]
  unfold gv
  congr 2
  refine List.map_congr_left fun s hs => ?_
  rw [e s (nd_lt a7 hs), pb_at pb.1, pb.2, bit_sb]
theorem gs_pb {w h t d c j n : Nat} {f : Nat → List Int} {g : Nat → Nat → Nat → List Bool} (D : Rg.Dim w h d c t) (hj : j < c) (hn : n < w * h) (e : ∀ s p, s < c → p < d → g s (Gd.tileOf w t n) p = Pb.pb w h t f c s (Gd.tileOf w t n) p) : gs g c d j (Gd.tileOf w t n) (Gd.placeOf w t n) = Gy.grays (Gd.vl f j n) d := by
  unfold gs Gy.grays
  refine List.map_congr_left fun i hi => ?_
  have hi := List.mem_range.mp hi
  exact gv_pb D hj hn fun s hs => e s _ hs (by omega)
/-- the packets of a picture tell its values -/
theorem vp_pb {w h t d c j n : Nat} {f : Nat → List Int} {g : Nat → Nat → Nat → List Bool} (D : Rg.Dim w h d c t) (hj : j < c) (hn : n < w * h) (hv : Gd.vl f j n < 2 ^ d) (e : ∀ s p, s < c → p < d → g s (Gd.tileOf w t n) p = Pb.pb w h t f c s (Gd.tileOf w t n) p) : vp g w t c d j n = Gd.vl f j n := by
  unfold vp
  rw [gs_pb D hj hn e]
  exact Gy.val_grays hv
theorem getD_some {xs : List Int} {m : Nat} (h : m < xs.length) : xs[m]? = some (xs.getD m 0) := by
  rw [List.getD_eq_getElem?_getD, List.getElem?_eq_getElem h]; rfl
/-! the order of the keys -/
noncomputable def ix (c T d j k p : Nat) : Nat := ((d - 1 - p) * c + j) * T + k
theorem ix_lt {c T d j k p : Nat} (hj : j < c) (hk : k < T) (hp : p < d) : ix c T d j k p < d * c * T := by
  unfold ix
  have h1 : (d - 1 - p) * c + j < d * c := by
    have := Nat.mul_le_mul_right c (show d - 1 - p + 1 ≤ d by omega)
    rw [Nat.succ_mul] at this; omega
  have := Nat.mul_le_mul_right T (show (d - 1 - p) * c + j + 1 ≤ d * c by omega)
  rw [Nat.succ_mul] at this; omega
theorem ix_back {c T d i : Nat} (hc : 0 < c) (hT : 0 < T) (hi : i < d * c * T) : i / T % c < c ∧ i % T < T ∧ d - 1 - i / T / c < d ∧ i / T / c < d ∧ ix c T d (i / T % c) (i % T) (d - 1 - i / T / c) = i := by
  have h1 : i / T < d * c := Nat.div_lt_of_lt_mul (by rw [Nat.mul_comm]; exact hi)
  have h2 : i / T / c < d := Nat.div_lt_of_lt_mul (by rw [Nat.mul_comm]; exact h1)
  refine ⟨Nat.mod_lt _ hc, Nat.mod_lt _ hT, ?_, h2, ?_⟩
  · generalize i / T / c = u at *
    omega
  unfold ix
  rw [show d - 1 - (d - 1 - i / T / c) = i / T / c by generalize i / T / c = u at *; omega]
  exact Gd.ky_back
theorem ix_inj {c T d j k p i : Nat} (hj : j < c) (hk : k < T) (hp : p < d) (e : ix c T d j k p = i) : j = i / T % c ∧ k = i % T ∧ p = d - 1 - i / T / c := by
  unfold ix at e
  have e1 : i / T = (d - 1 - p) * c + j := by
    rw [← e, Nat.mul_comm, Nat.mul_add_div (by omega), Nat.div_eq_of_lt hk, Nat.add_zero]
  refine ⟨?_, ?_, ?_⟩
  · rw [e1, Nat.mul_comm, Nat.mul_add_mod, Nat.mod_eq_of_lt hj]
  · rw [← e, Nat.mul_comm, Nat.mul_add_mod, Nat.mod_eq_of_lt hk]
  · rw [e1, Nat.mul_comm, Nat.mul_add_div (by omega), Nat.div_eq_of_lt hj]; omega
theorem ky_ix {c T d i : Nat} (hc : 0 < c) (hT : 0 < T) (hi : i < d * c * T) : Gd.ky T c d i = [((i / T % c : Nat) : Int), ((i % T : Nat) : Int), ((d - 1 - i / T / c : Nat) : Int)] := by
  obtain ⟨_, _, _, h, _⟩ := ix_back hc hT hi
  rw [Gd.ky_at hc, show (d : Int) - 1 - ((i / T / c : Nat) : Int) = ((d - 1 - i / T / c : Nat) : Int) by generalize i / T / c = u at *; omega]
/-! the pixels before a tile, and before a key -/
noncomputable def off (w h t k : Nat) : Nat := (k / Gd.ac w t * t) * w + Gd.sd h t (k / Gd.ac w t) * (k % Gd.ac w t * t)
theorem ac_ge {n t : Nat} (ht : 0 < t) : n ≤ Gd.ac n t * t := by
  unfold Gd.ac
  have := Nat.div_add_mod (n + t - 1) t
  have h2 := Nat.mod_lt (n + t - 1) ht
  rw [Nat.mul_comm] at this
  omega
theorem side_all {n t a : Nat} (ht : 0 < t) (h : a + 1 = Gd.ac n t) : a * t + Gd.sd n t a = n := by
  have h1 := ac_ge (n := n) ht
  rw [← h, Nat.succ_mul] at h1
  have h2 := Gd.ac_mul (n := n) ht (show a < Gd.ac n t by omega)
  unfold Gd.sd
  omega
theorem side_more {n t a : Nat} (ht : 0 < t) (h : a + 1 < Gd.ac n t) : a * t + Gd.sd n t a = (a + 1) * t := by
  have h1 := Gd.ac_mul (n := n) ht h
  rw [Nat.succ_mul] at *
  unfold Gd.sd
  omega
theorem side_le {n t a : Nat} (ht : 0 < t) (h : a < Gd.ac n t) : a * t + Gd.sd n t a ≤ n := by
  have h1 := Gd.ac_mul (n := n) ht h
  unfold Gd.sd
  omega
section
variable {w h t k : Nat} (hw : 0 < w) (ht : 0 < t) (hk : k < Gd.ac w t * Gd.ac h t)
include hw ht hk
theorem off_sum : off w h t k + Rg.tileBox w h t k = (k / Gd.ac w t * t) * w + Gd.sd h t (k / Gd.ac w t) * (k % Gd.ac w t * t + Gd.sd w t (k % Gd.ac w t)) := by
  unfold off Rg.tileBox
  rw [Nat.mul_add, Nat.add_assoc]
theorem off_le : off w h t k + Rg.tileBox w h t k ≤ w * h := by
  have A := Gd.ac_pos (n := w) hw ht
  have hb := side_le (n := w) ht (Nat.mod_lt k A)
  have ha := side_le (n := h) ht (Nat.div_lt_of_lt_mul hk)
  rw [off_sum hw ht hk]
  have h1 := Nat.mul_le_mul_left (Gd.sd h t (k / Gd.ac w t)) hb
  have h2 := Nat.mul_le_mul_right w ha
  rw [Nat.add_mul, Nat.mul_comm h w] at h2
  omega
theorem off_step (h1 : k + 1 < Gd.ac w t * Gd.ac h t) : off w h t (k + 1) = off w h t k + Rg.tileBox w h t k := by
  have A := Gd.ac_pos (n := w) hw ht
  rw [off_sum hw ht hk]
  have hm := Nat.mod_lt k A
  have e := Nat.div_add_mod k (Gd.ac w t)
  unfold off
  by_cases hb : k % Gd.ac w t + 1 < Gd.ac w t
  · have d1 : (k + 1) / Gd.ac w t = k / Gd.ac w t := by
      conv => lhs; rw [← e, Nat.add_assoc, Nat.mul_add_div A, Nat.div_eq_of_lt hb]
      rfl
    have d2 : (k + 1) % Gd.ac w t = k % Gd.ac w t + 1 := by
      conv => lhs; rw [← e, Nat.add_assoc, Nat.mul_add_mod, Nat.mod_eq_of_lt hb]
    rw [d1, d2, side_more ht hb]
  · have hb2 : k % Gd.ac w t + 1 = Gd.ac w t := by omega
    have e3 : k + 1 = Gd.ac w t * (k / Gd.ac w t + 1) := by rw [Nat.mul_succ]; omega
    have d1 : (k + 1) / Gd.ac w t = k / Gd.ac w t + 1 := by rw [e3, Nat.mul_div_cancel_left _ A]
    have d2 : (k + 1) % Gd.ac w t = 0 := by rw [e3, Nat.mul_mod_right]
    have ha : k / Gd.ac w t + 1 < Gd.ac h t := by
      rw [e3] at h1
      exact Nat.lt_of_mul_lt_mul_left h1
    rw [d1, d2, side_all ht hb2, ← side_more ht ha, Nat.zero_mul, Nat.mul_zero, Nat.add_zero, Nat.add_mul]
theorem off_last (h1 : k + 1 = Gd.ac w t * Gd.ac h t) : off w h t k + Rg.tileBox w h t k = w * h := by
  have A := Gd.ac_pos (n := w) hw ht
  rw [off_sum hw ht hk]
  have hm := Nat.mod_lt k A
  have e := Nat.div_add_mod k (Gd.ac w t)
  have hb2 : k % Gd.ac w t + 1 = Gd.ac w t := by
    have e4 : (k + 1) % Gd.ac w t = 0 := by rw [h1, Nat.mul_mod_right]
    by_cases hb : k % Gd.ac w t + 1 < Gd.ac w t
    · have d2 : (k + 1) % Gd.ac w t = k % Gd.ac w t + 1 := by
        conv => lhs; rw [← e, Nat.add_assoc, Nat.mul_add_mod, Nat.mod_eq_of_lt hb]
      omega
    · omega
  have e3 : k + 1 = Gd.ac w t * (k / Gd.ac w t + 1) := by rw [Nat.mul_succ]; omega
  have ha : k / Gd.ac w t + 1 = Gd.ac h t := by
    rw [e3] at h1
    exact Nat.eq_of_mul_eq_mul_left A h1
  rw [side_all ht hb2, ← Nat.add_mul, side_all ht ha, Nat.mul_comm]
end
theorem off_zero (w h t : Nat) : off w h t 0 = 0 := by unfold off; simp
/-- the bits before the i-th key -/
noncomputable def acc (w h t i : Nat) : Nat := i / (Gd.ac w t * Gd.ac h t) * (w * h) + off w h t (i % (Gd.ac w t * Gd.ac h t))
theorem acc_zero (w h t : Nat) : acc w h t 0 = 0 := by unfold acc; simp [off_zero]
theorem acc_step {w h t i : Nat} (hw : 0 < w) (hh : 0 < h) (ht : 0 < t) : acc w h t (i + 1) = acc w h t i + Rg.tileBox w h t (i % (Gd.ac w t * Gd.ac h t)) := by
  have T : 0 < Gd.ac w t * Gd.ac h t := Nat.mul_pos (Gd.ac_pos hw ht) (Gd.ac_pos hh ht)
  have hk : i % (Gd.ac w t * Gd.ac h t) < Gd.ac w t * Gd.ac h t := Nat.mod_lt _ T
  have e := Nat.div_add_mod i (Gd.ac w t * Gd.ac h t)
  unfold acc
  by_cases hb : i % (Gd.ac w t * Gd.ac h t) + 1 < Gd.ac w t * Gd.ac h t
  · have d1 : (i + 1) / (Gd.ac w t * Gd.ac h t) = i / (Gd.ac w t * Gd.ac h t) := by
      conv => lhs; rw [← e, Nat.add_assoc, Nat.mul_add_div T, Nat.div_eq_of_lt hb]
      rfl
    have d2 : (i + 1) % (Gd.ac w t * Gd.ac h t) = i % (Gd.ac w t * Gd.ac h t) + 1 := by
      conv => lhs; rw [← e, Nat.add_assoc, Nat.mul_add_mod, Nat.mod_eq_of_lt hb]
    rw [d1, d2, off_step hw ht hk hb, Nat.add_assoc]
  · have hb2 : i % (Gd.ac w t * Gd.ac h t) + 1 = Gd.ac w t * Gd.ac h t := by omega
    have e3 : i + 1 = Gd.ac w t * Gd.ac h t * (i / (Gd.ac w t * Gd.ac h t) + 1) := by rw [Nat.mul_succ]; omega
    have d1 : (i + 1) / (Gd.ac w t * Gd.ac h t) = i / (Gd.ac w t * Gd.ac h t) + 1 := by rw [e3, Nat.mul_div_cancel_left _ T]
    have d2 : (i + 1) % (Gd.ac w t * Gd.ac h t) = 0 := by rw [e3, Nat.mul_mod_right]
    rw [d1, d2, off_zero, Nat.add_zero, Nat.succ_mul, Nat.add_assoc, off_last hw ht hk hb2]
theorem acc_le {w h t i n : Nat} (hw : 0 < w) (hh : 0 < h) (ht : 0 < t) (hi : i < n * (Gd.ac w t * Gd.ac h t)) : acc w h t i + Rg.tileBox w h t (i % (Gd.ac w t * Gd.ac h t)) ≤ n * (w * h) := by
  have T : 0 < Gd.ac w t * Gd.ac h t := Nat.mul_pos (Gd.ac_pos hw ht) (Gd.ac_pos hh ht)
  have hk : i % (Gd.ac w t * Gd.ac h t) < Gd.ac w t * Gd.ac h t := Nat.mod_lt _ T
  have := off_le hw ht hk
  have h2 : i / (Gd.ac w t * Gd.ac h t) < n := Nat.div_lt_of_lt_mul (by rw [Nat.mul_comm]; exact hi)
  have h3 := Nat.mul_le_mul_right (w * h) (show i / (Gd.ac w t * Gd.ac h t) + 1 ≤ n from h2)
  rw [Nat.succ_mul] at h3
  unfold acc
  omega
/-! tables of packets, told by a property -/
noncomputable def PT (c T d : Nat) (S : Nat → Nat → Nat → Prop) (F : Nat → Nat → Nat → List Bool → Prop) (kvs : List (List L2.Key × V)) : Prop := ∃ g : Nat → Nat → Nat → List Bool, ∀ j k p, j < c → k < T → p < d → S j k p → valV kvs (kq j k p) = some (.str (Bs.S (g j k p))) ∧ F j k p (g j k p)
theorem PT.put {c T d : Nat} {S S' : Nat → Nat → Nat → Prop} {F F' : Nat → Nat → Nat → List Bool → Prop} {kvs kvs' : List (List L2.Key × V)} {j0 k0 p0 : Nat} {b : List Bool} (x : PT c T d S F kvs) (e : ∀ key, valV kvs' key = if key = kq j0 k0 p0 then some (.str (Bs.S b)) else valV kvs key) (hb : F' j0 k0 p0 b)
    (hS : ∀ j k p, j < c → k < T → p < d → ¬ (j = j0 ∧ k = k0 ∧ p = p0) → S' j k p → S j k p ∧ ∀ y, F j k p y → F' j k p y) : PT c T d S' F' kvs' := by
  obtain ⟨g, hg⟩ := x
  refine ⟨fun j k p => if j = j0 ∧ k = k0 ∧ p = p0 then b else g j k p, fun j k p hj hk hp s => ?_⟩
  rw [e]
  dsimp only
  by_cases z : j = j0 ∧ k = k0 ∧ p = p0
  · rw [if_pos (kq_inj.mpr z), if_pos z]
    obtain ⟨rfl, rfl, rfl⟩ := z
    exact ⟨rfl, hb⟩
  · rw [if_neg (fun y => z (kq_inj.mp y)), if_neg z]
    obtain ⟨h1, h2⟩ := hS j k p hj hk hp z s
    obtain ⟨h3, h4⟩ := hg j k p hj hk hp h1
    exact ⟨h3, h2 _ h4⟩
theorem PT.mono {c T d : Nat} {S S' : Nat → Nat → Nat → Prop} {F F' : Nat → Nat → Nat → List Bool → Prop} {kvs : List (List L2.Key × V)} (x : PT c T d S F kvs) (h : ∀ j k p, j < c → k < T → p < d → S' j k p → S j k p ∧ ∀ y, F j k p y → F' j k p y) : PT c T d S' F' kvs := by
  obtain ⟨g, hg⟩ := x
  refine ⟨g, fun j k p hj hk hp s => ?_⟩
  obtain ⟨h1, h2⟩ := h j k p hj hk hp s
  obtain ⟨h3, h4⟩ := hg j k p hj hk hp h1
  exact ⟨h3, h2 _ h4⟩
end Dx

namespace En
open PySem L2
/-! lists of pairs of a key and a number -/
noncomputable def EnP (H : Hp) : List V → List (List Int × Int) → Prop
  | [], [] => True
  | v :: xs, e :: es => (∃ a kp, v = .ref a ∧ H a = some (.tup [.ref kp, .int e.2]) ∧ H kp = some (.tup (e.1.map V.int))) ∧ EnP H xs es
  | _, _ => False
theorem EnP.keep {H H' : Hp} (s : Same H H') : ∀ {xs : List V} {es : List (List Int × Int)}, EnP H xs es → EnP H' xs es
  | [], [], _ => trivial
  | _ :: _, _ :: _, ⟨⟨a, kp, e1, e2, e3⟩, r⟩ => ⟨⟨a, kp, e1, s _ _ e2, s _ _ e3⟩, EnP.keep s r⟩
  | [], _ :: _, h => h.elim
  | _ :: _, [], h => h.elim
theorem EnP.len {H : Hp} : ∀ {xs : List V} {es : List (List Int × Int)}, EnP H xs es → xs.length = es.length
  | [], [], _ => rfl
  | _ :: _, _ :: _, ⟨_, r⟩ => congrArg (· + 1) (EnP.len r)
  | [], _ :: _, h => h.elim
  | _ :: _, [], h => h.elim
theorem EnP.app {H : Hp} : ∀ {xs ys : List V} {es fs : List (List Int × Int)}, EnP H xs es → EnP H ys fs → EnP H (xs ++ ys) (es ++ fs)
  | [], _, [], _, _, h => h
  | _ :: _, _, _ :: _, _, h, g => ⟨h.1, EnP.app h.2 g⟩
  | [], _, _ :: _, _, h, _ => h.elim
  | _ :: _, _, [], _, h, _ => h.elim
theorem EnP.at {H : Hp} : ∀ {xs : List V} {es : List (List Int × Int)} {i : Nat} {v : V}, EnP H xs es → xs[i]? = some v → ∃ (e : List Int × Int) (a kp : Addr), es[i]? = some e ∧ v = .ref a ∧ H a = some (.tup [.ref kp, .int e.2]) ∧ H kp = some (.tup (e.1.map V.int))
  | [], [], _, _, _, h => by cases h
  | v :: xs, e :: es, 0, _, ⟨⟨a, kp, h1, h2, h3⟩, _⟩, h => by cases h; exact ⟨e, a, kp, rfl, h1, h2, h3⟩
  | _ :: _, _ :: _, i + 1, _, ⟨_, r⟩, h => EnP.at (i := i) r (by simpa using h)
  | [], _ :: _, _, _, h, _ => h.elim
  | _ :: _, [], _, _, h, _ => h.elim
noncomputable def EL (H : Hp) (l : Addr) (es : List (List Int × Int)) : Prop := ∃ xs, H l = some (.lst xs) ∧ EnP H xs es
theorem EL.keep {H H' : Hp} {l : Addr} {es : List (List Int × Int)} (x : EL H l es) (s : Same H H') : EL H' l es := by
  obtain ⟨xs, h1, h2⟩ := x
  exact ⟨xs, s _ _ h1, h2.keep s⟩
noncomputable def enD (e : List Int × Int) : PyData := .tuple [.tuple (e.1.map .int), .int e.2]
theorem EnP.dp {K : PySem.W.Frag} {H : Hp} : ∀ {xs : List V} {es : List (List Int × Int)}, EnP H xs es → DpAll K H xs (es.map enD)
  | [], [], _ => .nil
  | v :: _, _ :: _, ⟨⟨a, kp, h1, h2, h3⟩, r⟩ => by
    subst h1
    exact .cons (.tup (SqT.of h2) (.cons (.tup (SqT.of h3) (Gx.dpAll_int _)) (.cons (.int _) .nil))) (EnP.dp r)
  | [], _ :: _, h => h.elim
  | _ :: _, [], h => h.elim
theorem EL.dp {K : PySem.W.Frag} {H : Hp} {l : Addr} {es : List (List Int × Int)} (x : EL H l es) : Dp K H (.ref l) (.list (es.map enD)) := by
  obtain ⟨xs, h1, h2⟩ := x
  exact .lst (SqL.of h1) h2.dp
noncomputable def kb (c T d : Nat) (k : List Int) : Option Str := Sx.keyBad c T d (k.getD 0 0) (k.getD 1 0) (k.getD 2 0)
noncomputable def told : Option (Option Str) → List Str
  | none => []
  | some none => ["twice"]
  | some (some z) => [z]
/-! the table of what was seen -/
noncomputable def ik (k : List Int) : List L2.Key := k.map Sum.inl
theorem ik_kV (k : List Int) : (ik k).map kV = k.map V.int := by
  unfold ik; rw [List.map_map]; rfl
theorem ik_inj {j k : List Int} : ik j = ik k ↔ j = k := by
  unfold ik
  constructor
  · intro h
    induction j generalizing k with
    | nil => cases k with
      | nil => rfl
      | cons _ _ => cases h
    | cons a j ih => cases k with
      | nil => cases h
      | cons b k => injection h with h1 h2; injection h1 with h1; rw [h1, ih h2]
  · intro h; rw [h]
noncomputable def Seen (kvs : List (List L2.Key × V)) (seen : List (List Int)) : Prop := ∀ k : List Int, (valV kvs (ik k)).isSome = decide (k ∈ seen)
theorem Seen.nil : Seen [] [] := fun k => by simp [valV]
theorem Seen.put {kvs : List (List L2.Key × V)} {seen : List (List Int)} {k : List Int} {v : V} (x : Seen kvs seen) : Seen (putK kvs (ik k) v) (seen ++ [k]) := fun j => by
  rw [valV_put]
  by_cases h : j = k
  · rw [if_pos (ik_inj.mpr h)]
    simp [h]
  · rw [if_neg (fun z => h (ik_inj.mp z)), x j]
    simp [h]
noncomputable def DiP (x y : V) (H : Hp) (Q : VK) : Prop := ∃ a o, x = .ref a ∧ DGet H a y o ∧ Q (.bl o.isSome) H
theorem din {td ty : TE} {σ : L2.St} {H : Hp} {Q : VK} (q : ty σ H fun y H1 => td σ H1 fun x H2 => DiP x y H2 Q) : tDIn ty td σ H Q := q
end En
local macro_rules | `(tactic| walk_at "run1") => `(tactic| with_reducible refine En.din ?_)

namespace Mv
open PySem L2
/-! what stands (R) and what changes (ps, an object for each address) -/
structure Hv (R H : Hp) (ps : List (Addr × HO)) : Prop where
  off : ∀ a, (∀ q ∈ ps, q.1 ≠ a) → H a = R a
  on : ∀ q ∈ ps, H q.1 = some q.2 ∧ R q.1 = none
  nd : (ps.map (·.1)).Nodup
section
variable {R H H' : Hp} {ps l1 l2 : List (Addr × HO)} {a : Addr} {o o' : HO}
theorem Hv.at (h : Hv R H ps) (m : (a, o) ∈ ps) : H a = some o := (h.on _ m).1
theorem Hv.no (h : Hv R H ps) (m : (a, o) ∈ ps) : R a = none := (h.on _ m).2
theorem Hv.same (h : Hv R H ps) : Same R H := fun a o e => by
  rw [h.off a fun q hq z => ?_]; exact e
  have := (h.on q hq).2
  rw [z, e] at this; cases this
theorem Hv.free (h : Hv R H ps) (e : H a = none) : R a = none ∧ ∀ q ∈ ps, q.1 ≠ a := by
  have n : ∀ q ∈ ps, q.1 ≠ a := fun q hq z => by
    have := (h.on q hq).1
    rw [z, e] at this; cases this
  exact ⟨(h.off a n).symm.trans e, n⟩
theorem Hv.nil : Hv H H [] := ⟨fun _ _ => rfl, (fun q m => nomatch m), List.nodup_nil⟩
theorem Hv.put (h : Hv R H (l1 ++ (a, o) :: l2)) : Hv R (upd H a o') (l1 ++ (a, o') :: l2) := by
  have nd := h.nd
  have ek : (l1 ++ (a, o') :: l2).map (·.1) = (l1 ++ (a, o) :: l2).map (·.1) := by simp
  rw [List.map_append, List.map_cons, List.nodup_append] at nd
  obtain ⟨n1, n2, n3⟩ := nd
  rw [List.nodup_cons] at n2
  refine ⟨fun c hc => ?_, fun q hq => ?_, by rw [ek]; exact h.nd⟩
  · have ca : a ≠ c := hc (a, o') (by simp)
    rw [upd_ne ca.symm]
    refine h.off c fun q hq => ?_
    rcases List.mem_append.mp hq with e | e
    · exact hc q (List.mem_append_left _ e)
    · rcases List.mem_cons.mp e with e | e
      · subst e; exact ca
      · exact hc q (List.mem_append_right _ (List.mem_cons_of_mem _ e))
  · rcases List.mem_append.mp hq with e | e
    · have ne : q.1 ≠ a := n3 _ (List.mem_map_of_mem e) _ (List.mem_cons_self ..)
      rw [upd_ne ne]
      exact h.on q (List.mem_append_left _ e)
    · rcases List.mem_cons.mp e with e | e
      · subst e; exact ⟨upd_same, (h.on (a, o) (by simp)).2⟩
      · have ne : q.1 ≠ a := fun z => n2.1 (by rw [← z]; exact List.mem_map.mpr ⟨q, e, rfl⟩)
        rw [upd_ne ne]
        exact h.on q (List.mem_append_right _ (List.mem_cons_of_mem _ e))
theorem Hv.perm (h : Hv R H l1) (p : l1.Perm l2) : Hv R H l2 := ⟨fun a n => h.off a fun q hq => n q (p.mem_iff.mp hq), fun q hq => h.on q (p.mem_iff.mpr hq), (p.map _).nodup_iff.mp h.nd⟩
/-- behind a call that leaves all that stands -/
theorem Hv.grow (h : Hv R H ps) (s : Same H H') : ∃ R', Hv R' H' ps ∧ Same R R' ∧ ∀ a o, H a = none → H' a = some o → R' a = some o := by
  refine ⟨fun a => if a ∈ ps.map (·.1) then none else H' a, ⟨fun a n => ?_, fun q hq => ⟨s _ _ (h.on q hq).1, if_pos (List.mem_map_of_mem hq)⟩, h.nd⟩, fun a o e => ?_, fun a o e f => ?_⟩
  · rw [if_neg]
    intro m
    obtain ⟨q, hq, e⟩ := List.mem_map.mp m
    exact n q hq e
  · show (if a ∈ ps.map (·.1) then none else H' a) = some o
    rw [if_neg]
    · exact s _ _ (h.same _ _ e)
    · intro m
      obtain ⟨q, hq, z⟩ := List.mem_map.mp m
      have := (h.on q hq).2
      rw [z, e] at this; cases this
  · show (if a ∈ ps.map (·.1) then none else H' a) = some o
    rw [if_neg]
    · exact f
    · intro m
      obtain ⟨q, hq, z⟩ := List.mem_map.mp m
      exact (h.free e).2 q hq z
/-- a new one that is to change -/
theorem Hv.more (h : Hv R H ps) (e : H a = none) (s : Same H H') (f : H' a = some o) : ∃ R', Hv R' H' ((a, o) :: ps) ∧ Same R R' := by
  obtain ⟨ra, na⟩ := h.free e
  obtain ⟨R', h1, h2, h3⟩ := h.grow s
  have s' : Same R (fun c => if c = a then none else R' c) := fun c u z => by
    show (if c = a then none else R' c) = some u
    rw [if_neg (fun y => by rw [y, ra] at z; cases z)]; exact h2 _ _ z
  refine ⟨fun c => if c = a then none else R' c, ⟨fun c n => ?_, fun q hq => ?_, ?_⟩, s'⟩
  · have ca : a ≠ c := n (a, o) (List.mem_cons_self ..)
    rw [if_neg ca.symm]
    exact h1.off c fun q hq => n q (List.mem_cons_of_mem _ hq)
  · rcases List.mem_cons.mp hq with z | z
    · subst z; exact ⟨f, if_pos rfl⟩
    · exact ⟨(h1.on q z).1, by rw [if_neg (na q z)]; exact (h1.on q z).2⟩
  · rw [List.map_cons, List.nodup_cons]
    refine ⟨fun m => ?_, h.nd⟩
    obtain ⟨q, hq, z⟩ := List.mem_map.mp m
    exact na q hq z
/-- what does not change any more -/
theorem Hv.less (h : Hv R H ((a, o) :: ps)) : ∃ R', Hv R' H ps ∧ Same R R' ∧ R' a = some o := by
  have nd := h.nd
  rw [List.map_cons, List.nodup_cons] at nd
  refine ⟨upd R a o, ⟨fun c n => ?_, fun q hq => ⟨(h.on q (List.mem_cons_of_mem _ hq)).1, ?_⟩, nd.2⟩, Gx.same_new (h.on (a, o) (List.mem_cons_self ..)).2, upd_same⟩
  · by_cases ca : c = a
    · subst ca; rw [upd_same]; exact (h.on (c, o) (List.mem_cons_self ..)).1
    · rw [upd_ne ca]
      refine h.off c fun q hq => ?_
      rcases List.mem_cons.mp hq with z | z
      · subst z; exact fun z => ca z.symm
      · exact n q z
  · rw [upd_ne (fun z => nd.1 (by rw [← z]; exact List.mem_map.mpr ⟨q, hq, rfl⟩))]
    exact (h.on q (List.mem_cons_of_mem _ hq)).2
theorem Hv.sw {x y : Addr × HO} (h : Hv R H (x :: y :: ps)) : Hv R H (y :: x :: ps) := h.perm (List.Perm.swap ..)
end
section
variable {R H : Hp} {a b c d e f : Addr} {o p q r s t u : HO} {ps : List (Addr × HO)}
theorem Hv.p0 (h : Hv R H ((a, o) :: ps)) : Hv R (upd H a u) ((a, u) :: ps) := Hv.put (l1 := []) h
theorem Hv.p1 {x1 : Addr × HO} (h : Hv R H (x1 :: (a, o) :: ps)) : Hv R (upd H a u) (x1 :: (a, u) :: ps) := Hv.put (l1 := [x1]) h
theorem Hv.p2 {x1 x2 : Addr × HO} (h : Hv R H (x1 :: x2 :: (a, o) :: ps)) : Hv R (upd H a u) (x1 :: x2 :: (a, u) :: ps) := Hv.put (l1 := [x1, x2]) h
theorem Hv.p3 {x1 x2 x3 : Addr × HO} (h : Hv R H (x1 :: x2 :: x3 :: (a, o) :: ps)) : Hv R (upd H a u) (x1 :: x2 :: x3 :: (a, u) :: ps) := Hv.put (l1 := [x1, x2, x3]) h
theorem Hv.p4 {x1 x2 x3 x4 : Addr × HO} (h : Hv R H (x1 :: x2 :: x3 :: x4 :: (a, o) :: ps)) : Hv R (upd H a u) (x1 :: x2 :: x3 :: x4 :: (a, u) :: ps) := Hv.put (l1 := [x1, x2, x3, x4]) h
theorem Hv.g0 (h : Hv R H ((a, o) :: ps)) : H a = some o := h.at (List.mem_cons_self ..)
theorem Hv.g1 {x1 : Addr × HO} (h : Hv R H (x1 :: (a, o) :: ps)) : H a = some o := h.at (by simp)
theorem Hv.g2 {x1 x2 : Addr × HO} (h : Hv R H (x1 :: x2 :: (a, o) :: ps)) : H a = some o := h.at (by simp)
theorem Hv.g3 {x1 x2 x3 : Addr × HO} (h : Hv R H (x1 :: x2 :: x3 :: (a, o) :: ps)) : H a = some o := h.at (by simp)
theorem Hv.g4 {x1 x2 x3 x4 : Addr × HO} (h : Hv R H (x1 :: x2 :: x3 :: x4 :: (a, o) :: ps)) : H a = some o := h.at (by simp)
end
theorem Hv.ofOwn {R0 R H : Hp} {D : Addr} {o : HO} {ps : List (Addr × HO)} (O : Fx.Own R H (Nx.one D o)) (hv : Hv R0 R ps) : Hv R0 H ((D, o) :: ps) := by
  obtain ⟨n0, n1⟩ := hv.free (Nx.no1 O)
  refine ⟨fun a n => ?_, fun q hq => ?_, ?_⟩
  · rw [Nx.off1 O (n (D, o) (List.mem_cons_self ..)).symm]
    exact hv.off a fun q hq => n q (List.mem_cons_of_mem _ hq)
  · rcases List.mem_cons.mp hq with e | e
    · subst e; exact ⟨Nx.at1 O, n0⟩
    · rw [Nx.off1 O (n1 q e)]; exact hv.on q e
  · rw [List.map_cons, List.nodup_cons]
    refine ⟨fun m => ?_, hv.nd⟩
    obtain ⟨q, hq, e⟩ := List.mem_map.mp m
    exact n1 q hq e
/-- a list that came to stand apart is laid down -/
theorem Hv.down {R0 R H : Hp} {D : Addr} {o : HO} {ps : List (Addr × HO)} (O : Fx.Own R H (Nx.one D o)) (hv : Hv R0 R ps) : ∃ R', Hv R' H ps ∧ Same R0 R' ∧ R' D = some o := (Hv.ofOwn O hv).less
end Mv

namespace Cx_
open PySem L2
noncomputable def bt (bs : List Bool) (i : Int) : Bool := bs.getD i.toNat false
/-- the context of a place (the document's four neighbours) -/
noncomputable def ctx (w : Nat) (bs : List Bool) (n : Nat) : Nat :=
  (if n % w ≠ 0 ∧ bs.getD (n - 1) false = true then 1 else 0) + (if w ≤ n then (if n % w ≠ 0 ∧ bs.getD (n - w - 1) false = true then 2 else 0) + (if bs.getD (n - w) false = true then 4 else 0) + (if n % w < w - 1 ∧ bs.getD (n - w + 1) false = true then 8 else 0) else 0)
theorem ctx_lt (w : Nat) (bs : List Bool) (n : Nat) : ctx w bs n < 16 := by
  unfold ctx
  split <;> split <;> (try split) <;> (try split) <;> (try split) <;> omega
/-- it hangs on the bits before the place alone -/
theorem ctx_same {w n : Nat} {bs cs : List Bool} (hw : 0 < w) (h : ∀ i, i < n → bs.getD i false = cs.getD i false) : ctx w bs n = ctx w cs n := by
  unfold ctx
  by_cases h0 : n = 0
  · subst h0
    simp [Nat.zero_mod, show ¬ w = 0 by omega]
  rw [h (n - 1) (by omega)]
  by_cases hwn : w ≤ n
  · rw [if_pos hwn, if_pos hwn, h (n - w - 1) (by omega), h (n - w) (by omega)]
    by_cases hc : n % w < w - 1
    · rw [h (n - w + 1) (by omega)]
    · rw [if_neg (c := n % w < w - 1 ∧ bs.getD (n - w + 1) false = true) (fun z => hc z.1), if_neg (c := n % w < w - 1 ∧ cs.getD (n - w + 1) false = true) (fun z => hc z.1)]
  · rw [if_neg hwn, if_neg hwn]
end Cx_

namespace Iv
open PySem L2 Cx_
/-- how often the bit b came in the context c before place n -/
noncomputable def cnt (w : Nat) (bs : List Bool) (b : Bool) : Nat → Nat → Nat
  | 0, _ => 0
  | n + 1, c => cnt w bs b n c + if ctx w bs n = c ∧ bs.getD n false = b then 1 else 0
/-- the interval of the first n bits: low, size, whole -/
noncomputable def iv (w : Nat) (bs : List Bool) : Nat → Nat × Nat × Nat
  | 0 => (0, 1, 1)
  | n + 1 =>
    let l := (iv w bs n).1
    let s := (iv w bs n).2.1
    let h := (iv w bs n).2.2
    let z := 1 + cnt w bs false n (ctx w bs n)
    let o := 1 + cnt w bs true n (ctx w bs n)
    if bs.getD n false = true then (l * (z + o) + s * z, s * o, h * (z + o)) else (l * (z + o), s * z, h * (z + o))
theorem cnt_le (w : Nat) (bs : List Bool) (b : Bool) : ∀ n c, cnt w bs b n c ≤ n
  | 0, _ => Nat.le_refl _
  | n + 1, c => by
    have h := cnt_le w bs b n c
    unfold cnt
    split <;> omega
theorem cnt_same {w : Nat} {bs cs : List Bool} {b : Bool} (hw : 0 < w) : ∀ n c, (∀ i, i < n → bs.getD i false = cs.getD i false) → cnt w bs b n c = cnt w cs b n c
  | 0, _, _ => rfl
  | n + 1, c, h => by
    unfold cnt
    rw [cnt_same hw n c fun i hi => h i (by omega), ctx_same hw fun i hi => h i (by omega), h n (by omega)]
theorem iv_same {w : Nat} {bs cs : List Bool} (hw : 0 < w) : ∀ n, (∀ i, i < n → bs.getD i false = cs.getD i false) → iv w bs n = iv w cs n
  | 0, _ => rfl
  | n + 1, h => by
    unfold iv
    rw [iv_same hw n fun i hi => h i (by omega), cnt_same hw n _ fun i hi => h i (by omega), cnt_same hw n _ fun i hi => h i (by omega), ctx_same hw fun i hi => h i (by omega), h n (by omega)]
theorem getD_app {bs cs : List Bool} {i : Nat} (h : i < bs.length) : (bs ++ cs).getD i false = bs.getD i false := by
  rw [List.getD_eq_getElem?_getD, List.getElem?_append_left h, ← List.getD_eq_getElem?_getD]
theorem getD_len {bs cs : List Bool} {b : Bool} : (bs ++ b :: cs).getD bs.length false = b := by
  rw [List.getD_eq_getElem?_getD, List.getElem?_append_right (Nat.le_refl _), Nat.sub_self]; rfl
/-- the counts of one context after all of some bits -/
noncomputable def zs (w : Nat) (bs : List Bool) (c : Nat) : Nat := 1 + cnt w bs false bs.length c
noncomputable def os (w : Nat) (bs : List Bool) (c : Nat) : Nat := 1 + cnt w bs true bs.length c
noncomputable def lo (w : Nat) (bs : List Bool) : Nat := (iv w bs bs.length).1
noncomputable def sz (w : Nat) (bs : List Bool) : Nat := (iv w bs bs.length).2.1
noncomputable def wh (w : Nat) (bs : List Bool) : Nat := (iv w bs bs.length).2.2
/-- the context of the next bit -/
noncomputable def nx (w : Nat) (bs : List Bool) : Nat := ctx w bs bs.length
noncomputable def both (w : Nat) (bs : List Bool) : Nat := zs w bs (nx w bs) + os w bs (nx w bs)
section
variable {w : Nat} {bs : List Bool} {b : Bool} (hw : 0 < w)
include hw
end
section
variable {w n : Nat} {bs : List Bool}
/-- counts from 0, as a list -/
noncomputable def cl (w : Nat) (bs : List Bool) (b : Bool) (n : Nat) : List V := (List.range 16).map fun c => .int (cnt w bs b n c : Nat)
end
end Iv

namespace Gx
open PySem L2
theorem bits {σ : L2.St} {H : Hp} {Q : VK} {te : TE} (q : te σ H fun x H1 => BiP x H1 Q) : tBits te σ H Q := q
end Gx
namespace Iv
open Cx_
/-! the interval lies in the whole -/
theorem sz_pos' {w : Nat} {bs : List Bool} : ∀ n, 0 < (iv w bs n).2.1 ∧ 0 < (iv w bs n).2.2
  | 0 => ⟨Nat.one_pos, Nat.one_pos⟩
  | n + 1 => by
    obtain ⟨h1, h2⟩ := sz_pos' (w := w) (bs := bs) n
    rw [iv]
    split
    · exact ⟨Nat.mul_pos h1 (by omega), Nat.mul_pos h2 (by omega)⟩
    · exact ⟨Nat.mul_pos h1 (by omega), Nat.mul_pos h2 (by omega)⟩
theorem in_whole {w : Nat} {bs : List Bool} : ∀ n, (iv w bs n).1 + (iv w bs n).2.1 ≤ (iv w bs n).2.2
  | 0 => Nat.le_refl _
  | n + 1 => by
    have h := in_whole (w := w) (bs := bs) n
    rw [iv]
    generalize (iv w bs n).1 = l at *
    generalize (iv w bs n).2.1 = s at *
    generalize (iv w bs n).2.2 = m at *
    generalize 1 + cnt w bs false n (ctx w bs n) = z
    generalize 1 + cnt w bs true n (ctx w bs n) = o
    have h2 := Nat.mul_le_mul_right (z + o) h
    rw [Nat.add_mul, Nat.mul_add s] at h2
    split
    · simp only []; omega
    · simp only []; omega
theorem wh_le {w : Nat} {bs : List Bool} : ∀ n, n ≤ 300 → (iv w bs n).2.2 ≤ 2 ^ (10 * n)
  | 0, _ => Nat.le_refl _
  | n + 1, hn => by
    have h := wh_le (w := w) (bs := bs) n (by omega)
    have c1 := cnt_le w bs false n (ctx w bs n)
    have c2 := cnt_le w bs true n (ctx w bs n)
    have e : (iv w bs (n + 1)).2.2 = (iv w bs n).2.2 * (1 + cnt w bs false n (ctx w bs n) + (1 + cnt w bs true n (ctx w bs n))) := by
      rw [iv]; split <;> rfl
    rw [e, show 10 * (n + 1) = 10 * n + 10 by omega, Nat.pow_add]
    exact Nat.mul_le_mul h (Nat.le_trans (show _ ≤ 602 by omega) (by decide))
theorem sz_pos (w : Nat) (bs : List Bool) : 0 < sz w bs := (sz_pos' _).1
theorem wh_pos (w : Nat) (bs : List Bool) : 0 < wh w bs := (sz_pos' _).2
theorem lo_sz (w : Nat) (bs : List Bool) : lo w bs + sz w bs ≤ wh w bs := in_whole _
end Iv
namespace Cd
/-- the first place of p from n on, within f places -/
noncomputable def first (p : Nat → Bool) : Nat → Nat → Nat
  | n, 0 => n
  | n, f + 1 => if p n = true then n else first p (n + 1) f
theorem first_spec (p : Nat → Bool) : ∀ (f n j : Nat), n ≤ j → j ≤ n + f → p j = true → p (first p n f) = true ∧ n ≤ first p n f ∧ first p n f ≤ j ∧ ∀ i, n ≤ i → i < first p n f → p i = false
  | 0, n, j, h1, h2, h3 => by
    have e : j = n := by omega
    subst e
    exact ⟨h3, Nat.le_refl _, Nat.le_refl _, fun i a b => absurd a (by unfold first at b; omega)⟩
  | f + 1, n, j, h1, h2, h3 => by
    unfold first
    by_cases h : p n = true
    · rw [if_pos h]; exact ⟨h, Nat.le_refl _, h1, fun i a b => absurd a (by omega)⟩
    · rw [if_neg h]
      have hj : n + 1 ≤ j := by
        rcases Nat.lt_or_ge n j with q | q
        · exact q
        · exact absurd (show p n = true by rw [show n = j by omega]; exact h3) h
      obtain ⟨a, b, c, d⟩ := first_spec p f (n + 1) j hj (by omega) h3
      refine ⟨a, by omega, c, fun i x y => ?_⟩
      by_cases e : i = n
      · subst e; simpa using h
      · exact d i (by omega) y
/-- the least a with a / 2^k from low / whole on -/
noncomputable def ceil (l h k : Nat) : Nat := (l * 2 ^ k + h - 1) / h
/-- its cell lies in the interval -/
noncomputable def fit (l s h k : Nat) : Bool := decide ((ceil l h k + 1) * h ≤ (l + s) * 2 ^ k)
/-- the number of digits of the shortest cell -/
noncomputable def klen (l s h : Nat) : Nat := first (fit l s h) 0 (h + 2)
theorem ceil_lt {l h k : Nat} (hh : 0 < h) : ceil l h k * h < l * 2 ^ k + h := by
  unfold ceil
  have e := Nat.div_mul_le_self (l * 2 ^ k + h - 1) h
  omega
theorem fit_of {l s h k : Nat} (hh : 0 < h) (g : 2 * h ≤ s * 2 ^ k) : fit l s h k = true := by
  refine decide_eq_true ?_
  have c := ceil_lt (l := l) (k := k) hh
  rw [Nat.add_mul, Nat.add_mul, Nat.one_mul]
  omega
theorem klen_spec {l s h : Nat} (hs : 0 < s) (hh : 0 < h) : fit l s h (klen l s h) = true ∧ ∀ i, i < klen l s h → fit l s h i = false := by
  have g : fit l s h (h + 2) = true := fit_of hh (by
    have := Nat.lt_two_pow_self (n := h)
    have e : 2 ^ (h + 2) = 4 * 2 ^ h := by rw [Nat.pow_add, Nat.mul_comm]
    have := Nat.mul_le_mul hs (Nat.le_refl (2 ^ (h + 2)))
    omega)
  obtain ⟨a, b, c, d⟩ := first_spec (fit l s h) (h + 2) 0 (h + 2) (Nat.zero_le _) (by omega) g
  exact ⟨a, fun i hi => d i (Nat.zero_le _) hi⟩
theorem klen_lt {l s h : Nat} (hs : 0 < s) (hh : 0 < h) (hl : l + s ≤ h) : s * 2 ^ klen l s h < 4 * h := by
  obtain ⟨a, b⟩ := klen_spec (l := l) hs hh
  cases e : klen l s h with
  | zero => rw [Nat.pow_zero, Nat.mul_one]; omega
  | succ k =>
    have z := b k (by omega)
    have n : ¬ 2 * h ≤ s * 2 ^ k := fun q => by rw [fit_of hh q] at z; cases z
    rw [Nat.pow_succ, ← Nat.mul_assoc]; omega
theorem klen_small {l s h b : Nat} (hs : 0 < s) (hh : 0 < h) (hl : l + s ≤ h) (hb : h ≤ 2 ^ b) : klen l s h < b + 2 := by
  have a := klen_lt (l := l) hs hh hl
  have c : 2 ^ klen l s h ≤ s * 2 ^ klen l s h := Nat.le_mul_of_pos_left _ hs
  have d : 2 ^ klen l s h < 2 ^ (b + 2) := by rw [Nat.pow_add]; omega
  exact (Nat.pow_lt_pow_iff_right (by decide)).mp d
end Cd
namespace Iv
/-- the code of bits: so many digits, of this value -/
noncomputable def kl (w : Nat) (bs : List Bool) : Nat := Cd.klen (lo w bs) (sz w bs) (wh w bs)
noncomputable def av (w : Nat) (bs : List Bool) : Nat := Cd.ceil (lo w bs) (wh w bs) (kl w bs)
noncomputable def code (w : Nat) (bs : List Bool) : List Bool := Fb.bin (kl w bs) (av w bs)
theorem code_len (w : Nat) (bs : List Bool) : (code w bs).length = kl w bs := Fb.bin_len _ _
theorem wh_pow {w : Nat} {bs : List Bool} (h : bs.length ≤ 300) : wh w bs ≤ 2 ^ 3000 := Nat.le_trans (wh_le _ h) (Nat.pow_le_pow_right (by decide) (by omega))
theorem kl_le {w : Nat} {bs : List Bool} (h : bs.length ≤ 300) : kl w bs < 3002 := Cd.klen_small (sz_pos w bs) (wh_pos w bs) (lo_sz w bs) (wh_pow h)
end Iv

namespace Pr
/-! products and sums over the first places -/
noncomputable def prod (f : Nat → Nat) : Nat → Nat
  | 0 => 1
  | k + 1 => prod f k * f k
noncomputable def sum (f : Nat → Nat) : Nat → Nat
  | 0 => 0
  | k + 1 => sum f k + f k
noncomputable def fct : Nat → Nat
  | 0 => 1
  | n + 1 => fct n * (n + 1)
theorem fct_pos : ∀ n, 0 < fct n
  | 0 => Nat.one_pos
  | n + 1 => Nat.mul_pos (fct_pos n) (Nat.succ_pos n)
theorem prod_pos {f : Nat → Nat} (h : ∀ i, 0 < f i) : ∀ k, 0 < prod f k
  | 0 => Nat.one_pos
  | k + 1 => Nat.mul_pos (prod_pos h k) (h k)
theorem prod_le {f g : Nat → Nat} (h : ∀ i, f i ≤ g i) : ∀ k, prod f k ≤ prod g k
  | 0 => Nat.le_refl _
  | k + 1 => Nat.mul_le_mul (prod_le h k) (h k)
theorem prod_congr {f g : Nat → Nat} : ∀ k, (∀ i, i < k → f i = g i) → prod f k = prod g k
  | 0, _ => rfl
  | k + 1, h => by unfold prod; rw [prod_congr k fun i hi => h i (by omega), h k (by omega)]
theorem prod_mul (f g : Nat → Nat) : ∀ k, prod (fun i => f i * g i) k = prod f k * prod g k
  | 0 => rfl
  | k + 1 => by
    unfold prod
    rw [prod_mul f g k]
    exact Nat.mul_mul_mul_comm ..
theorem prod_pow (f : Nat → Nat) (e : Nat) : ∀ k, prod (fun i => f i ^ e) k = prod f k ^ e
  | 0 => by simp [prod]
  | k + 1 => by unfold prod; rw [prod_pow f e k, Nat.mul_pow]
theorem prod_two (f : Nat → Nat) : ∀ k, prod (fun i => 2 ^ f i) k = 2 ^ sum f k
  | 0 => rfl
  | k + 1 => by unfold prod sum; rw [prod_two f k, Nat.pow_add]
/-- one factor grows -/
theorem prod_one {f g : Nat → Nat} {a r : Nat} : ∀ k, a < k → g a = f a * r → (∀ i, i ≠ a → g i = f i) → prod g k = prod f k * r
  | 0, h, _, _ => absurd h (by omega)
  | k + 1, h, h1, h2 => by
    unfold prod
    by_cases e : a = k
    · subst e
      rw [prod_congr (f := g) (g := f) a fun i hi => h2 i (by omega), h1, Nat.mul_assoc]
    · rw [prod_one k (by omega) h1 h2, h2 k (by omega)]
      exact Nat.mul_right_comm ..
theorem sum_one {f g : Nat → Nat} {a r : Nat} : ∀ k, a < k → g a = f a + r → (∀ i, i ≠ a → g i = f i) → sum g k = sum f k + r
  | 0, h, _, _ => absurd h (by omega)
  | k + 1, h, h1, h2 => by
    have sc : ∀ k, (∀ i, i < k → g i = f i) → sum g k = sum f k := by
      intro k
      induction k with
      | zero => intro _; rfl
      | succ k ih => intro h; unfold sum; rw [ih fun i hi => h i (by omega), h k (by omega)]
    unfold sum
    by_cases e : a = k
    · subst e
      rw [sc a fun i hi => h2 i (by omega), h1]; omega
    · rw [sum_one k (by omega) h1 h2, h2 k (by omega)]; omega
theorem fct_two : ∀ (s a b : Nat), a + b = s → fct (a + b) ≤ fct a * fct b * 2 ^ (a + b)
  | s, 0, b, _ => by
    rw [Nat.zero_add]
    show fct b ≤ 1 * fct b * 2 ^ b
    rw [Nat.one_mul]
    exact Nat.le_mul_of_pos_right _ (Nat.two_pow_pos b)
  | s, a + 1, 0, _ => by
    show fct (a + 1) ≤ fct (a + 1) * 1 * 2 ^ (a + 1)
    rw [Nat.mul_one]
    exact Nat.le_mul_of_pos_right _ (Nat.two_pow_pos _)
  | 0, a + 1, b + 1, h => by omega
  | s + 1, a + 1, b + 1, h => by
    have h1 := fct_two s a (b + 1) (by omega)
    have h2 := fct_two s (a + 1) b (by omega)
    rw [show a + 1 + (b + 1) = (a + (b + 1)) + 1 by omega]
    have e : a + 1 + b = a + (b + 1) := by omega
    rw [e] at h2
    show fct (a + (b + 1)) * (a + (b + 1) + 1) ≤ _
    rw [show a + (b + 1) + 1 = (a + 1) + (b + 1) by omega, Nat.mul_add]
    generalize fct (a + (b + 1)) = x at *
    rw [show a + 1 + (b + 1) = (a + (b + 1)) + 1 by omega, Nat.pow_succ]
    generalize 2 ^ (a + (b + 1)) = p at *
    have g1 := Nat.mul_le_mul_right (a + 1) h1
    have g2 := Nat.mul_le_mul_right (b + 1) h2
    have e1 : fct a * fct (b + 1) * p * (a + 1) = fct (a + 1) * fct (b + 1) * p := by
      show _ = fct a * (a + 1) * fct (b + 1) * p
      rw [Nat.mul_right_comm (fct a) (a + 1), Nat.mul_right_comm (fct a * fct (b + 1)) (a + 1)]
    have e2 : fct (a + 1) * fct b * p * (b + 1) = fct (a + 1) * fct (b + 1) * p := by
      show _ = fct (a + 1) * (fct b * (b + 1)) * p
      rw [← Nat.mul_assoc, Nat.mul_right_comm _ (b + 1) p]
    rw [e1] at g1
    rw [e2] at g2
    rw [← Nat.mul_assoc]
    omega
end Pr
namespace Iv
open Cx_ Pr
/-! codes are short: the whole over the size is at most a power of two -/
theorem pow16 (n : Nat) : (n + 1) ^ 16 ≤ 2 ^ (n + 51) := by
  by_cases h : n ≤ 22
  · have : ∀ m : _root_.Fin 23, (m.1 + 1) ^ 16 ≤ 2 ^ (m.1 + 51) := by decide +kernel
    exact this ⟨n, by omega⟩
  · obtain ⟨k, rfl⟩ : ∃ k, n = 22 + k := ⟨n - 22, by omega⟩
    clear h
    induction k with
    | zero => decide +kernel
    | succ k ih =>
      have step : (22 + (k + 1) + 1) ^ 16 ≤ 2 * (22 + k + 1) ^ 16 := by
        have a : (23 * (22 + (k + 1) + 1)) ^ 16 ≤ (24 * (22 + k + 1)) ^ 16 := Nat.pow_le_pow_left (by omega) 16
        rw [Nat.mul_pow, Nat.mul_pow] at a
        have b : (24 : Nat) ^ 16 ≤ 2 * 23 ^ 16 := by decide +kernel
        have c := Nat.mul_le_mul_right ((22 + k + 1) ^ 16) b
        have d : 23 ^ 16 * (22 + (k + 1) + 1) ^ 16 ≤ 23 ^ 16 * (2 * (22 + k + 1) ^ 16) := by
          refine Nat.le_trans a (Nat.le_trans c (Nat.le_of_eq ?_))
          rw [Nat.mul_comm 2 (23 ^ 16), Nat.mul_assoc]
        exact Nat.le_of_mul_le_mul_left d (by decide +kernel)
      refine Nat.le_trans step (Nat.le_trans (Nat.mul_le_mul_left 2 ih) (Nat.le_of_eq ?_))
      rw [show 22 + (k + 1) + 51 = (22 + k + 51) + 1 by omega]
      exact (Nat.pow_succ' ..).symm
theorem cnt_ne {w : Nat} {bs : List Bool} {n c : Nat} (b : Bool) (h : ¬ ctx w bs n = c) : cnt w bs b (n + 1) c = cnt w bs b n c := by
  show cnt w bs b n c + (if _ ∧ _ then 1 else 0) = _
  rw [if_neg (fun z => h z.1)]; rfl
theorem cnt_no {w : Nat} {bs : List Bool} {n c : Nat} {b : Bool} (h : ¬ bs.getD n false = b) : cnt w bs b (n + 1) c = cnt w bs b n c := by
  show cnt w bs b n c + (if _ ∧ _ then 1 else 0) = _
  rw [if_neg (fun z => h z.2)]; rfl
theorem cnt_yes {w : Nat} {bs : List Bool} {n c : Nat} {b : Bool} (h : ctx w bs n = c) (hb : bs.getD n false = b) : cnt w bs b (n + 1) c = cnt w bs b n c + 1 := by
  show cnt w bs b n c + (if _ ∧ _ then 1 else 0) = _
  rw [if_pos ⟨h, hb⟩]
/-- how many bits came in a context -/
noncomputable def many (w : Nat) (bs : List Bool) (n c : Nat) : Nat := cnt w bs false n c + cnt w bs true n c
theorem many_step (w : Nat) (bs : List Bool) (n c : Nat) : many w bs (n + 1) c = many w bs n c + if ctx w bs n = c then 1 else 0 := by
  show cnt w bs false (n + 1) c + cnt w bs true (n + 1) c = cnt w bs false n c + cnt w bs true n c + _
  by_cases h : ctx w bs n = c
  · rw [if_pos h]
    cases e : bs.getD n false
    · rw [cnt_yes h e, cnt_no (b := true) (by rw [e]; decide)]; omega
    · rw [cnt_yes h e, cnt_no (b := false) (by rw [e]; decide)]; omega
  · rw [if_neg h, cnt_ne _ h, cnt_ne _ h]; rfl
theorem many_sum (w : Nat) (bs : List Bool) : ∀ n, sum (many w bs n) 16 = n
  | 0 => rfl
  | n + 1 => by
    rw [sum_one (f := many w bs n) (a := ctx w bs n) (r := 1) 16 (ctx_lt w bs n) (by rw [many_step, if_pos rfl]) (fun i hi => by rw [many_step, if_neg (Ne.symm hi)]; rfl), many_sum w bs n]
/-- the interval by its counts: size times all (n + 1)! is the whole times all z! o! -/
theorem by_counts (w : Nat) (bs : List Bool) : ∀ n, (iv w bs n).2.1 * prod (fun c => fct (many w bs n c + 1)) 16 = (iv w bs n).2.2 * prod (fun c => fct (cnt w bs false n c) * fct (cnt w bs true n c)) 16
  | 0 => rfl
  | n + 1 => by
    have ih := by_counts w bs n
    have hc := ctx_lt w bs n
    have p1 : prod (fun c => fct (many w bs (n + 1) c + 1)) 16 = prod (fun c => fct (many w bs n c + 1)) 16 * (many w bs n (ctx w bs n) + 2) :=
      prod_one (a := ctx w bs n) 16 hc (by rw [many_step, if_pos rfl]; rfl) (fun i hi => by rw [many_step, if_neg (Ne.symm hi)])
    rw [p1]
    by_cases hb : bs.getD n false = true
    · have p2 : prod (fun c => fct (cnt w bs false (n + 1) c) * fct (cnt w bs true (n + 1) c)) 16 = prod (fun c => fct (cnt w bs false n c) * fct (cnt w bs true n c)) 16 * (1 + cnt w bs true n (ctx w bs n)) :=
        prod_one (a := ctx w bs n) 16 hc (by
          have e1 : cnt w bs false (n + 1) (ctx w bs n) = cnt w bs false n (ctx w bs n) := cnt_no (by rw [hb]; decide)
          have e2 : cnt w bs true (n + 1) (ctx w bs n) = cnt w bs true n (ctx w bs n) + 1 := cnt_yes rfl hb
          rw [e1, e2, Nat.mul_assoc, Nat.add_comm 1]; rfl) (fun i hi => by
          have e1 : ∀ b, cnt w bs b (n + 1) i = cnt w bs b n i := fun b => cnt_ne b (fun z => hi z.symm)
          rw [e1, e1])
      rw [p2, iv, if_pos hb]
      simp only []
      have e : 1 + cnt w bs false n (ctx w bs n) + (1 + cnt w bs true n (ctx w bs n)) = many w bs n (ctx w bs n) + 2 := by unfold many; omega
      rw [e, Nat.mul_mul_mul_comm, Nat.mul_comm (1 + cnt w bs true n (ctx w bs n)) (many w bs n (ctx w bs n) + 2), Nat.mul_mul_mul_comm ((iv w bs n).2.2), ih]
    · have hb2 : bs.getD n false = false := by simpa using hb
      have p2 : prod (fun c => fct (cnt w bs false (n + 1) c) * fct (cnt w bs true (n + 1) c)) 16 = prod (fun c => fct (cnt w bs false n c) * fct (cnt w bs true n c)) 16 * (1 + cnt w bs false n (ctx w bs n)) :=
        prod_one (a := ctx w bs n) 16 hc (by
          have e1 : cnt w bs true (n + 1) (ctx w bs n) = cnt w bs true n (ctx w bs n) := cnt_no (by rw [hb2]; decide)
          have e2 : cnt w bs false (n + 1) (ctx w bs n) = cnt w bs false n (ctx w bs n) + 1 := cnt_yes rfl hb2
          rw [e1, e2, Nat.mul_right_comm]; congr 1; rw [Nat.add_comm 1]; rfl) (fun i hi => by
          have e1 : ∀ b, cnt w bs b (n + 1) i = cnt w bs b n i := fun b => cnt_ne b (fun z => hi z.symm)
          rw [e1, e1])
      rw [p2, iv, if_neg hb]
      simp only []
      have e : 1 + cnt w bs false n (ctx w bs n) + (1 + cnt w bs true n (ctx w bs n)) = many w bs n (ctx w bs n) + 2 := by unfold many; omega
      rw [e, Nat.mul_mul_mul_comm, Nat.mul_comm (1 + cnt w bs false n (ctx w bs n)) (many w bs n (ctx w bs n) + 2), Nat.mul_mul_mul_comm ((iv w bs n).2.2), ih]
theorem whole_le (w : Nat) (bs : List Bool) (n : Nat) : (iv w bs n).2.2 ≤ (iv w bs n).2.1 * (2 ^ n * prod (fun c => many w bs n c + 1) 16) := by
  have h := by_counts w bs n
  have le : prod (fun c => fct (many w bs n c + 1)) 16 ≤ prod (fun c => (fct (cnt w bs false n c) * fct (cnt w bs true n c)) * (2 ^ many w bs n c * (many w bs n c + 1))) 16 := prod_le (fun c => by
    have f := fct_two _ (cnt w bs false n c) (cnt w bs true n c) rfl
    have g := Nat.mul_le_mul_right (many w bs n c + 1) f
    rw [Nat.mul_assoc] at g
    exact g) 16
  rw [prod_mul, prod_mul (fun c => 2 ^ many w bs n c), prod_two, many_sum] at le
  have pos : 0 < prod (fun c => fct (cnt w bs false n c) * fct (cnt w bs true n c)) 16 := prod_pos (fun c => Nat.mul_pos (fct_pos _) (fct_pos _)) 16
  have le2 := Nat.mul_le_mul_left ((iv w bs n).2.1) le
  rw [h, Nat.mul_left_comm] at le2
  rw [Nat.mul_comm (iv w bs n).2.2] at le2
  exact Nat.le_of_mul_le_mul_left le2 pos
theorem short {w : Nat} {bs : List Bool} (hw : 0 < w) : 16 * kl w bs < 17 * bs.length + 848 := by
  have h1 := Cd.klen_lt (sz_pos w bs) (wh_pos w bs) (lo_sz w bs)
  have h2 : wh w bs ≤ sz w bs * (2 ^ bs.length * prod (fun c => many w bs bs.length c + 1) 16) := whole_le w bs bs.length
  have h3 : sz w bs * 2 ^ kl w bs < sz w bs * (2 ^ (bs.length + 2) * prod (fun c => many w bs bs.length c + 1) 16) := by
    have e : sz w bs * (2 ^ (bs.length + 2) * prod (fun c => many w bs bs.length c + 1) 16) = 4 * (sz w bs * (2 ^ bs.length * prod (fun c => many w bs bs.length c + 1) 16)) := by
      rw [Nat.pow_add, show (2 : Nat) ^ 2 = 4 by decide, Nat.mul_comm (2 ^ bs.length) 4, Nat.mul_assoc 4, Nat.mul_left_comm (sz w bs) 4]
    rw [e]
    exact Nat.lt_of_lt_of_le h1 (Nat.mul_le_mul_left 4 h2)
  have h4 := Nat.lt_of_mul_lt_mul_left h3
  have h5 := Nat.pow_lt_pow_left h4 (show 16 ≠ 0 by decide)
  rw [Nat.mul_pow, ← prod_pow, ← Nat.pow_mul, ← Nat.pow_mul] at h5
  have h6 : prod (fun c => (many w bs bs.length c + 1) ^ 16) 16 ≤ prod (fun c => 2 ^ (many w bs bs.length c + 51)) 16 := prod_le (fun c => pow16 _) 16
  have h7 : prod (fun c => 2 ^ (many w bs bs.length c + 51)) 16 = 2 ^ (bs.length + 816) := by
    have e : (fun c => 2 ^ (many w bs bs.length c + 51)) = (fun c => 2 ^ many w bs bs.length c * 2 ^ 51) := by funext c; rw [Nat.pow_add]
    have c51 : prod (fun _ => 2 ^ 51) 16 = 2 ^ 816 := by decide +kernel
    rw [e, prod_mul, prod_two, many_sum, c51, Nat.pow_add]
  rw [h7] at h6
  have h8 := Nat.lt_of_lt_of_le h5 (Nat.mul_le_mul_left _ h6)
  rw [← Nat.pow_add] at h8
  have h9 := (Nat.pow_lt_pow_iff_right (by decide)).mp h8
  omega
end Iv

namespace Ord
open Cx_ Iv I2 Fb
/-! intervals nest; codes lie as the bits do -/
theorem cross {a x b y c z : Nat} (h1 : a * y ≤ b * x) (h2 : b * z ≤ c * y) (hy : 0 < y) : a * z ≤ c * x := by
  have g1 := Nat.mul_le_mul_right z h1
  have g2 := Nat.mul_le_mul_right x h2
  refine Nat.le_of_mul_le_mul_right (?_ : a * z * y ≤ c * x * y) hy
  rw [Nat.mul_right_comm a z y, Nat.mul_right_comm c x y]
  refine Nat.le_trans g1 ?_
  rw [Nat.mul_right_comm b x z]
  exact g2
/-- b lies in a -/
noncomputable def Nest (a b : Nat × Nat × Nat) : Prop := a.1 * b.2.2 ≤ b.1 * a.2.2 ∧ (b.1 + b.2.1) * a.2.2 ≤ (a.1 + a.2.1) * b.2.2
theorem Nest.trans {a b c : Nat × Nat × Nat} (h : 0 < b.2.2) (p : Nest a b) (q : Nest b c) : Nest a c :=
  ⟨cross p.1 q.1 h, cross q.2 p.2 h⟩
theorem Nest.refl (a : Nat × Nat × Nat) : Nest a a := ⟨Nat.le_refl _, Nat.le_refl _⟩
theorem nest_step (w : Nat) (bs : List Bool) (n : Nat) : Nest (iv w bs n) (iv w bs (n + 1)) := by
  unfold Nest
  rw [iv]
  generalize (iv w bs n).1 = l
  generalize (iv w bs n).2.1 = s
  generalize (iv w bs n).2.2 = m
  generalize 1 + cnt w bs false n (ctx w bs n) = z
  generalize 1 + cnt w bs true n (ctx w bs n) = o
  split
  · refine ⟨?_, ?_⟩
    · show l * (m * (z + o)) ≤ (l * (z + o) + s * z) * m
      rw [Nat.add_mul, Nat.mul_right_comm l (z + o) m, Nat.mul_assoc]; omega
    · show (l * (z + o) + s * z + s * o) * m ≤ (l + s) * (m * (z + o))
      rw [Nat.add_assoc, ← Nat.mul_add s, ← Nat.add_mul, Nat.mul_right_comm, Nat.mul_assoc]; exact Nat.le_refl _
  · refine ⟨?_, ?_⟩
    · show l * (m * (z + o)) ≤ (l * (z + o)) * m
      rw [Nat.mul_right_comm l (z + o) m, Nat.mul_assoc]; exact Nat.le_refl _
    · show (l * (z + o) + s * z) * m ≤ (l + s) * (m * (z + o))
      have e : (l + s) * (m * (z + o)) = (l * (z + o) + s * (z + o)) * m := by
        rw [← Nat.add_mul, Nat.mul_right_comm, Nat.mul_assoc]
      rw [e]
      exact Nat.mul_le_mul_right m (Nat.add_le_add_left (Nat.mul_le_mul_left s (Nat.le_add_right _ _)) _)
theorem nest (w : Nat) (bs : List Bool) (n : Nat) : ∀ k, Nest (iv w bs n) (iv w bs (n + k))
  | 0 => Nest.refl _
  | k + 1 => (nest w bs n k).trans (sz_pos' _).2 (nest_step w bs (n + k))
/-- bits up to the first difference -/
noncomputable def Diff (one two : List Bool) (q : List Bool) : Prop := ∃ t t', one = q ++ false :: t ∧ two = q ++ true :: t'
/-- the intervals lie apart, in order -/
theorem apart {w : Nat} {one two q : List Bool} (hw : 0 < w) (d : Diff one two q) : (lo w one + sz w one) * wh w two ≤ lo w two * wh w one := by
  obtain ⟨t, t', rfl, rfl⟩ := d
  have same : ∀ i, i < q.length → (q ++ false :: t).getD i false = (q ++ true :: t').getD i false := fun i hi => by rw [getD_app hi, getD_app hi]
  have n1 := nest w (q ++ false :: t) (q.length + 1) t.length
  have n2 := nest w (q ++ true :: t') (q.length + 1) t'.length
  rw [show q.length + 1 + t.length = (q ++ false :: t).length by rw [List.length_append, List.length_cons]; omega] at n1
  rw [show q.length + 1 + t'.length = (q ++ true :: t').length by rw [List.length_append, List.length_cons]; omega] at n2
  have e1 : iv w (q ++ false :: t) (q.length + 1) = ((iv w (q ++ false :: t) q.length).1 * (1 + cnt w (q ++ false :: t) false q.length (ctx w (q ++ false :: t) q.length) + (1 + cnt w (q ++ false :: t) true q.length (ctx w (q ++ false :: t) q.length))), (iv w (q ++ false :: t) q.length).2.1 * (1 + cnt w (q ++ false :: t) false q.length (ctx w (q ++ false :: t) q.length)), (iv w (q ++ false :: t) q.length).2.2 * (1 + cnt w (q ++ false :: t) false q.length (ctx w (q ++ false :: t) q.length) + (1 + cnt w (q ++ false :: t) true q.length (ctx w (q ++ false :: t) q.length)))) := by
    rw [iv, if_neg (by rw [getD_len]; decide)]
  have e2 : iv w (q ++ true :: t') (q.length + 1) = ((iv w (q ++ false :: t) q.length).1 * (1 + cnt w (q ++ false :: t) false q.length (ctx w (q ++ false :: t) q.length) + (1 + cnt w (q ++ false :: t) true q.length (ctx w (q ++ false :: t) q.length))) + (iv w (q ++ false :: t) q.length).2.1 * (1 + cnt w (q ++ false :: t) false q.length (ctx w (q ++ false :: t) q.length)), (iv w (q ++ false :: t) q.length).2.1 * (1 + cnt w (q ++ false :: t) true q.length (ctx w (q ++ false :: t) q.length)), (iv w (q ++ false :: t) q.length).2.2 * (1 + cnt w (q ++ false :: t) false q.length (ctx w (q ++ false :: t) q.length) + (1 + cnt w (q ++ false :: t) true q.length (ctx w (q ++ false :: t) q.length)))) := by
    rw [iv, if_pos getD_len, iv_same hw _ same, cnt_same hw _ _ same, cnt_same hw _ _ same, ctx_same hw same]
  have pos : 0 < (iv w (q ++ false :: t) (q.length + 1)).2.2 := (sz_pos' _).2
  have a1 := n1.2
  have a2 := n2.1
  rw [e1] at a1
  rw [e2] at a2
  rw [e1] at pos
  exact cross a1 a2 pos
end Ord

namespace Kn
open PySem L2 Iv Cd Ord I2 Fb Cx_
/-! what a prefix of a code tells -/
section
variable {w m : Nat} {c p bs : List Bool}
end
/-! the border -/
noncomputable def tp (w : Nat) (p : List Bool) : Nat := lo w p * both w p + sz w p * zs w p (nx w p)
noncomputable def bt (w : Nat) (p : List Bool) : Nat := wh w p * both w p
noncomputable def lower (m : Nat) (p : List Bool) : List Bool := p ++ false :: List.replicate (m - p.length - 1) true
noncomputable def upper (m : Nat) (p : List Bool) : List Bool := p ++ true :: List.replicate (m - p.length - 1) false
theorem lower_len {m : Nat} {p : List Bool} (h : p.length < m) : (lower m p).length = m := by
  unfold lower; rw [List.length_append, List.length_cons, List.length_replicate]; omega
section
variable {w m : Nat} {c p : List Bool} (hw : 0 < w)
include hw
end
/-- all possible bits go on from p -/
noncomputable def From (w m : Nat) (c p : List Bool) : Prop := ∀ bs, bs.length = m → c <+: code w bs → p <+: bs
/-- the known prefix, or none -/
noncomputable def Known (w m : Nat) (c : List Bool) : Option (List Bool) → Prop
  | none => ∀ bs, bs.length = m → ¬ c <+: code w bs
  | some p => p.length ≤ m ∧ From w m c p ∧ (p.length = m → c <+: code w p) ∧ (p.length < m → c <+: code w (lower m p) ∧ c <+: code w (upper m p))
/-- a known prefix comes of possible bits -/
theorem exists_of {w m : Nat} {c p : List Bool} (k : Known w m c (some p)) : ∃ bs, bs.length = m ∧ c <+: code w bs ∧ p <+: bs := by
  obtain ⟨h1, h2, h3, h4⟩ := k
  by_cases e : p.length = m
  · exact ⟨p, e, h3 e, List.prefix_rfl⟩
  · exact ⟨_, lower_len (by omega), (h4 (by omega)).1, ⟨_, rfl⟩⟩
theorem bin_of {m : Nat} {bs : List Bool} (hl : bs.length = m) : bin m (val bs) = bs ∧ val bs < 2 ^ m := by
  subst hl; exact ⟨bin_val bs, val_lt bs⟩
/-- the possible rows of all rows -/
noncomputable def rowsOf (w m : Nat) (c : List Bool) : List (List Bool) := ((List.range (2 ^ m)).filter fun v => decide (c <+: code w (bin m v))).map fun v => bin m v
theorem mem_rows {w m : Nat} {c bs : List Bool} : bs ∈ rowsOf w m c ↔ bs.length = m ∧ c <+: code w bs := by
  unfold rowsOf
  rw [List.mem_map]
  constructor
  · rintro ⟨v, hv, rfl⟩
    rw [List.mem_filter] at hv
    exact ⟨bin_len _ _, of_decide_eq_true hv.2⟩
  · rintro ⟨hl, hc⟩
    obtain ⟨e, h⟩ := bin_of hl
    refine ⟨val bs, ?_, e⟩
    rw [List.mem_filter, List.mem_range, e]
    exact ⟨h, decide_eq_true hc⟩
theorem rows_some {w m : Nat} {c p : List Bool} (k : Known w m c (some p)) : rowsOf w m c ≠ [] := by
  obtain ⟨bs, hl, hc, _⟩ := exists_of k
  exact List.ne_nil_of_mem (mem_rows.mpr ⟨hl, hc⟩)
theorem sw (a b : List Bool) : PySem.Txt.startswith (Bs.S a) (Bs.S b) = decide (b <+: a) := by
  unfold PySem.Txt.startswith
  rw [PySem.StrLaws.subAt_eq, Bs.len, Bs.len, List.drop_zero, Nat.zero_add]
  show (decide (b.length ≤ a.length) && ((a.map Bs.cd).take b.length == b.map Bs.cd)) = _
  rw [← List.map_take, Bool.eq_iff_iff, Bool.and_eq_true, decide_eq_true_iff, decide_eq_true_iff, beq_iff_eq]
  constructor
  · rintro ⟨_, h⟩
    exact List.prefix_iff_eq_take.mpr (List.map_inj_right (f := Bs.cd) (fun _ _ => Bs.cd_inj) |>.mp h).symm
  · intro h
    exact ⟨h.length_le, by rw [← List.prefix_iff_eq_take.mp h]⟩
end Kn

namespace Rd
open PySem L2 I2 Fb Pk
/-! records and headers, as rows of 32 numbers -/
/-- some digits, filled up to 160 -/
noncomputable def full (bs : List Bool) : List Bool := bs ++ List.replicate (160 - bs.length) false
noncomputable def body (bs : List Bool) : List Nat := (List.range 20).map fun k => val (ei (full bs) k)
noncomputable def I (xs : List Nat) : List Int := xs.map fun v : Nat => (v : Int)
noncomputable def W (xs : List Nat) : List V := xs.map fun v : Nat => V.int (v : Int)
theorem val_take {l : List Bool} {j : Nat} (h : j < l.length) : ((val (l.take (j + 1)) : Nat) : Int) = 2 * ((val (l.take j) : Nat) : Int) + (if l.getD j false = true then 1 else 0) := by
  rw [List.take_add_one, List.getElem?_eq_getElem h, Option.toList_some, val_app, List.getD_eq_getElem?_getD, List.getElem?_eq_getElem h]
  show (((val (l.take j) * 2 + dv l[j] : Nat)) : Int) = _ + (if l[j] = true then 1 else 0)
  cases l[j] <;> simp [dv] <;> omega
theorem un_app (xs ys : List Nat) : un (xs ++ ys) = un xs ++ un ys := by unfold un; rw [List.map_append, List.flatten_append]
theorem more {xs : List Nat} {c : Nat} (hl : xs.length = 32) (h : c ≤ 160) : (un ((xs.drop 6).take 25)).take c = (un ((xs.drop 6).take 20)).take c := by
  have e : (xs.drop 6).take 25 = (xs.drop 6).take 20 ++ ((xs.drop 6).drop 20).take 5 := by
    rw [← List.take_add]
  rw [e, un_app, List.take_append_of_le_length]
  rw [un_len, List.length_take, List.length_drop]
  omega
/-- an answer: none, or a tuple of two numbers and a text -/
noncomputable def Told (d : Option (Nat × Nat × List Bool)) (v : V) (H : Hp) : Prop :=
  match d with
  | none => v = .non
  | some (a, b, bs) => ∃ t, v = .ref t ∧ H t = some (.tup [.int (a : Int), .int (b : Int), .str (Bs.S bs)])
theorem Told.keep {d : Option (Nat × Nat × List Bool)} {v : V} {H H' : Hp} (t : Told d v H) (s : Same H H') : Told d v H' := by
  cases d with
  | none => exact t
  | some r => obtain ⟨t, e, h⟩ := t; exact ⟨t, e, s _ _ h⟩
end Rd
namespace Bx
open PySem L2
theorem Box.put {H0 H : Hp} {b p c : Addr} {xs : List Int} {o : HO} (B : Box H0 H b p xs) (w : c ≠ b ∧ c ≠ p ∧ H0 c = none) : Box H0 (upd H c o) b p xs := by
  obtain ⟨k, hk⟩ := B.bx
  exact ⟨Gx.same_up w.2.2 B.same, B.nb, B.np, ⟨k, by rw [upd_ne w.1.symm]; exact hk⟩, by rw [upd_ne w.2.1.symm]; exact B.dg⟩
end Bx

namespace Pt
open PySem L2
/-! lists of pairs of a key and its bits; the bytes of a packet file -/
abbrev PE := List Int × List Bool
noncomputable def PtP (H : Hp) : List V → List PE → Prop
  | [], [] => True
  | v :: xs, e :: es => (∃ a kp, v = .ref a ∧ H a = some (.tup [.ref kp, .str (Bs.S e.2)]) ∧ H kp = some (.tup (e.1.map V.int))) ∧ PtP H xs es
  | _, _ => False
theorem PtP.keep {H H' : Hp} (s : Same H H') : ∀ {xs : List V} {es : List PE}, PtP H xs es → PtP H' xs es
  | [], [], _ => trivial
  | _ :: _, _ :: _, ⟨⟨a, kp, e1, e2, e3⟩, r⟩ => ⟨⟨a, kp, e1, s _ _ e2, s _ _ e3⟩, PtP.keep s r⟩
  | [], _ :: _, h => h.elim
  | _ :: _, [], h => h.elim
theorem PtP.len {H : Hp} : ∀ {xs : List V} {es : List PE}, PtP H xs es → xs.length = es.length
  | [], [], _ => rfl
  | _ :: _, _ :: _, ⟨_, r⟩ => congrArg (· + 1) (PtP.len r)
  | [], _ :: _, h => h.elim
  | _ :: _, [], h => h.elim
theorem PtP.app {H : Hp} : ∀ {xs ys : List V} {es fs : List PE}, PtP H xs es → PtP H ys fs → PtP H (xs ++ ys) (es ++ fs)
  | [], _, [], _, _, h => h
  | _ :: _, _, _ :: _, _, h, g => ⟨h.1, PtP.app h.2 g⟩
  | [], _, _ :: _, _, h, _ => h.elim
  | _ :: _, _, [], _, h, _ => h.elim
theorem PtP.at {H : Hp} : ∀ {xs : List V} {es : List PE} {i : Nat} {v : V}, PtP H xs es → xs[i]? = some v → ∃ (e : PE) (a kp : Addr), es[i]? = some e ∧ v = .ref a ∧ H a = some (.tup [.ref kp, .str (Bs.S e.2)]) ∧ H kp = some (.tup (e.1.map V.int))
  | [], [], _, _, _, h => by cases h
  | v :: xs, e :: es, 0, _, ⟨⟨a, kp, h1, h2, h3⟩, _⟩, h => by cases h; exact ⟨e, a, kp, rfl, h1, h2, h3⟩
  | _ :: _, _ :: _, i + 1, _, ⟨_, r⟩, h => PtP.at (i := i) r (by simpa using h)
  | [], _ :: _, _, _, h, _ => h.elim
  | _ :: _, [], _, _, h, _ => h.elim
theorem PtP.take {H : Hp} : ∀ {xs : List V} {es : List PE} (n : Nat), PtP H xs es → PtP H (xs.take n) (es.take n)
  | xs, es, 0, _ => by simp [PtP]
  | [], [], _ + 1, _ => by simp [PtP]
  | _ :: _, _ :: _, n + 1, ⟨h, r⟩ => ⟨h, PtP.take n r⟩
  | [], _ :: _, _ + 1, h => h.elim
  | _ :: _, [], _ + 1, h => h.elim
theorem PtP.drop {H : Hp} : ∀ {xs : List V} {es : List PE} (n : Nat), PtP H xs es → PtP H (xs.drop n) (es.drop n)
  | _, _, 0, h => h
  | [], [], _ + 1, _ => by simp [PtP]
  | _ :: _, _ :: _, n + 1, ⟨_, r⟩ => PtP.drop n r
  | [], _ :: _, _ + 1, h => h.elim
  | _ :: _, [], _ + 1, h => h.elim
theorem PtP.one {H : Hp} {a kp : Addr} {k : List Int} {bs : List Bool} (h1 : H a = some (.tup [.ref kp, .str (Bs.S bs)])) (h2 : H kp = some (.tup (k.map V.int))) : PtP H [.ref a] [(k, bs)] := ⟨⟨a, kp, rfl, h1, h2⟩, trivial⟩
noncomputable def PL (H : Hp) (l : Addr) (es : List PE) : Prop := ∃ xs, H l = some (.lst xs) ∧ PtP H xs es
theorem PL.keep {H H' : Hp} {l : Addr} {es : List PE} (x : PL H l es) (s : Same H H') : PL H' l es := by
  obtain ⟨xs, h1, h2⟩ := x
  exact ⟨xs, s _ _ h1, h2.keep s⟩
noncomputable def ptD (e : PE) : PyData := .tuple [.tuple (e.1.map .int), .str (Bs.S e.2)]
theorem PtP.dp {K : PySem.W.Frag} {H : Hp} : ∀ {xs : List V} {es : List PE}, PtP H xs es → DpAll K H xs (es.map ptD)
  | [], [], _ => .nil
  | v :: _, _ :: _, ⟨⟨a, kp, h1, h2, h3⟩, r⟩ => by
    subst h1
    exact .cons (.tup (SqT.of h2) (.cons (.tup (SqT.of h3) (Gx.dpAll_int _)) (.cons (.str _) .nil))) (PtP.dp r)
  | [], _ :: _, h => h.elim
  | _ :: _, [], h => h.elim
theorem PL.dp {K : PySem.W.Frag} {H : Hp} {l : Addr} {es : List PE} (x : PL H l es) : Dp K H (.ref l) (.list (es.map ptD)) := by
  obtain ⟨xs, h1, h2⟩ := x
  exact .lst (SqL.of h1) h2.dp
noncomputable def num (c T d : Nat) (k : List Int) : Nat := Dx.ix c T d (k.getD 0 0).toNat (k.getD 1 0).toNat (k.getD 2 0).toNat
noncomputable def wp (xs : List Int) : List Int := xs ++ [(Pk.ck xs).1, (Pk.ck xs).2]
noncomputable def two (n : Nat) : List Int := [((n / 256 : Nat) : Int), ((n % 256 : Nat) : Int)]
noncomputable def hB (w h d c t n : Nat) : List Int := wp ([80, 80, 67, 49] ++ [(w : Int), (h : Int), (d : Int), (c : Int), (t : Int)] ++ two n)
/-- where the keys stand -/
theorem PtP.keys {H : Hp} : ∀ {xs : List V} {es : List PE}, PtP H xs es → ∃ ps : List Addr, ps.length = es.length ∧ ∀ (i : Nat) (v : V), xs[i]? = some v → ∃ (e : PE) (a kp : Addr), v = V.ref a ∧ es[i]? = some e ∧ ps[i]? = some kp ∧ H a = some (.tup [.ref kp, .str (Bs.S e.2)]) ∧ H kp = some (.tup (e.1.map V.int))
  | [], [], _ => ⟨[], rfl, fun i v e => by simp at e⟩
  | v :: xs, e :: es, ⟨⟨a, kp, h1, h2, h3⟩, r⟩ => by
    obtain ⟨ps, l, f⟩ := PtP.keys r
    refine ⟨kp :: ps, by rw [List.length_cons, List.length_cons, l], fun i y ey => ?_⟩
    cases i with
    | zero => cases ey; exact ⟨e, a, kp, h1, rfl, rfl, h2, h3⟩
    | succ i => exact f i y (by simpa using ey)
  | [], _ :: _, h => h.elim
  | _ :: _, [], h => h.elim
noncomputable def wd (m : Nat) : Str := (["channel", "tile", "plane"] : List Str).getD m ""
end Pt

namespace Aw
open PySem L2
/-! the code of a packet of a picture -/
@[irreducible] noncomputable def pc (w h t : Nat) (f : Nat → List Int) (c j k p : Nat) : List Bool := Iv.code (Gd.sd w t (k % Gd.ac w t)) (Pb.pb w h t f c j k p)
/-! lists of triples of a key, a number and bits -/
abbrev AE := List Int × Int × List Bool
noncomputable def AtP (H : Hp) : List V → List AE → Prop
  | [], [] => True
  | v :: xs, e :: es => (∃ a kp, v = .ref a ∧ H a = some (.tup [.ref kp, .int e.2.1, .str (Bs.S e.2.2)]) ∧ H kp = some (.tup (e.1.map V.int))) ∧ AtP H xs es
  | _, _ => False
theorem AtP.keep {H H' : Hp} (s : Same H H') : ∀ {xs : List V} {es : List AE}, AtP H xs es → AtP H' xs es
  | [], [], _ => trivial
  | _ :: _, _ :: _, ⟨⟨a, kp, e1, e2, e3⟩, r⟩ => ⟨⟨a, kp, e1, s _ _ e2, s _ _ e3⟩, AtP.keep s r⟩
  | [], _ :: _, h => h.elim
  | _ :: _, [], h => h.elim
theorem AtP.len {H : Hp} : ∀ {xs : List V} {es : List AE}, AtP H xs es → xs.length = es.length
  | [], [], _ => rfl
  | _ :: _, _ :: _, ⟨_, r⟩ => congrArg (· + 1) (AtP.len r)
  | [], _ :: _, h => h.elim
  | _ :: _, [], h => h.elim
theorem AtP.app {H : Hp} : ∀ {xs ys : List V} {es fs : List AE}, AtP H xs es → AtP H ys fs → AtP H (xs ++ ys) (es ++ fs)
  | [], _, [], _, _, h => h
  | _ :: _, _, _ :: _, _, h, g => ⟨h.1, AtP.app h.2 g⟩
  | [], _, _ :: _, _, h, _ => h.elim
  | _ :: _, _, [], _, h, _ => h.elim
theorem AtP.at {H : Hp} : ∀ {xs : List V} {es : List AE} {i : Nat} {v : V}, AtP H xs es → xs[i]? = some v → ∃ (e : AE) (a kp : Addr), es[i]? = some e ∧ v = .ref a ∧ H a = some (.tup [.ref kp, .int e.2.1, .str (Bs.S e.2.2)]) ∧ H kp = some (.tup (e.1.map V.int))
  | [], [], _, _, _, h => by cases h
  | v :: xs, e :: es, 0, _, ⟨⟨a, kp, h1, h2, h3⟩, _⟩, h => by cases h; exact ⟨e, a, kp, rfl, h1, h2, h3⟩
  | _ :: _, _ :: _, i + 1, _, ⟨_, r⟩, h => AtP.at (i := i) r (by simpa using h)
  | [], _ :: _, _, _, h, _ => h.elim
  | _ :: _, [], _, _, h, _ => h.elim
noncomputable def AL (H : Hp) (l : Addr) (es : List AE) : Prop := ∃ xs, H l = some (.lst xs) ∧ AtP H xs es
theorem AL.keep {H H' : Hp} {l : Addr} {es : List AE} (x : AL H l es) (s : Same H H') : AL H' l es := by
  obtain ⟨xs, h1, h2⟩ := x
  exact ⟨xs, s _ _ h1, h2.keep s⟩
theorem AtP.off {H : Hp} {p : Addr} {o : HO} (h : ∀ zs, H p ≠ some (.tup zs)) : ∀ {xs : List V} {es : List AE}, AtP H xs es → AtP (upd H p o) xs es
  | [], [], _ => trivial
  | _ :: _, _ :: _, ⟨⟨a, kp, e1, e2, e3⟩, r⟩ => ⟨⟨a, kp, e1, by rw [upd_ne (fun z => h _ (by rw [← z]; exact e2))]; exact e2, by rw [upd_ne (fun z => h _ (by rw [← z]; exact e3))]; exact e3⟩, AtP.off h r⟩
  | [], _ :: _, h => h.elim
  | _ :: _, [], h => h.elim
noncomputable def atD (e : AE) : PyData := .tuple [.tuple (e.1.map .int), .int e.2.1, .str (Bs.S e.2.2)]
theorem AtP.dp {K : PySem.W.Frag} {H : Hp} : ∀ {xs : List V} {es : List AE}, AtP H xs es → DpAll K H xs (es.map atD)
  | [], [], _ => .nil
  | v :: _, _ :: _, ⟨⟨a, kp, h1, h2, h3⟩, r⟩ => by
    subst h1
    exact .cons (.tup (SqT.of h2) (.cons (.tup (SqT.of h3) (Gx.dpAll_int _)) (.cons (.int _) (.cons (.str _) .nil)))) (AtP.dp r)
  | [], _ :: _, h => h.elim
  | _ :: _, [], h => h.elim
theorem AL.dp {K : PySem.W.Frag} {H : Hp} {l : Addr} {es : List AE} (x : AL H l es) : Dp K H (.ref l) (.list (es.map atD)) := by
  obtain ⟨xs, h1, h2⟩ := x
  exact .lst (SqL.of h1) h2.dp
noncomputable def ans0 (cd : List Int → List Bool) : List (List Int × Int) → Nat → List AE
  | [], _ => []
  | e :: r, left => if left = 0 then [] else
    let b := ((cd e.1).drop e.2.toNat).take left
    (if b = [] then [] else [(e.1, e.2, b)]) ++ ans0 cd r (left - b.length)
@[irreducible] noncomputable def ans (cd : List Int → List Bool) (es : List (List Int × Int)) (n : Nat) : List AE := ans0 cd es n
@[irreducible] noncomputable def cdk (w h t : Nat) (f : Nat → List Int) (c : Nat) (k : List Int) : List Bool := pc w h t f c (k.getD 0 0).toNat (k.getD 1 0).toNat (k.getD 2 0).toNat
@[irreducible] noncomputable def rest (cd : List Int → List Bool) (e : List Int × Int) : List Bool := (cd e.1).drop e.2.toNat
end Aw

namespace Ar
open PySem L2
/-! what has arrived: digits by the keys' numbers -/
/-- width and places of the packet with the number i -/
noncomputable def wd (w t T c i : Nat) : Nat := Gd.sd w t (i % T % Gd.ac w t)
noncomputable def bx (w h t T i : Nat) : Nat := Rg.tileBox w h t (i % T)
/-- the prefixes that are kept beside the digits -/
structure Ok (w h t c N : Nat) (ds ps : List (List Bool)) : Prop where
  dl : ds.length = N
  pl : ps.length = N
  db : ∀ b ∈ ds, b.length ≤ 100000
  pk : ∀ i, i < N → ds.getD i [] ≠ [] → Kn.Known (wd w t (Gd.ac w t * Gd.ac h t) c i) (bx w h t (Gd.ac w t * Gd.ac h t) i) (ds.getD i []) (some (ps.getD i []))
  pn : ∀ i, i < N → ds.getD i [] = [] → ps.getD i [] = []
theorem getD_set {ds : List (List Bool)} {i j : Nat} {b : List Bool} (h : i < ds.length) : (ds.set i b).getD j [] = if j = i then b else ds.getD j [] := by
  rw [List.getD_eq_getElem?_getD, List.getElem?_set, List.getD_eq_getElem?_getD]
  by_cases c : i = j
  · subst c; rw [if_pos rfl, if_pos h, if_pos rfl]; rfl
  · rw [if_neg c, if_neg (fun e => c e.symm)]
theorem Ok.set {w h t c N i : Nat} {ds ps : List (List Bool)} {b p : List Bool} (o : Ok w h t c N ds ps) (hi : i < N) (hb : b ≠ []) (hl : b.length ≤ 100000) (k : Kn.Known (wd w t (Gd.ac w t * Gd.ac h t) c i) (bx w h t (Gd.ac w t * Gd.ac h t) i) b (some p)) : Ok w h t c N (ds.set i b) (ps.set i p) := by
  refine ⟨by rw [List.length_set]; exact o.dl, by rw [List.length_set]; exact o.pl, fun x hx => ?_, fun j hj hn => ?_, fun j hj hn => ?_⟩
  · rcases List.mem_or_eq_of_mem_set hx with e | e
    · exact o.db x e
    · rw [e]; exact hl
  · rw [getD_set (by rw [o.dl]; exact hi)] at hn ⊢
    rw [getD_set (by rw [o.pl]; exact hi)]
    by_cases e : j = i
    · subst e; rw [if_pos rfl, if_pos rfl]; exact k
    · rw [if_neg e] at hn ⊢; rw [if_neg e]; exact o.pk j hj hn
  · rw [getD_set (by rw [o.dl]; exact hi)] at hn
    rw [getD_set (by rw [o.pl]; exact hi)]
    by_cases e : j = i
    · rw [if_pos e] at hn; exact absurd hn hb
    · rw [if_neg e] at hn ⊢; exact o.pn j hj hn
noncomputable def RvP (K : PySem.W.Frag) (vs : List V) (H : Hp) (R : It → Hp → Prop) : Prop := ∃ (a : Addr) (xs : List V), vs = [.ref a] ∧ SqL K H a xs ∧ R (Itv K a xs.length) H
theorem rvw {K : PySem.W.Frag} {ta : TA} {σ : L2.St} {H : Hp} {R : It → Hp → Prop} (q : ta σ H fun vs H1 => RvP K vs H1 R) : iRev K ta σ H R := q
theorem rvp {K : PySem.W.Frag} {a : Addr} {xs : List V} {H : Hp} {R : It → Hp → Prop} (h : SqL K H a xs) (q : R (Itv K a xs.length) H) : RvP K [.ref a] H R := ⟨a, xs, rfl, h, q⟩
/-- out of what stands, to be changed -/
theorem take {R H : Hp} {ps : List (Addr × HO)} {a : Addr} {o : HO} (h : Mv.Hv R H ps) (e : R a = some o) : ∃ R', Mv.Hv R' H ((a, o) :: ps) ∧ ∀ c u, c ≠ a → R c = some u → R' c = some u := by
  have na : ∀ q ∈ ps, q.1 ≠ a := fun q hq z => by
    have := (h.on q hq).2
    rw [z, e] at this; cases this
  refine ⟨fun c => if c = a then none else R c, ⟨fun c n => ?_, fun q hq => ?_, ?_⟩, fun c u hc hu => ?_⟩
  · have ca : a ≠ c := n (a, o) (List.mem_cons_self ..)
    show H c = if c = a then none else R c
    rw [if_neg ca.symm]
    exact h.off c fun q hq => n q (List.mem_cons_of_mem _ hq)
  · rcases List.mem_cons.mp hq with z | z
    · subst z; exact ⟨h.same _ _ e, if_pos rfl⟩
    · exact ⟨(h.on q z).1, by show (if q.1 = a then none else R q.1) = none; rw [if_neg (na q z)]; exact (h.on q z).2⟩
  · rw [List.map_cons, List.nodup_cons]
    refine ⟨fun m => ?_, h.nd⟩
    obtain ⟨q, hq, z⟩ := List.mem_map.mp m
    exact na q hq z
  · show (if c = a then none else R c) = some u
    rw [if_neg hc]; exact hu
/-- without digits nothing is known -/
theorem known_nil {w m : Nat} (hm : 0 < m) : Kn.Known w m [] (some []) := ⟨Nat.zero_le _, fun bs _ _ => List.nil_prefix, fun h => (by rw [← h] at hm; exact absurd hm (Nat.lt_irrefl _)), fun _ => ⟨List.nil_prefix, List.nil_prefix⟩⟩
theorem Ok.known {w h t c N i : Nat} {ds ps : List (List Bool)} (o : Ok w h t c N ds ps) (hi : i < N) (hm : 0 < bx w h t (Gd.ac w t * Gd.ac h t) i) : Kn.Known (wd w t (Gd.ac w t * Gd.ac h t) c i) (bx w h t (Gd.ac w t * Gd.ac h t) i) (ds.getD i []) (some (ps.getD i [])) := by
  by_cases e : ds.getD i [] = []
  · rw [o.pn i hi e, e]; exact known_nil hm
  · exact o.pk i hi e
end Ar

namespace Ar
open PySem L2
/-- digits of a packet that can be are short -/
theorem Ok.short {w h t c N : Nat} {ds ps : List (List Bool)} (o : Ok w h t c N ds ps) (ht : t ≤ 16) : ∀ b ∈ ds, b.length < 3002 := fun b hb => by
  obtain ⟨i, hi, rfl⟩ := List.getElem_of_mem hb
  have e : ds[i] = ds.getD i [] := by rw [List.getD_eq_getElem?_getD, List.getElem?_eq_getElem hi]; rfl
  rw [e]
  by_cases z : ds.getD i [] = []
  · rw [z]; decide
  have kn := o.pk i (by rw [← o.dl]; exact hi) z
  have ne := Kn.rows_some kn
  obtain ⟨x, hx⟩ := List.exists_mem_of_ne_nil _ ne
  obtain ⟨h1, h2⟩ := Kn.mem_rows.mp hx
  have h3 := h2.length_le
  rw [Iv.code_len] at h3
  have h4 : bx w h t (Gd.ac w t * Gd.ac h t) i ≤ 256 := Pb.box_le ht
  exact Nat.lt_of_le_of_lt h3 (Iv.kl_le (by rw [h1]; omega))
end Ar

namespace Om
open PySem L2
/-! what is open, what is missing -/
/-- what is missing of one packet -/
noncomputable def tm (W m : Nat) (cd D : List Bool) : Nat := if 1 < (Kn.rowsOf W m D).length then cd.length - D.length else 0
end Om

namespace Rn
open PySem L2
/-! what is known of a value -/
/-- the gray bit, from the bits that make it -/
noncomputable def gk (l : List (Option Bool)) : Option Nat := if none ∈ l then none else some ((l.map fun o => Dx.bit (o.getD false)).sum % 2)
/-- the bit of a packet that is known at a place -/
noncomputable def kp (c T d : Nat) (ps : List (List Bool)) (s k p m : Nat) : Option Bool := (ps.getD (Dx.ix c T d s k p) [])[m]?
noncomputable def gl (c T d : Nat) (ps : List (List Bool)) (j k p m : Nat) : List (Option Bool) := (Dx.nd c j).map fun s => kp c T d ps s k p m
noncomputable def ga (w h t c d : Nat) (ps : List (List Bool)) (j n p : Nat) : Option Nat := gk (gl c (Gd.ac w t * Gd.ac h t) d ps j (Gd.tileOf w t n) p (Gd.placeOf w t n))
noncomputable def gas (w h t c d : Nat) (ps : List (List Bool)) (j n : Nat) : List (Option Nat) := (List.range d).map fun i => ga w h t c d ps j n (d - 1 - i)
theorem gk_le {l : List (Option Bool)} {b : Nat} (h : gk l = some b) : b ≤ 1 := by
  unfold gk at h
  split at h
  · cases h
  · rw [← Option.some.inj h]; omega
theorem gas_len (w h t c d : Nat) (ps : List (List Bool)) (j n : Nat) : (gas w h t c d ps j n).length = d := by unfold gas; simp
theorem gas_le {w h t c d : Nat} {ps : List (List Bool)} {j n : Nat} : ∀ g ∈ gas w h t c d ps j n, ∀ b, g = some b → b ≤ 1 := fun g hg b e => by
  unfold gas at hg
  obtain ⟨i, _, rfl⟩ := List.mem_map.mp hg
  exact gk_le e
theorem bit_le (b : Bool) : Dx.bit b ≤ 1 := by cases b <;> decide
theorem ky_at {c T d j k p : Nat} (hc : 0 < c) (hT : 0 < T) (hj : j < c) (hk : k < T) (hp : p < d) : Gd.ky T c d (Dx.ix c T d j k p) = [(j : Int), (k : Int), (p : Int)] := by
  obtain ⟨e1, e2, e3⟩ := Dx.ix_inj hj hk hp rfl
  rw [Dx.ky_ix hc hT (Dx.ix_lt hj hk hp), ← e1, ← e2, ← e3]
/-! the ends -/
noncomputable def est (u v : Nat) : Option Nat → Nat
  | none => 2 * v + u
  | some b => Gy.vstep v b
noncomputable def en (u : Nat) (gs : List (Option Nat)) : Nat := gs.foldl (est u) 0
theorem en_snoc (u : Nat) (gs : List (Option Nat)) (g : Option Nat) : en u (gs ++ [g]) = est u (en u gs) g := by unfold en; rw [List.foldl_append]; rfl
/-- a value has the bits that are known -/
noncomputable def Mt (gs : List (Option Nat)) (v : Nat) : Prop := ∀ i b, gs[i]? = some (some b) → Gy.gb v (gs.length - 1 - i) = b
theorem gb_half (v p : Nat) : Gy.gb (v / 2) p = Gy.gb v (p + 1) := by
  unfold Gy.gb
  rw [Nat.div_div_eq_div_mul, Nat.div_div_eq_div_mul, ← Nat.pow_succ', ← Nat.pow_succ']
theorem gb0 (v : Nat) : Gy.gb v 0 = (v + v / 2) % 2 := by unfold Gy.gb; simp
theorem mt_snoc {gs : List (Option Nat)} {g : Option Nat} {v : Nat} : Mt (gs ++ [g]) v ↔ Mt gs (v / 2) ∧ ∀ b, g = some b → Gy.gb v 0 = b := by
  constructor
  · intro h
    refine ⟨fun i b e => ?_, fun b e => ?_⟩
    · have hi : i < gs.length := by
        rcases Nat.lt_or_ge i gs.length with z | z
        · exact z
        · rw [List.getElem?_eq_none z] at e; cases e
      have := h i b (by rw [List.getElem?_append_left hi]; exact e)
      rw [List.length_append, show gs.length + [g].length - 1 - i = (gs.length - 1 - i) + 1 by show gs.length + 1 - 1 - i = _; omega] at this
      rw [gb_half]; exact this
    · have := h gs.length b (by rw [List.getElem?_append_right (Nat.le_refl _), Nat.sub_self, e]; rfl)
      rw [List.length_append, show gs.length + [g].length - 1 - gs.length = 0 by show gs.length + 1 - 1 - gs.length = _; omega] at this
      exact this
  · rintro ⟨h1, h2⟩ i b e
    rw [List.length_append]
    show Gy.gb v (gs.length + 1 - 1 - i) = b
    rcases Nat.lt_trichotomy i gs.length with z | z | z
    · rw [List.getElem?_append_left z] at e
      have := h1 i b e
      rw [gb_half] at this
      rw [show gs.length + 1 - 1 - i = (gs.length - 1 - i) + 1 by omega]; exact this
    · rw [List.getElem?_append_right (by omega), show i - gs.length = 0 by omega] at e
      rw [show gs.length + 1 - 1 - i = 0 by omega]
      exact h2 b (by cases e; rfl)
    · rw [List.getElem?_eq_none (by rw [List.length_append]; show gs.length + 1 ≤ i; omega)] at e; cases e
theorem mt_nil (v : Nat) : Mt [] v := fun i b e => by cases e
/-- one step: what a known bit makes of the value before -/
theorem step_of {v a b : Nat} (hb : b ≤ 1) : (Gy.vstep a b = v) ↔ (v / 2 = a ∧ Gy.gb v 0 = b) := by
  have h := Gy.xor_bit a b hb
  unfold Gy.vstep
  rw [gb0]
  constructor
  · intro e
    generalize b ^^^ a % 2 = x at *
    have : v / 2 = a := by omega
    exact ⟨this, by omega⟩
  · rintro ⟨e1, e2⟩
    generalize b ^^^ a % 2 = x at *
    omega
section
variable {gs : List (Option Nat)}
noncomputable def Bs1 (gs : List (Option Nat)) : Prop := ∀ g ∈ gs, ∀ b, g = some b → b ≤ 1
theorem bs1_snoc {g : Option Nat} (h : Bs1 (gs ++ [g])) : Bs1 gs ∧ ∀ b, g = some b → b ≤ 1 := ⟨fun x hx => h x (List.mem_append_left _ hx), h g (by simp)⟩
theorem snoc_ind {P : List (Option Nat) → Prop} (h0 : P []) (hs : ∀ l g, P l → P (l ++ [g])) (l : List (Option Nat)) : P l := by
  rw [← List.reverse_reverse l]
  induction l.reverse with
  | nil => exact h0
  | cons x r ih => rw [List.reverse_cons]; exact hs _ _ ih
theorem en_mt (u : Nat) (hu : u ≤ 1) : Bs1 gs → en u gs < 2 ^ gs.length ∧ Mt gs (en u gs) := by
  refine snoc_ind (P := fun gs => Bs1 gs → en u gs < 2 ^ gs.length ∧ Mt gs (en u gs)) (fun _ => ⟨Nat.one_pos, mt_nil _⟩) (fun l g ih hb => ?_) gs
  obtain ⟨h1, h2⟩ := bs1_snoc hb
  obtain ⟨i1, i2⟩ := ih h1
  rw [en_snoc, List.length_append]
  show est u (en u l) g < 2 ^ (l.length + 1) ∧ _
  rw [Nat.pow_succ]
  cases g with
  | none =>
    show 2 * en u l + u < _ ∧ Mt _ (2 * en u l + u)
    refine ⟨by omega, mt_snoc.mpr ⟨by rw [show (2 * en u l + u) / 2 = en u l by omega]; exact i2, fun b e => nomatch e⟩⟩
  | some b =>
    obtain ⟨e1, e2⟩ := (step_of (v := Gy.vstep (en u l) b) (h2 b rfl)).mp rfl
    refine ⟨by show Gy.vstep (en u l) b < _; omega, mt_snoc.mpr ⟨by show Mt l (Gy.vstep (en u l) b / 2); rw [e1]; exact i2, fun b' e => by cases e; exact e2⟩⟩
theorem en_le {v : Nat} : Bs1 gs → v < 2 ^ gs.length → Mt gs v → en 0 gs ≤ v ∧ v ≤ en 1 gs := by
  refine snoc_ind (P := fun gs => ∀ v, Bs1 gs → v < 2 ^ gs.length → Mt gs v → en 0 gs ≤ v ∧ v ≤ en 1 gs) (fun v _ h _ => ?_) (fun l g ih v hb hv hm => ?_) gs v
  · have h : v < 1 := h
    have : v = 0 := by omega
    subst this
    exact ⟨Nat.le_refl _, Nat.le_refl _⟩
  obtain ⟨h1, h2⟩ := bs1_snoc hb
  obtain ⟨m1, m2⟩ := mt_snoc.mp hm
  rw [List.length_append] at hv
  have hv : v < 2 ^ (l.length + 1) := hv
  rw [Nat.pow_succ] at hv
  obtain ⟨i1, i2⟩ := ih (v / 2) h1 (by omega) m1
  rw [en_snoc, en_snoc]
  cases g with
  | none => exact ⟨by show 2 * en 0 l + 0 ≤ v; omega, by show v ≤ 2 * en 1 l + 1; omega⟩
  | some b =>
    have hb1 := h2 b rfl
    have hvb := m2 b rfl
    obtain ⟨e1, e2⟩ := (step_of (v := Gy.vstep (en 0 l) b) hb1).mp rfl
    obtain ⟨f1, f2⟩ := (step_of (v := Gy.vstep (en 1 l) b) hb1).mp rfl
    show Gy.vstep (en 0 l) b ≤ v ∧ v ≤ Gy.vstep (en 1 l) b
    constructor
    · rcases Nat.lt_or_eq_of_le i1 with z | z
      · omega
      · have := (step_of (v := v) (a := en 0 l) hb1).mpr ⟨z.symm, hvb⟩; omega
    · rcases Nat.lt_or_eq_of_le i2 with z | z
      · omega
      · have := (step_of (v := v) (a := en 1 l) hb1).mpr ⟨z, hvb⟩; omega
end
noncomputable def mtb (gs : List (Option Nat)) (v : Nat) : Bool := (List.range gs.length).all fun i => match gs[i]? with
  | some (some b) => Gy.gb v (gs.length - 1 - i) == b
  | _ => true
theorem mtb_iff {gs : List (Option Nat)} {v : Nat} : mtb gs v = true ↔ Mt gs v := by
  unfold mtb
  rw [List.all_eq_true]
  constructor
  · intro h i b e
    have hi : i < gs.length := by
      rcases Nat.lt_or_ge i gs.length with z | z
      · exact z
      · rw [List.getElem?_eq_none z] at e; cases e
    have := h i (List.mem_range.mpr hi)
    rw [e] at this
    exact beq_iff_eq.mp this
  · intro h i _
    split
    · rename_i b e
      exact beq_iff_eq.mpr (h i b e)
    · rfl
/-- the values that have the known bits, in order -/
noncomputable def okb (g : Option Nat) (y : Nat) : Bool := match g with
  | none => true
  | some b => Gy.gb y 0 == b
theorem okb_iff {g : Option Nat} {y : Nat} : okb g y = true ↔ ∀ b, g = some b → Gy.gb y 0 = b := by
  cases g with
  | none => exact ⟨fun _ b e => (nomatch e), fun _ => rfl⟩
  | some b => exact ⟨fun h b' e => by cases e; exact beq_iff_eq.mp h, fun h => beq_iff_eq.mpr (h b rfl)⟩
theorem mtb_snoc (gs : List (Option Nat)) (g : Option Nat) (v : Nat) : mtb (gs ++ [g]) v = (mtb gs (v / 2) && okb g v) := by
  rw [Bool.eq_iff_iff, Bool.and_eq_true, mtb_iff, mtb_iff, okb_iff, mt_snoc]
noncomputable def pst (g : Option Nat) (v : Nat) : List Nat := [2 * v, 2 * v + 1].filter (okb g)
noncomputable def pv (gs : List (Option Nat)) : List Nat := gs.foldl (fun vs g => vs.flatMap (pst g)) [0]
theorem pv_snoc (gs : List (Option Nat)) (g : Option Nat) : pv (gs ++ [g]) = (pv gs).flatMap (pst g) := by unfold pv; rw [List.foldl_append]; rfl
theorem range_two : ∀ n, List.range (2 * n) = (List.range n).flatMap fun v => [2 * v, 2 * v + 1]
  | 0 => rfl
  | n + 1 => by
    rw [List.range_succ (n := n), List.flatMap_append, ← range_two n, show 2 * (n + 1) = 2 * n + 1 + 1 by omega, List.range_succ, List.range_succ]
    simp
theorem filter_flat {α β : Type} (p : β → Bool) (f : α → List β) : ∀ l : List α, (l.flatMap f).filter p = l.flatMap fun x => (f x).filter p
  | [] => rfl
  | x :: l => by rw [List.flatMap_cons, List.flatMap_cons, List.filter_append, filter_flat p f l]
theorem flat_filter {α β : Type} (p : α → Bool) (f : α → List β) : ∀ l : List α, (l.filter p).flatMap f = l.flatMap fun x => if p x then f x else []
  | [] => rfl
  | x :: l => by
    rw [List.flatMap_cons]
    by_cases h : p x = true
    · rw [List.filter_cons_of_pos h, List.flatMap_cons, flat_filter p f l, if_pos h]
    · rw [List.filter_cons_of_neg h, flat_filter p f l, if_neg h, List.nil_append]
theorem pv_eq (gs : List (Option Nat)) : pv gs = (List.range (2 ^ gs.length)).filter (mtb gs) := by
  refine snoc_ind (P := fun gs => pv gs = (List.range (2 ^ gs.length)).filter (mtb gs)) rfl (fun l g ih => ?_) gs
  rw [pv_snoc, ih, List.length_append]
  show _ = (List.range (2 ^ (l.length + 1))).filter _
  rw [Nat.pow_succ, Nat.mul_comm, range_two, filter_flat, flat_filter]
  congr 1
  funext v
  unfold pst
  have e1 : mtb (l ++ [g]) (2 * v) = (mtb l v && okb g (2 * v)) := by rw [mtb_snoc, show 2 * v / 2 = v by omega]
  have e2 : mtb (l ++ [g]) (2 * v + 1) = (mtb l v && okb g (2 * v + 1)) := by rw [mtb_snoc, show (2 * v + 1) / 2 = v by omega]
  cases h : mtb l v with
  | true => rw [if_pos rfl]; simp only [List.filter_cons, List.filter_nil, e1, e2, h, Bool.true_and]
  | false => simp only [List.filter_cons, e1, e2, h, Bool.false_and]; simp
theorem pv_mem {gs : List (Option Nat)} {v : Nat} : v ∈ pv gs ↔ v < 2 ^ gs.length ∧ Mt gs v := by
  rw [pv_eq, List.mem_filter, List.mem_range, mtb_iff]
/-- what is shown, by how much it may be wrong -/
noncomputable def sh (l g : Nat) : Nat := (l + g) / 2
noncomputable def er (l g : Nat) : Nat := g - (l + g) / 2
theorem lo_hi {gs : List (Option Nat)} (h : Bs1 gs) : en 0 gs ≤ en 1 gs := by
  obtain ⟨h1, h2⟩ := en_mt 0 (by decide) h
  exact (en_le h h1 h2).2
theorem hi_lt {gs : List (Option Nat)} (h : Bs1 gs) : en 1 gs < 2 ^ gs.length := (en_mt 1 (by decide) h).1
/-- the ends of a value -/
noncomputable def lo (w h t c d : Nat) (ps : List (List Bool)) (j n : Nat) : Nat := en 0 (gas w h t c d ps j n)
noncomputable def hi (w h t c d : Nat) (ps : List (List Bool)) (j n : Nat) : Nat := en 1 (gas w h t c d ps j n)
theorem lo_le (w h t c d : Nat) (ps : List (List Bool)) (j n : Nat) : lo w h t c d ps j n ≤ hi w h t c d ps j n := lo_hi gas_le
theorem hi_lt2 (w h t c d : Nat) (ps : List (List Bool)) (j n : Nat) : hi w h t c d ps j n < 2 ^ d := by
  have := hi_lt (gs := gas w h t c d ps j n) gas_le
  rw [gas_len] at this
  exact this
/-- a list of lists of tuples of ints -/
noncomputable def LT (H : Hp) (l : Addr) (n m : Nat) (F : Nat → Nat → List Int) : Prop := ∃ as : List Addr, H l = some (.lst (as.map V.ref)) ∧ as.length = n ∧ ∀ j a, as[j]? = some a → Gx.TL H a m (F j)
theorem LT.keep {H H' : Hp} {l : Addr} {n m : Nat} {F : Nat → Nat → List Int} (x : LT H l n m F) (s : Same H H') : LT H' l n m F := by
  obtain ⟨as, h1, h2, h3⟩ := x
  exact ⟨as, s _ _ h1, h2, fun j a e => (h3 j a e).keep s⟩
/-- what a view has -/
noncomputable def vw (z : Str) (l g : Nat) : Nat := if z = "least" then l else if z = "greatest" then g else sh l g
noncomputable def ends (w h t c d : Nat) (ps : List (List Bool)) (j n : Nat) : List Int := [((lo w h t c d ps j n : Nat) : Int), ((hi w h t c d ps j n : Nat) : Int)]
noncomputable def vrow (w h t c d : Nat) (ps : List (List Bool)) (z : Str) (j : Nat) : List Int := (List.range (w * h)).map fun n => ((vw z (lo w h t c d ps j n) (hi w h t c d ps j n) : Nat) : Int)
noncomputable def vrows (w h t c d : Nat) (ps : List (List Bool)) (z : Str) : List (List Int) := (List.range c).map (vrow w h t c d ps z)
theorem vw_lt {z : Str} {l g b : Nat} (h1 : l ≤ g) (h2 : g < b) : vw z l g < b := by
  unfold vw sh
  split
  · omega
  split
  · omega
  · omega
theorem vrows_ok (w h t c d : Nat) (ps : List (List Bool)) (z : Str) : Pq.rowsOk (w * h) d c (vrows w h t c d ps z) := Pq.rowsOk_range fun j _ => ⟨by unfold vrow; simp, fun y hy => by
  unfold vrow at hy
  obtain ⟨n, _, rfl⟩ := List.mem_map.mp hy
  have := vw_lt (z := z) (lo_le w h t c d ps j n) (hi_lt2 w h t c d ps j n)
  exact ⟨Int.natCast_nonneg _, Int.ofNat_lt.mpr this⟩⟩
/-- the largest error, how many are exact -/
noncomputable def errs (w h t c d : Nat) (ps : List (List Bool)) (j n : Nat) : Nat := er (lo w h t c d ps j n) (hi w h t c d ps j n)
end Rn

namespace Rk
open PySem L2 Iv Cd Ord I2 Fb Cx_ Kn
/-! the possible bits are neighbours -/
/-- possible: the row with the value v -/
noncomputable def Ps (w m : Nat) (c : List Bool) (v : Nat) : Prop := c <+: code w (bin m v)
noncomputable instance (w m : Nat) (c : List Bool) (v : Nat) : Decidable (Ps w m c v) := inferInstanceAs (Decidable (c <+: code w (bin m v)))
section
variable {w m : Nat} {c : List Bool} (hw : 0 < w)
include hw
end
noncomputable def orV (m : Nat) : Option Nat → V
  | none => .non
  | some f => .str (Bs.S (bin m f))
/-- the values of the possible rows -/
noncomputable def vals (w m : Nat) (c : List Bool) : List Nat := (List.range (2 ^ m)).filter fun v => decide (Ps w m c v)
/-- the count -/
noncomputable def many (w m : Nat) (c : List Bool) : Nat := (vals w m c).length
end Rk

namespace Nb
open PySem L2
/-! numbers of possible bits, their product; bits that are needed -/
noncomputable def cn (w h t c : Nat) (ds : List (List Bool)) (n : Nat) : Nat := Rk.many (Ar.wd w t (Gd.ac w t * Gd.ac h t) c n) (Ar.bx w h t (Gd.ac w t * Gd.ac h t) n) (ds.getD n [])
noncomputable def prd (f : Nat → Nat) : Nat → Nat
  | 0 => 1
  | n + 1 => prd f n * f n
theorem bx_sum {w h t : Nat} (hw : 0 < w) (hh : 0 < h) (ht : 0 < t) : ∀ n, ((List.range n).map (Ar.bx w h t (Gd.ac w t * Gd.ac h t))).sum = Dx.acc w h t n
  | 0 => (Dx.acc_zero w h t).symm
  | n + 1 => by
    rw [List.range_succ, List.map_append, List.sum_append, bx_sum hw hh ht n, Dx.acc_step hw hh ht]
    show _ + (Ar.bx w h t (Gd.ac w t * Gd.ac h t) n + 0) = _
    rfl
theorem acc_all {w h t m : Nat} (hw : 0 < w) (hh : 0 < h) (ht : 0 < t) : Dx.acc w h t (m * (Gd.ac w t * Gd.ac h t)) = m * (w * h) := by
  have T : 0 < Gd.ac w t * Gd.ac h t := Nat.mul_pos (Gd.ac_pos hw ht) (Gd.ac_pos hh ht)
  unfold Dx.acc
  rw [Nat.mul_div_cancel _ T, Nat.mul_mod_left, Dx.off_zero, Nat.add_zero]
end Nb

namespace Nw
open PySem L2
/-! what has arrived and the pictures that agree -/
/-- the packet bits by the keys' numbers -/
noncomputable def pbn (w h t : Nat) (f : List (List Int)) (c d n : Nat) : List Bool := Pb.pb w h t (fun i => f.getD i []) c (n / (Gd.ac w t * Gd.ac h t) % c) (n % (Gd.ac w t * Gd.ac h t)) (d - 1 - n / (Gd.ac w t * Gd.ac h t) / c)
theorem pbn_len (w h t : Nat) (f : List (List Int)) (c d n : Nat) : (pbn w h t f c d n).length = Ar.bx w h t (Gd.ac w t * Gd.ac h t) n := Pb.pb_len ..
theorem pbn_ix {w h t c d s k p : Nat} {f : List (List Int)} (hs : s < c) (hk : k < Gd.ac w t * Gd.ac h t) (hp : p < d) : pbn w h t f c d (Dx.ix c (Gd.ac w t * Gd.ac h t) d s k p) = Pb.pb w h t (fun i => f.getD i []) c s k p := by
  obtain ⟨e1, e2, e3⟩ := Dx.ix_inj hs hk hp rfl
  unfold pbn
  rw [← e1, ← e2, ← e3]
theorem get_pre {p bs : List Bool} {m : Nat} {b : Bool} (h : p <+: bs) (e : p[m]? = some b) : bs.getD m false = b := by
  obtain ⟨r, rfl⟩ := h
  have hm : m < p.length := by
    rcases Nat.lt_or_ge m p.length with z | z
    · exact z
    · rw [List.getElem?_eq_none z] at e; cases e
  rw [List.getD_eq_getElem?_getD, List.getElem?_append_left hm, e]; rfl
/-- a known gray bit is that of the value -/
theorem ga_true {w h t c d j n p b : Nat} {f : List (List Int)} {ps : List (List Bool)} (D : Rg.Dim w h d c t) (hp : ∀ i, i < d * c * (Gd.ac w t * Gd.ac h t) → ps.getD i [] <+: pbn w h t f c d i) (hj : j < c) (hn : n < w * h) (hpd : p < d) (e : Rn.ga w h t c d ps j n p = some b) : b = Gy.gb (Gd.vl (fun i => f.getD i []) j n) p := by
  obtain ⟨a1, a2, a3, a4, a5, a6, a7, a8, a9, a10⟩ := id D
  have tl := Gd.tile_lt (t := t) (show 0 < w by omega) (show 0 < t by omega) hn
  have pb := Gd.pix_back (w := w) (h := h) (t := t) (show 0 < w by omega) (show 0 < t by omega) tl hn rfl
  rw [← Dx.gv_sb a7 hj]
  unfold Rn.ga Rn.gk Rn.gl at e
  split at e
  · cases e
  rename_i hno
  rw [← Option.some.inj e, List.map_map]
  congr 2
  refine List.map_congr_left fun s hs => ?_
  have hsc := Dx.nd_lt a7 hs
  show Dx.bit ((Rn.kp c (Gd.ac w t * Gd.ac h t) d ps s (Gd.tileOf w t n) p (Gd.placeOf w t n)).getD false) = _
  have hne : Rn.kp c (Gd.ac w t * Gd.ac h t) d ps s (Gd.tileOf w t n) p (Gd.placeOf w t n) ≠ none := fun z => hno (List.mem_map.mpr ⟨s, hs, z⟩)
  obtain ⟨bb, hb⟩ := Option.ne_none_iff_exists'.mp hne
  have := get_pre (hp _ (Dx.ix_lt hsc tl hpd)) hb
  rw [pbn_ix hsc tl hpd, Dx.pb_at pb.1, pb.2] at this
  rw [hb, Option.getD_some, ← this, Dx.bit_sb]
theorem mt_true {w h t c d j n : Nat} {f : List (List Int)} {ps : List (List Bool)} (D : Rg.Dim w h d c t) (hp : ∀ i, i < d * c * (Gd.ac w t * Gd.ac h t) → ps.getD i [] <+: pbn w h t f c d i) (hj : j < c) (hn : n < w * h) : Rn.Mt (Rn.gas w h t c d ps j n) (Gd.vl (fun i => f.getD i []) j n) := fun i b e => by
  have hi : i < d := by
    rcases Nat.lt_or_ge i d with z | z
    · exact z
    · rw [List.getElem?_eq_none (by rw [Rn.gas_len]; exact z)] at e; cases e
  unfold Rn.gas at e
  rw [List.getElem?_map, List.getElem?_range hi] at e
  have := ga_true D hp hj hn (by omega) (Option.some.inj e)
  rw [Rn.gas_len, ← this]
theorem vl_lt {w h d c j n : Nat} {f : List (List Int)} (ok : Pq.rowsOk (w * h) d c f) (hj : j < c) (hn : n < w * h) : Gd.vl (fun i => f.getD i []) j n < 2 ^ d := by
  obtain ⟨r1, r2⟩ := Pq.rowOk_getD ok hj
  obtain ⟨h1, h2⟩ := r2 _ (Gd.getD_mem (show n < (f.getD j []).length by omega))
  unfold Gd.vl
  show ((f.getD j []).getD n 0).toNat < _
  omega
theorem within {w h t c d j n : Nat} {f : List (List Int)} {ps : List (List Bool)} (D : Rg.Dim w h d c t) (ok : Pq.rowsOk (w * h) d c f) (hp : ∀ i, i < d * c * (Gd.ac w t * Gd.ac h t) → ps.getD i [] <+: pbn w h t f c d i) (hj : j < c) (hn : n < w * h) : Rn.lo w h t c d ps j n ≤ Gd.vl (fun i => f.getD i []) j n ∧ Gd.vl (fun i => f.getD i []) j n ≤ Rn.hi w h t c d ps j n ∧ Gd.vl (fun i => f.getD i []) j n ∈ Rn.pv (Rn.gas w h t c d ps j n) := by
  have hv := vl_lt ok hj hn
  have hm := mt_true D hp hj hn
  have hl := Rn.gas_len w h t c d ps j n
  obtain ⟨e1, e2⟩ := Rn.en_le (gs := Rn.gas w h t c d ps j n) Rn.gas_le (by rw [hl]; exact hv) hm
  exact ⟨e1, e2, Rn.pv_mem.mpr ⟨by rw [hl]; exact hv, hm⟩⟩
/-! more narrows -/
theorem get_more {p p' : List Bool} {m : Nat} {b : Bool} (h : p <+: p') (e : p[m]? = some b) : p'[m]? = some b := by
  obtain ⟨r, rfl⟩ := h
  have hm : m < p.length := by
    rcases Nat.lt_or_ge m p.length with z | z
    · exact z
    · rw [List.getElem?_eq_none z] at e; cases e
  rw [List.getElem?_append_left hm]; exact e
theorem ga_more {w h t c d j n p b : Nat} {ps ps' : List (List Bool)} (hp : ∀ i, ps.getD i [] <+: ps'.getD i []) (e : Rn.ga w h t c d ps j n p = some b) : Rn.ga w h t c d ps' j n p = some b := by
  unfold Rn.ga Rn.gk Rn.gl at e ⊢
  split at e
  · cases e
  rename_i hno
  have all : ∀ s ∈ Dx.nd c j, Rn.kp c (Gd.ac w t * Gd.ac h t) d ps' s (Gd.tileOf w t n) p (Gd.placeOf w t n) = Rn.kp c (Gd.ac w t * Gd.ac h t) d ps s (Gd.tileOf w t n) p (Gd.placeOf w t n) := fun s hs => by
    have hne : Rn.kp c (Gd.ac w t * Gd.ac h t) d ps s (Gd.tileOf w t n) p (Gd.placeOf w t n) ≠ none := fun z => hno (List.mem_map.mpr ⟨s, hs, z⟩)
    obtain ⟨bb, hb⟩ := Option.ne_none_iff_exists'.mp hne
    rw [hb]
    exact get_more (hp _) hb
  rw [List.map_congr_left all, if_neg hno]; exact e
theorem mt_more {w h t c d j n v : Nat} {ps ps' : List (List Bool)} (hp : ∀ i, ps.getD i [] <+: ps'.getD i []) (m : Rn.Mt (Rn.gas w h t c d ps' j n) v) : Rn.Mt (Rn.gas w h t c d ps j n) v := fun i b e => by
  have hi : i < d := by
    rcases Nat.lt_or_ge i d with z | z
    · exact z
    · rw [List.getElem?_eq_none (by rw [Rn.gas_len]; exact z)] at e; cases e
  have := m i b (by
    unfold Rn.gas at e ⊢
    rw [List.getElem?_map, List.getElem?_range hi] at e ⊢
    exact congrArg some (ga_more hp (Option.some.inj e)))
  rw [Rn.gas_len] at this ⊢
  exact this
theorem narrows {w h t c d j n : Nat} {ps ps' : List (List Bool)} (hp : ∀ i, ps.getD i [] <+: ps'.getD i []) : Rn.lo w h t c d ps j n ≤ Rn.lo w h t c d ps' j n ∧ Rn.hi w h t c d ps' j n ≤ Rn.hi w h t c d ps j n ∧ Rn.errs w h t c d ps' j n ≤ Rn.errs w h t c d ps j n ∧ ∀ v ∈ Rn.pv (Rn.gas w h t c d ps' j n), v ∈ Rn.pv (Rn.gas w h t c d ps j n) := by
  have l := Rn.gas_len w h t c d ps j n
  have l' := Rn.gas_len w h t c d ps' j n
  obtain ⟨x1, x2⟩ := Rn.en_mt (gs := Rn.gas w h t c d ps' j n) 0 (by decide) Rn.gas_le
  obtain ⟨y1, y2⟩ := Rn.en_mt (gs := Rn.gas w h t c d ps' j n) 1 (by decide) Rn.gas_le
  have x1 : Rn.en 0 (Rn.gas w h t c d ps' j n) < 2 ^ (Rn.gas w h t c d ps j n).length := by rw [l]; rw [l'] at x1; exact x1
  have y1 : Rn.en 1 (Rn.gas w h t c d ps' j n) < 2 ^ (Rn.gas w h t c d ps j n).length := by rw [l]; rw [l'] at y1; exact y1
  have a := (Rn.en_le (gs := Rn.gas w h t c d ps j n) Rn.gas_le x1 (mt_more hp x2)).1
  have b := (Rn.en_le (gs := Rn.gas w h t c d ps j n) Rn.gas_le y1 (mt_more hp y2)).2
  have c1 := Rn.lo_le w h t c d ps' j n
  refine ⟨a, b, ?_, fun v hv => ?_⟩
  · unfold Rn.errs Rn.er
    have a : Rn.lo w h t c d ps j n ≤ Rn.lo w h t c d ps' j n := a
    have b : Rn.hi w h t c d ps' j n ≤ Rn.hi w h t c d ps j n := b
    omega
  · obtain ⟨z1, z2⟩ := Rn.pv_mem.mp hv
    exact Rn.pv_mem.mpr ⟨by rw [l, ← l']; exact z1, mt_more hp z2⟩
end Nw

namespace Nm
open PySem L2
/-! packets make a picture and back -/
theorem gb_vp {g : Nat → Nat → Nat → List Bool} {w t c d j n p : Nat} (hp : p < d) : Gy.gb (Dx.vp g w t c d j n) p = Dx.gv g c j (Gd.tileOf w t n) (Gd.placeOf w t n) p := by
  have h := (Gy.grays_val (bs := Dx.gs g c d j (Gd.tileOf w t n) (Gd.placeOf w t n)) Dx.gs_le).2
  rw [Dx.gs_len] at h
  have h2 := congrArg (fun l : List Nat => l[d - 1 - p]?) h
  unfold Gy.grays Dx.gs at h2
  simp only [List.getElem?_map, List.getElem?_range (show d - 1 - p < d by omega), Option.map_some] at h2
  rw [show d - 1 - (d - 1 - p) = p by omega] at h2
  have h3 := Option.some.inj h2
  unfold Dx.vp
  rw [← h3]
  rfl
theorem vl_vrows {g : Nat → Nat → Nat → List Bool} {w t c d N j n : Nat} (hj : j < c) (hn : n < N) : Gd.vl (fun i => (Dx.vrows g w t c d N).getD i []) j n = Dx.vp g w t c d j n := by
  unfold Gd.vl
  show ((((Dx.vrows g w t c d N).getD j []).getD n 0)).toNat = _
  rw [Dx.vrows_at hj]
  unfold Dx.vrow
  rw [List.getD_eq_getElem?_getD, List.getElem?_map, List.getElem?_range hn]
  exact Int.toNat_natCast _
theorem bit_eq (b : Bool) : (Dx.bit b = 1) ↔ b = true := by cases b <;> decide
/-- the picture that packets make has these packets -/
theorem pb_vrows {g : Nat → Nat → Nat → List Bool} {w h t c d s k p : Nat} (D : Rg.Dim w h d c t) (hs : s < c) (hk : k < Gd.ac w t * Gd.ac h t) (hp : p < d) (hl : (g s k p).length = Rg.tileBox w h t k) : Pb.pb w h t (fun i => (Dx.vrows g w t c d (w * h)).getD i []) c s k p = g s k p := by
  obtain ⟨a1, a2, a3, a4, a5, a6, a7, a8, a9, a10⟩ := id D
  refine List.ext_getElem? fun m => ?_
  unfold Pb.pb
  by_cases hm : m < Rg.tileBox w h t k
  · rw [List.getElem?_map, List.getElem?_range hm, List.getElem?_eq_getElem (by omega)]
    have lt := Gd.pix_lt (show 0 < w by omega) (show 0 < t by omega) hk hm
    obtain ⟨e1, e2⟩ := Gd.pix_tile (show 0 < w by omega) (show 0 < t by omega) hk hm
    have hgb : ∀ j, j < c → Gy.gb (Gd.vl (fun i => (Dx.vrows g w t c d (w * h)).getD i []) j (Gd.pix w t k m)) p = ((Dx.nd c j).map fun s => Dx.bit ((g s k p).getD m false)).sum % 2 := fun j hj => by
      rw [vl_vrows hj lt, gb_vp hp, e1, e2]; rfl
    have gm : (g s k p)[m]'(by omega) = (g s k p).getD m false := by rw [List.getD_eq_getElem?_getD, List.getElem?_eq_getElem (by omega)]; rfl
    rw [gm]
    refine congrArg some ?_
    rw [Bool.eq_iff_iff, decide_eq_true_iff]
    refine Iff.trans ?_ (bit_eq _)
    obtain ⟨B, hB⟩ : ∃ B : Nat → Nat, B = fun s => Dx.bit ((g s k p).getD m false) := ⟨_, rfl⟩
    obtain ⟨G, hG⟩ : ∃ G : Nat → Nat, G = fun j => Gy.gb (Gd.vl (fun i => (Dx.vrows g w t c d (w * h)).getD i []) j (Gd.pix w t k m)) p := ⟨_, rfl⟩
    have hgb : ∀ j, j < c → G j = ((Dx.nd c j).map B).sum % 2 := fun j hj => by rw [hG, hB]; exact hgb j hj
    have hb : ∀ s, B s ≤ 1 := fun s => by rw [hB]; exact Rn.bit_le _
    have hsb : Gd.sb (fun i => (Dx.vrows g w t c d (w * h)).getD i []) c s (Gd.pix w t k m) p = Dx.bit ((g s k p).getD m false) := by
      have e1 : Gd.sb (fun i => (Dx.vrows g w t c d (w * h)).getD i []) c s (Gd.pix w t k m) p = if c = 1 then G 0 else if s = 0 then G 1 else Gd.xr (G 1) (G (if s = 1 then 0 else 2)) := by rw [hG]; rfl
      have e2 : Dx.bit ((g s k p).getD m false) = B s := by rw [hB]
      rw [e1, e2]
      clear hG hB e1 e2 gm lt
      have b0 := hb 0
      have b1 := hb 1
      have b2 := hb 2
      unfold Gd.xr
      rcases a7 with rfl | rfl
      · have : s = 0 := by omega
        subst this
        rw [if_pos rfl, hgb 0 (by omega)]
        show (B 0 + 0) % 2 = B 0
        omega
      · have h0 : G 0 = (B 0 + (B 1 + 0)) % 2 := hgb 0 (by omega)
        have h1 : G 1 = (B 0 + 0) % 2 := hgb 1 (by omega)
        have h2 : G 2 = (B 0 + (B 2 + 0)) % 2 := hgb 2 (by omega)
        rw [if_neg (by decide)]
        rcases (show s = 0 ∨ s = 1 ∨ s = 2 by omega) with rfl | rfl | rfl
        · rw [if_pos rfl, h1]; omega
        · rw [if_neg (by decide), if_pos rfl, h1, h0]; split <;> omega
        · rw [if_neg (show ¬ (2 : Nat) = 0 by decide)]
          have e : (if (2 : Nat) = 1 then 0 else 2) = 2 := rfl
          rw [e, h1, h2]; split <;> omega
    rw [hsb]
  · rw [List.getElem?_eq_none (by simpa using hm), List.getElem?_eq_none (by omega)]
/-! the first possible row -/
noncomputable def fv (w m : Nat) (c : List Bool) : Nat := (Rk.vals w m c).headD 0
theorem least {P : Nat → Prop} {n : Nat} (h : P n) : ∃ f, f ≤ n ∧ P f ∧ ∀ v, v < f → ¬ P v := by
  induction n using Nat.strongRecOn with
  | _ n ih =>
    by_cases e : ∃ m, m < n ∧ P m
    · obtain ⟨m, hm, hp⟩ := e
      obtain ⟨f, h1, h2, h3⟩ := ih m hm hp
      exact ⟨f, by omega, h2, h3⟩
    · exact ⟨n, Nat.le_refl _, h, fun v hv hp => e ⟨v, hv, hp⟩⟩
noncomputable def num (cn rk : Nat → Nat) : Nat → Nat
  | 0 => 0
  | n + 1 => num cn rk n * cn n + rk n
theorem num_congr {cn r r' : Nat → Nat} : ∀ {n : Nat}, (∀ i, i < n → r i = r' i) → num cn r n = num cn r' n
  | 0, _ => rfl
  | n + 1, h => by
    show num cn r n * cn n + r n = num cn r' n * cn n + r' n
    rw [num_congr fun i hi => h i (by omega), h n (by omega)]
noncomputable def fin (cn : Nat → Nat) : Nat → Nat → Nat
  | 0, x => x
  | n + 1, x => fin cn n (x / cn n)
noncomputable def rks (cn : Nat → Nat) : Nat → Nat → Nat → Nat
  | 0, _, _ => 0
  | n + 1, x, i => if i = n then x % cn n else rks cn n (x / cn n) i
theorem whole {cn : Nat → Nat} : ∀ {n x : Nat}, x = fin cn n x * Nb.prd cn n + num cn (rks cn n x) n
  | 0, x => by show x = x * 1 + 0; omega
  | n + 1, x => by
    have ih := whole (cn := cn) (n := n) (x := x / cn n)
    have e : num cn (rks cn (n + 1) x) n = num cn (rks cn n (x / cn n)) n := num_congr fun i hi => by
      show (if i = n then x % cn n else rks cn n (x / cn n) i) = _
      rw [if_neg (by omega)]
    show x = fin cn n (x / cn n) * (Nb.prd cn n * cn n) + (num cn (rks cn (n + 1) x) n * cn n + (if n = n then x % cn n else _))
    rw [if_pos rfl, e, ← Nat.mul_assoc, ← Nat.add_assoc, ← Nat.add_mul, ← ih, Nat.div_add_mod']
theorem back {cn rk : Nat → Nat} : ∀ {n : Nat}, (∀ i, i < n → rk i < cn i) → fin cn n (num cn rk n) = 0 ∧ ∀ i, i < n → rks cn n (num cn rk n) i = rk i
  | 0, _ => ⟨rfl, fun i hi => absurd hi (Nat.not_lt_zero _)⟩
  | n + 1, h => by
    have hn := h n (by omega)
    have e1 : (num cn rk n * cn n + rk n) / cn n = num cn rk n := by
      rw [Nat.mul_comm, Nat.mul_add_div (by omega), Nat.div_eq_of_lt hn, Nat.add_zero]
    have e2 : (num cn rk n * cn n + rk n) % cn n = rk n := by
      rw [Nat.mul_comm, Nat.mul_add_mod, Nat.mod_eq_of_lt hn]
    obtain ⟨i1, i2⟩ := back (n := n) fun i hi => h i (by omega)
    refine ⟨?_, fun i hi => ?_⟩
    · show fin cn n ((num cn rk n * cn n + rk n) / cn n) = 0
      rw [e1]; exact i1
    · show (if i = n then (num cn rk n * cn n + rk n) % cn n else rks cn n ((num cn rk n * cn n + rk n) / cn n) i) = rk i
      by_cases e : i = n
      · subst e; rw [if_pos rfl, e2]
      · rw [if_neg e, e1]; exact i2 i (by omega)
noncomputable def rk (w h t : Nat) (f : List (List Int)) (c d : Nat) (ds : List (List Bool)) (n : Nat) : Nat := I2.val (Nw.pbn w h t f c d n) - fv (Ar.wd w t (Gd.ac w t * Gd.ac h t) c n) (Ar.bx w h t (Gd.ac w t * Gd.ac h t) n) (ds.getD n [])
noncomputable def bk (w h t c : Nat) (ds : List (List Bool)) (n r : Nat) : List Bool := Fb.bin (Ar.bx w h t (Gd.ac w t * Gd.ac h t) n) (fv (Ar.wd w t (Gd.ac w t * Gd.ac h t) c n) (Ar.bx w h t (Gd.ac w t * Gd.ac h t) n) (ds.getD n []) + r)
/-- the number of a picture, the packets of a number -/
noncomputable def nm (w h t : Nat) (f : List (List Int)) (c d : Nat) (ds : List (List Bool)) : Nat := num (Nb.cn w h t c ds) (rk w h t f c d ds) (d * c * (Gd.ac w t * Gd.ac h t))
noncomputable def pk (w h t c d : Nat) (ds : List (List Bool)) (x s k p : Nat) : List Bool := bk w h t c ds (Dx.ix c (Gd.ac w t * Gd.ac h t) d s k p) (rks (Nb.cn w h t c ds) (d * c * (Gd.ac w t * Gd.ac h t)) x (Dx.ix c (Gd.ac w t * Gd.ac h t) d s k p))
section
variable {w h t c d : Nat} {f : List (List Int)} {ds ps : List (List Bool)}
theorem bx_ix {s k p : Nat} (hs : s < c) (hk : k < Gd.ac w t * Gd.ac h t) (hp : p < d) : Ar.bx w h t (Gd.ac w t * Gd.ac h t) (Dx.ix c (Gd.ac w t * Gd.ac h t) d s k p) = Rg.tileBox w h t k := by
  obtain ⟨_, e2, _⟩ := Dx.ix_inj hs hk hp rfl
  unfold Ar.bx
  rw [← e2]
/-- rows with the same packets are the same -/
theorem rows_of_pb {f g : List (List Int)} (D : Rg.Dim w h d c t) (of : Pq.rowsOk (w * h) d c f) (og : Pq.rowsOk (w * h) d c g) (e : ∀ n, n < d * c * (Gd.ac w t * Gd.ac h t) → Nw.pbn w h t f c d n = Nw.pbn w h t g c d n) : f = g := by
  obtain ⟨a1, a2, a3, a4, a5, a6, a7, a8, a9, a10⟩ := id D
  have val : ∀ j n, j < c → n < w * h → Gd.vl (fun i => f.getD i []) j n = Gd.vl (fun i => g.getD i []) j n := fun j n hj hn => by
    have tl := Gd.tile_lt (t := t) (show 0 < w by omega) (show 0 < t by omega) hn
    rw [← Dx.vp_pb (g := fun s k p => Pb.pb w h t (fun i => f.getD i []) c s k p) D hj hn (Nw.vl_lt of hj hn) fun _ _ _ _ => rfl]
    refine Dx.vp_pb D hj hn (Nw.vl_lt og hj hn) fun s p hs hp => ?_
    have := e _ (Dx.ix_lt hs tl hp)
    rw [Nw.pbn_ix hs tl hp, Nw.pbn_ix hs tl hp] at this
    exact this
  refine List.ext_getElem (by rw [of.1, og.1]) fun j h1 h2 => ?_
  have hj : j < c := by rw [← of.1]; exact h1
  have ff : f[j] = f.getD j [] := by rw [List.getD_eq_getElem?_getD, List.getElem?_eq_getElem h1]; rfl
  have gg : g[j] = g.getD j [] := by rw [List.getD_eq_getElem?_getD, List.getElem?_eq_getElem h2]; rfl
  rw [ff, gg]
  obtain ⟨f1, f2⟩ := Pq.rowOk_getD of hj
  obtain ⟨g1, g2⟩ := Pq.rowOk_getD og hj
  refine List.ext_getElem (by rw [f1, g1]) fun n k1 k2 => ?_
  have v := val j n hj (by omega)
  have e1 := Gd.vl_int (f := fun i => f.getD i []) (j := j) (k := n) k1 fun z hz => (f2 z hz).1
  have e2 := Gd.vl_int (f := fun i => g.getD i []) (j := j) (k := n) k2 fun z hz => (g2 z hz).1
  rw [v] at e1
  have e3 := e1.trans e2.symm
  have get : ∀ {l : List Int} {n : Nat} (hn : n < l.length), l.getD n 0 = l[n] := fun hn => by rw [List.getD_eq_getElem?_getD, List.getElem?_eq_getElem hn]; rfl
  exact (get k1).symm.trans (e3.trans (get k2))
end
end Nm

namespace Dq
open PySem L2
section
variable {prog : Program} {w : World} {K : Type} [DecidableEq K] {knd : HeapKind prog w K} {A : Around} {E : Value → Shared → Prop} {s : Shared}
/-- two dicts with keys on the heap that tell the same, in whatever order -/
theorem pairs_same {nm : String} {a b : Addr} {xa xb : List (K × Addr × Value)} {Q : Bool → Shared → Prop} (ru : knd.room A) (na : (a == sysModules) = false) (nb : (b == sysModules) = false) (da : s.heap.DictOfH knd a xa) (db : s.heap.DictOfH knd b xb) (len : xa.length = xb.length)
    (hit : ∀ x ∈ xa, ∃ (j : Nat) (y : Addr × Value), xb[j]? = some (x.1, y) ∧ SeqAt.EqAt A s x.2.2 y.2 true) (q : Q true s) : wpAny (model prog w) A (Builtin.Dict.samePairs nm a b) Q E s := by
  obtain ⟨o1, e1, t1, g1, _, d1, l1, i1, n1⟩ := da
  obtain ⟨o2, e2, t2, g2, _, d2, l2, i2, n2⟩ := db
  have z1 : e1.size = xa.length := size_of_entries l1
  have z2 : e2.size = xb.length := size_of_entries l2
  have zz : e1.size = e2.size := by omega
  unfold Builtin.Dict.samePairs Builtin.Dict.showsAll
  rw [if_neg (show ¬ (a == sysModules) = true from fun z => by rw [na] at z; cases z), if_neg (show ¬ (b == sysModules) = true from fun z => by rw [nb] at z; cases z)]
  refine wpAny_bind (wpAny_pure (wpAny_bind (wpAny_pure (wpAny_bind (wpAny_dictEntries g1 d1 ?_)))))
  dsimp only
  refine wpAny_bind (wpAny_dictEntries g2 d2 ?_)
  rw [if_neg (show ¬ (e1.size != e2.size) = true from fun z => by rw [zz] at z; simp at z)]
  refine wpAny_bind (wpAny_dictEpoch g1 d1 (wpAny_bind ?_))
  rw [Std.Legacy.Range.forIn_eq_forIn_range']
  simp only [Std.Legacy.Range.size, Nat.sub_zero, Nat.add_sub_cancel, Nat.div_one]
  refine wpAny_forIn_list _ (fun rest r s' => s' = s ∧ r = (none, ()) ∧ ∃ i, rest = List.range' i (e1.size - i) ∧ i ≤ e1.size) _ ?_ ?_ _ _ ⟨rfl, rfl, 0, by simp, Nat.zero_le _⟩
  · rintro x rest r s' ⟨rfl, rfl, i, hr, hi⟩
    have lt : i < e1.size := by
      rcases Nat.lt_or_ge i e1.size with z | z
      · exact z
      · rw [show e1.size - i = 0 by omega] at hr; cases hr
    rw [show e1.size - i = (e1.size - (i + 1)) + 1 by omega, List.range'_succ] at hr
    obtain ⟨rfl, hr⟩ := List.cons.inj hr
    have lx : x < xa.length := by omega
    have ex : e1[x]? = some (entryOfKey knd xa[x]) := by rw [entry_at l1 x, List.getElem?_eq_getElem lx]; rfl
    obtain ⟨j, y, hj, heq⟩ := hit _ (List.getElem_mem lx)
    have ky := i1 _ (List.getElem_mem lx)
    obtain ⟨k, p, u⟩ := xa[x]
    refine wpAny_bind (wpAny_dictEntries g1 d1 ?_)
    rw [ex]
    refine wpAny_bind (wpAny_holding (wpAny_bind (wpAny_dictFind_heap ru ky g2 d2 l2 i2 n2 (fun no => absurd hj (no j y)) fun j' y' hj' => ?_)))
    have ej := idxH_unique n2 hj hj'
    subst ej
    rw [hj] at hj'
    cases hj'
    refine wpAny_bind (wpAny_dictEntries g2 d2 ?_)
    rw [entry_at l2 j, hj]
    refine wpAny_holding (heq prog w _ _ ?_)
    show wpAny _ _ (if (!true) = true then _ else _) _ _ _
    rw [if_neg (show ¬ (!true) = true by decide)]
    refine wpAny_bind (wpAny_dictEpoch g1 d1 ?_)
    rw [if_neg (show ¬ (t1 != t1) = true by simp)]
    exact wpAny_pure ⟨rfl, rfl, x + 1, hr, lt⟩
  · rintro r s' ⟨rfl, rfl, _⟩
    exact wpAny_pure q
theorem ne_same {a b : Addr} {xa xb : List (K × Addr × Value)} {Q : Value → Shared → Prop} (hu : A.units < cLine) (ru : knd.room A.in1) (na : (a == sysModules) = false) (nb : (b == sysModules) = false) (da : s.heap.DictOfH knd a xa) (db : s.heap.DictOfH knd b xb) (len : xa.length = xb.length)
    (hit : ∀ x ∈ xa, ∃ (j : Nat) (y : Addr × Value), xb[j]? = some (x.1, y) ∧ SeqAt.EqAt A.in1 s x.2.2 y.2 true) (q : Q (.bool false) s) : wpAny (model prog w) A (compareOp .NotEq (.ref a) (.ref b)) Q E s := by
  refine wpAny_richCompare_same_room (op := .NotEq) da.typeIs db.typeIs PySem.F.slot_dict_ne (wpAny_call_entry PySem.F.slot_dict_ne da.typeIs PySem.F.entry_dict_ne ?_ (PySem.F.args_dict_ne_2 _ _)) hu
  refine wpAny_bind ?_
  unfold Builtin.Dict.dictSlotArgs
  refine wpAny_bind (wpAny_notOrdered_dict da.typeIs (wpAny_pure ?_))
  refine wpAny_bind (wpAny_isInstance (T := "dict") db.typeIs PySem.F.sub_dict_dict ?_)
  simp only [Bool.not_true, Bool.false_eq_true, if_false]
  refine wpAny_bind (wpAny_pure (wpAny_bind (wpAny_pure (wpAny_bind (pairs_same ru na nb da db len hit (wpAny_pure ⟨_, rfl, (fun z => nomatch z), q⟩))))))
end
section
variable {X : Cx}
theorem pair_of {H : Hp} {ks : List (List L2.Key × V)} {xs : List (List L2.Key × Addr × Value)} (r : KT H ks xs) : ∀ {z : List L2.Key × Addr × Value}, z ∈ xs → ∃ p ∈ ks, p.1 = z.1 ∧ H z.2.1 = some (.tup (p.1.map kV)) ∧ RelV p.2 z.2.2 := by
  induction r with
  | nil => intro z hz; cases hz
  | @cons p y ps ys g _ ih =>
    intro z hz
    rcases List.mem_cons.mp hz with rfl | hz
    · exact ⟨p, List.mem_cons_self, g⟩
    · obtain ⟨p', m, r'⟩ := ih hz
      exact ⟨p', List.mem_cons_of_mem _ m, r'⟩
theorem at_of {K : Type} [DecidableEq K] {k : K} {y : Addr × Value} {xs : List (K × Addr × Value)} (h : atKey xs k = some y) : ∃ j : Nat, xs[j]? = some (k, y) := by
  unfold atKey at h
  cases e : xs.find? (fun x => decide (x.1 = k)) with
  | none => rw [e] at h; cases h
  | some z =>
    rw [e] at h
    cases h
    have m := List.mem_of_find?_eq_some e
    have t : z.1 = k := of_decide_eq_true (List.find?_some (p := fun x : K × Addr × Value => decide (x.1 = k)) e)
    obtain ⟨j, hj⟩ := List.getElem?_of_mem m
    exact ⟨j, by rw [hj, ← t]⟩
/-- != of two dicts with tuple keys that tell the same -/
noncomputable def rNeT : R2 := fun x y H Q => ∃ (a b : Addr) (ks ls : List (List L2.Key × V)), x = .ref a ∧ y = .ref b ∧ H a = some (.dT ks) ∧ H b = some (.dT ls) ∧ ks.length = ls.length ∧ (∀ p ∈ ks, valV ls p.1 = some p.2 ∧ flatB p.2 = true) ∧ Q (.bl false) H
theorem neT {a b : Addr} {ks ls : List (List L2.Key × V)} {H : Hp} {Q : VK} (ea : H a = some (.dT ks)) (eb : H b = some (.dT ls)) (len : ks.length = ls.length) (hp : ∀ p ∈ ks, valV ls p.1 = some p.2 ∧ flatB p.2 = true) (q : Q (.bl false) H) : rNeT (.ref a) (.ref b) H Q := ⟨a, b, ks, ls, rfl, rfl, ea, eb, len, hp, q⟩
theorem op_neT (hu : X.A.units + 1 < cLine) : OpR X (compareOp .NotEq) rNeT := by
  intro pins s σ H x y v u Q I rx ry h
  obtain ⟨a, b, ks, ls, rfl, rfl, ea, eb, len, hp, q⟩ := h
  cases (show v = Value.ref a from rx)
  cases (show u = Value.ref b from ry)
  obtain ⟨_, na, xa, ra, da⟩ := dt_of I.hok ea
  obtain ⟨_, nb, xb, rb, db⟩ := dt_of I.hok eb
  refine ne_same (by omega) (tupleKind_room_in1 hu) na nb da db (by rw [← Paired.length ra, ← Paired.length rb]; exact len) (fun z hz => ?_) (fin_bl I q rfl)
  obtain ⟨p, hpm, e1, e2, e3⟩ := pair_of ra hz
  obtain ⟨f1, f2⟩ := hp p hpm
  have rr := KT.val rb p.1
  rw [f1] at rr
  rw [e1] at rr
  cases hk : atKey xb z.1 with
  | none => rw [hk] at rr; exact rr.elim
  | some y =>
    rw [hk] at rr
    obtain ⟨j, hj⟩ := at_of hk
    exact ⟨j, y, hj, eqAt_same e3 rr f2⟩
end
end Dq

namespace Dw
open PySem L2
section
variable {T c d n : Nat} {G G' : Nat → List Bool} {l : List Nat} {b : List Bool}
/-- packets under the keys of the numbers of a list, in its order -/
noncomputable def kvl (T c d : Nat) (G : Nat → List Bool) (l : List Nat) : List (List L2.Key × V) := l.map fun i => (En.ik (Gd.ky T c d i), V.str (Bs.S (G i)))
theorem kvl_len : (kvl T c d G l).length = l.length := List.length_map ..
theorem ik_ky (hc : 0 < c) (hT : 0 < T) {m : Nat} (hm : m < d * c * T) (hn : n < d * c * T) : En.ik (Gd.ky T c d m) = En.ik (Gd.ky T c d n) ↔ m = n := by
  rw [En.ik_inj]
  constructor
  · intro e
    obtain ⟨_, _, _, _, b5⟩ := Dx.ix_back hc hT hm
    obtain ⟨_, _, _, _, c5⟩ := Dx.ix_back hc hT hn
    rw [Dx.ky_ix hc hT hm, Dx.ky_ix hc hT hn] at e
    injection e with e1 e
    injection e with e2 e
    injection e with e3 e
    rw [← b5, ← c5, Int.ofNat.inj e1, Int.ofNat.inj e2, Int.ofNat.inj e3]
  · rintro rfl; rfl
theorem kvl_at (hc : 0 < c) (hT : 0 < T) (hn : n < d * c * T) : ∀ {l : List Nat}, (∀ m ∈ l, m < d * c * T) → valV (kvl T c d G l) (En.ik (Gd.ky T c d n)) = if n ∈ l then some (.str (Bs.S (G n))) else none
  | [], _ => by rw [if_neg (by simp)]; rfl
  | m :: l, hl => by
    have ih := kvl_at hc hT hn (l := l) fun x hx => hl x (List.mem_cons_of_mem _ hx)
    show valV ((En.ik (Gd.ky T c d m), V.str (Bs.S (G m))) :: kvl T c d G l) _ = _
    by_cases e : m = n
    · subst e
      rw [valV_pos rfl, if_pos List.mem_cons_self]
    · rw [valV_neg (fun z => e ((ik_ky hc hT (hl m List.mem_cons_self) hn).mp z)), ih]
      have : n ∈ m :: l ↔ n ∈ l := by rw [List.mem_cons]; exact ⟨fun z => z.resolve_left fun y => e y.symm, .inr⟩
      by_cases z : n ∈ l
      · rw [if_pos z, if_pos (this.mpr z)]
      · rw [if_neg z, if_neg fun y => z (this.mp y)]
theorem kvl_new (hc : 0 < c) (hT : 0 < T) (hn : n < d * c * T) (hl : ∀ m ∈ l, m < d * c * T) (nl : n ∉ l) : putK (kvl T c d G l) (En.ik (Gd.ky T c d n)) (.str (Bs.S (G n))) = kvl T c d G (l ++ [n]) := by
  rw [putK_new _ (by rw [kvl_at hc hT hn hl, if_neg nl])]
  unfold kvl
  rw [List.map_append]; rfl
theorem kvl_set (hc : 0 < c) (hT : 0 < T) (hn : n < d * c * T) (hl : ∀ m ∈ l, m < d * c * T) (yl : n ∈ l) : putK (kvl T c d G l) (En.ik (Gd.ky T c d n)) (.str (Bs.S b)) = kvl T c d (fun m => if m = n then b else G m) l := by
  have e := kvl_at (G := G) hc hT hn hl
  rw [if_pos yl] at e
  unfold putK
  rw [valV_any, e, if_pos (show (some (V.str (Bs.S (G n)))).isSome = true from rfl)]
  unfold kvl
  rw [List.map_map]
  refine List.map_congr_left fun m hm => ?_
  by_cases z : m = n
  · subst z
    simp
  · have := fun y => z ((ik_ky hc hT (hl m hm) hn).mp y)
    simp only [Function.comp, if_neg z, if_neg this]
theorem kvl_congr (h : ∀ i ∈ l, G i = G' i) : kvl T c d G l = kvl T c d G' l := List.map_congr_left fun i hi => by rw [h i hi]
theorem kvl_pk (hc : 0 < c) (hT : 0 < T) (hl : ∀ m, m ∈ l ↔ m < d * c * T) : Dx.PK (kvl T c d G l) c T d fun j k p => G (Dx.ix c T d j k p) := fun j k p hj hk hp => by
  have hi := Dx.ix_lt hj hk hp
  have e : Dx.kq j k p = En.ik (Gd.ky T c d (Dx.ix c T d j k p)) := by
    rw [Rn.ky_at hc hT hj hk hp]; rfl
  rw [e, kvl_at hc hT hi fun m hm => (hl m).mp hm, if_pos ((hl _).mpr hi)]
theorem kvl_same (hc : 0 < c) (hT : 0 < T) {l l' : List Nat} (hl : ∀ m ∈ l, m < d * c * T) (hl' : ∀ m ∈ l', m < d * c * T) (sub : ∀ m ∈ l, m ∈ l') : ∀ p ∈ kvl T c d G l, valV (kvl T c d G l') p.1 = some p.2 ∧ flatB p.2 = true := fun p hp => by
  obtain ⟨m, hm, rfl⟩ := List.mem_map.mp hp
  exact ⟨by rw [kvl_at hc hT (hl m hm) hl', if_pos (sub m hm)], rfl⟩
/-- packets told by pictures: the picture that packets make has these, and is told by them -/
theorem back_rows {w h t : Nat} {f : List (List Int)} (D : Rg.Dim w h d c t) (hok : Pq.rowsOk (w * h) d c f) (hG : ∀ n, n < d * c * (Gd.ac w t * Gd.ac h t) → G n = Nw.pbn w h t f c d n) : Dx.vrows (fun j k p => G (Dx.ix c (Gd.ac w t * Gd.ac h t) d j k p)) w t c d (w * h) = f := by
  obtain ⟨l1, l2, l3, l4, l5, l6, l7, l8, l9⟩ := D.ok
  refine Nm.rows_of_pb D (Dx.vrows_ok _ _ _ _ _ _) hok fun n hn => ?_
  obtain ⟨b1, b2, b3, _, b5⟩ := Dx.ix_back (show 0 < c by omega) l5 hn
  have e := Nw.pbn_ix (w := w) (h := h) (t := t) (c := c) (d := d) (f := Dx.vrows (fun j k p => G (Dx.ix c (Gd.ac w t * Gd.ac h t) d j k p)) w t c d (w * h)) b1 b2 b3
  rw [b5] at e
  rw [e, Nm.pb_vrows D b1 b2 b3, b5, hG n hn]
  rw [b5, hG n hn, Nw.pbn_len]
  rfl
end
section
open Fx Nx
variable {R H : Hp} {p a : Addr} {kvs : List (List L2.Key × V)}
/-- what is no dict stands below a dict that changes -/
theorem off {o : HO} (O : Own R H (one p (.dT kvs))) (h : H a = some o) (ne : ∀ k, o ≠ .dT k) : R a = some o := by
  by_cases e : a = p
  · subst e
    rw [at1 O] at h
    exact absurd (Option.some.inj h).symm (ne _)
  · rw [← off1 O e]; exact h
theorem ll_off {r : Addr} {n : Nat} {f : Nat → List Int} (O : Own R H (one p (.dT kvs))) (x : Gx.LL H r n f) : Gx.LL R r n f := by
  obtain ⟨ps, h1, h2, h3⟩ := x
  exact ⟨ps, off O h1 (fun k z => nomatch z), h2, fun j a e => off O (h3 j a e) (fun k z => nomatch z)⟩
end
end Dw

namespace Ib
open PySem L2
section
variable {H : Hp} {Q : VK} {a b : Bool}
theorem isT (q : Q (.bl a) H) : rIsB (.bl a) (.bl true) H Q := ⟨a, true, rfl, rfl, by rw [show decide (a = true) = a by cases a <;> rfl]; exact q⟩
theorem isF (q : Q (.bl (!a)) H) : rIsB (.bl a) (.bl false) H Q := ⟨a, false, rfl, rfl, by rw [show decide (a = false) = !a by cases a <;> rfl]; exact q⟩
theorem notT (q : Q (.bl (!a)) H) : rNotB (.bl a) (.bl true) H Q := ⟨a, true, rfl, rfl, by rw [show (!decide (a = true)) = !a by cases a <;> rfl]; exact q⟩
theorem notF (q : Q (.bl a) H) : rNotB (.bl a) (.bl false) H Q := ⟨a, false, rfl, rfl, by rw [show (!decide (a = false)) = a by cases a <;> rfl]; exact q⟩
end
end Ib
local macro_rules | `(tactic| walk_at "go1") => `(tactic| first
  | with_reducible refine Ib.isT ?_
  | with_reducible refine Ib.isF ?_
  | with_reducible refine Ib.notT ?_
  | with_reducible refine Ib.notF ?_)

namespace My
open PySem L2
noncomputable section
noncomputable def top (i : Nat) : Stmt := PySem.Challenge.pw_packetpicture_k14_whole_bits_belong_to_o.main.body.getD i (.Pass ⟨0, 0, 0, 0⟩)
abbrev s_Picture_rows : Stmt := inClass (top 23) 3
abbrev s_same_kind : Stmt := top 14
abbrev s_Frame_same : Stmt := inClass (top 15) 6
abbrev s_Picture_same : Stmt := inClass (top 23) 4
abbrev s_check_range : Stmt := top 6
abbrev s_check_values : Stmt := top 22
abbrev s_check_size : Stmt := top 13
abbrev s_check_kind : Stmt := top 12
abbrev s_Picture___init__ : Stmt := inClass (top 23) 0
abbrev s_Frame_pixels : Stmt := inClass (top 15) 4
abbrev s_value_of : Stmt := top 28
abbrev s_stored_channels : Stmt := top 31
abbrev s_Frame_across : Stmt := inClass (top 15) 1
abbrev s_tile_corner : Stmt := top 16
abbrev s_tile_size : Stmt := top 17
abbrev s_locate_pixel : Stmt := top 19
abbrev s_value_in_packets : Stmt := top 32
abbrev s_picture_of : Stmt := top 33
abbrev s_tile_pixels : Stmt := top 18
abbrev s_gray_bit : Stmt := top 27
abbrev s_Picture_value : Stmt := inClass (top 23) 1
abbrev s_stored_bit : Stmt := top 29
abbrev s_Frame_down : Stmt := inClass (top 15) 2
abbrev s_Frame_tiles : Stmt := inClass (top 15) 3
abbrev s_check_key : Stmt := top 20
abbrev s_fits_frame : Stmt := top 24
abbrev s_check_fits : Stmt := top 25
abbrev s_packet_bits : Stmt := top 30
abbrev s_law_mixed : Stmt := top 36
abbrev s_law_numbers : Stmt := top 37
abbrev s_law_values : Stmt := top 39
abbrev s_law_cell : Stmt := top 35
abbrev s_law_pixels : Stmt := top 44
abbrev s_law_gray : Stmt := top 42
abbrev s_law_stored : Stmt := top 43
abbrev s_law_bits : Stmt := top 45
abbrev s_law_drawn : Stmt := top 46
abbrev s_law_order : Stmt := top 41
abbrev s_law_tiles : Stmt := top 40
abbrev s_Frame___init__ : Stmt := inClass (top 15) 0
abbrev s_law_sizes : Stmt := top 38
abbrev s_law : Stmt := top 47
set_option genInjectivity false
set_option genSizeOf false
set_option genSizeOfSpec false
/-- a def of the text as it stands behind the top -/
structure DefAt (K : PySem.W.Frag) (mg : Str → Option Value) (x : Str) (st : Stmt) (ps : List Str) where
  a : Addr
  d : FuncData
  f : Fun K x x st a d
  g : mg x = some (.ref a)
  b : Binds K d ps []
structure DefAl (K : PySem.W.Frag) (mg : Str → Option Value) (x y : Str) (st : Stmt) (ps : List Str) where
  a : Addr
  d : FuncData
  f : Fun K y y st a d
  g : mg x = some (.ref a)
  b : Binds K d ps []
structure MethAt (K : PySem.W.Frag) (C : Addr) (x q : Str) (st : Stmt) (ps : List Str) where
  a : Addr
  d : FuncData
  f : Fun K x q st a d
  b : Binds K d ps []
  m : Meth K C x a
abbrev s_OutOfRange___init__ : Stmt := inClass (top 3) 0
/-- the law's own: True, whatever the script -/
noncomputable def spLaw (K : PySem.W.Frag) : Sp := fun vs H Q _ => ∃ (a : Addr) (ns : List Int), vs = [.ref a] ∧ SqL K H a (ns.map V.int) ∧ ns.length ≤ 63 ∧ (∀ z ∈ ns, Builtin.Int.intBits z ≤ 1048576) ∧ ∀ H', Q (.bl true) H' 
set_option genInjectivity false
set_option genSizeOf false
set_option genSizeOfSpec false
structure Tx (P : Program) (K : PySem.W.Frag) (mg : Str → Option Value) where
  a_Picture : Addr
  cl_Picture : Cls K a_Picture
  g_Picture : mg "Picture" = some (.ref a_Picture)
  mk_Picture : PySem.W.makesIn K a_Picture = true
  kp_Picture : PySem.W.keepIn K (.ref a_Picture) = true
  na_Picture_width : NoAttr K a_Picture "width"
  na_Picture_height : NoAttr K a_Picture "height"
  na_Picture_depth : NoAttr K a_Picture "depth"
  na_Picture_channels : NoAttr K a_Picture "channels"
  na_Picture__rows : NoAttr K a_Picture "_rows"
  a_Frame : Addr
  cl_Frame : Cls K a_Frame
  g_Frame : mg "Frame" = some (.ref a_Frame)
  mk_Frame : PySem.W.makesIn K a_Frame = true
  kp_Frame : PySem.W.keepIn K (.ref a_Frame) = true
  na_Frame_width : NoAttr K a_Frame "width"
  na_Frame_height : NoAttr K a_Frame "height"
  na_Frame_depth : NoAttr K a_Frame "depth"
  na_Frame_channels : NoAttr K a_Frame "channels"
  na_Frame_tile : NoAttr K a_Frame "tile"
  Picture_rows : MethAt K a_Picture "rows" "Picture.rows" s_Picture_rows ["self"]
  same_kind : DefAt K mg "same_kind" s_same_kind ["one", "other"]
  Frame_same : MethAt K a_Frame "same" "Frame.same" s_Frame_same ["self", "other"]
  Picture_same : MethAt K a_Picture "same" "Picture.same" s_Picture_same ["self", "other"]
  check_range : DefAt K mg "check_range" s_check_range ["name", "value", "least", "most"]
  check_values : DefAt K mg "check_values" s_check_values ["width", "height", "depth", "channels", "values"]
  check_size : DefAt K mg "check_size" s_check_size ["width", "height", "channels"]
  check_kind : DefAt K mg "check_kind" s_check_kind ["width", "height", "depth", "channels"]
  Picture___init__ : MethAt K a_Picture "__init__" "Picture.__init__" s_Picture___init__ ["self", "width", "height", "depth", "channels", "values"]
  Frame_pixels : MethAt K a_Frame "pixels" "Frame.pixels" s_Frame_pixels ["self"]
  value_of : DefAt K mg "value_of" s_value_of ["grays"]
  stored_channels : DefAt K mg "stored_channels" s_stored_channels ["channels", "channel"]
  Frame_across : MethAt K a_Frame "across" "Frame.across" s_Frame_across ["self"]
  tile_corner : DefAt K mg "tile_corner" s_tile_corner ["frame", "tile"]
  tile_size : DefAt K mg "tile_size" s_tile_size ["frame", "tile"]
  locate_pixel : DefAt K mg "locate_pixel" s_locate_pixel ["frame", "pixel"]
  value_in_packets : DefAt K mg "value_in_packets" s_value_in_packets ["frame", "packets", "channel", "pixel"]
  picture_of : DefAt K mg "picture_of" s_picture_of ["frame", "packets"]
  tile_pixels : DefAt K mg "tile_pixels" s_tile_pixels ["frame", "tile"]
  gray_bit : DefAt K mg "gray_bit" s_gray_bit ["value", "plane"]
  Picture_value : MethAt K a_Picture "value" "Picture.value" s_Picture_value ["self", "channel", "pixel"]
  stored_bit : DefAt K mg "stored_bit" s_stored_bit ["picture", "channel", "pixel", "plane"]
  Frame_down : MethAt K a_Frame "down" "Frame.down" s_Frame_down ["self"]
  Frame_tiles : MethAt K a_Frame "tiles" "Frame.tiles" s_Frame_tiles ["self"]
  check_key : DefAt K mg "check_key" s_check_key ["frame", "key"]
  fits_frame : DefAt K mg "fits_frame" s_fits_frame ["frame", "picture"]
  check_fits : DefAt K mg "check_fits" s_check_fits ["frame", "picture"]
  packet_bits : DefAt K mg "packet_bits" s_packet_bits ["frame", "picture", "key"]
  law_mixed : DefAt K mg "_law_mixed" s_law_mixed ["number", "k", "limit"]
  law_numbers : DefAt K mg "_law_numbers" s_law_numbers ["cell", "count", "limit"]
  law_values : DefAt K mg "_law_values" s_law_values ["cell", "sizes"]
  law_cell : DefAt K mg "_law_cell" s_law_cell ["script", "k"]
  law_pixels : DefAt K mg "_law_pixels" s_law_pixels ["sizes", "tile"]
  law_gray : DefAt K mg "_law_gray" s_law_gray ["value", "plane"]
  law_stored : DefAt K mg "_law_stored" s_law_stored ["values", "channel", "pixel", "plane"]
  law_bits : DefAt K mg "_law_bits" s_law_bits ["sizes", "values", "key"]
  law_drawn : DefAt K mg "_law_drawn" s_law_drawn ["frame", "keys", "cell"]
  law_order : DefAt K mg "_law_order" s_law_order ["sizes", "tiles"]
  law_tiles : DefAt K mg "_law_tiles" s_law_tiles ["sizes"]
  Frame___init__ : MethAt K a_Frame "__init__" "Frame.__init__" s_Frame___init__ ["self", "width", "height", "depth", "channels", "tile"]
  law_sizes : DefAt K mg "_law_sizes" s_law_sizes ["cell", "most"]
  law : DefAt K mg "law" s_law ["script"]
  x_OutOfRange : Sx.ExcAt P K mg "OutOfRange" "OutOfRange.__init__" s_OutOfRange___init__ ["self", "name"]
  y_OtherKind : Sx.BareAt K mg "OtherKind"
  nf_OutOfRange_name : PySem.W.findIn K (.ref x_OutOfRange.C) "name" = some none
  n_abs : mg "abs" = none
  n_int : mg "int" = none
  n_len : mg "len" = none
  n_list : mg "list" = none
  n_min : mg "min" = none
  n_range : mg "range" = none
  n_reversed : mg "reversed" = none
  n_str : mg "str" = none
  n_sum : mg "sum" = none
  t_DEPTH_MOST : Tok
  c_DEPTH_MOST : mg "DEPTH_MOST" = some (.int 8 t_DEPTH_MOST)
  t_SIDE_MOST : Tok
  c_SIDE_MOST : mg "SIDE_MOST" = some (.int 64 t_SIDE_MOST)
  t_TILE_MOST : Tok
  c_TILE_MOST : mg "TILE_MOST" = some (.int 16 t_TILE_MOST)
  t_VALUES_MOST : Tok
  c_VALUES_MOST : mg "VALUES_MOST" = some (.int 3072 t_VALUES_MOST)
section
variable {P : Program} {w : World} {K : PySem.W.Frag} {mg : Str → Option Value} {base : Heap}
noncomputable def fl_Picture (v0 v1 v2 v3 v4 : V) : List (Str × V) := [("width", v0), ("height", v1), ("depth", v2), ("channels", v3), ("_rows", v4)]
theorem ne_Picture_width__height : ((Str.ofString "width") = Str.ofString "height") = False := eq_false (by decide +kernel)
theorem ne_Picture_width__depth : ((Str.ofString "width") = Str.ofString "depth") = False := eq_false (by decide +kernel)
theorem ne_Picture_width__channels : ((Str.ofString "width") = Str.ofString "channels") = False := eq_false (by decide +kernel)
theorem ne_Picture_width___rows : ((Str.ofString "width") = Str.ofString "_rows") = False := eq_false (by decide +kernel)
theorem ne_Picture_width__value : ((Str.ofString "width") = Str.ofString "value") = False := eq_false (by decide +kernel)
theorem ne_Picture_width__rows : ((Str.ofString "width") = Str.ofString "rows") = False := eq_false (by decide +kernel)
theorem ne_Picture_width__same : ((Str.ofString "width") = Str.ofString "same") = False := eq_false (by decide +kernel)
theorem ne_Picture_height__depth : ((Str.ofString "height") = Str.ofString "depth") = False := eq_false (by decide +kernel)
theorem ne_Picture_height__channels : ((Str.ofString "height") = Str.ofString "channels") = False := eq_false (by decide +kernel)
theorem ne_Picture_height___rows : ((Str.ofString "height") = Str.ofString "_rows") = False := eq_false (by decide +kernel)
theorem ne_Picture_height__value : ((Str.ofString "height") = Str.ofString "value") = False := eq_false (by decide +kernel)
theorem ne_Picture_height__rows : ((Str.ofString "height") = Str.ofString "rows") = False := eq_false (by decide +kernel)
theorem ne_Picture_height__same : ((Str.ofString "height") = Str.ofString "same") = False := eq_false (by decide +kernel)
theorem ne_Picture_depth__channels : ((Str.ofString "depth") = Str.ofString "channels") = False := eq_false (by decide +kernel)
theorem ne_Picture_depth___rows : ((Str.ofString "depth") = Str.ofString "_rows") = False := eq_false (by decide +kernel)
theorem ne_Picture_depth__value : ((Str.ofString "depth") = Str.ofString "value") = False := eq_false (by decide +kernel)
theorem ne_Picture_depth__rows : ((Str.ofString "depth") = Str.ofString "rows") = False := eq_false (by decide +kernel)
theorem ne_Picture_depth__same : ((Str.ofString "depth") = Str.ofString "same") = False := eq_false (by decide +kernel)
theorem ne_Picture_channels___rows : ((Str.ofString "channels") = Str.ofString "_rows") = False := eq_false (by decide +kernel)
theorem ne_Picture_channels__value : ((Str.ofString "channels") = Str.ofString "value") = False := eq_false (by decide +kernel)
theorem ne_Picture_channels__rows : ((Str.ofString "channels") = Str.ofString "rows") = False := eq_false (by decide +kernel)
theorem ne_Picture_channels__same : ((Str.ofString "channels") = Str.ofString "same") = False := eq_false (by decide +kernel)
theorem ne_Picture__rows__value : ((Str.ofString "_rows") = Str.ofString "value") = False := eq_false (by decide +kernel)
theorem ne_Picture__rows__rows : ((Str.ofString "_rows") = Str.ofString "rows") = False := eq_false (by decide +kernel)
theorem ne_Picture__rows__same : ((Str.ofString "_rows") = Str.ofString "same") = False := eq_false (by decide +kernel)
theorem put_Picture_width {v0 v1 v2 v3 v4 : V} {z : V} : putF "width" z (fl_Picture v0 v1 v2 v3 v4) = fl_Picture z v1 v2 v3 v4 := by
  simp only [fl_Picture, putF, if_false, if_true, reduceIte]
theorem lk_Picture_width {v0 v1 v2 v3 v4 : V} : (fl_Picture v0 v1 v2 v3 v4).lookup ("width" : Str) = some v0 := by
  have h := lookup_putF "width" "width" v0 (fl_Picture v0 v1 v2 v3 v4)
  rw [put_Picture_width, if_pos rfl] at h
  exact h
theorem put_Picture_height {v0 v1 v2 v3 v4 : V} {z : V} : putF "height" z (fl_Picture v0 v1 v2 v3 v4) = fl_Picture v0 z v2 v3 v4 := by
  simp only [fl_Picture, putF, ne_Picture_width__height, if_false, if_true, reduceIte]
theorem lk_Picture_height {v0 v1 v2 v3 v4 : V} : (fl_Picture v0 v1 v2 v3 v4).lookup ("height" : Str) = some v1 := by
  have h := lookup_putF "height" "height" v1 (fl_Picture v0 v1 v2 v3 v4)
  rw [put_Picture_height, if_pos rfl] at h
  exact h
theorem put_Picture_depth {v0 v1 v2 v3 v4 : V} {z : V} : putF "depth" z (fl_Picture v0 v1 v2 v3 v4) = fl_Picture v0 v1 z v3 v4 := by
  simp only [fl_Picture, putF, ne_Picture_width__depth, ne_Picture_height__depth, if_false, if_true, reduceIte]
theorem lk_Picture_depth {v0 v1 v2 v3 v4 : V} : (fl_Picture v0 v1 v2 v3 v4).lookup ("depth" : Str) = some v2 := by
  have h := lookup_putF "depth" "depth" v2 (fl_Picture v0 v1 v2 v3 v4)
  rw [put_Picture_depth, if_pos rfl] at h
  exact h
theorem put_Picture_channels {v0 v1 v2 v3 v4 : V} {z : V} : putF "channels" z (fl_Picture v0 v1 v2 v3 v4) = fl_Picture v0 v1 v2 z v4 := by
  simp only [fl_Picture, putF, ne_Picture_width__channels, ne_Picture_height__channels, ne_Picture_depth__channels, if_false, if_true, reduceIte]
theorem lk_Picture_channels {v0 v1 v2 v3 v4 : V} : (fl_Picture v0 v1 v2 v3 v4).lookup ("channels" : Str) = some v3 := by
  have h := lookup_putF "channels" "channels" v3 (fl_Picture v0 v1 v2 v3 v4)
  rw [put_Picture_channels, if_pos rfl] at h
  exact h
theorem put_Picture__rows {v0 v1 v2 v3 v4 : V} {z : V} : putF "_rows" z (fl_Picture v0 v1 v2 v3 v4) = fl_Picture v0 v1 v2 v3 z := by
  simp only [fl_Picture, putF, ne_Picture_width___rows, ne_Picture_height___rows, ne_Picture_depth___rows, ne_Picture_channels___rows, if_false, if_true, reduceIte]
theorem lk_Picture__rows {v0 v1 v2 v3 v4 : V} : (fl_Picture v0 v1 v2 v3 v4).lookup ("_rows" : Str) = some v4 := by
  have h := lookup_putF "_rows" "_rows" v4 (fl_Picture v0 v1 v2 v3 v4)
  rw [put_Picture__rows, if_pos rfl] at h
  exact h
theorem ini_Picture {v0 v1 v2 v3 v4 : V} : putF "_rows" v4 (putF "channels" v3 (putF "depth" v2 (putF "height" v1 (putF "width" v0 [])))) = fl_Picture v0 v1 v2 v3 v4 := by
  simp only [fl_Picture, putF, ne_Picture_width__height, ne_Picture_width__depth, ne_Picture_width__channels, ne_Picture_width___rows, ne_Picture_height__depth, ne_Picture_height__channels, ne_Picture_height___rows, ne_Picture_depth__channels, ne_Picture_depth___rows, ne_Picture_channels___rows, if_false, if_true, reduceIte]
theorem no_Picture_value {v0 v1 v2 v3 v4 : V} : (fl_Picture v0 v1 v2 v3 v4).lookup ("value" : Str) = none := by
  have q : ∀ (g : Str) (u : V) (r : List (Str × V)), ¬ g = "value" → List.lookup (Str.ofString "value") ((g, u) :: r) = List.lookup (Str.ofString "value") r := fun g u r h => by
    have hb : ((Str.ofString "value") == g) = false := beq_eq_false_iff_ne.mpr (fun z => h z.symm)
    simp only [List.lookup, hb]
  unfold fl_Picture
  rw [q _ _ _ (by rw [ne_Picture_width__value]; exact id), q _ _ _ (by rw [ne_Picture_height__value]; exact id), q _ _ _ (by rw [ne_Picture_depth__value]; exact id), q _ _ _ (by rw [ne_Picture_channels__value]; exact id), q _ _ _ (by rw [ne_Picture__rows__value]; exact id)]
  rfl
theorem no_Picture_rows {v0 v1 v2 v3 v4 : V} : (fl_Picture v0 v1 v2 v3 v4).lookup ("rows" : Str) = none := by
  have q : ∀ (g : Str) (u : V) (r : List (Str × V)), ¬ g = "rows" → List.lookup (Str.ofString "rows") ((g, u) :: r) = List.lookup (Str.ofString "rows") r := fun g u r h => by
    have hb : ((Str.ofString "rows") == g) = false := beq_eq_false_iff_ne.mpr (fun z => h z.symm)
    simp only [List.lookup, hb]
  unfold fl_Picture
  rw [q _ _ _ (by rw [ne_Picture_width__rows]; exact id), q _ _ _ (by rw [ne_Picture_height__rows]; exact id), q _ _ _ (by rw [ne_Picture_depth__rows]; exact id), q _ _ _ (by rw [ne_Picture_channels__rows]; exact id), q _ _ _ (by rw [ne_Picture__rows__rows]; exact id)]
  rfl
theorem no_Picture_same {v0 v1 v2 v3 v4 : V} : (fl_Picture v0 v1 v2 v3 v4).lookup ("same" : Str) = none := by
  have q : ∀ (g : Str) (u : V) (r : List (Str × V)), ¬ g = "same" → List.lookup (Str.ofString "same") ((g, u) :: r) = List.lookup (Str.ofString "same") r := fun g u r h => by
    have hb : ((Str.ofString "same") == g) = false := beq_eq_false_iff_ne.mpr (fun z => h z.symm)
    simp only [List.lookup, hb]
  unfold fl_Picture
  rw [q _ _ _ (by rw [ne_Picture_width__same]; exact id), q _ _ _ (by rw [ne_Picture_height__same]; exact id), q _ _ _ (by rw [ne_Picture_depth__same]; exact id), q _ _ _ (by rw [ne_Picture_channels__same]; exact id), q _ _ _ (by rw [ne_Picture__rows__same]; exact id)]
  rfl
theorem k4_Picture (T : Tx P K mg) {H : Hp} {x dx : Addr} {v0 v1 v2 v3 v4 : V} (h : H x = some (.ins T.a_Picture dx (fl_Picture v0 v1 v2 v3 v4))) : Nx.K4 K H x v0 v1 v2 v3 := ⟨_, dx, _, h, T.cl_Picture, ⟨T.na_Picture_width, T.na_Picture_height, T.na_Picture_depth, T.na_Picture_channels⟩, lk_Picture_width, lk_Picture_height, lk_Picture_depth, lk_Picture_channels⟩
/-- a Picture stands at x, its rows at r -/
structure Pic (C : Addr) (H : Hp) (x r : Addr) (w h d c : Nat) (f : Nat → List Int) : Prop where
  ob : ∃ dx, H x = some (.ins C dx (fl_Picture (.int (w : Int)) (.int (h : Int)) (.int (d : Int)) (.int (c : Int)) (.ref r)))
  rs : Gx.LL H r c f
theorem Pic.keep {C x r : Addr} {H H' : Hp} {w h d c : Nat} {f : Nat → List Int} (p : Pic C H x r w h d c f) (s : Same H H') : Pic C H' x r w h d c f := by
  obtain ⟨⟨dx, h1⟩, h2⟩ := p
  exact ⟨⟨dx, s _ _ h1⟩, h2.keep s⟩

noncomputable def fl_Frame (v0 v1 v2 v3 v4 : V) : List (Str × V) := [("width", v0), ("height", v1), ("depth", v2), ("channels", v3), ("tile", v4)]
theorem ne_Frame_width__height : ((Str.ofString "width") = Str.ofString "height") = False := eq_false (by decide +kernel)
theorem ne_Frame_width__depth : ((Str.ofString "width") = Str.ofString "depth") = False := eq_false (by decide +kernel)
theorem ne_Frame_width__channels : ((Str.ofString "width") = Str.ofString "channels") = False := eq_false (by decide +kernel)
theorem ne_Frame_width__tile : ((Str.ofString "width") = Str.ofString "tile") = False := eq_false (by decide +kernel)
theorem ne_Frame_width__across : ((Str.ofString "width") = Str.ofString "across") = False := eq_false (by decide +kernel)
theorem ne_Frame_width__down : ((Str.ofString "width") = Str.ofString "down") = False := eq_false (by decide +kernel)
theorem ne_Frame_width__tiles : ((Str.ofString "width") = Str.ofString "tiles") = False := eq_false (by decide +kernel)
theorem ne_Frame_width__pixels : ((Str.ofString "width") = Str.ofString "pixels") = False := eq_false (by decide +kernel)
theorem ne_Frame_height__depth : ((Str.ofString "height") = Str.ofString "depth") = False := eq_false (by decide +kernel)
theorem ne_Frame_height__channels : ((Str.ofString "height") = Str.ofString "channels") = False := eq_false (by decide +kernel)
theorem ne_Frame_height__tile : ((Str.ofString "height") = Str.ofString "tile") = False := eq_false (by decide +kernel)
theorem ne_Frame_height__across : ((Str.ofString "height") = Str.ofString "across") = False := eq_false (by decide +kernel)
theorem ne_Frame_height__down : ((Str.ofString "height") = Str.ofString "down") = False := eq_false (by decide +kernel)
theorem ne_Frame_height__tiles : ((Str.ofString "height") = Str.ofString "tiles") = False := eq_false (by decide +kernel)
theorem ne_Frame_height__pixels : ((Str.ofString "height") = Str.ofString "pixels") = False := eq_false (by decide +kernel)
theorem ne_Frame_depth__channels : ((Str.ofString "depth") = Str.ofString "channels") = False := eq_false (by decide +kernel)
theorem ne_Frame_depth__tile : ((Str.ofString "depth") = Str.ofString "tile") = False := eq_false (by decide +kernel)
theorem ne_Frame_depth__across : ((Str.ofString "depth") = Str.ofString "across") = False := eq_false (by decide +kernel)
theorem ne_Frame_depth__down : ((Str.ofString "depth") = Str.ofString "down") = False := eq_false (by decide +kernel)
theorem ne_Frame_depth__tiles : ((Str.ofString "depth") = Str.ofString "tiles") = False := eq_false (by decide +kernel)
theorem ne_Frame_depth__pixels : ((Str.ofString "depth") = Str.ofString "pixels") = False := eq_false (by decide +kernel)
theorem ne_Frame_channels__tile : ((Str.ofString "channels") = Str.ofString "tile") = False := eq_false (by decide +kernel)
theorem ne_Frame_channels__across : ((Str.ofString "channels") = Str.ofString "across") = False := eq_false (by decide +kernel)
theorem ne_Frame_channels__down : ((Str.ofString "channels") = Str.ofString "down") = False := eq_false (by decide +kernel)
theorem ne_Frame_channels__tiles : ((Str.ofString "channels") = Str.ofString "tiles") = False := eq_false (by decide +kernel)
theorem ne_Frame_channels__pixels : ((Str.ofString "channels") = Str.ofString "pixels") = False := eq_false (by decide +kernel)
theorem ne_Frame_tile__across : ((Str.ofString "tile") = Str.ofString "across") = False := eq_false (by decide +kernel)
theorem ne_Frame_tile__down : ((Str.ofString "tile") = Str.ofString "down") = False := eq_false (by decide +kernel)
theorem ne_Frame_tile__tiles : ((Str.ofString "tile") = Str.ofString "tiles") = False := eq_false (by decide +kernel)
theorem ne_Frame_tile__pixels : ((Str.ofString "tile") = Str.ofString "pixels") = False := eq_false (by decide +kernel)
theorem put_Frame_width {v0 v1 v2 v3 v4 : V} {z : V} : putF "width" z (fl_Frame v0 v1 v2 v3 v4) = fl_Frame z v1 v2 v3 v4 := by
  simp only [fl_Frame, putF, if_false, if_true, reduceIte]
theorem lk_Frame_width {v0 v1 v2 v3 v4 : V} : (fl_Frame v0 v1 v2 v3 v4).lookup ("width" : Str) = some v0 := by
  have h := lookup_putF "width" "width" v0 (fl_Frame v0 v1 v2 v3 v4)
  rw [put_Frame_width, if_pos rfl] at h
  exact h
theorem put_Frame_height {v0 v1 v2 v3 v4 : V} {z : V} : putF "height" z (fl_Frame v0 v1 v2 v3 v4) = fl_Frame v0 z v2 v3 v4 := by
  simp only [fl_Frame, putF, ne_Frame_width__height, if_false, if_true, reduceIte]
theorem lk_Frame_height {v0 v1 v2 v3 v4 : V} : (fl_Frame v0 v1 v2 v3 v4).lookup ("height" : Str) = some v1 := by
  have h := lookup_putF "height" "height" v1 (fl_Frame v0 v1 v2 v3 v4)
  rw [put_Frame_height, if_pos rfl] at h
  exact h
theorem put_Frame_depth {v0 v1 v2 v3 v4 : V} {z : V} : putF "depth" z (fl_Frame v0 v1 v2 v3 v4) = fl_Frame v0 v1 z v3 v4 := by
  simp only [fl_Frame, putF, ne_Frame_width__depth, ne_Frame_height__depth, if_false, if_true, reduceIte]
theorem lk_Frame_depth {v0 v1 v2 v3 v4 : V} : (fl_Frame v0 v1 v2 v3 v4).lookup ("depth" : Str) = some v2 := by
  have h := lookup_putF "depth" "depth" v2 (fl_Frame v0 v1 v2 v3 v4)
  rw [put_Frame_depth, if_pos rfl] at h
  exact h
theorem put_Frame_channels {v0 v1 v2 v3 v4 : V} {z : V} : putF "channels" z (fl_Frame v0 v1 v2 v3 v4) = fl_Frame v0 v1 v2 z v4 := by
  simp only [fl_Frame, putF, ne_Frame_width__channels, ne_Frame_height__channels, ne_Frame_depth__channels, if_false, if_true, reduceIte]
theorem lk_Frame_channels {v0 v1 v2 v3 v4 : V} : (fl_Frame v0 v1 v2 v3 v4).lookup ("channels" : Str) = some v3 := by
  have h := lookup_putF "channels" "channels" v3 (fl_Frame v0 v1 v2 v3 v4)
  rw [put_Frame_channels, if_pos rfl] at h
  exact h
theorem put_Frame_tile {v0 v1 v2 v3 v4 : V} {z : V} : putF "tile" z (fl_Frame v0 v1 v2 v3 v4) = fl_Frame v0 v1 v2 v3 z := by
  simp only [fl_Frame, putF, ne_Frame_width__tile, ne_Frame_height__tile, ne_Frame_depth__tile, ne_Frame_channels__tile, if_false, if_true, reduceIte]
theorem lk_Frame_tile {v0 v1 v2 v3 v4 : V} : (fl_Frame v0 v1 v2 v3 v4).lookup ("tile" : Str) = some v4 := by
  have h := lookup_putF "tile" "tile" v4 (fl_Frame v0 v1 v2 v3 v4)
  rw [put_Frame_tile, if_pos rfl] at h
  exact h
theorem ini_Frame {v0 v1 v2 v3 v4 : V} : putF "tile" v4 (putF "channels" v3 (putF "depth" v2 (putF "height" v1 (putF "width" v0 [])))) = fl_Frame v0 v1 v2 v3 v4 := by
  simp only [fl_Frame, putF, ne_Frame_width__height, ne_Frame_width__depth, ne_Frame_width__channels, ne_Frame_width__tile, ne_Frame_height__depth, ne_Frame_height__channels, ne_Frame_height__tile, ne_Frame_depth__channels, ne_Frame_depth__tile, ne_Frame_channels__tile, if_false, if_true, reduceIte]
theorem no_Frame_across {v0 v1 v2 v3 v4 : V} : (fl_Frame v0 v1 v2 v3 v4).lookup ("across" : Str) = none := by
  have q : ∀ (g : Str) (u : V) (r : List (Str × V)), ¬ g = "across" → List.lookup (Str.ofString "across") ((g, u) :: r) = List.lookup (Str.ofString "across") r := fun g u r h => by
    have hb : ((Str.ofString "across") == g) = false := beq_eq_false_iff_ne.mpr (fun z => h z.symm)
    simp only [List.lookup, hb]
  unfold fl_Frame
  rw [q _ _ _ (by rw [ne_Frame_width__across]; exact id), q _ _ _ (by rw [ne_Frame_height__across]; exact id), q _ _ _ (by rw [ne_Frame_depth__across]; exact id), q _ _ _ (by rw [ne_Frame_channels__across]; exact id), q _ _ _ (by rw [ne_Frame_tile__across]; exact id)]
  rfl
theorem no_Frame_down {v0 v1 v2 v3 v4 : V} : (fl_Frame v0 v1 v2 v3 v4).lookup ("down" : Str) = none := by
  have q : ∀ (g : Str) (u : V) (r : List (Str × V)), ¬ g = "down" → List.lookup (Str.ofString "down") ((g, u) :: r) = List.lookup (Str.ofString "down") r := fun g u r h => by
    have hb : ((Str.ofString "down") == g) = false := beq_eq_false_iff_ne.mpr (fun z => h z.symm)
    simp only [List.lookup, hb]
  unfold fl_Frame
  rw [q _ _ _ (by rw [ne_Frame_width__down]; exact id), q _ _ _ (by rw [ne_Frame_height__down]; exact id), q _ _ _ (by rw [ne_Frame_depth__down]; exact id), q _ _ _ (by rw [ne_Frame_channels__down]; exact id), q _ _ _ (by rw [ne_Frame_tile__down]; exact id)]
  rfl
theorem no_Frame_tiles {v0 v1 v2 v3 v4 : V} : (fl_Frame v0 v1 v2 v3 v4).lookup ("tiles" : Str) = none := by
  have q : ∀ (g : Str) (u : V) (r : List (Str × V)), ¬ g = "tiles" → List.lookup (Str.ofString "tiles") ((g, u) :: r) = List.lookup (Str.ofString "tiles") r := fun g u r h => by
    have hb : ((Str.ofString "tiles") == g) = false := beq_eq_false_iff_ne.mpr (fun z => h z.symm)
    simp only [List.lookup, hb]
  unfold fl_Frame
  rw [q _ _ _ (by rw [ne_Frame_width__tiles]; exact id), q _ _ _ (by rw [ne_Frame_height__tiles]; exact id), q _ _ _ (by rw [ne_Frame_depth__tiles]; exact id), q _ _ _ (by rw [ne_Frame_channels__tiles]; exact id), q _ _ _ (by rw [ne_Frame_tile__tiles]; exact id)]
  rfl
theorem no_Frame_pixels {v0 v1 v2 v3 v4 : V} : (fl_Frame v0 v1 v2 v3 v4).lookup ("pixels" : Str) = none := by
  have q : ∀ (g : Str) (u : V) (r : List (Str × V)), ¬ g = "pixels" → List.lookup (Str.ofString "pixels") ((g, u) :: r) = List.lookup (Str.ofString "pixels") r := fun g u r h => by
    have hb : ((Str.ofString "pixels") == g) = false := beq_eq_false_iff_ne.mpr (fun z => h z.symm)
    simp only [List.lookup, hb]
  unfold fl_Frame
  rw [q _ _ _ (by rw [ne_Frame_width__pixels]; exact id), q _ _ _ (by rw [ne_Frame_height__pixels]; exact id), q _ _ _ (by rw [ne_Frame_depth__pixels]; exact id), q _ _ _ (by rw [ne_Frame_channels__pixels]; exact id), q _ _ _ (by rw [ne_Frame_tile__pixels]; exact id)]
  rfl
theorem k4_Frame (T : Tx P K mg) {H : Hp} {x dx : Addr} {v0 v1 v2 v3 v4 : V} (h : H x = some (.ins T.a_Frame dx (fl_Frame v0 v1 v2 v3 v4))) : Nx.K4 K H x v0 v1 v2 v3 := ⟨_, dx, _, h, T.cl_Frame, ⟨T.na_Frame_width, T.na_Frame_height, T.na_Frame_depth, T.na_Frame_channels⟩, lk_Frame_width, lk_Frame_height, lk_Frame_depth, lk_Frame_channels⟩
/-- a Frame stands at x -/
noncomputable def Frm (C : Addr) (H : Hp) (x : Addr) (w h d c t : Nat) : Prop := ∃ dx, H x = some (.ins C dx (fl_Frame (.int (w : Int)) (.int (h : Int)) (.int (d : Int)) (.int (c : Int)) (.int (t : Int))))
theorem Frm.keep {C x : Addr} {H H' : Hp} {w h d c t : Nat} (f : Frm C H x w h d c t) (s : Same H H') : Frm C H' x w h d c t := by
  obtain ⟨dx, h1⟩ := f
  exact ⟨dx, s _ _ h1⟩

theorem scx_OutOfRange : Sx.SupScope ["self", "name"] ["self", "name"] (defScope s_OutOfRange___init__) := ⟨rfl, rfl, rfl, by decide +kernel, rfl, by decide +kernel, by decide +kernel, by decide +kernel, rfl, rfl⟩
theorem ok_OutOfRange___init__ (T : Tx P K mg) : FnOk P w K mg base CX0 1 T.x_OutOfRange.a T.x_OutOfRange.d ["self", "name"] (Sx.sp1 T.x_OutOfRange.C "name") := by
  refine Sx.fn_sup (k := 0) T.x_OutOfRange.o T.x_OutOfRange.s scx_OutOfRange (fun vs H Q E h => ?_) rfl rfl rfl rfl (fun _ => rfl) (fun _ => ⟨_, rfl⟩) (fun _ => rfl) (fun cda cc A outer s H vs Q E h => ?_)
  · obtain ⟨a, z, rfl, _⟩ := h; rfl
  obtain ⟨a, z, rfl, hz, ha, q⟩ := h
  have hs : sizeLine = 16777216 := sizeLine_eq
  refine ⟨_, _, a, [.str z], pa_cons (pe_joined (PJ.cons (pe_fmt (pv 1)) (PJ.cons pe_str PJ.nil))) pa_nil, pss_one (ps_ost (pv 0) (pv 1)), rfl, ha, ?_⟩
  have l1 : ∀ x y : Str, (x ++ y).length = x.length + y.length := fun x y => Str.length_append x y
  refine ⟨.str z, rfl, .inl ⟨z, rfl, by omega, z, rfl, by rw [l1]; show 0 + _ ≤ _; omega, _, rfl, by rw [l1, l1]; show 0 + _ + 16 ≤ _; omega, by show 1 ≤ 1000; decide, ha, ?_⟩⟩
  exact ⟨.str z, rfl, .ref a, rfl, a, _, rfl, T.x_OutOfRange.o, T.nf_OutOfRange_name, .inl ⟨ha, fun dx hd hne => q dx hd hne⟩⟩

set_option hygiene false
local macro_rules | `(tactic| walk_at "go1") => `(tactic| (first
  | refine Gx.fp (by assumption) T.cl_Picture T.na_Picture_width lk_Picture_width ?_
  | refine Gx.fp (by assumption) T.cl_Picture T.na_Picture_height lk_Picture_height ?_
  | refine Gx.fp (by assumption) T.cl_Picture T.na_Picture_depth lk_Picture_depth ?_
  | refine Gx.fp (by assumption) T.cl_Picture T.na_Picture_channels lk_Picture_channels ?_
  | refine Gx.fp (by assumption) T.cl_Picture T.na_Picture__rows lk_Picture__rows ?_
  | refine Gx.fp (by assumption) T.cl_Frame T.na_Frame_width lk_Frame_width ?_
  | refine Gx.fp (by assumption) T.cl_Frame T.na_Frame_height lk_Frame_height ?_
  | refine Gx.fp (by assumption) T.cl_Frame T.na_Frame_depth lk_Frame_depth ?_
  | refine Gx.fp (by assumption) T.cl_Frame T.na_Frame_channels lk_Frame_channels ?_
  | refine Gx.fp (by assumption) T.cl_Frame T.na_Frame_tile lk_Frame_tile ?_))
set_option hygiene true
noncomputable def sp_Picture_rows (C : Addr) : Sp := fun vs H Q _ => ∃ (x r : Addr) (w h d c : Nat) (f : Nat → List Int), vs = [.ref x] ∧ Pic C H x r w h d c f ∧ c ≤ 3 ∧ ∀ p H', H p = none → Same H H' → Pq.LN H H' p c f → Q (.ref p) H'

theorem sc_Picture_rows : FnScope ["self", "row"] ["self"] (defScope s_Picture_rows) := ⟨rfl, rfl, rfl, by decide +kernel, rfl, by decide +kernel, by decide +kernel⟩
theorem ok_Picture_rows (T : Tx P K mg) : FnOk P w K mg base CX0 1 T.Picture_rows.a T.Picture_rows.d ["self"] (sp_Picture_rows T.a_Picture) := by
  refine T.Picture_rows.f.ok sc_Picture_rows (fun vs H Q E h => ?_) (fun cdv A outer s H vs Q E hr h => ⟨_, pss_one (ps_ret (pe_lc (own := [("row", 1)]) (g := (gName 1)) (tt := tYes) rfl sc_Picture_rows.nd (pi_list (pe_fld (pv 0) rfl)) (blkOk_by (own := [("row", 1)]) (N := ["self", "row"]) (sc := defScope s_Picture_rows) (by decide +kernel)) (fun _ _ _ _ _ => (pg_name (i := 1) sc_Picture_rows.nd rfl (Or.inl rfl))) (fun _ _ _ _ _ => pts_nil) (fun _ _ _ _ _ => pe_callTy (Gx.c_listK (K := K) rfl) rfl T.n_list (by decide +kernel) (pa_cons (pv 1) pa_nil)))), ?_⟩)
  · obtain ⟨x, r, w, h, d, c, f, rfl, _⟩ := h
    rfl
  · skip
    obtain ⟨x, r, w, h, d, c, f, rfl, ⟨⟨dx, hx⟩, ll⟩, hc, q⟩ := h
    obtain ⟨xs, hv, hl, hall⟩ := ll.all
    walk_at "go"
    refine Gx.lp (SqL.of hv) ?_
    refine Pq.lcLN (K := K) walk_list (by omega) f (fun _ s => s.seq (SqL.of hv)) Gx.sameAt ?_ ?_
    · rintro i y H3 H3' R R0 hi s3 ⟨rfl, hy⟩ hr
      obtain ⟨b, rfl, hb⟩ := hall i y hy
      have hb := s3 _ _ hb
      walk_at "go"
      refine Gx.listL (SqL.of hb) fun p hp => ?_
      exact hr p _ hp (Gx.same_new hp) upd_same
    rw [hl]
    exact q

theorem cpn_Picture_rows {C x r : Addr} {w h d c : Nat} {f : Nat → List Int} {H : Hp} {Q : VK} {E : XK} (p : Pic C H x r w h d c f) (hc : c ≤ 3) (q : ∀ p H', H p = none → Same H H' → Pq.LN H H' p c f → Q (.ref p) H') : Gx.CP (sp_Picture_rows C) [.ref x] [] H Q E := ⟨x, r, w, h, d, c, f, rfl, p, hc, q⟩
theorem cp_Picture_rows {C x r : Addr} {w h d c : Nat} {f : Nat → List Int} {H : Hp} {Q : VK} {E : XK} (p : Pic C H x r w h d c f) (hc : c ≤ 3) (q : ∀ p H', H p = none → Same H H' → Gx.LL H' p c f → Q (.ref p) H') : Gx.CP (sp_Picture_rows C) [.ref x] [] H Q E := cpn_Picture_rows p hc fun p H' n s l => q p H' n s l.ll

noncomputable def sp_same_kind (K : PySem.W.Frag) : Sp := fun vs H Q _ => ∃ (x y : Addr) (w h d c w' h' d' c' : Int), vs = [.ref x, .ref y] ∧ Nx.K4 K H x (.int w) (.int h) (.int d) (.int c) ∧ Nx.K4 K H y (.int w') (.int h') (.int d') (.int c') ∧ Q (.bl (decide (w = w' ∧ h = h' ∧ d = d' ∧ c = c'))) H

theorem sc_same_kind : FnScope ["one", "other"] ["one", "other"] (defScope s_same_kind) := ⟨rfl, rfl, rfl, by decide +kernel, rfl, by decide +kernel, by decide +kernel⟩
theorem ok_same_kind (T : Tx P K mg) : FnOk P w K mg base CX0 1 T.same_kind.a T.same_kind.d ["one", "other"] (sp_same_kind K) := by
  refine T.same_kind.f.ok sc_same_kind (fun vs H Q E h => ?_) (fun cdv A outer s H vs Q E hr h => ⟨_, pss_one (ps_ret (pe_and (pe_cmpR op_eq (pe_fld (pv 0) rfl) (pe_fld (pv 1) rfl) (nomark _)) (pe_and (pe_cmpR op_eq (pe_fld (pv 0) rfl) (pe_fld (pv 1) rfl) (nomark _)) (pe_and (pe_cmpR op_eq (pe_fld (pv 0) rfl) (pe_fld (pv 1) rfl) (nomark _)) (pe_one (pe_cmpR op_eq (pe_fld (pv 0) rfl) (pe_fld (pv 1) rfl) (nomark _))))))), ?_⟩)
  · obtain ⟨x, y, w, h, d, c, w', h', d', c', rfl, _⟩ := h
    rfl
  · skip
    obtain ⟨x, y, w, h, d, c, w', h', d', c', rfl, ⟨C, dx, fs, hx, cl, ⟨n1, n2, n3, n4⟩, l1, l2, l3, l4⟩, ⟨C', dy, gs, hy, cl', ⟨m1, m2, m3, m4⟩, g1, g2, g3, g4⟩, q⟩ := h
    walk_at "run"
    refine Gx.fp hx cl n1 l1 ?_
    walk_at "run"
    refine Gx.fp hy cl' m1 g1 ?_
    walk_at "run"
    refine Gx.if_b (fun e1 => ?_) (fun e1 => ?_)
    rotate_left
    · have e1 := of_decide_eq_false e1
      rw [decide_eq_false (fun k => e1 k.1)] at q
      walk_at "run"
      exact q
    have e1 := of_decide_eq_true e1
    walk_at "run"
    refine Gx.fp hx cl n2 l2 ?_
    walk_at "run"
    refine Gx.fp hy cl' m2 g2 ?_
    walk_at "run"
    refine Gx.if_b (fun e2 => ?_) (fun e2 => ?_)
    rotate_left
    · have e2 := of_decide_eq_false e2
      rw [decide_eq_false (fun k => e2 k.2.1)] at q
      walk_at "run"
      exact q
    have e2 := of_decide_eq_true e2
    walk_at "run"
    refine Gx.fp hx cl n3 l3 ?_
    walk_at "run"
    refine Gx.fp hy cl' m3 g3 ?_
    walk_at "run"
    refine Gx.if_b (fun e3 => ?_) (fun e3 => ?_)
    rotate_left
    · have e3 := of_decide_eq_false e3
      rw [decide_eq_false (fun k => e3 k.2.2.1)] at q
      walk_at "run"
      exact q
    have e3 := of_decide_eq_true e3
    walk_at "run"
    refine Gx.fp hx cl n4 l4 ?_
    walk_at "run"
    refine Gx.fp hy cl' m4 g4 ?_
    walk_at "run"
    rw [show decide (w = w' ∧ h = h' ∧ d = d' ∧ c = c') = decide (c = c') from decide_eq_decide.mpr ⟨fun k => k.2.2.2, fun k => ⟨e1, e2, e3, k⟩⟩] at q
    exact q

theorem cp_same_kind {K : PySem.W.Frag} {x y : Addr} {w h d c w' h' d' c' : Int} {H : Hp} {Q : VK} {E : XK} (hx : Nx.K4 K H x (.int w) (.int h) (.int d) (.int c)) (hy : Nx.K4 K H y (.int w') (.int h') (.int d') (.int c')) (q : Q (.bl (decide (w = w' ∧ h = h' ∧ d = d' ∧ c = c'))) H) : Gx.CP (sp_same_kind K) [.ref x, .ref y] [] H Q E := ⟨x, y, w, h, d, c, w', h', d', c', rfl, hx, hy, q⟩

noncomputable def sp_Picture_same (K : PySem.W.Frag) (C : Addr) : Sp := fun vs H Q _ => ∃ (x r y r' : Addr) (w h d c w' h' d' c' : Nat) (f g : List (List Int)), vs = [.ref x, .ref y] ∧ Pic C H x r w h d c (fun j => f.getD j []) ∧ Pic C H y r' w' h' d' c' (fun j => g.getD j []) ∧ f.length = c ∧ g.length = c' ∧ c' ≤ 3 ∧
  ∀ H', Same H H' → Q (.bl (decide ((w = w' ∧ h = h' ∧ d = d' ∧ c = c') ∧ f = g))) H'

theorem sc_Picture_same : FnScope ["self", "other"] ["self", "other"] (defScope s_Picture_same) := ⟨rfl, rfl, rfl, by decide +kernel, rfl, by decide +kernel, by decide +kernel⟩
theorem ok_Picture_same (T : Tx P K mg) : FnOk P w K mg base CX0 2 T.Picture_same.a T.Picture_same.d ["self", "other"] (sp_Picture_same K T.a_Picture) := by
  refine T.Picture_same.f.ok sc_Picture_same (fun vs H Q E h => ?_) (fun cdv A outer s H vs Q E hr h => ⟨_, pss_one (ps_ret (pe_and (pe_call (ok_same_kind T) (hr.mono (by decide)) rfl T.same_kind.g T.same_kind.f.kp T.same_kind.b .nil pass0 (pa_cons (pv 0) (pa_cons (pv 1) pa_nil))) (pe_one (pe_cmpR (op_eqD hr.units) (pe_fld (pv 0) rfl) (pe_meth0 (pv 1) T.cl_Picture T.Picture_rows.m (ok_Picture_rows T) (hr.mono (by decide)) T.Picture_rows.b .nil pass0) (nomark _))))), ?_⟩)
  · obtain ⟨x, r, y, r', w, h, d, c, w', h', d', c', f, g, rfl, _⟩ := h
    rfl
  · skip
    obtain ⟨x, r, y, r', w, h, d, c, w', h', d', c', f, g, rfl, P1, P2, hf, hg, hc, q⟩ := h
    obtain ⟨⟨dx, hx⟩, l1⟩ := id P1
    obtain ⟨⟨dy, hy⟩, l2⟩ := id P2
    walk_at "run"
    refine cp_same_kind (k4_Picture T hx) (k4_Picture T hy) ?_
    walk_at "run"
    refine Gx.if_d (fun e => ?_) (fun e => ?_)
    · walk_at "run"
      refine Gx.mp hy no_Picture_rows ?_
      walk_at "run"
      refine cp_Picture_rows P2 hc fun p H1 n1 s1 h1 => ?_
      refine Pq.eqRW (Pq.RW.of (l1.keep s1) hf fun _ _ => rfl) (Pq.RW.of h1 hg fun _ _ => rfl) ?_
      have := q H1 s1
      rw [show decide ((w = w' ∧ h = h' ∧ d = d' ∧ c = c') ∧ f = g) = decide (f = g) from decide_eq_decide.mpr ⟨fun k => k.2, fun k => ⟨by omega, k⟩⟩] at this
      exact this
    · have := q H (Same.refl _)
      rw [decide_eq_false (fun k => e (by omega))] at this
      exact this

theorem cp_Picture_same {K : PySem.W.Frag} {C x r y r' : Addr} {w h d c w' h' d' c' : Nat} {f g : List (List Int)} {H : Hp} {Q : VK} {E : XK} (p1 : Pic C H x r w h d c (fun j => f.getD j [])) (p2 : Pic C H y r' w' h' d' c' (fun j => g.getD j [])) (hf : f.length = c) (hg : g.length = c') (hc : c' ≤ 3) (q : ∀ H', Same H H' → Q (.bl (decide ((w = w' ∧ h = h' ∧ d = d' ∧ c = c') ∧ f = g))) H') :
    Gx.CP (sp_Picture_same K C) [.ref x, .ref y] [] H Q E := ⟨x, r, y, r', w, h, d, c, w', h', d', c', f, g, rfl, p1, p2, hf, hg, hc, q⟩

/-- a number against its bounds -/
noncomputable def sp_check_range (C : Addr) : Sp := fun vs H Q E => ∃ (z : Str) (v l m : Int), vs = [.str z, .int v, .int l, .int m] ∧ z.length ≤ 1000 ∧ (l ≤ v → v ≤ m → Q .non H) ∧ (¬ (l ≤ v ∧ v ≤ m) → Sx.Err C H z E)

theorem sc_check_range : FnScope ["name", "value", "least", "most"] ["name", "value", "least", "most"] (defScope s_check_range) := ⟨rfl, rfl, rfl, by decide +kernel, rfl, by decide +kernel, by decide +kernel⟩
theorem ok_check_range (T : Tx P K mg) : FnOk P w K mg base (L2.CX P w) 3 T.check_range.a T.check_range.d ["name", "value", "least", "most"] (sp_check_range T.x_OutOfRange.C) := by
  refine T.check_range.f.okX sc_check_range (fun vs H Q E h => ?_) (fun cdv A outer s H vs Q E hr h => ⟨_, pss_one (ps_if (PW.pt (pw_or (pt_cmpR op_lt (pv 1) (pv 2) (nomark _)) (pw_or1 (pt_cmpR op_gt (pv 1) (pv 3) (nomark _))))) (pss_one (ps_raise rfl (takes_of rfl rfl rfl rfl) (pmk_oex T.x_OutOfRange.o T.x_OutOfRange.i T.x_OutOfRange.t (ok_OutOfRange___init__ T) (hr.mono (by decide)) T.x_OutOfRange.b .nil pass0 rfl T.x_OutOfRange.g (pa_cons (pv 0) pa_nil)))) (pss_nil)), ?_⟩)
  · obtain ⟨z, v, l, m, rfl, _⟩ := h
    rfl
  · skip
    obtain ⟨z, v, l, m, rfl, hz, q, qe⟩ := h
    walk_at "go"
    refine Gx.if_d (fun h => ?_) (fun h => ?_)
    · walk_at "go"
      exact Sx.mkO hz (qe (by omega)).now fun R h => by walk_at "go"; exact h
    walk_at "go"
    refine Gx.if_d (fun h2 => ?_) (fun h2 => ?_)
    · walk_at "go"
      exact Sx.mkO hz (qe (by omega)).now fun R h => by walk_at "go"; exact h
    walk_at "go"
    exact q (by omega) (by omega)

theorem cs_check_range {C : Addr} {z : Str} {v l m : Int} {H : Hp} {Q : VK} {E : XK} (q : l ≤ v → v ≤ m → Q .non H) (qe : ¬ (l ≤ v ∧ v ≤ m) → Sx.Err C H z E) (hz : z.length ≤ 1000 := by decide) : Sx.CS (sp_check_range C) [.str z, .int v, .int l, .int m] H Q E := ⟨z, v, l, m, rfl, hz, q, qe⟩
noncomputable def sp_check_values (K : PySem.W.Frag) (C : Addr) : Sp := fun vs H Q E => ∃ (v : Addr) (w h d c : Nat) (rows : List (List Int)), vs = [.int (w : Int), .int (h : Int), .int (d : Int), .int (c : Int), .ref v] ∧ Pq.RW H v rows ∧ w ≤ 64 ∧ h ≤ 64 ∧ d ≤ 8 ∧ (Pq.rowsOk (w * h) d c rows → Q .non H) ∧ (¬ Pq.rowsOk (w * h) d c rows → Sx.Err C H "values" E)

theorem sc_check_values : FnScope ["width", "height", "depth", "channels", "values", "row", "value"] ["width", "height", "depth", "channels", "values"] (defScope s_check_values) := ⟨rfl, rfl, rfl, by decide +kernel, rfl, by decide +kernel, by decide +kernel⟩
theorem ok_check_values (T : Tx P K mg) : FnOk P w K mg base (L2.CX P w) 4 T.check_values.a T.check_values.d ["width", "height", "depth", "channels", "values"] (sp_check_values K T.x_OutOfRange.C) := by
  refine T.check_values.f.okX sc_check_values (fun vs H Q E h => ?_) (fun cdv A outer s H vs Q E hr h => ⟨_, pss_cons (ps_if (pt_cmpR op_ne (pe_callB (Gx.c_lenK (K := K) rfl) rfl T.n_len (by decide +kernel) (pa_cons (pv 4) pa_nil)) (pv 3) (nomark _)) (pss_one (ps_raise rfl (takes_of rfl rfl rfl rfl) (pmk_oex T.x_OutOfRange.o T.x_OutOfRange.i T.x_OutOfRange.t (ok_OutOfRange___init__ T) (hr.mono (by decide)) T.x_OutOfRange.b .nil pass0 rfl T.x_OutOfRange.g (pa_cons (pe_str) pa_nil)))) (pss_nil))
      (pss_one (ps_for (passes_of rfl) rfl (pi_list (pv 4)) (pg_name (i := 5) sc_check_values.nd rfl (Or.inl rfl))
      (pss_cons (ps_if (pt_cmpR op_ne (pe_callB (Gx.c_lenK (K := K) rfl) rfl T.n_len (by decide +kernel) (pa_cons (pv 5) pa_nil)) (pe_op op_mul (pv 0) (pv 1)) (nomark _)) (pss_one (ps_raise rfl (takes_of rfl rfl rfl rfl) (pmk_oex T.x_OutOfRange.o T.x_OutOfRange.i T.x_OutOfRange.t (ok_OutOfRange___init__ T) (hr.mono (by decide)) T.x_OutOfRange.b .nil pass0 rfl T.x_OutOfRange.g (pa_cons (pe_str) pa_nil)))) (pss_nil))
      (pss_one (ps_for (passes_of rfl) rfl (pi_list (pv 5)) (pg_name (i := 6) sc_check_values.nd rfl (Or.inl rfl))
      (pss_one (ps_expr (pe_callS (ok_check_range T) (hr.mono (by decide)) rfl T.check_range.g T.check_range.f.kp T.check_range.b (fun σ => passAt (takes_of rfl rfl rfl rfl) σ) (pa_cons (pe_str) (pa_cons (pv 6) (pa_cons (pe_int) (pa_cons (pe_op op_sub (pe_op op_shl (pe_int) (pv 2)) (pe_int)) pa_nil)))))))))))), ?_⟩)
  · obtain ⟨v, w, h, d, c, rows, rfl, _⟩ := h
    rfl
  · skip
    obtain ⟨v, w, h, d, c, rows, rfl, hv, hw, hh, hd, q, qe⟩ := h
    obtain ⟨xs, r1, r2, r3⟩ := hv.all
    walk_at "run"
    refine Gx.lenL (SqL.of r1) ?_
    rw [r2]
    walk_at "run"
    refine Gx.if_dn (fun e => ?_) (fun e => ?_)
    · walk_at "run"
      exact Sx.mkO (by decide) (qe fun k => e (by have := k.1; omega)).now fun R h => by walk_at "run"; exact h
    walk_at "run"
    refine Gx.lp (SqL.of r1) ?_
    refine Gx.fw (walk_list (xs := xs)) (fun i σ' H' => H' = H ∧ (∀ j, j < i → j < rows.length → Pq.rowOk (w * h) d (rows.getD j [])) ∧ ∃ v1 v2 : Option V, σ' = [some (.int (w : Int)), some (.int (h : Int)), some (.int (d : Int)), some (.int (c : Int)), some (.ref v), v1, v2]) ⟨rfl, (fun j h => absurd h (Nat.not_lt_zero _)), none, none, rfl⟩ (fun i σ' H' _ hh => by rw [hh.1]; exact SqL.of r1) ?_ ?_
    · rintro i y σ' H2 H2' hi ⟨rfl, hj, v1, v2, rfl⟩ ⟨rfl, hy⟩
      obtain ⟨ra, rfl, hi2, hra⟩ := r3 i y hy
      have bad : ¬ Pq.rowOk (w * h) d (rows.getD i []) → Sx.Err T.x_OutOfRange.C H2' "values" E := fun n => qe fun k => n (k.2 _ (Pq.rowsAt hi2))
      generalize hrow : rows.getD i [] = row at hra bad
      walk_at "run"
      refine Gx.lenL (SqL.of hra) ?_
      rw [List.length_map]
      walk_at "run"
      rw [← Int.natCast_mul]
      refine Gx.if_dn (fun e2 => ?_) (fun e2 => ?_)
      · walk_at "run"
        exact Sx.mkO (by decide) (bad fun k => e2 (by have := k.1; omega)).now fun R h => by walk_at "run"; exact h
      walk_at "run"
      refine Gx.lp (SqL.of hra) ?_
      refine Gx.fw (walk_list (xs := row.map V.int)) (fun k σ' H' => H' = H2' ∧ (∀ j, j < k → j < row.length → 0 ≤ row.getD j 0 ∧ row.getD j 0 < ((2 ^ d : Nat) : Int)) ∧ ∃ v2 : Option V, σ' = [some (.int (w : Int)), some (.int (h : Int)), some (.int (d : Int)), some (.int (c : Int)), some (.ref v), some (.ref ra), v2]) ⟨rfl, (fun j h => absurd h (Nat.not_lt_zero _)), _, rfl⟩ (fun i σ' H' _ hh => by rw [hh.1]; exact SqL.of hra) ?_ ?_
      · rintro k y σ' H3 H3' hk ⟨rfl, hall, v2, rfl⟩ ⟨rfl, hy⟩
        rw [List.length_map] at hk
        rw [List.getElem?_map, List.getElem?_eq_getElem hk] at hy
        have hy := Option.some.inj hy
        subst hy
        have hg : row.getD k 0 = row[k] := by rw [List.getD_eq_getElem?_getD, List.getElem?_eq_getElem hk]; rfl
        walk_at "run"
        rw [Gy.pw]
        refine cs_check_range (fun b1 b2 => ?_) (fun n => bad fun kk => n (by have := kk.2 _ (List.getElem_mem hk); omega))
        walk_at "run"
        refine ⟨rfl, fun j h1 h2 => ?_, _, rfl⟩
        rcases Nat.lt_or_ge j k with z | z
        · exact hall j z h2
        · rw [show j = k by omega, hg]; omega
      · rintro σ' H3 ⟨rfl, hall, v2, rfl⟩
        rw [List.length_map] at hall
        walk_at "run"
        refine ⟨rfl, fun j h1 h2 => ?_, _, _, rfl⟩
        rcases Nat.lt_or_ge j i with z | z
        · exact hj j z h2
        · rw [show j = i by omega, hrow]
          refine ⟨by omega, fun z hz => ?_⟩
          obtain ⟨m, hm, rfl⟩ := List.getElem_of_mem hz
          have := hall m hm hm
          rw [List.getD_eq_getElem?_getD, List.getElem?_eq_getElem hm] at this
          exact this
    rintro σ' H2 ⟨rfl, hj, v1, v2, rfl⟩
    walk_at "run"
    refine q ⟨by omega, fun r hr => ?_⟩
    obtain ⟨j, hj2, rfl⟩ := List.getElem_of_mem hr
    have := hj j (by omega) hj2
    rw [List.getD_eq_getElem?_getD, List.getElem?_eq_getElem hj2] at this
    exact this

theorem cs_check_values {K : PySem.W.Frag} {C v : Addr} {w h d c : Nat} {rows : List (List Int)} {H : Hp} {Q : VK} {E : XK} (hv : Pq.RW H v rows) (hw : w ≤ 64) (hh : h ≤ 64) (hd : d ≤ 8) (q : Pq.rowsOk (w * h) d c rows → Q .non H) (qe : ¬ Pq.rowsOk (w * h) d c rows → Sx.Err C H "values" E) : Sx.CS (sp_check_values K C) [.int (w : Int), .int (h : Int), .int (d : Int), .int (c : Int), .ref v] H Q E := ⟨v, w, h, d, c, rows, rfl, hv, hw, hh, hd, q, qe⟩

noncomputable def sp_check_size (C : Addr) : Sp := fun vs H Q E => ∃ (w h c : Int), vs = [.int w, .int h, .int c] ∧ (1 ≤ w ∧ w ≤ 64) ∧ (1 ≤ h ∧ h ≤ 64) ∧ (1 ≤ c ∧ c ≤ 3) ∧ (w * h * c ≤ 3072 → Q .non H) ∧ (w * h * c > 3072 → Sx.Err C H "size" E)

theorem sc_check_size : FnScope ["width", "height", "channels"] ["width", "height", "channels"] (defScope s_check_size) := ⟨rfl, rfl, rfl, by decide +kernel, rfl, by decide +kernel, by decide +kernel⟩
theorem ok_check_size (T : Tx P K mg) : FnOk P w K mg base (L2.CX P w) 3 T.check_size.a T.check_size.d ["width", "height", "channels"] (sp_check_size T.x_OutOfRange.C) := by
  refine T.check_size.f.okX sc_check_size (fun vs H Q E h => ?_) (fun cdv A outer s H vs Q E hr h => ⟨_, pss_one (ps_if (pt_cmpR op_gt (pe_op op_mul (pe_op op_mul (pv 0) (pv 1)) (pv 2)) (pe_glob (v := .int 3072) rfl T.c_VALUES_MOST ⟨_, rfl⟩) (nomark _)) (pss_one (ps_raise rfl (takes_of rfl rfl rfl rfl) (pmk_oex T.x_OutOfRange.o T.x_OutOfRange.i T.x_OutOfRange.t (ok_OutOfRange___init__ T) (hr.mono (by decide)) T.x_OutOfRange.b .nil pass0 rfl T.x_OutOfRange.g (pa_cons (pe_str) pa_nil)))) (pss_nil)), ?_⟩)
  · obtain ⟨w, h, c, rfl, _⟩ := h
    rfl
  · skip
    obtain ⟨w, h, c, rfl, hw, hh, hc, q, qe⟩ := h
    walk_at "go"
    refine Gx.ic (.inr (by omega)) ?_
    walk_at "go"
    refine Gx.ic (.inr (by omega)) ?_
    walk_at "go"
    refine Gx.if_d (fun a => ?_) (fun a => ?_)
    · walk_at "go"
      exact Sx.mkO (by decide) (qe (by omega)).now fun R h => by walk_at "go"; exact h
    walk_at "go"
    exact q (by omega)

theorem cs_check_size {C : Addr} {w h c : Int} {H : Hp} {Q : VK} {E : XK} (hw : 1 ≤ w ∧ w ≤ 64) (hh : 1 ≤ h ∧ h ≤ 64) (hc : 1 ≤ c ∧ c ≤ 3) (q : w * h * c ≤ 3072 → Q .non H) (qe : w * h * c > 3072 → Sx.Err C H "size" E) : Sx.CS (sp_check_size C) [.int w, .int h, .int c] H Q E := ⟨w, h, c, rfl, hw, hh, hc, q, qe⟩

noncomputable def sp_check_kind (C : Addr) : Sp := fun vs H Q E => ∃ (w h d c : Int), vs = [.int w, .int h, .int d, .int c] ∧ (Sx.kindBad w h d c = none → ∀ H', Same H H' → Q .non H') ∧ (∀ z, Sx.kindBad w h d c = some z → Sx.Err C H z E)

theorem sc_check_kind : FnScope ["width", "height", "depth", "channels"] ["width", "height", "depth", "channels"] (defScope s_check_kind) := ⟨rfl, rfl, rfl, by decide +kernel, rfl, by decide +kernel, by decide +kernel⟩
theorem ok_check_kind (T : Tx P K mg) : FnOk P w K mg base (L2.CX P w) 4 T.check_kind.a T.check_kind.d ["width", "height", "depth", "channels"] (sp_check_kind T.x_OutOfRange.C) := by
  refine T.check_kind.f.okX sc_check_kind (fun vs H Q E h => ?_) (fun cdv A outer s H vs Q E hr h => ⟨_, pss_cons (ps_expr (pe_callS (ok_check_range T) (hr.mono (by decide)) rfl T.check_range.g T.check_range.f.kp T.check_range.b (fun σ => passAt (takes_of rfl rfl rfl rfl) σ) (pa_cons (pe_str) (pa_cons (pv 0) (pa_cons (pe_int) (pa_cons (pe_glob (v := .int 64) rfl T.c_SIDE_MOST ⟨_, rfl⟩) pa_nil))))))
      (pss_cons (ps_expr (pe_callS (ok_check_range T) (hr.mono (by decide)) rfl T.check_range.g T.check_range.f.kp T.check_range.b (fun σ => passAt (takes_of rfl rfl rfl rfl) σ) (pa_cons (pe_str) (pa_cons (pv 1) (pa_cons (pe_int) (pa_cons (pe_glob (v := .int 64) rfl T.c_SIDE_MOST ⟨_, rfl⟩) pa_nil))))))
      (pss_cons (ps_expr (pe_callS (ok_check_range T) (hr.mono (by decide)) rfl T.check_range.g T.check_range.f.kp T.check_range.b (fun σ => passAt (takes_of rfl rfl rfl rfl) σ) (pa_cons (pe_str) (pa_cons (pv 2) (pa_cons (pe_int) (pa_cons (pe_glob (v := .int 8) rfl T.c_DEPTH_MOST ⟨_, rfl⟩) pa_nil))))))
      (pss_one (ps_if (pt_cmpR op_notIn_seq (pv 3) (pe_tup (pa_cons (pe_int) (pa_cons (pe_int) pa_nil))) (by rfl)) (pss_one (ps_raise rfl (takes_of rfl rfl rfl rfl) (pmk_oex T.x_OutOfRange.o T.x_OutOfRange.i T.x_OutOfRange.t (ok_OutOfRange___init__ T) (hr.mono (by decide)) T.x_OutOfRange.b .nil pass0 rfl T.x_OutOfRange.g (pa_cons (pe_str) pa_nil)))) (pss_nil))))), ?_⟩)
  · obtain ⟨w, h, d, c, rfl, _⟩ := h
    rfl
  · skip
    obtain ⟨w, h, d, c, rfl, q, qe⟩ := h
    unfold Sx.kindBad at q qe
    walk_at "go"
    refine cs_check_range (fun a1 a2 => ?_) (fun a => qe _ (if_pos a))
    rw [if_neg (not_not_intro ⟨a1, a2⟩)] at q qe
    walk_at "go"
    refine cs_check_range (fun b1 b2 => ?_) (fun a => qe _ (if_pos a))
    rw [if_neg (not_not_intro ⟨b1, b2⟩)] at q qe
    walk_at "go"
    refine cs_check_range (fun c1 c2 => ?_) (fun a => qe _ (if_pos a))
    rw [if_neg (not_not_intro ⟨c1, c2⟩)] at q qe
    walk_at "go"
    refine Gx.tupP (by show 2 ≤ sizeLine; decide) fun p hp => ?_
    have s1 := Gx.same_new (o := .tup [.int 1, .int 3]) hp
    walk_at "go"
    refine Gx.inT (SqT.of upd_same) rfl ?_
    walk_at "go"
    have e : inV (.int c) [.int 1, .int 3] = decide (c = 1 ∨ c = 3) := by
      by_cases hc : c = 1 ∨ c = 3
      · rw [decide_eq_true hc]
        rcases hc with e | e <;> subst e <;> decide
      · rw [decide_eq_false hc]
        exact Gx.notin_ints [1, 3] (fun y hy e => hc (by simp at hy; omega))
    by_cases hc : c = 1 ∨ c = 3
    · rw [if_neg (not_not_intro hc)] at q
      refine Gx.if_n (by rw [e, decide_eq_true hc]; rfl) ?_
      walk_at "go"
      exact q rfl _ s1
    · rw [if_pos hc] at qe
      refine Gx.if_y (by rw [e, decide_eq_false hc]; rfl) ?_
      walk_at "go"
      exact Sx.mkO (by decide) ((qe _ rfl).mono s1).now fun R h => by walk_at "go"; exact h

theorem cs_check_kind {C : Addr} {w h d c : Int} {H : Hp} {Q : VK} {E : XK} (q : Sx.kindBad w h d c = none → ∀ H', Same H H' → Q .non H') (qe : ∀ z, Sx.kindBad w h d c = some z → Sx.Err C H z E) : Sx.CS (sp_check_kind C) [.int w, .int h, .int d, .int c] H Q E := ⟨w, h, d, c, rfl, q, qe⟩

noncomputable def sp_Picture_init (K : PySem.W.Frag) (CE C : Addr) : Sp := fun vs H Q E => ∃ (H0 : Hp) (x dx v : Addr) (w h d c : Int) (rows : List (List Int)), vs = [.ref x, .int w, .int h, .int d, .int c, .ref v] ∧ H x = some (.ins C dx []) ∧ Same H0 H ∧ H0 x = none ∧ Pq.RW H0 v rows ∧ rows.length ≤ 1000 ∧
  (Pq.pictBad w h d c rows = none → ∀ (r : Addr) (H' : Hp), Same H0 H' → H0 r = none → Pic C H' x r w.toNat h.toNat d.toNat c.toNat (fun j => rows.getD j []) → Pq.LN H0 H' r c.toNat (fun j => rows.getD j []) → Q .non H') ∧ (∀ z, Pq.pictBad w h d c rows = some z → Sx.Err CE H0 z E)

theorem sc_Picture___init__ : FnScope ["self", "width", "height", "depth", "channels", "values", "row"] ["self", "width", "height", "depth", "channels", "values"] (defScope s_Picture___init__) := ⟨rfl, rfl, rfl, by decide +kernel, rfl, by decide +kernel, by decide +kernel⟩
theorem ok_Picture___init__ (T : Tx P K mg) : FnOk P w K mg base (L2.CX P w) 5 T.Picture___init__.a T.Picture___init__.d ["self", "width", "height", "depth", "channels", "values"] (sp_Picture_init K T.x_OutOfRange.C T.a_Picture) := by
  refine T.Picture___init__.f.okX sc_Picture___init__ (fun vs H Q E h => ?_) (fun cdv A outer s H vs Q E hr h => ⟨_, pss_cons (ps_expr (pe_callS (ok_check_kind T) (hr.mono (by decide)) rfl T.check_kind.g T.check_kind.f.kp T.check_kind.b (fun σ => passAt (takes_of rfl rfl rfl rfl) σ) (pa_cons (pv 1) (pa_cons (pv 2) (pa_cons (pv 3) (pa_cons (pv 4) pa_nil))))))
      (pss_cons (ps_expr (pe_callS (ok_check_size T) (hr.mono (by decide)) rfl T.check_size.g T.check_size.f.kp T.check_size.b (fun σ => passAt (takes_of rfl rfl rfl rfl) σ) (pa_cons (pv 1) (pa_cons (pv 2) (pa_cons (pv 4) pa_nil)))))
      (pss_cons (ps_expr (pe_callS (ok_check_values T) (hr.mono (by decide)) rfl T.check_values.g T.check_values.f.kp T.check_values.b (fun σ => passAt (takes_of rfl rfl rfl rfl) σ) (pa_cons (pv 1) (pa_cons (pv 2) (pa_cons (pv 3) (pa_cons (pv 4) (pa_cons (pv 5) pa_nil)))))))
      (pss_cons (ps_fld (pv 0) (pv 1) rfl)
      (pss_cons (ps_fld (pv 0) (pv 2) rfl)
      (pss_cons (ps_fld (pv 0) (pv 3) rfl)
      (pss_cons (ps_fld (pv 0) (pv 4) rfl)
      (pss_one (ps_fld (pv 0) (pe_lc (own := [("row", 6)]) (g := (gName 6)) (tt := tYes) rfl sc_Picture___init__.nd (pi_list (pv 5)) (blkOk_by (own := [("row", 6)]) (N := ["self", "width", "height", "depth", "channels", "values", "row"]) (sc := defScope s_Picture___init__) (by decide +kernel)) (fun _ _ _ _ _ => (pg_name (i := 6) sc_Picture___init__.nd rfl (Or.inl rfl))) (fun _ _ _ _ _ => pts_nil) (fun _ _ _ _ _ => pe_callTy (Gx.c_listK (K := K) rfl) rfl T.n_list (by decide +kernel) (pa_cons (pv 6) pa_nil))) rfl)))))))), ?_⟩)
  · obtain ⟨H0, x, dx, v, w, h, d, c, rows, rfl, _⟩ := h
    rfl
  · skip
    obtain ⟨H0, x, dx, v, w, h, d, c, rows, rfl, hx, s0, h0, hv, hlen, q, qe⟩ := h
    unfold Pq.pictBad at q qe
    walk_at "run"
    refine cs_check_kind (fun hk H1 s1 => ?_) (fun z e => (qe z (by rw [e])).mono s0)
    rw [hk] at q qe
    dsimp only at q qe
    obtain ⟨k1, k2, k3, k4⟩ := Sx.kindBad_none.mp hk
    have hx := s1 _ _ hx
    have s0 := s0.trans s1
    walk_at "run"
    refine cs_check_size k1 k2 (by omega) (fun a => ?_) (fun a => (qe _ (if_pos a)).mono s0)
    rw [if_neg (by omega)] at q qe
    obtain ⟨w, rfl⟩ : ∃ n : Nat, w = n := ⟨w.toNat, by omega⟩
    obtain ⟨h, rfl⟩ : ∃ n : Nat, h = n := ⟨h.toNat, by omega⟩
    obtain ⟨d, rfl⟩ : ∃ n : Nat, d = n := ⟨d.toNat, by omega⟩
    obtain ⟨c, rfl⟩ : ∃ n : Nat, c = n := ⟨c.toNat, by omega⟩
    rw [← Int.natCast_mul, Int.toNat_natCast, Int.toNat_natCast, Int.toNat_natCast] at q qe
    walk_at "run"
    refine cs_check_values (hv.keep s0) (by omega) (by omega) (by omega) (fun ok => ?_) (fun bad => (qe _ (if_neg bad)).mono s0)
    rw [if_pos ok] at q
    clear qe
    walk_at "run"
    refine Gx.sfp hx T.cl_Picture T.na_Picture_width (by walk_at "few") rfl ?_
    walk_at "run"
    refine Gx.sfp upd_same T.cl_Picture T.na_Picture_height (by walk_at "few") rfl ?_
    walk_at "run"
    refine Gx.sfp upd_same T.cl_Picture T.na_Picture_depth (by walk_at "few") rfl ?_
    walk_at "run"
    refine Gx.sfp upd_same T.cl_Picture T.na_Picture_channels (by walk_at "few") rfl ?_
    rw [upd_upd, upd_upd, upd_upd]
    have s2 : Same H0 (upd H1 x (.ins T.a_Picture dx (putF "channels" (.int (c : Int)) (putF "depth" (.int (d : Int)) (putF "height" (.int (h : Int)) (putF "width" (.int (w : Int)) [])))))) := Gx.same_up h0 s0
    have hx2 : upd H1 x (.ins T.a_Picture dx (putF "channels" (.int (c : Int)) (putF "depth" (.int (d : Int)) (putF "height" (.int (h : Int)) (putF "width" (.int (w : Int)) []))))) x = some (.ins T.a_Picture dx (putF "channels" (.int (c : Int)) (putF "depth" (.int (d : Int)) (putF "height" (.int (h : Int)) (putF "width" (.int (w : Int)) []))))) := upd_same
    generalize upd H1 x (.ins T.a_Picture dx (putF "channels" (.int (c : Int)) (putF "depth" (.int (d : Int)) (putF "height" (.int (h : Int)) (putF "width" (.int (w : Int)) []))))) = H2 at s2 hx2 ⊢
    obtain ⟨xs, r1, r2, r3⟩ := (hv.keep s2).all
    walk_at "run"
    refine Gx.lp (SqL.of r1) ?_
    refine Pq.lcLN (K := K) (walk_list (xs := xs)) (by omega) (fun j => rows.getD j []) (fun _ s => s.seq (SqL.of r1)) Gx.sameAt ?_ ?_
    · rintro i y H3 H3' R R0 hi s3 ⟨rfl, hy⟩ hr
      obtain ⟨b, rfl, hi2, hb⟩ := r3 i y hy
      have hb := s3 _ _ hb
      walk_at "run"
      refine Gx.listL (SqL.of hb) fun p hp => ?_
      exact hr p _ hp (Gx.same_new hp) upd_same
    intro r H3 hr s3 llr
    rw [r2, ok.1] at llr
    walk_at "run"
    refine Gx.sfp (s3 _ _ hx2) T.cl_Picture T.na_Picture__rows (by walk_at "few") rfl ?_
    rw [ini_Picture]
    obtain ⟨zs, hz, _⟩ := llr.ll.len
    have rx : r ≠ x := fun e => by rw [e, hx2] at hr; cases hr
    obtain ⟨ps, e1, e2, e4, e5, e3⟩ := llr
    have hx3 := s3 _ _ hx2
    have key : Pq.LN H0 (upd H3 x (.ins T.a_Picture dx (fl_Picture (.int (w : Int)) (.int (h : Int)) (.int (d : Int)) (.int (c : Int)) (.ref r)))) r c (fun j => rows.getD j []) := ⟨ps, by rw [upd_ne rx]; exact e1, e2, e4, fun a ha => ⟨s2.free (e5 a ha).1, (e5 a ha).2⟩, fun j a e => by rw [upd_ne (ne_of (e3 j a e) hx3 (by intro z; cases z))]; exact e3 j a e⟩
    exact q rfl r _ (Gx.same_up h0 (s2.trans s3)) (s2.free hr) ⟨⟨dx, upd_same⟩, key.ll⟩ key

theorem mk_Picture {K : PySem.W.Frag} {CE C v : Addr} {w h d c : Nat} {rows : List (List Int)} {H : Hp} {Q : VK} {E : XK} (hw : 1 ≤ w ∧ w ≤ 64) (hh : 1 ≤ h ∧ h ≤ 64) (hd : 1 ≤ d ∧ d ≤ 8) (hc : c = 1 ∨ c = 3) (hs : w * h * c ≤ 3072) (hv : Pq.RW H v rows) (ok : Pq.rowsOk (w * h) d c rows) (q : ∀ x r H2, Same H H2 → H x = none → H r = none → Pic C H2 x r w h d c (fun j => rows.getD j []) → Q (.ref x) H2) :
    Gx.MkP C (sp_Picture_init K CE C) [.int (w : Int), .int (h : Int), .int (d : Int), .int (c : Int), .ref v] [] H Q E := by
  intro x dx hx hdx hne
  have ok' : Pq.pictBad (w : Int) (h : Int) (d : Int) (c : Int) rows = none := by
    unfold Pq.pictBad
    rw [Sx.kindBad_none.mpr ⟨by omega, by omega, by omega, by omega⟩]
    dsimp only
    rw [if_neg (by rw [← Int.natCast_mul, ← Int.natCast_mul]; omega), ← Int.natCast_mul, Int.toNat_natCast, Int.toNat_natCast, Int.toNat_natCast, if_pos ok]
  exact ⟨H, x, dx, v, w, h, d, c, rows, rfl, upd_same, Gx.same_up hx (Gx.same_new hdx), hx, hv, by have := ok.1; omega, fun _ r H2 s2 hr fr _ => ⟨rfl, q x r H2 s2 hx hr fr⟩, fun z e => by rw [ok'] at e; cases e⟩

noncomputable def sp_Frame_pixels (C : Addr) : Sp := fun vs H Q _ => ∃ (x : Addr) (w h d c t : Nat), vs = [.ref x] ∧ Frm C H x w h d c t ∧ w ≤ 64 ∧ Q (.int (w * h : Nat)) H

theorem sc_Frame_pixels : FnScope ["self"] ["self"] (defScope s_Frame_pixels) := ⟨rfl, rfl, rfl, by decide +kernel, rfl, by decide +kernel, by decide +kernel⟩
theorem ok_Frame_pixels (T : Tx P K mg) : FnOk P w K mg base CX0 1 T.Frame_pixels.a T.Frame_pixels.d ["self"] (sp_Frame_pixels T.a_Frame) := by
  refine T.Frame_pixels.f.ok sc_Frame_pixels (fun vs H Q E h => ?_) (fun cdv A outer s H vs Q E hr h => ⟨_, pss_one (ps_ret (pe_op op_mul (pe_fld (pv 0) rfl) (pe_fld (pv 0) rfl))), ?_⟩)
  · obtain ⟨x, w, h, d, c, t, rfl, _⟩ := h
    rfl
  · skip
    obtain ⟨x, w, h, d, c, t, rfl, ⟨dx, hx⟩, hw, q⟩ := h
    walk_at "go"
    refine Gx.ic (.inl (by omega)) ?_
    rw [← Int.natCast_mul]
    exact q

theorem cp_Frame_pixels {C x : Addr} {w h d c t : Nat} {H : Hp} {Q : VK} {E : XK} (f : Frm C H x w h d c t) (hw : w ≤ 64) (q : Q (.int (w * h : Nat)) H) : Gx.CP (sp_Frame_pixels C) [.ref x] [] H Q E := ⟨x, w, h, d, c, t, rfl, f, hw, q⟩

noncomputable def sp_value_of (K : PySem.W.Frag) : Sp := fun vs H Q _ => ∃ (a : Addr) (gs : List Nat), vs = [.ref a] ∧ SqL K H a (gs.map fun g : Nat => V.int (g : Int)) ∧ Q (.int (Gy.val gs : Nat)) H

theorem sc_value_of : FnScope ["grays", "value", "gray"] ["grays"] (defScope s_value_of) := ⟨rfl, rfl, rfl, by decide +kernel, rfl, by decide +kernel, by decide +kernel⟩
theorem ok_value_of (T : Tx P K mg) : FnOk P w K mg base CX0 1 T.value_of.a T.value_of.d ["grays"] (sp_value_of K) := by
  refine T.value_of.f.ok sc_value_of (fun vs H Q E h => ?_) (fun cdv A outer s H vs Q E hr h => ⟨_, pss_cons (ps_set (i := 1) sc_value_of.nd rfl (Or.inl rfl) (pe_int))
      (pss_cons (ps_for PassesOwn.never rfl (pi_list (pv 0)) (pg_name (i := 2) sc_value_of.nd rfl (Or.inl rfl))
      (pss_one (ps_set (i := 1) sc_value_of.nd rfl (Or.inl rfl) (pe_op op_add (pe_op op_mul (pv 1) (pe_int)) (pe_op op_xor (pv 2) (pe_op op_and (pv 1) (pe_int)))))))
      (pss_one (ps_ret (pv 1)))), ?_⟩)
  · obtain ⟨a, gs, rfl, _⟩ := h
    rfl
  · skip
    obtain ⟨a, gs, rfl, hs, q⟩ := h
    walk_at "go"
    refine Gx.lp hs ?_
    refine Gx.fw walk_list (fun i σ' H' => H' = H ∧ ∃ kv : Option V, σ' = [some (.ref a), some (.int (Gy.val (gs.take i) : Nat)), kv]) ⟨rfl, none, rfl⟩ (fun i σ' H' _ ⟨e, _⟩ => e ▸ hs) ?_ ?_
    · rintro i x σ' H1 H' hi ⟨rfl, kv, rfl⟩ ⟨rfl, hx⟩
      rw [List.getElem?_map] at hx
      cases e : gs[i]? with
      | none => rw [e] at hx; cases hx
      | some g =>
        rw [e] at hx
        cases hx
        walk_at "go"
        refine Gx.ic (.inr (by decide)) ?_
        walk_at "go"
        refine ⟨rfl, some (.int (g : Int)), ?_⟩
        rw [Gy.val_take e]
        rfl
    · rintro σ' H' ⟨rfl, kv, rfl⟩
      rw [List.length_map, List.take_length]
      walk_at "go"
      exact q

theorem cp_value_of {K : PySem.W.Frag} {a : Addr} {gs : List Nat} {H : Hp} {Q : VK} {E : XK} (hs : SqL K H a (gs.map fun g : Nat => V.int (g : Int))) (q : Q (.int (Gy.val gs : Nat)) H) : Gx.CP (sp_value_of K) [.ref a] [] H Q E := ⟨a, gs, rfl, hs, q⟩

noncomputable def sp_stored_channels : Sp := fun vs H Q _ => ∃ (c j : Nat), vs = [.int (c : Int), .int (j : Int)] ∧ ∀ p H', H p = none → Same H H' → H' p = some (.lst ((Dx.nd c j).map fun s => V.int ((s : Nat) : Int))) → Q (.ref p) H'

theorem sc_stored_channels : FnScope ["channels", "channel"] ["channels", "channel"] (defScope s_stored_channels) := ⟨rfl, rfl, rfl, by decide +kernel, rfl, by decide +kernel, by decide +kernel⟩
theorem ok_stored_channels (T : Tx P K mg) : FnOk P w K mg base CX0 1 T.stored_channels.a T.stored_channels.d ["channels", "channel"] (sp_stored_channels) := by
  refine T.stored_channels.f.ok sc_stored_channels (fun vs H Q E h => ?_) (fun cdv A outer s H vs Q E hr h => ⟨_, pss_cons (ps_if (PW.pt (pw_or (pt_cmpR op_eq (pv 0) (pe_int) (nomark _)) (pw_or1 (pt_cmpR op_eq (pv 1) (pe_int) (nomark _))))) (pss_one (ps_ret (pe_lst (pa_cons (pe_int) pa_nil)))) (pss_nil))
      (pss_one (ps_ret (pe_lst (pa_cons (pe_int) (pa_cons (pe_ifExp (pt_cmpR op_eq (pv 1) (pe_int) (nomark _)) (pe_int) (pe_int)) pa_nil))))), ?_⟩)
  · obtain ⟨c, j, rfl, _⟩ := h
    rfl
  · skip
    obtain ⟨c, j, rfl, q⟩ := h
    unfold Dx.nd at q
    walk_at "run"
    refine Gx.if_d (fun e => ?_) (fun e => ?_)
    · rw [if_pos (.inl (by omega))] at q
      walk_at "run"
      exact Nx.lst0 (by show 1 ≤ sizeLine; decide) q
    walk_at "run"
    refine Gx.if_d (fun e1 => ?_) (fun e1 => ?_)
    · rw [if_pos (.inr (by omega))] at q
      walk_at "run"
      exact Nx.lst0 (by show 1 ≤ sizeLine; decide) q
    rw [if_neg (by omega)] at q
    walk_at "run"
    refine Gx.if_d (fun e2 => ?_) (fun e2 => ?_)
    · rw [if_pos (by omega)] at q
      walk_at "run"
      exact Nx.lst0 (by show 2 ≤ sizeLine; decide) q
    · rw [if_neg (by omega)] at q
      walk_at "run"
      exact Nx.lst0 (by show 2 ≤ sizeLine; decide) q

theorem cp_stored_channels {c j : Nat} {H : Hp} {Q : VK} {E : XK} (q : ∀ p H', H p = none → Same H H' → H' p = some (.lst ((Dx.nd c j).map fun s => V.int ((s : Nat) : Int))) → Q (.ref p) H') : Gx.CP sp_stored_channels [.int (c : Int), .int (j : Int)] [] H Q E := ⟨c, j, rfl, q⟩

noncomputable def sp_Frame_across (C : Addr) : Sp := fun vs H Q _ => ∃ (x : Addr) (w h d c t : Nat), vs = [.ref x] ∧ Frm C H x w h d c t ∧ 1 ≤ t ∧ t ≤ 16 ∧ Q (.int (Gd.ac w t : Nat)) H

theorem sc_Frame_across : FnScope ["self"] ["self"] (defScope s_Frame_across) := ⟨rfl, rfl, rfl, by decide +kernel, rfl, by decide +kernel, by decide +kernel⟩
theorem ok_Frame_across (T : Tx P K mg) : FnOk P w K mg base CX0 1 T.Frame_across.a T.Frame_across.d ["self"] (sp_Frame_across T.a_Frame) := by
  refine T.Frame_across.f.ok sc_Frame_across (fun vs H Q E h => ?_) (fun cdv A outer s H vs Q E hr h => ⟨_, pss_one (ps_ret (pe_op op_fdiv (pe_op op_sub (pe_op op_add (pe_fld (pv 0) rfl) (pe_fld (pv 0) rfl)) (pe_int)) (pe_fld (pv 0) rfl))), ?_⟩)
  · obtain ⟨x, w, h, d, c, t, rfl, _⟩ := h
    rfl
  · skip
    obtain ⟨x, w, h, d, c, t, rfl, ⟨dx, hx⟩, ht1, ht2, q⟩ := h
    walk_at "go"
    refine Gx.ic ⟨by omega, by omega⟩ ?_
    rw [Gd.ac_int (by omega)]
    exact q

theorem cp_Frame_across {C x : Addr} {w h d c t : Nat} {H : Hp} {Q : VK} {E : XK} (f : Frm C H x w h d c t) (h1 : 1 ≤ t) (h2 : t ≤ 16) (q : Q (.int (Gd.ac w t : Nat)) H) : Gx.CP (sp_Frame_across C) [.ref x] [] H Q E := ⟨x, w, h, d, c, t, rfl, f, h1, h2, q⟩

noncomputable def sp_tile_corner (C : Addr) : Sp := fun vs H Q _ => ∃ (x : Addr) (w h d c t k : Nat), vs = [.ref x, .int (k : Int)] ∧ Frm C H x w h d c t ∧ 1 ≤ t ∧ t ≤ 16 ∧ 1 ≤ w ∧ w ≤ 64 ∧ k ≤ 100000 ∧ ∀ p, H p = none → Q (.ref p) (upd H p (.tup [.int (k % Gd.ac w t * t : Nat), .int (k / Gd.ac w t * t : Nat)]))

theorem sc_tile_corner : FnScope ["frame", "tile", "across"] ["frame", "tile"] (defScope s_tile_corner) := ⟨rfl, rfl, rfl, by decide +kernel, rfl, by decide +kernel, by decide +kernel⟩
theorem ok_tile_corner (T : Tx P K mg) : FnOk P w K mg base CX0 2 T.tile_corner.a T.tile_corner.d ["frame", "tile"] (sp_tile_corner T.a_Frame) := by
  refine T.tile_corner.f.ok sc_tile_corner (fun vs H Q E h => ?_) (fun cdv A outer s H vs Q E hr h => ⟨_, pss_cons (ps_set (i := 2) sc_tile_corner.nd rfl (Or.inl rfl) (pe_meth0 (pv 0) T.cl_Frame T.Frame_across.m (ok_Frame_across T) (hr.mono (by decide)) T.Frame_across.b .nil pass0))
      (pss_one (ps_ret (pe_tup (pa_cons (pe_op op_mul (pe_op op_mod (pv 1) (pv 2)) (pe_fld (pv 0) rfl)) (pa_cons (pe_op op_mul (pe_op op_fdiv (pv 1) (pv 2)) (pe_fld (pv 0) rfl)) pa_nil))))), ?_⟩)
  · obtain ⟨x, w, h, d, c, t, k, rfl, _⟩ := h
    rfl
  · skip
    obtain ⟨x, w, h, d, c, t, k, rfl, ⟨dx, hx⟩, ht1, ht2, hw1, hw, hk, q⟩ := h
    have l1 := Gd.ac_le (n := w) (t := t) (by omega)
    have l2 := Gd.ac_pos (n := w) (t := t) (by omega) (by omega)
    walk_at "go"
    refine Gx.mp hx no_Frame_across ?_
    walk_at "go"
    refine cp_Frame_across ⟨dx, hx⟩ ht1 ht2 ?_
    walk_at "go"
    refine Gx.ic (by omega) ?_
    walk_at "go"
    refine Gx.ic (.inr (by omega)) ?_
    walk_at "go"
    refine Gx.ic ⟨by omega, by omega⟩ ?_
    walk_at "go"
    refine Gx.ic (.inr (by omega)) ?_
    walk_at "go"
    rw [← Int.natCast_emod, ← Int.natCast_ediv, ← Int.natCast_mul, ← Int.natCast_mul]
    exact Gx.tupP (by show 2 ≤ sizeLine; decide) q

theorem cp_tile_corner {C x : Addr} {w h d c t k : Nat} {H : Hp} {Q : VK} {E : XK} (f : Frm C H x w h d c t) (h1 : 1 ≤ t) (h2 : t ≤ 16) (hw1 : 1 ≤ w) (hw : w ≤ 64) (hk : k ≤ 100000) (q : ∀ p, H p = none → Q (.ref p) (upd H p (.tup [.int (k % Gd.ac w t * t : Nat), .int (k / Gd.ac w t * t : Nat)]))) :
    Gx.CP (sp_tile_corner C) [.ref x, .int (k : Int)] [] H Q E := ⟨x, w, h, d, c, t, k, rfl, f, h1, h2, hw1, hw, hk, q⟩
noncomputable def sp_tile_size (C : Addr) : Sp := fun vs H Q _ => ∃ (x : Addr) (w h d c t k : Nat), vs = [.ref x, .int (k : Int)] ∧ Frm C H x w h d c t ∧ 1 ≤ t ∧ t ≤ 16 ∧ 1 ≤ w ∧ w ≤ 64 ∧ 1 ≤ h ∧ h ≤ 64 ∧ k < Gd.ac w t * Gd.ac h t ∧
  ∀ p H', H p = none → Same H H' → H' p = some (.tup [.int (Gd.sd w t (k % Gd.ac w t) : Nat), .int (Gd.sd h t (k / Gd.ac w t) : Nat)]) → Q (.ref p) H'

theorem sc_tile_size : FnScope ["frame", "tile", "left", "top"] ["frame", "tile"] (defScope s_tile_size) := ⟨rfl, rfl, rfl, by decide +kernel, rfl, by decide +kernel, by decide +kernel⟩
theorem ok_tile_size (T : Tx P K mg) : FnOk P w K mg base CX0 3 T.tile_size.a T.tile_size.d ["frame", "tile"] (sp_tile_size T.a_Frame) := by
  refine T.tile_size.f.ok sc_tile_size (fun vs H Q E h => ?_) (fun cdv A outer s H vs Q E hr h => ⟨_, pss_cons (ps_asg (pe_call (ok_tile_corner T) (hr.mono (by decide)) rfl T.tile_corner.g T.tile_corner.f.kp T.tile_corner.b .nil pass0 (pa_cons (pv 0) (pa_cons (pv 1) pa_nil))) (pg_tup rfl (pgs_cons (pg_name (i := 2) sc_tile_size.nd rfl (Or.inl rfl)) (pgs_cons (pg_name (i := 3) sc_tile_size.nd rfl (Or.inl rfl)) pgs_nil))))
      (pss_one (ps_ret (pe_tup (pa_cons (pe_callB (Gx.c_min2 rfl) rfl T.n_min (by decide +kernel) (pa_cons (pe_fld (pv 0) rfl) (pa_cons (pe_op op_sub (pe_fld (pv 0) rfl) (pv 2)) pa_nil))) (pa_cons (pe_callB (Gx.c_min2 rfl) rfl T.n_min (by decide +kernel) (pa_cons (pe_fld (pv 0) rfl) (pa_cons (pe_op op_sub (pe_fld (pv 0) rfl) (pv 3)) pa_nil))) pa_nil))))), ?_⟩)
  · obtain ⟨x, w, h, d, c, t, k, rfl, _⟩ := h
    rfl
  · skip
    obtain ⟨x, w, h, d, c, t, k, rfl, ⟨dx, hx⟩, ht1, ht2, hw1, hw, hh1, hh, hk, q⟩ := h
    have l1 := Gd.ac_le (n := w) (t := t) (by omega)
    have l2 := Gd.ac_pos (n := w) (t := t) (by omega) (by omega)
    have l3 := Gd.ac_le (n := h) (t := t) (by omega)
    have l4 : Gd.ac w t * Gd.ac h t ≤ 64 * 64 := Nat.mul_le_mul (by omega) (by omega)
    have m1 : k % Gd.ac w t < Gd.ac w t := Nat.mod_lt _ l2
    have m2 : k / Gd.ac w t < Gd.ac h t := Nat.div_lt_of_lt_mul hk
    walk_at "go"
    refine cp_tile_corner ⟨dx, hx⟩ ht1 ht2 hw1 hw (by omega) fun p hp => ?_
    refine Gx.gtup (SqT.of upd_same) rfl ?_
    have hx := Gx.same_new (o := .tup [.int (k % Gd.ac w t * t : Nat), .int (k / Gd.ac w t * t : Nat)]) hp _ _ hx
    walk_at "go"
    refine Gx.min2 ?_
    walk_at "go"
    refine Gx.min2 ?_
    walk_at "go"
    rw [Gd.sd_int (by omega) m1, Gd.sd_int (by omega) m2]
    refine Gx.tupP (by show 2 ≤ sizeLine; decide) fun p2 hp2 => ?_
    exact q p2 _ (((Gx.same_new hp).free hp2)) ((Gx.same_new hp).trans (Gx.same_new hp2)) upd_same

theorem cp_tile_size {C x : Addr} {w h d c t k : Nat} {H : Hp} {Q : VK} {E : XK} (f : Frm C H x w h d c t) (h1 : 1 ≤ t) (h2 : t ≤ 16) (hw1 : 1 ≤ w) (hw : w ≤ 64) (hh1 : 1 ≤ h) (hh : h ≤ 64) (hk : k < Gd.ac w t * Gd.ac h t)
    (q : ∀ p H', H p = none → Same H H' → H' p = some (.tup [.int (Gd.sd w t (k % Gd.ac w t) : Nat), .int (Gd.sd h t (k / Gd.ac w t) : Nat)]) → Q (.ref p) H') :
    Gx.CP (sp_tile_size C) [.ref x, .int (k : Int)] [] H Q E := ⟨x, w, h, d, c, t, k, rfl, f, h1, h2, hw1, hw, hh1, hh, hk, q⟩

noncomputable def sp_locate_pixel (C : Addr) : Sp := fun vs H Q _ => ∃ (x : Addr) (w h d c t n : Nat), vs = [.ref x, .int (n : Int)] ∧ Frm C H x w h d c t ∧ 1 ≤ t ∧ t ≤ 16 ∧ 1 ≤ w ∧ w ≤ 64 ∧ 1 ≤ h ∧ h ≤ 64 ∧ n < w * h ∧
  ∀ p H', Same H H' → H' p = some (.tup [.int (Gd.tileOf w t n : Nat), .int (Gd.placeOf w t n : Nat)]) → Q (.ref p) H'

theorem sc_locate_pixel : FnScope ["frame", "pixel", "side", "column", "row", "tile", "width", "_"] ["frame", "pixel"] (defScope s_locate_pixel) := ⟨rfl, rfl, rfl, by decide +kernel, rfl, by decide +kernel, by decide +kernel⟩
theorem ok_locate_pixel (T : Tx P K mg) : FnOk P w K mg base CX0 4 T.locate_pixel.a T.locate_pixel.d ["frame", "pixel"] (sp_locate_pixel T.a_Frame) := by
  refine T.locate_pixel.f.ok sc_locate_pixel (fun vs H Q E h => ?_) (fun cdv A outer s H vs Q E hr h => ⟨_, pss_cons (ps_set (i := 2) sc_locate_pixel.nd rfl (Or.inl rfl) (pe_fld (pv 0) rfl))
      (pss_cons (ps_set (i := 3) sc_locate_pixel.nd rfl (Or.inl rfl) (pe_op op_mod (pv 1) (pe_fld (pv 0) rfl)))
      (pss_cons (ps_set (i := 4) sc_locate_pixel.nd rfl (Or.inl rfl) (pe_op op_fdiv (pv 1) (pe_fld (pv 0) rfl)))
      (pss_cons (ps_set (i := 5) sc_locate_pixel.nd rfl (Or.inl rfl) (pe_op op_add (pe_op op_mul (pe_op op_fdiv (pv 4) (pv 2)) (pe_meth0 (pv 0) T.cl_Frame T.Frame_across.m (ok_Frame_across T) (hr.mono (by decide)) T.Frame_across.b .nil pass0)) (pe_op op_fdiv (pv 3) (pv 2))))
      (pss_cons (ps_asg (pe_call (ok_tile_size T) (hr.mono (by decide)) rfl T.tile_size.g T.tile_size.f.kp T.tile_size.b .nil pass0 (pa_cons (pv 0) (pa_cons (pv 5) pa_nil))) (pg_tup rfl (pgs_cons (pg_name (i := 6) sc_locate_pixel.nd rfl (Or.inl rfl)) (pgs_cons (pg_name (i := 7) sc_locate_pixel.nd rfl (Or.inl rfl)) pgs_nil))))
      (pss_one (ps_ret (pe_tup (pa_cons (pv 5) (pa_cons (pe_op op_add (pe_op op_mul (pe_op op_mod (pv 4) (pv 2)) (pv 6)) (pe_op op_mod (pv 3) (pv 2))) pa_nil))))))))), ?_⟩)
  · obtain ⟨x, w, h, d, c, t, n, rfl, _⟩ := h
    rfl
  · skip
    obtain ⟨x, w, h, d, c, t, n, rfl, fr, ht1, ht2, hw1, hw, hh1, hh, hn, q⟩ := h
    have l1 := Gd.ac_le (n := w) (t := t) (by omega)
    have big : w * h ≤ 64 * 64 := Nat.mul_le_mul hw hh
    have tl := Gd.tile_lt (t := t) (by omega) (by omega) hn
    have tm := Gd.tile_mod (n := n) (show 0 < w by omega) (show 0 < t by omega)
    have td := Gd.tile_div (n := n) (show 0 < w by omega) (show 0 < t by omega)
    obtain ⟨dx, hx⟩ := id fr
    walk_at "go"
    refine Gx.ic (show (0 : Int) < (w : Int) by omega) ?_
    walk_at "go"
    refine Gx.ic ⟨by omega, by omega⟩ ?_
    walk_at "go"
    refine Gx.ic ⟨by omega, by omega⟩ ?_
    walk_at "go"
    refine Gx.mp hx no_Frame_across ?_
    walk_at "go"
    refine cp_Frame_across fr ht1 ht2 ?_
    refine Gx.ic (.inr (by omega)) ?_
    walk_at "go"
    refine Gx.ic ⟨by omega, by omega⟩ ?_
    walk_at "go"
    rw [← Int.natCast_ediv, ← Int.natCast_ediv, ← Int.natCast_emod, ← Int.natCast_ediv, ← Int.natCast_mul, ← Int.natCast_add]
    refine cp_tile_size (k := Gd.tileOf w t n) fr ht1 ht2 hw1 hw hh1 hh tl fun p2 H2 hp2 s2 h2 => ?_
    rw [tm, td] at h2
    refine Gx.gtup (SqT.of h2) rfl ?_
    walk_at "go"
    refine Gx.ic (show (0 : Int) < (t : Int) by omega) ?_
    walk_at "go"
    have sw : Gd.sd w t (n % w / t) ≤ 16 := by unfold Gd.sd; omega
    refine Gx.ic (.inr (by omega)) ?_
    walk_at "go"
    refine Gx.ic (show (0 : Int) < (t : Int) by omega) ?_
    walk_at "go"
    rw [← Int.natCast_emod, ← Int.natCast_emod, ← Int.natCast_mul, ← Int.natCast_add]
    refine Gx.tupP (by show 2 ≤ sizeLine; decide) fun p hp => ?_
    exact q p _ (s2.trans (Gx.same_new hp)) upd_same

theorem cp_locate_pixel {C x : Addr} {w h d c t n : Nat} {H : Hp} {Q : VK} {E : XK} (f : Frm C H x w h d c t) (h1 : 1 ≤ t) (h2 : t ≤ 16) (hw1 : 1 ≤ w) (hw : w ≤ 64) (hh1 : 1 ≤ h) (hh : h ≤ 64) (hn : n < w * h)
    (q : ∀ p H', Same H H' → H' p = some (.tup [.int (Gd.tileOf w t n : Nat), .int (Gd.placeOf w t n : Nat)]) → Q (.ref p) H') : Gx.CP (sp_locate_pixel C) [.ref x, .int (n : Int)] [] H Q E := ⟨x, w, h, d, c, t, n, rfl, f, h1, h2, hw1, hw, hh1, hh, hn, q⟩

theorem int01 {b : Bool} {H : Hp} {Q : VK} (q : Q (.int ((Dx.bit b : Nat) : Int)) H) : Gx.rIntS [.str (Bs.S [b])] H Q := by
  refine Gx.intS (n := ((Dx.bit b : Nat) : Int)) ?_ (by rw [Bs.len]; show 1 ≤ 640; decide) q
  cases b <;> decide +kernel
noncomputable def sp_value_in_packets (CF : Addr) : Sp := fun vs H Q _ => ∃ (x a : Addr) (w h d c t j n : Nat) (kvs : List (List L2.Key × V)) (g : Nat → Nat → Nat → List Bool), vs = [.ref x, .ref a, .int (j : Int), .int (n : Int)] ∧ Frm CF H x w h d c t ∧ Rg.Dim w h d c t ∧ H a = some (.dT kvs) ∧ Dx.PK kvs c (Gd.ac w t * Gd.ac h t) d g ∧
  (∀ s k p, s < c → k < Gd.ac w t * Gd.ac h t → p < d → (g s k p).length = Rg.tileBox w h t k) ∧ j < c ∧ n < w * h ∧ ∀ H', Same H H' → Q (.int ((Dx.vp g w t c d j n : Nat) : Int)) H'

theorem sc_value_in_packets : FnScope ["frame", "packets", "channel", "pixel", "tile", "place", "needed", "grays", "plane", "bits", "stored"] ["frame", "packets", "channel", "pixel"] (defScope s_value_in_packets) := ⟨rfl, rfl, rfl, by decide +kernel, rfl, by decide +kernel, by decide +kernel⟩
theorem ok_value_in_packets (T : Tx P K mg) : FnOk P w K mg base CX0 5 T.value_in_packets.a T.value_in_packets.d ["frame", "packets", "channel", "pixel"] (sp_value_in_packets T.a_Frame) := by
  refine T.value_in_packets.f.ok sc_value_in_packets (fun vs H Q E h => ?_) (fun cdv A outer s H vs Q E hr h => ⟨_, pss_cons (ps_asg (pe_call (ok_locate_pixel T) (hr.mono (by decide)) rfl T.locate_pixel.g T.locate_pixel.f.kp T.locate_pixel.b .nil pass0 (pa_cons (pv 0) (pa_cons (pv 3) pa_nil))) (pg_tup rfl (pgs_cons (pg_name (i := 4) sc_value_in_packets.nd rfl (Or.inr rfl)) (pgs_cons (pg_name (i := 5) sc_value_in_packets.nd rfl (Or.inr rfl)) pgs_nil))))
      (pss_cons (ps_set (i := 6) sc_value_in_packets.nd rfl (Or.inl rfl) (pe_call (ok_stored_channels T) (hr.mono (by decide)) rfl T.stored_channels.g T.stored_channels.f.kp T.stored_channels.b .nil pass0 (pa_cons (pe_fld (pv 0) rfl) (pa_cons (pv 2) pa_nil))))
      (pss_cons (ps_set (i := 7) sc_value_in_packets.nd rfl (Or.inl rfl) (pe_lst pa_nil))
      (pss_cons (ps_for PassesOwn.never rfl (pi_revR rfl T.n_reversed (prg_1 rfl T.n_range (pe_fld (pv 0) rfl))) (pg_name (i := 8) sc_value_in_packets.nd rfl (Or.inr rfl))
      (pss_cons (ps_setLc (i := 9) (own := [("stored", 10)]) (g := (gName 10)) (tt := tYes) rfl sc_value_in_packets.nd rfl rfl (sw_true rfl rfl rfl (by decide +kernel)) (pi_list (pv 6)) (blkOk_by (own := [("stored", 10)]) (N := ["frame", "packets", "channel", "pixel", "tile", "place", "needed", "grays", "plane", "bits", "stored"]) (sc := defScope s_value_in_packets) (by decide +kernel)) (fun _ _ _ _ _ => (pg_name (i := 10) sc_value_in_packets.nd rfl (Or.inl rfl))) (fun _ _ _ _ _ => pts_nil) (fun _ _ _ _ _ => pe_callTy Gx.c_intS rfl T.n_int (by decide +kernel) (pa_cons (pe_ix (Gx.ix_seqK (K := K) rfl) (pe_dget (hu_of hr) (pv 1) (pe_tup (pa_cons (pv 10) (pa_cons (pv 4) (pa_cons (pv 8) pa_nil)))) (fun _ _ => rfl)) (pv 5) (fun _ _ => rfl)) pa_nil)))
      (pss_one (ps_expr (pe_bm PySem.F.plainAttrs_list PySem.F.slot_list_append PySem.F.type_list_append mt_append (pv 7) (pa_cons (pe_op op_mod (pe_callB (cr_sum rfl) rfl T.n_sum (by decide +kernel) (pa_cons (pv 9) pa_nil)) (pe_int)) pa_nil))))))
      (pss_one (ps_ret (pe_call (ok_value_of T) (hr.mono (by decide)) rfl T.value_of.g T.value_of.f.kp T.value_of.b .nil pass0 (pa_cons (pv 7) pa_nil))))))), ?_⟩)
  · obtain ⟨x, a, w, h, d, c, t, j, n, kvs, g, rfl, _⟩ := h
    rfl
  · skip
    obtain ⟨x, a, w, h, d, c, t, j, n, kvs, g, rfl, fr, D, ha, hg, hgl, hj, hn, q⟩ := h
    obtain ⟨l1, l2, l3, l4, l5, l6, l7⟩ := D.ok
    obtain ⟨a1, a2, a3, a4, a5, a6, a7, a8, a9, a10⟩ := id D
    have tl := Gd.tile_lt (t := t) (by omega) (by omega) hn
    have pb := (Gd.pix_back (w := w) (h := h) (t := t) (show 0 < w by omega) (show 0 < t by omega) tl hn rfl).1
    have hbox := Pb.box_le (w := w) (h := h) (k := Gd.tileOf w t n) (t := t) (by omega)
    have pb : Gd.placeOf w t n < Rg.tileBox w h t (Gd.tileOf w t n) := pb
    obtain ⟨dx, hx⟩ := id fr
    walk_at "run"
    refine cp_locate_pixel fr a8 a9 a1 a2 a3 a4 hn fun p1 H1 s1 h1 => ?_
    walk_at "run"
    have hx1 := s1 _ _ hx
    walk_at "run"
    refine cp_stored_channels fun p2 H2 n2 s2 h2 => ?_
    walk_at "run"
    refine Nx.lstT (by show 0 ≤ sizeLine; decide) fun pg H3 O3 => ?_
    have s12 := s1.trans s2
    have hx3 := O3.same _ _ (s12 _ _ hx)
    walk_at "run"
    refine Gx.rr ⟨by omega, by omega, by omega, by omega⟩ ?_
    rw [show ((d : Int) - 0).toNat = d by omega]
    unfold Dx.vp at q
    generalize Gd.tileOf w t n = k at *
    generalize Gd.placeOf w t n = m at *
    refine Gx.fw walk_rangeC (fun i σ' H' => ∃ (R : Hp) (v7 v8 v9 : Option V), Same H2 R ∧ Fx.Own R H' (Nx.one pg (.lst (((Dx.gs g c d j k m).take i).map fun b => V.int ((b : Nat) : Int)))) ∧ σ' = [some (.ref x), some (.ref a), some (.int (j : Int)), some (.int (n : Int)), some (.int (k : Int)), some (.int (m : Int)), some (.ref p2), some (.ref pg), v7, v8, v9]) ?_ (fun _ _ _ _ _ => trivial) ?_ ?_
    · exact ⟨H2, none, none, none, Same.refl _, O3, rfl⟩
    · rintro i y σ' H4 H4' hi ⟨R, v7, v8, v9, sR, O, rfl⟩ ⟨rfl, hy⟩
      have hp : d - 1 - i < d := by omega
      have hy2 : y = .int ((d - 1 - i : Nat) : Int) := hy.trans (congrArg V.int (by omega))
      subst hy2
      have s4 := O.same
      have sH : Same H H4' := s12.trans (sR.trans s4)
      have hneed := s4 _ _ (sR _ _ h2)
      have hlen : (Dx.nd c j).length ≤ 2 := by unfold Dx.nd; split <;> simp
      have ha4 := sH _ _ ha
      walk_at "run"
      refine Gx.lp (SqL.of hneed) ?_
      refine Gx.lcMap (walk_list (xs := _)) (by rw [List.length_map]; omega) (fun e => .int ((Dx.bit ((g ((Dx.nd c j).getD e 0) k (d - 1 - i)).getD m false) : Nat) : Int)) (fun _ s => s.seq (SqL.of hneed)) Gx.sameAt ?_ ?_
      · rintro e y H5 H5' R1 R0 he s5 ⟨rfl, hy⟩ hr
        rw [List.length_map] at he
        rw [List.getElem?_map, List.getElem?_eq_getElem he] at hy
        have hy := Option.some.inj hy
        subst hy
        have hg0 : (Dx.nd c j).getD e 0 = (Dx.nd c j)[e] := by rw [List.getD_eq_getElem?_getD, List.getElem?_eq_getElem he]; rfl
        rw [hg0] at hr
        have hs := Dx.nd_lt a7 (List.getElem_mem he)
        generalize (Dx.nd c j)[e] = s1 at hr hs
        walk_at "run"
        refine Nx.tup0 (by show 3 ≤ sizeLine; decide) fun pt H6 n6 s6 h6 => ?_
        have ha6 := s6 _ _ (s5 _ _ ha4)
        refine Dx.dgT (k := Dx.kq s1 k (d - 1 - i)) ha6 h6 (hg s1 k (d - 1 - i) hs tl hp) ?_
        walk_at "run"
        have hl6 := hgl s1 k (d - 1 - i) hs tl hp
        refine Bs.ix (by omega) (by omega) (by omega) ?_
        rw [Int.toNat_natCast]
        walk_at "run"
        refine int01 ?_
        exact hr _ s6
      intro pb2 H5 n5 s5 h5
      rw [List.length_map, Dx.over_list 0 (fun s => V.int ((Dx.bit ((g s k (d - 1 - i)).getD m false) : Nat) : Int))] at h5
      obtain ⟨R', O', sR', gR⟩ := Nx.Own.grow O s5
      have h5 : H5 pb2 = some (.lst (((Dx.nd c j).map fun s => ((Dx.bit ((g s k (d - 1 - i)).getD m false) : Nat) : Int)).map V.int)) := by rw [h5, List.map_map]; rfl
      walk_at "run"
      refine Gx.bmS (Gx.tyL (SqL.of (Nx.at1 O'))) ?_
      walk_at "run"
      refine Gx.sumP (SqL.of h5) ?_
      walk_at "run"
      refine Nx.appT O' (by rw [List.length_map, List.length_take, sizeLine_eq]; omega) fun H6 O6 => ?_
      rw [Dx.sum_cast] at O6
      refine ⟨R', _, _, _, sR.trans sR', ?_, rfl⟩
      rw [Dx.gs_take hi, List.map_append]
      exact O6
    · rintro σ' H4 ⟨R, v7, v8, v9, sR, O, rfl⟩
      rw [List.take_of_length_le (by rw [Dx.gs_len]; exact Nat.le_refl _)] at O
      walk_at "run"
      refine cp_value_of (SqL.of (Nx.at1 O)) ?_
      exact q _ (s12.trans (sR.trans O.same))

theorem cp_value_in_packets {CF x a : Addr} {w h d c t j n : Nat} {kvs : List (List L2.Key × V)} {g : Nat → Nat → Nat → List Bool} {H : Hp} {Q : VK} {E : XK} (fr : Frm CF H x w h d c t) (D : Rg.Dim w h d c t) (ha : H a = some (.dT kvs)) (hg : Dx.PK kvs c (Gd.ac w t * Gd.ac h t) d g) (hgl : ∀ s k p, s < c → k < Gd.ac w t * Gd.ac h t → p < d → (g s k p).length = Rg.tileBox w h t k) (hj : j < c) (hn : n < w * h) (q : ∀ H', Same H H' → Q (.int ((Dx.vp g w t c d j n : Nat) : Int)) H') :
  Gx.CP (sp_value_in_packets CF) [.ref x, .ref a, .int (j : Int), .int (n : Int)] [] H Q E := ⟨x, a, w, h, d, c, t, j, n, kvs, g, rfl, fr, D, ha, hg, hgl, hj, hn, q⟩

noncomputable def sp_picture_of (CF CP : Addr) : Sp := fun vs H Q _ => ∃ (x a : Addr) (w h d c t : Nat) (kvs : List (List L2.Key × V)) (g : Nat → Nat → Nat → List Bool), vs = [.ref x, .ref a] ∧ Frm CF H x w h d c t ∧ Rg.Dim w h d c t ∧ H a = some (.dT kvs) ∧ Dx.PK kvs c (Gd.ac w t * Gd.ac h t) d g ∧
  (∀ s k p, s < c → k < Gd.ac w t * Gd.ac h t → p < d → (g s k p).length = Rg.tileBox w h t k) ∧ ∀ y r H', Same H H' → H y = none → Pic CP H' y r w h d c (fun i => (Dx.vrows g w t c d (w * h)).getD i []) → Q (.ref y) H'

theorem sc_picture_of : FnScope ["frame", "packets", "rows", "pixel", "channel"] ["frame", "packets"] (defScope s_picture_of) := ⟨rfl, rfl, rfl, by decide +kernel, rfl, by decide +kernel, by decide +kernel⟩
theorem ok_picture_of (T : Tx P K mg) : FnOk P w K mg base CX0 7 T.picture_of.a T.picture_of.d ["frame", "packets"] (sp_picture_of T.a_Frame T.a_Picture) := by
  refine T.picture_of.f.ok sc_picture_of (fun vs H Q E h => ?_) (fun cdv A outer s H vs Q E hr h => ⟨_, pss_cons (ps_setLc (i := 2) (own := [("channel", 4)]) (g := (gName 4)) (tt := tYes) rfl sc_picture_of.nd rfl rfl (sw_true rfl rfl rfl (by decide +kernel)) (pi_range1 rfl T.n_range (pa_cons (pe_fld (pv 0) rfl) pa_nil)) (blkOk_by (own := [("channel", 4)]) (N := ["frame", "packets", "rows", "pixel", "channel"]) (sc := defScope s_picture_of) (by decide +kernel)) (fun _ _ _ _ _ => (pg_name (i := 4) sc_picture_of.nd rfl (Or.inr rfl))) (fun _ _ _ _ _ => pts_nil) (fun _ _ _ _ _ => pe_lc (own := [("pixel", 3)]) (g := (gName 3)) (tt := tYes) rfl sc_picture_of.nd (by exact pi_range1 rfl T.n_range (pa_cons (pe_meth0 (pv 0) T.cl_Frame T.Frame_pixels.m (ok_Frame_pixels T) (hr.mono (by decide)) T.Frame_pixels.b .nil pass0) pa_nil)) (blkOk_by (own := [("pixel", 3)]) (by first | rfl | kernel_rfl)) (fun _ _ _ _ _ => (pg_name (i := 3) sc_picture_of.nd rfl (Or.inl rfl))) (fun _ _ _ _ _ => pts_nil) (fun _ _ _ _ _ => pe_call (ok_value_in_packets T) (hr.mono (by decide)) rfl T.value_in_packets.g T.value_in_packets.f.kp T.value_in_packets.b .nil pass0 (pa_cons (pv 0) (pa_cons (pv 1) (pa_cons (pv 4) (pa_cons (pv 3) pa_nil)))))))
      (pss_one (ps_ret (pe_make ⟨T.mk_Picture, T.Picture___init__.m.at_, T.Picture___init__.m.fn, T.kp_Picture⟩ (ok_Picture___init__ T) (hr.mono (by decide)) rfl T.g_Picture T.Picture___init__.b .nil passL (pa_cons (pe_fld (pv 0) rfl) (pa_cons (pe_fld (pv 0) rfl) (pa_cons (pe_fld (pv 0) rfl) (pa_cons (pe_fld (pv 0) rfl) (pa_cons (pv 2) pa_nil)))))))), ?_⟩)
  · obtain ⟨x, a, w, h, d, c, t, kvs, g, rfl, _⟩ := h
    rfl
  · skip
    obtain ⟨x, a, w, h, d, c, t, kvs, g, rfl, fr, D, ha, hg, hgl, q⟩ := h
    obtain ⟨l1, l2, l3, l4, l5, l6, l7⟩ := D.ok
    obtain ⟨a1, a2, a3, a4, a5, a6, a7, a8, a9, a10⟩ := id D
    obtain ⟨dx, hx⟩ := id fr
    walk_at "run"
    refine Gx.r1 (by omega) (by omega) ?_
    rw [Int.toNat_natCast]
    refine Gx.lcLst walk_range (by omega) (Dx.vrow g w t c d (w * h)) (fun _ _ => trivial) Gx.sameFn ?_ ?_
    · rintro j y H3 H3' R R0 hj s3 ⟨rfl, hy⟩ hr
      have hy2 : y = .int (j : Int) := hy.trans (congrArg V.int (by omega))
      subst hy2
      have hx3 := s3 _ _ hx
      walk_at "run"
      refine Gx.mp hx3 no_Frame_pixels ?_
      walk_at "run"
      refine cp_Frame_pixels (fr.keep s3) a2 ?_
      walk_at "run"
      refine Gx.r1 (by omega) (by omega) ?_
      rw [Int.toNat_natCast]
      refine Gx.lcMap walk_range (by omega) (fun i => .int ((Dx.vp g w t c d j i : Nat) : Int)) (fun _ _ => trivial) Gx.sameFn ?_ ?_
      · rintro i y H4 H4' R1 R01 hi s4 ⟨rfl, hy⟩ hr1
        have hy2 : y = .int (i : Int) := hy.trans (congrArg V.int (by omega))
        subst hy2
        walk_at "run"
        refine cp_value_in_packets ((fr.keep s3).keep s4) D (s4 _ _ (s3 _ _ ha)) hg hgl hj hi fun H5 s5 => ?_
        exact hr1 H5 s5
      intro p4 H4 n4 s4 h4
      exact hr p4 H4 n4 s4 (by rw [h4]; unfold Dx.vrow; rw [List.map_map]; rfl)
    intro p1 H1 n1 s1 h1
    have hx1 := s1 _ _ hx
    walk_at "run"
    have hR : Pq.RW H1 p1 (Dx.vrows g w t c d (w * h)) := Pq.RW.of h1 (Dx.vrows_len _ _ _ _ _ _) fun j hj => (Dx.vrows_at hj).symm
    refine mk_Picture ⟨a1, a2⟩ ⟨a3, a4⟩ ⟨a5, a6⟩ a7 a10 hR (Dx.vrows_ok _ _ _ _ _ _) fun y r H2 s2 ny nr P => ?_
    exact q y r H2 (s1.trans s2) (s1.free ny) P

theorem cp_picture_of {CF CP x a : Addr} {w h d c t : Nat} {kvs : List (List L2.Key × V)} {g : Nat → Nat → Nat → List Bool} {H : Hp} {Q : VK} {E : XK} (fr : Frm CF H x w h d c t) (D : Rg.Dim w h d c t) (ha : H a = some (.dT kvs)) (hg : Dx.PK kvs c (Gd.ac w t * Gd.ac h t) d g) (hgl : ∀ s k p, s < c → k < Gd.ac w t * Gd.ac h t → p < d → (g s k p).length = Rg.tileBox w h t k) (q : ∀ y r H', Same H H' → H y = none → Pic CP H' y r w h d c (fun i => (Dx.vrows g w t c d (w * h)).getD i []) → Q (.ref y) H') :
  Gx.CP (sp_picture_of CF CP) [.ref x, .ref a] [] H Q E := ⟨x, a, w, h, d, c, t, kvs, g, rfl, fr, D, ha, hg, hgl, q⟩

/-- the pixels of a tile, row by row -/
noncomputable def sp_tile_pixels (C : Addr) : Sp := fun vs H Q _ => ∃ (x : Addr) (w h d c t k : Nat), vs = [.ref x, .int (k : Int)] ∧ Frm C H x w h d c t ∧ 1 ≤ t ∧ t ≤ 16 ∧ 1 ≤ w ∧ w ≤ 64 ∧ 1 ≤ h ∧ h ≤ 64 ∧ k < Gd.ac w t * Gd.ac h t ∧
  ∀ p H', H p = none → Same H H' → H' p = some (.lst (Gx.made (Gd.sd w t (k % Gd.ac w t)) (fun i j => .int (((k / Gd.ac w t * t + i) * w + (k % Gd.ac w t * t + j) : Nat) : Int)) (Gd.sd h t (k / Gd.ac w t)))) → Q (.ref p) H'

theorem sc_tile_pixels : FnScope ["frame", "tile", "left", "top", "width", "height", "row", "column"] ["frame", "tile"] (defScope s_tile_pixels) := ⟨rfl, rfl, rfl, by decide +kernel, rfl, by decide +kernel, by decide +kernel⟩
theorem ok_tile_pixels (T : Tx P K mg) : FnOk P w K mg base CX0 4 T.tile_pixels.a T.tile_pixels.d ["frame", "tile"] (sp_tile_pixels T.a_Frame) := by
  refine T.tile_pixels.f.ok sc_tile_pixels (fun vs H Q E h => ?_) (fun cdv A outer s H vs Q E hr h => ⟨_, pss_cons (ps_asg (pe_call (ok_tile_corner T) (hr.mono (by decide)) rfl T.tile_corner.g T.tile_corner.f.kp T.tile_corner.b .nil pass0 (pa_cons (pv 0) (pa_cons (pv 1) pa_nil))) (pg_tup rfl (pgs_cons (pg_name (i := 2) sc_tile_pixels.nd rfl (Or.inr rfl)) (pgs_cons (pg_name (i := 3) sc_tile_pixels.nd rfl (Or.inl rfl)) pgs_nil))))
      (pss_cons (ps_asg (pe_call (ok_tile_size T) (hr.mono (by decide)) rfl T.tile_size.g T.tile_size.f.kp T.tile_size.b .nil pass0 (pa_cons (pv 0) (pa_cons (pv 1) pa_nil))) (pg_tup rfl (pgs_cons (pg_name (i := 4) sc_tile_pixels.nd rfl (Or.inr rfl)) (pgs_cons (pg_name (i := 5) sc_tile_pixels.nd rfl (Or.inl rfl)) pgs_nil))))
      (pss_one (ps_ret (pe_lc2 (own := [("row", 6), ("column", 7)]) (vs1 := [7]) (g := (gName 6)) (g1 := (gName 7)) (tt := tYes) (tt1 := tYes) rfl sc_tile_pixels.nd (pi_range2 rfl T.n_range (pa_cons (pv 3) (pa_cons (pe_op op_add (pv 3) (pv 5)) pa_nil))) (blkOk_by (own := [("row", 6), ("column", 7)]) (N := ["frame", "tile", "left", "top", "width", "height", "row", "column"]) (sc := defScope s_tile_pixels) (by decide +kernel)) (by decide) (fun _ _ _ _ _ => (pg_name (i := 6) sc_tile_pixels.nd rfl (Or.inl rfl))) (fun _ _ _ _ _ => pts_nil) (fun _ _ _ _ _ => pi_range2 rfl T.n_range (pa_cons (pv 2) (pa_cons (pe_op op_add (pv 2) (pv 4)) pa_nil))) (fun _ _ _ _ _ => (pg_name (i := 7) sc_tile_pixels.nd rfl (Or.inl rfl))) (fun _ _ _ _ _ => pts_nil) (fun _ _ _ _ _ => pe_op op_add (pe_op op_mul (pv 6) (Gx.pe_fldK (K := K) rfl (pv 0) rfl)) (pv 7)))))), ?_⟩)
  · obtain ⟨x, w, h, d, c, t, k, rfl, _⟩ := h
    rfl
  · skip
    obtain ⟨x, w, h, d, c, t, k, rfl, fr, ht1, ht2, hw1, hw, hh1, hh, hk, q⟩ := h
    have l1 := Gd.ac_le (n := w) (t := t) (by omega)
    have l2 := Gd.ac_pos (n := w) (t := t) (by omega) (by omega)
    have l3 := Gd.ac_le (n := h) (t := t) (by omega)
    have l4 : Gd.ac w t * Gd.ac h t ≤ 64 * 64 := Nat.mul_le_mul (by omega) (by omega)
    have m1 : k % Gd.ac w t < Gd.ac w t := Nat.mod_lt _ l2
    have m2 : k / Gd.ac w t < Gd.ac h t := Nat.div_lt_of_lt_mul hk
    have b1 := Gd.ac_mul (n := w) (t := t) (by omega) m1
    have b2 := Gd.ac_mul (n := h) (t := t) (by omega) m2
    have sw : Gd.sd w t (k % Gd.ac w t) ≤ 16 := by unfold Gd.sd; omega
    have sh : Gd.sd h t (k / Gd.ac w t) ≤ 16 := by unfold Gd.sd; omega
    walk_at "go"
    refine cp_tile_corner fr ht1 ht2 hw1 hw (by omega) fun p1 hp1 => ?_
    refine Gx.gtup (SqT.of upd_same) rfl ?_
    have s1 := Gx.same_new (o := .tup [.int (k % Gd.ac w t * t : Nat), .int (k / Gd.ac w t * t : Nat)]) hp1
    have fr1 := fr.keep s1
    walk_at "go"
    refine cp_tile_size fr1 ht1 ht2 hw1 hw hh1 hh hk fun p2 H2 hp2 s2 h2 => ?_
    refine Gx.gtup (SqT.of h2) rfl ?_
    have s12 := s1.trans s2
    generalize k % Gd.ac w t * t = X0 at *
    generalize k / Gd.ac w t * t = Y0 at *
    generalize Gd.sd w t (k % Gd.ac w t) = W0 at *
    generalize Gd.sd h t (k / Gd.ac w t) = H0 at *
    walk_at "go"
    refine Gx.r2 ⟨by omega, by omega, by omega, by omega⟩ ?_
    rw [show ((Y0 : Int) + (H0 : Int) - (Y0 : Int)).toNat = H0 by omega]
    refine Gx.lc2O walk_range (fun D i H' => H D = none ∧ Same H H' ∧ H' D = some (.lst (Gx.made W0 (fun i j => .int (((Y0 + i) * w + (X0 + j) : Nat) : Int)) i)))
      (fun D hD => ⟨s12.free hD, Gx.same_up (s12.free hD) s12, upd_same⟩) (fun _ _ _ _ _ => trivial) ?_ (fun D H' hD hp => q D H' hp.1 hp.2.1 hp.2.2)
    rintro D i v H3 H3' hi ⟨hD, s3, h3⟩ ⟨rfl, hv⟩
    have hv2 : v = .int ((Y0 + i : Nat) : Int) := hv.trans (congrArg V.int (by omega))
    subst hv2

    walk_at "go"
    refine Gx.r2 ⟨by omega, by omega, by omega, by omega⟩ ?_
    rw [show ((X0 : Int) + (W0 : Int) - (X0 : Int)).toNat = W0 by omega]
    refine Gx.lc2I walk_range (fun j H' => (∀ a, a ≠ D → H' a = H3' a) ∧ H' D = some (.lst (Gx.made W0 (fun i j => .int (((Y0 + i) * w + (X0 + j) : Nat) : Int)) i ++ (List.range j).map fun j => .int (((Y0 + i) * w + (X0 + j) : Nat) : Int))))
      ⟨fun _ _ => rfl, by rw [h3]; simp⟩ (fun _ _ _ _ => trivial) ?_ ?_
    · rintro j v H4 H4' hj ⟨k4, h4⟩ ⟨rfl, hv⟩
      have hv2 : v = .int ((X0 + j : Nat) : Int) := hv.trans (congrArg V.int (by omega))
      subst hv2
      obtain ⟨dx, hx⟩ := fr.keep s3
      have xD : x ≠ D := ne_of hx h3 (by intro z; cases z)
      have hx := (k4 x xD).trans hx
      walk_at "go"
      refine Gx.ic (.inr (by omega)) ?_
      walk_at "go"
      refine ⟨_, h4, ?_, fun a ha => by rw [upd_ne ha]; exact k4 a ha, ?_⟩
      · rw [List.length_append, Gx.made_len, List.length_map, List.length_range, sizeLine_eq]
        have : i * W0 ≤ 16 * 16 := Nat.mul_le_mul (by omega) sw
        omega
      · rw [upd_same, List.range_succ, List.map_append, List.append_assoc, ← Int.natCast_mul, ← Int.natCast_add]; rfl
    · rintro H4 ⟨k4, h4⟩
      refine ⟨hD, fun a o e => ?_, by rw [h4, Gx.made_succ]⟩
      by_cases ha : a = D
      · subst ha; rw [hD] at e; cases e
      · rw [k4 a ha]; exact s3 a o e

theorem cp_tile_pixels {C x : Addr} {w h d c t k : Nat} {H : Hp} {Q : VK} {E : XK} (f : Frm C H x w h d c t) (h1 : 1 ≤ t) (h2 : t ≤ 16) (hw1 : 1 ≤ w) (hw : w ≤ 64) (hh1 : 1 ≤ h) (hh : h ≤ 64) (hk : k < Gd.ac w t * Gd.ac h t)
    (q : ∀ p H', H p = none → Same H H' → H' p = some (.lst (Gx.made (Gd.sd w t (k % Gd.ac w t)) (fun i j => .int (((k / Gd.ac w t * t + i) * w + (k % Gd.ac w t * t + j) : Nat) : Int)) (Gd.sd h t (k / Gd.ac w t)))) → Q (.ref p) H') :
    Gx.CP (sp_tile_pixels C) [.ref x, .int (k : Int)] [] H Q E := ⟨x, w, h, d, c, t, k, rfl, f, h1, h2, hw1, hw, hh1, hh, hk, q⟩

noncomputable def sp_gray_bit : Sp := fun vs H Q _ => ∃ (v p : Nat), vs = [.int (v : Int), .int (p : Int)] ∧ Q (.int (Gy.gb v p : Nat)) H

theorem sc_gray_bit : FnScope ["value", "plane"] ["value", "plane"] (defScope s_gray_bit) := ⟨rfl, rfl, rfl, by decide +kernel, rfl, by decide +kernel, by decide +kernel⟩
theorem ok_gray_bit (T : Tx P K mg) : FnOk P w K mg base CX0 1 T.gray_bit.a T.gray_bit.d ["value", "plane"] (sp_gray_bit) := by
  refine T.gray_bit.f.ok sc_gray_bit (fun vs H Q E h => ?_) (fun cdv A outer s H vs Q E hr h => ⟨_, pss_one (ps_ret (pe_op op_and (pe_op op_xor (pe_op op_shr (pv 0) (pv 1)) (pe_op op_shr (pv 0) (pe_op op_add (pv 1) (pe_int)))) (pe_int))), ?_⟩)
  · obtain ⟨v, p, rfl, _⟩ := h
    rfl
  · skip
    obtain ⟨v, p, rfl, q⟩ := h
    walk_at "go"
    refine Gx.ic (by walk_at "side") ?_
    walk_at "go"
    refine Gx.ic (by walk_at "side") ?_
    walk_at "go"
    rw [show (Builtin.bitAnd (Builtin.bitXor ((v : Int) / 2 ^ (p : Int).toNat) ((v : Int) / 2 ^ ((p : Int) + 1).toNat)) 1) = ((Gy.gb v p : Nat) : Int) from Gy.gb_int v p]
    exact q

theorem cp_gray_bit {a b : Int} {H : Hp} {Q : VK} {E : XK} (h0 : 0 ≤ a) (h1 : 0 ≤ b) (q : Q (.int (Gy.gb a.toNat b.toNat : Nat)) H) : Gx.CP sp_gray_bit [.int a, .int b] [] H Q E :=
  ⟨a.toNat, b.toNat, by rw [List.append_nil, Int.toNat_of_nonneg h0, Int.toNat_of_nonneg h1], q⟩

noncomputable def sp_Picture_value (C : Addr) : Sp := fun vs H Q _ => ∃ (x r : Addr) (w h d c j k : Nat) (f : Nat → List Int), vs = [.ref x, .int (j : Int), .int (k : Int)] ∧ Pic C H x r w h d c f ∧ j < c ∧ k < (f j).length ∧ Q (.int ((f j).getD k 0)) H

theorem sc_Picture_value : FnScope ["self", "channel", "pixel"] ["self", "channel", "pixel"] (defScope s_Picture_value) := ⟨rfl, rfl, rfl, by decide +kernel, rfl, by decide +kernel, by decide +kernel⟩
theorem ok_Picture_value (T : Tx P K mg) : FnOk P w K mg base CX0 1 T.Picture_value.a T.Picture_value.d ["self", "channel", "pixel"] (sp_Picture_value T.a_Picture) := by
  refine T.Picture_value.f.ok sc_Picture_value (fun vs H Q E h => ?_) (fun cdv A outer s H vs Q E hr h => ⟨_, pss_one (ps_ret (pe_ix (Gx.ix_seqK (K := K) rfl) (pe_ix (Gx.ix_seqK (K := K) rfl) (pe_fld (pv 0) rfl) (pv 1) (fun _ _ => rfl)) (pv 2) (fun _ _ => rfl))), ?_⟩)
  · obtain ⟨x, r, w, h, d, c, j, k, f, rfl, _⟩ := h
    rfl
  · skip
    obtain ⟨x, r, w, h, d, c, j, k, f, rfl, ⟨⟨dx, hx⟩, ll⟩, hj, hk, q⟩ := h
    obtain ⟨xs, b, h1, h2, h3⟩ := ll.get hj
    walk_at "go"
    refine Gx.ixL (SqL.of h1) h2 ?_
    walk_at "go"
    refine Gx.ixL (SqL.of h3) (Gx.at_map hk) ?_
    exact q

theorem cp_Picture_value {C x r : Addr} {w h d c j k : Nat} {f : Nat → List Int} {H : Hp} {Q : VK} {E : XK} (p : Pic C H x r w h d c f) (hj : j < c) (hk : k < (f j).length) (q : Q (.int ((f j).getD k 0)) H) : Gx.CP (sp_Picture_value C) [.ref x, .int (j : Int), .int (k : Int)] [] H Q E := ⟨x, r, w, h, d, c, j, k, f, rfl, p, hj, hk, q⟩

noncomputable def sp_stored_bit (C : Addr) : Sp := fun vs H Q _ => ∃ (x r : Addr) (w h d c j k p : Nat) (f : Nat → List Int), vs = [.ref x, .int (j : Int), .int (k : Int), .int (p : Int)] ∧ Pic C H x r w h d c f ∧ (c = 1 ∨ c = 3) ∧ j < c ∧ (∀ i, i < c → k < (f i).length ∧ ∀ z ∈ f i, 0 ≤ z) ∧ Q (.int (Gd.sb f c j k p : Nat)) H

theorem sc_stored_bit : FnScope ["picture", "channel", "pixel", "plane", "middle", "other"] ["picture", "channel", "pixel", "plane"] (defScope s_stored_bit) := ⟨rfl, rfl, rfl, by decide +kernel, rfl, by decide +kernel, by decide +kernel⟩
theorem ok_stored_bit (T : Tx P K mg) : FnOk P w K mg base CX0 2 T.stored_bit.a T.stored_bit.d ["picture", "channel", "pixel", "plane"] (sp_stored_bit T.a_Picture) := by
  refine T.stored_bit.f.ok sc_stored_bit (fun vs H Q E h => ?_) (fun cdv A outer s H vs Q E hr h => ⟨_, pss_cons (ps_if (pt_cmpR op_eq (pe_fld (pv 0) rfl) (pe_int) (nomark _)) (pss_one (ps_ret (pe_call (ok_gray_bit T) (hr.mono (by decide)) rfl T.gray_bit.g T.gray_bit.f.kp T.gray_bit.b .nil pass0 (pa_cons (pe_meth (pv 0) T.cl_Picture T.Picture_value.m (ok_Picture_value T) (hr.mono (by decide)) T.Picture_value.b .nil pass0 (pa_cons (pe_int) (pa_cons (pv 2) pa_nil))) (pa_cons (pv 3) pa_nil))))) (pss_nil))
      (pss_cons (ps_set (i := 4) sc_stored_bit.nd rfl (Or.inl rfl) (pe_call (ok_gray_bit T) (hr.mono (by decide)) rfl T.gray_bit.g T.gray_bit.f.kp T.gray_bit.b .nil pass0 (pa_cons (pe_meth (pv 0) T.cl_Picture T.Picture_value.m (ok_Picture_value T) (hr.mono (by decide)) T.Picture_value.b .nil pass0 (pa_cons (pe_int) (pa_cons (pv 2) pa_nil))) (pa_cons (pv 3) pa_nil))))
      (pss_cons (ps_if (pt_cmpR op_eq (pv 1) (pe_int) (nomark _)) (pss_one (ps_ret (pv 4))) (pss_nil))
      (pss_cons (ps_set (i := 5) sc_stored_bit.nd rfl (Or.inl rfl) (pe_ifExp (pt_cmpR op_eq (pv 1) (pe_int) (nomark _)) (pe_int) (pe_int)))
      (pss_one (ps_ret (pe_op op_xor (pv 4) (pe_call (ok_gray_bit T) (hr.mono (by decide)) rfl T.gray_bit.g T.gray_bit.f.kp T.gray_bit.b .nil pass0 (pa_cons (pe_meth (pv 0) T.cl_Picture T.Picture_value.m (ok_Picture_value T) (hr.mono (by decide)) T.Picture_value.b .nil pass0 (pa_cons (pv 5) (pa_cons (pv 2) pa_nil))) (pa_cons (pv 3) pa_nil))))))))), ?_⟩)
  · obtain ⟨x, r, w, h, d, c, j, k, p, f, rfl, _⟩ := h
    rfl
  · skip
    obtain ⟨x, r, w, h, d, c, j, k, p, f, rfl, pc, hc, hj, hf, q⟩ := h
    obtain ⟨dx, hx⟩ := pc.ob
    walk_at "go"
    refine Gx.if_d (fun e => ?_) (fun e => ?_)
    · have e1 : c = 1 := by omega
      walk_at "go"
      refine Gx.mp hx no_Picture_value ?_
      walk_at "go"
      refine cp_Picture_value (j := 0) pc (by omega) (hf 0 (by omega)).1 ?_
      walk_at "go"
      rw [Gd.vl_int (hf 0 (by omega)).1 (hf 0 (by omega)).2]
      refine cp_gray_bit (by omega) (by omega) ?_
      rw [Int.toNat_natCast, Int.toNat_natCast]
      unfold Gd.sb at q
      rw [if_pos e1] at q
      exact q
    have e3 : c = 3 := by omega
    have ne1 : ¬ c = 1 := by omega
    unfold Gd.sb at q
    rw [if_neg ne1] at q
    walk_at "go"
    refine Gx.mp hx no_Picture_value ?_
    walk_at "go"
    refine cp_Picture_value (j := 1) pc (by omega) (hf 1 (by omega)).1 ?_
    walk_at "go"
    rw [Gd.vl_int (hf 1 (by omega)).1 (hf 1 (by omega)).2]
    refine cp_gray_bit (by omega) (by omega) ?_
    rw [Int.toNat_natCast, Int.toNat_natCast]
    walk_at "go"
    refine Gx.if_d (fun e => ?_) (fun e => ?_)
    · walk_at "go"
      rw [if_pos (by omega)] at q
      exact q
    rw [if_neg (by omega)] at q
    walk_at "go"
    refine Gx.if_d (fun e1 => ?_) (fun e1 => ?_)
    · walk_at "go"
      refine Gx.mp hx no_Picture_value ?_
      walk_at "go"
      refine cp_Picture_value (j := 0) pc (by omega) (hf 0 (by omega)).1 ?_
      walk_at "go"
      rw [Gd.vl_int (hf 0 (by omega)).1 (hf 0 (by omega)).2]
      refine cp_gray_bit (by omega) (by omega) ?_
      rw [Int.toNat_natCast, Int.toNat_natCast]
      refine Gx.i0 ?_
      rw [Gd.xr_int (Gy.gb_le _ _) (Gy.gb_le _ _)]
      rw [if_pos (show j = 1 by omega)] at q
      exact q
    · walk_at "go"
      refine Gx.mp hx no_Picture_value ?_
      walk_at "go"
      refine cp_Picture_value (j := 2) pc (by omega) (hf 2 (by omega)).1 ?_
      walk_at "go"
      rw [Gd.vl_int (hf 2 (by omega)).1 (hf 2 (by omega)).2]
      refine cp_gray_bit (by omega) (by omega) ?_
      rw [Int.toNat_natCast, Int.toNat_natCast]
      refine Gx.i0 ?_
      rw [Gd.xr_int (Gy.gb_le _ _) (Gy.gb_le _ _)]
      rw [if_neg (show ¬ j = 1 by omega)] at q
      exact q

theorem cp_stored_bit {C x r : Addr} {w h d c j k p : Nat} {f : Nat → List Int} {H : Hp} {Q : VK} {E : XK} (pc : Pic C H x r w h d c f) (hc : c = 1 ∨ c = 3) (hj : j < c) (hf : ∀ i, i < c → k < (f i).length ∧ ∀ z ∈ f i, 0 ≤ z) (q : Q (.int (Gd.sb f c j k p : Nat)) H) :
    Gx.CP (sp_stored_bit C) [.ref x, .int (j : Int), .int (k : Int), .int (p : Int)] [] H Q E := ⟨x, r, w, h, d, c, j, k, p, f, rfl, pc, hc, hj, hf, q⟩

noncomputable def sp_Frame_down (C : Addr) : Sp := fun vs H Q _ => ∃ (x : Addr) (w h d c t : Nat), vs = [.ref x] ∧ Frm C H x w h d c t ∧ 1 ≤ t ∧ t ≤ 16 ∧ Q (.int (Gd.ac h t : Nat)) H

theorem sc_Frame_down : FnScope ["self"] ["self"] (defScope s_Frame_down) := ⟨rfl, rfl, rfl, by decide +kernel, rfl, by decide +kernel, by decide +kernel⟩
theorem ok_Frame_down (T : Tx P K mg) : FnOk P w K mg base CX0 1 T.Frame_down.a T.Frame_down.d ["self"] (sp_Frame_down T.a_Frame) := by
  refine T.Frame_down.f.ok sc_Frame_down (fun vs H Q E h => ?_) (fun cdv A outer s H vs Q E hr h => ⟨_, pss_one (ps_ret (pe_op op_fdiv (pe_op op_sub (pe_op op_add (pe_fld (pv 0) rfl) (pe_fld (pv 0) rfl)) (pe_int)) (pe_fld (pv 0) rfl))), ?_⟩)
  · obtain ⟨x, w, h, d, c, t, rfl, _⟩ := h
    rfl
  · skip
    obtain ⟨x, w, h, d, c, t, rfl, ⟨dx, hx⟩, ht1, ht2, q⟩ := h
    walk_at "go"
    refine Gx.ic ⟨by omega, by omega⟩ ?_
    rw [Gd.ac_int (by omega)]
    exact q

theorem cp_Frame_down {C x : Addr} {w h d c t : Nat} {H : Hp} {Q : VK} {E : XK} (f : Frm C H x w h d c t) (h1 : 1 ≤ t) (h2 : t ≤ 16) (q : Q (.int (Gd.ac h t : Nat)) H) : Gx.CP (sp_Frame_down C) [.ref x] [] H Q E := ⟨x, w, h, d, c, t, rfl, f, h1, h2, q⟩

noncomputable def sp_Frame_tiles (C : Addr) : Sp := fun vs H Q _ => ∃ (x : Addr) (w h d c t : Nat), vs = [.ref x] ∧ Frm C H x w h d c t ∧ 1 ≤ t ∧ t ≤ 16 ∧ w ≤ 64 ∧ h ≤ 64 ∧ Q (.int (Gd.ac w t * Gd.ac h t : Nat)) H

theorem sc_Frame_tiles : FnScope ["self"] ["self"] (defScope s_Frame_tiles) := ⟨rfl, rfl, rfl, by decide +kernel, rfl, by decide +kernel, by decide +kernel⟩
theorem ok_Frame_tiles (T : Tx P K mg) : FnOk P w K mg base CX0 2 T.Frame_tiles.a T.Frame_tiles.d ["self"] (sp_Frame_tiles T.a_Frame) := by
  refine T.Frame_tiles.f.ok sc_Frame_tiles (fun vs H Q E h => ?_) (fun cdv A outer s H vs Q E hr h => ⟨_, pss_one (ps_ret (pe_op op_mul (pe_meth0 (pv 0) T.cl_Frame T.Frame_across.m (ok_Frame_across T) (hr.mono (by decide)) T.Frame_across.b .nil pass0) (pe_meth0 (pv 0) T.cl_Frame T.Frame_down.m (ok_Frame_down T) (hr.mono (by decide)) T.Frame_down.b .nil pass0))), ?_⟩)
  · obtain ⟨x, w, h, d, c, t, rfl, _⟩ := h
    rfl
  · skip
    obtain ⟨x, w, h, d, c, t, rfl, ⟨dx, hx⟩, ht1, ht2, hw, hh, q⟩ := h
    have l1 := Gd.ac_le (n := w) (t := t) (by omega)
    walk_at "go"
    refine Gx.mp hx no_Frame_across ?_
    walk_at "go"
    refine cp_Frame_across ⟨dx, hx⟩ ht1 ht2 ?_
    walk_at "go"
    refine Gx.mp hx no_Frame_down ?_
    walk_at "go"
    refine cp_Frame_down ⟨dx, hx⟩ ht1 ht2 ?_
    refine Gx.ic (.inl (by omega)) ?_
    rw [← Int.natCast_mul]
    exact q

theorem cp_Frame_tiles {C x : Addr} {w h d c t : Nat} {H : Hp} {Q : VK} {E : XK} (f : Frm C H x w h d c t) (h1 : 1 ≤ t) (h2 : t ≤ 16) (hw : w ≤ 64) (hh : h ≤ 64) (q : Q (.int (Gd.ac w t * Gd.ac h t : Nat)) H) : Gx.CP (sp_Frame_tiles C) [.ref x] [] H Q E := ⟨x, w, h, d, c, t, rfl, f, h1, h2, hw, hh, q⟩

noncomputable def sp_check_key (CE C : Addr) : Sp := fun vs H Q E => ∃ (x p : Addr) (w h d c t : Nat) (ch ti pl : Int), vs = [.ref x, .ref p] ∧ Frm C H x w h d c t ∧ 1 ≤ t ∧ t ≤ 16 ∧ w ≤ 64 ∧ h ≤ 64 ∧ H p = some (.tup [.int ch, .int ti, .int pl]) ∧
  (Sx.keyBad c (Gd.ac w t * Gd.ac h t) d ch ti pl = none → Q .non H) ∧ (∀ z, Sx.keyBad c (Gd.ac w t * Gd.ac h t) d ch ti pl = some z → Sx.Err CE H z E)

theorem sc_check_key : FnScope ["frame", "key", "channel", "tile", "plane"] ["frame", "key"] (defScope s_check_key) := ⟨rfl, rfl, rfl, by decide +kernel, rfl, by decide +kernel, by decide +kernel⟩
theorem ok_check_key (T : Tx P K mg) : FnOk P w K mg base (L2.CX P w) 4 T.check_key.a T.check_key.d ["frame", "key"] (sp_check_key T.x_OutOfRange.C T.a_Frame) := by
  refine T.check_key.f.okX sc_check_key (fun vs H Q E h => ?_) (fun cdv A outer s H vs Q E hr h => ⟨_, pss_cons (ps_asg (pv 1) (pg_tup rfl (pgs_cons (pg_name (i := 2) sc_check_key.nd rfl (Or.inl rfl)) (pgs_cons (pg_name (i := 3) sc_check_key.nd rfl (Or.inl rfl)) (pgs_cons (pg_name (i := 4) sc_check_key.nd rfl (Or.inl rfl)) pgs_nil)))))
      (pss_cons (ps_expr (pe_callS (ok_check_range T) (hr.mono (by decide)) rfl T.check_range.g T.check_range.f.kp T.check_range.b (fun σ => passAt (takes_of rfl rfl rfl rfl) σ) (pa_cons (pe_str) (pa_cons (pv 2) (pa_cons (pe_int) (pa_cons (pe_op op_sub (pe_fld (pv 0) rfl) (pe_int)) pa_nil))))))
      (pss_cons (ps_expr (pe_callS (ok_check_range T) (hr.mono (by decide)) rfl T.check_range.g T.check_range.f.kp T.check_range.b (fun σ => passAt (takes_of rfl rfl rfl rfl) σ) (pa_cons (pe_str) (pa_cons (pv 3) (pa_cons (pe_int) (pa_cons (pe_op op_sub (pe_meth0 (pv 0) T.cl_Frame T.Frame_tiles.m (ok_Frame_tiles T) (hr.mono (by decide)) T.Frame_tiles.b .nil pass0) (pe_int)) pa_nil))))))
      (pss_one (ps_expr (pe_callS (ok_check_range T) (hr.mono (by decide)) rfl T.check_range.g T.check_range.f.kp T.check_range.b (fun σ => passAt (takes_of rfl rfl rfl rfl) σ) (pa_cons (pe_str) (pa_cons (pv 4) (pa_cons (pe_int) (pa_cons (pe_op op_sub (pe_fld (pv 0) rfl) (pe_int)) pa_nil))))))))), ?_⟩)
  · obtain ⟨x, p, w, h, d, c, t, ch, ti, pl, rfl, _⟩ := h
    rfl
  · skip
    obtain ⟨x, p, w, h, d, c, t, ch, ti, pl, rfl, fr, ht1, ht2, hw, hh, hp, q, qe⟩ := h
    unfold Sx.keyBad at q qe
    obtain ⟨dx, hx⟩ := id fr
    walk_at "go"
    refine Gx.gtup (SqT.of hp) rfl ?_
    walk_at "go"
    refine cs_check_range (fun a1 a2 => ?_) (fun a => qe _ (if_pos a))
    rw [if_neg (not_not_intro ⟨a1, a2⟩)] at q qe
    walk_at "go"
    refine Gx.mp hx no_Frame_tiles ?_
    walk_at "go"
    refine cp_Frame_tiles fr ht1 ht2 hw hh ?_
    walk_at "go"
    refine cs_check_range (fun b1 b2 => ?_) (fun a => qe _ (if_pos a))
    rw [if_neg (not_not_intro ⟨b1, b2⟩)] at q qe
    walk_at "go"
    refine cs_check_range (fun c1 c2 => ?_) (fun a => qe _ (if_pos a))
    rw [if_neg (not_not_intro ⟨c1, c2⟩)] at q
    walk_at "go"
    exact q rfl

theorem cs_check_key {CE C x p : Addr} {w h d c t : Nat} {ch ti pl : Int} {H : Hp} {Q : VK} {E : XK} (f : Frm C H x w h d c t) (h1 : 1 ≤ t) (h2 : t ≤ 16) (hw : w ≤ 64) (hh : h ≤ 64) (hp : H p = some (.tup [.int ch, .int ti, .int pl]))
    (q : Sx.keyBad c (Gd.ac w t * Gd.ac h t) d ch ti pl = none → Q .non H) (qe : ∀ z, Sx.keyBad c (Gd.ac w t * Gd.ac h t) d ch ti pl = some z → Sx.Err CE H z E) : Sx.CS (sp_check_key CE C) [.ref x, .ref p] H Q E := ⟨x, p, w, h, d, c, t, ch, ti, pl, rfl, f, h1, h2, hw, hh, hp, q, qe⟩

noncomputable def sp_fits_frame (K : PySem.W.Frag) : Sp := fun vs H Q _ => ∃ (x y : Addr) (w h d c w' h' d' c' : Int), vs = [.ref x, .ref y] ∧ Nx.K4 K H x (.int w) (.int h) (.int d) (.int c) ∧ Nx.K4 K H y (.int w') (.int h') (.int d') (.int c') ∧ Q (.bl (decide (w = w' ∧ h = h' ∧ d = d' ∧ c = c'))) H

theorem sc_fits_frame : FnScope ["frame", "picture"] ["frame", "picture"] (defScope s_fits_frame) := ⟨rfl, rfl, rfl, by decide +kernel, rfl, by decide +kernel, by decide +kernel⟩
theorem ok_fits_frame (T : Tx P K mg) : FnOk P w K mg base CX0 2 T.fits_frame.a T.fits_frame.d ["frame", "picture"] (sp_fits_frame K) := by
  refine T.fits_frame.f.ok sc_fits_frame (fun vs H Q E h => ?_) (fun cdv A outer s H vs Q E hr h => ⟨_, pss_one (ps_ret (pe_call (ok_same_kind T) (hr.mono (by decide)) rfl T.same_kind.g T.same_kind.f.kp T.same_kind.b .nil pass0 (pa_cons (pv 0) (pa_cons (pv 1) pa_nil)))), ?_⟩)
  · obtain ⟨x, y, w, h, d, c, w', h', d', c', rfl, _⟩ := h
    rfl
  · skip
    obtain ⟨x, y, w, h, d, c, w', h', d', c', rfl, hx, hy, q⟩ := h
    walk_at "run"
    exact cp_same_kind hx hy q

theorem cp_fits_frame {K : PySem.W.Frag} {x y : Addr} {w h d c w' h' d' c' : Int} {H : Hp} {Q : VK} {E : XK} (hx : Nx.K4 K H x (.int w) (.int h) (.int d) (.int c)) (hy : Nx.K4 K H y (.int w') (.int h') (.int d') (.int c')) (q : Q (.bl (decide (w = w' ∧ h = h' ∧ d = d' ∧ c = c'))) H) : Gx.CP (sp_fits_frame K) [.ref x, .ref y] [] H Q E := ⟨x, y, w, h, d, c, w', h', d', c', rfl, hx, hy, q⟩

noncomputable def sp_check_fits (K : PySem.W.Frag) (CO : Addr) : Sp := fun vs H Q E => ∃ (x y : Addr) (w h d c w' h' d' c' : Int), vs = [.ref x, .ref y] ∧ Nx.K4 K H x (.int w) (.int h) (.int d) (.int c) ∧ Nx.K4 K H y (.int w') (.int h') (.int d') (.int c') ∧ ((w = w' ∧ h = h' ∧ d = d' ∧ c = c') → Q .non H) ∧ (¬ (w = w' ∧ h = h' ∧ d = d' ∧ c = c') → Sx.ErrB CO H E)

theorem sc_check_fits : FnScope ["frame", "picture"] ["frame", "picture"] (defScope s_check_fits) := ⟨rfl, rfl, rfl, by decide +kernel, rfl, by decide +kernel, by decide +kernel⟩
theorem ok_check_fits (T : Tx P K mg) : FnOk P w K mg base (L2.CX P w) 3 T.check_fits.a T.check_fits.d ["frame", "picture"] (sp_check_fits K T.y_OtherKind.C) := by
  refine T.check_fits.f.okX sc_check_fits (fun vs H Q E h => ?_) (fun cdv A outer s H vs Q E hr h => ⟨_, pss_one (ps_if (pt_not (pt_val (pe_call (ok_fits_frame T) (hr.mono (by decide)) rfl T.fits_frame.g T.fits_frame.f.kp T.fits_frame.b .nil pass0 (pa_cons (pv 0) (pa_cons (pv 1) pa_nil))))) (pss_one (ps_raise rfl (takes_of rfl rfl rfl rfl) (pmk_own PySem.F.excBase_ValueError T.y_OtherKind.x T.y_OtherKind.g T.y_OtherKind.k (raises_own T.y_OtherKind.b T.y_OtherKind.t) rfl))) (pss_nil)), ?_⟩)
  · obtain ⟨x, y, w, h, d, c, w', h', d', c', rfl, _⟩ := h
    rfl
  · skip
    obtain ⟨x, y, w, h, d, c, w', h', d', c', rfl, hx, hy, q, qe⟩ := h
    walk_at "run"
    refine cp_fits_frame hx hy ?_
    walk_at "run"
    refine Gx.if_dn (fun e => ?_) (fun e => ?_)
    · walk_at "run"
      exact qe e H (Same.refl _)
    walk_at "run"
    exact q e

theorem cs_check_fits {K : PySem.W.Frag} {CO x y : Addr} {w h d c w' h' d' c' : Int} {H : Hp} {Q : VK} {E : XK} (hx : Nx.K4 K H x (.int w) (.int h) (.int d) (.int c)) (hy : Nx.K4 K H y (.int w') (.int h') (.int d') (.int c')) (q : (w = w' ∧ h = h' ∧ d = d' ∧ c = c') → Q .non H) (qe : ¬ (w = w' ∧ h = h' ∧ d = d' ∧ c = c') → Sx.ErrB CO H E) : Sx.CS (sp_check_fits K CO) [.ref x, .ref y] H Q E := ⟨x, y, w, h, d, c, w', h', d', c', rfl, hx, hy, q, qe⟩

noncomputable def sp_packet_bits (CE CO CF CP : Addr) : Sp := fun vs H Q E => ∃ (x y r p : Addr) (w h d c t w' h' d' c' : Nat) (f : List (List Int)) (ch ti pl : Int), vs = [.ref x, .ref y, .ref p] ∧ Frm CF H x w h d c t ∧ Rg.Dim w h d c t ∧ Pic CP H y r w' h' d' c' (fun i => f.getD i []) ∧ Pq.rowsOk (w' * h') d' c' f ∧ H p = some (.tup [.int ch, .int ti, .int pl]) ∧
  (¬ (w = w' ∧ h = h' ∧ d = d' ∧ c = c') → Sx.ErrB CO H E) ∧ ((w = w' ∧ h = h' ∧ d = d' ∧ c = c') → ∀ z, Sx.keyBad c (Gd.ac w t * Gd.ac h t) d ch ti pl = some z → Sx.Err CE H z E) ∧
  ((w = w' ∧ h = h' ∧ d = d' ∧ c = c') → Sx.keyBad c (Gd.ac w t * Gd.ac h t) d ch ti pl = none → ∀ H', Same H H' → Q (.str (Bs.S (Pb.pb w h t (fun i => f.getD i []) c ch.toNat ti.toNat pl.toNat))) H')
theorem keyBad_none {c n d : Nat} {ch ti pl : Int} (e : Sx.keyBad c n d ch ti pl = none) : (0 ≤ ch ∧ ch < c) ∧ (0 ≤ ti ∧ ti < n) ∧ (0 ≤ pl ∧ pl < d) := by
  unfold Sx.keyBad at e
  by_cases h1 : 0 ≤ ch ∧ ch ≤ (c : Int) - 1 <;> by_cases h2 : 0 ≤ ti ∧ ti ≤ (n : Int) - 1 <;> by_cases h3 : 0 ≤ pl ∧ pl ≤ (d : Int) - 1 <;> simp [h1, h2, h3] at e
  omega

theorem sc_packet_bits : FnScope ["frame", "picture", "key", "channel", "tile", "plane", "bits", "pixel", "bit"] ["frame", "picture", "key"] (defScope s_packet_bits) := ⟨rfl, rfl, rfl, by decide +kernel, rfl, by decide +kernel, by decide +kernel⟩
theorem ok_packet_bits (T : Tx P K mg) : FnOk P w K mg base (L2.CX P w) 5 T.packet_bits.a T.packet_bits.d ["frame", "picture", "key"] (sp_packet_bits T.x_OutOfRange.C T.y_OtherKind.C T.a_Frame T.a_Picture) := by
  refine T.packet_bits.f.okX sc_packet_bits (fun vs H Q E h => ?_) (fun cdv A outer s H vs Q E hr h => ⟨_, pss_cons (ps_expr (pe_callS (ok_check_fits T) (hr.mono (by decide)) rfl T.check_fits.g T.check_fits.f.kp T.check_fits.b (fun σ => passAt (takes_of rfl rfl rfl rfl) σ) (pa_cons (pv 0) (pa_cons (pv 1) pa_nil))))
      (pss_cons (ps_expr (pe_callS (ok_check_key T) (hr.mono (by decide)) rfl T.check_key.g T.check_key.f.kp T.check_key.b (fun σ => passAt (takes_of rfl rfl rfl rfl) σ) (pa_cons (pv 0) (pa_cons (pv 2) pa_nil))))
      (pss_cons (ps_asg (pv 2) (pg_tup rfl (pgs_cons (pg_name (i := 3) sc_packet_bits.nd rfl (Or.inr rfl)) (pgs_cons (pg_name (i := 4) sc_packet_bits.nd rfl (Or.inl rfl)) (pgs_cons (pg_name (i := 5) sc_packet_bits.nd rfl (Or.inr rfl)) pgs_nil)))))
      (pss_cons (ps_setLc (i := 6) (own := [("pixel", 7)]) (g := (gName 7)) (tt := tYes) rfl sc_packet_bits.nd rfl rfl (sw_true rfl rfl rfl (by decide +kernel)) (pi_list (pe_call (ok_tile_pixels T) (hr.mono (by decide)) rfl T.tile_pixels.g T.tile_pixels.f.kp T.tile_pixels.b .nil pass0 (pa_cons (pv 0) (pa_cons (pv 4) pa_nil)))) (blkOk_by (own := [("pixel", 7)]) (N := ["frame", "picture", "key", "channel", "tile", "plane", "bits", "pixel", "bit"]) (sc := defScope s_packet_bits) (by decide +kernel)) (fun _ _ _ _ _ => (pg_name (i := 7) sc_packet_bits.nd rfl (Or.inl rfl))) (fun _ _ _ _ _ => pts_nil) (fun _ _ _ _ _ => pe_call (ok_stored_bit T) (hr.mono (by decide)) rfl T.stored_bit.g T.stored_bit.f.kp T.stored_bit.b .nil pass0 (pa_cons (pv 1) (pa_cons (pv 3) (pa_cons (pv 7) (pa_cons (pv 5) pa_nil))))))
      (pss_one (ps_ret (pe_join (pe_str) (pe_lc (own := [("bit", 8)]) (g := (gName 8)) (tt := tYes) rfl sc_packet_bits.nd (pi_list (pv 6)) (blkOk_by (own := [("bit", 8)]) (N := ["frame", "picture", "key", "channel", "tile", "plane", "bits", "pixel", "bit"]) (sc := defScope s_packet_bits) (by decide +kernel)) (fun _ _ _ _ _ => (pg_name (i := 8) sc_packet_bits.nd rfl (Or.inl rfl))) (fun _ _ _ _ _ => pts_nil) (fun _ _ _ _ _ => pe_callTy Gx.c_strI rfl T.n_str (by decide +kernel) (pa_cons (pv 8) pa_nil))))))))), ?_⟩)
  · obtain ⟨x, y, r, p, w, h, d, c, t, w', h', d', c', f, ch, ti, pl, rfl, _⟩ := h
    rfl
  · skip
    obtain ⟨x, y, r, p, w, h, d, c, t, w', h', d', c', f, ch, ti, pl, rfl, fr, D, P1, hok, hp, q1, q2, q3⟩ := h
    obtain ⟨l1, l2, l3, l4, l5, l6, l7⟩ := D.ok
    obtain ⟨a1, a2, a3, a4, a5, a6, a7, a8, a9, a10⟩ := id D
    obtain ⟨dx, hx⟩ := id fr
    obtain ⟨⟨dy, hy⟩, lp⟩ := id P1
    walk_at "run"
    refine cs_check_fits (k4_Frame T hx) (k4_Picture T hy) (fun e => ?_) (fun e => q1 (by omega))
    have e' : w = w' ∧ h = h' ∧ d = d' ∧ c = c' := by omega
    replace q2 := q2 e'
    replace q3 := q3 e'
    obtain ⟨rfl, rfl, rfl, rfl⟩ := e'
    walk_at "run"
    refine cs_check_key fr a8 a9 a2 a4 hp (fun kb => ?_) q2
    obtain ⟨⟨b1, b2⟩, ⟨b3, b4⟩, b5, b6⟩ := keyBad_none kb
    replace q3 := q3 kb
    obtain ⟨ch, rfl⟩ : ∃ n : Nat, ch = n := ⟨ch.toNat, by omega⟩
    obtain ⟨ti, rfl⟩ : ∃ n : Nat, ti = n := ⟨ti.toNat, by omega⟩
    obtain ⟨pl, rfl⟩ : ∃ n : Nat, pl = n := ⟨pl.toNat, by omega⟩
    rw [Int.toNat_natCast, Int.toNat_natCast, Int.toNat_natCast] at q3
    have hti : ti < Gd.ac w t * Gd.ac h t := by omega
    have hbox := Pb.box_le (w := w) (h := h) (k := ti) (t := t) (by omega)
    walk_at "run"
    refine cp_tile_pixels fr a8 a9 a1 a2 a3 a4 hti fun p1 H1 n1 s1 h1 => ?_
    have tw := Gd.sd_pos (n := w) (t := t) (by omega) (Nat.mod_lt ti l3)
    rw [Gd.made_flat _ tw] at h1
    have h1 : H1 p1 = some (.lst ((List.range (Rg.tileBox w h t ti)).map fun m => V.int ((Gd.pix w t ti m : Nat) : Int))) := h1
    walk_at "run"
    refine Gx.lp (SqL.of h1) ?_
    refine Gx.lcMap (walk_list (xs := _)) (by rw [List.length_map, List.length_range]; omega) (fun m => .int ((Gd.sb (fun i => f.getD i []) c ch (Gd.pix w t ti m) pl : Nat) : Int)) (fun _ s => s.seq (SqL.of h1)) Gx.sameAt ?_ ?_
    · rintro m y' H3 H3' R R0 hm s3 ⟨rfl, hy'⟩ hr
      rw [List.length_map, List.length_range] at hm
      rw [List.getElem?_map, List.getElem?_range hm] at hy'
      have hy' := Option.some.inj hy'
      subst hy'
      have hm2 := Gd.pix_lt (show 0 < w by omega) (show 0 < t by omega) hti hm
      walk_at "run"
      refine cp_stored_bit ((P1.keep s1).keep s3) a7 (by omega) (Pb.rowHf hok hm2) ?_
      exact hr _ (Same.refl _)
    intro p2 H2 n2 s2 h2
    rw [List.length_map, List.length_range] at h2
    walk_at "run"
    refine Gx.lp (SqL.of h2) ?_
    refine Gx.lcMap (walk_list (xs := _)) (by rw [List.length_map, List.length_range]; omega) (fun m => .str (Bs.S [decide (Gd.sb (fun i => f.getD i []) c ch (Gd.pix w t ti m) pl = 1)])) (fun _ s => s.seq (SqL.of h2)) Gx.sameAt ?_ ?_
    · rintro m y' H3 H3' R R0 hm s3 ⟨rfl, hy'⟩ hr
      rw [List.length_map, List.length_range] at hm
      rw [List.getElem?_map, List.getElem?_range hm] at hy'
      have hy' := Option.some.inj hy'
      subst hy'
      walk_at "run"
      refine Pb.str01 (Pb.sb_le _ _ _ _ _) ?_
      exact hr _ (Same.refl _)
    intro p3 H3 n3 s3 h3
    rw [List.length_map, List.length_range] at h3
    walk_at "run"
    refine Pb.joinS (SqL.of h3) (by omega) ?_
    exact q3 _ (s1.trans (s2.trans s3))

theorem cp_packet_bits {CE CO CF CP x y r p : Addr} {w h d c t : Nat} {f : List (List Int)} {j k pl : Nat} {H : Hp} {Q : VK} {E : XK} (fr : Frm CF H x w h d c t) (D : Rg.Dim w h d c t) (P1 : Pic CP H y r w h d c (fun i => f.getD i [])) (ok : Pq.rowsOk (w * h) d c f) (hp : H p = some (.tup [.int (j : Int), .int (k : Int), .int (pl : Int)])) (hj : j < c) (hk : k < Gd.ac w t * Gd.ac h t) (hpl : pl < d)
  (q3 : ∀ H', Same H H' → Q (.str (Bs.S (Pb.pb w h t (fun i => f.getD i []) c j k pl))) H') : Gx.CP (sp_packet_bits CE CO CF CP) [.ref x, .ref y, .ref p] [] H Q E := ⟨x, y, r, p, w, h, d, c, t, w, h, d, c, f, j, k, pl, rfl, fr, D, P1, ok, hp, fun n => absurd ⟨rfl, rfl, rfl, rfl⟩ n, (fun _ z e => by
    exfalso
    unfold Sx.keyBad at e
    rw [if_neg (by omega), if_neg (by omega), if_neg (by omega)] at e
    cases e), fun _ _ => by rw [Int.toNat_natCast, Int.toNat_natCast, Int.toNat_natCast]; exact q3⟩

/-- some number from 0 on below the limit -/
noncomputable def sp_law_mixed : Sp := fun vs H Q _ => ∃ (n k l : Int), vs = [.int n, .int k, .int l] ∧ 0 < l ∧ ∀ r, 0 ≤ r → r < l → Q (.int r) H

theorem sc_law_mixed : FnScope ["number", "k", "limit", "one", "two"] ["number", "k", "limit"] (defScope s_law_mixed) := ⟨rfl, rfl, rfl, by decide +kernel, rfl, by decide +kernel, by decide +kernel⟩
theorem ok_law_mixed (T : Tx P K mg) : FnOk P w K mg base CX0 1 T.law_mixed.a T.law_mixed.d ["number", "k", "limit"] (sp_law_mixed) := by
  refine T.law_mixed.f.ok sc_law_mixed (fun vs H Q E h => ?_) (fun cdv A outer s H vs Q E hr h => ⟨_, pss_cons (ps_set (i := 3) sc_law_mixed.nd rfl (Or.inl rfl) (pe_op op_mod (pe_callTy Gx.c_int rfl T.n_int (by decide +kernel) (pa_cons (pe_op op_mul (pe_op op_add (pe_op op_add (pv 0) (pe_op op_mul (pe_int) (pv 1))) (pe_int)) (pe_int)) pa_nil)) (pe_int)))
      (pss_cons (ps_set (i := 4) sc_law_mixed.nd rfl (Or.inl rfl) (pe_op op_mod (pe_callTy Gx.c_int rfl T.n_int (by decide +kernel) (pa_cons (pe_op op_add (pe_op op_mul (pv 3) (pv 3)) (pe_op op_mul (pe_int) (pv 1))) pa_nil)) (pe_int)))
      (pss_one (ps_ret (pe_op op_mod (pe_op op_mod (pe_callTy Gx.c_int rfl T.n_int (by decide +kernel) (pa_cons (pe_op op_add (pe_op op_mul (pv 4) (pe_int)) (pv 3)) pa_nil)) (pe_int)) (pv 2))))), ?_⟩)
  · obtain ⟨n, k, l, rfl, _⟩ := h
    rfl
  · skip
    obtain ⟨n, k, l, rfl, hl, q⟩ := h
    walk_at "go"
    refine Gx.ic (.inl (by decide)) ?_
    walk_at "go"
    refine Gx.ic (.inr (by decide)) ?_
    walk_at "go"
    refine Gx.ic (by decide) ?_
    generalize e1 : ((n + 7 * k + 1) * 48271) % 2147483647 = one
    have h1 : 0 ≤ one ∧ one < 2147483647 := by omega
    walk_at "go"
    refine Gx.ic (.inl (by omega)) ?_
    walk_at "go"
    refine Gx.ic (.inl (by decide)) ?_
    walk_at "go"
    refine Gx.ic (by decide) ?_
    walk_at "go"
    refine Gx.ic (.inr (by decide)) ?_
    walk_at "go"
    refine Gx.ic (by decide) ?_
    walk_at "go"
    refine Gx.ic hl ?_
    exact q _ (Int.emod_nonneg _ (by omega)) (Int.emod_lt_of_pos _ hl)

theorem cp_law_mixed {n k l : Int} {H : Hp} {Q : VK} {E : XK} (hl : 0 < l) (q : ∀ r, 0 ≤ r → r < l → Q (.int r) H) : Gx.CP sp_law_mixed [.int n, .int k, .int l] [] H Q E := ⟨n, k, l, rfl, hl, q⟩

/-- a new list of so many numbers from 0 on below the limit -/
noncomputable def sp_law_numbers : Sp := fun vs H Q _ => ∃ (c : Int) (n : Nat) (l : Int), vs = [.int c, .int (n : Int), .int l] ∧ 0 < l ∧ l < 1073741824 ∧ n ≤ 100000 ∧
  ∀ (xs : List Int) (p : Addr) (H' : Hp), xs.length = n → (∀ x ∈ xs, 0 ≤ x ∧ x < l) → H p = none → Same H H' → H' p = some (.lst (xs.map V.int)) → Q (.ref p) H'

theorem sc_law_numbers : FnScope ["cell", "count", "limit", "rest", "large", "numbers", "k"] ["cell", "count", "limit"] (defScope s_law_numbers) := ⟨rfl, rfl, rfl, by decide +kernel, rfl, by decide +kernel, by decide +kernel⟩
theorem ok_law_numbers (T : Tx P K mg) : FnOk P w K mg base CX0 2 T.law_numbers.a T.law_numbers.d ["cell", "count", "limit"] (sp_law_numbers) := by
  refine T.law_numbers.f.ok sc_law_numbers (fun vs H Q E h => ?_) (fun cdv A outer s H vs Q E hr h => ⟨_, pss_cons (ps_set (i := 3) sc_law_numbers.nd rfl (Or.inl rfl) (pe_callB Gx.c_abs rfl T.n_abs (by decide +kernel) (pa_cons (pv 0) pa_nil)))
      (pss_cons (ps_set (i := 4) sc_law_numbers.nd rfl (Or.inl rfl) (pe_cmpR op_ge (pv 3) (pe_op op_pow (pe_int) (pe_int)) (nomark _)))
      (pss_cons (ps_set (i := 5) sc_law_numbers.nd rfl (Or.inl rfl) (pe_lst pa_nil))
      (pss_cons (ps_for PassesOwn.never rfl (pi_range1 rfl T.n_range (pa_cons (pv 1) pa_nil)) (pg_name (i := 6) sc_law_numbers.nd rfl (Or.inl rfl))
      (pss_one (ps_if (PW.pt (pw_and (pt_val (pv 4)) (pw_and1 (pt_cmpR op_gt (pv 3) (pe_int) (nomark _))))) (pss_cons (ps_expr (pe_bm PySem.F.plainAttrs_list PySem.F.slot_list_append PySem.F.type_list_append mt_append (pv 5) (pa_cons (pe_op op_mod (pe_callTy Gx.c_int rfl T.n_int (by decide +kernel) (pa_cons (pv 3) pa_nil)) (pv 2)) pa_nil)))
      (pss_one (ps_set (i := 3) sc_law_numbers.nd rfl (Or.inl rfl) (pe_op op_fdiv (pv 3) (pv 2))))) (pss_one (ps_expr (pe_bm PySem.F.plainAttrs_list PySem.F.slot_list_append PySem.F.type_list_append mt_append (pv 5) (pa_cons (pe_call (ok_law_mixed T) (hr.mono (by decide)) rfl T.law_mixed.g T.law_mixed.f.kp T.law_mixed.b .nil pass0 (pa_cons (pe_callB Gx.c_abs rfl T.n_abs (by decide +kernel) (pa_cons (pv 0) pa_nil)) (pa_cons (pv 6) (pa_cons (pv 2) pa_nil)))) pa_nil)))))))
      (pss_one (ps_ret (pv 5)))))), ?_⟩)
  · obtain ⟨c, n, l, rfl, _⟩ := h
    rfl
  · skip
    obtain ⟨c, n, l, rfl, h0, h1, hn, q⟩ := h
    walk_at "go"
    refine Gx.ic ⟨by decide, by decide, by decide⟩ ?_
    walk_at "go"
    refine Gx.lstP (Nat.zero_le _) fun p hp => ?_
    walk_at "go"
    refine Gx.r1 (by omega) (by omega) ?_
    refine Gx.fwR (fun i σ' H' => ∃ (xs : List Int) (r : Int) (b : Bool) (kv : Option V), xs.length = i ∧ (∀ x ∈ xs, 0 ≤ x ∧ x < l) ∧ H p = none ∧ Same H H' ∧ H' p = some (.lst (xs.map V.int)) ∧
      σ' = [some (.int c), some (.int (n : Int)), some (.int l), some (.int r), some (.bl b), some (.ref p), kv]) ?_ ?_ ?_
    · exact ⟨[], _, _, none, rfl, (fun _ z => nomatch z), hp, (fun b o e => by rw [upd_ne (ne_of_none e hp)]; exact e), upd_same, rfl⟩
    · rintro i σ' H' hi ⟨xs, r, b, kv, hx, hb, hp0, hs, hL, rfl⟩
      have hz : (xs.map V.int).length < sizeLine := by rw [List.length_map, sizeLine_eq]; omega
      have fin : ∀ (x : Int) (r' : Int) (kv' : Option V), 0 ≤ x → x < l → ∃ (ys : List Int) (r : Int) (b' : Bool) (kv : Option V), ys.length = i + 1 ∧ (∀ x ∈ ys, 0 ≤ x ∧ x < l) ∧ H p = none ∧ Same H (upd H' p (.lst (xs.map V.int ++ [.int x]))) ∧
          upd H' p (.lst (xs.map V.int ++ [.int x])) p = some (.lst (ys.map V.int)) ∧
          [some (V.int c), some (.int (n : Int)), some (.int l), some (.int r'), some (.bl b), some (.ref p), kv'] = [some (V.int c), some (.int (n : Int)), some (.int l), some (.int r), some (.bl b'), some (.ref p), kv] := by
        intro x r' kv' hx0 hx1
        refine ⟨xs ++ [x], r', b, kv', by rw [List.length_append, hx]; rfl, fun y hy => ?_, hp0, fun a o e => ?_, ?_, rfl⟩
        · rcases List.mem_append.mp hy with z | z
          · exact hb y z
          · rw [List.mem_singleton.mp z]; exact ⟨hx0, hx1⟩
        · rw [upd_ne (ne_of_none e hp0)]; exact hs a o e
        · rw [upd_same, List.map_append]; rfl
      walk_at "go"
      refine Gx.if_b (fun hb1 => ?_) (fun hb1 => ?_)
      · walk_at "go"
        refine Gx.if_d (fun hr1 => ?_) (fun hr1 => ?_)
        · walk_at "go"
          refine Gx.bmS (Gx.tyL (SqL.of hL)) ?_
          walk_at "go"
          refine Gx.ic h0 ?_
          walk_at "go"
          refine Gx.app hL hz ?_
          walk_at "go"
          refine Gx.ic ⟨h0, h1⟩ ?_
          walk_at "go"
          exact fin _ _ _ (Int.emod_nonneg _ (by omega)) (Int.emod_lt_of_pos _ h0)
        · walk_at "go"
          refine Gx.bmS (Gx.tyL (SqL.of hL)) ?_
          walk_at "go"
          refine cp_law_mixed h0 fun y hy0 hy1 => ?_
          walk_at "go"
          refine Gx.app hL hz ?_
          exact fin _ _ _ hy0 hy1
      · walk_at "go"
        refine Gx.bmS (Gx.tyL (SqL.of hL)) ?_
        walk_at "go"
        refine cp_law_mixed h0 fun y hy0 hy1 => ?_
        walk_at "go"
        refine Gx.app hL hz ?_
        exact fin _ _ _ hy0 hy1
    · rintro σ' H' ⟨xs, r, b, kv, hx, hb, hp0, hs, hL, rfl⟩
      walk_at "go"
      exact q xs p H' (by omega) hb hp0 hs hL

theorem cp_law_numbers {c n l : Int} {H : Hp} {Q : VK} {E : XK} (hn : 0 ≤ n ∧ n ≤ 100000) (h0 : 0 < l) (h1 : l < 1073741824)
    (q : ∀ (xs : List Int) (p : Addr) (H' : Hp), xs.length = n.toNat → (∀ x ∈ xs, 0 ≤ x ∧ x < l) → H p = none → Same H H' → H' p = some (.lst (xs.map V.int)) → Q (.ref p) H') : Gx.CP sp_law_numbers [.int c, .int n, .int l] [] H Q E :=
  ⟨c, n.toNat, l, by rw [List.append_nil, Int.toNat_of_nonneg hn.1], h0, h1, by omega, q⟩

noncomputable def sp_law_values : Sp := fun vs H Q _ => ∃ (cell : Int) (s : Addr) (w h d c t : Nat), vs = [.int cell, .ref s] ∧ H s = some (.lst [.int (w : Int), .int (h : Int), .int (d : Int), .int (c : Int), .int (t : Int)]) ∧ w ≤ 64 ∧ d ≤ 8 ∧ c ≤ 3 ∧ w * h * c ≤ 3072 ∧
  ∀ p H' f, H p = none → Same H H' → Gx.LL H' p c f → (∀ j, j < c → (f j).length = w * h ∧ ∀ z ∈ f j, 0 ≤ z ∧ z < ((2 ^ d : Nat) : Int)) → Q (.ref p) H'

theorem sc_law_values : FnScope ["cell", "sizes", "pixels", "row", "k"] ["cell", "sizes"] (defScope s_law_values) := ⟨rfl, rfl, rfl, by decide +kernel, rfl, by decide +kernel, by decide +kernel⟩
theorem ok_law_values (T : Tx P K mg) : FnOk P w K mg base CX0 3 T.law_values.a T.law_values.d ["cell", "sizes"] (sp_law_values) := by
  refine T.law_values.f.ok sc_law_values (fun vs H Q E h => ?_) (fun cdv A outer s H vs Q E hr h => ⟨_, pss_cons (ps_set (i := 2) sc_law_values.nd rfl (Or.inr rfl) (pe_op op_mul (pe_ix (Gx.ix_seqK (K := K) rfl) (pv 1) (pe_int) (fun _ _ => rfl)) (pe_ix (Gx.ix_seqK (K := K) rfl) (pv 1) (pe_int) (fun _ _ => rfl))))
      (pss_cons (ps_set (i := 3) sc_law_values.nd rfl (Or.inr rfl) (pe_call (ok_law_numbers T) (hr.mono (by decide)) rfl T.law_numbers.g T.law_numbers.f.kp T.law_numbers.b .nil pass0 (pa_cons (pv 0) (pa_cons (pe_op op_mul (pv 2) (pe_ix (Gx.ix_seqK (K := K) rfl) (pv 1) (pe_int) (fun _ _ => rfl))) (pa_cons (pe_op op_shl (pe_int) (pe_ix (Gx.ix_seqK (K := K) rfl) (pv 1) (pe_int) (fun _ _ => rfl))) pa_nil)))))
      (pss_one (ps_ret (pe_lc (own := [("k", 4)]) (g := (gName 4)) (tt := tYes) rfl sc_law_values.nd (pi_range1 rfl T.n_range (pa_cons (pe_ix (Gx.ix_seqK (K := K) rfl) (pv 1) (pe_int) (fun _ _ => rfl)) pa_nil)) (blkOk_by (own := [("k", 4)]) (N := ["cell", "sizes", "pixels", "row", "k"]) (sc := defScope s_law_values) (by decide +kernel)) (fun _ _ _ _ _ => (pg_name (i := 4) sc_law_values.nd rfl (Or.inl rfl))) (fun _ _ _ _ _ => pts_nil) (fun _ _ _ _ _ => pe_slice (Gx.sl_listK (K := K) rfl) (pv 3) (po_some (pe_op op_mul (pv 2) (pv 4))) (po_some (pe_op op_add (pe_op op_mul (pv 2) (pv 4)) (pv 2)))))))), ?_⟩)
  · obtain ⟨cell, s, w, h, d, c, t, rfl, _⟩ := h
    rfl
  · skip
    obtain ⟨cell, s, w, h, d, c, t, rfl, hS, hw, hd, hc, hs, q⟩ := h
    have e2 : 2 ^ d ≤ 2 ^ 8 := Nat.pow_le_pow_right (by decide) hd
    have e0 := Nat.two_pow_pos d
    walk_at "go"
    refine Gx.ixL (SqL.of hS) (at_of (j := 0) rfl rfl) ?_
    walk_at "go"
    refine Gx.ixL (SqL.of hS) (at_of (j := 1) rfl rfl) ?_
    refine Gx.ic (.inl (by omega)) ?_
    walk_at "go"
    rw [← Int.natCast_mul]
    refine Gx.ixL (SqL.of hS) (at_of (j := 3) rfl rfl) ?_
    refine Gx.ic (.inr (by omega)) ?_
    walk_at "go"
    rw [← Int.natCast_mul]
    refine Gx.ixL (SqL.of hS) (at_of (j := 2) rfl rfl) ?_
    refine Gx.ic ⟨by omega, by omega, by decide⟩ ?_
    walk_at "go"
    rw [Gy.pw]
    refine cp_law_numbers ⟨by omega, by omega⟩ (by omega) (by omega) fun xs pr H1 hl hb hpr s1 hr => ?_
    rw [Int.toNat_natCast] at hl
    walk_at "go"
    refine Gx.ixL (SqL.of (s1 _ _ hS)) (at_of (j := 3) rfl rfl) ?_
    walk_at "go"
    refine Gx.r1 (by omega) (by omega) ?_
    rw [Int.toNat_natCast]
    have inn : ∀ j, j < c → w * h * j + w * h ≤ xs.length := fun j hj => by
      have := Nat.mul_le_mul_left (w * h) (show j + 1 ≤ c by omega)
      rw [Nat.mul_succ] at this
      omega
    refine Gx.lcLst walk_range (by omega) (fun j => (xs.drop (w * h * j)).take (w * h)) (fun _ _ => trivial) Gx.sameFn ?_ ?_
    · rintro i y H3 H3' R R0 hi s3 ⟨rfl, hy⟩ hr2
      have hy2 : y = .int (i : Int) := hy.trans (congrArg V.int (by omega))
      subst hy2
      walk_at "go"
      refine Gx.ic (.inr (by omega)) ?_
      walk_at "go"
      refine Gx.ic (.inr (by omega)) ?_
      walk_at "go"
      rw [← Int.natCast_mul, ← Int.natCast_add]
      refine Gx.slL (SqL.of (s3 _ _ hr)) fun p hp => ?_
      rw [Gx.cutV_ints xs (inn i hi)]
      exact hr2 p _ hp (Gx.same_new hp) upd_same
    intro p H2 hp s2 ll
    refine q p H2 _ (s1.free hp) (s1.trans s2) ll fun j hj => ⟨?_, fun z hz => hb z (List.mem_of_mem_drop (List.mem_of_mem_take hz))⟩
    have := inn j hj
    rw [List.length_take, List.length_drop]; omega

theorem cp_law_values {cell : Int} {s : Addr} {w h d c t : Nat} {H : Hp} {Q : VK} {E : XK} (hS : H s = some (.lst [.int (w : Int), .int (h : Int), .int (d : Int), .int (c : Int), .int (t : Int)])) (hw : w ≤ 64) (hd : d ≤ 8) (hc : c ≤ 3) (hs : w * h * c ≤ 3072)
    (q : ∀ p H' f, H p = none → Same H H' → Gx.LL H' p c f → (∀ j, j < c → (f j).length = w * h ∧ ∀ z ∈ f j, 0 ≤ z ∧ z < ((2 ^ d : Nat) : Int)) → Q (.ref p) H') : Gx.CP sp_law_values [.int cell, .ref s] [] H Q E := ⟨cell, s, w, h, d, c, t, rfl, hS, hw, hd, hc, hs, q⟩

/-- a cell of the script, 0 beyond its end -/
noncomputable def sp_law_cell (K : PySem.W.Frag) : Sp := fun vs H Q _ => ∃ (a : Addr) (ns : List Int) (k : Nat), vs = [.ref a, .int (k : Int)] ∧ SqL K H a (ns.map V.int) ∧ k < 100000 ∧ Q (.int (ns.getD k 0)) H

theorem sc_law_cell : FnScope ["script", "k"] ["script", "k"] (defScope s_law_cell) := ⟨rfl, rfl, rfl, by decide +kernel, rfl, by decide +kernel, by decide +kernel⟩
theorem ok_law_cell (T : Tx P K mg) : FnOk P w K mg base CX0 1 T.law_cell.a T.law_cell.d ["script", "k"] (sp_law_cell K) := by
  refine T.law_cell.f.ok sc_law_cell (fun vs H Q E h => ?_) (fun cdv A outer s H vs Q E hr h => ⟨_, pss_cons (ps_if (pt_cmpR op_lt (pv 1) (pe_callB (Gx.c_lenK (K := K) rfl) rfl T.n_len (by decide +kernel) (pa_cons (pv 0) pa_nil)) (nomark _)) (pss_one (ps_ret (pe_ix (Gx.ix_seqK (K := K) rfl) (pv 0) (pv 1) (fun _ _ => rfl)))) (pss_nil))
      (pss_one (ps_ret (pe_int))), ?_⟩)
  · obtain ⟨a, ns, k, rfl, _⟩ := h
    rfl
  · skip
    obtain ⟨a, ns, k, rfl, hs, hk, q⟩ := h
    walk_at "go"
    refine Gx.lenL hs ?_
    walk_at "go"
    refine Gx.if_d (fun hlt => ?_) (fun hge => ?_)
    · rw [List.length_map] at hlt
      walk_at "go"
      exact Gx.ixL hs (Gx.at_map (by omega)) q
    · rw [List.length_map] at hge
      walk_at "go"
      have e : ns.getD k 0 = 0 := by
        rw [List.getD_eq_getElem?_getD, List.getElem?_eq_none (by omega)]; rfl
      rw [e] at q
      exact q

theorem cp_law_cell {K : PySem.W.Frag} {a : Addr} {ns : List Int} {k : Int} {H : Hp} {Q : VK} {E : XK} (hs : SqL K H a (ns.map V.int)) (h0 : 0 ≤ k) (h1 : k < 100000) (q : ∀ z : Int, (z ∈ ns ∨ z = 0) → Q (.int z) H) : Gx.CP (sp_law_cell K) [.ref a, .int k] [] H Q E := by
  refine ⟨a, ns, k.toNat, by rw [List.append_nil, Int.toNat_of_nonneg h0], hs, by omega, q _ ?_⟩
  rw [List.getD_eq_getElem?_getD]
  by_cases h : k.toNat < ns.length
  · rw [List.getElem?_eq_getElem h]; exact .inl (List.getElem_mem h)
  · rw [List.getElem?_eq_none (by omega)]; exact .inr rfl

/-- the pixels of a tile as a list -/
noncomputable def pxs (w h t k : Nat) : List V := (List.range (Rg.tileBox w h t k)).map fun m => .int ((Gd.pix w t k m : Nat) : Int)
noncomputable def sp_law_pixels (K : PySem.W.Frag) : Sp := fun vs H Q _ => ∃ (s : Addr) (w h d c t k : Nat), vs = [.ref s, .int (k : Int)] ∧ SqL K H s [.int (w : Int), .int (h : Int), .int (d : Int), .int (c : Int), .int (t : Int)] ∧ Rg.Dim w h d c t ∧ k < Gd.ac w t * Gd.ac h t ∧ ∀ p H', H p = none → Same H H' → H' p = some (.lst (pxs w h t k)) → Q (.ref p) H'

theorem sc_law_pixels : FnScope ["sizes", "tile", "across", "left", "top", "pixels", "y", "x"] ["sizes", "tile"] (defScope s_law_pixels) := ⟨rfl, rfl, rfl, by decide +kernel, rfl, by decide +kernel, by decide +kernel⟩
theorem ok_law_pixels (T : Tx P K mg) : FnOk P w K mg base CX0 1 T.law_pixels.a T.law_pixels.d ["sizes", "tile"] (sp_law_pixels K) := by
  refine T.law_pixels.f.ok sc_law_pixels (fun vs H Q E h => ?_) (fun cdv A outer s H vs Q E hr h => ⟨_, pss_cons (ps_set (i := 2) sc_law_pixels.nd rfl (Or.inl rfl) (pe_op op_fdiv (pe_op op_sub (pe_op op_add (pe_ix (Gx.ix_seqK (K := K) rfl) (pv 0) (pe_int) (fun _ _ => rfl)) (pe_ix (Gx.ix_seqK (K := K) rfl) (pv 0) (pe_int) (fun _ _ => rfl))) (pe_int)) (pe_ix (Gx.ix_seqK (K := K) rfl) (pv 0) (pe_int) (fun _ _ => rfl))))
      (pss_cons (ps_set (i := 3) sc_law_pixels.nd rfl (Or.inl rfl) (pe_op op_mul (pe_op op_mod (pv 1) (pv 2)) (pe_ix (Gx.ix_seqK (K := K) rfl) (pv 0) (pe_int) (fun _ _ => rfl))))
      (pss_cons (ps_set (i := 4) sc_law_pixels.nd rfl (Or.inl rfl) (pe_op op_mul (pe_op op_fdiv (pv 1) (pv 2)) (pe_ix (Gx.ix_seqK (K := K) rfl) (pv 0) (pe_int) (fun _ _ => rfl))))
      (pss_cons (ps_set (i := 5) sc_law_pixels.nd rfl (Or.inl rfl) (pe_lst pa_nil))
      (pss_cons (ps_for PassesOwn.never rfl (pi_range2 rfl T.n_range (pa_cons (pv 4) (pa_cons (pe_callB (Gx.c_min2 rfl) rfl T.n_min (by decide +kernel) (pa_cons (pe_op op_add (pv 4) (pe_ix (Gx.ix_seqK (K := K) rfl) (pv 0) (pe_int) (fun _ _ => rfl))) (pa_cons (pe_ix (Gx.ix_seqK (K := K) rfl) (pv 0) (pe_int) (fun _ _ => rfl)) pa_nil))) pa_nil))) (pg_name (i := 6) sc_law_pixels.nd rfl (Or.inr rfl))
      (pss_one (ps_set (i := 5) sc_law_pixels.nd rfl (Or.inl rfl) (pe_op op_cat (pv 5) (pe_lc (own := [("x", 7)]) (g := (gName 7)) (tt := tYes) rfl sc_law_pixels.nd (pi_range2 rfl T.n_range (pa_cons (pv 3) (pa_cons (pe_callB (Gx.c_min2 rfl) rfl T.n_min (by decide +kernel) (pa_cons (pe_op op_add (pv 3) (pe_ix (Gx.ix_seqK (K := K) rfl) (pv 0) (pe_int) (fun _ _ => rfl))) (pa_cons (pe_ix (Gx.ix_seqK (K := K) rfl) (pv 0) (pe_int) (fun _ _ => rfl)) pa_nil))) pa_nil))) (blkOk_by (own := [("x", 7)]) (N := ["sizes", "tile", "across", "left", "top", "pixels", "y", "x"]) (sc := defScope s_law_pixels) (by decide +kernel)) (fun _ _ _ _ _ => (pg_name (i := 7) sc_law_pixels.nd rfl (Or.inl rfl))) (fun _ _ _ _ _ => pts_nil) (fun _ _ _ _ _ => pe_op op_add (pe_op op_mul (pv 6) (pe_ix (Gx.ix_seqK (K := K) rfl) (pv 0) (pe_int) (fun _ _ => rfl))) (pv 7)))))))
      (pss_one (ps_ret (pv 5))))))), ?_⟩)
  · obtain ⟨s, w, h, d, c, t, k, rfl, _⟩ := h
    rfl
  · skip
    obtain ⟨s', w, h, d, c, t, k, rfl, hs, D, hk, q⟩ := h
    obtain ⟨l1, l2, l3, l4, l5, l6, l7⟩ := D.ok
    obtain ⟨a1, a2, a3, a4, a5, a6, a7, a8, a9, a10⟩ := id D
    have m1 : k % Gd.ac w t < Gd.ac w t := Nat.mod_lt _ l3
    have m2 : k / Gd.ac w t < Gd.ac h t := Nat.div_lt_of_lt_mul hk
    have b1 := Gd.ac_mul (n := w) (t := t) (by omega) m1
    have b2 := Gd.ac_mul (n := h) (t := t) (by omega) m2
    have tw := Gd.sd_pos (n := w) (t := t) (by omega) m1
    walk_at "run"
    rw [Gd.ac_int (by omega)]
    walk_at "run"
    refine Nx.lst0 (by show 0 ≤ sizeLine; decide) fun p0 H0' n0 s0 h0 => ?_
    have hW : Gd.sd w t (k % Gd.ac w t) = min t (w - k % Gd.ac w t * t) := rfl
    have hH : Gd.sd h t (k / Gd.ac w t) = min t (h - k / Gd.ac w t * t) := rfl
    have e1 : ((k : Int) % ((Gd.ac w t : Nat) : Int) * (t : Int)) = ((k % Gd.ac w t * t : Nat) : Int) := by rw [Int.natCast_mul, Int.natCast_emod]
    have e2 : ((k : Int) / ((Gd.ac w t : Nat) : Int) * (t : Int)) = ((k / Gd.ac w t * t : Nat) : Int) := by rw [Int.natCast_mul, Int.natCast_ediv]
    rw [e1, e2]
    have fin := Gd.made_flat (Gd.sd w t (k % Gd.ac w t)) tw (fun i j => V.int (((k / Gd.ac w t * t + i) * w + (k % Gd.ac w t * t + j) : Nat) : Int)) (Gd.sd h t (k / Gd.ac w t))
    have fin2 : Gx.made (Gd.sd w t (k % Gd.ac w t)) (fun i j => V.int (((k / Gd.ac w t * t + i) * w + (k % Gd.ac w t * t + j) : Nat) : Int)) (Gd.sd h t (k / Gd.ac w t)) = pxs w h t k := fin
    clear fin e1 e2
    generalize pxs w h t k = PX at *
    generalize k % Gd.ac w t * t = X0 at *
    generalize k / Gd.ac w t * t = Y0 at *
    generalize Gd.sd w t (k % Gd.ac w t) = W0 at *
    generalize Gd.sd h t (k / Gd.ac w t) = H0 at *
    walk_at "run"
    refine Gx.min2 ?_
    rw [show (if (h : Int) < (Y0 : Int) + (t : Int) then (h : Int) else (Y0 : Int) + (t : Int)) = ((Y0 + H0 : Nat) : Int) by split <;> omega]
    walk_at "run"
    refine Gx.r2 ⟨by omega, by omega, by omega, by omega⟩ ?_
    rw [show (((Y0 + H0 : Nat) : Int) - (Y0 : Int)).toNat = H0 by omega]
    refine Gx.fw walk_range (fun i σ' H' => ∃ (q1 : Addr) (v6 v7 : Option V), Same H H' ∧ H q1 = none ∧ H' q1 = some (.lst (Gx.made W0 (fun i j => V.int (((Y0 + i) * w + (X0 + j) : Nat) : Int)) i)) ∧ σ' = [some (.ref s'), some (.int (k : Int)), some (.int ((Gd.ac w t : Nat) : Int)), some (.int (X0 : Int)), some (.int (Y0 : Int)), some (.ref q1), v6, v7]) ⟨p0, none, none, s0, n0, by rw [h0]; rfl, rfl⟩ (fun _ _ _ _ _ => trivial) ?_ ?_
    · rintro i y σ' H3 H3' hi ⟨q1, v6, v7, s3, nq, hq, rfl⟩ ⟨rfl, hy⟩
      have hy2 : y = .int ((Y0 + i : Nat) : Int) := hy.trans (congrArg V.int (by omega))
      subst hy2
      walk_at "run"
      refine Gx.min2 ?_
      rw [show (if (w : Int) < (X0 : Int) + (t : Int) then (w : Int) else (X0 : Int) + (t : Int)) = ((X0 + W0 : Nat) : Int) by split <;> omega]
      walk_at "run"
      refine Gx.r2 ⟨by omega, by omega, by omega, by omega⟩ ?_
      rw [show (((X0 + W0 : Nat) : Int) - (X0 : Int)).toNat = W0 by omega]
      refine Gx.lcMap walk_range (by omega) (fun j => V.int (((Y0 + i) * w + (X0 + j) : Nat) : Int)) (fun _ _ => trivial) Gx.sameFn ?_ ?_
      · rintro j v H4 H4' R R0 hj s4 ⟨rfl, hv⟩ hr
        have hv2 : v = .int ((X0 + j : Nat) : Int) := hv.trans (congrArg V.int (by omega))
        subst hv2
        walk_at "run"
        rw [← Int.natCast_mul, ← Int.natCast_add]
        exact hr _ (Same.refl _)
      intro q2 H5 n5 s5 h5
      have hiW : i * W0 ≤ 16 * 16 := Nat.mul_le_mul (by omega) (by omega)
      refine Nx.cat0 (s5 _ _ hq) h5 (by rw [Gx.made_len, List.length_map, List.length_range, sizeLine_eq]; omega) fun q3 H6 n6 s6 h6 => ?_
      rw [← Gx.made_succ] at h6
      walk_at "run"
      exact ⟨q3, _, _, (s3.trans s5).trans s6, (s3.trans s5).free n6, h6, rfl⟩
    rintro σ' H3 ⟨q1, v6, v7, s3, nq, hq, rfl⟩
    walk_at "run"
    rw [fin2] at hq
    exact q q1 H3 nq s3 hq

theorem cp_law_pixels {K : PySem.W.Frag} {s : Addr} {w h d c t k : Nat} {H : Hp} {Q : VK} {E : XK} (hs : SqL K H s [.int (w : Int), .int (h : Int), .int (d : Int), .int (c : Int), .int (t : Int)]) (D : Rg.Dim w h d c t) (hk : k < Gd.ac w t * Gd.ac h t) (q : ∀ p H', H p = none → Same H H' → H' p = some (.lst (pxs w h t k)) → Q (.ref p) H') :
    Gx.CP (sp_law_pixels K) [.ref s, .int (k : Int)] [] H Q E := ⟨s, w, h, d, c, t, k, rfl, hs, D, hk, q⟩

noncomputable def sp_law_gray : Sp := fun vs H Q _ => ∃ (v p : Nat), vs = [.int (v : Int), .int (p : Int)] ∧ p ≤ 1000 ∧ Q (.int (Gy.gb v p : Nat)) H

theorem sc_law_gray : FnScope ["value", "plane"] ["value", "plane"] (defScope s_law_gray) := ⟨rfl, rfl, rfl, by decide +kernel, rfl, by decide +kernel, by decide +kernel⟩
theorem ok_law_gray (T : Tx P K mg) : FnOk P w K mg base CX0 1 T.law_gray.a T.law_gray.d ["value", "plane"] (sp_law_gray) := by
  refine T.law_gray.f.ok sc_law_gray (fun vs H Q E h => ?_) (fun cdv A outer s H vs Q E hr h => ⟨_, pss_one (ps_ret (pe_callTy Gx.c_int rfl T.n_int (by decide +kernel) (pa_cons (pe_cmpR op_ne (pe_op op_mod (pe_op op_fdivW (pv 0) (pe_op op_shl (pe_int) (pv 1))) (pe_int)) (pe_op op_mod (pe_op op_fdivW (pv 0) (pe_op op_shl (pe_int) (pe_op op_add (pv 1) (pe_int)))) (pe_int)) (nomark _)) pa_nil))), ?_⟩)
  · obtain ⟨v, p, rfl, _⟩ := h
    rfl
  · skip
    obtain ⟨v, p, rfl, hp, q⟩ := h
    walk_at "go"
    refine Gx.ic ⟨by omega, by omega, by decide⟩ ?_
    walk_at "go"
    rw [Gy.pw]
    refine Gx.ic (Gy.dw (by omega)) ?_
    walk_at "go"
    refine Gx.ic (by decide) ?_
    walk_at "go"
    refine Gx.ic ⟨by omega, by omega, by decide⟩ ?_
    walk_at "go"
    rw [Gy.pw1]
    refine Gx.ic (Gy.dw (by omega)) ?_
    walk_at "go"
    refine Gx.ic (by decide) ?_
    walk_at "go"
    rw [Gy.ne_gb]
    exact q

theorem cp_law_gray {v p : Nat} {H : Hp} {Q : VK} {E : XK} (hp : p ≤ 1000) (q : Q (.int (Gy.gb v p : Nat)) H) : Gx.CP sp_law_gray [.int (v : Int), .int (p : Int)] [] H Q E := ⟨v, p, rfl, hp, q⟩

noncomputable def sp_law_stored : Sp := fun vs H Q _ => ∃ (v : Addr) (c j k p : Nat) (f : Nat → List Int), vs = [.ref v, .int (j : Int), .int (k : Int), .int (p : Int)] ∧ Gx.LL H v c f ∧ (c = 1 ∨ c = 3) ∧ j < c ∧ p ≤ 1000 ∧ (∀ i, i < c → k < (f i).length ∧ ∀ z ∈ f i, 0 ≤ z) ∧ Q (.int (Gd.sb f c j k p : Nat)) H

theorem sc_law_stored : FnScope ["values", "channel", "pixel", "plane", "middle", "side"] ["values", "channel", "pixel", "plane"] (defScope s_law_stored) := ⟨rfl, rfl, rfl, by decide +kernel, rfl, by decide +kernel, by decide +kernel⟩
theorem ok_law_stored (T : Tx P K mg) : FnOk P w K mg base CX0 2 T.law_stored.a T.law_stored.d ["values", "channel", "pixel", "plane"] (sp_law_stored) := by
  refine T.law_stored.f.ok sc_law_stored (fun vs H Q E h => ?_) (fun cdv A outer s H vs Q E hr h => ⟨_, pss_cons (ps_if (pt_cmpR op_eq (pe_callB (Gx.c_lenK (K := K) rfl) rfl T.n_len (by decide +kernel) (pa_cons (pv 0) pa_nil)) (pe_int) (nomark _)) (pss_one (ps_ret (pe_call (ok_law_gray T) (hr.mono (by decide)) rfl T.law_gray.g T.law_gray.f.kp T.law_gray.b .nil pass0 (pa_cons (pe_ix (Gx.ix_seqK (K := K) rfl) (pe_ix (Gx.ix_seqK (K := K) rfl) (pv 0) (pe_int) (fun _ _ => rfl)) (pv 2) (fun _ _ => rfl)) (pa_cons (pv 3) pa_nil))))) (pss_nil))
      (pss_cons (ps_set (i := 4) sc_law_stored.nd rfl (Or.inl rfl) (pe_call (ok_law_gray T) (hr.mono (by decide)) rfl T.law_gray.g T.law_gray.f.kp T.law_gray.b .nil pass0 (pa_cons (pe_ix (Gx.ix_seqK (K := K) rfl) (pe_ix (Gx.ix_seqK (K := K) rfl) (pv 0) (pe_int) (fun _ _ => rfl)) (pv 2) (fun _ _ => rfl)) (pa_cons (pv 3) pa_nil))))
      (pss_cons (ps_if (pt_cmpR op_eq (pv 1) (pe_int) (nomark _)) (pss_one (ps_ret (pv 4))) (pss_nil))
      (pss_cons (ps_set (i := 5) sc_law_stored.nd rfl (Or.inl rfl) (pe_ifExp (pt_cmpR op_eq (pv 1) (pe_int) (nomark _)) (pe_int) (pe_int)))
      (pss_one (ps_ret (pe_callTy Gx.c_int rfl T.n_int (by decide +kernel) (pa_cons (pe_cmpR op_ne (pe_call (ok_law_gray T) (hr.mono (by decide)) rfl T.law_gray.g T.law_gray.f.kp T.law_gray.b .nil pass0 (pa_cons (pe_ix (Gx.ix_seqK (K := K) rfl) (pe_ix (Gx.ix_seqK (K := K) rfl) (pv 0) (pv 5) (fun _ _ => rfl)) (pv 2) (fun _ _ => rfl)) (pa_cons (pv 3) pa_nil))) (pv 4) (nomark _)) pa_nil))))))), ?_⟩)
  · obtain ⟨v, c, j, k, p, f, rfl, _⟩ := h
    rfl
  · skip
    obtain ⟨v, c, j, k, p, f, rfl, ll, hc, hj, hp, hf, q⟩ := h
    obtain ⟨xs0, hv, hl⟩ := ll.len
    walk_at "go"
    refine Gx.lenL (SqL.of hv) ?_
    rw [hl]
    walk_at "go"
    refine Gx.if_d (fun e => ?_) (fun e => ?_)
    · have e1 : c = 1 := by omega
      obtain ⟨xs, b, h1, h2, h3⟩ := ll.get (j := 0) (by omega)
      walk_at "go"
      refine Gx.ixL (SqL.of h1) h2 ?_
      walk_at "go"
      refine Gx.ixL (SqL.of h3) (Gx.at_map (hf 0 (by omega)).1) ?_
      walk_at "go"
      rw [Gd.vl_int (hf 0 (by omega)).1 (hf 0 (by omega)).2]
      refine cp_law_gray hp ?_
      unfold Gd.sb at q
      rw [if_pos e1] at q
      exact q
    have e3 : c = 3 := by omega
    have ne1 : ¬ c = 1 := by omega
    unfold Gd.sb at q
    rw [if_neg ne1] at q
    obtain ⟨xs, b, h1, h2, h3⟩ := ll.get (j := 1) (by omega)
    walk_at "go"
    refine Gx.ixL (SqL.of h1) h2 ?_
    walk_at "go"
    refine Gx.ixL (SqL.of h3) (Gx.at_map (hf 1 (by omega)).1) ?_
    walk_at "go"
    rw [Gd.vl_int (hf 1 (by omega)).1 (hf 1 (by omega)).2]
    refine cp_law_gray hp ?_
    walk_at "go"
    refine Gx.if_d (fun e => ?_) (fun e => ?_)
    · walk_at "go"
      rw [if_pos (by omega)] at q
      exact q
    rw [if_neg (by omega)] at q
    walk_at "go"
    refine Gx.if_d (fun e1 => ?_) (fun e1 => ?_)
    · obtain ⟨xs, b, h1, h2, h3⟩ := ll.get (j := 0) (by omega)
      walk_at "go"
      refine Gx.ixL (SqL.of h1) h2 ?_
      walk_at "go"
      refine Gx.ixL (SqL.of h3) (Gx.at_map (hf 0 (by omega)).1) ?_
      walk_at "go"
      rw [Gd.vl_int (hf 0 (by omega)).1 (hf 0 (by omega)).2]
      refine cp_law_gray hp ?_
      walk_at "go"
      rw [Gd.xr_ne]
      rw [if_pos (show j = 1 by omega)] at q
      exact q
    · obtain ⟨xs, b, h1, h2, h3⟩ := ll.get (j := 2) (by omega)
      walk_at "go"
      refine Gx.ixL (SqL.of h1) h2 ?_
      walk_at "go"
      refine Gx.ixL (SqL.of h3) (Gx.at_map (hf 2 (by omega)).1) ?_
      walk_at "go"
      rw [Gd.vl_int (hf 2 (by omega)).1 (hf 2 (by omega)).2]
      refine cp_law_gray hp ?_
      walk_at "go"
      rw [Gd.xr_ne]
      rw [if_neg (show ¬ j = 1 by omega)] at q
      exact q

theorem cp_law_stored {v : Addr} {c j k p : Nat} {f : Nat → List Int} {H : Hp} {Q : VK} {E : XK} (ll : Gx.LL H v c f) (hc : c = 1 ∨ c = 3) (hj : j < c) (hp : p ≤ 1000) (hf : ∀ i, i < c → k < (f i).length ∧ ∀ z ∈ f i, 0 ≤ z) (q : Q (.int (Gd.sb f c j k p : Nat)) H) :
    Gx.CP sp_law_stored [.ref v, .int (j : Int), .int (k : Int), .int (p : Int)] [] H Q E := ⟨v, c, j, k, p, f, rfl, ll, hc, hj, hp, hf, q⟩

noncomputable def sp_law_bits (K : PySem.W.Frag) : Sp := fun vs H Q _ => ∃ (s v p : Addr) (w h d c t j k pl : Nat) (f : List (List Int)), vs = [.ref s, .ref v, .ref p] ∧ H s = some (.lst [.int (w : Int), .int (h : Int), .int (d : Int), .int (c : Int), .int (t : Int)]) ∧ Rg.Dim w h d c t ∧ Pq.RW H v f ∧ Pq.rowsOk (w * h) d c f ∧
  (SqL K H p [.int (j : Int), .int (k : Int), .int (pl : Int)] ∨ SqT K H p [.int (j : Int), .int (k : Int), .int (pl : Int)]) ∧ j < c ∧ k < Gd.ac w t * Gd.ac h t ∧ pl < d ∧ ∀ H', Same H H' → Q (.str (Bs.S (Pb.pb w h t (fun i => f.getD i []) c j k pl))) H'

theorem sc_law_bits : FnScope ["sizes", "values", "key", "signs", "pixel"] ["sizes", "values", "key"] (defScope s_law_bits) := ⟨rfl, rfl, rfl, by decide +kernel, rfl, by decide +kernel, by decide +kernel⟩
theorem ok_law_bits (T : Tx P K mg) : FnOk P w K mg base CX0 3 T.law_bits.a T.law_bits.d ["sizes", "values", "key"] (sp_law_bits K) := by
  refine T.law_bits.f.ok sc_law_bits (fun vs H Q E h => ?_) (fun cdv A outer s H vs Q E hr h => ⟨_, pss_cons (ps_setLc (i := 3) (own := [("pixel", 4)]) (g := (gName 4)) (tt := tYes) rfl sc_law_bits.nd rfl rfl (sw_true rfl rfl rfl (by decide +kernel)) (pi_list (pe_call (ok_law_pixels T) (hr.mono (by decide)) rfl T.law_pixels.g T.law_pixels.f.kp T.law_pixels.b .nil pass0 (pa_cons (pv 0) (pa_cons (pe_ix (Gx.ix_seqK (K := K) rfl) (pv 2) (pe_int) (fun _ _ => rfl)) pa_nil)))) (blkOk_by (own := [("pixel", 4)]) (N := ["sizes", "values", "key", "signs", "pixel"]) (sc := defScope s_law_bits) (by decide +kernel)) (fun _ _ _ _ _ => (pg_name (i := 4) sc_law_bits.nd rfl (Or.inl rfl))) (fun _ _ _ _ _ => pts_nil) (fun _ _ _ _ _ => pe_ix (Gx.ix_seqK (K := K) rfl) (pe_str) (pe_call (ok_law_stored T) (hr.mono (by decide)) rfl T.law_stored.g T.law_stored.f.kp T.law_stored.b .nil pass0 (pa_cons (pv 1) (pa_cons (pe_ix (Gx.ix_seqK (K := K) rfl) (pv 2) (pe_int) (fun _ _ => rfl)) (pa_cons (pv 4) (pa_cons (pe_ix (Gx.ix_seqK (K := K) rfl) (pv 2) (pe_int) (fun _ _ => rfl)) pa_nil))))) (fun _ _ => rfl)))
      (pss_one (ps_ret (pe_join (pe_str) (pv 3)))), ?_⟩)
  · obtain ⟨s, v, p, w, h, d, c, t, j, k, pl, f, rfl, _⟩ := h
    rfl
  · skip
    obtain ⟨s', v, p, w, h, d, c, t, j, k, pl, f, rfl, hS, D, hv, hok, hk, hj, hkt, hpl, q⟩ := h
    obtain ⟨l1, l2, l3, l4, l5, l6, l7⟩ := D.ok
    obtain ⟨a1, a2, a3, a4, a5, a6, a7, a8, a9, a10⟩ := id D
    have hfl := hok.1
    have hbox := Pb.box_le (w := w) (h := h) (k := k) (t := t) (by omega)
    walk_at "run"
    refine Nx.ixLT hk (at_of (j := 1) rfl rfl) ?_
    walk_at "run"
    refine cp_law_pixels (SqL.of hS) D hkt fun p1 H1 n1 s1 h1 => ?_
    unfold pxs at h1
    have hk1 := Nx.viaLT s1 hk
    walk_at "run"
    refine Gx.lp (SqL.of h1) ?_
    refine Gx.lcMap (walk_list (xs := _)) (by rw [List.length_map, List.length_range]; omega) (fun m => .str (Bs.S [decide (Gd.sb (fun i => f.getD i []) c j (Gd.pix w t k m) pl = 1)])) (fun _ s => s.seq (SqL.of h1)) Gx.sameAt ?_ ?_
    · rintro m y H3 H3' R R0 hm s3 ⟨rfl, hy⟩ hr
      rw [List.length_map, List.length_range] at hm
      rw [List.getElem?_map, List.getElem?_range hm] at hy
      have hy := Option.some.inj hy
      subst hy
      have hm2 := Gd.pix_lt (show 0 < w by omega) (show 0 < t by omega) hkt hm
      have hk3 := Nx.viaLT s3 hk1
      walk_at "run"
      refine Nx.ixLT hk3 (at_of (j := 0) rfl rfl) ?_
      walk_at "run"
      refine Nx.ixLT hk3 (at_of (j := 2) rfl rfl) ?_
      walk_at "run"
      refine cp_law_stored ((hv.keep s1).keep s3) (by omega) (by omega) (by omega) (hok.1 ▸ Pb.rowHf hok hm2) ?_
      refine Pb.ix01 (Pb.sb_le _ _ _ _ _) ?_
      rw [hok.1]
      exact hr _ (Same.refl _)
    intro p2 H2 n2 s2 h2
    rw [List.length_map, List.length_range] at h2
    walk_at "run"
    refine Pb.joinS (SqL.of h2) (by omega) ?_
    exact q _ (s1.trans s2)

theorem cp_law_bits {K : PySem.W.Frag} {s v p : Addr} {w h d c t j k pl : Nat} {f : List (List Int)} {H : Hp} {Q : VK} {E : XK} (hS : H s = some (.lst [.int (w : Int), .int (h : Int), .int (d : Int), .int (c : Int), .int (t : Int)])) (D : Rg.Dim w h d c t) (hv : Pq.RW H v f) (ok : Pq.rowsOk (w * h) d c f) (hk : SqL K H p [.int (j : Int), .int (k : Int), .int (pl : Int)] ∨ SqT K H p [.int (j : Int), .int (k : Int), .int (pl : Int)]) (hj : j < c) (hkt : k < Gd.ac w t * Gd.ac h t) (hpl : pl < d)
  (q : ∀ H', Same H H' → Q (.str (Bs.S (Pb.pb w h t (fun i => f.getD i []) c j k pl))) H') : Gx.CP (sp_law_bits K) [.ref s, .ref v, .ref p] [] H Q E := ⟨s, v, p, w, h, d, c, t, j, k, pl, f, rfl, hS, D, hv, ok, hk, hj, hkt, hpl, q⟩

noncomputable def sp_law_drawn (CF : Addr) : Sp := fun vs H Q _ => ∃ (fa pk : Addr) (w h d c t : Nat) (cell : Int), vs = [.ref fa, .ref pk, .int cell] ∧ Frm CF H fa w h d c t ∧ Rg.Dim w h d c t ∧ w * h * d * c ≤ 24576 ∧ Gx.TL H pk (d * c * (Gd.ac w t * Gd.ac h t)) (Gd.ky (Gd.ac w t * Gd.ac h t) c d) ∧
  ∀ p H' (G : Nat → List Bool), H p = none → Same H H' → H' p = some (.dT (Dw.kvl (Gd.ac w t * Gd.ac h t) c d G (List.range (d * c * (Gd.ac w t * Gd.ac h t))))) → (∀ i, i < d * c * (Gd.ac w t * Gd.ac h t) → (G i).length = Ar.bx w h t (Gd.ac w t * Gd.ac h t) i) → Q (.ref p) H'

theorem sc_law_drawn : FnScope ["frame", "keys", "cell", "total", "key", "bits", "packets", "at", "size", "bit"] ["frame", "keys", "cell"] (defScope s_law_drawn) := ⟨rfl, rfl, rfl, by decide +kernel, rfl, by decide +kernel, by decide +kernel⟩
theorem ok_law_drawn (T : Tx P K mg) : FnOk P w K mg base CX0 5 T.law_drawn.a T.law_drawn.d ["frame", "keys", "cell"] (sp_law_drawn T.a_Frame) := by
  refine T.law_drawn.f.ok sc_law_drawn (fun vs H Q E h => ?_) (fun cdv A outer s H vs Q E hr h => ⟨_, pss_cons (ps_set (i := 3) sc_law_drawn.nd rfl (Or.inl rfl) (pe_callB (cr_sum rfl) rfl T.n_sum (by decide +kernel) (pa_cons (pe_lc (own := [("key", 4)]) (g := (gName 4)) (tt := tYes) rfl sc_law_drawn.nd (pi_list (pv 1)) (blkOk_by (own := [("key", 4)]) (N := ["frame", "keys", "cell", "total", "key", "bits", "packets", "at", "size", "bit"]) (sc := defScope s_law_drawn) (by decide +kernel)) (fun _ _ _ _ _ => (pg_name (i := 4) sc_law_drawn.nd rfl (Or.inl rfl))) (fun _ _ _ _ _ => pts_nil) (fun _ _ _ _ _ => pe_callB (Gx.c_lenK (K := K) rfl) rfl T.n_len (by decide +kernel) (pa_cons (pe_call (ok_tile_pixels T) (hr.mono (by decide)) rfl T.tile_pixels.g T.tile_pixels.f.kp T.tile_pixels.b .nil pass0 (pa_cons (pv 0) (pa_cons (pe_ix (Gx.ix_seqK (K := K) rfl) (pv 4) (pe_int) (fun _ _ => rfl)) pa_nil))) pa_nil))) pa_nil)))
      (pss_cons (ps_set (i := 5) sc_law_drawn.nd rfl (Or.inl rfl) (pe_call (ok_law_numbers T) (hr.mono (by decide)) rfl T.law_numbers.g T.law_numbers.f.kp T.law_numbers.b .nil pass0 (pa_cons (pv 2) (pa_cons (pv 3) (pa_cons (pe_int) pa_nil)))))
      (pss_cons (ps_set (i := 6) sc_law_drawn.nd rfl (Or.inl rfl) (pe_dnewT))
      (pss_cons (ps_set (i := 7) sc_law_drawn.nd rfl (Or.inl rfl) (pe_int))
      (pss_cons (ps_for PassesOwn.never rfl (pi_list (pv 1)) (pg_name (i := 4) sc_law_drawn.nd rfl (Or.inl rfl))
      (pss_cons (ps_set (i := 8) sc_law_drawn.nd rfl (Or.inl rfl) (pe_callB (Gx.c_lenK (K := K) rfl) rfl T.n_len (by decide +kernel) (pa_cons (pe_call (ok_tile_pixels T) (hr.mono (by decide)) rfl T.tile_pixels.g T.tile_pixels.f.kp T.tile_pixels.b .nil pass0 (pa_cons (pv 0) (pa_cons (pe_ix (Gx.ix_seqK (K := K) rfl) (pv 4) (pe_int) (fun _ _ => rfl)) pa_nil))) pa_nil)))
      (pss_cons (ps_dput (hu_of hr) (pv 6) (pv 4) (pe_join (pe_str) (pe_lc (own := [("bit", 9)]) (g := (gName 9)) (tt := tYes) rfl sc_law_drawn.nd (pi_list (pe_slice (Gx.sl_listK (K := K) rfl) (pv 5) (po_some (pv 7)) (po_some (pe_op op_add (pv 7) (pv 8))))) (blkOk_by (own := [("bit", 9)]) (N := ["frame", "keys", "cell", "total", "key", "bits", "packets", "at", "size", "bit"]) (sc := defScope s_law_drawn) (by decide +kernel)) (fun _ _ _ _ _ => (pg_name (i := 9) sc_law_drawn.nd rfl (Or.inl rfl))) (fun _ _ _ _ _ => pts_nil) (fun _ _ _ _ _ => pe_ix (Gx.ix_seqK (K := K) rfl) (pe_str) (pv 9) (fun _ _ => rfl)))) rfl)
      (pss_one (ps_set (i := 7) sc_law_drawn.nd rfl (Or.inl rfl) (pe_op op_add (pv 7) (pv 8)))))))
      (pss_one (ps_ret (pv 6))))))), ?_⟩)
  · obtain ⟨fa, pk, w, h, d, c, t, cell, rfl, _⟩ := h
    rfl
  · skip
    obtain ⟨fa, pk, w, h, d, c, t, cell, rfl, fr, D, big, hK, q⟩ := h
    obtain ⟨a1, a2, a3, a4, a5, a6, a7, a8, a9, a10⟩ := id D
    obtain ⟨l1, l2, l3, l4, l5, l6, l7, l8, l9⟩ := D.ok
    have hc0 : 0 < c := by omega
    have hsum : ((List.range (d * c * (Gd.ac w t * Gd.ac h t))).map (Ar.bx w h t (Gd.ac w t * Gd.ac h t))).sum = d * c * (w * h) := by
      rw [Nb.bx_sum a1 a3 a8, Nb.acc_all a1 a3 a8]
    have hcd : d * c * (w * h) = w * h * d * c := by rw [Nat.mul_assoc (w * h) d c, Nat.mul_comm (w * h)]
    generalize hT : Gd.ac w t * Gd.ac h t = T0 at *
    have hNK : d * c * T0 ≤ 8 * 3 * (64 * 64) := Nat.mul_le_mul (Nat.mul_le_mul a6 (by omega)) l6
    obtain ⟨ks, k1, k2, k3⟩ := id hK
    have kl : (ks.map V.ref).length = d * c * T0 := by rw [List.length_map, k2]
    walk_at "run"
    refine Gx.lp (SqL.of k1) ?_
    refine Gx.lcMap (walk_list (xs := ks.map V.ref)) (by omega) (fun i => .int ((Ar.bx w h t T0 i : Nat) : Int)) (fun _ s => s.seq (SqL.of k1)) Gx.sameAt ?_ ?_
    · rintro i y H2 H2' R R0 hi s2 ⟨rfl, hy⟩ hr
      rw [kl] at hi
      rw [List.getElem?_map] at hy
      cases ea : ks[i]? with
      | none => rw [ea] at hy; cases hy
      | some ka =>
        rw [ea] at hy
        cases hy
        have hka := s2 _ _ (k3 i ka ea)
        rw [Dx.ky_ix hc0 l5 hi] at hka
        have hka : H2' ka = some (.tup [.int ((i / T0 % c : Nat) : Int), .int ((i % T0 : Nat) : Int), .int ((d - 1 - i / T0 / c : Nat) : Int)]) := hka
        walk_at "run"
        refine cp_tile_pixels (fr.keep s2) a8 a9 a1 a2 a3 a4 (by rw [hT]; exact Nat.mod_lt _ l5) fun pt H3 n3 s3 h3 => ?_
        walk_at "run"
        refine Gx.lenL (SqL.of h3) ?_
        rw [Gx.made_len, show Gd.sd h t (i % T0 / Gd.ac w t) * Gd.sd w t (i % T0 % Gd.ac w t) = Ar.bx w h t T0 i from rfl]
        exact hr _ s3
    intro pe H3 n3 s3 h3
    rw [kl] at h3
    walk_at "run"
    refine Gx.sumP (ns := (List.range (d * c * T0)).map fun i => ((Ar.bx w h t T0 i : Nat) : Int)) (SqL.of (by rw [h3, List.map_map]; rfl)) ?_
    rw [Dx.sum_cast, hsum]
    walk_at "run"
    refine cp_law_numbers ⟨by omega, by omega⟩ (by decide) (by decide) fun xs pb H4 hl hb _ s4 hB => ?_
    rw [Int.toNat_natCast] at hl
    obtain ⟨ms, rfl, hms⟩ := Gy.nats_of hb
    rw [List.length_map] at hl
    have hK4 := (hK.keep s3).keep s4
    have sA := s3.trans s4
    have k1' := sA _ _ k1
    obtain ⟨G, hG⟩ : ∃ G : Nat → List Bool, G = fun i => (List.range (Ar.bx w h t T0 i)).map fun m => decide ((((ms.drop (Dx.acc w h t i)).take (Ar.bx w h t T0 i))).getD m 0 = 1) := ⟨_, rfl⟩
    walk_at "run"
    refine Dx.dnewT fun pd H5 O5 => ?_
    walk_at "run"
    refine Gx.lp (SqL.of (O5.same _ _ k1')) ?_
    refine Gx.fw (walk_list (xs := ks.map V.ref)) (fun i σ' H' => ∃ (R : Hp) (v4 v8 v9 : Option V), Same H4 R ∧ Fx.Own R H' (Nx.one pd (.dT (Dw.kvl T0 c d G (List.range i)))) ∧ σ' = [some (.ref fa), some (.ref pk), some (.int cell), some (.int ((d * c * (w * h) : Nat) : Int)), v4, some (.ref pb), some (.ref pd), some (.int ((Dx.acc w h t i : Nat) : Int)), v8, v9]) ?_ (fun i σ' H' _ ⟨R, v4, v8, v9, sR, O, _⟩ => SqL.of (O.same _ _ (sR _ _ k1'))) ?_ ?_
    · exact ⟨H4, _, _, _, Same.refl _, O5, by rw [Dx.acc_zero]; rfl⟩
    · rintro i y σ' H6 H6' hi ⟨R, v4, v8, v9, sR, O, rfl⟩ ⟨rfl, hy⟩
      rw [kl] at hi
      rw [List.getElem?_map] at hy
      cases ea : ks[i]? with
      | none => rw [ea] at hy; cases hy
      | some ka =>
        rw [ea] at hy
        cases hy
        have hk0 := sR _ _ (sA _ _ (k3 i ka ea))
        have hka := O.same _ _ hk0
        rw [Dx.ky_ix hc0 l5 hi] at hka
        have hka : H6' ka = some (.tup [.int ((i / T0 % c : Nat) : Int), .int ((i % T0 : Nat) : Int), .int ((d - 1 - i / T0 / c : Nat) : Int)]) := hka
        have sH := sA.trans (sR.trans O.same)
        have hbox : Ar.bx w h t T0 i ≤ 256 := Pb.box_le (w := w) (h := h) (k := i % T0) a9
        have hacc : Dx.acc w h t i + Ar.bx w h t T0 i ≤ d * c * (w * h) := by
          have := Dx.acc_le (n := d * c) (w := w) (h := h) (t := t) (i := i) (by omega) (by omega) (by omega) (by rw [hT]; exact hi)
          rw [hT] at this
          exact this
        have hstep : Dx.acc w h t (i + 1) = Dx.acc w h t i + Ar.bx w h t T0 i := by
          have := Dx.acc_step (w := w) (h := h) (t := t) (i := i) (by omega) (by omega) (by omega)
          rw [hT] at this
          exact this
        walk_at "run"
        refine cp_tile_pixels (fr.keep sH) a8 a9 a1 a2 a3 a4 (by rw [hT]; exact Nat.mod_lt _ l5) fun pt H7 n7 s7 h7 => ?_
        walk_at "run"
        refine Gx.lenL (SqL.of h7) ?_
        rw [Gx.made_len, show Gd.sd h t (i % T0 / Gd.ac w t) * Gd.sd w t (i % T0 % Gd.ac w t) = Ar.bx w h t T0 i from rfl]
        obtain ⟨R2, O2, sR2, _⟩ := Nx.Own.grow O s7
        have sR2' := sR2
        have sR := sR.trans sR2
        have hB2 := O2.same _ _ (sR _ _ hB)
        clear O sR2 s7 h7 n7 sH
        have hGi : G i = (List.range (Ar.bx w h t T0 i)).map fun m => decide ((((ms.drop (Dx.acc w h t i)).take (Ar.bx w h t T0 i))).getD m 0 = 1) := by rw [hG]
        have hput := Dw.kvl_new (G := G) (T := T0) (c := c) (d := d) hc0 l5 (l := List.range i) hi (fun m hm => Nat.lt_trans (List.mem_range.mp hm) hi) (by simp)
        rw [← List.range_succ] at hput
        walk_at "run"
        refine Nx.slL0 (SqL.of hB2) fun ps13 H13 n13 s13 h13 => ?_
        rw [← Int.natCast_add, Gx.cutV_ints _ (by rw [List.length_map]; omega), ← List.map_drop, ← List.map_take] at h13
        generalize hss : (ms.drop (Dx.acc w h t i)).take (Ar.bx w h t T0 i) = ss at h13 hGi
        have hsl : ss.length = Ar.bx w h t T0 i := by rw [← hss, List.length_take, List.length_drop]; omega
        have hs1 : ∀ b ∈ ss, b ≤ 1 := fun b hb => hms b (by rw [← hss] at hb; exact List.mem_of_mem_drop (List.mem_of_mem_take hb))
        rw [List.map_map] at h13
        walk_at "run"
        refine Gx.lp (SqL.of h13) ?_
        refine Gx.lcMap (walk_list (xs := _)) (by rw [List.length_map]; omega) (fun m => .str (Bs.S [decide (ss.getD m 0 = 1)])) (fun _ s => s.seq (SqL.of h13)) Gx.sameAt ?_ ?_
        · rintro m y H14 H14' R3 R03 hm s14 ⟨rfl, hy⟩ hr
          rw [List.length_map] at hm
          rw [List.getElem?_map, List.getElem?_eq_getElem hm] at hy
          have hy := Option.some.inj hy
          subst hy
          have hg : ss.getD m 0 = ss[m] := by rw [List.getD_eq_getElem?_getD, List.getElem?_eq_getElem hm]; rfl
          walk_at "run"
          refine Pb.ix01 (hs1 _ (List.getElem_mem hm)) ?_
          rw [hg] at hr
          exact hr _ (Same.refl _)
        intro p15 H15 n15 s15 h15
        rw [List.length_map, hsl] at h15
        obtain ⟨R3, O4, sR3, _⟩ := Nx.Own.grow O2 (s13.trans s15)
        have sH5 := sR.trans sR3
        have hk5 := O4.same _ _ (sR3 _ _ (sR2' _ _ hk0))
        walk_at "run"
        refine ⟨_, p15, ((List.range (Ar.bx w h t T0 i)).map fun m => [decide (ss.getD m 0 = 1)]).map Bs.S, rfl, rfl, .inl (by rw [List.map_map, List.map_map]; exact SqL.of h15), Pk.joinN (fun r hr => ?_) (by rw [List.length_map, List.length_range]; omega), ?_⟩
        · obtain ⟨m, _, rfl⟩ := List.mem_map.mp hr
          show 1 ≤ 8; decide
        rw [Pk.joinE, Pk.singles, ← hGi]
        walk_at "run"
        refine Dx.dpT (k := En.ik (Gd.ky T0 c d i)) O4 (by rw [En.ik_kV]; exact hk5) (by rw [Dw.kvl_len, List.length_range, sizeLine_eq]; omega) fun H16 O5 => ?_
        rw [hput] at O5
        walk_at "run"
        rw [← Int.natCast_add, ← hstep]
        exact ⟨R3, _, _, _, sH5, O5, rfl⟩
    rintro σ' H6 ⟨R, v4, v8, v9, sR, O, rfl⟩
    rw [kl] at O
    walk_at "run"
    refine q pd H6 G ((sA.trans sR).free (Nx.no1 O)) (sA.trans (sR.trans O.same)) (Nx.at1 O) fun i hi => ?_
    rw [hG]; simp

theorem cp_law_drawn {CF fa pk : Addr} {w h d c t : Nat} {cell : Int} {H : Hp} {Q : VK} {E : XK} (fr : Frm CF H fa w h d c t) (D : Rg.Dim w h d c t) (big : w * h * d * c ≤ 24576) (hK : Gx.TL H pk (d * c * (Gd.ac w t * Gd.ac h t)) (Gd.ky (Gd.ac w t * Gd.ac h t) c d))
  (q : ∀ p H' (G : Nat → List Bool), H p = none → Same H H' → H' p = some (.dT (Dw.kvl (Gd.ac w t * Gd.ac h t) c d G (List.range (d * c * (Gd.ac w t * Gd.ac h t))))) → (∀ i, i < d * c * (Gd.ac w t * Gd.ac h t) → (G i).length = Ar.bx w h t (Gd.ac w t * Gd.ac h t) i) → Q (.ref p) H') : Gx.CP (sp_law_drawn CF) [.ref fa, .ref pk, .int cell] [] H Q E := ⟨fa, pk, w, h, d, c, t, cell, rfl, fr, D, big, hK, q⟩

noncomputable def sp_law_order : Sp := fun vs H Q _ => ∃ (s : Addr) (w h d c t n : Nat), vs = [.ref s, .int (n : Int)] ∧ H s = some (.lst [.int (w : Int), .int (h : Int), .int (d : Int), .int (c : Int), .int (t : Int)]) ∧ d ≤ 8 ∧ c ≤ 3 ∧ n ≤ 10000 ∧ ∀ p H', H p = none → Same H H' → Gx.TL H' p (d * c * n) (Gd.ky n c d) → Q (.ref p) H'

theorem sc_law_order : FnScope ["sizes", "tiles", "keys", "down", "channel", "tile"] ["sizes", "tiles"] (defScope s_law_order) := ⟨rfl, rfl, rfl, by decide +kernel, rfl, by decide +kernel, by decide +kernel⟩
theorem ok_law_order (T : Tx P K mg) : FnOk P w K mg base CX0 1 T.law_order.a T.law_order.d ["sizes", "tiles"] (sp_law_order) := by
  refine T.law_order.f.ok sc_law_order (fun vs H Q E h => ?_) (fun cdv A outer s H vs Q E hr h => ⟨_, pss_cons (ps_set (i := 2) sc_law_order.nd rfl (Or.inl rfl) (pe_lst pa_nil))
      (pss_cons (ps_for PassesOwn.never rfl (pi_range1 rfl T.n_range (pa_cons (pe_ix (Gx.ix_seqK (K := K) rfl) (pv 0) (pe_int) (fun _ _ => rfl)) pa_nil)) (pg_name (i := 3) sc_law_order.nd rfl (Or.inl rfl))
      (pss_one (ps_for PassesOwn.never rfl (pi_range1 rfl T.n_range (pa_cons (pe_ix (Gx.ix_seqK (K := K) rfl) (pv 0) (pe_int) (fun _ _ => rfl)) pa_nil)) (pg_name (i := 4) sc_law_order.nd rfl (Or.inl rfl))
      (pss_one (ps_for PassesOwn.never rfl (pi_range1 rfl T.n_range (pa_cons (pv 1) pa_nil)) (pg_name (i := 5) sc_law_order.nd rfl (Or.inl rfl))
      (pss_one (ps_expr (pe_bm PySem.F.plainAttrs_list PySem.F.slot_list_append PySem.F.type_list_append mt_append (pv 2) (pa_cons (pe_tup (pa_cons (pv 4) (pa_cons (pv 5) (pa_cons (pe_op op_sub (pe_op op_sub (pe_ix (Gx.ix_seqK (K := K) rfl) (pv 0) (pe_int) (fun _ _ => rfl)) (pe_int)) (pv 3)) pa_nil)))) pa_nil)))))))))
      (pss_one (ps_ret (pv 2)))), ?_⟩)
  · obtain ⟨s, w, h, d, c, t, n, rfl, _⟩ := h
    rfl
  · skip
    obtain ⟨s, w, h, d, c, t, n, rfl, hS, hd, hc, hn, q⟩ := h
    walk_at "go"
    refine Gx.lstP (Nat.zero_le _) fun p hp => ?_
    have big : ∀ {i j k : Nat}, i < d → j < c → k < n → (i * c + j) * n + k < 8 * 3 * 10000 + 1000000 := fun {i j k} hi hj hk => by
      have a1 : i * c + j ≤ 7 * 3 + 3 := Nat.add_le_add (Nat.mul_le_mul (by omega) hc) (by omega)
      have a2 : (i * c + j) * n ≤ (7 * 3 + 3) * 10000 := Nat.mul_le_mul a1 hn
      omega
    walk_at "go"
    refine Gx.ixL (SqL.of (Gx.same_new hp _ _ hS)) (at_of (j := 2) rfl rfl) ?_
    walk_at "go"
    refine Gx.r1 (by omega) (by omega) ?_
    rw [Int.toNat_natCast]
    refine Gx.fw walk_range (fun i σ' H' => Same H H' ∧ Gx.TL H' p (i * c * n) (Gd.ky n c d) ∧ ∃ v1 v2 v3 : Option V, σ' = [some (.ref s), some (.int (n : Int)), some (.ref p), v1, v2, v3])
      ⟨Gx.same_new hp, by rw [Nat.zero_mul, Nat.zero_mul]; exact Gx.TL.nil upd_same, none, none, none, rfl⟩ (fun _ _ _ _ _ => trivial) ?_ ?_
    · rintro i x σ' H2 H2' hi ⟨s2, tl2, v1, v2, v3, rfl⟩ ⟨rfl, hx⟩
      have hx2 : x = .int (i : Int) := hx.trans (congrArg V.int (by omega))
      subst hx2
      walk_at "go"
      refine Gx.ixL (SqL.of (s2 _ _ hS)) (at_of (j := 3) rfl rfl) ?_
      walk_at "go"
      refine Gx.r1 (by omega) (by omega) ?_
      rw [Int.toNat_natCast]
      refine Gx.fw walk_range (fun j σ' H' => Same H H' ∧ Gx.TL H' p ((i * c + j) * n) (Gd.ky n c d) ∧ ∃ v2 v3 : Option V, σ' = [some (.ref s), some (.int (n : Int)), some (.ref p), some (.int (i : Int)), v2, v3])
        ⟨s2, tl2, _, _, rfl⟩ (fun _ _ _ _ _ => trivial) ?_ ?_
      · rintro j x σ' H3 H3' hj ⟨s3, tl3, v2, v3, rfl⟩ ⟨rfl, hx⟩
        have hx2 : x = .int (j : Int) := hx.trans (congrArg V.int (by omega))
        subst hx2
        walk_at "go"
        refine Gx.r1 (by omega) (by omega) ?_
        rw [Int.toNat_natCast]
        refine Gx.fw walk_range (fun k σ' H' => Same H H' ∧ Gx.TL H' p ((i * c + j) * n + k) (Gd.ky n c d) ∧ ∃ v3 : Option V, σ' = [some (.ref s), some (.int (n : Int)), some (.ref p), some (.int (i : Int)), some (.int (j : Int)), v3])
          ⟨s3, tl3, _, rfl⟩ (fun _ _ _ _ _ => trivial) ?_ ?_
        · rintro k x σ' H4 H4' hk ⟨s4, tl4, v3, rfl⟩ ⟨rfl, hx⟩
          have hx2 : x = .int (k : Int) := hx.trans (congrArg V.int (by omega))
          subst hx2
          obtain ⟨xs0, hp0, hl0⟩ : ∃ xs, H4' p = some (.lst xs) ∧ xs.length = (i * c + j) * n + k := by
            obtain ⟨ps, e1, e2, e3⟩ := tl4
            exact ⟨_, e1, by rw [List.length_map]; exact e2⟩
          walk_at "go"
          refine Gx.bmS (Gx.tyL (SqL.of hp0)) ?_
          walk_at "go"
          refine Gx.ixL (SqL.of (s4 _ _ hS)) (at_of (j := 2) rfl rfl) ?_
          walk_at "go"
          refine Gx.tupP (by show 3 ≤ sizeLine; decide) fun a ha => ?_
          have sa := Gx.same_new (o := .tup [.int (j : Int), .int (k : Int), .int ((d : Int) - 1 - (i : Int))]) ha
          obtain ⟨xs, e1, e2, e3⟩ := (tl4.keep sa).snoc (t := a) (by rw [upd_same, Gd.ky_of hj hk]; rfl)
          have hb := big hi hj hk
          walk_at "go"
          refine Gx.app e1 (by rw [e2, sizeLine_eq]; omega) ?_
          walk_at "go"
          exact ⟨Gx.same_up hp (s4.trans sa), e3, _, rfl⟩
        · rintro σ' H4 ⟨s4, tl4, v3, rfl⟩
          walk_at "go"
          exact ⟨s4, by rw [show i * c + (j + 1) = (i * c + j) + 1 by omega, Nat.succ_mul]; exact tl4, _, _, rfl⟩
      · rintro σ' H3 ⟨s3, tl3, v2, v3, rfl⟩
        walk_at "go"
        exact ⟨s3, by rw [Nat.succ_mul]; exact tl3, _, _, _, rfl⟩
    · rintro σ' H2 ⟨s2, tl2, v1, v2, v3, rfl⟩
      walk_at "go"
      exact q p H2 hp s2 tl2

theorem cp_law_order {s : Addr} {w h d c t n : Nat} {H : Hp} {Q : VK} {E : XK} (hS : H s = some (.lst [.int (w : Int), .int (h : Int), .int (d : Int), .int (c : Int), .int (t : Int)])) (hd : d ≤ 8) (hc : c ≤ 3) (hn : n ≤ 10000)
    (q : ∀ p H', H p = none → Same H H' → Gx.TL H' p (d * c * n) (Gd.ky n c d) → Q (.ref p) H') : Gx.CP sp_law_order [.ref s, .int (n : Int)] [] H Q E := ⟨s, w, h, d, c, t, n, rfl, hS, hd, hc, hn, q⟩

noncomputable def sp_law_tiles : Sp := fun vs H Q _ => ∃ (s : Addr) (w h d c t : Nat), vs = [.ref s] ∧ H s = some (.lst [.int (w : Int), .int (h : Int), .int (d : Int), .int (c : Int), .int (t : Int)]) ∧ 1 ≤ t ∧ t ≤ 16 ∧ w ≤ 64 ∧ Q (.int (Gd.ac w t * Gd.ac h t : Nat)) H

theorem sc_law_tiles : FnScope ["sizes"] ["sizes"] (defScope s_law_tiles) := ⟨rfl, rfl, rfl, by decide +kernel, rfl, by decide +kernel, by decide +kernel⟩
theorem ok_law_tiles (T : Tx P K mg) : FnOk P w K mg base CX0 1 T.law_tiles.a T.law_tiles.d ["sizes"] (sp_law_tiles) := by
  refine T.law_tiles.f.ok sc_law_tiles (fun vs H Q E h => ?_) (fun cdv A outer s H vs Q E hr h => ⟨_, pss_one (ps_ret (pe_op op_mul (pe_op op_fdiv (pe_op op_sub (pe_op op_add (pe_ix (Gx.ix_seqK (K := K) rfl) (pv 0) (pe_int) (fun _ _ => rfl)) (pe_ix (Gx.ix_seqK (K := K) rfl) (pv 0) (pe_int) (fun _ _ => rfl))) (pe_int)) (pe_ix (Gx.ix_seqK (K := K) rfl) (pv 0) (pe_int) (fun _ _ => rfl))) (pe_op op_fdiv (pe_op op_sub (pe_op op_add (pe_ix (Gx.ix_seqK (K := K) rfl) (pv 0) (pe_int) (fun _ _ => rfl)) (pe_ix (Gx.ix_seqK (K := K) rfl) (pv 0) (pe_int) (fun _ _ => rfl))) (pe_int)) (pe_ix (Gx.ix_seqK (K := K) rfl) (pv 0) (pe_int) (fun _ _ => rfl))))), ?_⟩)
  · obtain ⟨s, w, h, d, c, t, rfl, _⟩ := h
    rfl
  · skip
    obtain ⟨s, w, h, d, c, t, rfl, hS, ht1, ht2, hw, q⟩ := h
    have l1 := Gd.ac_le (n := w) (t := t) (by omega)
    walk_at "go"
    refine Gx.ixL (SqL.of hS) (at_of (j := 0) rfl rfl) ?_
    walk_at "go"
    refine Gx.ixL (SqL.of hS) (at_of (j := 4) rfl rfl) ?_
    walk_at "go"
    refine Gx.ixL (SqL.of hS) (at_of (j := 4) rfl rfl) ?_
    walk_at "go"
    refine Gx.ic ⟨by omega, by omega⟩ ?_
    walk_at "go"
    refine Gx.ixL (SqL.of hS) (at_of (j := 1) rfl rfl) ?_
    walk_at "go"
    refine Gx.ixL (SqL.of hS) (at_of (j := 4) rfl rfl) ?_
    walk_at "go"
    refine Gx.ixL (SqL.of hS) (at_of (j := 4) rfl rfl) ?_
    walk_at "go"
    refine Gx.ic ⟨by omega, by omega⟩ ?_
    walk_at "go"
    rw [Gd.ac_int (by omega), Gd.ac_int (by omega)]
    refine Gx.ic (.inl (by omega)) ?_
    rw [← Int.natCast_mul]
    exact q

theorem cp_law_tiles {s : Addr} {w h d c t : Nat} {H : Hp} {Q : VK} {E : XK} (hS : H s = some (.lst [.int (w : Int), .int (h : Int), .int (d : Int), .int (c : Int), .int (t : Int)])) (h1 : 1 ≤ t) (h2 : t ≤ 16) (hw : w ≤ 64) (q : Q (.int (Gd.ac w t * Gd.ac h t : Nat)) H) : Gx.CP sp_law_tiles [.ref s] [] H Q E := ⟨s, w, h, d, c, t, rfl, hS, h1, h2, hw, q⟩

noncomputable def sp_Frame_init (CE C : Addr) : Sp := fun vs H Q E => ∃ (H0 : Hp) (x dx : Addr) (w h d c t : Int), vs = [.ref x, .int w, .int h, .int d, .int c, .int t] ∧ H x = some (.ins C dx []) ∧ Same H0 H ∧ H0 x = none ∧
  (Sx.frameBad w h d c t = none → ∀ (H' : Hp), Same H0 H' → Frm C H' x w.toNat h.toNat d.toNat c.toNat t.toNat → Q .non H') ∧ (∀ z, Sx.frameBad w h d c t = some z → Sx.Err CE H0 z E)

theorem sc_Frame___init__ : FnScope ["self", "width", "height", "depth", "channels", "tile"] ["self", "width", "height", "depth", "channels", "tile"] (defScope s_Frame___init__) := ⟨rfl, rfl, rfl, by decide +kernel, rfl, by decide +kernel, by decide +kernel⟩
theorem ok_Frame___init__ (T : Tx P K mg) : FnOk P w K mg base (L2.CX P w) 5 T.Frame___init__.a T.Frame___init__.d ["self", "width", "height", "depth", "channels", "tile"] (sp_Frame_init T.x_OutOfRange.C T.a_Frame) := by
  refine T.Frame___init__.f.okX sc_Frame___init__ (fun vs H Q E h => ?_) (fun cdv A outer s H vs Q E hr h => ⟨_, pss_cons (ps_expr (pe_callS (ok_check_kind T) (hr.mono (by decide)) rfl T.check_kind.g T.check_kind.f.kp T.check_kind.b (fun σ => passAt (takes_of rfl rfl rfl rfl) σ) (pa_cons (pv 1) (pa_cons (pv 2) (pa_cons (pv 3) (pa_cons (pv 4) pa_nil))))))
      (pss_cons (ps_expr (pe_callS (ok_check_range T) (hr.mono (by decide)) rfl T.check_range.g T.check_range.f.kp T.check_range.b (fun σ => passAt (takes_of rfl rfl rfl rfl) σ) (pa_cons (pe_str) (pa_cons (pv 5) (pa_cons (pe_int) (pa_cons (pe_glob (v := .int 16) rfl T.c_TILE_MOST ⟨_, rfl⟩) pa_nil))))))
      (pss_cons (ps_expr (pe_callS (ok_check_size T) (hr.mono (by decide)) rfl T.check_size.g T.check_size.f.kp T.check_size.b (fun σ => passAt (takes_of rfl rfl rfl rfl) σ) (pa_cons (pv 1) (pa_cons (pv 2) (pa_cons (pv 4) pa_nil)))))
      (pss_cons (ps_fld (pv 0) (pv 1) rfl)
      (pss_cons (ps_fld (pv 0) (pv 2) rfl)
      (pss_cons (ps_fld (pv 0) (pv 3) rfl)
      (pss_cons (ps_fld (pv 0) (pv 4) rfl)
      (pss_one (ps_fld (pv 0) (pv 5) rfl)))))))), ?_⟩)
  · obtain ⟨H0, x, dx, w, h, d, c, t, rfl, _⟩ := h
    rfl
  · skip
    obtain ⟨H0, x, dx, w, h, d, c, t, rfl, hx, s0, h0, q, qe⟩ := h
    unfold Sx.frameBad at q qe
    walk_at "go"
    refine cs_check_kind (fun hk H1 s1 => ?_) (fun z e => (qe z (by rw [e])).mono s0)
    rw [hk] at q qe
    dsimp only at q qe
    obtain ⟨k1, k2, k3, k4⟩ := Sx.kindBad_none.mp hk
    have hx := s1 _ _ hx
    have s0 := s0.trans s1
    walk_at "go"
    refine cs_check_range (fun a1 a2 => ?_) (fun a => (qe _ (if_pos a)).mono s0)
    rw [if_neg (not_not_intro ⟨a1, a2⟩)] at q qe
    walk_at "go"
    refine cs_check_size k1 k2 (by omega) (fun a => ?_) (fun a => (qe _ (if_pos a)).mono s0)
    rw [if_neg (by omega)] at q
    walk_at "go"
    refine Gx.sfp hx T.cl_Frame T.na_Frame_width (by walk_at "few") rfl ?_
    walk_at "go"
    refine Gx.sfp upd_same T.cl_Frame T.na_Frame_height (by walk_at "few") rfl ?_
    walk_at "go"
    refine Gx.sfp upd_same T.cl_Frame T.na_Frame_depth (by walk_at "few") rfl ?_
    walk_at "go"
    refine Gx.sfp upd_same T.cl_Frame T.na_Frame_channels (by walk_at "few") rfl ?_
    walk_at "go"
    refine Gx.sfp upd_same T.cl_Frame T.na_Frame_tile (by walk_at "few") rfl ?_
    rw [upd_upd, upd_upd, upd_upd, upd_upd, ini_Frame]
    refine q rfl _ (Gx.same_up h0 s0) ⟨dx, ?_⟩
    rw [upd_same, Int.toNat_of_nonneg (by omega), Int.toNat_of_nonneg (by omega), Int.toNat_of_nonneg (by omega), Int.toNat_of_nonneg (by omega), Int.toNat_of_nonneg (by omega)]

theorem mk_Frame {CE C : Addr} {w h d c t : Nat} {H : Hp} {Q : VK} {E : XK} (hw : 1 ≤ w ∧ w ≤ 64) (hh : 1 ≤ h ∧ h ≤ 64) (hd : 1 ≤ d ∧ d ≤ 8) (hc : c = 1 ∨ c = 3) (ht : 1 ≤ t ∧ t ≤ 16) (hs : w * h * c ≤ 3072) (q : ∀ x H2, Same H H2 → H x = none → Frm C H2 x w h d c t → Q (.ref x) H2) :
    Gx.MkP C (sp_Frame_init CE C) [.int (w : Int), .int (h : Int), .int (d : Int), .int (c : Int), .int (t : Int)] [] H Q E := by
  intro x dx hx hdx hne
  have ok : Sx.frameBad (w : Int) (h : Int) (d : Int) (c : Int) (t : Int) = none := Sx.frameBad_none.mpr ⟨by omega, by omega, by omega, by omega, by omega, by rw [← Int.natCast_mul, ← Int.natCast_mul]; omega⟩
  exact ⟨H, x, dx, w, h, d, c, t, rfl, upd_same, Gx.same_up hx (Gx.same_new hdx), hx, fun _ H2 s2 fr => ⟨rfl, q x H2 s2 hx fr⟩, fun z e => by rw [ok] at e; cases e⟩
/-- width, height, depth, channels, tile -/
noncomputable def sp_law_sizes : Sp := fun vs H Q _ => ∃ (c : Int) (m : Nat), vs = [.int c, .int (m : Int)] ∧ 1 ≤ m ∧ m ≤ 64 ∧
  ∀ (w h d ch t : Nat) (p : Addr) (H' : Hp), 1 ≤ w ∧ w ≤ m ∧ 1 ≤ h ∧ h ≤ m ∧ 1 ≤ d ∧ d ≤ 8 ∧ (ch = 1 ∨ ch = 3) ∧ 1 ≤ t ∧ t ≤ 16 ∧ w * h * ch ≤ 3072 → H p = none → Same H H' → H' p = some (.lst [.int (w : Int), .int (h : Int), .int (d : Int), .int (ch : Int), .int (t : Int)]) → Q (.ref p) H'

theorem sc_law_sizes : FnScope ["cell", "most", "row", "channels", "width", "height"] ["cell", "most"] (defScope s_law_sizes) := ⟨rfl, rfl, rfl, by decide +kernel, rfl, by decide +kernel, by decide +kernel⟩
theorem ok_law_sizes (T : Tx P K mg) : FnOk P w K mg base CX0 3 T.law_sizes.a T.law_sizes.d ["cell", "most"] (sp_law_sizes) := by
  refine T.law_sizes.f.ok sc_law_sizes (fun vs H Q E h => ?_) (fun cdv A outer s H vs Q E hr h => ⟨_, pss_cons (ps_set (i := 2) sc_law_sizes.nd rfl (Or.inl rfl) (pe_call (ok_law_numbers T) (hr.mono (by decide)) rfl T.law_numbers.g T.law_numbers.f.kp T.law_numbers.b .nil pass0 (pa_cons (pv 0) (pa_cons (pe_int) (pa_cons (pe_int) pa_nil)))))
      (pss_cons (ps_set (i := 3) sc_law_sizes.nd rfl (Or.inl rfl) (pe_op op_add (pe_int) (pe_op op_mul (pe_int) (pe_op op_mod (pe_ix (Gx.ix_seqK (K := K) rfl) (pv 2) (pe_int) (fun _ _ => rfl)) (pe_int)))))
      (pss_cons (ps_set (i := 4) sc_law_sizes.nd rfl (Or.inl rfl) (pe_op op_add (pe_int) (pe_op op_mod (pe_ix (Gx.ix_seqK (K := K) rfl) (pv 2) (pe_int) (fun _ _ => rfl)) (pv 1))))
      (pss_cons (ps_set (i := 5) sc_law_sizes.nd rfl (Or.inl rfl) (pe_callB (Gx.c_min2 rfl) rfl T.n_min (by decide +kernel) (pa_cons (pe_op op_add (pe_int) (pe_op op_mod (pe_ix (Gx.ix_seqK (K := K) rfl) (pv 2) (pe_int) (fun _ _ => rfl)) (pv 1))) (pa_cons (pe_op op_fdiv (pe_int) (pe_op op_mul (pv 4) (pv 3))) pa_nil))))
      (pss_one (ps_ret (pe_lst (pa_cons (pv 4) (pa_cons (pv 5) (pa_cons (pe_op op_add (pe_int) (pe_op op_mod (pe_ix (Gx.ix_seqK (K := K) rfl) (pv 2) (pe_int) (fun _ _ => rfl)) (pe_int))) (pa_cons (pv 3) (pa_cons (pe_op op_add (pe_int) (pe_op op_mod (pe_ix (Gx.ix_seqK (K := K) rfl) (pv 2) (pe_int) (fun _ _ => rfl)) (pe_int))) pa_nil))))))))))), ?_⟩)
  · obtain ⟨c, m, rfl, _⟩ := h
    rfl
  · skip
    obtain ⟨c, m, rfl, hm1, hm2, q⟩ := h
    walk_at "go"
    refine cp_law_numbers (by decide) (by decide) (by decide) fun xs p H1 hl hb hp s1 hL => ?_
    obtain ⟨r0, r1, r2, r3, r4, rfl⟩ : ∃ r0 r1 r2 r3 r4 : Int, xs = [r0, r1, r2, r3, r4] := by
      match xs, hl with
      | [r0, r1, r2, r3, r4], _ => exact ⟨_, _, _, _, _, rfl⟩
    have b0 := hb r0 (by simp)
    have b1 := hb r1 (by simp)
    have b2 := hb r2 (by simp)
    have b3 := hb r3 (by simp)
    have b4 := hb r4 (by simp)
    obtain ⟨ch, hch, hc⟩ : ∃ ch : Nat, 1 + 2 * (r3 % 2) = (ch : Int) ∧ (ch = 1 ∨ ch = 3) := ⟨(1 + 2 * (r3 % 2)).toNat, by omega, by omega⟩
    obtain ⟨w, hw, hw1, hw2⟩ : ∃ w : Nat, 1 + r0 % (m : Int) = (w : Int) ∧ 1 ≤ w ∧ w ≤ m := by
      have e0 := Int.emod_nonneg r0 (show (m : Int) ≠ 0 by omega)
      have e1 := Int.emod_lt_of_pos r0 (show (0 : Int) < m by omega)
      exact ⟨(1 + r0 % (m : Int)).toNat, by omega, by omega, by omega⟩
    obtain ⟨g, hg, hg1, hg2⟩ : ∃ g : Nat, 1 + r1 % (m : Int) = (g : Int) ∧ 1 ≤ g ∧ g ≤ m := by
      have e0 := Int.emod_nonneg r1 (show (m : Int) ≠ 0 by omega)
      have e1 := Int.emod_lt_of_pos r1 (show (0 : Int) < m by omega)
      exact ⟨(1 + r1 % (m : Int)).toNat, by omega, by omega, by omega⟩
    obtain ⟨d, hd, hd1, hd2⟩ : ∃ d : Nat, 1 + r2 % 8 = (d : Int) ∧ 1 ≤ d ∧ d ≤ 8 := ⟨(1 + r2 % 8).toNat, by omega, by omega, by omega⟩
    obtain ⟨t, ht, ht1, ht2⟩ : ∃ t : Nat, 1 + r4 % 16 = (t : Int) ∧ 1 ≤ t ∧ t ≤ 16 := ⟨(1 + r4 % 16).toNat, by omega, by omega, by omega⟩
    have wc1 : w * ch ≤ 64 * 3 := Nat.mul_le_mul (by omega) (by omega)
    have wc0 : 0 < w * ch := Nat.mul_pos (by omega) (by omega)
    have q3 : 16 ≤ 3072 / (w * ch) := (Nat.le_div_iff_mul_le wc0).mpr (by omega)
    obtain ⟨h, hh, hh1, hh2, hh3⟩ : ∃ h : Nat, (if ((3072 / (w * ch) : Nat) : Int) < (g : Int) then ((3072 / (w * ch) : Nat) : Int) else (g : Int)) = (h : Int) ∧ 1 ≤ h ∧ h ≤ m ∧ h ≤ 3072 / (w * ch) := by
      generalize 3072 / (w * ch) = z at *
      by_cases e : ((z : Nat) : Int) < (g : Int)
      · exact ⟨z, by rw [if_pos e], by omega, by omega, by omega⟩
      · exact ⟨g, by rw [if_neg e], by omega, by omega, by omega⟩
    have big := Gd.room hh3 wc0
    have at' : ∀ {i : Nat} {z : Int}, [r0, r1, r2, r3, r4][i]? = some z → atI ([r0, r1, r2, r3, r4].map V.int) (i : Int) = some (.int z) := fun {i z} e => atI_nat (by rw [List.getElem?_map, e]; rfl)
    walk_at "go"
    refine Gx.ixL (SqL.of hL) (at' (i := 3) rfl) ?_
    walk_at "go"
    refine Gx.ic (by decide) ?_
    walk_at "go"
    refine Gx.ic (.inl (by decide)) ?_
    walk_at "go"
    rw [hch]
    refine Gx.ixL (SqL.of hL) (at' (i := 0) rfl) ?_
    walk_at "go"
    refine Gx.ic (show (0 : Int) < (m : Int) by omega) ?_
    walk_at "go"
    rw [hw]
    refine Gx.ixL (SqL.of hL) (at' (i := 1) rfl) ?_
    walk_at "go"
    refine Gx.ic (show (0 : Int) < (m : Int) by omega) ?_
    walk_at "go"
    rw [hg]
    refine Gx.ic (.inl (by omega)) ?_
    walk_at "go"
    rw [← Int.natCast_mul]
    refine Gx.ic ⟨by omega, by omega⟩ ?_
    walk_at "go"
    refine Gx.min2 ?_
    walk_at "go"
    rw [show (3072 : Int) / ((w * ch : Nat) : Int) = ((3072 / (w * ch) : Nat) : Int) from rfl, hh]
    refine Gx.ixL (SqL.of hL) (at' (i := 2) rfl) ?_
    walk_at "go"
    refine Gx.ic (by decide) ?_
    walk_at "go"
    refine Gx.ixL (SqL.of hL) (at' (i := 4) rfl) ?_
    walk_at "go"
    refine Gx.ic (by decide) ?_
    walk_at "go"
    rw [hd, ht]
    refine Gx.lstP (by show 5 ≤ sizeLine; decide) fun p2 hp2 => ?_
    exact q w h d ch t p2 _ ⟨hw1, hw2, hh1, hh2, hd1, hd2, hc, ht1, ht2, big⟩ (s1.free hp2) (Gx.same_up (s1.free hp2) s1) upd_same

theorem cp_law_sizes {c : Int} {m : Nat} {H : Hp} {Q : VK} {E : XK} (hm1 : 1 ≤ m) (hm2 : m ≤ 64)
    (q : ∀ (w h d ch t : Nat) (p : Addr) (H' : Hp), 1 ≤ w ∧ w ≤ m ∧ 1 ≤ h ∧ h ≤ m ∧ 1 ≤ d ∧ d ≤ 8 ∧ (ch = 1 ∨ ch = 3) ∧ 1 ≤ t ∧ t ≤ 16 ∧ w * h * ch ≤ 3072 → H p = none → Same H H' → H' p = some (.lst [.int (w : Int), .int (h : Int), .int (d : Int), .int (ch : Int), .int (t : Int)]) → Q (.ref p) H') :
    Gx.CP sp_law_sizes [.int c, .int (m : Int)] [] H Q E := ⟨c, m, rfl, hm1, hm2, q⟩


theorem sc_law : FnScope ["script", "sizes", "frame", "keys", "packets", "passed", "key", "picture", "rows", "values", "other", "back"] ["script"] (defScope s_law) := ⟨rfl, rfl, rfl, by decide +kernel, rfl, by decide +kernel, by decide +kernel⟩
theorem ok_law (T : Tx P K mg) : FnOk P w K mg base CX0 8 T.law.a T.law.d ["script"] (spLaw K) := by
  refine T.law.f.ok sc_law (fun vs H Q E h => ?_) (fun cdv A outer s H vs Q E hr h => ⟨_, pss_cons (ps_set (i := 1) sc_law.nd rfl (Or.inl rfl) (pe_call (ok_law_sizes T) (hr.mono (by decide)) rfl T.law_sizes.g T.law_sizes.f.kp T.law_sizes.b .nil pass0 (pa_cons (pe_call (ok_law_cell T) (hr.mono (by decide)) rfl T.law_cell.g T.law_cell.f.kp T.law_cell.b .nil pass0 (pa_cons (pv 0) (pa_cons (pe_int) pa_nil))) (pa_cons (pe_ifExp (pt_cmpR op_eq (pe_op op_mod (pe_call (ok_law_cell T) (hr.mono (by decide)) rfl T.law_cell.g T.law_cell.f.kp T.law_cell.b .nil pass0 (pa_cons (pv 0) (pa_cons (pe_int) pa_nil))) (pe_int)) (pe_int) (nomark _)) (pe_int) (pe_int)) pa_nil))))
      (pss_cons (ps_set (i := 2) sc_law.nd rfl (Or.inl rfl) (pe_make ⟨T.mk_Frame, T.Frame___init__.m.at_, T.Frame___init__.m.fn, T.kp_Frame⟩ (ok_Frame___init__ T) (hr.mono (by decide)) rfl T.g_Frame T.Frame___init__.b .nil passL (pa_cons (pe_ix (Gx.ix_seqK (K := K) rfl) (pv 1) (pe_int) (fun _ _ => rfl)) (pa_cons (pe_ix (Gx.ix_seqK (K := K) rfl) (pv 1) (pe_int) (fun _ _ => rfl)) (pa_cons (pe_ix (Gx.ix_seqK (K := K) rfl) (pv 1) (pe_int) (fun _ _ => rfl)) (pa_cons (pe_ix (Gx.ix_seqK (K := K) rfl) (pv 1) (pe_int) (fun _ _ => rfl)) (pa_cons (pe_ix (Gx.ix_seqK (K := K) rfl) (pv 1) (pe_int) (fun _ _ => rfl)) pa_nil)))))))
      (pss_cons (ps_set (i := 3) sc_law.nd rfl (Or.inl rfl) (pe_call (ok_law_order T) (hr.mono (by decide)) rfl T.law_order.g T.law_order.f.kp T.law_order.b .nil pass0 (pa_cons (pv 1) (pa_cons (pe_call (ok_law_tiles T) (hr.mono (by decide)) rfl T.law_tiles.g T.law_tiles.f.kp T.law_tiles.b .nil pass0 (pa_cons (pv 1) pa_nil)) pa_nil))))
      (pss_cons (ps_set (i := 4) sc_law.nd rfl (Or.inl rfl) (pe_call (ok_law_drawn T) (hr.mono (by decide)) rfl T.law_drawn.g T.law_drawn.f.kp T.law_drawn.b .nil pass0 (pa_cons (pv 2) (pa_cons (pv 3) (pa_cons (pe_call (ok_law_cell T) (hr.mono (by decide)) rfl T.law_cell.g T.law_cell.f.kp T.law_cell.b .nil pass0 (pa_cons (pv 0) (pa_cons (pe_int) pa_nil))) pa_nil)))))
      (pss_cons (ps_set (i := 5) sc_law.nd rfl (Or.inl rfl) (pe_dnewT))
      (pss_cons (ps_for PassesOwn.never rfl (pi_reversed rfl T.n_reversed (pa_cons (pv 3) pa_nil)) (pg_name (i := 6) sc_law.nd rfl (Or.inl rfl))
      (pss_one (ps_dput (hu_of hr) (pv 5) (pv 6) (pe_dget (hu_of hr) (pv 4) (pv 6) (fun _ _ => rfl)) rfl)))
      (pss_cons (ps_set (i := 7) sc_law.nd rfl (Or.inl rfl) (pe_call (ok_picture_of T) (hr.mono (by decide)) rfl T.picture_of.g T.picture_of.f.kp T.picture_of.b .nil pass0 (pa_cons (pv 2) (pa_cons (pv 5) pa_nil))))
      (pss_cons (ps_if (PW.pt (pw_or (pt_cmpR (Dq.op_neT (hu_of hr)) (pv 5) (pv 4) (nomark _)) (pw_or1 (pt_cmpR op_notBl (pe_call (ok_fits_frame T) (hr.mono (by decide)) rfl T.fits_frame.g T.fits_frame.f.kp T.fits_frame.b .nil pass0 (pa_cons (pv 2) (pa_cons (pv 7) pa_nil))) (pe_bl) (nomark _))))) (pss_one (ps_ret (pe_bl))) (pss_nil))
      (pss_cons (ps_set (i := 8) sc_law.nd rfl (Or.inl rfl) (pe_meth0 (pv 7) T.cl_Picture T.Picture_rows.m (ok_Picture_rows T) (hr.mono (by decide)) T.Picture_rows.b .nil pass0))
      (pss_cons (ps_for PassesOwn.never rfl (pi_list (pv 3)) (pg_name (i := 6) sc_law.nd rfl (Or.inl rfl))
      (pss_one (ps_if (PW.pt (pw_or (pt_cmpR op_ne (pe_call (ok_packet_bits T) (hr.mono (by decide)) rfl T.packet_bits.g T.packet_bits.f.kp T.packet_bits.b .nil passL (pa_cons (pv 2) (pa_cons (pv 7) (pa_cons (pv 6) pa_nil)))) (pe_dget (hu_of hr) (pv 4) (pv 6) (fun _ _ => rfl)) (nomark _)) (pw_or1 (pt_cmpR op_ne (pe_call (ok_law_bits T) (hr.mono (by decide)) rfl T.law_bits.g T.law_bits.f.kp T.law_bits.b .nil pass0 (pa_cons (pv 1) (pa_cons (pv 8) (pa_cons (pv 6) pa_nil)))) (pe_dget (hu_of hr) (pv 4) (pv 6) (fun _ _ => rfl)) (nomark _))))) (pss_one (ps_ret (pe_bl))) (pss_nil))))
      (pss_cons (ps_set (i := 9) sc_law.nd rfl (Or.inl rfl) (pe_call (ok_law_values T) (hr.mono (by decide)) rfl T.law_values.g T.law_values.f.kp T.law_values.b .nil pass0 (pa_cons (pe_call (ok_law_cell T) (hr.mono (by decide)) rfl T.law_cell.g T.law_cell.f.kp T.law_cell.b .nil pass0 (pa_cons (pv 0) (pa_cons (pe_int) pa_nil))) (pa_cons (pv 1) pa_nil))))
      (pss_cons (ps_set (i := 10) sc_law.nd rfl (Or.inl rfl) (pe_make ⟨T.mk_Picture, T.Picture___init__.m.at_, T.Picture___init__.m.fn, T.kp_Picture⟩ (ok_Picture___init__ T) (hr.mono (by decide)) rfl T.g_Picture T.Picture___init__.b .nil passL (pa_cons (pe_ix (Gx.ix_seqK (K := K) rfl) (pv 1) (pe_int) (fun _ _ => rfl)) (pa_cons (pe_ix (Gx.ix_seqK (K := K) rfl) (pv 1) (pe_int) (fun _ _ => rfl)) (pa_cons (pe_ix (Gx.ix_seqK (K := K) rfl) (pv 1) (pe_int) (fun _ _ => rfl)) (pa_cons (pe_ix (Gx.ix_seqK (K := K) rfl) (pv 1) (pe_int) (fun _ _ => rfl)) (pa_cons (pv 9) pa_nil)))))))
      (pss_cons (ps_for PassesOwn.never rfl (pi_list (pv 3)) (pg_name (i := 6) sc_law.nd rfl (Or.inl rfl))
      (pss_one (ps_dput (hu_of hr) (pv 5) (pv 6) (pe_call (ok_packet_bits T) (hr.mono (by decide)) rfl T.packet_bits.g T.packet_bits.f.kp T.packet_bits.b .nil passL (pa_cons (pv 2) (pa_cons (pv 10) (pa_cons (pv 6) pa_nil)))) rfl)))
      (pss_cons (ps_set (i := 11) sc_law.nd rfl (Or.inl rfl) (pe_call (ok_picture_of T) (hr.mono (by decide)) rfl T.picture_of.g T.picture_of.f.kp T.picture_of.b .nil pass0 (pa_cons (pv 2) (pa_cons (pv 5) pa_nil))))
      (pss_one (ps_ret (pe_and (pe_cmpR (op_eqD hr.units) (pe_meth0 (pv 11) T.cl_Picture T.Picture_rows.m (ok_Picture_rows T) (hr.mono (by decide)) T.Picture_rows.b .nil pass0) (pv 9) (nomark _)) (pe_and (pe_cmpR op_isBl (pe_meth (pv 11) T.cl_Picture T.Picture_same.m (ok_Picture_same T) (hr.mono (by decide)) T.Picture_same.b .nil pass0 (pa_cons (pv 10) pa_nil)) (pe_bl) (nomark _)) (pe_one (pe_cmpR (op_eqD hr.units) (pe_meth0 (pv 7) T.cl_Picture T.Picture_rows.m (ok_Picture_rows T) (hr.mono (by decide)) T.Picture_rows.b .nil pass0) (pv 8) (nomark _)))))))))))))))))))), ?_⟩)
  · obtain ⟨a, ns, rfl, _⟩ := h
    rfl
  · skip
    obtain ⟨a, ns, rfl, hs, hlen, hbits, q⟩ := h
    walk_at "run"
    refine cp_law_cell hs (by decide) (by decide) fun c0 _ => ?_
    walk_at "run"
    refine cp_law_cell hs (by decide) (by decide) fun c1 _ => ?_
    walk_at "run"
    refine Gx.if_two fun n hn => ?_
    obtain ⟨n, rfl⟩ : ∃ m : Nat, n = m := ⟨n.toNat, by omega⟩
    refine cp_law_sizes (by omega) (by omega) fun w h d c t ps H1 hb hps s1 hL => ?_
    obtain ⟨hw1, hw2, hh1, hh2, hd1, hd2, hc, ht1, ht2, big⟩ := hb
    have hs := s1.seq hs
    have D : Rg.Dim w h d c t := ⟨hw1, by omega, hh1, by omega, hd1, hd2, hc, ht1, ht2, big⟩
    obtain ⟨l1, l2, l3, l4, l5, l6, l7⟩ := D.ok
    have hc0 : 0 < c := by omega
    walk_at "run"
    refine mk_Frame ⟨hw1, by omega⟩ ⟨hh1, by omega⟩ ⟨hd1, hd2⟩ hc ⟨ht1, ht2⟩ big fun fa H2 s2 nf fr => ?_
    have hL := s2 _ _ hL
    have hs := s2.seq hs
    walk_at "run"
    refine cp_law_tiles hL ht1 (by omega) (by omega) ?_
    walk_at "run"
    refine cp_law_order hL (by omega) (by omega) (by omega) fun pk H5 n5 s5 hK => ?_
    have hL := s5 _ _ hL
    have hs := s5.seq hs
    have fr := fr.keep s5
    clear s5 n5 s2 nf s1 hps
    walk_at "run"
    refine cp_law_cell hs (by decide) (by decide) fun c2 _ => ?_
    walk_at "run"
    have hN1 : w * h * d * c ≤ 24576 := by
      have := Nat.mul_le_mul_right d big
      rw [Nat.mul_right_comm] at this
      have h2 := Nat.mul_le_mul_left 3072 hd2
      omega
    refine cp_law_drawn fr D hN1 hK fun pp H6 G n6 s6 hP hG => ?_
    have hL := s6 _ _ hL
    have hs := s6.seq hs
    have fr := fr.keep s6
    have hK := hK.keep s6
    clear s6 n6
    walk_at "run"
    refine Dx.dnewT fun pd H8 O8 => ?_
    walk_at "run"
    generalize hT : Gd.ac w t * Gd.ac h t = T0 at *
    have hNK : d * c * T0 ≤ 8 * 3 * (64 * 64) := Nat.mul_le_mul (Nat.mul_le_mul hd2 (by omega)) l6
    obtain ⟨ks, k1, k2, k3⟩ := id hK
    have kl : (ks.map V.ref).length = d * c * T0 := by rw [List.length_map, k2]
    obtain ⟨N, hN⟩ : ∃ N, d * c * T0 = N := ⟨_, rfl⟩
    -- the first i keys from behind
    obtain ⟨rv, hrv⟩ : ∃ rv : Nat → List Nat, rv = fun i => (List.range i).map fun j => N - 1 - j := ⟨_, rfl⟩
    have rv_mem : ∀ i, i ≤ N → ∀ m, m ∈ rv i ↔ N - i ≤ m ∧ m < N := fun i hi m => by
      rw [hrv, List.mem_map]
      constructor
      · rintro ⟨j, hj, rfl⟩
        have := List.mem_range.mp hj
        omega
      · rintro ⟨z1, z2⟩
        exact ⟨N - 1 - m, List.mem_range.mpr (by omega), by omega⟩
    have rv_step : ∀ i, rv (i + 1) = rv i ++ [N - 1 - i] := fun i => by rw [hrv]; dsimp only; rw [List.range_succ, List.map_append]; rfl
    have rv_len : ∀ i, (rv i).length = i := fun i => by rw [hrv]; simp
    have rv_all : ∀ m, m ∈ rv N ↔ m < d * c * T0 := fun m => by rw [rv_mem N (Nat.le_refl N), hN]; omega
    have rv_lt : ∀ i, i ≤ N → ∀ m ∈ rv i, m < d * c * T0 := fun i hi m hm => by rw [hN]; exact ((rv_mem i hi m).mp hm).2
    have rv0 : rv 0 = [] := by rw [hrv]; rfl
    clear hrv
    with_reducible refine Ar.rvw ?_
    walk_at "run"
    refine Ar.rvp (SqL.of (O8.same _ _ k1)) ?_
    refine Gx.fw (walk_rev (xs := ks.map V.ref)) (fun i σ' H' => ∃ (R : Hp) (v6 : Option V), Same H6 R ∧ Fx.Own R H' (Nx.one pd (.dT (Dw.kvl T0 c d G (rv i)))) ∧ σ' = [some (.ref a), some (.ref ps), some (.ref fa), some (.ref pk), some (.ref pp), some (.ref pd), v6, none, none, none, none, none]) ⟨H6, _, Same.refl _, by rw [rv0]; exact O8, rfl⟩ (fun i σ' H' _ ⟨R, v6, sR, O, _⟩ => SqL.of (O.same _ _ (sR _ _ k1))) ?_ ?_
    · rintro i y σ' H9 H9' hi ⟨R, v6, sR, O, rfl⟩ ⟨rfl, hy⟩
      rw [kl] at hi hy
      have hn : N - 1 - i < N := by omega
      rw [hN] at hy
      rw [show N - 1 - i = N - 1 - i from rfl, List.getElem?_map] at hy
      cases ea : ks[N - 1 - i]? with
      | none => rw [ea] at hy; cases hy
      | some ka =>
        rw [ea] at hy
        cases hy
        have hka := sR _ _ (k3 _ ka ea)
        have hka' := O.same _ _ hka
        have hput := Dw.kvl_new (G := G) (T := T0) (c := c) (d := d) hc0 l5 (l := rv i) (n := N - 1 - i) (by omega) (rv_lt i (by omega)) (fun z => by have := ((rv_mem i (by omega) _).mp z).1; omega)
        rw [← rv_step] at hput
        walk_at "run"
        refine Dx.dgT (k := En.ik (Gd.ky T0 c d (N - 1 - i))) (O.same _ _ (sR _ _ hP)) (by rw [En.ik_kV]; exact hka') (by rw [Dw.kvl_at hc0 l5 (by omega) (fun m hm => List.mem_range.mp hm), if_pos (List.mem_range.mpr (by omega))]) ?_
        walk_at "run"
        refine Dx.dpT (k := En.ik (Gd.ky T0 c d (N - 1 - i))) O (by rw [En.ik_kV]; exact hka') (by rw [Dw.kvl_len, rv_len, sizeLine_eq]; omega) fun H16 O5 => ?_
        rw [hput] at O5
        exact ⟨R, _, sR, O5, rfl⟩
    rintro σ' H9 ⟨R, v6, sR, O, rfl⟩
    rw [kl, hN] at O
    walk_at "run"
    refine cp_picture_of (fr.keep (sR.trans O.same)) D (Nx.at1 O) (by rw [hT]; exact Dw.kvl_pk hc0 l5 rv_all) (fun s' k p h1 h2 h3 => by
      have e := Nm.bx_ix (w := w) (h := h) (t := t) (c := c) (d := d) h1 h2 h3
      rw [hT] at h2 e
      rw [hG _ (Dx.ix_lt h1 h2 h3), e]) fun y r2 H10 s10 ny P2 => ?_
    obtain ⟨R2, O2, sR2, gR2⟩ := Nx.Own.grow O s10
    have sR := sR.trans sR2
    clear O sR2 gR2 s10 ny
    walk_at "run"
    refine Dq.neT (Nx.at1 O2) (O2.same _ _ (sR _ _ hP)) (by rw [Dw.kvl_len, Dw.kvl_len, rv_len, List.length_range, hN]) (Dw.kvl_same hc0 l5 (rv_lt N (Nat.le_refl N)) (fun m hm => List.mem_range.mp hm) fun m hm => List.mem_range.mpr ((rv_all m).mp hm)) ?_
    walk_at "run"
    obtain ⟨df, hf⟩ := id (fr.keep (sR.trans O2.same))
    obtain ⟨⟨dy, hy⟩, _⟩ := id P2
    refine cp_fits_frame (k4_Frame T hf) (k4_Picture T hy) ?_
    walk_at "run"
    rw [decide_eq_true ⟨rfl, rfl, rfl, rfl⟩]
    walk_at "lit"
    refine Gx.mp hy no_Picture_rows ?_
    walk_at "run"
    refine cp_Picture_rows P2 (by omega) fun pr H11 n11 s11 hRows => ?_
    have hPR : Pq.RW H11 pr (Dx.vrows (fun j k p => G (Dx.ix c T0 d j k p)) w t c d (w * h)) := Pq.RW.of hRows (Dx.vrows_len _ _ _ _ _ _) fun _ _ => rfl
    have hgok := Dx.vrows_ok (fun j k p => G (Dx.ix c T0 d j k p)) w t c d (w * h)
    have hpb : ∀ j k p, j < c → k < T0 → p < d → Pb.pb w h t (fun i => (Dx.vrows (fun j k p => G (Dx.ix c T0 d j k p)) w t c d (w * h)).getD i []) c j k p = G (Dx.ix c T0 d j k p) := fun j k p h1 h2 h3 => by
      have e := Nm.bx_ix (w := w) (h := h) (t := t) (c := c) (d := d) h1 (by rw [hT]; exact h2) h3
      rw [hT] at e
      exact Nm.pb_vrows D h1 (by rw [hT]; exact h2) h3 (by rw [hG _ (Dx.ix_lt h1 h2 h3), e])
    obtain ⟨R3, O3, sR3, gR3⟩ := Nx.Own.grow O2 s11
    have sR := sR.trans sR3
    have P3 := P2.keep s11
    clear sR3 gR3 s11 hRows P2 hy hf O2
    walk_at "run"
    have keyAt : ∀ {H' : Hp} {i : Nat} {ka : Addr}, i < d * c * T0 → H' ka = some (.tup ((Gd.ky T0 c d i).map V.int)) → H' ka = some (.tup [.int ((i / T0 % c : Nat) : Int), .int ((i % T0 : Nat) : Int), .int ((d - 1 - i / T0 / c : Nat) : Int)]) := fun {H' i ka} hi e => by
      rw [Dx.ky_ix hc0 l5 hi] at e; exact e
    have pAt : ∀ i, i < d * c * T0 → valV (Dw.kvl T0 c d G (List.range (d * c * T0))) (En.ik (Gd.ky T0 c d i)) = some (.str (Bs.S (G i))) := fun i hi => by
      rw [Dw.kvl_at hc0 l5 hi (fun m hm => List.mem_range.mp hm), if_pos (List.mem_range.mpr hi)]
    refine Gx.lp (SqL.of (O3.same _ _ (sR _ _ k1))) ?_
    refine Gx.fw (walk_list (xs := ks.map V.ref)) (fun i σ' H' => ∃ (R : Hp) (v6 : Option V), Same R3 R ∧ Same H11 H' ∧ Fx.Own R H' (Nx.one pd (.dT (Dw.kvl T0 c d G (rv N)))) ∧ σ' = [some (.ref a), some (.ref ps), some (.ref fa), some (.ref pk), some (.ref pp), some (.ref pd), v6, some (.ref y), some (.ref pr), none, none, none]) ⟨R3, _, Same.refl _, Same.refl _, O3, rfl⟩ (fun i σ' H' _ ⟨R, v6, sR', sH, O, _⟩ => SqL.of (O.same _ _ (sR' _ _ (sR _ _ k1)))) ?_ ?_
    · rintro i y' σ' H12 H12' hi ⟨R, v6, sR', sH, O, rfl⟩ ⟨rfl, hy'⟩
      rw [kl] at hi
      rw [List.getElem?_map] at hy'
      cases ea : ks[i]? with
      | none => rw [ea] at hy'; cases hy'
      | some ka =>
        rw [ea] at hy'
        cases hy'
        have hkr := (sR.trans sR') _ _ (k3 _ ka ea)
        have hka := O.same _ _ hkr
        have hk3 := keyAt hi hka
        obtain ⟨i1, i2, i3, i4, i5⟩ := Dx.ix_back hc0 l5 hi
        have sB := (sR.trans sR').trans O.same
        have e0 := hpb _ _ _ i1 i2 i3
        rw [i5] at e0
        walk_at "run"
        refine cp_packet_bits (fr.keep sB) D (P3.keep sH) hgok hk3 i1 (by rw [hT]; exact i2) i3 fun H13 s13 => ?_
        rw [e0]
        obtain ⟨R4, O4, sR4, _⟩ := Nx.Own.grow O s13
        have sB4 := (sR.trans sR').trans (sR4.trans O4.same)
        walk_at "run"
        refine Dx.dgT (k := En.ik (Gd.ky T0 c d i)) (sB4 _ _ hP) (by rw [En.ik_kV]; exact s13 _ _ hka) (pAt i hi) ?_
        walk_at "run"
        rw [decide_eq_true rfl]
        walk_at "lit"
        refine cp_law_bits (sB4 _ _ hL) D ((hPR.keep sH).keep s13) hgok (.inr (SqT.of (s13 _ _ hk3))) i1 (by rw [hT]; exact i2) i3 fun H14 s14 => ?_
        rw [e0]
        obtain ⟨R5, O5, sR5, _⟩ := Nx.Own.grow O4 s14
        have sB5 := (sR.trans sR').trans (sR4.trans (sR5.trans O5.same))
        walk_at "run"
        refine Dx.dgT (k := En.ik (Gd.ky T0 c d i)) (sB5 _ _ hP) (by rw [En.ik_kV]; exact s14 _ _ (s13 _ _ hka)) (pAt i hi) ?_
        walk_at "run"
        rw [decide_eq_true rfl]
        walk_at "lit"
        exact ⟨R5, _, sR'.trans (sR4.trans sR5), sH.trans (s13.trans s14), O5, rfl⟩
    rintro σ' H12 ⟨R, v6, sR', sH, O, rfl⟩
    have sR := sR.trans sR'
    have P4 := P3.keep sH
    have hPR4 := hPR.keep sH
    clear sR' O3 P3 hPR sH pAt hpb
    have hs := (sR.trans O.same).seq hs
    walk_at "run"
    refine cp_law_cell hs (by decide) (by decide) fun c3 _ => ?_
    walk_at "run"
    refine cp_law_values ((sR.trans O.same) _ _ hL) (by omega) (by omega) (by omega) big fun v H13 f0 nv s13 hLL hf0 => ?_
    have hv : Pq.RW H13 v ((List.range c).map f0) := Pq.RW.of hLL (by simp) fun j hj => (Pq.getD_range hj).symm
    have hok := Pq.rowsOk_range hf0
    generalize (List.range c).map f0 = f at hv hok
    clear hLL hf0
    obtain ⟨R5, O5, sR5, _⟩ := Nx.Own.grow O s13
    have sR := sR.trans sR5
    have P5 := P4.keep s13
    have hPR5 := hPR4.keep s13
    have hL5 := O5.same _ _ (sR _ _ hL)
    clear sR5 O s13 P4 hPR4 nv
    walk_at "run"
    refine mk_Picture ⟨hw1, by omega⟩ ⟨hh1, by omega⟩ ⟨hd1, hd2⟩ hc big hv hok fun x r H14 s14 nx _ P1 => ?_
    obtain ⟨R6, O6, sR6, _⟩ := Nx.Own.grow O5 s14
    have sR := sR.trans sR6
    have P6 := P5.keep s14
    have hPR6 := hPR5.keep s14
    have hv6 := hv.keep s14
    clear sR6 O5 s14 P5 hPR5 hv nx hL5
    have P1 : Pic T.a_Picture R6 x r w h d c (fun i => f.getD i []) := ⟨by obtain ⟨dx, h1⟩ := P1.ob; exact ⟨dx, Dw.off O6 h1 (fun k z => nomatch z)⟩, Dw.ll_off O6 P1.rs⟩
    have P6 : Pic T.a_Picture R6 y r2 w h d c (fun i => (Dx.vrows (fun j k p => G (Dx.ix c T0 d j k p)) w t c d (w * h)).getD i []) := ⟨by obtain ⟨dx, h1⟩ := P6.ob; exact ⟨dx, Dw.off O6 h1 (fun k z => nomatch z)⟩, Dw.ll_off O6 P6.rs⟩
    have hPR6 : Pq.RW R6 pr (Dx.vrows (fun j k p => G (Dx.ix c T0 d j k p)) w t c d (w * h)) := Dw.ll_off O6 hPR6
    have hv6 : Pq.RW R6 v f := Dw.ll_off O6 hv6
    obtain ⟨F, hF⟩ : ∃ F : Nat → List Bool, F = fun m => Nw.pbn w h t f c d m := ⟨_, rfl⟩
    walk_at "run"
    refine Gx.lp (SqL.of (O6.same _ _ (sR _ _ k1))) ?_
    refine Gx.fw (walk_list (xs := ks.map V.ref)) (fun i σ' H' => ∃ (R : Hp) (v6 : Option V), Same R6 R ∧ Fx.Own R H' (Nx.one pd (.dT (Dw.kvl T0 c d (fun m => if m < i then F m else G m) (rv N)))) ∧ σ' = [some (.ref a), some (.ref ps), some (.ref fa), some (.ref pk), some (.ref pp), some (.ref pd), v6, some (.ref y), some (.ref pr), some (.ref v), some (.ref x), none]) ⟨R6, _, Same.refl _, by rw [Dw.kvl_congr (G' := G) fun m _ => if_neg (Nat.not_lt_zero m)]; exact O6, rfl⟩ (fun i σ' H' _ ⟨R, v6, sR', O, _⟩ => SqL.of (O.same _ _ (sR' _ _ (sR _ _ k1)))) ?_ ?_
    · rintro i y' σ' H12 H12' hi ⟨R, v6, sR', O, rfl⟩ ⟨rfl, hy'⟩
      rw [kl] at hi
      rw [List.getElem?_map] at hy'
      cases ea : ks[i]? with
      | none => rw [ea] at hy'; cases hy'
      | some ka =>
        rw [ea] at hy'
        cases hy'
        have hkr := (sR.trans sR') _ _ (k3 _ ka ea)
        have hka := O.same _ _ hkr
        have hk3 := keyAt hi hka
        obtain ⟨i1, i2, i3, i4, i5⟩ := Dx.ix_back hc0 l5 hi
        have sB := (sR.trans sR').trans O.same
        have e0 : Pb.pb w h t (fun i => f.getD i []) c (i / T0 % c) (i % T0) (d - 1 - i / T0 / c) = F i := by rw [hF, ← hT]; rfl
        walk_at "run"
        refine cp_packet_bits (fr.keep sB) D ((P1.keep sR').keep O.same) hok hk3 i1 (by rw [hT]; exact i2) i3 fun H13 s13 => ?_
        rw [e0]
        obtain ⟨R4, O4, sR4, _⟩ := Nx.Own.grow O s13
        have hput := Dw.kvl_set (G := fun m => if m < i then F m else G m) (T := T0) (c := c) (d := d) (b := F i) hc0 l5 hi (l := rv N) (rv_lt N (Nat.le_refl N)) ((rv_all i).mpr hi)
        have hput2 : Dw.kvl T0 c d (fun m => if m = i then F i else if m < i then F m else G m) (rv N) = Dw.kvl T0 c d (fun m => if m < i + 1 then F m else G m) (rv N) := Dw.kvl_congr fun m _ => by
          by_cases z : m = i
          · rw [if_pos z, if_pos (by omega), z]
          · rw [if_neg z]
            by_cases z2 : m < i
            · rw [if_pos z2, if_pos (by omega)]
            · rw [if_neg z2, if_neg (by omega)]
        walk_at "run"
        refine Dx.dpT (k := En.ik (Gd.ky T0 c d i)) O4 (by rw [En.ik_kV]; exact s13 _ _ hka) (by rw [Dw.kvl_len, rv_len, sizeLine_eq]; omega) fun H16 O7 => ?_
        exact ⟨R4, _, sR'.trans sR4, by rw [hput, hput2] at O7; exact O7, rfl⟩
    rintro σ' H15 ⟨R, v6, sR', O, rfl⟩
    rw [kl, hN] at O
    rw [Dw.kvl_congr (G' := F) fun m hm => if_pos (((rv_mem N (Nat.le_refl N) m).mp hm).2)] at O
    have sB := (sR.trans sR').trans O.same
    walk_at "run"
    refine cp_picture_of (fr.keep sB) D (Nx.at1 O) (by rw [hT]; exact Dw.kvl_pk hc0 l5 rv_all) (fun s' k p h1 h2 h3 => by
      have e := Nm.bx_ix (w := w) (h := h) (t := t) (c := c) (d := d) h1 h2 h3
      have e2 := Nw.pbn_len w h t f c d (Dx.ix c (Gd.ac w t * Gd.ac h t) d s' k p)
      rw [e, hT] at e2
      rw [hF]; exact e2) fun z rz H16 s16 nz P7 => ?_
    have hrows : Dx.vrows (fun j k p => F (Dx.ix c T0 d j k p)) w t c d (w * h) = f := by
      rw [← hT, hF]
      exact Dw.back_rows D hok fun n _ => rfl
    rw [hrows] at P7
    have sH := sR'.trans O.same
    have P8 := (P1.keep sH).keep s16
    have P6 := (P6.keep sH).keep s16
    have hPR6 := (hPR6.keep sH).keep s16
    have hv6 := (hv6.keep sH).keep s16
    obtain ⟨⟨dz, hz⟩, _⟩ := id P7
    walk_at "run"
    refine Gx.mp hz no_Picture_rows ?_
    walk_at "run"
    refine cp_Picture_rows P7 (by omega) fun pz H17 n17 s17 hZ => ?_
    walk_at "run"
    refine Pq.eqRW (Pq.RW.of hZ hok.1 fun _ _ => rfl) (hv6.keep s17) ?_
    rw [decide_eq_true rfl]
    walk_at "lit"
    refine Gx.mp (s17 _ _ hz) no_Picture_same ?_
    walk_at "run"
    refine cp_Picture_same (P7.keep s17) (P8.keep s17) hok.1 hok.1 (by omega) fun H18 s18 => ?_
    walk_at "run"
    rw [decide_eq_true ⟨⟨rfl, rfl, rfl, rfl⟩, rfl⟩]
    walk_at "lit"
    have P9 := (P6.keep s17).keep s18
    obtain ⟨⟨dy, hy⟩, _⟩ := id P9
    refine Gx.mp hy no_Picture_rows ?_
    walk_at "run"
    refine cp_Picture_rows P9 (by omega) fun pw H19 n19 s19 hW => ?_
    walk_at "run"
    refine Pq.eqRW (Pq.RW.of hW hgok.1 fun _ _ => rfl) (((hPR6.keep s17).keep s18).keep s19) ?_
    rw [decide_eq_true rfl]
    exact q _


end
theorem all_mk {l : PySem.W.OpenLaw} {w : World} {K : PySem.W.Frag} {h : Heap} {mg : Str → Option Value} {fa : Addr} (X : K.In h) (G : h.Ns mainGlobals mg) (hfa : mg "law" = some (.ref fa))
    {C_Picture : Addr}
    {C_Frame : Addr}
    {C_OutOfRange f_OutOfRange cda_OutOfRange cc_OutOfRange N_OutOfRange : Addr} {nm_OutOfRange q_OutOfRange fi_OutOfRange : Str} {bs_OutOfRange bm_OutOfRange sub_OutOfRange : List Value} {sn_OutOfRange : List Str} {ab_OutOfRange : Bool} {col_OutOfRange : Option Bool} {dd_OutOfRange od_OutOfRange an_OutOfRange cdd_OutOfRange cld_OutOfRange : Option Addr} {k0_OutOfRange k1_OutOfRange k2_OutOfRange k3_OutOfRange k5_OutOfRange : Option Value} {oc_OutOfRange kV_OutOfRange dc_OutOfRange pm_OutOfRange ct_OutOfRange ccl_OutOfRange cl_OutOfRange : Value} {sl_OutOfRange ccs_OutOfRange csl_OutOfRange : Array (Option Value)} {vs_OutOfRange : Array Value} {tf_OutOfRange : Tok}
    {C_OtherKind : Addr}
    {f_Picture_rows : Addr} {od_Picture_rows an_Picture_rows : Option Addr} {sl_Picture_rows : Array (Option Value)} {oc_Picture_rows kV_Picture_rows dc_Picture_rows pm_Picture_rows cd_Picture_rows ct_Picture_rows : Value}
    {f_same_kind : Addr} {od_same_kind an_same_kind : Option Addr} {sl_same_kind : Array (Option Value)} {oc_same_kind kV_same_kind dc_same_kind pm_same_kind cd_same_kind ct_same_kind : Value}
    {f_Frame_same : Addr} {od_Frame_same an_Frame_same : Option Addr} {sl_Frame_same : Array (Option Value)} {oc_Frame_same kV_Frame_same dc_Frame_same pm_Frame_same cd_Frame_same ct_Frame_same : Value}
    {f_Picture_same : Addr} {od_Picture_same an_Picture_same : Option Addr} {sl_Picture_same : Array (Option Value)} {oc_Picture_same kV_Picture_same dc_Picture_same pm_Picture_same cd_Picture_same ct_Picture_same : Value}
    {f_check_range : Addr} {od_check_range an_check_range : Option Addr} {sl_check_range : Array (Option Value)} {oc_check_range kV_check_range dc_check_range pm_check_range cd_check_range ct_check_range : Value}
    {f_check_values : Addr} {od_check_values an_check_values : Option Addr} {sl_check_values : Array (Option Value)} {oc_check_values kV_check_values dc_check_values pm_check_values cd_check_values ct_check_values : Value}
    {f_check_size : Addr} {od_check_size an_check_size : Option Addr} {sl_check_size : Array (Option Value)} {oc_check_size kV_check_size dc_check_size pm_check_size cd_check_size ct_check_size : Value}
    {f_check_kind : Addr} {od_check_kind an_check_kind : Option Addr} {sl_check_kind : Array (Option Value)} {oc_check_kind kV_check_kind dc_check_kind pm_check_kind cd_check_kind ct_check_kind : Value}
    {f_Picture___init__ : Addr} {od_Picture___init__ an_Picture___init__ : Option Addr} {sl_Picture___init__ : Array (Option Value)} {oc_Picture___init__ kV_Picture___init__ dc_Picture___init__ pm_Picture___init__ cd_Picture___init__ ct_Picture___init__ : Value}
    {f_Frame_pixels : Addr} {od_Frame_pixels an_Frame_pixels : Option Addr} {sl_Frame_pixels : Array (Option Value)} {oc_Frame_pixels kV_Frame_pixels dc_Frame_pixels pm_Frame_pixels cd_Frame_pixels ct_Frame_pixels : Value}
    {f_value_of : Addr} {od_value_of an_value_of : Option Addr} {sl_value_of : Array (Option Value)} {oc_value_of kV_value_of dc_value_of pm_value_of cd_value_of ct_value_of : Value}
    {f_stored_channels : Addr} {od_stored_channels an_stored_channels : Option Addr} {sl_stored_channels : Array (Option Value)} {oc_stored_channels kV_stored_channels dc_stored_channels pm_stored_channels cd_stored_channels ct_stored_channels : Value}
    {f_Frame_across : Addr} {od_Frame_across an_Frame_across : Option Addr} {sl_Frame_across : Array (Option Value)} {oc_Frame_across kV_Frame_across dc_Frame_across pm_Frame_across cd_Frame_across ct_Frame_across : Value}
    {f_tile_corner : Addr} {od_tile_corner an_tile_corner : Option Addr} {sl_tile_corner : Array (Option Value)} {oc_tile_corner kV_tile_corner dc_tile_corner pm_tile_corner cd_tile_corner ct_tile_corner : Value}
    {f_tile_size : Addr} {od_tile_size an_tile_size : Option Addr} {sl_tile_size : Array (Option Value)} {oc_tile_size kV_tile_size dc_tile_size pm_tile_size cd_tile_size ct_tile_size : Value}
    {f_locate_pixel : Addr} {od_locate_pixel an_locate_pixel : Option Addr} {sl_locate_pixel : Array (Option Value)} {oc_locate_pixel kV_locate_pixel dc_locate_pixel pm_locate_pixel cd_locate_pixel ct_locate_pixel : Value}
    {f_value_in_packets : Addr} {od_value_in_packets an_value_in_packets : Option Addr} {sl_value_in_packets : Array (Option Value)} {oc_value_in_packets kV_value_in_packets dc_value_in_packets pm_value_in_packets cd_value_in_packets ct_value_in_packets : Value}
    {f_picture_of : Addr} {od_picture_of an_picture_of : Option Addr} {sl_picture_of : Array (Option Value)} {oc_picture_of kV_picture_of dc_picture_of pm_picture_of cd_picture_of ct_picture_of : Value}
    {f_tile_pixels : Addr} {od_tile_pixels an_tile_pixels : Option Addr} {sl_tile_pixels : Array (Option Value)} {oc_tile_pixels kV_tile_pixels dc_tile_pixels pm_tile_pixels cd_tile_pixels ct_tile_pixels : Value}
    {f_gray_bit : Addr} {od_gray_bit an_gray_bit : Option Addr} {sl_gray_bit : Array (Option Value)} {oc_gray_bit kV_gray_bit dc_gray_bit pm_gray_bit cd_gray_bit ct_gray_bit : Value}
    {f_Picture_value : Addr} {od_Picture_value an_Picture_value : Option Addr} {sl_Picture_value : Array (Option Value)} {oc_Picture_value kV_Picture_value dc_Picture_value pm_Picture_value cd_Picture_value ct_Picture_value : Value}
    {f_stored_bit : Addr} {od_stored_bit an_stored_bit : Option Addr} {sl_stored_bit : Array (Option Value)} {oc_stored_bit kV_stored_bit dc_stored_bit pm_stored_bit cd_stored_bit ct_stored_bit : Value}
    {f_Frame_down : Addr} {od_Frame_down an_Frame_down : Option Addr} {sl_Frame_down : Array (Option Value)} {oc_Frame_down kV_Frame_down dc_Frame_down pm_Frame_down cd_Frame_down ct_Frame_down : Value}
    {f_Frame_tiles : Addr} {od_Frame_tiles an_Frame_tiles : Option Addr} {sl_Frame_tiles : Array (Option Value)} {oc_Frame_tiles kV_Frame_tiles dc_Frame_tiles pm_Frame_tiles cd_Frame_tiles ct_Frame_tiles : Value}
    {f_check_key : Addr} {od_check_key an_check_key : Option Addr} {sl_check_key : Array (Option Value)} {oc_check_key kV_check_key dc_check_key pm_check_key cd_check_key ct_check_key : Value}
    {f_fits_frame : Addr} {od_fits_frame an_fits_frame : Option Addr} {sl_fits_frame : Array (Option Value)} {oc_fits_frame kV_fits_frame dc_fits_frame pm_fits_frame cd_fits_frame ct_fits_frame : Value}
    {f_check_fits : Addr} {od_check_fits an_check_fits : Option Addr} {sl_check_fits : Array (Option Value)} {oc_check_fits kV_check_fits dc_check_fits pm_check_fits cd_check_fits ct_check_fits : Value}
    {f_packet_bits : Addr} {od_packet_bits an_packet_bits : Option Addr} {sl_packet_bits : Array (Option Value)} {oc_packet_bits kV_packet_bits dc_packet_bits pm_packet_bits cd_packet_bits ct_packet_bits : Value}
    {f_law_mixed : Addr} {od_law_mixed an_law_mixed : Option Addr} {sl_law_mixed : Array (Option Value)} {oc_law_mixed kV_law_mixed dc_law_mixed pm_law_mixed cd_law_mixed ct_law_mixed : Value}
    {f_law_numbers : Addr} {od_law_numbers an_law_numbers : Option Addr} {sl_law_numbers : Array (Option Value)} {oc_law_numbers kV_law_numbers dc_law_numbers pm_law_numbers cd_law_numbers ct_law_numbers : Value}
    {f_law_values : Addr} {od_law_values an_law_values : Option Addr} {sl_law_values : Array (Option Value)} {oc_law_values kV_law_values dc_law_values pm_law_values cd_law_values ct_law_values : Value}
    {f_law_cell : Addr} {od_law_cell an_law_cell : Option Addr} {sl_law_cell : Array (Option Value)} {oc_law_cell kV_law_cell dc_law_cell pm_law_cell cd_law_cell ct_law_cell : Value}
    {f_law_pixels : Addr} {od_law_pixels an_law_pixels : Option Addr} {sl_law_pixels : Array (Option Value)} {oc_law_pixels kV_law_pixels dc_law_pixels pm_law_pixels cd_law_pixels ct_law_pixels : Value}
    {f_law_gray : Addr} {od_law_gray an_law_gray : Option Addr} {sl_law_gray : Array (Option Value)} {oc_law_gray kV_law_gray dc_law_gray pm_law_gray cd_law_gray ct_law_gray : Value}
    {f_law_stored : Addr} {od_law_stored an_law_stored : Option Addr} {sl_law_stored : Array (Option Value)} {oc_law_stored kV_law_stored dc_law_stored pm_law_stored cd_law_stored ct_law_stored : Value}
    {f_law_bits : Addr} {od_law_bits an_law_bits : Option Addr} {sl_law_bits : Array (Option Value)} {oc_law_bits kV_law_bits dc_law_bits pm_law_bits cd_law_bits ct_law_bits : Value}
    {f_law_drawn : Addr} {od_law_drawn an_law_drawn : Option Addr} {sl_law_drawn : Array (Option Value)} {oc_law_drawn kV_law_drawn dc_law_drawn pm_law_drawn cd_law_drawn ct_law_drawn : Value}
    {f_law_order : Addr} {od_law_order an_law_order : Option Addr} {sl_law_order : Array (Option Value)} {oc_law_order kV_law_order dc_law_order pm_law_order cd_law_order ct_law_order : Value}
    {f_law_tiles : Addr} {od_law_tiles an_law_tiles : Option Addr} {sl_law_tiles : Array (Option Value)} {oc_law_tiles kV_law_tiles dc_law_tiles pm_law_tiles cd_law_tiles ct_law_tiles : Value}
    {f_Frame___init__ : Addr} {od_Frame___init__ an_Frame___init__ : Option Addr} {sl_Frame___init__ : Array (Option Value)} {oc_Frame___init__ kV_Frame___init__ dc_Frame___init__ pm_Frame___init__ cd_Frame___init__ ct_Frame___init__ : Value}
    {f_law_sizes : Addr} {od_law_sizes an_law_sizes : Option Addr} {sl_law_sizes : Array (Option Value)} {oc_law_sizes kV_law_sizes dc_law_sizes pm_law_sizes cd_law_sizes ct_law_sizes : Value}
    {f_law : Addr} {od_law an_law : Option Addr} {sl_law : Array (Option Value)} {oc_law kV_law dc_law pm_law cd_law ct_law : Value}
    {t_DEPTH_MOST : Tok}
    {t_SIDE_MOST : Tok}
    {t_TILE_MOST : Tok}
    {t_VALUES_MOST : Tok}
    (g_Picture : PySem.W.nsIn K mainGlobals "Picture" = some (some (.ref C_Picture)))
    (pg_Picture : PySem.W.plainGet K C_Picture Str.empty = true)
    (hd_Picture : PySem.W.hasDictIn K C_Picture = true)
    (po_Picture : PySem.W.plainOver K C_Picture = true)
    (sa_Picture : PySem.W.findIn K (.ref C_Picture) "__setattr__" = some (some (.builtin "object.__setattr__")))
    (mk_Picture : PySem.W.makesIn K C_Picture = true)
    (kc_Picture : PySem.W.keepIn K (.ref C_Picture) = true)
    (na_Picture_width : PySem.W.findIn K (.ref C_Picture) "width" = some none)
    (na_Picture_height : PySem.W.findIn K (.ref C_Picture) "height" = some none)
    (na_Picture_depth : PySem.W.findIn K (.ref C_Picture) "depth" = some none)
    (na_Picture_channels : PySem.W.findIn K (.ref C_Picture) "channels" = some none)
    (na_Picture__rows : PySem.W.findIn K (.ref C_Picture) "_rows" = some none)
    (g_Frame : PySem.W.nsIn K mainGlobals "Frame" = some (some (.ref C_Frame)))
    (pg_Frame : PySem.W.plainGet K C_Frame Str.empty = true)
    (hd_Frame : PySem.W.hasDictIn K C_Frame = true)
    (po_Frame : PySem.W.plainOver K C_Frame = true)
    (sa_Frame : PySem.W.findIn K (.ref C_Frame) "__setattr__" = some (some (.builtin "object.__setattr__")))
    (mk_Frame : PySem.W.makesIn K C_Frame = true)
    (kc_Frame : PySem.W.keepIn K (.ref C_Frame) = true)
    (na_Frame_width : PySem.W.findIn K (.ref C_Frame) "width" = some none)
    (na_Frame_height : PySem.W.findIn K (.ref C_Frame) "height" = some none)
    (na_Frame_depth : PySem.W.findIn K (.ref C_Frame) "depth" = some none)
    (na_Frame_channels : PySem.W.findIn K (.ref C_Frame) "channels" = some none)
    (na_Frame_tile : PySem.W.findIn K (.ref C_Frame) "tile" = some none)
    (topS : (l.prog.main.scope.names.lookup ("super" : Str)).isSome = false)
    (nsS : PySem.W.nsIn K mainGlobals "super" = some none)
    (opS : PySem.W.nsIn K cStatics "thirdparty.any" = some none)
    (spS : PySem.W.specialIn K (.builtin "object.__class__") "__get__" = some (some (.builtin "getset_descriptor.__get__")))
    (tkS : PySem.W.takesIn K (.builtin "object.__class__") = some true)
    (g_OutOfRange : PySem.W.nsIn K mainGlobals "OutOfRange" = some (some (.ref C_OutOfRange)))
    (lC_OutOfRange : K.lookup C_OutOfRange = some (excClassObj nm_OutOfRange q_OutOfRange C_OutOfRange N_OutOfRange bs_OutOfRange bm_OutOfRange true sn_OutOfRange sub_OutOfRange ab_OutOfRange col_OutOfRange dd_OutOfRange k0_OutOfRange k1_OutOfRange k2_OutOfRange k3_OutOfRange k5_OutOfRange "ValueError.__new__"))
    (rv_OutOfRange : PySem.HandSPX.refsVE bm_OutOfRange = true)
    (sa_OutOfRange : PySem.W.findIn K (.ref C_OutOfRange) "__setattr__" = some (some (.builtin "object.__setattr__")))
    (bb_OutOfRange : PySem.W.subIn K (.ref C_OutOfRange) (.type "BaseException") = some true)
    (ty_OutOfRange : PySem.W.typeIn K (.ref C_OutOfRange) = some (.type "type"))
    (kC_OutOfRange : PySem.W.keepIn K (.ref C_OutOfRange) = true)
    (iC_OutOfRange : PySem.W.findIn K (.ref C_OutOfRange) "__init__" = some (some (.ref f_OutOfRange)))
    (tI_OutOfRange : PySem.W.typeIn K (.ref f_OutOfRange) = some (.type "function"))
    (lf_OutOfRange : K.lookup f_OutOfRange = some ⟨oc_OutOfRange, od_OutOfRange, .func (PySem.W.ksFn "__init__" "OutOfRange.__init__" (defArgs s_OutOfRange___init__) (defBody s_OutOfRange___init__) (defScope s_OutOfRange___init__) .none kV_OutOfRange dc_OutOfRange pm_OutOfRange an_OutOfRange (.ref cda_OutOfRange) ct_OutOfRange cc_OutOfRange), sl_OutOfRange⟩)
    (cf_OutOfRange : PySem.W.codeIn K (.ref cda_OutOfRange) "OutOfRange.__init__" = true)
    (lcd_OutOfRange : K.lookup cda_OutOfRange = some ⟨ccl_OutOfRange, cdd_OutOfRange, .fields vs_OutOfRange, ccs_OutOfRange⟩)
    (vs2_OutOfRange : vs_OutOfRange[2]? = some (.str fi_OutOfRange tf_OutOfRange))
    (fil_OutOfRange : ((l.prog.main.file : Str) == fi_OutOfRange) = true)
    (lcc_OutOfRange : K.lookup cc_OutOfRange = some ⟨cl_OutOfRange, cld_OutOfRange, .cell (some (.ref C_OutOfRange)), csl_OutOfRange⟩)
    (su_OutOfRange : PySem.W.mroIn K C_OutOfRange (.ref C_OutOfRange) = some true)
    (sup_OutOfRange : PySem.W.ks_superIn K C_OutOfRange C_OutOfRange "__init__" = some (some (.builtin "ValueError.__init__")))
    (isV_OutOfRange : PySem.W.subIn K (.ref C_OutOfRange) (.type "ValueError") = some true)
    (ga_OutOfRange : PySem.W.findIn K (.ref C_OutOfRange) "__getattribute__" = some (some (.builtin "BaseException.__getattribute__")))
    (gg_OutOfRange : PySem.W.findIn K (.ref C_OutOfRange) "__getattr__" = some none)
    (ca_OutOfRange : PySem.W.findIn K (.ref C_OutOfRange) "__class__" = some (some (.builtin "object.__class__")))
    (ob_OutOfRange : PySem.W.mroIn K C_OutOfRange (.type "object") = some true)
    (hd_OutOfRange : PySem.W.hasDictIn K C_OutOfRange = true)
    (ss_OutOfRange : PySem.W.subIn K (.ref C_OutOfRange) (.ref C_OutOfRange) = some true)
    (g_OtherKind : PySem.W.nsIn K mainGlobals "OtherKind" = some (some (.ref C_OtherKind)))
    (kC_OtherKind : PySem.W.keepIn K (.ref C_OtherKind) = true)
    (ex_OtherKind : PySem.W.excIn K C_OtherKind [.type "ValueError", .type "Exception", .type "BaseException", .type "object"] "ValueError.__new__" = true)
    (bb_OtherKind : PySem.W.subIn K (.ref C_OtherKind) (.type "BaseException") = some true)
    (ty_OtherKind : PySem.W.typeIn K (.ref C_OtherKind) = some (.type "type"))
    (hd_OtherKind : PySem.W.hasDictIn K C_OtherKind = true)
    (ss_OtherKind : PySem.W.subIn K (.ref C_OtherKind) (.ref C_OtherKind) = some true)
    (nf_OutOfRange_name : PySem.W.findIn K (.ref C_OutOfRange) "name" = some none)
    (a_Picture_rows : PySem.W.findIn K (.ref C_Picture) "rows" = some (some (.ref f_Picture_rows)))
    (i_Picture_rows : PySem.W.isFn K (.ref f_Picture_rows) = true)
    (l_Picture_rows : K.lookup f_Picture_rows = some ⟨oc_Picture_rows, od_Picture_rows, .func (PySem.W.fnOf "rows" "Picture.rows" (defArgs s_Picture_rows) (defBody s_Picture_rows) (defScope s_Picture_rows) .none kV_Picture_rows dc_Picture_rows pm_Picture_rows an_Picture_rows cd_Picture_rows ct_Picture_rows), sl_Picture_rows⟩)
    (c_Picture_rows : PySem.W.codeIn K cd_Picture_rows "Picture.rows" = true)
    (k_Picture_rows : PySem.W.keepIn K (.ref f_Picture_rows) = true)
    (a_same_kind : PySem.W.nsIn K mainGlobals "same_kind" = some (some (.ref f_same_kind)))
    (l_same_kind : K.lookup f_same_kind = some ⟨oc_same_kind, od_same_kind, .func (PySem.W.fnOf "same_kind" "same_kind" (defArgs s_same_kind) (defBody s_same_kind) (defScope s_same_kind) .none kV_same_kind dc_same_kind pm_same_kind an_same_kind cd_same_kind ct_same_kind), sl_same_kind⟩)
    (c_same_kind : PySem.W.codeIn K cd_same_kind "same_kind" = true)
    (k_same_kind : PySem.W.keepIn K (.ref f_same_kind) = true)
    (a_Frame_same : PySem.W.findIn K (.ref C_Frame) "same" = some (some (.ref f_Frame_same)))
    (i_Frame_same : PySem.W.isFn K (.ref f_Frame_same) = true)
    (l_Frame_same : K.lookup f_Frame_same = some ⟨oc_Frame_same, od_Frame_same, .func (PySem.W.fnOf "same" "Frame.same" (defArgs s_Frame_same) (defBody s_Frame_same) (defScope s_Frame_same) .none kV_Frame_same dc_Frame_same pm_Frame_same an_Frame_same cd_Frame_same ct_Frame_same), sl_Frame_same⟩)
    (c_Frame_same : PySem.W.codeIn K cd_Frame_same "Frame.same" = true)
    (k_Frame_same : PySem.W.keepIn K (.ref f_Frame_same) = true)
    (a_Picture_same : PySem.W.findIn K (.ref C_Picture) "same" = some (some (.ref f_Picture_same)))
    (i_Picture_same : PySem.W.isFn K (.ref f_Picture_same) = true)
    (l_Picture_same : K.lookup f_Picture_same = some ⟨oc_Picture_same, od_Picture_same, .func (PySem.W.fnOf "same" "Picture.same" (defArgs s_Picture_same) (defBody s_Picture_same) (defScope s_Picture_same) .none kV_Picture_same dc_Picture_same pm_Picture_same an_Picture_same cd_Picture_same ct_Picture_same), sl_Picture_same⟩)
    (c_Picture_same : PySem.W.codeIn K cd_Picture_same "Picture.same" = true)
    (k_Picture_same : PySem.W.keepIn K (.ref f_Picture_same) = true)
    (a_check_range : PySem.W.nsIn K mainGlobals "check_range" = some (some (.ref f_check_range)))
    (l_check_range : K.lookup f_check_range = some ⟨oc_check_range, od_check_range, .func (PySem.W.fnOf "check_range" "check_range" (defArgs s_check_range) (defBody s_check_range) (defScope s_check_range) .none kV_check_range dc_check_range pm_check_range an_check_range cd_check_range ct_check_range), sl_check_range⟩)
    (c_check_range : PySem.W.codeIn K cd_check_range "check_range" = true)
    (k_check_range : PySem.W.keepIn K (.ref f_check_range) = true)
    (a_check_values : PySem.W.nsIn K mainGlobals "check_values" = some (some (.ref f_check_values)))
    (l_check_values : K.lookup f_check_values = some ⟨oc_check_values, od_check_values, .func (PySem.W.fnOf "check_values" "check_values" (defArgs s_check_values) (defBody s_check_values) (defScope s_check_values) .none kV_check_values dc_check_values pm_check_values an_check_values cd_check_values ct_check_values), sl_check_values⟩)
    (c_check_values : PySem.W.codeIn K cd_check_values "check_values" = true)
    (k_check_values : PySem.W.keepIn K (.ref f_check_values) = true)
    (a_check_size : PySem.W.nsIn K mainGlobals "check_size" = some (some (.ref f_check_size)))
    (l_check_size : K.lookup f_check_size = some ⟨oc_check_size, od_check_size, .func (PySem.W.fnOf "check_size" "check_size" (defArgs s_check_size) (defBody s_check_size) (defScope s_check_size) .none kV_check_size dc_check_size pm_check_size an_check_size cd_check_size ct_check_size), sl_check_size⟩)
    (c_check_size : PySem.W.codeIn K cd_check_size "check_size" = true)
    (k_check_size : PySem.W.keepIn K (.ref f_check_size) = true)
    (a_check_kind : PySem.W.nsIn K mainGlobals "check_kind" = some (some (.ref f_check_kind)))
    (l_check_kind : K.lookup f_check_kind = some ⟨oc_check_kind, od_check_kind, .func (PySem.W.fnOf "check_kind" "check_kind" (defArgs s_check_kind) (defBody s_check_kind) (defScope s_check_kind) .none kV_check_kind dc_check_kind pm_check_kind an_check_kind cd_check_kind ct_check_kind), sl_check_kind⟩)
    (c_check_kind : PySem.W.codeIn K cd_check_kind "check_kind" = true)
    (k_check_kind : PySem.W.keepIn K (.ref f_check_kind) = true)
    (a_Picture___init__ : PySem.W.findIn K (.ref C_Picture) "__init__" = some (some (.ref f_Picture___init__)))
    (i_Picture___init__ : PySem.W.isFn K (.ref f_Picture___init__) = true)
    (l_Picture___init__ : K.lookup f_Picture___init__ = some ⟨oc_Picture___init__, od_Picture___init__, .func (PySem.W.fnOf "__init__" "Picture.__init__" (defArgs s_Picture___init__) (defBody s_Picture___init__) (defScope s_Picture___init__) .none kV_Picture___init__ dc_Picture___init__ pm_Picture___init__ an_Picture___init__ cd_Picture___init__ ct_Picture___init__), sl_Picture___init__⟩)
    (c_Picture___init__ : PySem.W.codeIn K cd_Picture___init__ "Picture.__init__" = true)
    (k_Picture___init__ : PySem.W.keepIn K (.ref f_Picture___init__) = true)
    (a_Frame_pixels : PySem.W.findIn K (.ref C_Frame) "pixels" = some (some (.ref f_Frame_pixels)))
    (i_Frame_pixels : PySem.W.isFn K (.ref f_Frame_pixels) = true)
    (l_Frame_pixels : K.lookup f_Frame_pixels = some ⟨oc_Frame_pixels, od_Frame_pixels, .func (PySem.W.fnOf "pixels" "Frame.pixels" (defArgs s_Frame_pixels) (defBody s_Frame_pixels) (defScope s_Frame_pixels) .none kV_Frame_pixels dc_Frame_pixels pm_Frame_pixels an_Frame_pixels cd_Frame_pixels ct_Frame_pixels), sl_Frame_pixels⟩)
    (c_Frame_pixels : PySem.W.codeIn K cd_Frame_pixels "Frame.pixels" = true)
    (k_Frame_pixels : PySem.W.keepIn K (.ref f_Frame_pixels) = true)
    (a_value_of : PySem.W.nsIn K mainGlobals "value_of" = some (some (.ref f_value_of)))
    (l_value_of : K.lookup f_value_of = some ⟨oc_value_of, od_value_of, .func (PySem.W.fnOf "value_of" "value_of" (defArgs s_value_of) (defBody s_value_of) (defScope s_value_of) .none kV_value_of dc_value_of pm_value_of an_value_of cd_value_of ct_value_of), sl_value_of⟩)
    (c_value_of : PySem.W.codeIn K cd_value_of "value_of" = true)
    (k_value_of : PySem.W.keepIn K (.ref f_value_of) = true)
    (a_stored_channels : PySem.W.nsIn K mainGlobals "stored_channels" = some (some (.ref f_stored_channels)))
    (l_stored_channels : K.lookup f_stored_channels = some ⟨oc_stored_channels, od_stored_channels, .func (PySem.W.fnOf "stored_channels" "stored_channels" (defArgs s_stored_channels) (defBody s_stored_channels) (defScope s_stored_channels) .none kV_stored_channels dc_stored_channels pm_stored_channels an_stored_channels cd_stored_channels ct_stored_channels), sl_stored_channels⟩)
    (c_stored_channels : PySem.W.codeIn K cd_stored_channels "stored_channels" = true)
    (k_stored_channels : PySem.W.keepIn K (.ref f_stored_channels) = true)
    (a_Frame_across : PySem.W.findIn K (.ref C_Frame) "across" = some (some (.ref f_Frame_across)))
    (i_Frame_across : PySem.W.isFn K (.ref f_Frame_across) = true)
    (l_Frame_across : K.lookup f_Frame_across = some ⟨oc_Frame_across, od_Frame_across, .func (PySem.W.fnOf "across" "Frame.across" (defArgs s_Frame_across) (defBody s_Frame_across) (defScope s_Frame_across) .none kV_Frame_across dc_Frame_across pm_Frame_across an_Frame_across cd_Frame_across ct_Frame_across), sl_Frame_across⟩)
    (c_Frame_across : PySem.W.codeIn K cd_Frame_across "Frame.across" = true)
    (k_Frame_across : PySem.W.keepIn K (.ref f_Frame_across) = true)
    (a_tile_corner : PySem.W.nsIn K mainGlobals "tile_corner" = some (some (.ref f_tile_corner)))
    (l_tile_corner : K.lookup f_tile_corner = some ⟨oc_tile_corner, od_tile_corner, .func (PySem.W.fnOf "tile_corner" "tile_corner" (defArgs s_tile_corner) (defBody s_tile_corner) (defScope s_tile_corner) .none kV_tile_corner dc_tile_corner pm_tile_corner an_tile_corner cd_tile_corner ct_tile_corner), sl_tile_corner⟩)
    (c_tile_corner : PySem.W.codeIn K cd_tile_corner "tile_corner" = true)
    (k_tile_corner : PySem.W.keepIn K (.ref f_tile_corner) = true)
    (a_tile_size : PySem.W.nsIn K mainGlobals "tile_size" = some (some (.ref f_tile_size)))
    (l_tile_size : K.lookup f_tile_size = some ⟨oc_tile_size, od_tile_size, .func (PySem.W.fnOf "tile_size" "tile_size" (defArgs s_tile_size) (defBody s_tile_size) (defScope s_tile_size) .none kV_tile_size dc_tile_size pm_tile_size an_tile_size cd_tile_size ct_tile_size), sl_tile_size⟩)
    (c_tile_size : PySem.W.codeIn K cd_tile_size "tile_size" = true)
    (k_tile_size : PySem.W.keepIn K (.ref f_tile_size) = true)
    (a_locate_pixel : PySem.W.nsIn K mainGlobals "locate_pixel" = some (some (.ref f_locate_pixel)))
    (l_locate_pixel : K.lookup f_locate_pixel = some ⟨oc_locate_pixel, od_locate_pixel, .func (PySem.W.fnOf "locate_pixel" "locate_pixel" (defArgs s_locate_pixel) (defBody s_locate_pixel) (defScope s_locate_pixel) .none kV_locate_pixel dc_locate_pixel pm_locate_pixel an_locate_pixel cd_locate_pixel ct_locate_pixel), sl_locate_pixel⟩)
    (c_locate_pixel : PySem.W.codeIn K cd_locate_pixel "locate_pixel" = true)
    (k_locate_pixel : PySem.W.keepIn K (.ref f_locate_pixel) = true)
    (a_value_in_packets : PySem.W.nsIn K mainGlobals "value_in_packets" = some (some (.ref f_value_in_packets)))
    (l_value_in_packets : K.lookup f_value_in_packets = some ⟨oc_value_in_packets, od_value_in_packets, .func (PySem.W.fnOf "value_in_packets" "value_in_packets" (defArgs s_value_in_packets) (defBody s_value_in_packets) (defScope s_value_in_packets) .none kV_value_in_packets dc_value_in_packets pm_value_in_packets an_value_in_packets cd_value_in_packets ct_value_in_packets), sl_value_in_packets⟩)
    (c_value_in_packets : PySem.W.codeIn K cd_value_in_packets "value_in_packets" = true)
    (k_value_in_packets : PySem.W.keepIn K (.ref f_value_in_packets) = true)
    (a_picture_of : PySem.W.nsIn K mainGlobals "picture_of" = some (some (.ref f_picture_of)))
    (l_picture_of : K.lookup f_picture_of = some ⟨oc_picture_of, od_picture_of, .func (PySem.W.fnOf "picture_of" "picture_of" (defArgs s_picture_of) (defBody s_picture_of) (defScope s_picture_of) .none kV_picture_of dc_picture_of pm_picture_of an_picture_of cd_picture_of ct_picture_of), sl_picture_of⟩)
    (c_picture_of : PySem.W.codeIn K cd_picture_of "picture_of" = true)
    (k_picture_of : PySem.W.keepIn K (.ref f_picture_of) = true)
    (a_tile_pixels : PySem.W.nsIn K mainGlobals "tile_pixels" = some (some (.ref f_tile_pixels)))
    (l_tile_pixels : K.lookup f_tile_pixels = some ⟨oc_tile_pixels, od_tile_pixels, .func (PySem.W.fnOf "tile_pixels" "tile_pixels" (defArgs s_tile_pixels) (defBody s_tile_pixels) (defScope s_tile_pixels) .none kV_tile_pixels dc_tile_pixels pm_tile_pixels an_tile_pixels cd_tile_pixels ct_tile_pixels), sl_tile_pixels⟩)
    (c_tile_pixels : PySem.W.codeIn K cd_tile_pixels "tile_pixels" = true)
    (k_tile_pixels : PySem.W.keepIn K (.ref f_tile_pixels) = true)
    (a_gray_bit : PySem.W.nsIn K mainGlobals "gray_bit" = some (some (.ref f_gray_bit)))
    (l_gray_bit : K.lookup f_gray_bit = some ⟨oc_gray_bit, od_gray_bit, .func (PySem.W.fnOf "gray_bit" "gray_bit" (defArgs s_gray_bit) (defBody s_gray_bit) (defScope s_gray_bit) .none kV_gray_bit dc_gray_bit pm_gray_bit an_gray_bit cd_gray_bit ct_gray_bit), sl_gray_bit⟩)
    (c_gray_bit : PySem.W.codeIn K cd_gray_bit "gray_bit" = true)
    (k_gray_bit : PySem.W.keepIn K (.ref f_gray_bit) = true)
    (a_Picture_value : PySem.W.findIn K (.ref C_Picture) "value" = some (some (.ref f_Picture_value)))
    (i_Picture_value : PySem.W.isFn K (.ref f_Picture_value) = true)
    (l_Picture_value : K.lookup f_Picture_value = some ⟨oc_Picture_value, od_Picture_value, .func (PySem.W.fnOf "value" "Picture.value" (defArgs s_Picture_value) (defBody s_Picture_value) (defScope s_Picture_value) .none kV_Picture_value dc_Picture_value pm_Picture_value an_Picture_value cd_Picture_value ct_Picture_value), sl_Picture_value⟩)
    (c_Picture_value : PySem.W.codeIn K cd_Picture_value "Picture.value" = true)
    (k_Picture_value : PySem.W.keepIn K (.ref f_Picture_value) = true)
    (a_stored_bit : PySem.W.nsIn K mainGlobals "stored_bit" = some (some (.ref f_stored_bit)))
    (l_stored_bit : K.lookup f_stored_bit = some ⟨oc_stored_bit, od_stored_bit, .func (PySem.W.fnOf "stored_bit" "stored_bit" (defArgs s_stored_bit) (defBody s_stored_bit) (defScope s_stored_bit) .none kV_stored_bit dc_stored_bit pm_stored_bit an_stored_bit cd_stored_bit ct_stored_bit), sl_stored_bit⟩)
    (c_stored_bit : PySem.W.codeIn K cd_stored_bit "stored_bit" = true)
    (k_stored_bit : PySem.W.keepIn K (.ref f_stored_bit) = true)
    (a_Frame_down : PySem.W.findIn K (.ref C_Frame) "down" = some (some (.ref f_Frame_down)))
    (i_Frame_down : PySem.W.isFn K (.ref f_Frame_down) = true)
    (l_Frame_down : K.lookup f_Frame_down = some ⟨oc_Frame_down, od_Frame_down, .func (PySem.W.fnOf "down" "Frame.down" (defArgs s_Frame_down) (defBody s_Frame_down) (defScope s_Frame_down) .none kV_Frame_down dc_Frame_down pm_Frame_down an_Frame_down cd_Frame_down ct_Frame_down), sl_Frame_down⟩)
    (c_Frame_down : PySem.W.codeIn K cd_Frame_down "Frame.down" = true)
    (k_Frame_down : PySem.W.keepIn K (.ref f_Frame_down) = true)
    (a_Frame_tiles : PySem.W.findIn K (.ref C_Frame) "tiles" = some (some (.ref f_Frame_tiles)))
    (i_Frame_tiles : PySem.W.isFn K (.ref f_Frame_tiles) = true)
    (l_Frame_tiles : K.lookup f_Frame_tiles = some ⟨oc_Frame_tiles, od_Frame_tiles, .func (PySem.W.fnOf "tiles" "Frame.tiles" (defArgs s_Frame_tiles) (defBody s_Frame_tiles) (defScope s_Frame_tiles) .none kV_Frame_tiles dc_Frame_tiles pm_Frame_tiles an_Frame_tiles cd_Frame_tiles ct_Frame_tiles), sl_Frame_tiles⟩)
    (c_Frame_tiles : PySem.W.codeIn K cd_Frame_tiles "Frame.tiles" = true)
    (k_Frame_tiles : PySem.W.keepIn K (.ref f_Frame_tiles) = true)
    (a_check_key : PySem.W.nsIn K mainGlobals "check_key" = some (some (.ref f_check_key)))
    (l_check_key : K.lookup f_check_key = some ⟨oc_check_key, od_check_key, .func (PySem.W.fnOf "check_key" "check_key" (defArgs s_check_key) (defBody s_check_key) (defScope s_check_key) .none kV_check_key dc_check_key pm_check_key an_check_key cd_check_key ct_check_key), sl_check_key⟩)
    (c_check_key : PySem.W.codeIn K cd_check_key "check_key" = true)
    (k_check_key : PySem.W.keepIn K (.ref f_check_key) = true)
    (a_fits_frame : PySem.W.nsIn K mainGlobals "fits_frame" = some (some (.ref f_fits_frame)))
    (l_fits_frame : K.lookup f_fits_frame = some ⟨oc_fits_frame, od_fits_frame, .func (PySem.W.fnOf "fits_frame" "fits_frame" (defArgs s_fits_frame) (defBody s_fits_frame) (defScope s_fits_frame) .none kV_fits_frame dc_fits_frame pm_fits_frame an_fits_frame cd_fits_frame ct_fits_frame), sl_fits_frame⟩)
    (c_fits_frame : PySem.W.codeIn K cd_fits_frame "fits_frame" = true)
    (k_fits_frame : PySem.W.keepIn K (.ref f_fits_frame) = true)
    (a_check_fits : PySem.W.nsIn K mainGlobals "check_fits" = some (some (.ref f_check_fits)))
    (l_check_fits : K.lookup f_check_fits = some ⟨oc_check_fits, od_check_fits, .func (PySem.W.fnOf "check_fits" "check_fits" (defArgs s_check_fits) (defBody s_check_fits) (defScope s_check_fits) .none kV_check_fits dc_check_fits pm_check_fits an_check_fits cd_check_fits ct_check_fits), sl_check_fits⟩)
    (c_check_fits : PySem.W.codeIn K cd_check_fits "check_fits" = true)
    (k_check_fits : PySem.W.keepIn K (.ref f_check_fits) = true)
    (a_packet_bits : PySem.W.nsIn K mainGlobals "packet_bits" = some (some (.ref f_packet_bits)))
    (l_packet_bits : K.lookup f_packet_bits = some ⟨oc_packet_bits, od_packet_bits, .func (PySem.W.fnOf "packet_bits" "packet_bits" (defArgs s_packet_bits) (defBody s_packet_bits) (defScope s_packet_bits) .none kV_packet_bits dc_packet_bits pm_packet_bits an_packet_bits cd_packet_bits ct_packet_bits), sl_packet_bits⟩)
    (c_packet_bits : PySem.W.codeIn K cd_packet_bits "packet_bits" = true)
    (k_packet_bits : PySem.W.keepIn K (.ref f_packet_bits) = true)
    (a_law_mixed : PySem.W.nsIn K mainGlobals "_law_mixed" = some (some (.ref f_law_mixed)))
    (l_law_mixed : K.lookup f_law_mixed = some ⟨oc_law_mixed, od_law_mixed, .func (PySem.W.fnOf "_law_mixed" "_law_mixed" (defArgs s_law_mixed) (defBody s_law_mixed) (defScope s_law_mixed) .none kV_law_mixed dc_law_mixed pm_law_mixed an_law_mixed cd_law_mixed ct_law_mixed), sl_law_mixed⟩)
    (c_law_mixed : PySem.W.codeIn K cd_law_mixed "_law_mixed" = true)
    (k_law_mixed : PySem.W.keepIn K (.ref f_law_mixed) = true)
    (a_law_numbers : PySem.W.nsIn K mainGlobals "_law_numbers" = some (some (.ref f_law_numbers)))
    (l_law_numbers : K.lookup f_law_numbers = some ⟨oc_law_numbers, od_law_numbers, .func (PySem.W.fnOf "_law_numbers" "_law_numbers" (defArgs s_law_numbers) (defBody s_law_numbers) (defScope s_law_numbers) .none kV_law_numbers dc_law_numbers pm_law_numbers an_law_numbers cd_law_numbers ct_law_numbers), sl_law_numbers⟩)
    (c_law_numbers : PySem.W.codeIn K cd_law_numbers "_law_numbers" = true)
    (k_law_numbers : PySem.W.keepIn K (.ref f_law_numbers) = true)
    (a_law_values : PySem.W.nsIn K mainGlobals "_law_values" = some (some (.ref f_law_values)))
    (l_law_values : K.lookup f_law_values = some ⟨oc_law_values, od_law_values, .func (PySem.W.fnOf "_law_values" "_law_values" (defArgs s_law_values) (defBody s_law_values) (defScope s_law_values) .none kV_law_values dc_law_values pm_law_values an_law_values cd_law_values ct_law_values), sl_law_values⟩)
    (c_law_values : PySem.W.codeIn K cd_law_values "_law_values" = true)
    (k_law_values : PySem.W.keepIn K (.ref f_law_values) = true)
    (a_law_cell : PySem.W.nsIn K mainGlobals "_law_cell" = some (some (.ref f_law_cell)))
    (l_law_cell : K.lookup f_law_cell = some ⟨oc_law_cell, od_law_cell, .func (PySem.W.fnOf "_law_cell" "_law_cell" (defArgs s_law_cell) (defBody s_law_cell) (defScope s_law_cell) .none kV_law_cell dc_law_cell pm_law_cell an_law_cell cd_law_cell ct_law_cell), sl_law_cell⟩)
    (c_law_cell : PySem.W.codeIn K cd_law_cell "_law_cell" = true)
    (k_law_cell : PySem.W.keepIn K (.ref f_law_cell) = true)
    (a_law_pixels : PySem.W.nsIn K mainGlobals "_law_pixels" = some (some (.ref f_law_pixels)))
    (l_law_pixels : K.lookup f_law_pixels = some ⟨oc_law_pixels, od_law_pixels, .func (PySem.W.fnOf "_law_pixels" "_law_pixels" (defArgs s_law_pixels) (defBody s_law_pixels) (defScope s_law_pixels) .none kV_law_pixels dc_law_pixels pm_law_pixels an_law_pixels cd_law_pixels ct_law_pixels), sl_law_pixels⟩)
    (c_law_pixels : PySem.W.codeIn K cd_law_pixels "_law_pixels" = true)
    (k_law_pixels : PySem.W.keepIn K (.ref f_law_pixels) = true)
    (a_law_gray : PySem.W.nsIn K mainGlobals "_law_gray" = some (some (.ref f_law_gray)))
    (l_law_gray : K.lookup f_law_gray = some ⟨oc_law_gray, od_law_gray, .func (PySem.W.fnOf "_law_gray" "_law_gray" (defArgs s_law_gray) (defBody s_law_gray) (defScope s_law_gray) .none kV_law_gray dc_law_gray pm_law_gray an_law_gray cd_law_gray ct_law_gray), sl_law_gray⟩)
    (c_law_gray : PySem.W.codeIn K cd_law_gray "_law_gray" = true)
    (k_law_gray : PySem.W.keepIn K (.ref f_law_gray) = true)
    (a_law_stored : PySem.W.nsIn K mainGlobals "_law_stored" = some (some (.ref f_law_stored)))
    (l_law_stored : K.lookup f_law_stored = some ⟨oc_law_stored, od_law_stored, .func (PySem.W.fnOf "_law_stored" "_law_stored" (defArgs s_law_stored) (defBody s_law_stored) (defScope s_law_stored) .none kV_law_stored dc_law_stored pm_law_stored an_law_stored cd_law_stored ct_law_stored), sl_law_stored⟩)
    (c_law_stored : PySem.W.codeIn K cd_law_stored "_law_stored" = true)
    (k_law_stored : PySem.W.keepIn K (.ref f_law_stored) = true)
    (a_law_bits : PySem.W.nsIn K mainGlobals "_law_bits" = some (some (.ref f_law_bits)))
    (l_law_bits : K.lookup f_law_bits = some ⟨oc_law_bits, od_law_bits, .func (PySem.W.fnOf "_law_bits" "_law_bits" (defArgs s_law_bits) (defBody s_law_bits) (defScope s_law_bits) .none kV_law_bits dc_law_bits pm_law_bits an_law_bits cd_law_bits ct_law_bits), sl_law_bits⟩)
    (c_law_bits : PySem.W.codeIn K cd_law_bits "_law_bits" = true)
    (k_law_bits : PySem.W.keepIn K (.ref f_law_bits) = true)
    (a_law_drawn : PySem.W.nsIn K mainGlobals "_law_drawn" = some (some (.ref f_law_drawn)))
    (l_law_drawn : K.lookup f_law_drawn = some ⟨oc_law_drawn, od_law_drawn, .func (PySem.W.fnOf "_law_drawn" "_law_drawn" (defArgs s_law_drawn) (defBody s_law_drawn) (defScope s_law_drawn) .none kV_law_drawn dc_law_drawn pm_law_drawn an_law_drawn cd_law_drawn ct_law_drawn), sl_law_drawn⟩)
    (c_law_drawn : PySem.W.codeIn K cd_law_drawn "_law_drawn" = true)
    (k_law_drawn : PySem.W.keepIn K (.ref f_law_drawn) = true)
    (a_law_order : PySem.W.nsIn K mainGlobals "_law_order" = some (some (.ref f_law_order)))
    (l_law_order : K.lookup f_law_order = some ⟨oc_law_order, od_law_order, .func (PySem.W.fnOf "_law_order" "_law_order" (defArgs s_law_order) (defBody s_law_order) (defScope s_law_order) .none kV_law_order dc_law_order pm_law_order an_law_order cd_law_order ct_law_order), sl_law_order⟩)
    (c_law_order : PySem.W.codeIn K cd_law_order "_law_order" = true)
    (k_law_order : PySem.W.keepIn K (.ref f_law_order) = true)
    (a_law_tiles : PySem.W.nsIn K mainGlobals "_law_tiles" = some (some (.ref f_law_tiles)))
    (l_law_tiles : K.lookup f_law_tiles = some ⟨oc_law_tiles, od_law_tiles, .func (PySem.W.fnOf "_law_tiles" "_law_tiles" (defArgs s_law_tiles) (defBody s_law_tiles) (defScope s_law_tiles) .none kV_law_tiles dc_law_tiles pm_law_tiles an_law_tiles cd_law_tiles ct_law_tiles), sl_law_tiles⟩)
    (c_law_tiles : PySem.W.codeIn K cd_law_tiles "_law_tiles" = true)
    (k_law_tiles : PySem.W.keepIn K (.ref f_law_tiles) = true)
    (a_Frame___init__ : PySem.W.findIn K (.ref C_Frame) "__init__" = some (some (.ref f_Frame___init__)))
    (i_Frame___init__ : PySem.W.isFn K (.ref f_Frame___init__) = true)
    (l_Frame___init__ : K.lookup f_Frame___init__ = some ⟨oc_Frame___init__, od_Frame___init__, .func (PySem.W.fnOf "__init__" "Frame.__init__" (defArgs s_Frame___init__) (defBody s_Frame___init__) (defScope s_Frame___init__) .none kV_Frame___init__ dc_Frame___init__ pm_Frame___init__ an_Frame___init__ cd_Frame___init__ ct_Frame___init__), sl_Frame___init__⟩)
    (c_Frame___init__ : PySem.W.codeIn K cd_Frame___init__ "Frame.__init__" = true)
    (k_Frame___init__ : PySem.W.keepIn K (.ref f_Frame___init__) = true)
    (a_law_sizes : PySem.W.nsIn K mainGlobals "_law_sizes" = some (some (.ref f_law_sizes)))
    (l_law_sizes : K.lookup f_law_sizes = some ⟨oc_law_sizes, od_law_sizes, .func (PySem.W.fnOf "_law_sizes" "_law_sizes" (defArgs s_law_sizes) (defBody s_law_sizes) (defScope s_law_sizes) .none kV_law_sizes dc_law_sizes pm_law_sizes an_law_sizes cd_law_sizes ct_law_sizes), sl_law_sizes⟩)
    (c_law_sizes : PySem.W.codeIn K cd_law_sizes "_law_sizes" = true)
    (k_law_sizes : PySem.W.keepIn K (.ref f_law_sizes) = true)
    (a_law : PySem.W.nsIn K mainGlobals "law" = some (some (.ref f_law)))
    (l_law : K.lookup f_law = some ⟨oc_law, od_law, .func (PySem.W.fnOf "law" "law" (defArgs s_law) (defBody s_law) (defScope s_law) .none kV_law dc_law pm_law an_law cd_law ct_law), sl_law⟩)
    (c_law : PySem.W.codeIn K cd_law "law" = true)
    (k_law : PySem.W.keepIn K (.ref f_law) = true)
    (n_abs : PySem.W.nsIn K mainGlobals "abs" = some none)
    (n_int : PySem.W.nsIn K mainGlobals "int" = some none)
    (n_len : PySem.W.nsIn K mainGlobals "len" = some none)
    (n_list : PySem.W.nsIn K mainGlobals "list" = some none)
    (n_min : PySem.W.nsIn K mainGlobals "min" = some none)
    (n_range : PySem.W.nsIn K mainGlobals "range" = some none)
    (n_reversed : PySem.W.nsIn K mainGlobals "reversed" = some none)
    (n_str : PySem.W.nsIn K mainGlobals "str" = some none)
    (n_sum : PySem.W.nsIn K mainGlobals "sum" = some none)
    (c_DEPTH_MOST : PySem.W.nsIn K mainGlobals "DEPTH_MOST" = some (some (.int 8 t_DEPTH_MOST)))
    (c_SIDE_MOST : PySem.W.nsIn K mainGlobals "SIDE_MOST" = some (some (.int 64 t_SIDE_MOST)))
    (c_TILE_MOST : PySem.W.nsIn K mainGlobals "TILE_MOST" = some (some (.int 16 t_TILE_MOST)))
    (c_VALUES_MOST : PySem.W.nsIn K mainGlobals "VALUES_MOST" = some (some (.int 3072 t_VALUES_MOST))) :
    ∃ fd : FuncData, (∀ (s : Shared) (v : Value), BindsTo s fd ⟨[v], []⟩ [("script", v)]) ∧ ∀ base : Heap, K.In base → base.Ns mainGlobals mg → FnOk l.prog w K mg base CX0 8 fa fd ["script"] (spLaw K) := by
  have e := hfa.symm.trans (PySem.W.mg_of X G a_law)
  cases e
  have F_Picture_rows := fun_mk (st := s_Picture_rows) l_Picture_rows c_Picture_rows k_Picture_rows
  have F_same_kind := fun_mk (st := s_same_kind) l_same_kind c_same_kind k_same_kind
  have F_Frame_same := fun_mk (st := s_Frame_same) l_Frame_same c_Frame_same k_Frame_same
  have F_Picture_same := fun_mk (st := s_Picture_same) l_Picture_same c_Picture_same k_Picture_same
  have F_check_range := fun_mk (st := s_check_range) l_check_range c_check_range k_check_range
  have F_check_values := fun_mk (st := s_check_values) l_check_values c_check_values k_check_values
  have F_check_size := fun_mk (st := s_check_size) l_check_size c_check_size k_check_size
  have F_check_kind := fun_mk (st := s_check_kind) l_check_kind c_check_kind k_check_kind
  have F_Picture___init__ := fun_mk (st := s_Picture___init__) l_Picture___init__ c_Picture___init__ k_Picture___init__
  have F_Frame_pixels := fun_mk (st := s_Frame_pixels) l_Frame_pixels c_Frame_pixels k_Frame_pixels
  have F_value_of := fun_mk (st := s_value_of) l_value_of c_value_of k_value_of
  have F_stored_channels := fun_mk (st := s_stored_channels) l_stored_channels c_stored_channels k_stored_channels
  have F_Frame_across := fun_mk (st := s_Frame_across) l_Frame_across c_Frame_across k_Frame_across
  have F_tile_corner := fun_mk (st := s_tile_corner) l_tile_corner c_tile_corner k_tile_corner
  have F_tile_size := fun_mk (st := s_tile_size) l_tile_size c_tile_size k_tile_size
  have F_locate_pixel := fun_mk (st := s_locate_pixel) l_locate_pixel c_locate_pixel k_locate_pixel
  have F_value_in_packets := fun_mk (st := s_value_in_packets) l_value_in_packets c_value_in_packets k_value_in_packets
  have F_picture_of := fun_mk (st := s_picture_of) l_picture_of c_picture_of k_picture_of
  have F_tile_pixels := fun_mk (st := s_tile_pixels) l_tile_pixels c_tile_pixels k_tile_pixels
  have F_gray_bit := fun_mk (st := s_gray_bit) l_gray_bit c_gray_bit k_gray_bit
  have F_Picture_value := fun_mk (st := s_Picture_value) l_Picture_value c_Picture_value k_Picture_value
  have F_stored_bit := fun_mk (st := s_stored_bit) l_stored_bit c_stored_bit k_stored_bit
  have F_Frame_down := fun_mk (st := s_Frame_down) l_Frame_down c_Frame_down k_Frame_down
  have F_Frame_tiles := fun_mk (st := s_Frame_tiles) l_Frame_tiles c_Frame_tiles k_Frame_tiles
  have F_check_key := fun_mk (st := s_check_key) l_check_key c_check_key k_check_key
  have F_fits_frame := fun_mk (st := s_fits_frame) l_fits_frame c_fits_frame k_fits_frame
  have F_check_fits := fun_mk (st := s_check_fits) l_check_fits c_check_fits k_check_fits
  have F_packet_bits := fun_mk (st := s_packet_bits) l_packet_bits c_packet_bits k_packet_bits
  have F_law_mixed := fun_mk (st := s_law_mixed) l_law_mixed c_law_mixed k_law_mixed
  have F_law_numbers := fun_mk (st := s_law_numbers) l_law_numbers c_law_numbers k_law_numbers
  have F_law_values := fun_mk (st := s_law_values) l_law_values c_law_values k_law_values
  have F_law_cell := fun_mk (st := s_law_cell) l_law_cell c_law_cell k_law_cell
  have F_law_pixels := fun_mk (st := s_law_pixels) l_law_pixels c_law_pixels k_law_pixels
  have F_law_gray := fun_mk (st := s_law_gray) l_law_gray c_law_gray k_law_gray
  have F_law_stored := fun_mk (st := s_law_stored) l_law_stored c_law_stored k_law_stored
  have F_law_bits := fun_mk (st := s_law_bits) l_law_bits c_law_bits k_law_bits
  have F_law_drawn := fun_mk (st := s_law_drawn) l_law_drawn c_law_drawn k_law_drawn
  have F_law_order := fun_mk (st := s_law_order) l_law_order c_law_order k_law_order
  have F_law_tiles := fun_mk (st := s_law_tiles) l_law_tiles c_law_tiles k_law_tiles
  have F_Frame___init__ := fun_mk (st := s_Frame___init__) l_Frame___init__ c_Frame___init__ k_Frame___init__
  have F_law_sizes := fun_mk (st := s_law_sizes) l_law_sizes c_law_sizes k_law_sizes
  have F_law := fun_mk (st := s_law) l_law c_law k_law
  exact ⟨PySem.W.fnOf "law" "law" (defArgs s_law) (defBody s_law) (defScope s_law) .none kV_law dc_law pm_law an_law cd_law ct_law, fun s v => .of_eq rfl, fun base _ _ => ok_law (mg := mg) {
    a_Picture := C_Picture,
    cl_Picture := ⟨pg_Picture, hd_Picture, po_Picture, sa_Picture⟩,
    g_Picture := PySem.W.mg_of X G g_Picture,
    mk_Picture := mk_Picture,
    kp_Picture := kc_Picture,
    na_Picture_width := na_Picture_width,
    na_Picture_height := na_Picture_height,
    na_Picture_depth := na_Picture_depth,
    na_Picture_channels := na_Picture_channels,
    na_Picture__rows := na_Picture__rows,
    a_Frame := C_Frame,
    cl_Frame := ⟨pg_Frame, hd_Frame, po_Frame, sa_Frame⟩,
    g_Frame := PySem.W.mg_of X G g_Frame,
    mk_Frame := mk_Frame,
    kp_Frame := kc_Frame,
    na_Frame_width := na_Frame_width,
    na_Frame_height := na_Frame_height,
    na_Frame_depth := na_Frame_depth,
    na_Frame_channels := na_Frame_channels,
    na_Frame_tile := na_Frame_tile,
    x_OutOfRange := ⟨C_OutOfRange, f_OutOfRange, _, PySem.W.mg_of X G g_OutOfRange, ⟨⟨nm_OutOfRange, q_OutOfRange, N_OutOfRange, bs_OutOfRange, bm_OutOfRange, sn_OutOfRange, sub_OutOfRange, ab_OutOfRange, col_OutOfRange, dd_OutOfRange, k0_OutOfRange, k1_OutOfRange, k2_OutOfRange, k3_OutOfRange, k5_OutOfRange, lC_OutOfRange, rv_OutOfRange⟩, sa_OutOfRange, bb_OutOfRange, ty_OutOfRange, kC_OutOfRange⟩,
      ⟨⟨_, _, _, _, _, _, _, _, _, _, rfl, lf_OutOfRange, cf_OutOfRange, ⟨_, _, _, _, _, _, lcd_OutOfRange, vs2_OutOfRange, fil_OutOfRange⟩, _, _, _, lcc_OutOfRange⟩, topS, PySem.W.mg_none_of X G nsS, su_OutOfRange, opS, sup_OutOfRange, isV_OutOfRange⟩, iC_OutOfRange, tI_OutOfRange, Binds.all fun us hl => (match us, hl with | [_, _], _ => rfl),
      ⟨ga_OutOfRange, gg_OutOfRange, bb_OutOfRange, hd_OutOfRange⟩, ⟨by unfold PySem.W.clsIn; rw [lC_OutOfRange] <;> rfl, ga_OutOfRange, gg_OutOfRange, bb_OutOfRange, ca_OutOfRange, spS, tkS, ob_OutOfRange⟩, PySem.W.exm_ref bb_OutOfRange hd_OutOfRange ty_OutOfRange ss_OutOfRange⟩,
    y_OtherKind := ⟨C_OtherKind, PySem.W.mg_of X G g_OtherKind, kC_OtherKind, ex_OtherKind, bb_OtherKind, ty_OtherKind, PySem.W.exm_ref bb_OtherKind hd_OtherKind ty_OtherKind ss_OtherKind⟩,
    nf_OutOfRange_name := nf_OutOfRange_name,
    Picture_rows := ⟨_, _, F_Picture_rows, F_Picture_rows.binds fun _ _ _ _ _ _ us hl => match us, hl with | [_], _ => rfl, ⟨a_Picture_rows, i_Picture_rows, k_Picture_rows⟩⟩,
    same_kind := ⟨_, _, F_same_kind, PySem.W.mg_of X G a_same_kind, F_same_kind.binds fun _ _ _ _ _ _ us hl => match us, hl with | [_, _], _ => rfl⟩,
    Frame_same := ⟨_, _, F_Frame_same, F_Frame_same.binds fun _ _ _ _ _ _ us hl => match us, hl with | [_, _], _ => rfl, ⟨a_Frame_same, i_Frame_same, k_Frame_same⟩⟩,
    Picture_same := ⟨_, _, F_Picture_same, F_Picture_same.binds fun _ _ _ _ _ _ us hl => match us, hl with | [_, _], _ => rfl, ⟨a_Picture_same, i_Picture_same, k_Picture_same⟩⟩,
    check_range := ⟨_, _, F_check_range, PySem.W.mg_of X G a_check_range, F_check_range.binds fun _ _ _ _ _ _ us hl => match us, hl with | [_, _, _, _], _ => rfl⟩,
    check_values := ⟨_, _, F_check_values, PySem.W.mg_of X G a_check_values, F_check_values.binds fun _ _ _ _ _ _ us hl => match us, hl with | [_, _, _, _, _], _ => rfl⟩,
    check_size := ⟨_, _, F_check_size, PySem.W.mg_of X G a_check_size, F_check_size.binds fun _ _ _ _ _ _ us hl => match us, hl with | [_, _, _], _ => rfl⟩,
    check_kind := ⟨_, _, F_check_kind, PySem.W.mg_of X G a_check_kind, F_check_kind.binds fun _ _ _ _ _ _ us hl => match us, hl with | [_, _, _, _], _ => rfl⟩,
    Picture___init__ := ⟨_, _, F_Picture___init__, F_Picture___init__.binds fun _ _ _ _ _ _ us hl => match us, hl with | [_, _, _, _, _, _], _ => rfl, ⟨a_Picture___init__, i_Picture___init__, k_Picture___init__⟩⟩,
    Frame_pixels := ⟨_, _, F_Frame_pixels, F_Frame_pixels.binds fun _ _ _ _ _ _ us hl => match us, hl with | [_], _ => rfl, ⟨a_Frame_pixels, i_Frame_pixels, k_Frame_pixels⟩⟩,
    value_of := ⟨_, _, F_value_of, PySem.W.mg_of X G a_value_of, F_value_of.binds fun _ _ _ _ _ _ us hl => match us, hl with | [_], _ => rfl⟩,
    stored_channels := ⟨_, _, F_stored_channels, PySem.W.mg_of X G a_stored_channels, F_stored_channels.binds fun _ _ _ _ _ _ us hl => match us, hl with | [_, _], _ => rfl⟩,
    Frame_across := ⟨_, _, F_Frame_across, F_Frame_across.binds fun _ _ _ _ _ _ us hl => match us, hl with | [_], _ => rfl, ⟨a_Frame_across, i_Frame_across, k_Frame_across⟩⟩,
    tile_corner := ⟨_, _, F_tile_corner, PySem.W.mg_of X G a_tile_corner, F_tile_corner.binds fun _ _ _ _ _ _ us hl => match us, hl with | [_, _], _ => rfl⟩,
    tile_size := ⟨_, _, F_tile_size, PySem.W.mg_of X G a_tile_size, F_tile_size.binds fun _ _ _ _ _ _ us hl => match us, hl with | [_, _], _ => rfl⟩,
    locate_pixel := ⟨_, _, F_locate_pixel, PySem.W.mg_of X G a_locate_pixel, F_locate_pixel.binds fun _ _ _ _ _ _ us hl => match us, hl with | [_, _], _ => rfl⟩,
    value_in_packets := ⟨_, _, F_value_in_packets, PySem.W.mg_of X G a_value_in_packets, F_value_in_packets.binds fun _ _ _ _ _ _ us hl => match us, hl with | [_, _, _, _], _ => rfl⟩,
    picture_of := ⟨_, _, F_picture_of, PySem.W.mg_of X G a_picture_of, F_picture_of.binds fun _ _ _ _ _ _ us hl => match us, hl with | [_, _], _ => rfl⟩,
    tile_pixels := ⟨_, _, F_tile_pixels, PySem.W.mg_of X G a_tile_pixels, F_tile_pixels.binds fun _ _ _ _ _ _ us hl => match us, hl with | [_, _], _ => rfl⟩,
    gray_bit := ⟨_, _, F_gray_bit, PySem.W.mg_of X G a_gray_bit, F_gray_bit.binds fun _ _ _ _ _ _ us hl => match us, hl with | [_, _], _ => rfl⟩,
    Picture_value := ⟨_, _, F_Picture_value, F_Picture_value.binds fun _ _ _ _ _ _ us hl => match us, hl with | [_, _, _], _ => rfl, ⟨a_Picture_value, i_Picture_value, k_Picture_value⟩⟩,
    stored_bit := ⟨_, _, F_stored_bit, PySem.W.mg_of X G a_stored_bit, F_stored_bit.binds fun _ _ _ _ _ _ us hl => match us, hl with | [_, _, _, _], _ => rfl⟩,
    Frame_down := ⟨_, _, F_Frame_down, F_Frame_down.binds fun _ _ _ _ _ _ us hl => match us, hl with | [_], _ => rfl, ⟨a_Frame_down, i_Frame_down, k_Frame_down⟩⟩,
    Frame_tiles := ⟨_, _, F_Frame_tiles, F_Frame_tiles.binds fun _ _ _ _ _ _ us hl => match us, hl with | [_], _ => rfl, ⟨a_Frame_tiles, i_Frame_tiles, k_Frame_tiles⟩⟩,
    check_key := ⟨_, _, F_check_key, PySem.W.mg_of X G a_check_key, F_check_key.binds fun _ _ _ _ _ _ us hl => match us, hl with | [_, _], _ => rfl⟩,
    fits_frame := ⟨_, _, F_fits_frame, PySem.W.mg_of X G a_fits_frame, F_fits_frame.binds fun _ _ _ _ _ _ us hl => match us, hl with | [_, _], _ => rfl⟩,
    check_fits := ⟨_, _, F_check_fits, PySem.W.mg_of X G a_check_fits, F_check_fits.binds fun _ _ _ _ _ _ us hl => match us, hl with | [_, _], _ => rfl⟩,
    packet_bits := ⟨_, _, F_packet_bits, PySem.W.mg_of X G a_packet_bits, F_packet_bits.binds fun _ _ _ _ _ _ us hl => match us, hl with | [_, _, _], _ => rfl⟩,
    law_mixed := ⟨_, _, F_law_mixed, PySem.W.mg_of X G a_law_mixed, F_law_mixed.binds fun _ _ _ _ _ _ us hl => match us, hl with | [_, _, _], _ => rfl⟩,
    law_numbers := ⟨_, _, F_law_numbers, PySem.W.mg_of X G a_law_numbers, F_law_numbers.binds fun _ _ _ _ _ _ us hl => match us, hl with | [_, _, _], _ => rfl⟩,
    law_values := ⟨_, _, F_law_values, PySem.W.mg_of X G a_law_values, F_law_values.binds fun _ _ _ _ _ _ us hl => match us, hl with | [_, _], _ => rfl⟩,
    law_cell := ⟨_, _, F_law_cell, PySem.W.mg_of X G a_law_cell, F_law_cell.binds fun _ _ _ _ _ _ us hl => match us, hl with | [_, _], _ => rfl⟩,
    law_pixels := ⟨_, _, F_law_pixels, PySem.W.mg_of X G a_law_pixels, F_law_pixels.binds fun _ _ _ _ _ _ us hl => match us, hl with | [_, _], _ => rfl⟩,
    law_gray := ⟨_, _, F_law_gray, PySem.W.mg_of X G a_law_gray, F_law_gray.binds fun _ _ _ _ _ _ us hl => match us, hl with | [_, _], _ => rfl⟩,
    law_stored := ⟨_, _, F_law_stored, PySem.W.mg_of X G a_law_stored, F_law_stored.binds fun _ _ _ _ _ _ us hl => match us, hl with | [_, _, _, _], _ => rfl⟩,
    law_bits := ⟨_, _, F_law_bits, PySem.W.mg_of X G a_law_bits, F_law_bits.binds fun _ _ _ _ _ _ us hl => match us, hl with | [_, _, _], _ => rfl⟩,
    law_drawn := ⟨_, _, F_law_drawn, PySem.W.mg_of X G a_law_drawn, F_law_drawn.binds fun _ _ _ _ _ _ us hl => match us, hl with | [_, _, _], _ => rfl⟩,
    law_order := ⟨_, _, F_law_order, PySem.W.mg_of X G a_law_order, F_law_order.binds fun _ _ _ _ _ _ us hl => match us, hl with | [_, _], _ => rfl⟩,
    law_tiles := ⟨_, _, F_law_tiles, PySem.W.mg_of X G a_law_tiles, F_law_tiles.binds fun _ _ _ _ _ _ us hl => match us, hl with | [_], _ => rfl⟩,
    Frame___init__ := ⟨_, _, F_Frame___init__, F_Frame___init__.binds fun _ _ _ _ _ _ us hl => match us, hl with | [_, _, _, _, _, _], _ => rfl, ⟨a_Frame___init__, i_Frame___init__, k_Frame___init__⟩⟩,
    law_sizes := ⟨_, _, F_law_sizes, PySem.W.mg_of X G a_law_sizes, F_law_sizes.binds fun _ _ _ _ _ _ us hl => match us, hl with | [_, _], _ => rfl⟩,
    law := ⟨_, _, F_law, PySem.W.mg_of X G a_law, F_law.binds fun _ _ _ _ _ _ us hl => match us, hl with | [_], _ => rfl⟩,
    n_abs := PySem.W.mg_none_of X G n_abs,
    n_int := PySem.W.mg_none_of X G n_int,
    n_len := PySem.W.mg_none_of X G n_len,
    n_list := PySem.W.mg_none_of X G n_list,
    n_min := PySem.W.mg_none_of X G n_min,
    n_range := PySem.W.mg_none_of X G n_range,
    n_reversed := PySem.W.mg_none_of X G n_reversed,
    n_str := PySem.W.mg_none_of X G n_str,
    n_sum := PySem.W.mg_none_of X G n_sum,
    t_DEPTH_MOST := t_DEPTH_MOST,
    c_DEPTH_MOST := PySem.W.mg_of X G c_DEPTH_MOST,
    t_SIDE_MOST := t_SIDE_MOST,
    c_SIDE_MOST := PySem.W.mg_of X G c_SIDE_MOST,
    t_TILE_MOST := t_TILE_MOST,
    c_TILE_MOST := PySem.W.mg_of X G c_TILE_MOST,
    t_VALUES_MOST := t_VALUES_MOST,
    c_VALUES_MOST := PySem.W.mg_of X G c_VALUES_MOST }⟩
theorem walk {l : PySem.W.OpenLaw} {q : Program} {loose : List Str} {XP : (Str → Option Value) → Heap → Prop} {YP : World → Heap → Prop} {d : DefRec} {K : Params → PySem.W.Frag} (hn : l.most = some 63) (hdf : d.params.defaults = [])
    (hY : ∀ (w : World) (h : Heap), YP w h → (K w.params).In h)
    (F : ∀ (w : World) (mg : Str → Option Value) (fa : Addr) (h : Heap), (K w.params).In h → h.Ns mainGlobals mg → mg d.name = some (.ref fa) →
      ∃ fd : FuncData, (∀ (s : Shared) (u : Value), BindsTo s fd ⟨[u], []⟩ [("script", u)]) ∧ ∀ base : Heap, (K w.params).In base → base.Ns mainGlobals mg → FnOk l.prog w (K w.params) mg base CX0 8 fa fd ["script"] (spLaw (K w.params))) :
    PySem.W.WalkO q loose XP YP l.row.toRowW d [] (fun f vs => PySem.call f vs) :=
  L2.walk_ofB (n := 63) (k := 8) (x := "script") (CX := fun _ => CX0) (sp := fun w => spLaw (K w.params)) hn (by decide) hdf ⟨rfl, by decide, by decide⟩ hY F (fun _ _ a ns hl hb _ hS => ⟨a, ns, rfl, hS, hl, hb, fun _ => rfl⟩) fun _ _ _ _ _ z => z
end
end My
open PySem PySem.W PyProof.Rows in
set_option maxRecDepth 100000 in
set_option maxHeartbeats 0 in
theorem PySem.Challenge.cw_packetpicture_k14_whole_bits_belong_to_o_holds : PySem.Challenge.rw_packetpicture_k14_whole_bits_belong_to_o.Holds := by
  w_on; o_law; k_head; (case hw => w_witness2)
  k_fill
  refine My.walk (l := PySem.Challenge.rw_packetpicture_k14_whole_bits_belong_to_o) rfl rfl (fun w h Y => PySem.W.kIn_of Y) ?F
  case F =>
    intro w mg fa h KX G hmg
    refine' My.all_mk KX G hmg ?g_Picture ?pg_Picture ?hd_Picture ?po_Picture ?sa_Picture ?mk_Picture ?kc_Picture ?na_Picture_width ?na_Picture_height ?na_Picture_depth ?na_Picture_channels ?na_Picture__rows ?g_Frame ?pg_Frame ?hd_Frame ?po_Frame ?sa_Frame ?mk_Frame ?kc_Frame ?na_Frame_width ?na_Frame_height ?na_Frame_depth ?na_Frame_channels ?na_Frame_tile ?topS ?nsS ?opS ?spS ?tkS ?g_OutOfRange ?lC_OutOfRange ?rv_OutOfRange ?sa_OutOfRange ?bb_OutOfRange ?ty_OutOfRange ?kC_OutOfRange ?iC_OutOfRange ?tI_OutOfRange ?lf_OutOfRange ?cf_OutOfRange ?lcd_OutOfRange ?vs2_OutOfRange ?fil_OutOfRange ?lcc_OutOfRange ?su_OutOfRange ?sup_OutOfRange ?isV_OutOfRange ?ga_OutOfRange ?gg_OutOfRange ?ca_OutOfRange ?ob_OutOfRange ?hd_OutOfRange ?ss_OutOfRange ?g_OtherKind ?kC_OtherKind ?ex_OtherKind ?bb_OtherKind ?ty_OtherKind ?hd_OtherKind ?ss_OtherKind ?nf_OutOfRange_name ?a_Picture_rows ?i_Picture_rows ?l_Picture_rows ?c_Picture_rows ?k_Picture_rows ?a_same_kind ?l_same_kind ?c_same_kind ?k_same_kind ?a_Frame_same ?i_Frame_same ?l_Frame_same ?c_Frame_same ?k_Frame_same ?a_Picture_same ?i_Picture_same ?l_Picture_same ?c_Picture_same ?k_Picture_same ?a_check_range ?l_check_range ?c_check_range ?k_check_range ?a_check_values ?l_check_values ?c_check_values ?k_check_values ?a_check_size ?l_check_size ?c_check_size ?k_check_size ?a_check_kind ?l_check_kind ?c_check_kind ?k_check_kind ?a_Picture___init__ ?i_Picture___init__ ?l_Picture___init__ ?c_Picture___init__ ?k_Picture___init__ ?a_Frame_pixels ?i_Frame_pixels ?l_Frame_pixels ?c_Frame_pixels ?k_Frame_pixels ?a_value_of ?l_value_of ?c_value_of ?k_value_of ?a_stored_channels ?l_stored_channels ?c_stored_channels ?k_stored_channels ?a_Frame_across ?i_Frame_across ?l_Frame_across ?c_Frame_across ?k_Frame_across ?a_tile_corner ?l_tile_corner ?c_tile_corner ?k_tile_corner ?a_tile_size ?l_tile_size ?c_tile_size ?k_tile_size ?a_locate_pixel ?l_locate_pixel ?c_locate_pixel ?k_locate_pixel ?a_value_in_packets ?l_value_in_packets ?c_value_in_packets ?k_value_in_packets ?a_picture_of ?l_picture_of ?c_picture_of ?k_picture_of ?a_tile_pixels ?l_tile_pixels ?c_tile_pixels ?k_tile_pixels ?a_gray_bit ?l_gray_bit ?c_gray_bit ?k_gray_bit ?a_Picture_value ?i_Picture_value ?l_Picture_value ?c_Picture_value ?k_Picture_value ?a_stored_bit ?l_stored_bit ?c_stored_bit ?k_stored_bit ?a_Frame_down ?i_Frame_down ?l_Frame_down ?c_Frame_down ?k_Frame_down ?a_Frame_tiles ?i_Frame_tiles ?l_Frame_tiles ?c_Frame_tiles ?k_Frame_tiles ?a_check_key ?l_check_key ?c_check_key ?k_check_key ?a_fits_frame ?l_fits_frame ?c_fits_frame ?k_fits_frame ?a_check_fits ?l_check_fits ?c_check_fits ?k_check_fits ?a_packet_bits ?l_packet_bits ?c_packet_bits ?k_packet_bits ?a_law_mixed ?l_law_mixed ?c_law_mixed ?k_law_mixed ?a_law_numbers ?l_law_numbers ?c_law_numbers ?k_law_numbers ?a_law_values ?l_law_values ?c_law_values ?k_law_values ?a_law_cell ?l_law_cell ?c_law_cell ?k_law_cell ?a_law_pixels ?l_law_pixels ?c_law_pixels ?k_law_pixels ?a_law_gray ?l_law_gray ?c_law_gray ?k_law_gray ?a_law_stored ?l_law_stored ?c_law_stored ?k_law_stored ?a_law_bits ?l_law_bits ?c_law_bits ?k_law_bits ?a_law_drawn ?l_law_drawn ?c_law_drawn ?k_law_drawn ?a_law_order ?l_law_order ?c_law_order ?k_law_order ?a_law_tiles ?l_law_tiles ?c_law_tiles ?k_law_tiles ?a_Frame___init__ ?i_Frame___init__ ?l_Frame___init__ ?c_Frame___init__ ?k_Frame___init__ ?a_law_sizes ?l_law_sizes ?c_law_sizes ?k_law_sizes ?a_law ?l_law ?c_law ?k_law ?n_abs ?n_int ?n_len ?n_list ?n_min ?n_range ?n_reversed ?n_str ?n_sum ?c_DEPTH_MOST ?c_SIDE_MOST ?c_TILE_MOST ?c_VALUES_MOST
    (case g_Picture => k_is)
    (case pg_Picture => k_is)
    (case hd_Picture => k_is)
    (case po_Picture => k_is)
    (case sa_Picture => k_is)
    (case mk_Picture => k_is)
    (case kc_Picture => k_is)
    (case na_Picture_width => k_is)
    (case na_Picture_height => k_is)
    (case na_Picture_depth => k_is)
    (case na_Picture_channels => k_is)
    (case na_Picture__rows => k_is)
    (case g_Frame => k_is)
    (case pg_Frame => k_is)
    (case hd_Frame => k_is)
    (case po_Frame => k_is)
    (case sa_Frame => k_is)
    (case mk_Frame => k_is)
    (case kc_Frame => k_is)
    (case na_Frame_width => k_is)
    (case na_Frame_height => k_is)
    (case na_Frame_depth => k_is)
    (case na_Frame_channels => k_is)
    (case na_Frame_tile => k_is)
    (case topS => first | rfl | decide +kernel)
    (case nsS => k_is)
    (case opS => k_is)
    (case spS => k_is)
    (case tkS => k_is)
    (case g_OutOfRange => k_is)
    (case lC_OutOfRange => k_is)
    (case rv_OutOfRange => first | rfl | decide +kernel)
    (case sa_OutOfRange => k_is)
    (case bb_OutOfRange => k_is)
    (case ty_OutOfRange => k_is)
    (case kC_OutOfRange => k_is)
    (case iC_OutOfRange => k_is)
    (case tI_OutOfRange => k_is)
    (case lf_OutOfRange => k_is)
    (case cf_OutOfRange => k_is)
    (case lcd_OutOfRange => k_is)
    (case vs2_OutOfRange => first | rfl | decide +kernel)
    (case fil_OutOfRange => first | rfl | decide +kernel)
    (case lcc_OutOfRange => k_is)
    (case su_OutOfRange => k_is)
    (case sup_OutOfRange => ks_is)
    (case isV_OutOfRange => k_is)
    (case ga_OutOfRange => k_is)
    (case gg_OutOfRange => k_is)
    (case ca_OutOfRange => k_is)
    (case ob_OutOfRange => k_is)
    (case hd_OutOfRange => k_is)
    (case ss_OutOfRange => first | rfl | k_is)
    (case g_OtherKind => k_is)
    (case kC_OtherKind => k_is)
    (case ex_OtherKind => k_exc)
    (case bb_OtherKind => k_is)
    (case ty_OtherKind => k_is)
    (case hd_OtherKind => k_is)
    (case ss_OtherKind => first | rfl | k_is)
    (case nf_OutOfRange_name => k_is)
    (case a_Picture_rows => k_is)
    (case i_Picture_rows => k_is)
    (case l_Picture_rows => k_is)
    (case c_Picture_rows => k_is)
    (case k_Picture_rows => k_is)
    (case a_same_kind => k_is)
    (case l_same_kind => k_is)
    (case c_same_kind => k_is)
    (case k_same_kind => k_is)
    (case a_Frame_same => k_is)
    (case i_Frame_same => k_is)
    (case l_Frame_same => k_is)
    (case c_Frame_same => k_is)
    (case k_Frame_same => k_is)
    (case a_Picture_same => k_is)
    (case i_Picture_same => k_is)
    (case l_Picture_same => k_is)
    (case c_Picture_same => k_is)
    (case k_Picture_same => k_is)
    (case a_check_range => k_is)
    (case l_check_range => k_is)
    (case c_check_range => k_is)
    (case k_check_range => k_is)
    (case a_check_values => k_is)
    (case l_check_values => k_is)
    (case c_check_values => k_is)
    (case k_check_values => k_is)
    (case a_check_size => k_is)
    (case l_check_size => k_is)
    (case c_check_size => k_is)
    (case k_check_size => k_is)
    (case a_check_kind => k_is)
    (case l_check_kind => k_is)
    (case c_check_kind => k_is)
    (case k_check_kind => k_is)
    (case a_Picture___init__ => k_is)
    (case i_Picture___init__ => k_is)
    (case l_Picture___init__ => k_is)
    (case c_Picture___init__ => k_is)
    (case k_Picture___init__ => k_is)
    (case a_Frame_pixels => k_is)
    (case i_Frame_pixels => k_is)
    (case l_Frame_pixels => k_is)
    (case c_Frame_pixels => k_is)
    (case k_Frame_pixels => k_is)
    (case a_value_of => k_is)
    (case l_value_of => k_is)
    (case c_value_of => k_is)
    (case k_value_of => k_is)
    (case a_stored_channels => k_is)
    (case l_stored_channels => k_is)
    (case c_stored_channels => k_is)
    (case k_stored_channels => k_is)
    (case a_Frame_across => k_is)
    (case i_Frame_across => k_is)
    (case l_Frame_across => k_is)
    (case c_Frame_across => k_is)
    (case k_Frame_across => k_is)
    (case a_tile_corner => k_is)
    (case l_tile_corner => k_is)
    (case c_tile_corner => k_is)
    (case k_tile_corner => k_is)
    (case a_tile_size => k_is)
    (case l_tile_size => k_is)
    (case c_tile_size => k_is)
    (case k_tile_size => k_is)
    (case a_locate_pixel => k_is)
    (case l_locate_pixel => k_is)
    (case c_locate_pixel => k_is)
    (case k_locate_pixel => k_is)
    (case a_value_in_packets => k_is)
    (case l_value_in_packets => k_is)
    (case c_value_in_packets => k_is)
    (case k_value_in_packets => k_is)
    (case a_picture_of => k_is)
    (case l_picture_of => k_is)
    (case c_picture_of => k_is)
    (case k_picture_of => k_is)
    (case a_tile_pixels => k_is)
    (case l_tile_pixels => k_is)
    (case c_tile_pixels => k_is)
    (case k_tile_pixels => k_is)
    (case a_gray_bit => k_is)
    (case l_gray_bit => k_is)
    (case c_gray_bit => k_is)
    (case k_gray_bit => k_is)
    (case a_Picture_value => k_is)
    (case i_Picture_value => k_is)
    (case l_Picture_value => k_is)
    (case c_Picture_value => k_is)
    (case k_Picture_value => k_is)
    (case a_stored_bit => k_is)
    (case l_stored_bit => k_is)
    (case c_stored_bit => k_is)
    (case k_stored_bit => k_is)
    (case a_Frame_down => k_is)
    (case i_Frame_down => k_is)
    (case l_Frame_down => k_is)
    (case c_Frame_down => k_is)
    (case k_Frame_down => k_is)
    (case a_Frame_tiles => k_is)
    (case i_Frame_tiles => k_is)
    (case l_Frame_tiles => k_is)
    (case c_Frame_tiles => k_is)
    (case k_Frame_tiles => k_is)
    (case a_check_key => k_is)
    (case l_check_key => k_is)
    (case c_check_key => k_is)
    (case k_check_key => k_is)
    (case a_fits_frame => k_is)
    (case l_fits_frame => k_is)
    (case c_fits_frame => k_is)
    (case k_fits_frame => k_is)
    (case a_check_fits => k_is)
    (case l_check_fits => k_is)
    (case c_check_fits => k_is)
    (case k_check_fits => k_is)
    (case a_packet_bits => k_is)
    (case l_packet_bits => k_is)
    (case c_packet_bits => k_is)
    (case k_packet_bits => k_is)
    (case a_law_mixed => k_is)
    (case l_law_mixed => k_is)
    (case c_law_mixed => k_is)
    (case k_law_mixed => k_is)
    (case a_law_numbers => k_is)
    (case l_law_numbers => k_is)
    (case c_law_numbers => k_is)
    (case k_law_numbers => k_is)
    (case a_law_values => k_is)
    (case l_law_values => k_is)
    (case c_law_values => k_is)
    (case k_law_values => k_is)
    (case a_law_cell => k_is)
    (case l_law_cell => k_is)
    (case c_law_cell => k_is)
    (case k_law_cell => k_is)
    (case a_law_pixels => k_is)
    (case l_law_pixels => k_is)
    (case c_law_pixels => k_is)
    (case k_law_pixels => k_is)
    (case a_law_gray => k_is)
    (case l_law_gray => k_is)
    (case c_law_gray => k_is)
    (case k_law_gray => k_is)
    (case a_law_stored => k_is)
    (case l_law_stored => k_is)
    (case c_law_stored => k_is)
    (case k_law_stored => k_is)
    (case a_law_bits => k_is)
    (case l_law_bits => k_is)
    (case c_law_bits => k_is)
    (case k_law_bits => k_is)
    (case a_law_drawn => k_is)
    (case l_law_drawn => k_is)
    (case c_law_drawn => k_is)
    (case k_law_drawn => k_is)
    (case a_law_order => k_is)
    (case l_law_order => k_is)
    (case c_law_order => k_is)
    (case k_law_order => k_is)
    (case a_law_tiles => k_is)
    (case l_law_tiles => k_is)
    (case c_law_tiles => k_is)
    (case k_law_tiles => k_is)
    (case a_Frame___init__ => k_is)
    (case i_Frame___init__ => k_is)
    (case l_Frame___init__ => k_is)
    (case c_Frame___init__ => k_is)
    (case k_Frame___init__ => k_is)
    (case a_law_sizes => k_is)
    (case l_law_sizes => k_is)
    (case c_law_sizes => k_is)
    (case k_law_sizes => k_is)
    (case a_law => k_is)
    (case l_law => k_is)
    (case c_law => k_is)
    (case k_law => k_is)
    (case n_abs => k_is)
    (case n_int => k_is)
    (case n_len => k_is)
    (case n_list => k_is)
    (case n_min => k_is)
    (case n_range => k_is)
    (case n_reversed => k_is)
    (case n_str => k_is)
    (case n_sum => k_is)
    (case c_DEPTH_MOST => k_is)
    (case c_SIDE_MOST => k_is)
    (case c_TILE_MOST => k_is)
    (case c_VALUES_MOST => k_is)

