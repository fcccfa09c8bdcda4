import PyProof.Rows.All
import Wide.All
import OpenK.AllK
import Wide.FinOn
import HandS.ForMost
import HandS.EndBits
import HandS.IsInst
import HandS.Conv
import HandS.RevRange
import HandS.Walk
import HandS.Wide
import HandS.Codes
import HandS.ForExc
import HandS.ExcInit
import HandS.ExcSuper
import KE.KSuper
import KE.RegKSuper
import KE.KExcSuper
import KE.KExcIs
import HandS.ExcField
import HandS.ExcIs
import HandS.FStr
import KE.RegKIsAll
import HandS.ForExc
import HandS.NoneIn
import HandS.Comp
import HandS.Deep
import HandS.Dict
import HandS.FStr
import HandS.IntHex
import HandS.SortKw
import HandS.TryMany
import HandS.TryOnly
import HandS.Walk
import HandS.WideBits
import KE.IntTextLaws
import KE.KIntText
import KE.KMinKey
import PyProof.Rows.StrMul
import PyProof.StrBlock2
import PySem.Challenge.RW_packetpicture_k69_source_and_its_past
set_option synthInstance.maxSize 4000
set_option synthInstance.maxHeartbeats 200000
set_option Elab.async false
set_option linter.all false
set_option maxRecDepth 100000
set_option maxHeartbeats 4000000
set_option exponentiation.threshold 4000
/-! Names that are taken here, so that the head writes no twins of its heaps and trees: the compiled file stays small. Nothing names them. -/
theorem PySem.W.Fast.tw12814563807580506972 : True := trivial
theorem PySem.W.Fast.tw14565446667158361261 : True := trivial
theorem PySem.W.Fast.tw11835616261631945205 : True := trivial
theorem PySem.W.Fast.tw11344386706168729437 : True := trivial
theorem PySem.W.Fast.tw18042682619463439351 : True := trivial
theorem PySem.W.Fast.tw8495751453222934881 : True := trivial
theorem PySem.W.Fast.tw2878203821602173844 : True := trivial
theorem PySem.W.Fast.tw4042008403051703356 : True := trivial
theorem PySem.W.Fast.tw3510371216426125762 : True := trivial
theorem PySem.W.Fast.tw12902312235178467215 : True := trivial
theorem PySem.W.Fast.tw5895501937979582255 : True := trivial
theorem PySem.W.Fast.tw17276030879200935902 : True := trivial
theorem PySem.W.Fast.tw6699357022995453782 : True := trivial
theorem PySem.W.Fast.tw11847091649100417848 : True := trivial
theorem PySem.W.Fast.tw17004315697016521959 : True := trivial
theorem PySem.W.Fast.tw9576448563362523005 : True := trivial
theorem PySem.W.Fast.tw13128952197510180512 : True := trivial
theorem PySem.W.Fast.tw11128546746790209966 : True := trivial
theorem PySem.W.Fast.tw8403081878894217057 : True := trivial
theorem PySem.W.Fast.tw4288488331062831401 : True := trivial
theorem PySem.W.Fast.tw6395253863045550632 : True := trivial
theorem PySem.W.Fast.tw1155842800907145836 : True := trivial
theorem PySem.W.Fast.tw9684375220562930548 : True := trivial
theorem PySem.W.Fast.tw6387098879284492939 : True := trivial
theorem PySem.W.Fast.tw4491292941151276303 : True := trivial
theorem PySem.W.Fast.tw7792172150241216877 : True := trivial
theorem PySem.W.Fast.tw8127194137941436941 : True := trivial
theorem PySem.W.Fast.tw16290667993234348665 : True := trivial
theorem PySem.W.Fast.tw16266021179089339030 : True := trivial
theorem PySem.W.Fast.tw15376028262399311801 : True := trivial
theorem PySem.W.Fast.tw13989186731521511762 : True := trivial
theorem PySem.W.Fast.tw1000588529271380901 : True := trivial
theorem PySem.W.Fast.tw11261934967388028541 : True := trivial
theorem PySem.W.Fast.tw9005579982842833887 : True := trivial
theorem PySem.W.Fast.tw7944418052579770181 : True := trivial
theorem PySem.W.Fast.tw3251270550076771150 : True := trivial
theorem PySem.W.Fast.tw13037512506048081379 : True := trivial
/-! Steps of a reading, one lemma a construct; `walk_at "go"` tries them one after another. -/
namespace Gx
open PySem L2
/-- a step that asks nothing: found by the goal's form -/
class St (P : Prop) (R : outParam Prop) : Prop where
  mp : R → P
/-- steps, as far as they go -/
class Sw (P : Prop) (R : outParam Prop) : Prop where
  mp : R → P
noncomputable instance (priority := 10) sw0 {P : Prop} : Sw P P := ⟨id⟩
noncomputable instance sw1 {P A R : Prop} [a : St P A] [b : Sw A R] : Sw P R := ⟨fun q => a.mp (b.mp q)⟩
class Sv (P : Prop) (R : outParam Prop) : Prop where
  mp : R → P
noncomputable instance sv1 {P A R : Prop} [a : St P A] [b : Sw A R] : Sv P R := ⟨fun q => a.mp (b.mp q)⟩
section
variable {K : PySem.W.Frag} {σ : L2.St} {H : Hp} {Q : VK} {D : Ends} {ta tb te to ti tv : TE} {t u : TT} {tr : TA} {tu tw : TS} {x y z v : V} {i j : Int} {B : Bool → Hp → Prop} {A1 A2 : Prop} {b : Bool}
/-- a test's answer; a branch -/
noncomputable def TB (x : V) (H : Hp) (Q : Bool → Hp → Prop) : Prop := ∃ k, x = .bl k ∧ Q k H
noncomputable def IfP (c : Bool) (A B : Prop) : Prop := if c = true then A else B
theorem tb_go (q : B b H) : TB (.bl b) H B := ⟨b, rfl, q⟩
noncomputable instance : Gx.St (TB (.bl b) H B) (B b H) := ⟨fun q => tb_go q⟩
theorem if_t (q : A1) : IfP true A1 A2 := by unfold IfP; rw [if_pos rfl]; exact q
noncomputable instance : Gx.St (IfP true A1 A2) (A1) := ⟨fun q => if_t q⟩
theorem if_f (q : A2) : IfP false A1 A2 := by unfold IfP; rw [if_neg Bool.false_ne_true]; exact q
noncomputable instance : Gx.St (IfP false A1 A2) (A2) := ⟨fun q => if_f q⟩
theorem if_nt (q : A2) : IfP (!true) A1 A2 := if_f q
noncomputable instance : Gx.St (IfP (!true) A1 A2) (A2) := ⟨fun q => if_nt q⟩
theorem if_nf (q : A1) : IfP (!false) A1 A2 := if_t q
noncomputable instance : Gx.St (IfP (!false) A1 A2) (A1) := ⟨fun q => if_nf q⟩
theorem if_y {c : Bool} (h : c = true) (q : A1) : IfP c A1 A2 := by subst h; exact if_t q
theorem if_n {c : Bool} (h : c = false) (q : A2) : IfP c A1 A2 := by subst h; exact if_f q
theorem if_b {c : Bool} (q1 : c = true → A1) (q2 : c = false → A2) : IfP c A1 A2 := by
  cases c with
  | true => exact if_t (q1 rfl)
  | false => exact if_f (q2 rfl)
theorem if_d {p : Prop} [Decidable p] (q1 : p → A1) (q2 : ¬ p → A2) : IfP (decide p) A1 A2 := if_b (fun h => q1 (of_decide_eq_true h)) (fun h => q2 (of_decide_eq_false h))
theorem if_dn {p : Prop} [Decidable p] (q1 : ¬ p → A1) (q2 : p → A2) : IfP (!decide p) A1 A2 := by
  by_cases h : p
  · rw [decide_eq_true h]; exact if_f (q2 h)
  · rw [decide_eq_false h]; exact if_t (q1 h)
theorem if_dy {p : Prop} [Decidable p] (h : p) (q : A1) : IfP (decide p) A1 A2 := if_y (decide_eq_true h) q
theorem if_dno {p : Prop} [Decidable p] (h : ¬ p) (q : A2) : IfP (decide p) A1 A2 := if_n (decide_eq_false h) q
/-- names, constants -/
theorem var {i : Nat} (h : σ[i]? = some (some v)) (q : Q v H) : tVar i σ H Q := ⟨v, h, q⟩
theorem cst (q : Q v H) : tC v σ H Q := q
noncomputable instance : Gx.St (tC v σ H Q) (Q v H) := ⟨fun q => cst q⟩
/-- operators -/
theorem op {r : R2} (q : ta σ H fun x H1 => tb σ H1 fun y H2 => r x y H2 Q) : tOp r ta tb σ H Q := q
noncomputable instance {r : R2} : Gx.St (tOp r ta tb σ H Q) (ta σ H fun x H1 => tb σ H1 fun y H2 => r x y H2 Q) := ⟨fun q => op q⟩
theorem un {r : V → Hp → VK → Prop} (q : ta σ H fun x H1 => r x H1 Q) : tUn r ta σ H Q := q
noncomputable instance {r : V → Hp → VK → Prop} : Gx.St (tUn r ta σ H Q) (ta σ H fun x H1 => r x H1 Q) := ⟨fun q => un q⟩
theorem i0 {g : Int → Int → V} (q : Q (g i j) H) : rI0 g (.int i) (.int j) H Q := ⟨i, j, rfl, rfl, q⟩
noncomputable instance {g : Int → Int → V} : Gx.St (rI0 g (.int i) (.int j) H Q) (Q (g i j) H) := ⟨fun q => i0 q⟩
theorem ic {C : Int → Int → Prop} {g : Int → Int → V} (c : C i j) (q : Q (g i j) H) : rI C g (.int i) (.int j) H Q := ⟨i, j, rfl, rfl, c, q⟩
theorem uu {g : Int → V} (q : Q (g i) H) : rU g (.int i) H Q := ⟨i, rfl, q⟩
noncomputable instance {g : Int → V} : Gx.St (rU g (.int i) H Q) (Q (g i) H) := ⟨fun q => uu q⟩
theorem eqv (q : Q (.bl (decide (x = y))) H) (h : scal x y = true := by rfl) : rEq x y H Q := ⟨h, q⟩
theorem nev (q : Q (.bl (!decide (x = y))) H) (h : scal x y = true := by rfl) : rNe x y H Q := ⟨h, q⟩
theorem eqI {p : Int} {q' : Int} : decide (V.int p = V.int q') = decide (p = q') := by simp
theorem eqS {p q' : Str} : decide (V.str p = V.str q') = decide (p = q') := by simp
theorem eqvI (q : Q (.bl (decide (i = j))) H) : rEq (.int i) (.int j) H Q := eqv (by rw [eqI]; exact q)
noncomputable instance : Gx.St (rEq (.int i) (.int j) H Q) (Q (.bl (decide (i = j))) H) := ⟨fun q => eqvI q⟩
theorem nevI (q : Q (.bl (!decide (i = j))) H) : rNe (.int i) (.int j) H Q := nev (by rw [eqI]; exact q)
noncomputable instance : Gx.St (rNe (.int i) (.int j) H Q) (Q (.bl (!decide (i = j))) H) := ⟨fun q => nevI q⟩
theorem eqvS {a b : Str} (q : Q (.bl (decide (a = b))) H) : rEq (.str a) (.str b) H Q := eqv (by rw [eqS]; exact q)
noncomputable instance {a b : Str} : Gx.St (rEq (.str a) (.str b) H Q) (Q (.bl (decide (a = b))) H) := ⟨fun q => eqvS q⟩
theorem nevS {a b : Str} (q : Q (.bl (!decide (a = b))) H) : rNe (.str a) (.str b) H Q := nev (by rw [eqS]; exact q)
noncomputable instance {a b : Str} : Gx.St (rNe (.str a) (.str b) H Q) (Q (.bl (!decide (a = b))) H) := ⟨fun q => nevS q⟩
/-- tests -/
theorem test (q : te σ H fun x H1 => TB x H1 B) : tTest te σ H B := q
noncomputable instance : Gx.St (tTest te σ H B) (te σ H fun x H1 => TB x H1 B) := ⟨fun q => test q⟩
theorem tB (q : te σ H fun x H1 => TB x H1 B) : L2.tB te σ H B := q
noncomputable instance : Gx.St (L2.tB te σ H B) (te σ H fun x H1 => TB x H1 B) := ⟨fun q => tB q⟩
theorem and_ (q : t σ H fun c H1 => IfP c (u σ H1 B) (B false H1)) : tAnd t u σ H B := q
noncomputable instance : Gx.St (tAnd t u σ H B) (t σ H fun c H1 => IfP c (u σ H1 B) (B false H1)) := ⟨fun q => and_ q⟩
theorem or_ (q : t σ H fun c H1 => IfP c (B true H1) (u σ H1 B)) : tOr t u σ H B := q
noncomputable instance : Gx.St (tOr t u σ H B) (t σ H fun c H1 => IfP c (B true H1) (u σ H1 B)) := ⟨fun q => or_ q⟩
theorem not_ (q : t σ H fun c H1 => B (!c) H1) : tNot t σ H B := q
noncomputable instance : Gx.St (tNot t σ H B) (t σ H fun c H1 => B (!c) H1) := ⟨fun q => not_ q⟩
theorem ifx (q : t σ H fun c H1 => IfP c (ta σ H1 Q) (tb σ H1 Q)) : tIf t ta tb σ H Q := q
noncomputable instance : Gx.St (tIf t ta tb σ H Q) (t σ H fun c H1 => IfP c (ta σ H1 Q) (tb σ H1 Q)) := ⟨fun q => ifx q⟩
/-- and, or, not as values -/
noncomputable def BV (x : V) (H : Hp) (Q : Bool → Hp → Prop) : Prop := ∃ c, x = .bl c ∧ Q c H
theorem bv_go (q : B b H) : BV (.bl b) H B := ⟨b, rfl, q⟩
noncomputable instance : Gx.St (BV (.bl b) H B) (B b H) := ⟨fun q => bv_go q⟩
theorem andV (q : ta σ H fun x H1 => BV x H1 fun c H1 => IfP c (tb σ H1 Q) (Q (.bl false) H1)) : tAndV ta tb σ H Q := q
noncomputable instance : Gx.St (tAndV ta tb σ H Q) (ta σ H fun x H1 => BV x H1 fun c H1 => IfP c (tb σ H1 Q) (Q (.bl false) H1)) := ⟨fun q => andV q⟩
theorem orV (q : ta σ H fun x H1 => BV x H1 fun c H1 => IfP c (Q (.bl true) H1) (tb σ H1 Q)) : tOrV ta tb σ H Q := q
noncomputable instance : Gx.St (tOrV ta tb σ H Q) (ta σ H fun x H1 => BV x H1 fun c H1 => IfP c (Q (.bl true) H1) (tb σ H1 Q)) := ⟨fun q => orV q⟩
theorem notV (q : ta σ H fun x H1 => BV x H1 fun c H1 => Q (.bl (!c)) H1) : tNotV ta σ H Q := q
noncomputable instance : Gx.St (tNotV ta σ H Q) (ta σ H fun x H1 => BV x H1 fun c H1 => Q (.bl (!c)) H1) := ⟨fun q => notV q⟩
/-- or, and as values, both sides looked at without a change: one answer for what follows -/
noncomputable def tOrW (ta tb : TE) : TE := tOrV ta tb
noncomputable def tAndW (ta tb : TE) : TE := tAndV ta tb
noncomputable def OrP (c : Bool) (tb : TE) (σ : L2.St) (H : Hp) (Q : VK) : Prop := if c = true then Q (.bl true) H else tb σ H Q
noncomputable def AndP (c : Bool) (tb : TE) (σ : L2.St) (H : Hp) (Q : VK) : Prop := if c = true then tb σ H Q else Q (.bl false) H
theorem orW (q : ta σ H fun x H1 => BV x H1 fun c H1 => OrP c tb σ H1 Q) : tOrW ta tb σ H Q := q
noncomputable instance : Gx.St (tOrW ta tb σ H Q) (ta σ H fun x H1 => BV x H1 fun c H1 => OrP c tb σ H1 Q) := ⟨fun q => orW q⟩
theorem andW (q : ta σ H fun x H1 => BV x H1 fun c H1 => AndP c tb σ H1 Q) : tAndW ta tb σ H Q := q
noncomputable instance : Gx.St (tAndW ta tb σ H Q) (ta σ H fun x H1 => BV x H1 fun c H1 => AndP c tb σ H1 Q) := ⟨fun q => andW q⟩
/-- methods of texts -/
noncomputable def M1P (te : TE) (r : V → List V → Hp → VK → Prop) (σ : L2.St) (x : V) (H : Hp) (Q : VK) : Prop := (∃ a, x = .str a) ∧ te σ H fun y H2 => r x [y] H2 Q
theorem m1 {r : V → List V → Hp → VK → Prop} (q : ta σ H fun x H1 => M1P te r σ x H1 Q) : tM1 r ta te σ H Q := q
noncomputable instance {r : V → List V → Hp → VK → Prop} : Gx.St (tM1 r ta te σ H Q) (ta σ H fun x H1 => M1P te r σ x H1 Q) := ⟨fun q => m1 q⟩
theorem m1s {r : V → List V → Hp → VK → Prop} {z : Str} (q : te σ H fun y H2 => r (.str z) [y] H2 Q) : M1P te r σ (.str z) H Q := ⟨⟨z, rfl⟩, q⟩
noncomputable instance {r : V → List V → Hp → VK → Prop} {z : Str} : Gx.St (M1P te r σ (.str z) H Q) (te σ H fun y H2 => r (.str z) [y] H2 Q) := ⟨fun q => m1s q⟩
/-- argument lists, displays -/
theorem nil {R : List V → Hp → Prop} (q : R [] H) : tNil σ H R := q
noncomputable instance {R : List V → Hp → Prop} : Gx.St (tNil σ H R) (R [] H) := ⟨fun q => nil q⟩
theorem cons {R : List V → Hp → Prop} (q : ta σ H fun x H1 => tr σ H1 fun xs H2 => R (x :: xs) H2) : tCons ta tr σ H R := q
noncomputable instance {R : List V → Hp → Prop} : Gx.St (tCons ta tr σ H R) (ta σ H fun x H1 => tr σ H1 fun xs H2 => R (x :: xs) H2) := ⟨fun q => cons q⟩
/-- a new object -/
noncomputable def NewP (H : Hp) (o : HO) (Q : VK) : Prop := ∀ p, H p = none → Q (.ref p) (upd H p o)
noncomputable def LstP (xs : List V) (H : Hp) (Q : VK) : Prop := xs.length ≤ sizeLine ∧ NewP H (.lst xs) Q
noncomputable def TupP (xs : List V) (H : Hp) (Q : VK) : Prop := xs.length ≤ sizeLine ∧ NewP H (.tup xs) Q
theorem lst (q : tr σ H fun xs H1 => LstP xs H1 Q) : tLst tr σ H Q := q
noncomputable instance : Gx.St (tLst tr σ H Q) (tr σ H fun xs H1 => LstP xs H1 Q) := ⟨fun q => lst q⟩
theorem tup (q : tr σ H fun xs H1 => TupP xs H1 Q) : tTup tr σ H Q := q
noncomputable instance : Gx.St (tTup tr σ H Q) (tr σ H fun xs H1 => TupP xs H1 Q) := ⟨fun q => tup q⟩
theorem lstP {xs : List V} (h : xs.length ≤ sizeLine) (q : ∀ p, H p = none → Q (.ref p) (upd H p (.lst xs))) : LstP xs H Q := ⟨h, q⟩
theorem tupP {xs : List V} (h : xs.length ≤ sizeLine) (q : ∀ p, H p = none → Q (.ref p) (upd H p (.tup xs))) : TupP xs H Q := ⟨h, q⟩
/-- calls -/
noncomputable def CP (sp : Sp) (vs dvs : List V) (H : Hp) (Q : VK) (E : XK) : Prop := sp (vs ++ dvs) H Q E
theorem call {sp : Sp} {dvs : List V} {E : XK} (q : tr σ H fun vs H1 => CP sp vs dvs H1 Q E) : tCall sp dvs E tr σ H Q := q
noncomputable instance {sp : Sp} {dvs : List V} {E : XK} : Gx.St (tCall sp dvs E tr σ H Q) (tr σ H fun vs H1 => CP sp vs dvs H1 Q E) := ⟨fun q => call q⟩
theorem cb {r : List V → Hp → VK → Prop} (q : tr σ H fun vs H1 => r vs H1 Q) : tCB r tr σ H Q := q
noncomputable instance {r : List V → Hp → VK → Prop} : Gx.St (tCB r tr σ H Q) (tr σ H fun vs H1 => r vs H1 Q) := ⟨fun q => cb q⟩
/-- statements -/
theorem seq (q : tu { D with nx := tw D } σ H) : tSeq tu tw D σ H := q
noncomputable instance : Gx.St (tSeq tu tw D σ H) (tu { D with nx := tw D } σ H) := ⟨fun q => seq q⟩
theorem next (q : D.nx σ H) : tNext D σ H := q
noncomputable instance : Gx.St (tNext D σ H) (D.nx σ H) := ⟨fun q => next q⟩
theorem ret (q : te σ H D.rt) : tRet te D σ H := q
noncomputable instance : Gx.St (tRet te D σ H) (te σ H D.rt) := ⟨fun q => ret q⟩
theorem retN (q : D.rt .non H) : tRetN D σ H := q
noncomputable instance : Gx.St (tRetN D σ H) (D.rt .non H) := ⟨fun q => retN q⟩
theorem drop (q : te σ H fun _ H1 => D.nx σ H1) : tDrop te D σ H := q
noncomputable instance : Gx.St (tDrop te D σ H) (te σ H fun _ H1 => D.nx σ H1) := ⟨fun q => drop q⟩
theorem asg {g : TG} (q : te σ H fun x H1 => g x σ H1 D.nx) : tAsg te g D σ H := q
noncomputable instance {g : TG} : Gx.St (tAsg te g D σ H) (te σ H fun x H1 => g x σ H1 D.nx) := ⟨fun q => asg q⟩
theorem name {i : Nat} {R : L2.St → Hp → Prop} (q : R (σ.set i (some v)) H) : gName i v σ H R := q
noncomputable instance {i : Nat} {R : L2.St → Hp → Prop} : Gx.St (gName i v σ H R) (R (σ.set i (some v)) H) := ⟨fun q => name q⟩
theorem ifs {c : TT} (q : c σ H fun b H1 => IfP b (tu D σ H1) (tw D σ H1)) : tIfS c tu tw D σ H := q
noncomputable instance {c : TT} : Gx.St (tIfS c tu tw D σ H) (c σ H fun b H1 => IfP b (tu D σ H1) (tw D σ H1)) := ⟨fun q => ifs q⟩
theorem brk (q : D.bk σ H) : tBreak D σ H := q
noncomputable instance : Gx.St (tBreak D σ H) (D.bk σ H) := ⟨fun q => brk q⟩
theorem cnt (q : D.ct σ H) : tCont D σ H := q
noncomputable instance : Gx.St (tCont D σ H) (D.ct σ H) := ⟨fun q => cnt q⟩
noncomputable def AugP (i : Nat) (x y : V) (ip : TIp) (D : Ends) (σ : L2.St) (H : Hp) : Prop := ip x y H fun z H2 => D.nx (σ.set i (some z)) H2
theorem aug {i : Nat} {tip : TIp} (h : σ[i]? = some (some x)) (q : te σ H fun y H1 => AugP i x y tip D σ H1) : tAug i te tip D σ H := ⟨x, h, q⟩
theorem augI {n : Nat} {f : Int → Int → Int} (q : D.nx (σ.set n (some (.int (f i j)))) H) : AugP n (.int i) (.int j) (ipI f) D σ H := ⟨i, j, rfl, rfl, q⟩
noncomputable instance {n : Nat} {f : Int → Int → Int} : Gx.St (AugP n (.int i) (.int j) (ipI f) D σ H) (D.nx (σ.set n (some (.int (f i j)))) H) := ⟨fun q => augI q⟩
/-- loops: what walks (FW), for a range -/
noncomputable def FW (J : It) (g : TG) (tb : TS) (D : Ends) (σ : L2.St) (H : Hp) : Prop := ∃ W : Nat → Nat → L2.St → Hp → Prop, (∃ m, W 0 m σ H) ∧ ∀ i m σ H, W i m σ H →
  (J.stop i H ∧ D.nx σ H) ∨ (J.go i H ∧ ∃ N : L2.St → Hp → Prop, (∀ σ' H', N σ' H' → ∃ m', m' < m ∧ W (i + 1) m' σ' H') ∧ ∀ x H', J.yld i H x H' → g x σ H' fun σ2 H2 => tb { D with nx := N, ct := N, bk := D.nx } σ2 H2)
theorem for_ {wi : TI} {g : TG} (q : wi σ H fun J H1 => FW J g tu D σ H1) : tFor wi g tu D σ H := q
noncomputable instance {wi : TI} {g : TG} : Gx.St (tFor wi g tu D σ H) (wi σ H fun J H1 => FW J g tu D σ H1) := ⟨fun q => for_ q⟩
noncomputable def R1P (vs : List V) (H : Hp) (R : It → Hp → Prop) : Prop := ∃ j : Int, vs = [.int j] ∧ -(2 ^ 62) ≤ j ∧ j < 2 ^ 62 ∧ R (Itr 0 j.toNat) H
noncomputable def R2P (vs : List V) (H : Hp) (R : It → Hp → Prop) : Prop := ∃ i j : Int, vs = [.int i, .int j] ∧ (-(2 ^ 62) ≤ i ∧ i < 2 ^ 62 ∧ -(2 ^ 62) ≤ j ∧ j < 2 ^ 62) ∧ R (Itr i (j - i).toNat) H
theorem rng1 {R : It → Hp → Prop} (q : tr σ H fun vs H1 => R1P vs H1 R) : iRng1 tr σ H R := q
noncomputable instance {R : It → Hp → Prop} : Gx.St (iRng1 tr σ H R) (tr σ H fun vs H1 => R1P vs H1 R) := ⟨fun q => rng1 q⟩
theorem rng2 {R : It → Hp → Prop} (q : tr σ H fun vs H1 => R2P vs H1 R) : iRng2 tr σ H R := q
noncomputable instance {R : It → Hp → Prop} : Gx.St (iRng2 tr σ H R) (tr σ H fun vs H1 => R2P vs H1 R) := ⟨fun q => rng2 q⟩
noncomputable def R3P (vs : List V) (H : Hp) (R : It → Hp → Prop) : Prop := ∃ (i j c : Int) (n : Nat), vs = [.int i, .int j, .int c] ∧ RgC i j c n ∧ R (Itc i c n) H
theorem rng3 {R : It → Hp → Prop} (q : tr σ H fun vs H1 => R3P vs H1 R) : iRng3 tr σ H R := q
noncomputable instance {R : It → Hp → Prop} : Gx.St (iRng3 tr σ H R) (tr σ H fun vs H1 => R3P vs H1 R) := ⟨fun q => rng3 q⟩
theorem r3 {R : It → Hp → Prop} {c : Int} {n : Nat} (h : RgC i j c n) (q : R (Itc i c n) H) : R3P [.int i, .int j, .int c] H R := ⟨i, j, c, n, rfl, h, q⟩
theorem r1 {R : It → Hp → Prop} (h1 : -(2 ^ 62) ≤ j) (h2 : j < 2 ^ 62) (q : R (Itr 0 j.toNat) H) : R1P [.int j] H R := ⟨j, rfl, h1, h2, q⟩
theorem r2 {R : It → Hp → Prop} (h1 : -(2 ^ 62) ≤ i ∧ i < 2 ^ 62 ∧ -(2 ^ 62) ≤ j ∧ j < 2 ^ 62) (q : R (Itr i (j - i).toNat) H) : R2P [.int i, .int j] H R := ⟨i, j, rfl, h1, q⟩
noncomputable def LP (K : PySem.W.Frag) (x : V) (H : Hp) (R : It → Hp → Prop) : Prop := ∃ a, x = .ref a ∧ (∃ xs, SqL K H a xs) ∧ R (Itl K a) H
theorem lwk {R : It → Hp → Prop} (q : te σ H fun x H1 => LP K x H1 R) : iList K te σ H R := q
noncomputable instance {R : It → Hp → Prop} : Gx.St (iList K te σ H R) (te σ H fun x H1 => LP K x H1 R) := ⟨fun q => lwk q⟩
theorem lp {a : Addr} {xs : List V} {R : It → Hp → Prop} (h : SqL K H a xs) (q : R (Itl K a) H) : LP K (.ref a) H R := ⟨a, rfl, ⟨xs, h⟩, q⟩
/-- built-in functions, under names of their own -/
noncomputable def rInt1 : List V → Hp → VK → Prop := fun xs H Q => (∃ i, xs = [.int i] ∧ Q (.int i) H) ∨ ∃ k, xs = [.bl k] ∧ Q (.int (if k then 1 else 0)) H
noncomputable def rAbs : List V → Hp → VK → Prop := fun xs H Q => ∃ i, xs = [.int i] ∧ Q (.int (if i < 0 then -i else i)) H
noncomputable def rStrI : List V → Hp → VK → Prop := fun xs H Q => ∃ i, xs = [.int i] ∧ i.natAbs.log2 < 1920 ∧ Q (.str (toString i)) H
noncomputable def rLen (K : PySem.W.Frag) : List V → Hp → VK → Prop := fun xs H Q => ∃ x n, xs = [x] ∧ LenV K x H n ∧ Q (.int n) H
theorem int1 (q : Q (.int i) H) : rInt1 [.int i] H Q := .inl ⟨i, rfl, q⟩
noncomputable instance : Gx.St (rInt1 [.int i] H Q) (Q (.int i) H) := ⟨fun q => int1 q⟩
theorem intB {k : Bool} (q : Q (.int (if k then 1 else 0)) H) : rInt1 [.bl k] H Q := .inr ⟨k, rfl, q⟩
noncomputable instance {k : Bool} : Gx.St (rInt1 [.bl k] H Q) (Q (.int (if k then 1 else 0)) H) := ⟨fun q => intB q⟩
theorem abs1 (q : Q (.int (if i < 0 then -i else i)) H) : rAbs [.int i] H Q := ⟨i, rfl, q⟩
noncomputable instance : Gx.St (rAbs [.int i] H Q) (Q (.int (if i < 0 then -i else i)) H) := ⟨fun q => abs1 q⟩
theorem strI (h : i.natAbs.log2 < 1920) (q : Q (.str (toString i)) H) : rStrI [.int i] H Q := ⟨i, rfl, h, q⟩
theorem lenL {p : Addr} {xs : List V} (h : SqL K H p xs) (q : Q (.int (xs.length : Nat)) H) : rLen K [.ref p] H Q := ⟨_, _, rfl, .inl ⟨_, h, rfl⟩, q⟩
/-- xs[i], s[i] -/
theorem ixL {p : Addr} {xs : List V} (h : SqL K H p xs) (ha : atI xs i = some v) (q : Q v H) : rIx K (.ref p) (.int i) H Q := .inl ⟨p, xs, i, v, rfl, rfl, h, ha, q⟩
theorem ixT {p : Addr} {xs : List V} (h : SqT K H p xs) (ha : atI xs i = some v) (q : Q v H) : rIx K (.ref p) (.int i) H Q := .inr (.inl ⟨p, xs, i, v, rfl, rfl, h, ha, q⟩)
theorem ixS {s : Str} {c : Nat} (h : s.length ≤ sizeLine) (ha : atI s.cps.toList i = some c) (q : Q (.str ⟨#[c]⟩) H) : rIx K (.str s) (.int i) H Q := .inr (.inr ⟨s, i, c, rfl, rfl, h, ha, q⟩)
/-- a, b = t -/
theorem gtup {n : Nat} {a : Addr} {xs : List V} {tg : TGs} {R : L2.St → Hp → Prop} (h : SqT K H a xs) (hl : xs.length = n) (q : tg xs σ H R) : gTup K n tg (.ref a) σ H R := ⟨a, xs, rfl, h, hl, q⟩
theorem gcons {g : TG} {tg : TGs} {xs : List V} {R : L2.St → Hp → Prop} (q : g v σ H fun σ' H' => tg xs σ' H' R) : gCons g tg (v :: xs) σ H R := ⟨v, xs, rfl, q⟩
noncomputable instance {g : TG} {tg : TGs} {xs : List V} {R : L2.St → Hp → Prop} : Gx.St (gCons g tg (v :: xs) σ H R) (g v σ H fun σ' H' => tg xs σ' H' R) := ⟨fun q => gcons q⟩
theorem gnil {R : L2.St → Hp → Prop} (q : R σ H) : gNil [] σ H R := ⟨rfl, q⟩
noncomputable instance {R : L2.St → Hp → Prop} : Gx.St (gNil [] σ H R) (R σ H) := ⟨fun q => gnil q⟩
/-- n.bit_length() -/
noncomputable def BiP (x : V) (H : Hp) (Q : VK) : Prop := ∃ i, x = .int i ∧ Q (.int (Builtin.Int.intBits i : Nat)) H
/-- o.f, o.f = v, o.m(..), C(..) -/
noncomputable def FP (K : PySem.W.Frag) (f : Str) (x : V) (H : Hp) (Q : VK) : Prop := ∃ a C dx fs v, x = .ref a ∧ H a = some (.ins C dx fs) ∧ Cls K C ∧ NoAttr K C f ∧ fs.lookup f = some v ∧ Q v H
theorem fld {f : Str} (q : ta σ H fun x H1 => FP K f x H1 Q) : tFld K ta f σ H Q := q
noncomputable instance {f : Str} : Gx.St (tFld K ta f σ H Q) (ta σ H fun x H1 => FP K f x H1 Q) := ⟨fun q => fld q⟩
theorem fp {f : Str} {a C dx : Addr} {fs : List (Str × V)} (h : H a = some (.ins C dx fs)) (c : Cls K C) (n : NoAttr K C f) (l : fs.lookup f = some v) (q : Q v H) : FP K f (.ref a) H Q := ⟨a, C, dx, fs, v, rfl, h, c, n, l, q⟩
noncomputable def SFP (K : PySem.W.Frag) (f : Str) (y x : V) (D : Ends) (σ : L2.St) (H : Hp) : Prop := ∃ a C dx fs, x = .ref a ∧ H a = some (.ins C dx fs) ∧ Cls K C ∧ NoAttr K C f ∧ fs.length < 1000 ∧ D.nx σ (upd H a (.ins C dx (putF f y fs)))
theorem sfld {f : Str} (q : tv σ H fun y H1 => ta σ H1 fun x H2 => SFP K f y x D σ H2) : sFld K ta tv f D σ H := q
noncomputable instance {f : Str} : Gx.St (sFld K ta tv f D σ H) (tv σ H fun y H1 => ta σ H1 fun x H2 => SFP K f y x D σ H2) := ⟨fun q => sfld q⟩
theorem sfp {f : Str} {a C dx : Addr} {fs gs : List (Str × V)} (h : H a = some (.ins C dx fs)) (c : Cls K C) (n : NoAttr K C f) (l : fs.length < 1000) (e : putF f y fs = gs) (q : D.nx σ (upd H a (.ins C dx gs))) : SFP K f y (.ref a) D σ H := ⟨a, C, dx, fs, rfl, h, c, n, l, by rw [e]; exact q⟩
theorem few {f : Str} {v : V} : ∀ {fs : List (Str × V)} {k : Nat}, fs.length ≤ k → (putF f v fs).length ≤ k + 1
  | [], k, _ => Nat.succ_le_succ (Nat.zero_le k)
  | (g, u) :: r, k, h => by
    unfold putF
    split
    · exact Nat.le_succ_of_le h
    · cases k with
      | zero => cases h
      | succ k => exact Nat.succ_le_succ (few (Nat.le_of_succ_le_succ h))
noncomputable def MP (C : Addr) (m : Str) (sp : Sp) (dvs : List V) (E : XK) (t : TA) (σ : L2.St) (x : V) (H : Hp) (Q : VK) : Prop := ∃ a dx fs, x = .ref a ∧ H a = some (.ins C dx fs) ∧ fs.lookup m = none ∧ t σ H fun vs H2 => sp (x :: (vs ++ dvs)) H2 Q E
theorem meth {C : Addr} {m : Str} {sp : Sp} {dvs : List V} {E : XK} (q : ta σ H fun x H1 => MP C m sp dvs E tr σ x H1 Q) : tMeth C m sp dvs E ta tr σ H Q := q
noncomputable instance {C : Addr} {m : Str} {sp : Sp} {dvs : List V} {E : XK} : Gx.St (tMeth C m sp dvs E ta tr σ H Q) (ta σ H fun x H1 => MP C m sp dvs E tr σ x H1 Q) := ⟨fun q => meth q⟩
theorem mp {C a dx : Addr} {m : Str} {sp : Sp} {dvs : List V} {E : XK} {fs : List (Str × V)} (h : H a = some (.ins C dx fs)) (n : fs.lookup m = none) (q : tr σ H fun vs H2 => CP sp (.ref a :: vs) dvs H2 Q E) : MP C m sp dvs E tr σ (.ref a) H Q := ⟨a, dx, fs, rfl, h, n, q⟩
noncomputable def MkP (C : Addr) (sp : Sp) (vs dvs : List V) (H : Hp) (Q : VK) (E : XK) : Prop := ∀ x dx, H x = none → H dx = none → dx ≠ x → CP sp (.ref x :: vs) dvs (upd (upd H dx (.own x)) x (.ins C dx [])) (fun v H2 => v = .non ∧ Q (.ref x) H2) E
theorem make {C : Addr} {sp : Sp} {dvs : List V} {E : XK} (q : tr σ H fun vs H1 => MkP C sp vs dvs H1 Q E) : tMake C sp dvs E tr σ H Q := q
noncomputable instance {C : Addr} {sp : Sp} {dvs : List V} {E : XK} : Gx.St (tMake C sp dvs E tr σ H Q) (tr σ H fun vs H1 => MkP C sp vs dvs H1 Q E) := ⟨fun q => make q⟩
noncomputable def AgP (tip : TIp) (tset : TSet) (o i x y : V) (D : Ends) (σ : L2.St) (H : Hp) : Prop := tip x y H fun z H5 => tset o i z H5 fun H6 => D.nx σ H6
theorem augS {tget : V → V → Hp → VK → Prop} {tip : TIp} {tset : TSet} (q : to σ H fun o H1 => ti σ H1 fun i H2 => tget o i H2 fun x H3 => te σ H3 fun y H4 => AgP tip tset o i x y D σ H4) : tAugS to ti te tget tip tset D σ H := q
noncomputable instance {tget : V → V → Hp → VK → Prop} {tip : TIp} {tset : TSet} : Gx.St (tAugS to ti te tget tip tset D σ H) (to σ H fun o H1 => ti σ H1 fun i H2 => tget o i H2 fun x H3 => te σ H3 fun y H4 => AgP tip tset o i x y D σ H4) := ⟨fun q => augS q⟩
/-- o[i] = v -/
noncomputable def SbP (ti : TE) (t : TSet) (v : V) (σ : L2.St) (o : V) (H : Hp) (R : L2.St → Hp → Prop) : Prop := ti σ H fun i H2 => t o i v H2 fun H3 => R σ H3
theorem sub {ts : TSet} {R : L2.St → Hp → Prop} (q : to σ H fun o H1 => SbP ti ts v σ o H1 R) : gSub to ti ts v σ H R := q
noncomputable instance {ts : TSet} {R : L2.St → Hp → Prop} : Gx.St (gSub to ti ts v σ H R) (to σ H fun o H1 => SbP ti ts v σ o H1 R) := ⟨fun q => sub q⟩
theorem sbp {ts : TSet} {R : L2.St → Hp → Prop} (q : ti σ H fun i H2 => ts x i v H2 fun H3 => R σ H3) : SbP ti ts v σ x H R := q
noncomputable instance {ts : TSet} {R : L2.St → Hp → Prop} : Gx.St (SbP ti ts v σ x H R) (ti σ H fun i H2 => ts x i v H2 fun H3 => R σ H3) := ⟨fun q => sbp q⟩
theorem setL {l : Addr} {xs : List V} {k : Int} {j : Nat} {R : Hp → Prop} (h : H l = some (.lst xs)) (hk : ixN xs.length k = some j) (q : R (upd H l (.lst (xs.set j v)))) : rSetL (.ref l) (.int k) v H R := ⟨l, xs, k, j, rfl, rfl, h, hk, q⟩
/-- slices -/
noncomputable def PtP (x : V) (H : Hp) (R : Option Int → Hp → Prop) : Prop := ∃ i, x = .int i ∧ R (some i) H
theorem slc {r : V → Option Int → Option Int → Hp → VK → Prop} {tl th : TO} (q : te σ H fun x H1 => tl σ H1 fun a H2 => th σ H2 fun b H3 => r x a b H3 Q) : tSl r te tl th σ H Q := q
noncomputable instance {r : V → Option Int → Option Int → Hp → VK → Prop} {tl th : TO} : Gx.St (tSl r te tl th σ H Q) (te σ H fun x H1 => tl σ H1 fun a H2 => th σ H2 fun b H3 => r x a b H3 Q) := ⟨fun q => slc q⟩
theorem noP {R : Option Int → Hp → Prop} (q : R none H) : tNoPart σ H R := q
noncomputable instance {R : Option Int → Hp → Prop} : Gx.St (tNoPart σ H R) (R none H) := ⟨fun q => noP q⟩
theorem part {R : Option Int → Hp → Prop} (q : te σ H fun x H1 => PtP x H1 R) : tPart te σ H R := q
noncomputable instance {R : Option Int → Hp → Prop} : Gx.St (tPart te σ H R) (te σ H fun x H1 => PtP x H1 R) := ⟨fun q => part q⟩
theorem ptp {R : Option Int → Hp → Prop} (q : R (some i) H) : PtP (.int i) H R := ⟨i, rfl, q⟩
noncomputable instance {R : Option Int → Hp → Prop} : Gx.St (PtP (.int i) H R) (R (some i) H) := ⟨fun q => ptp q⟩
/-- texts put together -/
noncomputable def rCatS : R2 := fun x y H Q => ∃ i j, x = .str i ∧ y = .str j ∧ i.length + j.length ≤ sizeLine ∧ Q (.str (i ++ j)) H
theorem addS {a b : Str} (h : a.length + b.length ≤ sizeLine) (q : Q (.str (a ++ b)) H) : rCatS (.str a) (.str b) H Q := ⟨a, b, rfl, rfl, h, q⟩
theorem at_map {ns : List Int} {k : Nat} (h : k < ns.length) : atI (ns.map V.int) (k : Int) = some (.int (ns.getD k 0)) := by
  refine atI_nat ?_
  rw [List.getElem?_map, List.getElem?_eq_getElem h]
  simp [List.getD_eq_getElem?_getD, List.getElem?_eq_getElem h]
/-- methods of built-in types -/
noncomputable def BmP (K : PySem.W.Frag) (T : String) (r : V → List V → Hp → VK → Prop) (t : TA) (σ : L2.St) (x : V) (H : Hp) (Q : VK) : Prop := tyV K T x H ∧ t σ H fun xs H2 => r x xs H2 Q
theorem bm {T : String} {r : V → List V → Hp → VK → Prop} (q : to σ H fun x H1 => BmP K T r tr σ x H1 Q) : tBM K T r to tr σ H Q := q
noncomputable instance {T : String} {r : V → List V → Hp → VK → Prop} : Gx.St (tBM K T r to tr σ H Q) (to σ H fun x H1 => BmP K T r tr σ x H1 Q) := ⟨fun q => bm q⟩
theorem bmS {T : String} {r : V → List V → Hp → VK → Prop} (h : tyV K T x H) (q : tr σ H fun xs H2 => r x xs H2 Q) : BmP K T r tr σ x H Q := ⟨h, q⟩
theorem app {l : Addr} {xs : List V} (h : H l = some (.lst xs)) (hz : xs.length < sizeLine) (q : Q .non (upd H l (.lst (xs ++ [y])))) : rAppend (.ref l) [y] H Q := ⟨l, xs, y, rfl, rfl, h, hz, q⟩
theorem tyL {p : Addr} {xs : List V} (h : SqL K H p xs) : tyV K "list" (.ref p) H := .inl ⟨rfl, _, h⟩
/-- what follows is shown once, from the word between -/
theorem cut {tz : TS} (M : L2.St → Hp → Prop) (h : tu { D with nx := M } σ H) (k : ∀ σ' H', M σ' H' → tz D σ' H') : C8.tCut tu tz D σ H := ⟨M, h, k⟩
/-- while: a word that falls -/
noncomputable def WhI (W : Nat → L2.St → Hp → Prop) (m : Nat) (tb : TS) (D : Ends) (σ : L2.St) (b : Bool) (H : Hp) : Prop :=
  if b = true then ∃ N : L2.St → Hp → Prop, (∀ σ' H', N σ' H' → ∃ m', m' < m ∧ W m' σ' H') ∧ tb { D with nx := N, ct := N, bk := D.nx } σ H else D.nx σ H
theorem whI_t {W : Nat → L2.St → Hp → Prop} {m : Nat} (q : tu { D with nx := fun σ' H' => ∃ m', m' < m ∧ W m' σ' H', ct := fun σ' H' => ∃ m', m' < m ∧ W m' σ' H', bk := D.nx } σ H) : WhI W m tu D σ true H := by
  unfold WhI; rw [if_pos rfl]; exact ⟨_, fun _ _ h => h, q⟩
noncomputable instance {W : Nat → L2.St → Hp → Prop} {m : Nat} : Gx.St (WhI W m tu D σ true H) (tu { D with nx := fun σ' H' => ∃ m', m' < m ∧ W m' σ' H', ct := fun σ' H' => ∃ m', m' < m ∧ W m' σ' H', bk := D.nx } σ H) := ⟨fun q => whI_t q⟩
theorem whI_f {W : Nat → L2.St → Hp → Prop} {m : Nat} (q : D.nx σ H) : WhI W m tu D σ false H := by
  unfold WhI; rw [if_neg Bool.false_ne_true]; exact q
noncomputable instance {W : Nat → L2.St → Hp → Prop} {m : Nat} : Gx.St (WhI W m tu D σ false H) (D.nx σ H) := ⟨fun q => whI_f q⟩
/-- any walk -/
theorem fw {J : It} {n : Nat} {G : Hp → Prop} {Y : Nat → Hp → V → Hp → Prop} {g : TG} (w : Walk J n G Y) (Pv : Nat → L2.St → Hp → Prop) (h0 : Pv 0 σ H) (hG : ∀ i σ H, i ≤ n → Pv i σ H → G H)
    (hs : ∀ i x σ H H', i < n → Pv i σ H → Y i H x H' → g x σ H' fun σ2 H2 => tu { D with nx := Pv (i + 1), ct := Pv (i + 1), bk := D.nx } σ2 H2) (hd : ∀ σ H, Pv n σ H → D.nx σ H) : FW J g tu D σ H := for_it w Pv h0 hG hs hd
noncomputable def StrP (x : V) (H : Hp) (R : It → Hp → Prop) : Prop := ∃ z, x = .str z ∧ R (Its z) H
theorem strw {R : It → Hp → Prop} (q : te σ H fun x H1 => StrP x H1 R) : iStr te σ H R := q
noncomputable instance {R : It → Hp → Prop} : Gx.St (iStr te σ H R) (te σ H fun x H1 => StrP x H1 R) := ⟨fun q => strw q⟩
theorem strp {z : Str} {R : It → Hp → Prop} (q : R (Its z) H) : StrP (.str z) H R := ⟨z, rfl, q⟩
noncomputable instance {z : Str} {R : It → Hp → Prop} : Gx.St (StrP (.str z) H R) (R (Its z) H) := ⟨fun q => strp q⟩
/-- comprehensions -/
noncomputable def LcP (J : It) (g : TG) (tt : TT) (te : TE) (vs : List Nat) (σ : L2.St) (Q : VK) (H1 : Hp) : Prop := ∀ D, H1 D = none → ∃ W : Nat → Nat → Hp → Prop, (∃ m, W 0 m (upd H1 D (.lst []))) ∧ ∀ i m H, W i m H →
  (J.stop i H ∧ Q (.ref D) H) ∨ (J.go i H ∧ ∃ Nx : Hp → Prop, (∀ H', Nx H' → ∃ m', m' < m ∧ W (i + 1) m' H') ∧ ∀ x H', J.yld i H x H' → g x (wipe σ vs) H' fun σ2 H2 => wipe σ2 vs = wipe σ vs ∧ tt σ2 H2 fun b H3 =>
    if b = true then te σ2 H3 fun y H4 => ∃ acc, H4 D = some (.lst acc) ∧ acc.length < sizeLine ∧ Nx (upd H4 D (.lst (acc ++ [y]))) else Nx H3)
theorem lc {wi : TI} {g : TG} {vs : List Nat} (q : wi σ H fun J H1 => LcP J g t te vs σ Q H1) : tLc wi g t te vs σ H Q := q
noncomputable instance {wi : TI} {g : TG} {vs : List Nat} : Gx.St (tLc wi g t te vs σ H Q) (wi σ H fun J H1 => LcP J g t te vs σ Q H1) := ⟨fun q => lc q⟩
noncomputable def WP (A B : Prop) : Prop := A ∧ B
theorem wp (h : A1) (q : A2) : WP A1 A2 := ⟨h, q⟩
theorem yes (q : B true H) : tYes σ H B := q
noncomputable instance : Gx.St (tYes σ H B) (B true H) := ⟨fun q => yes q⟩
theorem same_up {H H' : Hp} {p : Addr} {o : HO} (h : H p = none) (s : Same H H') : Same H (upd H' p o) := fun a u e => by rw [upd_ne (ne_of_none e h)]; exact s a u e
theorem same_new {H : Hp} {p : Addr} {o : HO} (h : H p = none) : Same H (upd H p o) := same_up h (Same.refl H)
theorem snoc {H : Hp} {p : Addr} {xs : List Int} {z : Int} : upd H p (.lst (xs.map V.int ++ [.int z])) p = some (.lst ((xs ++ [z]).map V.int)) := by rw [upd_same, List.map_append]; rfl
/-- a comprehension whose turns leave what stands: the list of the turns that are kept -/
theorem lcFil {J : It} {n : Nat} {G : Hp → Prop} {Y : Nat → Hp → V → Hp → Prop} {g : TG} {vs : List Nat} (w : Walk J n G Y) (hn : n < 16777216) (c : Nat → Bool) (f : Nat → V) (hG : ∀ H', Same H H' → G H') (hY : ∀ i H x H', Y i H x H' → Same H H')
    (hs : ∀ i x H1 H' (R : V → Hp → Prop) (R0 : Hp → Prop), i < n → Same H H1 → Y i H1 x H' → (c i = true → ∀ H4, Same H' H4 → R (f i) H4) → (c i = false → ∀ H4, Same H' H4 → R0 H4) →
      g x (wipe σ vs) H' fun σ2 H2 => WP (wipe σ2 vs = wipe σ vs) (t σ2 H2 fun b H3 => IfP b (te σ2 H3 R) (R0 H3)))
    (q : ∀ p H2, H p = none → Same H H2 → H2 p = some (.lst (((List.range n).filter c).map f)) → Q (.ref p) H2) : LcP J g t te vs σ Q H := fun p hp => by
  refine lc_it w (fun i H' => Same H H' ∧ H' p = some (.lst (((List.range i).filter c).map f))) ⟨same_new hp, upd_same⟩ (fun i H' _ h => hG H' h.1) (fun i x H1 H' hi h y => ?_) (fun H' h => q p H' hp h.1 h.2)
  obtain ⟨h1, h2⟩ := h
  have s1 := hY i H1 x H' y
  refine hs i x H1 H' _ _ hi h1 y (fun hc H4 s4 => ⟨_, s4 _ _ (s1 _ _ h2), ?_, same_up hp (h1.trans (s1.trans s4)), ?_⟩) (fun hc H4 s4 => ⟨h1.trans (s1.trans s4), ?_⟩)
  · rw [List.length_map]
    have := List.length_filter_le c (List.range i)
    rw [List.length_range] at this
    rw [sizeLine_eq]; omega
  · rw [upd_same, List.range_succ, List.filter_append, List.map_append, List.filter_cons, if_pos hc]; rfl
  · rw [List.range_succ, List.filter_append, List.map_append, List.filter_cons, if_neg (by rw [hc]; decide)]
    rw [s4 _ _ (s1 _ _ h2)]; simp
theorem lcMap {J : It} {n : Nat} {G : Hp → Prop} {Y : Nat → Hp → V → Hp → Prop} {g : TG} {vs : List Nat} (w : Walk J n G Y) (hn : n < 16777216) (f : Nat → V) (hG : ∀ H', Same H H' → G H') (hY : ∀ i H x H', Y i H x H' → Same H H')
    (hs : ∀ i x H1 H' (R : V → Hp → Prop) (R0 : Hp → Prop), i < n → Same H H1 → Y i H1 x H' → (∀ H4, Same H' H4 → R (f i) H4) →
      g x (wipe σ vs) H' fun σ2 H2 => WP (wipe σ2 vs = wipe σ vs) (t σ2 H2 fun b H3 => IfP b (te σ2 H3 R) (R0 H3)))
    (q : ∀ p H2, H p = none → Same H H2 → H2 p = some (.lst ((List.range n).map f)) → Q (.ref p) H2) : LcP J g t te vs σ Q H := by
  refine lcFil w hn (fun _ => true) f hG hY (fun i x H1 H' R R0 hi h1 y hr _ => hs i x H1 H' R R0 hi h1 y (hr rfl)) ?_
  rw [List.filter_eq_self.mpr (fun _ _ => rfl)]
  exact q
theorem sameFn {f : Nat → V} : ∀ i H x H', YFn f i H x H' → Same H H' := fun _ _ _ _ y => y.1 ▸ Same.refl _
theorem sameAt {xs : List V} : ∀ i H x H', YAt xs i H x H' → Same H H' := fun _ _ _ _ y => y.1 ▸ Same.refl _
/-- reversed ranges -/
noncomputable def RrP (a b : Int) (H : Hp) (R : It → Hp → Prop) : Prop := -(2 ^ 62) ≤ a ∧ a < 2 ^ 62 ∧ -(2 ^ 62) ≤ b ∧ b < 2 ^ 62 ∧ R (Itc (a + (((b - a).toNat : Nat) : Int) - 1) (-1) (b - a).toNat) H
noncomputable def Rg1P (x : V) (H : Hp) (R : Int → Int → Hp → Prop) : Prop := ∃ j, x = .int j ∧ R 0 j H
theorem rrv {tr : L2.St → Hp → (Int → Int → Hp → Prop) → Prop} {R : It → Hp → Prop} (q : tr σ H fun a b H1 => RrP a b H1 R) : iRevR tr σ H R := q
noncomputable instance {tr : L2.St → Hp → (Int → Int → Hp → Prop) → Prop} {R : It → Hp → Prop} : Gx.St (iRevR tr σ H R) (tr σ H fun a b H1 => RrP a b H1 R) := ⟨fun q => rrv q⟩
theorem rr {a b : Int} {R : It → Hp → Prop} (h : -(2 ^ 62) ≤ a ∧ a < 2 ^ 62 ∧ -(2 ^ 62) ≤ b ∧ b < 2 ^ 62) (q : R (Itc (a + (((b - a).toNat : Nat) : Int) - 1) (-1) (b - a).toNat) H) : RrP a b H R := ⟨h.1, h.2.1, h.2.2.1, h.2.2.2, q⟩
theorem rg1 {R : Int → Int → Hp → Prop} (q : ta σ H fun x H1 => Rg1P x H1 R) : tRg1 ta σ H R := q
noncomputable instance {R : Int → Int → Hp → Prop} : Gx.St (tRg1 ta σ H R) (ta σ H fun x H1 => Rg1P x H1 R) := ⟨fun q => rg1 q⟩
theorem rg1p {R : Int → Int → Hp → Prop} (q : R 0 j H) : Rg1P (.int j) H R := ⟨j, rfl, q⟩
noncomputable instance {R : Int → Int → Hp → Prop} : Gx.St (Rg1P (.int j) H R) (R 0 j H) := ⟨fun q => rg1p q⟩
/-- isinstance with a built-in class -/
theorem isi {n : String} {tv : Value} (ty : TyX K H x tv) (q : Q (.bl b) H) (e : PySem.W.kitOne K tv (.type n) = some b) : rIsi K [x, .ty n] H Q := ⟨x, .ty n, tv, .type n, b, rfl, .ty n, ty, e, q⟩
theorem isiS {n : String} {z : Str} (q : Q (.bl b) H) (e : kitB "str" n = some b) : rIsi K [.str z, .ty n] H Q := isi (.base (.str z)) q (kit_ty e)
theorem isiB {n : String} {k : Bool} (q : Q (.bl b) H) (e : kitB "bool" n = some b) : rIsi K [.bl k, .ty n] H Q := isi (.base (.bl k)) q (kit_ty e)
noncomputable def rLtS : R2 := fun x y H Q => ∃ i j, x = .str i ∧ y = .str j ∧ Q (.bl (decide (i.cps.toList < j.cps.toList))) H
theorem ltS {a b : Str} (q : Q (.bl (decide (a.cps.toList < b.cps.toList))) H) : rLtS (.str a) (.str b) H Q := ⟨a, b, rfl, rfl, q⟩
noncomputable instance {a b : Str} : Gx.St (rLtS (.str a) (.str b) H Q) (Q (.bl (decide (a.cps.toList < b.cps.toList))) H) := ⟨fun q => ltS q⟩
theorem eqB {p q' : Bool} : decide (V.bl p = V.bl q') = decide (p = q') := by simp
theorem eqvB {a b : Bool} (q : Q (.bl (decide (a = b))) H) : rEq (.bl a) (.bl b) H Q := eqv (by rw [eqB]; exact q)
noncomputable instance {a b : Bool} : Gx.St (rEq (.bl a) (.bl b) H Q) (Q (.bl (decide (a = b))) H) := ⟨fun q => eqvB q⟩
noncomputable def rMin2 : List V → Hp → VK → Prop := fun xs H Q => ∃ i j, xs = [.int i, .int j] ∧ Q (.int (if j < i then j else i)) H
noncomputable def rMax2 : List V → Hp → VK → Prop := fun xs H Q => ∃ i j, xs = [.int i, .int j] ∧ Q (.int (if j > i then j else i)) H
theorem min2 (q : Q (.int (if j < i then j else i)) H) : rMin2 [.int i, .int j] H Q := ⟨i, j, rfl, q⟩
theorem max2 (q : Q (.int (if j > i then j else i)) H) : rMax2 [.int i, .int j] H Q := ⟨i, j, rfl, q⟩
theorem notin_ints {z : Int} : ∀ xs : List Int, (∀ y ∈ xs, y ≠ z) → inV (.int z) (xs.map V.int) = false
  | [], _ => rfl
  | y :: xs, h => by
    have ih := notin_ints xs fun u hu => h u (List.mem_cons_of_mem _ hu)
    unfold inV at *
    rw [List.map_cons, List.any_cons, ih, Bool.or_false]
    show (y == z) = false
    exact beq_eq_false_iff_ne.mpr (h y List.mem_cons_self)
theorem inT {p : Addr} {xs : List V} {neg : Bool} (h : SqT K H p xs) (f : xs.all flatV = true) (q : Q (.bl (if neg then !inV (.int i) xs else inV (.int i) xs)) H) : rIn K neg (.int i) (.ref p) H Q := ⟨p, xs, rfl, .inr h, rfl, f, q⟩
/-- == of lists of ints -/
theorem eqvAll_int : ∀ xs ys : List Int, PyData.eqvAll (xs.map .int) (ys.map .int) = decide (xs = ys)
  | [], [] => by simp [PyData.eqvAll]
  | [], _ :: _ => by simp [PyData.eqvAll]
  | _ :: _, [] => by simp [PyData.eqvAll]
  | x :: xs, y :: ys => by
    simp only [List.map_cons, PyData.eqvAll, PyData.eqv, eqvAll_int xs ys]
    by_cases h : x = y
    · subst h; simp
    · simp [h]
theorem canLay_ints : ∀ xs : List Int, PyData.canLayAll0 (xs.map .int) = true
  | [] => rfl
  | _ :: xs => by simp [PyData.canLayAll0, PyData.canLay0, canLay_ints xs]
theorem depth_ints : ∀ xs : List Int, PyData.depthAll (xs.map .int) = 0
  | [] => rfl
  | _ :: xs => by simp [PyData.depthAll, PyData.depth, depth_ints xs]
theorem dpAll_int : ∀ xs : List Int, DpAll K H (xs.map V.int) (xs.map PyData.int)
  | [] => .nil
  | x :: xs => .cons (.int x) (dpAll_int xs)
noncomputable def rList (K : PySem.W.Frag) : List V → Hp → VK → Prop := fun xs H Q => ∃ p ys, xs = [.ref p] ∧ (SqL K H p ys ∨ SqT K H p ys) ∧ ∀ l, H l = none → Q (.ref l) (upd H l (.lst ys))
theorem listL {p : Addr} {xs : List V} (h : SqL K H p xs) (q : ∀ l, H l = none → Q (.ref l) (upd H l (.lst xs))) : rList K [.ref p] H Q := ⟨p, xs, rfl, .inl h, q⟩
noncomputable def rDivmod : List V → Hp → VK → Prop := fun xs H Q => ∃ i j, xs = [.int i, .int j] ∧ CDiv i j ∧ ∀ p, H p = none → Q (.ref p) (upd H p (.tup [.int (i / j), .int (i % j)]))
theorem dvm (c : CDiv i j) (q : ∀ p, H p = none → Q (.ref p) (upd H p (.tup [.int (i / j), .int (i % j)]))) : rDivmod [.int i, .int j] H Q := ⟨i, j, rfl, c, q⟩
theorem cat {l b : Addr} {xs zs : List V} (h1 : H l = some (.lst xs)) (h2 : H b = some (.lst zs)) (hz : xs.length + zs.length ≤ sizeLine) (q : ∀ p, H p = none → Q (.ref p) (upd H p (.lst (xs ++ zs)))) : rCat (.ref l) (.ref b) H Q := ⟨l, b, xs, zs, rfl, rfl, h1, h2, hz, q⟩
noncomputable def TwP (K : PySem.W.Frag) (x : V) (H : Hp) (R : It → Hp → Prop) : Prop := ∃ a, x = .ref a ∧ (∃ xs, SqT K H a xs) ∧ R (Itt K a) H
theorem twk {R : It → Hp → Prop} (q : te σ H fun x H1 => TwP K x H1 R) : iTup K te σ H R := q
noncomputable instance {R : It → Hp → Prop} : Gx.St (iTup K te σ H R) (te σ H fun x H1 => TwP K x H1 R) := ⟨fun q => twk q⟩
/-- a list of tuples of ints -/
noncomputable def TL (H : Hp) (l : Addr) (n : Nat) (f : Nat → List Int) : Prop := ∃ ps : List Addr, H l = some (.lst (ps.map V.ref)) ∧ ps.length = n ∧ ∀ j a, ps[j]? = some a → H a = some (.tup ((f j).map V.int))
theorem TL.keep {H' : Hp} {l : Addr} {n : Nat} {f : Nat → List Int} (t : TL H l n f) (s : Same H H') : TL H' l n f := by
  obtain ⟨ps, h1, h2, h3⟩ := t
  exact ⟨ps, s _ _ h1, h2, fun j a e => s _ _ (h3 j a e)⟩
theorem TL.nil {l : Addr} {f : Nat → List Int} (h : H l = some (.lst [])) : TL H l 0 f := ⟨[], h, rfl, fun j a e => by cases e⟩
theorem TL.snoc {l t : Addr} {n : Nat} {f : Nat → List Int} (x : TL H l n f) (h : H t = some (.tup ((f n).map V.int))) : ∃ xs, H l = some (.lst xs) ∧ xs.length = n ∧ TL (upd H l (.lst (xs ++ [.ref t]))) l (n + 1) f := by
  obtain ⟨ps, h1, h2, h3⟩ := x
  have ne : ∀ {a : Addr} {ys : List V}, H a = some (.tup ys) → a ≠ l := fun e => ne_of e h1 (by intro z; cases z)
  refine ⟨_, h1, by rw [List.length_map]; exact h2, ps ++ [t], by rw [upd_same, List.map_append]; rfl, by rw [List.length_append, h2]; rfl, fun j a e => ?_⟩
  by_cases hj : j < ps.length
  · rw [List.getElem?_append_left hj] at e
    rw [upd_ne (ne (h3 j a e))]; exact h3 j a e
  · rw [List.getElem?_append_right (by omega)] at e
    have hj2 : j - ps.length = 0 := by
      rcases Nat.eq_zero_or_pos (j - ps.length) with z | z
      · exact z
      · rw [List.getElem?_eq_none (by show 1 ≤ _; omega)] at e; cases e
    rw [hj2] at e
    have e2 : t = a := Option.some.inj e
    subst e2
    rw [upd_ne (ne h), show j = n by omega]; exact h
theorem TL.len {l : Addr} {n : Nat} {f : Nat → List Int} (x : TL H l n f) : ∃ xs, H l = some (.lst xs) ∧ xs.length = n := by
  obtain ⟨ps, h1, h2, h3⟩ := x
  exact ⟨_, h1, by rw [List.length_map]; exact h2⟩
theorem TL.get {l : Addr} {n j : Nat} {f : Nat → List Int} (x : TL H l n f) (hj : j < n) : ∃ xs a, H l = some (.lst xs) ∧ atI xs (j : Int) = some (.ref a) ∧ H a = some (.tup ((f j).map V.int)) := by
  obtain ⟨ps, h1, h2, h3⟩ := x
  have hj2 : j < ps.length := by omega
  refine ⟨_, ps[j], h1, atI_nat ?_, h3 j _ (List.getElem?_eq_getElem hj2)⟩
  rw [List.getElem?_map, List.getElem?_eq_getElem hj2]; rfl
theorem dp_tups : ∀ (ps : List Addr) (g : Nat → List Int), (∀ j a, ps[j]? = some a → H a = some (.tup ((g j).map V.int))) → DpAll K H (ps.map V.ref) ((List.range ps.length).map fun j => PyData.tuple ((g j).map PyData.int))
  | [], _, _ => .nil
  | a :: ps, g, h => by
    rw [List.length_cons, List.range_succ_eq_map, List.map_cons, List.map_cons, List.map_map]
    exact .cons (.tup (SqT.of (h 0 a rfl)) (dpAll_int _)) (dp_tups ps (fun j => g (j + 1)) fun j b e => h (j + 1) b (by simpa using e))
theorem lay_tups : ∀ rows : List (List Int), PyData.canLayAll0 (rows.map fun r => PyData.tuple (r.map PyData.int)) = true ∧ PyData.depthAll (rows.map fun r => PyData.tuple (r.map PyData.int)) ≤ 1 ∧ PyData.eqvAll (rows.map fun r => PyData.tuple (r.map PyData.int)) (rows.map fun r => PyData.tuple (r.map PyData.int)) = true
  | [] => ⟨rfl, by simp [PyData.depthAll], by simp [PyData.eqvAll]⟩
  | r :: rows => by
    obtain ⟨h1, h2, h3⟩ := lay_tups rows
    refine ⟨by simp [PyData.canLayAll0, PyData.canLay0, canLay_ints, h1], ?_, ?_⟩
    · simp only [List.map_cons, PyData.depthAll, PyData.depth, depth_ints]; omega
    · simp [PyData.eqvAll, PyData.eqv, eqvAll_int, h3]
theorem TL.dp {l : Addr} {n : Nat} {f : Nat → List Int} (x : TL H l n f) : Dp K H (.ref l) (.list (((List.range n).map f).map fun r => PyData.tuple (r.map PyData.int))) := by
  obtain ⟨ps, h1, h2, h3⟩ := x
  have := dp_tups (K := K) ps f h3
  rw [h2] at this
  rw [List.map_map]
  exact .lst (SqL.of h1) this
theorem shaped_tups (rows : List (List Int)) : SeqAt.shaped (.list (rows.map fun r => PyData.tuple (r.map PyData.int))) = true := by
  obtain ⟨h1, h2, _⟩ := lay_tups rows
  unfold SeqAt.shaped
  simp only [PyData.canLay0, PyData.depth, h1, Bool.true_and]
  exact decide_eq_true (by omega)
/-- a comprehension whose turns make a tuple each -/
theorem lcTup {J : It} {n : Nat} {G : Hp → Prop} {Y : Nat → Hp → V → Hp → Prop} {g : TG} {vs : List Nat} (w : Walk J n G Y) (hn : n < 16777216) (f : Nat → List Int) (hG : ∀ H', Same H H' → G H') (hY : ∀ i H x H', Y i H x H' → Same H H')
    (hs : ∀ i x H1 H' (R : V → Hp → Prop) (R0 : Hp → Prop), i < n → Same H H1 → Y i H1 x H' → (∀ p H4, Same H' H4 → H4 p = some (.tup ((f i).map V.int)) → R (.ref p) H4) →
      g x (wipe σ vs) H' fun σ2 H2 => WP (wipe σ2 vs = wipe σ vs) (t σ2 H2 fun b H3 => IfP b (te σ2 H3 R) (R0 H3)))
    (q : ∀ p H2, H p = none → Same H H2 → TL H2 p n f → Q (.ref p) H2) : LcP J g t te vs σ Q H := fun p hp => by
  refine lc_it w (fun i H' => Same H H' ∧ TL H' p i f) ⟨same_new hp, TL.nil upd_same⟩ (fun i H' _ h => hG H' h.1) (fun i x H1 H' hi h y => ?_) (fun H' h => q p H' hp h.1 h.2)
  obtain ⟨h1, h2⟩ := h
  have s1 := hY i H1 x H' y
  refine hs i x H1 H' _ _ hi h1 y (fun a H4 s4 ha => ?_)
  obtain ⟨xs, e1, e2, e3⟩ := (h2.keep (s1.trans s4)).snoc ha
  exact ⟨xs, e1, by rw [sizeLine_eq]; omega, same_up hp (h1.trans (s1.trans s4)), e3⟩
/-- a list of lists of ints -/
noncomputable def LL (H : Hp) (l : Addr) (n : Nat) (f : Nat → List Int) : Prop := ∃ ps : List Addr, H l = some (.lst (ps.map V.ref)) ∧ ps.length = n ∧ ∀ j a, ps[j]? = some a → H a = some (.lst ((f j).map V.int))
theorem LL.keep {H' : Hp} {l : Addr} {n : Nat} {f : Nat → List Int} (t : LL H l n f) (s : Same H H') : LL H' l n f := by
  obtain ⟨ps, h1, h2, h3⟩ := t
  exact ⟨ps, s _ _ h1, h2, fun j a e => s _ _ (h3 j a e)⟩
theorem LL.nil {l : Addr} {f : Nat → List Int} (h : H l = some (.lst [])) : LL H l 0 f := ⟨[], h, rfl, fun j a e => by cases e⟩
theorem LL.snoc {l t : Addr} {n : Nat} {f : Nat → List Int} (x : LL H l n f) (h : H t = some (.lst ((f n).map V.int))) (ne : t ≠ l) : ∃ xs, H l = some (.lst xs) ∧ xs.length = n ∧ LL (upd H l (.lst (xs ++ [.ref t]))) l (n + 1) f := by
  obtain ⟨ps, h1, h2, h3⟩ := x
  have nl : ∀ {j : Nat} {a : Addr}, ps[j]? = some a → a ≠ l := fun {j a} e z => by
    have e2 := h3 j a e
    rw [z, h1] at e2
    have e3 : ps.map V.ref = (f j).map V.int := by injection e2 with e2; injection e2
    cases hp : ps with
    | nil => rw [hp] at e; cases e
    | cons b r =>
      rw [hp] at e3
      cases hf : f j with
      | nil => rw [hf] at e3; cases e3
      | cons z zs => rw [hf] at e3; injection e3 with e4; cases e4
  refine ⟨_, h1, by rw [List.length_map]; exact h2, ps ++ [t], by rw [upd_same, List.map_append]; rfl, by rw [List.length_append, h2]; rfl, fun j a e => ?_⟩
  by_cases hj : j < ps.length
  · rw [List.getElem?_append_left hj] at e
    rw [upd_ne (nl e)]; exact h3 j a e
  · rw [List.getElem?_append_right (by omega)] at e
    have hj2 : j - ps.length = 0 := by
      rcases Nat.eq_zero_or_pos (j - ps.length) with z | z
      · exact z
      · rw [List.getElem?_eq_none (by show 1 ≤ _; omega)] at e; cases e
    rw [hj2] at e
    have e2 : t = a := Option.some.inj e
    subst e2
    rw [upd_ne ne, show j = n by omega]; exact h
theorem LL.len {l : Addr} {n : Nat} {f : Nat → List Int} (x : LL H l n f) : ∃ xs, H l = some (.lst xs) ∧ xs.length = n := by
  obtain ⟨ps, h1, h2, h3⟩ := x
  exact ⟨_, h1, by rw [List.length_map]; exact h2⟩
theorem LL.all {l : Addr} {n : Nat} {f : Nat → List Int} (x : LL H l n f) : ∃ xs, H l = some (.lst xs) ∧ xs.length = n ∧ ∀ j v, xs[j]? = some v → ∃ a, v = .ref a ∧ H a = some (.lst ((f j).map V.int)) := by
  obtain ⟨ps, h1, h2, h3⟩ := x
  refine ⟨_, h1, by rw [List.length_map]; exact h2, fun j v e => ?_⟩
  rw [List.getElem?_map] at e
  cases ea : ps[j]? with
  | none => rw [ea] at e; cases e
  | some a => rw [ea] at e; exact ⟨a, (Option.some.inj e).symm, h3 j a ea⟩
theorem LL.get {l : Addr} {n j : Nat} {f : Nat → List Int} (x : LL H l n f) (hj : j < n) : ∃ xs a, H l = some (.lst xs) ∧ atI xs (j : Int) = some (.ref a) ∧ H a = some (.lst ((f j).map V.int)) := by
  obtain ⟨ps, h1, h2, h3⟩ := x
  have hj2 : j < ps.length := by omega
  refine ⟨_, ps[j], h1, atI_nat ?_, h3 j _ (List.getElem?_eq_getElem hj2)⟩
  rw [List.getElem?_map, List.getElem?_eq_getElem hj2]; rfl
theorem LL.congr {l : Addr} {n : Nat} {f g : Nat → List Int} (x : LL H l n f) (h : ∀ j, j < n → f j = g j) : LL H l n g := by
  obtain ⟨ps, h1, h2, h3⟩ := x
  refine ⟨ps, h1, h2, fun j a e => ?_⟩
  have hj : j < ps.length := by
    rcases Nat.lt_or_ge j ps.length with z | z
    · exact z
    · rw [List.getElem?_eq_none z] at e; cases e
  rw [← h j (by omega)]; exact h3 j a e
theorem dp_lists : ∀ (ps : List Addr) (g : Nat → List Int), (∀ j a, ps[j]? = some a → H a = some (.lst ((g j).map V.int))) → DpAll K H (ps.map V.ref) ((List.range ps.length).map fun j => PyData.list ((g j).map PyData.int))
  | [], _, _ => .nil
  | a :: ps, g, h => by
    rw [List.length_cons, List.range_succ_eq_map, List.map_cons, List.map_cons, List.map_map]
    exact .cons (.lst (SqL.of (h 0 a rfl)) (dpAll_int _)) (dp_lists ps (fun j => g (j + 1)) fun j b e => h (j + 1) b (by simpa using e))
theorem lay_lists : ∀ rows : List (List Int), PyData.canLayAll0 (rows.map fun r => PyData.list (r.map PyData.int)) = true ∧ PyData.depthAll (rows.map fun r => PyData.list (r.map PyData.int)) ≤ 1 ∧ PyData.eqvAll (rows.map fun r => PyData.list (r.map PyData.int)) (rows.map fun r => PyData.list (r.map PyData.int)) = true
  | [] => ⟨rfl, by simp [PyData.depthAll], by simp [PyData.eqvAll]⟩
  | r :: rows => by
    obtain ⟨h1, h2, h3⟩ := lay_lists rows
    refine ⟨by simp [PyData.canLayAll0, PyData.canLay0, canLay_ints, h1], ?_, ?_⟩
    · simp only [List.map_cons, PyData.depthAll, PyData.depth, depth_ints]; omega
    · simp [PyData.eqvAll, PyData.eqv, eqvAll_int, h3]
theorem LL.dp {l : Addr} {n : Nat} {f : Nat → List Int} (x : LL H l n f) : Dp K H (.ref l) (.list (((List.range n).map f).map fun r => PyData.list (r.map PyData.int))) := by
  obtain ⟨ps, h1, h2, h3⟩ := x
  have := dp_lists (K := K) ps f h3
  rw [h2] at this
  rw [List.map_map]
  exact .lst (SqL.of h1) this
theorem shaped_lists (rows : List (List Int)) : SeqAt.shaped (.list (rows.map fun r => PyData.list (r.map PyData.int))) = true := by
  obtain ⟨h1, h2, _⟩ := lay_lists rows
  unfold SeqAt.shaped
  simp only [PyData.canLay0, PyData.depth, h1, Bool.true_and]
  exact decide_eq_true (by omega)
/-- a comprehension whose turns make a list each -/
theorem lcLst {J : It} {n : Nat} {G : Hp → Prop} {Y : Nat → Hp → V → Hp → Prop} {g : TG} {vs : List Nat} (w : Walk J n G Y) (hn : n < 16777216) (f : Nat → List Int) (hG : ∀ H', Same H H' → G H') (hY : ∀ i H x H', Y i H x H' → Same H H')
    (hs : ∀ i x H1 H' (R : V → Hp → Prop) (R0 : Hp → Prop), i < n → Same H H1 → Y i H1 x H' → (∀ p H4, H' p = none → Same H' H4 → H4 p = some (.lst ((f i).map V.int)) → R (.ref p) H4) →
      g x (wipe σ vs) H' fun σ2 H2 => WP (wipe σ2 vs = wipe σ vs) (t σ2 H2 fun b H3 => IfP b (te σ2 H3 R) (R0 H3)))
    (q : ∀ p H2, H p = none → Same H H2 → LL H2 p n f → Q (.ref p) H2) : LcP J g t te vs σ Q H := fun p hp => by
  refine lc_it w (fun i H' => Same H H' ∧ LL H' p i f) ⟨same_new hp, LL.nil upd_same⟩ (fun i H' _ h => hG H' h.1) (fun i x H1 H' hi h y => ?_) (fun H' h => q p H' hp h.1 h.2)
  obtain ⟨h1, h2⟩ := h
  have s1 := hY i H1 x H' y
  refine hs i x H1 H' _ _ hi h1 y (fun a H4 hf s4 ha => ?_)
  obtain ⟨ys, hy, _⟩ := h2.len
  obtain ⟨xs, e1, e2, e3⟩ := (h2.keep (s1.trans s4)).snoc ha (ne_of_none (s1 _ _ hy) hf).symm
  exact ⟨xs, e1, by rw [sizeLine_eq]; omega, same_up hp (h1.trans (s1.trans s4)), e3⟩
/-- a comprehension over two ranges -/
noncomputable def Lc2In (J1 : It) (g1 : TG) (tt1 : TT) (te : TE) (vs1 : List Nat) (D : Addr) (Nx : Hp → Prop) (σ2 : L2.St) (H4 : Hp) : Prop := ∃ W1 : Nat → Nat → Hp → Prop, (∃ m, W1 0 m H4) ∧ ∀ j k H, W1 j k H →
      (J1.stop j H ∧ Nx H) ∨ (J1.go j H ∧ ∃ Nx1 : Hp → Prop, (∀ H', Nx1 H' → ∃ k', k' < k ∧ W1 (j + 1) k' H') ∧ ∀ x H', J1.yld j H x H' → g1 x (wipe σ2 vs1) H' fun σ3 H5 => wipe σ3 vs1 = wipe σ2 vs1 ∧ tt1 σ3 H5 fun b H6 =>
        if b = true then te σ3 H6 fun y H7 => ∃ acc, H7 D = some (.lst acc) ∧ acc.length < sizeLine ∧ Nx1 (upd H7 D (.lst (acc ++ [y]))) else Nx1 H6)
noncomputable def Lc2P (J : It) (g : TG) (tt : TT) (wi1 : TI) (g1 : TG) (tt1 : TT) (te : TE) (vs vs1 : List Nat) (σ : L2.St) (Q : VK) (H1 : Hp) : Prop := ∀ D, H1 D = none → ∃ W : Nat → Nat → Hp → Prop, (∃ m, W 0 m (upd H1 D (.lst []))) ∧ ∀ i m H, W i m H →
  (J.stop i H ∧ Q (.ref D) H) ∨ (J.go i H ∧ ∃ Nx : Hp → Prop, (∀ H', Nx H' → ∃ m', m' < m ∧ W (i + 1) m' H') ∧ ∀ x H', J.yld i H x H' → g x (wipe σ vs) H' fun σ2 H2 => wipe σ2 vs = wipe σ vs ∧ tt σ2 H2 fun b H3 =>
    if b = true then wi1 σ2 H3 fun J1 H4 => Lc2In J1 g1 tt1 te vs1 D Nx σ2 H4 else Nx H3)
theorem lc2 {wi wi1 : TI} {g g1 : TG} {tt tt1 : TT} {vs vs1 : List Nat} (q : wi σ H fun J H1 => Lc2P J g tt wi1 g1 tt1 te vs vs1 σ Q H1) : tLc2 wi g tt wi1 g1 tt1 te vs vs1 σ H Q := q
noncomputable instance {wi wi1 : TI} {g g1 : TG} {tt tt1 : TT} {vs vs1 : List Nat} : Gx.St (tLc2 wi g tt wi1 g1 tt1 te vs vs1 σ H Q) (wi σ H fun J H1 => Lc2P J g tt wi1 g1 tt1 te vs vs1 σ Q H1) := ⟨fun q => lc2 q⟩
/-- what is made after i whole turns of the outer walk -/
noncomputable def made (m : Nat) (f : Nat → Nat → V) (i : Nat) : List V := (List.range i).flatMap fun i => (List.range m).map (f i)
theorem made_len (m : Nat) (f : Nat → Nat → V) : ∀ i, (made m f i).length = i * m
  | 0 => by simp [made]
  | i + 1 => by
    have := made_len m f i
    unfold made at *
    rw [List.range_succ, List.flatMap_append, List.length_append, this, Nat.succ_mul]; simp
theorem made_succ (m : Nat) (f : Nat → Nat → V) (i : Nat) : made m f (i + 1) = made m f i ++ (List.range m).map (f i) := by
  unfold made
  rw [List.range_succ, List.flatMap_append]; simp
theorem lc2O {J : It} {n : Nat} {wi1 : TI} {g g1 : TG} {tt tt1 : TT} {vs vs1 : List Nat} {G : Hp → Prop} {Y : Nat → Hp → V → Hp → Prop} (w : Walk J n G Y) (Pv : Addr → Nat → Hp → Prop) (h0 : ∀ D, H D = none → Pv D 0 (upd H D (.lst []))) (hG : ∀ D i H', i ≤ n → Pv D i H' → G H')
    (hs : ∀ D i x H1 H', i < n → Pv D i H1 → Y i H1 x H' → g x (wipe σ vs) H' fun σ2 H2 => WP (wipe σ2 vs = wipe σ vs) (tt σ2 H2 fun b H3 => IfP b (wi1 σ2 H3 fun J1 H4 => Lc2In J1 g1 tt1 te vs1 D (Pv D (i + 1)) σ2 H4) (Pv D (i + 1) H3)))
    (hd : ∀ D H', H D = none → Pv D n H' → Q (.ref D) H') : Lc2P J g tt wi1 g1 tt1 te vs vs1 σ Q H := fun D hD => by
  refine ⟨fun i m H => m = n - i ∧ i ≤ n ∧ Pv D i H, ⟨n, by simp, Nat.zero_le _, h0 D hD⟩, ?_⟩
  rintro i m H' ⟨rfl, hi, p⟩
  have q := hG D i H' hi p
  by_cases hlt : i < n
  · refine .inr ⟨w.goes i H' hlt q, Pv D (i + 1), fun H' p' => ⟨n - (i + 1), by omega, rfl, hlt, p'⟩, fun x H2 y => hs D i x H' H2 hlt p (w.yields i H' x H2 hlt q y)⟩
  · have e : i = n := by omega
    subst e
    exact .inl ⟨w.stops H' q, hd D H' hD p⟩
theorem lc2I {J1 : It} {n : Nat} {g1 : TG} {tt1 : TT} {vs1 : List Nat} {D : Addr} {Nx : Hp → Prop} {G : Hp → Prop} {Y : Nat → Hp → V → Hp → Prop} (w : Walk J1 n G Y) (Pv : Nat → Hp → Prop) (h0 : Pv 0 H) (hG : ∀ i H', i ≤ n → Pv i H' → G H')
    (hs : ∀ i x H1 H', i < n → Pv i H1 → Y i H1 x H' → g1 x (wipe σ vs1) H' fun σ3 H5 => WP (wipe σ3 vs1 = wipe σ vs1) (tt1 σ3 H5 fun b H6 => IfP b (te σ3 H6 fun y H7 => ∃ acc, H7 D = some (.lst acc) ∧ acc.length < sizeLine ∧ Pv (i + 1) (upd H7 D (.lst (acc ++ [y])))) (Pv (i + 1) H6)))
    (hd : ∀ H', Pv n H' → Nx H') : Lc2In J1 g1 tt1 te vs1 D Nx σ H := by
  refine ⟨fun i m H => m = n - i ∧ i ≤ n ∧ Pv i H, ⟨n, by simp, Nat.zero_le _, h0⟩, ?_⟩
  rintro i m H' ⟨rfl, hi, p⟩
  have q := hG i H' hi p
  by_cases hlt : i < n
  · refine .inr ⟨w.goes i H' hlt q, Pv (i + 1), fun H' p' => ⟨n - (i + 1), by omega, rfl, hlt, p'⟩, fun x H2 y => hs i x H' H2 hlt p (w.yields i H' x H2 hlt q y)⟩
  · have e : i = n := by omega
    subst e
    exact .inl ⟨w.stops H' q, hd H' p⟩
theorem slL {a : Addr} {xs : List V} {lo hi : Option Int} (h : SqL K H a xs) (q : ∀ p, H p = none → Q (.ref p) (upd H p (.lst (cutV xs lo hi)))) : rSlL K (.ref a) lo hi H Q := ⟨a, xs, rfl, h, q⟩
end
section
variable {X : Cx}
theorem o_addS : OpR X (binaryOp .Add) rCatS := op_add_str
theorem c_min2 (hc : X.calm = true) : CallR X (.builtin "min") rMin2 := call_min2 hc
theorem c_max2 (hc : X.calm = true) : CallR X (.builtin "max") rMax2 := call_max2 hc
theorem c_divmod : CallR X (.builtin "divmod") rDivmod := call_divmod
theorem c_listK {K : PySem.W.Frag} (h : X.K = K) : CallR X (.type "list") (rList K) := by subst h; exact call_list_of
theorem c_isiK {K : PySem.W.Frag} (h : X.K = K) : CallR X (.builtin "isinstance") (rIsi K) := by subst h; exact call_isi
theorem c_lenK {K : PySem.W.Frag} (h : X.K = K) : CallR X (.builtin "len") (rLen K) := by subst h; exact call_len
theorem ix_seqK {K : PySem.W.Frag} (h : X.K = K) : IxR X (rIx K) := by subst h; exact ix_seq
theorem sl_listK {K : PySem.W.Frag} (h : X.K = K) : SlR X (rSlL K) := by subst h; exact sl_list
theorem pe_fldK {K : PySem.W.Frag} {e : Expr} {ta : TE} {f : Str} {pos : Pos} (h : X.K = K) (he : PE X e ta) (hb : attributeBase e f X.env (eval e X.env) = eval e X.env) : PE X (.Attribute e f pos) (tFld K ta f) := by subst h; exact pe_fld he hb
theorem c_int : CallR X (.type "int") rInt1 := call_int1
theorem c_strI : CallR X (.type "str") rStrI := call_str_int
end
end Gx
local macro_rules | `(tactic| walk_at "few") => `(tactic| (refine Nat.lt_of_le_of_lt (m := 30) ?_ (by decide); repeat (first | exact Nat.zero_le _ | refine Gx.few ?_)))
local macro_rules | `(tactic| walk_at "side") => `(tactic| ((try dsimp only [L2.CMul, L2.CDiv, L2.CPow, L2.CDivN]); first | omega | decide | assumption))
local macro_rules | `(tactic| walk_at "go1") => `(tactic| (first
  | with_reducible refine Gx.Sv.mp ?_
  | ((with_reducible refine' Gx.var ?h0 ?_); (case h0 => rfl))
  | ((with_reducible refine' Gx.wp ?h0 ?_); (case h0 => rfl))
  | ((with_reducible refine' Gx.aug ?h0 ?_); (case h0 => rfl))))
local macro_rules | `(tactic| walk_at "go") => `(tactic| repeat walk_at "go1")

/-! An own exception whose __init__ begins with super().__init__(e), its base chain ending at ValueError: the promise of that __init__. -/
namespace Sx
open PySem PySem.W PySem.Calls PyProof.Rows L2

/-- what the written part says of the class at C and of its __init__ at f -/
structure SupK (P : Program) (K : Frag) (mg : Str → Option Value) (C f : Addr) (fd : FuncData) (qual : Str) (st : Stmt) : Prop where
  ex : ∃ (oc : Value) (od : Option Addr) (kV doc pm ct : Value) (an : Option Addr) (cda cc : Addr) (osl : Array (Option Value)),
    fd = ksFn "__init__" qual (defArgs st) (defBody st) (defScope st) .none kV doc pm an (.ref cda) ct cc ∧ K.lookup f = some ⟨oc, od, .func fd, osl⟩ ∧ codeIn K (.ref cda) qual = true ∧
    (∃ (ccl : Value) (cdd : Option Addr) (vs : Array Value) (ccs : Array (Option Value)) (file : Str) (tf : Tok), K.lookup cda = some ⟨ccl, cdd, .fields vs, ccs⟩ ∧ vs[2]? = some (.str file tf) ∧ ((P.main.file : Str) == file) = true) ∧
    (∃ (cl : Value) (cld : Option Addr) (csl : Array (Option Value)), K.lookup cc = some ⟨cl, cld, .cell (some (.ref C)), csl⟩)
  top : (P.main.scope.names.lookup ("super" : Str)).isSome = false
  ns : mg "super" = none
  sub : mroIn K C (.ref C) = some true
  opq : nsIn K cStatics "thirdparty.any" = some none
  sup : ks_superIn K C C "__init__" = some (some (.builtin "ValueError.__init__"))
  isV : subIn K (.ref C) (.type "ValueError") = some true

/-- the scope of such an __init__ -/
structure SupScope (N P : List Str) (sc : Scope) : Prop where
  kind : sc.kind = .function
  co : sc.isCoroutine = false
  gen : sc.isGenerator = false
  nd : N.Nodup
  pre : N.take P.length = P
  par : ∀ x ∈ P, sc.names.lookup x = some .local
  nocell : ∀ y ∈ sc.names, y.2 ≠ .cell
  free : ∀ y ∈ sc.names, y.2 = .free → y.1 = "__class__"
  ks : sc.names.lookup ("super" : Str) = some .globalImplicit
  kc : sc.names.lookup ("__class__" : Str) = some .free

noncomputable def cxS (P : Program) (w : World) (K : Frag) (mg : Str → Option Value) (base : Heap) (N : List Str) (qual : Str) (scope : Scope) (f cda cc : Addr) (A : Around) (outer : List Env) (s : Shared) (H : Hp) : Cx where
  prog := P
  w := w
  K := K
  mg := mg
  base := base
  A := A.deeper (ksEnv qual scope s.heap.objs.size f (.ref cda) cc)
  N := N
  s_0 := s
  H_0 := H
  env := ksEnv qual scope s.heap.objs.size f (.ref cda) cc
  outer := outer
  stack := ksEnv qual scope s.heap.objs.size f (.ref cda) cc :: outer
  ex := []
  calm := true
  fn := fun _ => false
  pn := []
  xe := fun _ _ => False

theorem start_at {N : List Str} {vs : List V} {i : Nat} {v : V} (h : (L2.start N vs)[i]? = some (some v)) : vs[i]? = some v := by
  rcases Nat.lt_or_ge i vs.length with q | q
  · simpa [L2.start, List.getElem?_append, q] using h
  · simp [L2.start, List.getElem?_append, Nat.not_lt.mpr q, List.getElem?_replicate] at h
theorem inv_sup {P : Program} {w : World} {K : Frag} {mg : Str → Option Value} {base : Heap} {N ps : List Str} {qual : Str} {scope : Scope} {f cda cc C : Addr} {A : Around} {outer : List Env} {s : Shared} {H : Hp} {us : List Value} {vs : List V} {cl : Value} {cld : Option Addr} {csl : Array (Option Value)} {h1 : Heap} {t : Nat}
    (S : SupScope N ps scope) (hd : A.handled = none) (e0 : Env0 P w K mg base A outer s H) (hl : vs.length = ps.length) (r : Vals vs us) (hcc : K.lookup cc = some ⟨cl, cld, .cell (some (.ref C)), csl⟩)
    (hn : h1.Ns s.heap.objs.size (fun x => (ps.zip us).reverse.lookup x)) (hk : ∀ b o, s.heap.get? b = some o → h1.get? b = some o) :
    Inv (cxS P w K mg base N qual scope f cda cc A outer s H) [] (L2.start N vs) H { s with heap := h1, toks := t } := by
  have hpl : ps.length ≤ N.length := by have := congrArg List.length S.pre; rw [List.length_take] at this; omega
  have noA : ∀ b : Addr, b ∉ (cxS P w K mg base N qual scope f cda cc A outer s H).ex := fun b z => absurd (show b ∈ ([] : List Addr) from z) (by simp)
  have bcc : base.get? cc = some ⟨cl, cld, .cell (some (.ref C)), csl⟩ := e0.mod.kin _ _ hcc
  have one : ∀ {x : Str} {c : Addr}, ([(("__class__" : Str), cc)] : List (Str × Addr)).lookup x = some c → x = "__class__" ∧ c = cc := fun {x c} e => by
    by_cases hx : x = ("__class__" : Str)
    · subst hx
      simp [List.lookup] at e
      exact ⟨rfl, e.symm⟩
    · have hb : (x == ("__class__" : Str)) = false := beq_eq_false_iff_ne.mpr hx
      simp [List.lookup, hb] at e
  refine ⟨⟨e0.mod, S.kind, rfl, rfl, Nat.le_refl _, fun y z c h1 h2 => ?_, fun y hy => ?_, fun y c h _ => (Bool.noConfusion h), fun _ => hd, Around.frames_deeper e0.frames, .inr ⟨rfl, rfl⟩, fun b z => absurd z (noA b), e0.bs, e0.bsz, fun b _ _ => noA b, fun b z => absurd z (noA b), e0.funs, e0.frf⟩,
    rfl, e0.bare, Un.kept hk, ⟨_, hn, fun i y v h1 h2 h3 => ?_⟩, fun y c h => ⟨some (.ref C), ?_⟩, e0.hok.fresh (Nat.le_refl _), fun y c h => ?_, fun p hp => absurd (show p ∈ ([] : List (Addr × Obj)) from hp) (by simp), e0.hok.kept hk, ?_⟩
  · exact (one h1).1.trans (one h2).1.symm
  · have hy : scope.names.lookup y = some .cell ∨ scope.names.lookup y = some .free := hy
    rcases hy with hy | hy
    · exact absurd rfl (S.nocell _ (PySem.mem_of_lookup hy))
    · have := S.free _ (PySem.mem_of_lookup hy) rfl
      dsimp only at this
      subst this
      exact ⟨cc, rfl⟩
  · have ha := start_at h2
    have hi : i < vs.length := (List.getElem?_eq_some_iff.mp ha).1
    obtain ⟨u, hu, rv⟩ := r.get ha
    have hp : ps[i]? = some y := by
      rw [← S.pre, List.getElem?_take_of_lt (by omega)]; exact h1
    have ndP : ps.Nodup := by rw [← S.pre]; exact S.nd.sublist (List.take_sublist _ _)
    refine ⟨u, rv, .inl ⟨S.par y (List.mem_of_getElem? hp), ?_⟩⟩
    have hul : us.length = ps.length := by rw [← r.length]; exact hl
    show (ps.zip us).reverse.lookup y = some u
    have mem : (y, u) ∈ (ps.zip us).reverse := List.mem_reverse.mpr (List.mem_of_getElem? (i := i) (by rw [List.getElem?_zip_eq_some]; exact ⟨hp, hu⟩))
    have keys : ∀ v', (y, v') ∈ (ps.zip us).reverse → v' = u := fun v' hm => by
      rw [List.mem_reverse, List.mem_iff_getElem?] at hm
      obtain ⟨j, hj⟩ := hm
      rw [List.getElem?_zip_eq_some] at hj
      have hij : j = i := by
        have hjl : j < ps.length := (List.getElem?_eq_some_iff.mp hj.1).1
        have hil : i < ps.length := (List.getElem?_eq_some_iff.mp hp).1
        exact (List.getElem?_inj hjl ndP).mp (hj.1.trans hp.symm)
      rw [hij, hu] at hj
      exact (Option.some.inj hj.2).symm
    cases hlk : (ps.zip us).reverse.lookup y with
    | none =>
      exfalso
      have := List.lookup_eq_none_iff.mp hlk _ mem
      simp at this
    | some v' => rw [keys v' (PySem.mem_of_lookup hlk)]
  · obtain ⟨rfl, rfl⟩ := one h
    exact ⟨_, hk _ _ (e0.bs _ _ bcc).1, rfl⟩
  · obtain ⟨rfl, rfl⟩ := one h
    exact (e0.bs _ _ bcc).2
  · show (vs.map some ++ List.replicate (N.length - vs.length) none).length = N.length
    rw [List.length_append, List.length_map, List.length_replicate]; omega

/-- the method-wrapper called: the args are laid anew, nothing of it is told -/
theorem sup_call {X : Cx} {pins : List (Addr × Obj)} {σ : L2.St} {H : Hp} {s : Shared} {a u C : Addr} {us : List Value} {Q : Value → Shared → Prop} {A : Around} {E : Value → Shared → Prop} (T : OexC X.K C) (I : Inv X pins σ H s) (e : H a = some (exo a C none)) (hu : s.heap.get? u = some (kxs_mw "ValueError.__init__" a)) (hl : us.length ≤ sizeLine)
    (h : ∀ s', Inv X pins σ H s' → Q .none s') : wpAny (model X.prog X.w) A (call (.ref u) us) Q E s := by
  obtain ⟨nm, q, N, bs, bm, sn, sub, ab, col, dd, k0, k1, k2, k3, k5, hC, hbm⟩ := T.cls
  obtain ⟨t1, ho⟩ := exo_at I.hok e
  have hCh := I.kIn _ _ hC
  obtain ⟨hp, g, d, t, os⟩ := s
  have fin : ∀ h', (∀ b o, b ≠ a → hp.get? b = some o → h'.get? b = some o) → h'.get? a = some (excObj C hp.objs.size none .none) → h'.get? hp.objs.size = some (excTup us) → Q .none ⟨h', g, d, t, os⟩ := fun h' k hx _ => by
    have J := I.write (t' := t) (x := a) (e := a) (o := exo a C none) (by rw [e]; exact True.intro) (.inl rfl) k ⟨_, hx⟩ (exo_ok hx)
    have eu : upd H a (exo a C none) = H := by
      funext b
      by_cases hb : b = a
      · rw [hb, upd_same, e]
      · rw [upd_ne hb]
    rw [eu] at J
    exact h _ J
  refine wpAny_call (codeAny_of_tree ?_)
  show wpAny _ A.in1 (callAny (.ref u) ⟨us, []⟩) _ _ _
  simp only [callAny]
  refine wpAny_bind (wpAny_load hu ?_)
  simp only [kxs_mw, show (Value.type "method-wrapper" == Value.type "method" || Value.type "method-wrapper" == Value.type "builtin_function_or_method" || Value.type "method-wrapper" == Value.type "method-wrapper") = true by decide, if_true]
  refine KFB.if_so (by decide) ?_
  refine wpAny_bind (check_bound_init F.excBase_ValueError.toExcCallFacts hCh ho rfl ?_)
  refine wpAny_bind (wpAny_pure (wpAny_pure ?_))
  refine ⟨plainId_quiet F.excBase_ValueError.init.plain _, codeAny_builtin F.excBase_ValueError.initEntry ?_⟩
  exact exc_init_tree (cls := .ref C) (t0 := t1) (dv := none) (c2 := .none) (c3 := .none) (b4 := .bool false) ho hl fin

/-- super() in a body -/
theorem sup_base {P : Program} {w : World} {K : Frag} {mg : Str → Option Value} {base : Heap} {N : List Str} {qual : Str} {scope : Scope} {f cda cc C a : Addr} {A : Around} {outer : List Env} {s0 s : Shared} {H0 H : Hp} {pins : List (Addr × Obj)} {σ : L2.St} {fd : FuncData} {ar : Arg} {body : List Stmt} {p0 p1 : Pos} {attr : Str} {whole : Sem Value}
    {oc cl ccl : Value} {od cld cdd : Option Addr} {osl csl ccs : Array (Option Value)} {vs : Array Value} {file : Str} {tf : Tok} {Q : Value → Shared → Prop} {E : Value → Shared → Prop} {N0 ps : List Str}
    (S : SupScope N0 ps scope) (T : OexC K C) (I : Inv (cxS P w K mg base N qual scope f cda cc A outer s0 H0) pins σ H s) (e : H a = some (exo a C none)) (lkf : K.lookup f = some ⟨oc, od, .func fd, osl⟩) (hp : (fd.params.posonlyargs ++ fd.params.args).head? = some ar) (hlo : scope.names.lookup ar.arg = some .local)
    (hN : N[0]? = some ar.arg) (hσ : σ[0]? = some (some (.ref a)))
    (hcode : K.lookup cda = some ⟨ccl, cdd, .fields vs, ccs⟩) (hvs : vs[2]? = some (.str file tf)) (hfile : ((P.main.file : Str) == file) = true) (hcc : K.lookup cc = some ⟨cl, cld, .cell (some (.ref C)), csl⟩) (hsub : mroIn K C (.ref C) = some true) (hns : mg "super" = none)
    (htop : (P.main.scope.names.lookup ("super" : Str)).isSome = false) (hat : (attr == ("__class__" : Str)) = false)
    (h : ∀ so h', (∀ b o, s.heap.get? b = some o → h'.get? b = some o) → h'.get? so = some (ks_superObj C a C) → Q (.ref so) { s with heap := h' }) :
    PySem.wpAt (model P w) (A.deeper (ksEnv qual scope s0.heap.objs.size f (.ref cda) cc)) (.func body (ksEnv qual scope s0.heap.objs.size f (.ref cda) cc))
      (attributeBase (.Call (.Name "super" p0) [] [] p1) attr (ksEnv qual scope s0.heap.objs.size f (.ref cda) cc) whole) Q E s := by
  have KX : K.In s.heap := I.kIn
  obtain ⟨nm, q, NN, bs, bm, sn, sub, ab, col, dd, k0, k1, k2, k3, k5, hC, hbm⟩ := T.cls
  have hCh := KX _ _ hC
  obtain ⟨t1, ho⟩ := exo_at I.hok e
  obtain ⟨m, hm, hlook⟩ := I.loc
  obtain ⟨mb, b1, b2⟩ := I.ok.mod.blt
  have hv : m ar.arg = some (.ref a) := by
    obtain ⟨u, ru, lk⟩ := hlook 0 _ _ hN hσ (.inl hlo)
    obtain rfl : u = .ref a := ru
    rcases lk with ⟨_, z⟩ | ⟨z, _⟩
    · exact z
    · have z : scope.names.lookup ar.arg = some .cell ∨ scope.names.lookup ar.arg = some .free := z
      rw [hlo] at z
      rcases z with z | z <;> cases z
  have hglob : s.heap.Ns mainGlobals mg := I.ok.mod.glob.keeps I.bk
  have hblt : s.heap.Ns builtinsNs mb := b1.keeps I.bk
  obtain ⟨hh, g, d, t, os⟩ := s
  refine ks_wpAt_super_base (env := ksEnv qual scope s0.heap.objs.size f (.ref cda) cc) S.ks S.kc hat rfl (KX _ _ lkf) rfl hp rfl (KX _ _ hcode) rfl hvs hfile htop ?_
  refine ks_loadName_global S.kind S.ks (loadGlobal_builtin (env := ksEnv qual scope s0.heap.objs.size f (.ref cda) cc) hglob hns hblt ((b2 "super" (by decide)).trans (by first | rfl | kernel_rfl)) ⟨rfl, ?_⟩)
  refine wpAny_loadName_free S.kind S.kc rfl ⟨_, KX _ _ hcc, rfl⟩ ?_
  refine wpAny_loadName_local S.kind hlo hm hv ?_
  refine ks_wpAny_isType_cls hCh rfl ⟨rfl, ?_⟩
  refine ks_wpAny_call_super hCh rfl ho rfl (fun c e => by cases e) (looks_mroIn KX hsub) (fun h' e' k => ?_)
  exact h _ _ (fun b o x => k b o x) e'

/-- THE RULE for an __init__ that begins with super().__init__(e, ..) -/
theorem fn_sup {P : Program} {w : World} {K : Frag} {mg : Str → Option Value} {base : Heap} {k : Nat} {C f : Addr} {fd : FuncData} {qual : Str} {st : Stmt} {N ps : List Str} {sp : Sp} {e : Expr} {es : List Expr} {p0 p1 p2 p3 p4 : Pos} {rest : List Stmt} {ar : Arg}
    (T : OexC K C) (F : SupK P K mg C f fd qual st) (S : SupScope N ps (defScope st)) (len : ∀ vs H Q E, sp vs H Q E → vs.length = ps.length)
    (hbd : defBody st = .Expr (.Call (.Attribute (.Call (.Name "super" p0) [] [] p1) "__init__" p2) (e :: es) [] p3) p4 :: rest)
    (har : ((defArgs st).posonlyargs ++ (defArgs st).args).head? = some ar) (hlo : (defScope st).names.lookup ar.arg = some .local) (hN : N[0]? = some ar.arg)
    (he : ∀ env, starEach (e :: es) env = (false, eval e env) :: starEach es env) (hev : ∀ env, ∃ pl : Sem Bool, eval (.Call (.Attribute (.Call (.Name "super" p0) [] [] p1) "__init__" p2) (e :: es) [] p3) env = (do
      let ov ← attributeBase (.Call (.Name "super" p0) [] [] p1) "__init__" env (eval (.Call (.Name "super" p0) [] [] p1) env)
      standAt p2.atName
      let (f, first) ← holding [ov] (getMethod ov "__init__" pl)
      callWith p3 f first (backTo p3 (starEach (e :: es) env)) []))
    (hpl : ∀ env, (backTo p3 (starEach es env)).any (·.1) = false)
    (hbody : ∀ (cda cc : Addr) (A : Around) (outer : List Env) (s : Shared) (H : Hp) (vs : List V) (Q : VK) (E : XK), sp vs H Q E →
      ∃ ta t a ws, PA (cxS P w K mg base N qual (defScope st) f cda cc A outer s H) (e :: es) ta ∧ PSs (cxS P w K mg base N qual (defScope st) f cda cc A outer s H) rest t ∧ vs = .ref a :: ws ∧ H a = some (exo a C none) ∧
        ta (L2.start N vs) H fun us H1 => us.length ≤ 1000 ∧ H1 a = some (exo a C none) ∧ t { nx := fun _ H' => Q .non H', rt := Q } (L2.start N vs) H1) :
    FnOk P w K mg base CX0 (k + 1) f fd ps sp := by
  obtain ⟨oc, od, kV, doc, pm, ct, an, cda, cc, osl, rfl, lk, hcd, ⟨ccl, cdd, vsC, ccs, file, tf, lcode, hvs, hfile⟩, cl, cld, csl, lcell⟩ := F.ex
  refine ⟨len, fun A outer s H args us vs Q E hr e0 hb r hsp => ?_⟩
  have hl := len _ _ _ _ hsp
  have KX : K.In s.heap := e0.mod.kin.keeps fun b o e => (e0.bs b o e).1
  have lim : s.heap.NoLimit := e0.mod.nolimit.keeps fun b o e => (e0.bs b o e).1
  refine ks_codeAny_call_defAt (body := .Expr (.Call (.Attribute (.Call (.Name "super" p0) [] [] p1) "__init__" p2) (e :: es) [] p3) p4 :: rest) (binds := ps.zip us) hr.depth (KX _ _ lk) rfl lim (codeRec_of KX hcd) (by show FuncBody.stmts (defBody st) = _; rw [hbd]) hb S.nocell
    (fun y hy => S.par _ (List.of_mem_zip hy).1) (fun h₁ hns hk₁ => ?_) S.co S.gen S.kind
  have I := inv_sup (t := s.toks + (ps.zip us).length) (f := f) (cda := cda) (qual := qual) (w := w) S hr.hd e0 hl r lcell hns hk₁
  obtain ⟨ta, t, a, ws, hA, hS, rfl, ea, hta⟩ := hbody cda cc A outer s H vs Q E hsp
  have hσ : (L2.start N (.ref a :: ws))[0]? = some (some (.ref a)) := rfl
  obtain ⟨pl, hev⟩ := hev (ksEnv qual (defScope st) s.heap.objs.size f (.ref cda) cc)
  refine ks_wpAt_execs_cons (ks_wpAt_Expr_any (ks_wpAt_MethodCall ?_ hev) (hi := I.quiet))
  refine sup_base S T I ea lk har hlo hN hσ lcode hvs hfile lcell F.sub F.ns F.top (by decide) fun so h' k hso => ?_
  have I1 := I.kept (t' := s.toks + (ps.zip us).length) k
  have KX1 : K.In h' := I1.kIn
  obtain ⟨nm, q, NN, bs, bm, sn, sub, ab, col, dd, k0, k1, k2, k3, k5, hC, hbm⟩ := T.cls
  obtain ⟨t1, ho⟩ := exo_at I1.hok ea
  have hI : Looks (model P w) h' (isInstance (.ref a) (.type "ValueError")) true := (show InstAt h' a _ C none from ⟨ho, rfl, rfl, trivial⟩).type.andThen (looks_subIn KX1 F.isV)
  have hcl : clsIn K C = some { name := nm, bases := bs, mro := .ref C :: bm, ns := NN, qualname := q, hasDict := true, slotNames := sn, subclasses := sub, abstract := ab, collection := col, hasDel := false } := by unfold clsIn; rw [hC] <;> rfl
  have hsup := F.sup
  unfold ks_superIn at hsup
  rw [hcl, Option.bind_some] at hsup
  have hxC : a ≠ C := fun z => by
    have h1 := KX1 _ _ hC
    have h2 := ho
    rw [z] at h2
    rw [show h'.get? C = _ from h2] at h1
    cases h1
  refine kxs_getMethod kxs_ValueError hso (looks_opaque KX1 F.opq) (l₀ := .ref C :: bm) (fun A Q E s k q => wpAny_bind ((looks_clsIn KX1 hcl) A _ E s k (wpAny_pure q))) rfl KX1 hsup hI hxC (by decide) ?_
  have I2 := I1.kept (h' := h'.push (kxs_mw "ValueError.__init__" a)) (t' := s.toks + (ps.zip us).length + 1) fun b o e => Heap.get?_push_of_some _ e
  have hu : (h'.push (kxs_mw "ValueError.__init__" a)).get? h'.objs.size = some (kxs_mw "ValueError.__init__" a) := Heap.get?_push_at rfl rfl
  have hfr : H h'.objs.size = none := I1.hok.fresh (Nat.le_refl _)
  have I3 := I2.pins_of (pins' := [(h'.objs.size, kxs_mw "ValueError.__init__" a)]) fun p hp => by
    rcases List.mem_singleton.mp hp with rfl
    exact ⟨hu, hfr, fun z => absurd I1.lt (by rw [← show h'.objs.size = _ from z]; exact Nat.lt_irrefl _), I1.nofs (Nat.le_refl _), fun v z => by cases z⟩
  refine kxs_callWith (i := "ValueError.__init__") (x := a) ?_ ?_
  · rw [he]; exact (show (false || (backTo p3 (starEach es (ksEnv qual (defScope st) s.heap.objs.size f (.ref cda) cc))).any (·.1)) = false from by rw [Bool.false_or]; exact hpl _)
  rw [he]
  refine evalArgs_plain ?_
  have hAr := hA.run p3 _ _ _ _ _ I3 hta
  rw [he] at hAr
  refine wpAny_mono hAr (fun vs1 s1 h1 => ?_) (fun _ _ z => False.elim z)
  obtain ⟨xs, H1, J, rv, hle, ea1, hrest⟩ := h1
  have pu := J.pin (h'.objs.size, kxs_mw "ValueError.__init__" a) (List.mem_append_right _ (List.mem_singleton.mpr rfl))
  refine ⟨pu.1, ?_⟩
  refine sup_call (X := cxS P w K mg base N qual (defScope st) f cda cc A outer s H) T J ea1 pu.1 (show vs1.length ≤ sizeLine by rw [← show xs.length = vs1.length from Paired.length rv, sizeLine_eq]; omega) fun s2 J2 => ?_
  refine wpAt_of_any (wpAny_mono (hS.run _ _ _ _ _ J2 hrest) (fun fl s3 h3 => ?_) fun _ _ z => False.elim z)
  have fin : ∀ {σ' : L2.St} {H' : Hp} {v : V} {u : Value}, Inv (cxS P w K mg base N qual (defScope st) f cda cc A outer s H) [(h'.objs.size, kxs_mw "ValueError.__init__" a)] σ' H' s3 → RelV v u → Q v H' → CE outer P w H s Q u s3 :=
    fun {σ' H' v u} J rv q => ⟨v, H', J.os, J.bare, J.base, J.hok, rv, q⟩
  cases fl with
  | ret u =>
    obtain ⟨v, σ', H', J, rv, q⟩ := h3
    exact fin J rv q
  | next =>
    obtain ⟨σ', H', J, q⟩ := h3
    exact fin (v := V.non) (u := Value.none) J rfl q
  | brk =>
    obtain ⟨_, _, _, q⟩ := h3
    exact q.elim
  | cont =>
    obtain ⟨_, _, _, q⟩ := h3
    exact q.elim

/-! ### an own class E(Base) with def __init__(self, x): super().__init__(f"..") ; self.f = x -/
/-- what isinstance asks of the class -/
structure IsC (K : Frag) (C : Addr) : Prop where
  cl : (clsIn K C).isSome = true
  ga : findIn K (.ref C) "__getattribute__" = some (some (.builtin "BaseException.__getattribute__"))
  gg : findIn K (.ref C) "__getattr__" = some none
  bs : subIn K (.ref C) (.type "BaseException") = some true
  ca : findIn K (.ref C) "__class__" = some (some (.builtin "object.__class__"))
  sp : specialIn K (.builtin "object.__class__") "__get__" = some (some (.builtin "getset_descriptor.__get__"))
  tk : takesIn K (.builtin "object.__class__") = some true
  ob : mroIn K C (.type "object") = some true
structure ExcAt (P : Program) (K : Frag) (mg : Str → Option Value) (x q : Str) (st : Stmt) (ps : List Str) where
  C : Addr
  a : Addr
  d : FuncData
  g : mg x = some (.ref C)
  o : OexC K C
  s : SupK P K mg C a d q st
  i : findIn K (.ref C) "__init__" = some (some (.ref a))
  t : typeIn K (.ref a) = some (.type "function")
  b : Binds K d ps []
  xf : XfC K C
  is : IsC K C
  te : exmOne K (.ref C) (.ref C) = some true
/-- an own class without an __init__ -/
structure BareAt (K : Frag) (mg : Str → Option Value) (x : Str) where
  C : Addr
  g : mg x = some (.ref C)
  k : keepIn K (.ref C) = true
  x : excIn K C [.type "ValueError", .type "Exception", .type "BaseException", .type "object"] "ValueError.__new__" = true
  b : subIn K (.ref C) (.type "BaseException") = some true
  t : typeIn K (.ref C) = some (.type "type")
  te : exmOne K (.ref C) (.ref C) = some true
/-- such an __init__ with one text field -/
noncomputable def sp1 (C : Addr) (f : Str) : Sp := fun vs H Q _ => ∃ (a : Addr) (z : Str), vs = [.ref a, .str z] ∧ z.length ≤ 1000 ∧ H a = some (exo a C none) ∧ ∀ dx, H dx = none → dx ≠ a → Q .non (upd (upd H dx (exd dx [(f, .str z)])) a (exo a C (some dx)))
theorem mkO {C : Addr} {f z : Str} {H : Hp} {Q : XK} (hz : z.length ≤ 1000) (q : ∀ d, H d = none → Q (.ref C) (some d) (upd H d (.xd [(f, .str z)]))) {σ : L2.St} {ta : TA} (hta : ∀ R : List V → Hp → Prop, R [.str z] H → ta σ H R) : tMkO C (sp1 C f) [] ta σ H Q := by
  refine hta _ ⟨by show 1 ≤ 1000; decide, fun a ha => ⟨a, z, rfl, hz, upd_same, fun dx hd hne => ⟨rfl, dx, [(f, .str z)], upd_same, ?_, ?_, ?_⟩⟩⟩
  · rw [upd_ne hne, upd_same]
  · rw [upd_ne hne] at hd; exact hd
  · rw [upd_ne hne] at hd
    have e : upd (L2.del (upd (upd (upd H a (exo a C none)) dx (exd dx [(f, .str z)])) a (exo a C (some dx))) a) dx (.xd [(f, .str z)]) = upd H dx (.xd [(f, .str z)]) := by
      funext b
      by_cases hb : b = dx
      · rw [hb, upd_same, upd_same]
      · rw [upd_ne hb, upd_ne hb]
        by_cases hba : b = a
        · rw [hba, L2.del_same, ha]
        · rw [L2.del_ne hba, upd_ne hba, upd_ne hb, upd_ne hba]
    rw [e]
    exact q dx hd
section
variable {X : Cx} {CX : CXT} {k : Nat} {f C : Addr} {fd : FuncData} {ps : List Str} {sp : Sp} {E : L2.St → XK} {x m : Str} {p pos apos : Pos} {e o : Expr} {es : List Expr} {ta : TE} {t : TA}
noncomputable def tMakeS (C : Addr) (sp : Sp) (E : L2.St → XK) (t : TA) : TE := fun σ H Q => t σ H fun vs H1 => ∀ x dx, H1 x = none → H1 dx = none → dx ≠ x → sp (.ref x :: vs) (upd (upd H1 dx (.own x)) x (.ins C dx [])) (fun v H2 => v = .non ∧ Q (.ref x) H2) (E σ)
theorem makeS_run {pins : List (Addr × Obj)} {σ : L2.St} {H : Hp} {s : Shared} {Q : VK} {us : List Value} {vs : List V} (M : Mk X.K C f) (F : FnOk X.prog X.w X.K X.mg X.base CX k f fd ps sp) (hr : Room (k + 1) X.A) (hb : Binds X.K fd ps []) (hx : PassesAt CX X σ (E σ)) (I : Inv X pins σ H s) (r : Vals vs us)
    (h : ∀ x dx, H x = none → H dx = none → dx ≠ x → sp (.ref x :: vs) (upd (upd H dx (.own x)) x (.ins C dx [])) (fun v H2 => v = .non ∧ Q (.ref x) H2) (E σ)) : wpAny (model X.prog X.w) X.A (call (.ref C) us) (EP X pins σ Q) X.xe s := by
  generalize hn : s.heap.objs.size = n
  have q0 := h (n + 1) n (I.hok.fresh (by omega)) (I.hok.fresh (by omega)) (by show ¬ (n : Nat) = n + 1; omega)
  subst hn
  have J := Inv.made (C := C) I
  have rv : Vals (V.ref (s.heap.objs.size + 1) :: vs) (Value.ref (s.heap.objs.size + 1) :: us) := .cons (show RelV (V.ref (s.heap.objs.size + 1)) (Value.ref (s.heap.objs.size + 1)) from rfl) r
  have hl := (Paired.length rv).symm.trans (F.len _ _ _ _ q0)
  have bd := hb _ (Value.ref (s.heap.objs.size + 1) :: us) J.kIn (by rw [List.append_nil]; exact hl)
  rw [List.append_nil] at bd
  refine wpAny_call (make_map (f := f) I.kIn M.makes M.init (beq_iff_eq.mp M.fn) ?_)
  refine codeAny_mono (F.run _ X.stack _ _ _ _ _ _ (E σ) (hr.make C us []) (J.env0.make C us []) bd rv q0) fun res s' hq => ?_
  match res, hq with
  | .error e, hq => exact hx pins _ _ e s' J hq
  | .ok (.ret u), hq =>
    obtain ⟨v, H', I3, rv, ev, q3⟩ := J.after hq
    subst ev
    exact ⟨rv, V.ref (s.heap.objs.size + 1), H', I3, rfl, q3⟩
  | .ok .next, hq => exact hq.elim
  | .ok .brk, hq => exact hq.elim
  | .ok .cont, hq => exact hq.elim
theorem pe_makeS (M : Mk X.K C f) (F : FnOk X.prog X.w X.K X.mg X.base CX k f fd ps sp) (hr : Room (k + 1) X.A) (hg : Gl X x) (hm : X.mg x = some (.ref C)) (hb : Binds X.K fd ps []) (hx : ∀ σ, PassesAt CX X σ (E σ)) (ha : PA X (e :: es) t)
    (hdb : (x == ("__debug__" : Str)) = false := by decide) (he : starEach (e :: es) X.env = (false, eval e X.env) :: starEach es X.env := by rfl) (hpl : (backTo pos (starEach es X.env)).any (·.1) = false := by rfl) : PE X (.Call (.Name x p) (e :: es) [] pos) (tMakeS C sp E t) :=
  ⟨fun pins s σ H Q I h => wpAny_Call_Name_kw (ld_glob I hg hm (callWith_K (h₀ := X.base) I.ok.mod.kin M.kp (thn (ha.run pos pins s σ H _ I h) fun us s1 ⟨vs, H1, I1, r, q⟩ => ⟨I1.kIn, makeS_run M F hr hb (hx σ) I1 r q⟩) he hpl) hdb)⟩
noncomputable def tMethS (C : Addr) (m : Str) (sp : Sp) (E : L2.St → XK) (ta : TE) (t : TA) : TE := fun σ H Q => ta σ H fun x H1 => ∃ a dx fs, x = .ref a ∧ H1 a = some (.ins C dx fs) ∧ fs.lookup m = none ∧ t σ H1 fun vs H2 => sp (x :: vs) H2 Q (E σ)
theorem pe_methS {pl : Sem Bool} (he : PE X o ta) (c : Cls X.K C) (hm : Meth X.K C m f) (F : FnOk X.prog X.w X.K X.mg X.base CX k f fd ps sp) (hr : Room k X.A) (hb : Binds X.K fd ps []) (hx : ∀ σ, PassesAt CX X σ (E σ)) (ha : PA X (e :: es) t)
    (hst : starEach (e :: es) X.env = (false, eval e X.env) :: starEach es X.env := by rfl) (hpl : (backTo pos (starEach es X.env)).any (·.1) = false := by rfl)
    (ht : eval (.Call (.Attribute o m apos) (e :: es) [] pos) X.env = (eval o X.env >>= fun ov => standAt apos.atName >>= fun _ => holding [ov] (getMethod ov m pl) >>= fun z => callWith pos z.1 z.2 (backTo pos (starEach (e :: es) X.env)) (backToKw pos (keywordEach [] X.env))) := by rfl) :
    PE X (.Call (.Attribute o m apos) (e :: es) [] pos) (tMethS C m sp E ta t) := by
  refine ⟨fun pins s σ H Q I h => methodCall_KW (pl := pl) (thn (he.run pins s σ H _ I h) fun u s1 ⟨x, H1, I1, rx, a, dx, fs, ex, ea, l, q⟩ => ?_) ht⟩
  subst ex
  obtain rfl : u = Value.ref a := rx
  exact getmeth_ok I1 ea c hm l (callWith_K (first := [.ref a]) (h₀ := X.base) I.ok.mod.kin hm.kp (thn (ha.run pos pins s1 σ H1 _ I1 q) fun us s2 ⟨vs, H2, I2, r, q2⟩ => ⟨I2.kIn, run_fnS (us := .ref a :: us) (vs := .ref a :: vs) F hr hb (hx σ) I2 (.cons rfl r) q2⟩) hst hpl)
end
/-- an error with this name is raised, whatever was made before -/
noncomputable def Err (C : Addr) (H : Hp) (z : Str) (E : XK) : Prop := ∀ (H' : Hp) (d : Addr), Same H H' → H' d = none → E (.ref C) (some d) (upd H' d (.xd [("name", .str z)]))
theorem Err.mono {C : Addr} {H H1 : Hp} {z : Str} {E : XK} (h : Err C H z E) (s : Same H H1) : Err C H1 z E := fun H' d s2 hd => h H' d (s.trans s2) hd
theorem Err.now {C : Addr} {H : Hp} {z : Str} {E : XK} (h : Err C H z E) : ∀ d, H d = none → E (.ref C) (some d) (upd H d (.xd [("name", .str z)])) := fun d hd => h H d (Same.refl H) hd
/-- an error without a field is raised -/
noncomputable def ErrB (C : Addr) (H : Hp) (E : XK) : Prop := ∀ H', Same H H' → E (.ref C) none H'
theorem ErrB.mono {C : Addr} {H H1 : Hp} {E : XK} (h : ErrB C H E) (s : Same H H1) : ErrB C H1 E := fun H' s2 => h H' (s.trans s2)
/-- the first number out of its bounds -/
noncomputable def kindBad (w h d c : Int) : Option Str := if ¬ (1 ≤ w ∧ w ≤ 64) then some "width" else if ¬ (1 ≤ h ∧ h ≤ 64) then some "height" else if ¬ (1 ≤ d ∧ d ≤ 8) then some "depth" else if ¬ (c = 1 ∨ c = 3) then some "channels" else none
noncomputable def frameBad (w h d c t : Int) : Option Str := match kindBad w h d c with
  | some z => some z
  | none => if ¬ (1 ≤ t ∧ t ≤ 16) then some "tile" else if w * h * c > 3072 then some "size" else none
theorem kindBad_none {w h d c : Int} : kindBad w h d c = none ↔ (1 ≤ w ∧ w ≤ 64) ∧ (1 ≤ h ∧ h ≤ 64) ∧ (1 ≤ d ∧ d ≤ 8) ∧ (c = 1 ∨ c = 3) := by
  unfold kindBad
  by_cases h1 : 1 ≤ w ∧ w ≤ 64 <;> by_cases h2 : 1 ≤ h ∧ h ≤ 64 <;> by_cases h3 : 1 ≤ d ∧ d ≤ 8 <;> by_cases h4 : c = 1 ∨ c = 3 <;> simp [h1, h2, h3, h4]
theorem frameBad_none {w h d c t : Int} : frameBad w h d c t = none ↔ (1 ≤ w ∧ w ≤ 64) ∧ (1 ≤ h ∧ h ≤ 64) ∧ (1 ≤ d ∧ d ≤ 8) ∧ (c = 1 ∨ c = 3) ∧ (1 ≤ t ∧ t ≤ 16) ∧ w * h * c ≤ 3072 := by
  unfold frameBad
  cases e : kindBad w h d c with
  | some z =>
    constructor
    · intro h; cases h
    · rintro ⟨a, b, c', d', _⟩
      rw [kindBad_none.mpr ⟨a, b, c', d'⟩] at e; cases e
  | none =>
    obtain ⟨a, b, c', d'⟩ := kindBad_none.mp e
    by_cases h5 : 1 ≤ t ∧ t ≤ 16 <;> by_cases h6 : w * h * c > 3072 <;> simp [a, b, c', d', h5, h6] <;> omega
/-- the first part of a key, of a channel and a pixel, that is out of its bounds -/
noncomputable def keyBad (c n d : Nat) (ch ti pl : Int) : Option Str := if ¬ (0 ≤ ch ∧ ch ≤ (c : Int) - 1) then some "channel" else if ¬ (0 ≤ ti ∧ ti ≤ (n : Int) - 1) then some "tile" else if ¬ (0 ≤ pl ∧ pl ≤ (d : Int) - 1) then some "plane" else none
section
variable {K : Frag} {σ : L2.St} {H : Hp} {Q : VK} {D : Ends} {ta te : TE} {t : TA} {sp : Sp} {E : L2.St → XK} {C a : Addr} {m f : Str} {cls : Value} {d : Option Addr} {v : V}
noncomputable def CS (sp : Sp) (vs : List V) (H : Hp) (Q : VK) (E : XK) : Prop := sp vs H Q E
theorem callS (q : t σ H fun vs H1 => CS sp vs H1 Q (E σ)) : tCallS sp E t σ H Q := q
noncomputable instance : Gx.St (tCallS sp E t σ H Q) (t σ H fun vs H1 => CS sp vs H1 Q (E σ)) := ⟨fun q => callS q⟩
noncomputable def MkS (C : Addr) (sp : Sp) (vs : List V) (H : Hp) (Q : VK) (E : XK) : Prop := ∀ x dx, H x = none → H dx = none → dx ≠ x → CS sp (.ref x :: vs) (upd (upd H dx (.own x)) x (.ins C dx [])) (fun v H2 => v = .non ∧ Q (.ref x) H2) E
theorem makeS (q : t σ H fun vs H1 => MkS C sp vs H1 Q (E σ)) : tMakeS C sp E t σ H Q := q
noncomputable instance : Gx.St (tMakeS C sp E t σ H Q) (t σ H fun vs H1 => MkS C sp vs H1 Q (E σ)) := ⟨fun q => makeS q⟩
noncomputable def MtS (C : Addr) (m : Str) (sp : Sp) (E : L2.St → XK) (t : TA) (σ : L2.St) (x : V) (H : Hp) (Q : VK) : Prop := ∃ a dx fs, x = .ref a ∧ H a = some (.ins C dx fs) ∧ fs.lookup m = none ∧ t σ H fun vs H2 => sp (x :: vs) H2 Q (E σ)
theorem methS (q : ta σ H fun x H1 => MtS C m sp E t σ x H1 Q) : tMethS C m sp E ta t σ H Q := q
noncomputable instance : Gx.St (tMethS C m sp E ta t σ H Q) (ta σ H fun x H1 => MtS C m sp E t σ x H1 Q) := ⟨fun q => methS q⟩
theorem mts {dx : Addr} {fs : List (Str × V)} (h : H a = some (.ins C dx fs)) (n : fs.lookup m = none) (q : t σ H fun vs H2 => CS sp (.ref a :: vs) H2 Q (E σ)) : MtS C m sp E t σ (.ref a) H Q := ⟨a, dx, fs, rfl, h, n, q⟩
noncomputable def XfP (a : Addr) (cls : Value) (d : Option Addr) (C : Addr) (f : Str) (x : V) (H : Hp) (Q : VK) : Prop := x = .ref a ∧ cls = .ref C ∧ ∃ (dd : Addr) (fs : List (Str × V)) (v : V), d = some dd ∧ H dd = some (.xd fs) ∧ fs.lookup f = some v ∧ Q v H
theorem xf (q : te σ H fun x H1 => XfP a cls d C f x H1 Q) : tXf a cls d C f te σ H Q := q
noncomputable instance : Gx.St (tXf a cls d C f te σ H Q) (te σ H fun x H1 => XfP a cls d C f x H1 Q) := ⟨fun q => xf q⟩
theorem xfp {dd : Addr} (h : H dd = some (.xd [(f, v)])) (q : Q v H) : XfP a (.ref C) (some dd) C f (.ref a) H Q := ⟨rfl, rfl, dd, _, v, rfl, h, by simp [List.lookup], q⟩
/-- the except clause takes it -/
theorem took {c : Value} {i : Nat} {ts : Addr → Value → Option Addr → TS} {Wout : WX} {H' : Hp} (h : exmOne K cls c = some true) (q : ∀ a, H' a = none → ts a cls d { nx := fun σ' H' => D.nx (σ'.set i none) H', rt := D.rt, bk := fun σ' H' => D.bk (σ'.set i none) H', ct := fun σ' H' => D.ct (σ'.set i none) H' } (σ.set i (some (.ref a))) H') : WE (wAs K c i ts Wout D) σ cls d H' :=
  ⟨true, h, fun _ => q, fun z => Bool.noConfusion z⟩
end
end Sx

/-! The frame: a call sees a part R of what is tracked; the part S beside it stays as it is. -/
namespace Fx
open PySem L2
/-- what may stand beside: lists, dicts, sets, instances with their own dicts -/
noncomputable def Fit (S : Hp) (a : Addr) : HO → Prop
  | .lst _ => True
  | .dK _ => True
  | .dT _ => True
  | .set _ _ => True
  | .own y => ∃ C fs, S y = some (.ins C a fs)
  | .ins _ dx _ => S dx = some (.own a)
  | _ => False
structure Own (R H S : Hp) : Prop where
  eq : ∀ a, H a = match S a with | some o => some o | none => R a
  dj : ∀ a o, S a = some o → R a = none
  ft : ∀ a o, S a = some o → Fit S a o
section
variable {R H S R' : Hp} {a b : Addr} {o u : HO}
theorem Own.at (O : Own R H S) (h : S a = some o) : H a = some o := by rw [O.eq, h]
theorem Own.off (O : Own R H S) (h : S a = none) : H a = R a := by rw [O.eq, h]
theorem Own.nos (O : Own R H S) (h : R a = some o) : S a = none := by
  cases e : S a with
  | none => rfl
  | some u => rw [O.dj a u e] at h; cases h
theorem Own.same (O : Own R H S) : Same R H := fun a o h => by rw [O.off (O.nos h)]; exact h
theorem Own.non (O : Own R H S) (h : H a = none) : R a = none ∧ S a = none := by
  have := O.eq a
  cases e : S a with
  | none => rw [e] at this; exact ⟨this.symm.trans h, rfl⟩
  | some u => rw [e] at this; rw [this] at h; cases h
theorem Own.tup {xs : List V} (O : Own R H S) (h : H a = some (.tup xs)) : R a = some (.tup xs) := by
  cases e : S a with
  | none => rw [← O.off e]; exact h
  | some u =>
    rw [O.at e] at h
    cases h
    exact (O.ft a _ e).elim
theorem Own.frz {ob : Obj} {w : HO} (O : Own R H S) (h : H a = some (.frz ob w)) : R a = some (.frz ob w) := by
  cases e : S a with
  | none => rw [← O.off e]; exact h
  | some u =>
    rw [O.at e] at h
    cases h
    exact (O.ft a _ e).elim
theorem Own.tbl {ps} (O : Own R H S) (h : H a = some (.tbl ps)) : R a = some (.tbl ps) := by
  cases e : S a with
  | none => rw [← O.off e]; exact h
  | some u =>
    rw [O.at e] at h
    cases h
    exact (O.ft a _ e).elim
noncomputable def over (R S : Hp) : Hp := fun a => match S a with | some o => some o | none => R a
theorem over_own (dj : ∀ a o, S a = some o → R a = none) (ft : ∀ a o, S a = some o → Fit S a o) : Own R (over R S) S := ⟨fun _ => rfl, dj, ft⟩
end
section
variable {P : Program} {w : World} {R H S R' : Hp} {h h' : Heap}
theorem down (O : Own R H S) (x : HOk P w H h) : HOk P w R h := fun a o e => by
  refine (x a o (O.same a o e)).stay (fun _ _ _ q => q) (fun b q => ?_) (fun _ _ q => O.tup q)
  cases es : S b with
  | none => rw [← O.off es]; exact q
  | some u =>
    have q2 := (O.at es).symm.trans q
    cases q2
    obtain ⟨C, fs, z⟩ := O.ft b _ es
    rw [O.dj a _ z] at e; cases e
theorem there {a : Addr} {o : HO} (x : ObjOk P w H h a o) (f : Fit S a o) : ∃ ob, h.get? a = some ob := by
  cases o with
  | lst xs => obtain ⟨z, its, n, r, q⟩ := x; exact ⟨_, q⟩
  | dK kvs => obtain ⟨z, y, vs, r, ob, es, ep, q, c⟩ := x; exact ⟨_, q⟩
  | set _ _ => obtain ⟨ob, es, ep, t, q, c⟩ := x; exact ⟨_, q⟩
  | dT kvs => obtain ⟨z, y, xs, r, ob, es, ep, q, c⟩ := x; exact ⟨_, q⟩
  | own y => exact x
  | ins C dx fs => obtain ⟨d, z, ne, q, r⟩ := x; exact ⟨_, q⟩
  | tup _ => exact f.elim
  | xd _ => exact f.elim
  | rng _ _ => exact f.elim
  | frz _ _ => exact f.elim
  | tbl _ => exact f.elim
  | met _ _ => exact f.elim
  | ext _ => exact f.elim
theorem stays (O : Own R H S) (O' : Own R' (over R' S) S) (kp : ∀ b u, h.get? b = some u → R b = none → S b ≠ none → h'.get? b = some u) (tp : ∀ b xs, R b = some (.tup xs) → R' b = some (.tup xs)) {a : Addr} {o : HO} (e : S a = some o) (x : ObjOk P w H h a o) : ObjOk P w (over R' S) h' a o := by
  have ka : ∀ u, h.get? a = some u → h'.get? a = some u := fun u q => kp a u q (O.dj a o e) (by rw [e]; exact fun z => nomatch z)
  have fit := O.ft a o e
  cases o with
  | lst xs => obtain ⟨z, its, n, r, q⟩ := x; exact ⟨z, its, n, r, ka _ q⟩
  | dK kvs => obtain ⟨z, y, vs, r, ob, es, ep, q, c⟩ := x; exact ⟨z, y, vs, r, ob, es, ep, ka _ q, c⟩
  | set _ _ => obtain ⟨ob, es, ep, t, q, c⟩ := x; exact ⟨ob, es, ep, t, ka _ q, c⟩
  | dT kvs =>
    obtain ⟨z, y, xs, r, ob, es, ep, q, c⟩ := x
    exact ⟨z, y, xs, Paired.mapP r fun p q z => ⟨z.1, O'.same _ _ (tp _ _ (O.tup z.2.1)), z.2.2⟩, ob, es, ep, ka _ q, c⟩
  | own y => obtain ⟨ob, q⟩ := x; exact ⟨ob, ka _ q⟩
  | ins C dx fs =>
    obtain ⟨d, z, ne, q, mA, ⟨od, es, ep, e2, c⟩, r⟩ := x
    have f : S dx = some (.own a) := fit
    exact ⟨O'.at f, z, ne, ka _ q, mA, ⟨od, es, ep, kp dx od e2 (O.dj dx _ f) (by rw [f]; exact fun z => nomatch z), c⟩, r⟩
  | tup _ => exact fit.elim
  | xd _ => exact fit.elim
  | rng _ _ => exact fit.elim
  | frz _ _ => exact fit.elim
  | tbl _ => exact fit.elim
  | met _ _ => exact fit.elim
  | ext _ => exact fit.elim
theorem up (O' : Own R' (over R' S) S) (x : HOk P w R' h') (st : ∀ a o, S a = some o → ObjOk P w (over R' S) h' a o) : HOk P w (over R' S) h' := fun a o e => by
  cases es : S a with
  | some u => rw [O'.at es] at e; cases e; exact st a _ es
  | none =>
    rw [O'.off es] at e
    exact (x a o e).stay (fun _ _ _ q => q) (fun b q => O'.same _ _ q) (fun b xs q => O'.same _ _ q)
end
noncomputable def fr (sp : Sp) : Sp := fun vs H Q E => ∃ R S, Own R H S ∧ sp vs R (fun v R' => ∀ H', Own R' H' S → Q v H') (fun c d R' => ∀ H', Own R' H' S → E c d H')
section
variable {P : Program} {w : World} {K : PySem.W.Frag} {mg : Str → Option Value} {base : Heap} {k : Nat} {f : Addr} {fd : FuncData} {ps : List Str} {sp : Sp}
theorem env (O : Own R H S) {A : Around} {outer : List Env} {s : Shared} (e : Env0 P w K mg base A outer s H) : Env0 P w K mg base A outer s R :=
  ⟨e.frames, e.mod, fun b o q => ⟨(e.bs b o q).1, (O.non (e.bs b o q).2).1⟩, e.bsz, e.funs, fun b q => (O.non (e.frf b q)).1, down O e.hok, e.bare⟩
theorem nofs {O : Own R H S} {A : Around} {outer : List Env} {s : Shared} (e : Env0 P w K mg base A outer s H) {b : Addr} (h : S b ≠ none) : b ∉ frs outer := fun q => by
  have := (O.non (e.frf b q)).2
  exact h this
theorem ce {O : Own R H S} {A : Around} {outer : List Env} {s s' : Shared} {Q : VK} {u : Value} (e : Env0 P w K mg base A outer s H) (c : CE outer P w R s (fun v R' => ∀ H', Own R' H' S → Q v H') u s') : CE outer P w H s Q u s' := by
  obtain ⟨v, R', h1, h2, un, hok, rv, q⟩ := c
  have dj : ∀ a o, S a = some o → R' a = none := fun a o ea => by
    obtain ⟨ob, hob⟩ := there (e.hok a o (O.at ea)) (O.ft a o ea)
    exact un.free a ob hob (O.dj a o ea) (fun z => nomatch z)
  have O' := over_own dj O.ft
  refine ⟨v, over R' S, h1, h2, ⟨fun b o q n nf nx => un.keep b o q (O.non n).1 nf nx, fun b o q n nf nx => un.slot b o q (O.non n).1 nf nx, fun b o q n nx => ?_, un.there, fun b xs q => O'.same _ _ (un.tups b xs (O.tup q)), fun b o xs q => O'.same _ _ (un.frzs b o xs (O.frz q)), fun b ps q => ?_⟩, up O' hok fun a o ea => ?_, rv, q _ O'⟩
  · rw [O'.off (O.non n).2]; exact un.free b o q (O.non n).1 nx
  · obtain ⟨more, z⟩ := un.tbls b ps (O.tbl q)
    exact ⟨more, O'.same _ _ z⟩
  · exact stays O O' (fun b u q n nn => un.keep b u q n (nofs (O := O) e nn) (fun z => nomatch z)) un.tups ea (e.hok a o (O.at ea))
theorem frame0 (F : FnOk P w K mg base CX0 k f fd ps sp) : FnOk P w K mg base CX0 k f fd ps (fr sp) := by
  refine ⟨fun vs H Q E ⟨R, S, O, h⟩ => F.len _ _ _ _ h, fun A outer s H args us vs Q E hr e bt rv ⟨R, S, O, h⟩ => ?_⟩
  refine codeAny_mono (F.run A outer s R args us vs _ _ hr (env O e) bt rv h) fun r s' c => ?_
  match r, c with
  | .ok (.ret u), c => exact ce (O := O) e c
  | .ok .next, c => exact c
  | .ok .brk, c => exact c
  | .ok .cont, c => exact c
  | .error er, c => exact c
end
end Fx
/-! Steps with a part beside. -/
namespace Nx
open PySem L2 Fx
noncomputable def e0 : Hp := fun _ => none
noncomputable def one (b : Addr) (o : HO) : Hp := fun a => if a = b then some o else none
section
variable {K : PySem.W.Frag} {R H S R0 R1 R2 S1 S2 H1 H2 H3 : Hp} {a b p l : Addr} {o u : HO} {xs ys : List V} {σ : L2.St} {Q : VK} {E : XK} {sp : Sp} {vs dvs : List V} {v : V}
theorem one_at : one b o b = some o := if_pos rfl
theorem one_ne (h : a ≠ b) : one b o a = none := if_neg h
theorem one_some {x : HO} (h : one b o a = some x) : a = b ∧ x = o := by
  unfold one at h
  by_cases e : a = b
  · rw [if_pos e] at h; exact ⟨e, (Option.some.inj h).symm⟩
  · rw [if_neg e] at h; cases h
theorem own0 : Own H H e0 := ⟨fun _ => rfl, (fun a o e => nomatch e), fun a o e => nomatch e⟩
theorem own0_eq (O : Own R H e0) : H = R := funext fun a => by rw [O.eq]; rfl
theorem at1 (O : Own R H (one b o)) : H b = some o := O.at one_at
theorem no1 (O : Own R H (one b o)) : R b = none := O.dj b o one_at
theorem off1 (O : Own R H (one b o)) (h : a ≠ b) : H a = R a := O.off (one_ne h)
theorem mk1 (h : R b = none) (f : Fit (one b o) b o) (e : H b = some o) (k : ∀ a, a ≠ b → H a = R a) : Own R H (one b o) := ⟨fun a => by
    by_cases c : a = b
    · rw [c, one_at]; exact e
    · rw [one_ne c]; exact k a c, fun a x q => by obtain ⟨c, _⟩ := one_some q; rw [c]; exact h, fun a x q => by obtain ⟨c, d⟩ := one_some q; subst c; subst d; exact f⟩
theorem top1 (h : H p = none) : Own H (upd H p (.lst xs)) (one p (.lst xs)) := mk1 h trivial upd_same fun _ c => upd_ne c
/-- a new object is laid below -/
theorem new (O : Own R H S) (h : H p = none) : Own (upd R p o) (upd H p o) S := ⟨fun a => by
    by_cases c : a = p
    · rw [c, upd_same, (O.non h).2, upd_same]
    · rw [upd_ne c, O.eq, upd_ne c], (fun a x q => by
      by_cases c : a = p
      · rw [c, (O.non h).2] at q; cases q
      · rw [upd_ne c]; exact O.dj a x q), O.ft⟩
/-- two parts beside as one -/
theorem nest (O : Own R H S) (O2 : Own R2 R S2) : Own R2 H (over S2 S) := ⟨fun a => by
    unfold over
    cases e : S a with
    | some x => exact O.at e
    | none => rw [O.off e]; exact O2.eq a, fun a x q => by
      unfold over at q
      cases e : S a with
      | some y => exact (O2.non (O.dj a y e)).1
      | none => rw [e] at q; exact O2.dj a x q, fun a x q => by
      have up : ∀ b y, S2 b = some y → over S2 S b = some y := fun b y z => by
        unfold over; rw [O.nos (O2.at z)]; exact z
      have up2 : ∀ b y, S b = some y → over S2 S b = some y := fun b y z => by unfold over; rw [z]
      have key : Fit S a x ∨ Fit S2 a x := by
        unfold over at q
        cases e : S a with
        | some y => rw [e] at q; cases q; exact .inl (O.ft a _ e)
        | none => rw [e] at q; exact .inr (O2.ft a _ q)
      cases x with
      | ins C dx fs =>
        rcases key with z | z
        · exact up2 _ _ z
        · exact up _ _ z
      | own y =>
        rcases key with ⟨C, fs, z⟩ | ⟨C, fs, z⟩
        · exact ⟨C, fs, up2 _ _ z⟩
        · exact ⟨C, fs, up _ _ z⟩
      | _ => rcases key with z | z <;> exact z⟩
theorem split (O : Own R H S) (O2 : Own R2 R S2) {R2' H' : Hp} (N : Own R2' H' (over S2 S)) : Own R2' (over R2' S2) S2 ∧ Own (over R2' S2) H' S := by
  have dj2 : ∀ a o, S2 a = some o → R2' a = none := fun a o e => N.dj a o (by unfold over; rw [O.nos (O2.at e)]; exact e)
  refine ⟨over_own dj2 O2.ft, ⟨fun a => ?_, fun a x e => ?_, O.ft⟩⟩
  · rw [N.eq]
    unfold over
    cases S a <;> rfl
  · have e2 := N.dj a x (by unfold over; rw [e])
    have e3 := (O2.non (O.dj a x e)).2
    unfold over; rw [e3]; exact e2
theorem whole (q : Gx.CP sp vs dvs H Q E) : Gx.CP (fr sp) vs dvs H Q E := ⟨H, e0, own0, by
  have e1 : (fun v R' => ∀ H', Own R' H' e0 → Q v H') = Q := by
    funext v R'
    exact propext ⟨fun h => h R' own0, fun h H' O => by rw [own0_eq O]; exact h⟩
  have e2 : (fun c d R' => ∀ H', Own R' H' e0 → E c d H') = E := by
    funext c d R'
    exact propext ⟨fun h => h R' own0, fun h H' O => by rw [own0_eq O]; exact h⟩
  rw [e1, e2]; exact q⟩
end
end Nx
namespace Nx
open PySem L2 Fx
section
variable {K : PySem.W.Frag} {R H S R0 R1 R2 S1 S2 H1 H2 H3 : Hp} {a b p l : Addr} {o u : HO} {xs ys : List V} {σ : L2.St} {Q : VK} {E : XK} {v : V}
theorem viaS (s : Same R H) (f : R a = some o) : H a = some o := s a o f
theorem viaL (s : Same R H) (f : SqL K R a xs) : SqL K H a xs := s.seq f
theorem viaT (s : Same R H) (h : SqT K R a xs) : SqT K H a xs := by
  rcases h with (z | ⟨ob, z⟩) | z
  · exact .inl (.inl (s _ _ z))
  · exact .inl (.inr ⟨ob, s _ _ z⟩)
  · exact .inr z
mutual
theorem dpKeep (s : Same R H) : ∀ (d : PyData) (v : V), Dp K R v d → Dp K H v d
  | .none, _, h => by cases h; exact .non
  | .bool b, _, h => by cases h; exact .bl b
  | .int i, _, h => by cases h; exact .int i
  | .str x, _, h => by cases h; exact .str x
  | .list ds, _, h => by
    cases h with
    | lst hs ha => exact .lst (s.seq hs) (dpsKeep s ds _ ha)
  | .tuple ds, _, h => by
    cases h with
    | tup hs ha => exact .tup (by
        rcases hs with (z | ⟨ob, z⟩) | z
        · exact .inl (.inl (s _ _ z))
        · exact .inl (.inr ⟨ob, s _ _ z⟩)
        · exact .inr z) (dpsKeep s ds _ ha)
  | .dict _, _, h => by cases h
theorem dpsKeep (s : Same R H) : ∀ (ds : List PyData) (vs : List V), DpAll K R vs ds → DpAll K H vs ds
  | [], _, h => by cases h; exact .nil
  | d :: ds, _, h => by
    cases h with
    | cons h1 h2 => exact .cons (dpKeep s d _ h1) (dpsKeep s ds _ h2)
end
theorem viaD {d : PyData} (s : Same R H) (h : Dp K R v d) : Dp K H v d := dpKeep s d v h
/-- new objects, what is made named -/
theorem lst0 (h : xs.length ≤ sizeLine) (q : ∀ p H', H p = none → Same H H' → H' p = some (.lst xs) → Q (.ref p) H') : Gx.LstP xs H Q := Gx.lstP h fun p hp => q p _ hp (Gx.same_new hp) upd_same
theorem tup0 (h : xs.length ≤ sizeLine) (q : ∀ p H', H p = none → Same H H' → H' p = some (.tup xs) → Q (.ref p) H') : Gx.TupP xs H Q := Gx.tupP h fun p hp => q p _ hp (Gx.same_new hp) upd_same
theorem made0 (q : ∀ l H', H l = none → Same H H' → H' l = some o → Q (.ref l) H') : ∀ l, H l = none → Q (.ref l) (upd H l o) := fun l hl => q l _ hl (Gx.same_new hl) upd_same
theorem Own.made (O : Own R H S) (q : ∀ l R' H', R l = none → Own R' H' S → Same R R' → R' l = some o → Q (.ref l) H') : ∀ l, H l = none → Q (.ref l) (upd H l o) := fun l hl => q l _ _ (O.non hl).1 (Nx.new O hl) (Gx.same_new (O.non hl).1) upd_same
variable {b0 : Addr}
theorem slL0 {lo hi : Option Int} (h : SqL K H a xs) (q : ∀ p H', H p = none → Same H H' → H' p = some (.lst (cutV xs lo hi)) → Q (.ref p) H') : rSlL K (.ref a) lo hi H Q := Gx.slL h (made0 q)
theorem cat0 {zs : List V} (h1 : H a = some (.lst xs)) (h2 : H b0 = some (.lst zs)) (hz : xs.length + zs.length ≤ sizeLine) (q : ∀ p H', H p = none → Same H H' → H' p = some (.lst (xs ++ zs)) → Q (.ref p) H') : rCat (.ref a) (.ref b0) H Q := Gx.cat h1 h2 hz (made0 q)
noncomputable def Bm0P (K : PySem.W.Frag) (T : String) (r : V → List V → Hp → VK → Prop) (x : V) (H : Hp) (Q : VK) : Prop := tyV K T x H ∧ r x [] H Q
theorem bm0 {T : String} {r : V → List V → Hp → VK → Prop} {to : TE} (q : to σ H fun x H1 => Bm0P K T r x H1 Q) : tBM0 K T r to σ H Q := q
noncomputable instance {T : String} {r : V → List V → Hp → VK → Prop} {to : TE} : Gx.St (tBM0 K T r to σ H Q) (to σ H fun x H1 => Bm0P K T r x H1 Q) := ⟨fun q => bm0 q⟩
theorem bm0P {T : String} {r : V → List V → Hp → VK → Prop} {x : V} (h : tyV K T x H) (q : r x [] H Q) : Bm0P K T r x H Q := ⟨h, q⟩
theorem popL (h : H l = some (.lst xs)) (hy : xs[xs.length - 1]? = some v) (q : Q v (upd H l (.lst xs.dropLast))) : rPop (.ref l) [] H Q := ⟨l, xs, v, rfl, rfl, h, hy, q⟩
theorem setLE {k : Int} {j : Nat} {P : Hp → Prop} (h : H l = some (.lst xs)) (hk : ixN xs.length k = some j) (e : xs.set j v = ys) (q : P (upd H l (.lst ys))) : rSetL (.ref l) (.int k) v H P := Gx.setL h hk (by rw [e]; exact q)
theorem nevB {x y : Bool} (q : Q (.bl (!decide (x = y))) H) : rNe (.bl x) (.bl y) H Q := Gx.nev (by rw [Gx.eqB]; exact q)
noncomputable instance {x y : Bool} : Gx.St (rNe (.bl x) (.bl y) H Q) (Q (.bl (!decide (x = y))) H) := ⟨fun q => nevB q⟩
theorem Own.grow {H' : Hp} (O : Own R H S) (s : Same H H') : ∃ R', Own R' H' S ∧ Same R R' ∧ ∀ a o, H a = none → H' a = some o → R' a = some o := by
  refine ⟨fun a => match S a with | some _ => none | none => H' a, ⟨fun a => ?_, fun a x e => ?_, O.ft⟩, fun a x e => ?_, fun a x e q => ?_⟩
  · cases e : S a with
    | some x => exact s _ _ (O.at e)
    | none => rfl
  · show (match S a with | some _ => none | none => H' a) = none
    rw [e]
  · show (match S a with | some _ => none | none => H' a) = some x
    rw [O.nos e]; exact s _ _ (O.same _ _ e)
  · show (match S a with | some _ => none | none => H' a) = some x
    rw [(O.non e).2]; exact q
noncomputable def EnP (K : PySem.W.Frag) (vs : List V) (H : Hp) (T : It → Hp → Prop) : Prop := ∃ a xs, vs = [.ref a] ∧ SqL K H a xs ∧ T (Ite K a) H
theorem enumw {tr : TA} {T : It → Hp → Prop} (q : tr σ H fun vs H1 => EnP K vs H1 T) : iEnum K tr σ H T := q
noncomputable instance {tr : TA} {T : It → Hp → Prop} : Gx.St (iEnum K tr σ H T) (tr σ H fun vs H1 => EnP K vs H1 T) := ⟨fun q => enumw q⟩
theorem en {T : It → Hp → Prop} (h : SqL K H a xs) (q : T (Ite K a) H) : EnP K [.ref a] H T := ⟨a, xs, rfl, h, q⟩
theorem eqStr {x y : Str} (o1 : PyData.strOk x = true) (o2 : PyData.strOk y = true) (q : Q (.bl (decide (x = y))) H) : rEqD K (.str x) (.str y) H Q :=
  ⟨_, _, .str x, .str y, by simp [SeqAt.shaped, PyData.canLay0, PyData.depth, o1], by simp [SeqAt.shaped, PyData.canLay0, PyData.depth, o2], by rw [show PyData.eqv (.str x) (.str y) = decide (x = y) by simp only [PyData.eqv]; by_cases z : x = y <;> simp [z]]; exact q⟩
/-- an instance with the four numbers of a kind -/
noncomputable def K4 (K : PySem.W.Frag) (H : Hp) (x : Addr) (w h d c : V) : Prop := ∃ (C dx : Addr) (fs : List (Str × V)), H x = some (.ins C dx fs) ∧ Cls K C ∧ (NoAttr K C "width" ∧ NoAttr K C "height" ∧ NoAttr K C "depth" ∧ NoAttr K C "channels") ∧ fs.lookup ("width" : Str) = some w ∧ fs.lookup ("height" : Str) = some h ∧ fs.lookup ("depth" : Str) = some d ∧ fs.lookup ("channels" : Str) = some c
theorem K4.keep {x : Addr} {w h d c : V} (k : K4 K R x w h d c) (s : Same R H) : K4 K H x w h d c := by
  obtain ⟨C, dx, fs, e, r⟩ := k
  exact ⟨C, dx, fs, s _ _ e, r⟩
/-- isinstance with an own class -/
structure IsO (K : PySem.W.Frag) (C : Addr) : Prop where
  ca : PySem.W.findIn K (.ref C) "__class__" = some (some (.builtin "object.__class__"))
  sp : PySem.W.specialIn K (.builtin "object.__class__") "__get__" = some (some (.builtin "getset_descriptor.__get__"))
  tk : PySem.W.takesIn K (.builtin "object.__class__") = some true
  ob : PySem.W.mroIn K C (.type "object") = some true
theorem isiO {C D dx : Addr} {fs : List (Str × V)} {k : Bool} (I : IsO K C) (cl : Cls K C) (h : H a = some (.ins C dx fs)) (e : PySem.W.kitOne K (.ref C) (.ref D) = some k) (q : Q (.bl k) H) : rIsi K [.ref a, .ref D] H Q := ⟨.ref a, .ref D, .ref C, .ref D, k, rfl, .own D, .base (.ins h cl I.ca I.sp I.tk I.ob), e, q⟩
theorem isiOs {C dx : Addr} {fs : List (Str × V)} (I : IsO K C) (cl : Cls K C) (h : H a = some (.ins C dx fs)) (q : Q (.bl true) H) : rIsi K [.ref a, .ref C] H Q := isiO I cl h (by unfold PySem.W.kitOne; rw [if_pos (by simp)]) q
end
end Nx
local macro_rules | `(tactic| walk_at "xsame1") => `(tactic| first
  | assumption
  | exact Fx.Own.same (by assumption))
local macro_rules | `(tactic| walk_at "xsame") => `(tactic| first
  | assumption
  | exact L2.Same.refl _
  | (refine' L2.Same.trans ?s1 ?s2; (case s2 => walk_at "xsame1"); (case s1 => walk_at "xsame")))
local macro_rules | `(tactic| walk_at "fact") => `(tactic| first
  | assumption
  | exact Nx.at1 (by assumption)
  | exact L2.upd_same
  | (refine' Nx.viaS ?s ?f; (case s => walk_at "xsame1"); (case f => walk_at "fact"))
  | (refine' L2.SqL.of ?f; (case f => walk_at "fact"))
  | (refine' Nx.viaL ?s ?f; (case s => walk_at "xsame1"); (case f => walk_at "fact"))
  | (refine' L2.SqT.of ?f; (case f => walk_at "fact"))
  | (refine' Nx.viaD ?s ?f; (case s => walk_at "xsame1"); (case f => walk_at "fact")))
local macro_rules | `(tactic| walk_at "run1") => `(tactic| first
  | walk_at "go1"
  | ((with_reducible refine' Gx.ixL ?hf ?ha ?_); (case hf => walk_at "fact"); (case ha => rfl))
  | ((with_reducible refine' Gx.ixT ?hf ?ha ?_); (case hf => walk_at "fact"); (case ha => rfl))
  | ((with_reducible refine' Gx.ic ?hc ?_); (case hc => walk_at "side"))
  | ((with_reducible refine' Gx.gtup ?hf ?ha ?_); (case hf => walk_at "fact"); (case ha => rfl))
  | walk_at "run2")
local macro_rules | `(tactic| walk_at "run2") => `(tactic| fail)
local macro_rules | `(tactic| walk_at "run") => `(tactic| repeat walk_at "run1")
local macro_rules | `(tactic| walk_at "lit") => `(tactic| repeat (first
  | walk_at "run1"
  | with_reducible refine Gx.if_dno (by decide) ?_
  | with_reducible refine Gx.if_dy (by decide) ?_))

namespace Ch
open PySem L2
/-! a chain of two comparisons -/
noncomputable def ChP (r' : R2) (tc : TE) (y z : V) (σ : L2.St) (H : Hp) (Q : VK) : Prop := ∃ k, z = .bl k ∧ Gx.IfP k (tc σ H fun w H4 => r' y w H4 Q) (Q (.bl false) H)
theorem chain {r r' : R2} {ta tb tc : TE} {σ : L2.St} {H : Hp} {Q : VK} (q : ta σ H fun x H1 => tb σ H1 fun y H2 => r x y H2 fun z H3 => ChP r' tc y z σ H3 Q) : tChain r r' ta tb tc σ H Q := q
noncomputable instance {r r' : R2} {ta tb tc : TE} {σ : L2.St} {H : Hp} {Q : VK} : Gx.St (tChain r r' ta tb tc σ H Q) (ta σ H fun x H1 => tb σ H1 fun y H2 => r x y H2 fun z H3 => ChP r' tc y z σ H3 Q) := ⟨fun q => chain q⟩
theorem chp {r' : R2} {tc : TE} {y z : V} {σ : L2.St} {H : Hp} {Q : VK} (k : Bool) (h : z = .bl k) (q : Gx.IfP k (tc σ H fun w H4 => r' y w H4 Q) (Q (.bl false) H)) : ChP r' tc y z σ H Q := ⟨k, h, q⟩
theorem nonA {P : Prop} (q : P) : V.non = V.non ∧ P := ⟨rfl, q⟩
noncomputable instance {P : Prop} : Gx.St (V.non = V.non ∧ P) (P) := ⟨fun q => nonA q⟩
section
variable {A1 A2 : Prop} {a : Addr} {H : Hp} {Q : VK}
theorem ifN_y {inst : Decidable (V.non = V.non)} (q : A1) : Gx.IfP (@decide (V.non = V.non) inst) A1 A2 := Gx.if_y (decide_eq_true rfl) q
noncomputable instance {inst : Decidable (V.non = V.non)} : Gx.St (Gx.IfP (@decide (V.non = V.non) inst) A1 A2) (A1) := ⟨fun q => ifN_y q⟩
theorem ifN_n {inst : Decidable (V.ref a = V.non)} (q : A2) : Gx.IfP (@decide (V.ref a = V.non) inst) A1 A2 := Gx.if_n (decide_eq_false (by simp)) q
noncomputable instance {inst : Decidable (V.ref a = V.non)} : Gx.St (Gx.IfP (@decide (V.ref a = V.non) inst) A1 A2) (A2) := ⟨fun q => ifN_n q⟩
theorem ifN_i {b : Int} {inst : Decidable (V.int b = V.non)} (q : A2) : Gx.IfP (@decide (V.int b = V.non) inst) A1 A2 := Gx.if_n (decide_eq_false (by simp)) q
noncomputable instance {b : Int} {inst : Decidable (V.int b = V.non)} : Gx.St (Gx.IfP (@decide (V.int b = V.non) inst) A1 A2) (A2) := ⟨fun q => ifN_i q⟩
theorem ifN_s {b : Str} {inst : Decidable (V.str b = V.non)} (q : A2) : Gx.IfP (@decide (V.str b = V.non) inst) A1 A2 := Gx.if_n (decide_eq_false (by simp)) q
noncomputable instance {b : Str} {inst : Decidable (V.str b = V.non)} : Gx.St (Gx.IfP (@decide (V.str b = V.non) inst) A1 A2) (A2) := ⟨fun q => ifN_s q⟩
theorem nfN_y {inst : Decidable (V.non = V.non)} (q : A2) : Gx.IfP (!@decide (V.non = V.non) inst) A1 A2 := Gx.if_n (by rw [decide_eq_true rfl]; rfl) q
noncomputable instance {inst : Decidable (V.non = V.non)} : Gx.St (Gx.IfP (!@decide (V.non = V.non) inst) A1 A2) (A2) := ⟨fun q => nfN_y q⟩
theorem nfN_n {inst : Decidable (V.ref a = V.non)} (q : A1) : Gx.IfP (!@decide (V.ref a = V.non) inst) A1 A2 := Gx.if_y (by rw [decide_eq_false (by simp)]; rfl) q
noncomputable instance {inst : Decidable (V.ref a = V.non)} : Gx.St (Gx.IfP (!@decide (V.ref a = V.non) inst) A1 A2) (A1) := ⟨fun q => nfN_n q⟩
theorem nfN_i {b : Int} {inst : Decidable (V.int b = V.non)} (q : A1) : Gx.IfP (!@decide (V.int b = V.non) inst) A1 A2 := Gx.if_y (by rw [decide_eq_false (by simp)]; rfl) q
noncomputable instance {b : Int} {inst : Decidable (V.int b = V.non)} : Gx.St (Gx.IfP (!@decide (V.int b = V.non) inst) A1 A2) (A1) := ⟨fun q => nfN_i q⟩
theorem nfN_s {b : Str} {inst : Decidable (V.str b = V.non)} (q : A1) : Gx.IfP (!@decide (V.str b = V.non) inst) A1 A2 := Gx.if_y (by rw [decide_eq_false (by simp)]; rfl) q
noncomputable instance {b : Str} {inst : Decidable (V.str b = V.non)} : Gx.St (Gx.IfP (!@decide (V.str b = V.non) inst) A1 A2) (A1) := ⟨fun q => nfN_s q⟩
end
end Ch
local macro_rules | `(tactic| walk_at "run2") => `(tactic| ((with_reducible refine' Ch.chp _ ?h ?_); (case h => rfl)))

namespace Gd
open PySem L2
/-- tiles beside one another -/
noncomputable def ac (n t : Nat) : Nat := (n + t - 1) / t
theorem ac_int {n t : Nat} (ht : 0 < t) : ((n : Int) + (t : Int) - 1) / (t : Int) = ((ac n t : Nat) : Int) := by
  unfold ac
  rw [Int.natCast_ediv]
  congr 1
  omega
theorem ac_pos {n t : Nat} (hn : 0 < n) (ht : 0 < t) : 0 < ac n t := by
  unfold ac
  exact Nat.div_pos (by omega) ht
theorem ac_le {n t : Nat} (ht : 0 < t) : ac n t ≤ n := by
  unfold ac
  rcases Nat.eq_zero_or_pos n with h | h
  · subst h; rw [Nat.zero_add]; rw [Nat.div_eq_of_lt (by omega)]; exact Nat.le_refl _
  · have := Nat.div_le_of_le_mul (m := n + t - 1) (k := t) (n := n) (by
      have : t * n = t * (n - 1) + t := by rw [← Nat.mul_succ]; congr 1; omega
      have : n - 1 ≤ t * (n - 1) := Nat.le_mul_of_pos_left _ ht
      omega)
    exact this
/-- the side of the k-th tile -/
noncomputable def sd (n t k : Nat) : Nat := min t (n - k * t)
theorem ac_mul {n t k : Nat} (ht : 0 < t) (hk : k < ac n t) : k * t < n := by
  unfold ac at hk
  have h := (Nat.le_div_iff_mul_le ht).mp (Nat.succ_le_of_lt hk)
  rw [Nat.succ_mul] at h
  omega
theorem sd_int {n t k : Nat} (ht : 0 < t) (hk : k < ac n t) : (if (n : Int) - ((k * t : Nat) : Int) < (t : Int) then (n : Int) - ((k * t : Nat) : Int) else (t : Int)) = ((sd n t k : Nat) : Int) := by
  have := ac_mul ht hk
  unfold sd
  generalize k * t = m at *
  split <;> omega
/-- the columns of one tile -/
theorem side {t k : Nat} (ht : 0 < t) : ∀ n, ((List.range n).filter fun i => decide (i / t = k)) = List.range' (k * t) (sd n t k)
  | 0 => by unfold sd; rw [Nat.zero_sub, Nat.min_zero]; rfl
  | n + 1 => by
    rw [List.range_succ, List.filter_append, side ht n]
    have d1 := Nat.div_mul_le_self n t
    have d2 := Nat.lt_div_mul_add (a := n) ht
    by_cases h : n / t = k
    · rw [List.filter_cons, if_pos (decide_eq_true h)]
      subst h
      have e1 : sd n t (n / t) = n - n / t * t := by unfold sd; omega
      have e2 : sd (n + 1) t (n / t) = (n - n / t * t) + 1 := by unfold sd; omega
      rw [e1, e2, List.range'_concat]
      congr 2
      omega
    · rw [List.filter_cons, if_neg (by simpa using h)]
      have e : sd (n + 1) t k = sd n t k := by
        unfold sd
        rcases Nat.lt_or_ge n (k * t) with z | z
        · omega
        · have : k < n / t := by
            rcases Nat.lt_trichotomy (n / t) k with y | y | y
            · have := (Nat.div_lt_iff_lt_mul ht).mp y; omega
            · exact absurd y h
            · exact y
          have g := (Nat.le_div_iff_mul_le ht).mp (Nat.succ_le_of_lt this)
          rw [Nat.succ_mul] at g
          omega
      rw [e]
      show List.range' _ _ ++ [] = _
      rw [List.append_nil]
theorem sd_pos {n t k : Nat} (ht : 0 < t) (hk : k < ac n t) : 0 < sd n t k := by
  have := ac_mul ht hk
  unfold sd; omega
end Gd

namespace Gy
open PySem L2
/-- the gray bit of v in plane p -/
noncomputable def gb (v p : Nat) : Nat := (v / 2 ^ p + v / 2 ^ (p + 1)) % 2
theorem gb_int (v p : Nat) : Builtin.bitAnd (Builtin.bitXor ((v : Int) / 2 ^ (p : Int).toNat) ((v : Int) / 2 ^ ((p : Int) + 1).toNat)) 1 = ((gb v p : Nat) : Int) := by
  have e1 : (p : Int).toNat = p := rfl
  have e2 : ((p : Int) + 1).toNat = p + 1 := by omega
  have c (k : Nat) : (v : Int) / 2 ^ k = ((v / 2 ^ k : Nat) : Int) := by
    rw [Int.natCast_ediv, Int.natCast_pow]; rfl
  rw [e1, e2, c, c, Bits.bitXor_pp (Int.natCast_nonneg _) (Int.natCast_nonneg _), Int.toNat_natCast, Int.toNat_natCast]
  have h := Bits.bitAnd_mask (x := ((v / 2 ^ p ^^^ v / 2 ^ (p + 1) : Nat) : Int)) 1 (Int.natCast_nonneg _)
  rw [show (2 : Int) ^ 1 - 1 = 1 by decide] at h
  rw [h]
  have x := @Nat.xor_mod_two_eq_one (v / 2 ^ p) (v / 2 ^ (p + 1))
  unfold gb
  omega
theorem gb_le (v p : Nat) : gb v p ≤ 1 := by unfold gb; omega
/-- the value of gray bits from the highest plane on -/
noncomputable def vstep (v g : Nat) : Nat := v * 2 + (g ^^^ v % 2)
noncomputable def val (gs : List Nat) : Nat := gs.foldl vstep 0
theorem pw (p : Nat) : (1 : Int) * 2 ^ ((p : Nat) : Int).toNat = ((2 ^ p : Nat) : Int) := by
  rw [Int.toNat_natCast, Int.one_mul, Int.natCast_pow]; rfl
theorem dw {v : Int} {p : Nat} (h : p ≤ 8000) : CDivW v ((2 ^ p : Nat) : Int) := by
  refine wide_div (b := p + 1) ?_ ?_ (Nat.succ_pos _) (by omega)
  · exact Int.natCast_pos.mpr (Nat.two_pow_pos p)
  · rw [Int.natAbs_natCast]; exact Nat.pow_lt_pow_right (by decide) (Nat.lt_succ_self p)
end Gy

namespace Bx
open PySem L2
/-- a box of drawn digits: the list b holds the list p of ints and a place; all of H0 stands beside -/
structure Box (H0 H : Hp) (b p : Addr) (xs : List Int) : Prop where
  same : Same H0 H
  nb : H0 b = none
  np : H0 p = none
  bx : ∃ k : Nat, H b = some (.lst [.ref p, .int (k : Int)])
  dg : H p = some (.lst (xs.map V.int))
theorem Box.ne {H0 H : Hp} {b p : Addr} {xs : List Int} (B : Box H0 H b p xs) : p ≠ b := by
  obtain ⟨k, hk⟩ := B.bx
  intro e
  rw [← e, B.dg] at hk
  have h := Option.some.inj hk
  cases xs with
  | nil => cases h
  | cons x xs => cases h
/-- a new object beside -/
theorem Box.new {H0 H : Hp} {b p c : Addr} {xs : List Int} {o : HO} (B : Box H0 H b p xs) (hc : H c = none) : Box (upd H0 c o) (upd H c o) b p xs := by
  obtain ⟨k, hk⟩ := B.bx
  have h1 : b ≠ c := ne_of_none hk hc
  have h2 : p ≠ c := ne_of_none B.dg hc
  refine ⟨fun a u e => ?_, by rw [upd_ne h1]; exact B.nb, by rw [upd_ne h2]; exact B.np, ⟨k, by rw [upd_ne h1]; exact hk⟩, by rw [upd_ne h2]; exact B.dg⟩
  by_cases ha : a = c
  · subst ha; rw [upd_same] at e ⊢; exact e
  · rw [upd_ne ha] at e ⊢; exact B.same a u e
/-- what was made beside, in a heap that keeps all -/
theorem Box.keep {H0 H H' : Hp} {b p : Addr} {xs : List Int} (B : Box H0 H b p xs) (s : Same H H') : Box H0 H' b p xs := by
  obtain ⟨k, hk⟩ := B.bx
  exact ⟨B.same.trans s, B.nb, B.np, ⟨k, s _ _ hk⟩, s _ _ B.dg⟩
end Bx

namespace Nx
open PySem L2 Fx
section
variable {K : PySem.W.Frag} {R H S R0 R1 R2 S1 S2 H1 H2 H3 : Hp} {a b p l : Addr} {o u : HO} {xs ys : List V} {σ : L2.St} {Q : VK} {E : XK} {v : V}
/-- a box of drawn digits -/
structure Bo (R H : Hp) (b p : Addr) (xs : List Int) : Prop where
  bx : ∃ k : Nat, Own R H (one b (.lst [.ref p, .int (k : Int)]))
  dg : R p = some (.lst (xs.map V.int))
variable {ns : List Int}
theorem Bo.same (B : Bo R H b p ns) : Same R H := let ⟨_, O⟩ := B.bx; O.same
theorem Bo.new (B : Bo R H b p ns) (h : H a = none) : R a = none ∧ Bo (upd R a o) (upd H a o) b p ns := by
  obtain ⟨⟨k, O⟩, d⟩ := B
  exact ⟨(O.non h).1, ⟨k, Nx.new O h⟩, (Gx.same_new (O.non h).1) _ _ d⟩
theorem lstB (h : xs.length ≤ sizeLine) (B : Bo R H b p ns) (q : ∀ l R' H', R l = none → Bo R' H' b p ns → Same R R' → R' l = some (.lst xs) → Q (.ref l) H') : Gx.LstP xs H Q := Gx.lstP h fun l hp => q l _ _ (B.new hp (o := .lst xs)).1 (B.new hp).2 (Gx.same_new (B.new hp (o := .lst xs)).1) upd_same
/-- any rule that makes one new object -/
theorem Bo.made (B : Bo R H b p ns) (q : ∀ l R' H', R l = none → Bo R' H' b p ns → Same R R' → R' l = some o → Q (.ref l) H') : ∀ l, H l = none → Q (.ref l) (upd H l o) := fun l hl => q l _ _ (B.new hl (o := o)).1 (B.new hl).2 (Gx.same_new (B.new hl (o := o)).1) upd_same
variable {b0 : Addr}
theorem Bo.start (hb : H b = none) (hp : H p = some (.lst (ns.map V.int))) : Bo H (upd H b (.lst [.ref p, .int 0])) b p ns := ⟨⟨0, top1 hb⟩, hp⟩
theorem Bo.old (B : Bo R H b p ns) : Bx.Box (fun a => if a = p then none else R a) H b p ns := by
  obtain ⟨⟨k, O⟩, d⟩ := B
  exact ⟨fun a x e => by
    by_cases c : a = p
    · rw [if_pos c] at e; cases e
    · rw [if_neg c] at e; exact O.same a x e, by
    by_cases c : b = p
    · rw [if_pos c]
    · rw [if_neg c]; exact no1 O, if_pos rfl, ⟨k, at1 O⟩, O.same _ _ d⟩
theorem Bo.again (B : Bo R H b p ns) {G H' : Hp} (B' : Bx.Box G H' b p ns) (kp : ∀ c, c ≠ b → H' c = H c) : Bo R H' b p ns := by
  obtain ⟨⟨k, O⟩, d⟩ := B
  obtain ⟨j, hj⟩ := B'.bx
  exact ⟨⟨j, mk1 (no1 O) trivial hj fun c hc => (kp c hc).trans (off1 O hc)⟩, d⟩
/-- behind a call that leaves all that stands: a part R' that holds what is new -/
theorem Bo.grow (B : Bo R H b p ns) (s : Same H H1) : ∃ R', Bo R' H1 b p ns ∧ Same R R' ∧ ∀ a o, H a = none → H1 a = some o → R' a = some o := by
  obtain ⟨⟨k, O⟩, d⟩ := B
  have hs : Same R (fun a => if a = b then none else H1 a) := fun a x e => by
    by_cases c : a = b
    · rw [c, no1 O] at e; cases e
    · show (if a = b then none else H1 a) = some x
      rw [if_neg c]; exact s _ _ (O.same _ _ e)
  refine ⟨fun a => if a = b then none else H1 a, ⟨⟨k, mk1 (if_pos rfl) trivial (s _ _ (at1 O)) fun c hc => (if_neg hc).symm⟩, hs _ _ d⟩, hs, fun a x e q => ?_⟩
  have c : a ≠ b := fun c => by rw [c, at1 O] at e; cases e
  show (if a = b then none else H1 a) = some x
  rw [if_neg c]; exact q
theorem Bo.step (B : Bo R H b p ns) : ∃ S, Own R H S ∧ ∀ R' H', Own R' H' S → Same R R' → Bo R' H' b p ns := by
  obtain ⟨⟨k, O⟩, d⟩ := B
  exact ⟨_, O, fun R' H' O' s => ⟨⟨k, O'⟩, s _ _ d⟩⟩
end
end Nx
local macro_rules | `(tactic| walk_at "xsame1") => `(tactic| exact Nx.Bo.same (by assumption))
local macro_rules | `(tactic| walk_at "fact") => `(tactic| exact Nx.Bo.dg (by assumption))

namespace Pq
open PySem L2
/-- the rows of a picture: whether they are right -/
noncomputable def rowOk (n d : Nat) (r : List Int) : Prop := r.length = n ∧ ∀ z ∈ r, 0 ≤ z ∧ z < ((2 ^ d : Nat) : Int)
noncomputable def rowsOk (n d c : Nat) (rows : List (List Int)) : Prop := rows.length = c ∧ ∀ r ∈ rows, rowOk n d r
noncomputable instance (n d : Nat) (r : List Int) : Decidable (rowOk n d r) := inferInstanceAs (Decidable (_ ∧ _))
noncomputable instance (n d c : Nat) (rows : List (List Int)) : Decidable (rowsOk n d c rows) := inferInstanceAs (Decidable (_ ∧ _))
noncomputable def pictBad (w h d c : Int) (rows : List (List Int)) : Option Str := match Sx.kindBad w h d c with
  | some z => some z
  | none => if w * h * c > 3072 then some "size" else if rowsOk (w * h).toNat d.toNat c.toNat rows then none else some "values"
/-- rows as they stand -/
noncomputable def RW (H : Hp) (l : Addr) (rows : List (List Int)) : Prop := Gx.LL H l rows.length (fun j => rows.getD j [])
theorem RW.keep {H H' : Hp} {l : Addr} {rows : List (List Int)} (x : RW H l rows) (s : Same H H') : RW H' l rows := Gx.LL.keep x s
theorem RW.all {H : Hp} {l : Addr} {rows : List (List Int)} (x : RW H l rows) : ∃ xs, H l = some (.lst xs) ∧ xs.length = rows.length ∧ ∀ j v, xs[j]? = some v → ∃ a, v = .ref a ∧ j < rows.length ∧ H a = some (.lst ((rows.getD j []).map V.int)) := by
  obtain ⟨ps, h1, h2, h3⟩ := x
  refine ⟨_, h1, by rw [List.length_map]; exact h2, fun j v e => ?_⟩
  rw [List.getElem?_map] at e
  cases ea : ps[j]? with
  | none => rw [ea] at e; cases e
  | some a =>
    rw [ea] at e
    have hj := (List.getElem?_eq_some_iff.mp ea).1
    exact ⟨a, (Option.some.inj e).symm, by omega, h3 j a ea⟩
theorem rowsAt {rows : List (List Int)} {j : Nat} (h : j < rows.length) : rows.getD j [] ∈ rows := by
  rw [List.getD_eq_getElem?_getD, List.getElem?_eq_getElem h]; exact List.getElem_mem h
theorem eqvRows : ∀ xs ys : List (List Int), PyData.eqvAll (xs.map fun r => PyData.list (r.map PyData.int)) (ys.map fun r => PyData.list (r.map PyData.int)) = decide (xs = ys)
  | [], [] => by simp [PyData.eqvAll]
  | [], _ :: _ => by simp [PyData.eqvAll]
  | _ :: _, [] => by simp [PyData.eqvAll]
  | x :: xs, y :: ys => by
    simp only [List.map_cons, PyData.eqvAll, PyData.eqv, eqvRows xs ys, Gx.eqvAll_int]
    by_cases h : x = y
    · subst h; simp
    · simp [h]
theorem rows_range (rows : List (List Int)) : (List.range rows.length).map (fun j => rows.getD j []) = rows := by
  refine List.ext_getElem (by simp) fun i h1 h2 => ?_
  rw [List.getElem_map, List.getElem_range, List.getD_eq_getElem?_getD, List.getElem?_eq_getElem h2]; rfl
theorem RW.dp {K : PySem.W.Frag} {H : Hp} {l : Addr} {rows : List (List Int)} (x : RW H l rows) : Dp K H (.ref l) (.list (rows.map fun r => PyData.list (r.map PyData.int))) := by
  have := Gx.LL.dp (K := K) x
  rw [rows_range] at this
  exact this
theorem eqRW {K : PySem.W.Frag} {H : Hp} {Q : VK} {l m : Addr} {xs ys : List (List Int)} (x : RW H l xs) (y : RW H m ys) (q : Q (.bl (decide (xs = ys))) H) : rEqD K (.ref l) (.ref m) H Q :=
  ⟨_, _, x.dp, y.dp, Gx.shaped_lists _, Gx.shaped_lists _, by rw [show PyData.eqv (.list (xs.map fun r => PyData.list (r.map PyData.int))) (.list (ys.map fun r => PyData.list (r.map PyData.int))) = decide (xs = ys) from eqvRows xs ys]; exact q⟩
theorem RW.of {H : Hp} {l : Addr} {n : Nat} {f : Nat → List Int} {rows : List (List Int)} (x : Gx.LL H l n f) (hn : rows.length = n) (e : ∀ j, j < n → f j = rows.getD j []) : RW H l rows := by
  subst hn
  exact Gx.LL.congr x e
/-- new rows, all different -/
noncomputable def LN (H0 H : Hp) (l : Addr) (n : Nat) (f : Nat → List Int) : Prop := ∃ ps : List Addr, H l = some (.lst (ps.map V.ref)) ∧ ps.length = n ∧ ps.Nodup ∧ (∀ a ∈ ps, H0 a = none ∧ a ≠ l) ∧ ∀ j a, ps[j]? = some a → H a = some (.lst ((f j).map V.int))
theorem LN.ll {H0 H : Hp} {l : Addr} {n : Nat} {f : Nat → List Int} (x : LN H0 H l n f) : Gx.LL H l n f := by
  obtain ⟨ps, h1, h2, _, _, h5⟩ := x
  exact ⟨ps, h1, h2, h5⟩
theorem lcLN {K : PySem.W.Frag} {σ : L2.St} {H : Hp} {Q : VK} {t : TT} {te : TE} {J : It} {n : Nat} {G : Hp → Prop} {Y : Nat → Hp → V → Hp → Prop} {g : TG} {vs : List Nat} (w : Walk J n G Y) (hn : n < 16777216) (f : Nat → List Int) (hG : ∀ H', Same H H' → G H') (hY : ∀ i H x H', Y i H x H' → Same H H')
    (hs : ∀ i x H1 H' (R : V → Hp → Prop) (R0 : Hp → Prop), i < n → Same H H1 → Y i H1 x H' → (∀ p H4, H' p = none → Same H' H4 → H4 p = some (.lst ((f i).map V.int)) → R (.ref p) H4) →
      g x (wipe σ vs) H' fun σ2 H2 => Gx.WP (wipe σ2 vs = wipe σ vs) (t σ2 H2 fun b H3 => Gx.IfP b (te σ2 H3 R) (R0 H3)))
    (q : ∀ p H2, H p = none → Same H H2 → LN H H2 p n f → Q (.ref p) H2) : Gx.LcP J g t te vs σ Q H := fun p hp => by
  refine lc_it w (fun i H' => Same H H' ∧ LN H H' p i f) ⟨Gx.same_new hp, [], upd_same, rfl, List.nodup_nil, (fun a h => nomatch h), fun j a e => nomatch e⟩ (fun i H' _ h => hG H' h.1) (fun i x H1 H' hi h y => ?_) (fun H' h => q p H' hp h.1 h.2)
  obtain ⟨h1, ps, e1, e2, e3, e4, e5⟩ := h
  have s1 := hY i H1 x H' y
  refine hs i x H1 H' _ _ hi h1 y (fun a H4 hf s4 ha => ?_)
  have hap : a ≠ p := (ne_of_none (s1 _ _ e1) hf).symm
  have hnm : a ∉ ps := fun hm => by
    obtain ⟨j, hj⟩ := List.getElem?_of_mem hm
    have := s1 _ _ (e5 j a hj)
    rw [hf] at this; cases this
  refine ⟨ps.map V.ref, s4 _ _ (s1 _ _ e1), by rw [List.length_map, sizeLine_eq]; omega, Gx.same_up hp (h1.trans (s1.trans s4)), ps ++ [a], by rw [upd_same, List.map_append]; rfl, by rw [List.length_append, e2]; rfl, ?_, fun b hb => ?_, fun j b eb => ?_⟩
  · refine List.nodup_append.mpr ⟨e3, List.pairwise_singleton _ _, fun b hb c hc => ?_⟩
    rw [List.mem_singleton.mp hc]
    rintro rfl
    exact hnm hb
  · rcases List.mem_append.mp hb with hb | hb
    · exact e4 b hb
    · rw [List.mem_singleton.mp hb]
      exact ⟨h1.free (s1.free hf), hap⟩
  · by_cases hj : j < ps.length
    · rw [List.getElem?_append_left hj] at eb
      rw [upd_ne (e4 b (List.mem_of_getElem? eb)).2]
      exact s4 _ _ (s1 _ _ (e5 j b eb))
    · rw [List.getElem?_append_right (by omega)] at eb
      have hj2 : j - ps.length = 0 := by
        rcases Nat.eq_zero_or_pos (j - ps.length) with z | z
        · exact z
        · rw [List.getElem?_eq_none (by show 1 ≤ _; omega)] at eb; cases eb
      rw [hj2] at eb
      cases eb
      rw [upd_ne hap, show j = i by omega]; exact ha
/-- one number of one row changed -/
theorem LN.put {H0 H : Hp} {l : Addr} {n j k : Nat} {f : Nat → List Int} {z : Int} (x : LN H0 H l n f) (hj : j < n) : ∃ xs a, H l = some (.lst xs) ∧ atI xs (j : Int) = some (.ref a) ∧ H a = some (.lst ((f j).map V.int)) ∧ H0 a = none ∧ LN H0 (upd H a (.lst (((f j).set k z).map V.int))) l n (fun i => if i = j then (f j).set k z else f i) := by
  obtain ⟨ps, e1, e2, e3, e4, e5⟩ := x
  have hj2 : j < ps.length := by omega
  have ha := e5 j _ (List.getElem?_eq_getElem hj2)
  have hm := e4 _ (List.getElem_mem hj2)
  refine ⟨_, ps[j], e1, atI_nat (by rw [List.getElem?_map, List.getElem?_eq_getElem hj2]; rfl), ha, hm.1, ps, by rw [upd_ne (Ne.symm hm.2)]; exact e1, e2, e3, e4, fun i b eb => ?_⟩
  dsimp only
  by_cases hij : i = j
  · subst hij
    rw [List.getElem?_eq_getElem hj2] at eb
    cases eb
    rw [upd_same, if_pos rfl]
  · have hb : b ≠ ps[j] := fun hb => hij (by
      have hi2 := (List.getElem?_eq_some_iff.mp eb).1
      exact (List.getElem?_inj hi2 e3).mp (by rw [eb, List.getElem?_eq_getElem hj2, hb]))
    rw [upd_ne hb, if_neg hij]; exact e5 i b eb
theorem set_ok {n d c j k : Nat} {z : Int} {f : List (List Int)} (ok : rowsOk n d c f) (hj : j < c) (hz : 0 ≤ z ∧ z < ((2 ^ d : Nat) : Int)) : rowsOk n d c (f.set j ((f.getD j []).set k z)) := by
  have hjf : j < f.length := by have := ok.1; omega
  refine ⟨by rw [List.length_set]; exact ok.1, fun r hr => ?_⟩
  rcases List.mem_or_eq_of_mem_set hr with h | h
  · exact ok.2 r h
  · have o := ok.2 _ (rowsAt hjf)
    rw [h]
    refine ⟨by rw [List.length_set]; exact o.1, fun y hy => ?_⟩
    rcases List.mem_or_eq_of_mem_set hy with g | g
    · exact o.2 y g
    · rw [g]; exact hz
theorem set_rows {j k : Nat} {z : Int} {f : List (List Int)} (hj : j < f.length) : (fun i => if i = j then ((f.getD j []).set k z) else f.getD i []) = fun i => (f.set j ((f.getD j []).set k z)).getD i [] := by
  funext i
  by_cases h : i = j
  · subst h
    rw [if_pos rfl, List.getD_eq_getElem?_getD (l := f.set _ _), List.getElem?_set_self hj]; rfl
  · rw [if_neg h, List.getD_eq_getElem?_getD, List.getD_eq_getElem?_getD, List.getElem?_set_ne (fun e => h e.symm)]
/-- rows and where they stand -/
noncomputable def RP (H : Hp) : List Addr → List (List Int) → Prop
  | [], [] => True
  | a :: ps, r :: rs => H a = some (.lst (r.map V.int)) ∧ RP H ps rs
  | _, _ => False
theorem RP.of {H : Hp} : ∀ {ps : List Addr} {rows : List (List Int)}, ps.length = rows.length → (∀ j a, ps[j]? = some a → H a = some (.lst ((rows.getD j []).map V.int))) → RP H ps rows
  | [], [], _, _ => trivial
  | a :: ps, r :: rs, hl, h => ⟨h 0 a rfl, RP.of (Nat.succ.inj hl) fun j b e => by have := h (j + 1) b (by simpa using e); simpa using this⟩
  | [], _ :: _, hl, _ => by cases hl
  | _ :: _, [], hl, _ => by cases hl
theorem RP.to {H : Hp} : ∀ {ps : List Addr} {rows : List (List Int)}, RP H ps rows → ps.length = rows.length ∧ ∀ j a, ps[j]? = some a → H a = some (.lst ((rows.getD j []).map V.int))
  | [], [], _ => ⟨rfl, fun j a e => by cases e⟩
  | a :: ps, r :: rs, h => by
    obtain ⟨h1, h2⟩ := RP.to h.2
    refine ⟨congrArg (· + 1) h1, fun j b e => ?_⟩
    cases j with
    | zero => cases e; exact h.1
    | succ j => have := h2 j b (by simpa using e); simpa using this
  | [], _ :: _, h => h.elim
  | _ :: _, [], h => h.elim
theorem RP.app {H : Hp} : ∀ {ps qs : List Addr} {rows rs : List (List Int)}, RP H ps rows → RP H qs rs → RP H (ps ++ qs) (rows ++ rs)
  | [], _, [], _, _, h => h
  | _ :: _, _, _ :: _, _, h, g => ⟨h.1, RP.app h.2 g⟩
  | [], _, _ :: _, _, h, _ => h.elim
  | _ :: _, _, [], _, h, _ => h.elim
theorem RP.take {H : Hp} : ∀ {k : Nat} {ps : List Addr} {rows : List (List Int)}, RP H ps rows → RP H (ps.take k) (rows.take k)
  | 0, _, _, _ => trivial
  | _ + 1, [], [], _ => trivial
  | _ + 1, _ :: _, _ :: _, h => ⟨h.1, RP.take h.2⟩
  | _ + 1, [], _ :: _, h => h.elim
  | _ + 1, _ :: _, [], h => h.elim
theorem RP.keep {H H' : Hp} (s : Same H H') : ∀ {ps : List Addr} {rows : List (List Int)}, RP H ps rows → RP H' ps rows
  | [], [], _ => trivial
  | _ :: _, _ :: _, h => ⟨s _ _ h.1, RP.keep s h.2⟩
  | [], _ :: _, h => h.elim
  | _ :: _, [], h => h.elim
theorem RW.rp {H : Hp} {l : Addr} {rows : List (List Int)} (x : RW H l rows) : ∃ ps : List Addr, H l = some (.lst (ps.map V.ref)) ∧ RP H ps rows := by
  obtain ⟨ps, h1, h2, h3⟩ := x
  exact ⟨ps, h1, RP.of h2 h3⟩
theorem RP.rw {H : Hp} {l : Addr} {ps : List Addr} {rows : List (List Int)} (h : H l = some (.lst (ps.map V.ref))) (x : RP H ps rows) : RW H l rows := ⟨ps, h, x.to.1, x.to.2⟩
theorem LN.down {H0 H R : Hp} {l : Addr} {n : Nat} {f : Nat → List Int} (x : LN H0 H l n f) (hl : H0 l = none) (g : ∀ a o, H0 a = none → H a = some o → R a = some o) : Gx.LL R l n f := by
  obtain ⟨ps, h1, h2, _, h4, h5⟩ := x
  exact ⟨ps, g _ _ hl h1, h2, fun j a e => g _ _ (h4 a (List.mem_of_getElem? e)).1 (h5 j a e)⟩
theorem rowOk_getD {n d c j : Nat} {f : List (List Int)} (ok : rowsOk n d c f) (h : j < c) : rowOk n d (f.getD j []) := ok.2 _ (rowsAt (by have := ok.1; omega))
theorem rowsOk_range {n d c : Nat} {f : Nat → List Int} (h : ∀ j, j < c → (f j).length = n ∧ ∀ z ∈ f j, 0 ≤ z ∧ z < ((2 ^ d : Nat) : Int)) : rowsOk n d c ((List.range c).map f) := by
  refine ⟨by simp, fun r hr => ?_⟩
  obtain ⟨j, hj, rfl⟩ := List.mem_map.mp hr
  exact h j (List.mem_range.mp hj)
theorem getD_range {c j : Nat} {f : Nat → List Int} (h : j < c) : ((List.range c).map f).getD j [] = f j := by
  rw [List.getD_eq_getElem?_getD, List.getElem?_map, List.getElem?_range h]; rfl
theorem LN.keep {H0 H H' : Hp} {l : Addr} {n : Nat} {f : Nat → List Int} (x : LN H0 H l n f) (s : Same H H') : LN H0 H' l n f := by
  obtain ⟨ps, h1, h2, h3, h4, h5⟩ := x
  exact ⟨ps, s _ _ h1, h2, h3, h4, fun j a e => s _ _ (h5 j a e)⟩
/-- one row taken to be changed -/
theorem LN.back {H0 H1 H : Hp} {l : Addr} {n : Nat} {f : Nat → List Int} (x : LN H1 H l n f) (s : Same H0 H1) : LN H0 H l n f := by
  obtain ⟨ps, h1, h2, h3, h4, h5⟩ := x
  exact ⟨ps, h1, h2, h3, fun a ha => ⟨s.free (h4 a ha).1, (h4 a ha).2⟩, h5⟩
theorem LN.at {H0 H : Hp} {l : Addr} {n j : Nat} {f : Nat → List Int} (x : LN H0 H l n f) (hj : j < n) : ∃ xs a, H l = some (.lst xs) ∧ xs.length = n ∧ atI xs (j : Int) = some (.ref a) ∧ H a = some (.lst ((f j).map V.int)) ∧ H0 a = none ∧ a ≠ l ∧ ∀ (H' : Hp) (ys : List Int), Same H H' → LN H0 (upd H' a (.lst (ys.map V.int))) l n (fun i => if i = j then ys else f i) := by
  obtain ⟨ps, e1, e2, e3, e4, e5⟩ := x
  have hj2 : j < ps.length := by omega
  have ha := e5 j _ (List.getElem?_eq_getElem hj2)
  have hm := e4 _ (List.getElem_mem hj2)
  refine ⟨_, ps[j], e1, by rw [List.length_map]; exact e2, atI_nat (by rw [List.getElem?_map, List.getElem?_eq_getElem hj2]; rfl), ha, hm.1, hm.2, fun H' ys s => ⟨ps, by rw [upd_ne (Ne.symm hm.2)]; exact s _ _ e1, e2, e3, e4, fun i b eb => ?_⟩⟩
  dsimp only
  by_cases hij : i = j
  · subst hij
    rw [List.getElem?_eq_getElem hj2] at eb
    cases eb
    rw [upd_same, if_pos rfl]
  · have hb : b ≠ ps[j] := fun hb => hij (by
      have hi2 := (List.getElem?_eq_some_iff.mp eb).1
      exact (List.getElem?_inj hi2 e3).mp (by rw [eb, List.getElem?_eq_getElem hj2, hb]))
    rw [upd_ne hb, if_neg hij]; exact s _ _ (e5 i b eb)
/-- a row more, a row less -/
theorem LN.more {H0 H H' : Hp} {l t : Addr} {f : List (List Int)} {ys : List Int} (x : LN H0 H l f.length (fun j => f.getD j [])) (s : Same H H') (ht : H' t = some (.lst (ys.map V.int))) (ne : t ≠ l) : ∃ xs, H l = some (.lst xs) ∧ xs.length = f.length ∧ RW (upd H' l (.lst (xs ++ [.ref t]))) l (f ++ [ys]) := by
  obtain ⟨ps, h1, h2, h3, h4, h5⟩ := x
  refine ⟨_, h1, by rw [List.length_map]; exact h2, RP.rw (ps := ps ++ [t]) (by rw [upd_same, List.map_append]; rfl) (RP.app (RP.of h2 fun j a e => ?_) ⟨by rw [upd_ne ne]; exact ht, trivial⟩)⟩
  rw [upd_ne (h4 a (List.mem_of_getElem? e)).2]
  exact s _ _ (h5 j a e)
theorem LN.less {H0 H H' : Hp} {l : Addr} {f : List (List Int)} (x : LN H0 H l f.length (fun j => f.getD j [])) (s : Same H H') (hf : 1 ≤ f.length) : ∃ xs y, H l = some (.lst xs) ∧ xs[xs.length - 1]? = some y ∧ RW (upd H' l (.lst xs.dropLast)) l f.dropLast := by
  obtain ⟨ps, h1, h2, h3, h4, h5⟩ := x
  have hp : ps.length - 1 < ps.length := by omega
  refine ⟨_, .ref ps[ps.length - 1], h1, by rw [List.length_map, List.getElem?_map, List.getElem?_eq_getElem hp]; rfl, RP.rw (ps := ps.dropLast) (by rw [upd_same, List.map_dropLast]) ?_⟩
  rw [List.dropLast_eq_take (l := ps), List.dropLast_eq_take (l := f), h2]
  refine RP.take (RP.of h2 fun j a e => ?_)
  rw [upd_ne (h4 a (List.mem_of_getElem? e)).2]
  exact s _ _ (h5 j a e)
end Pq

namespace Gd
end Gd

namespace Gd
/-- the k-th key: channel, tile, plane -/
noncomputable def ky (T c d k : Nat) : List Int := [(k : Int) / (T : Int) % (c : Int), (k : Int) % (T : Int), (d : Int) - 1 - (k : Int) / (T : Int) / (c : Int)]
theorem ky_of {T c d i j l : Nat} (hj : j < c) (hl : l < T) : ky T c d ((i * c + j) * T + l) = [(j : Int), (l : Int), (d : Int) - 1 - (i : Int)] := by
  have e1 : ((i * c + j) * T + l) / T = i * c + j := by
    rw [Nat.mul_comm, Nat.mul_add_div (by omega), Nat.div_eq_of_lt hl, Nat.add_zero]
  have e2 : ((i * c + j) * T + l) % T = l := by rw [Nat.mul_comm, Nat.mul_add_mod, Nat.mod_eq_of_lt hl]
  have e3 : (i * c + j) / c = i := by rw [Nat.mul_comm, Nat.mul_add_div (by omega), Nat.div_eq_of_lt hj, Nat.add_zero]
  have e4 : (i * c + j) % c = j := by rw [Nat.mul_comm, Nat.mul_add_mod, Nat.mod_eq_of_lt hj]
  unfold ky
  rw [← Int.natCast_ediv, ← Int.natCast_emod, ← Int.natCast_emod, ← Int.natCast_ediv, e1, e2, e3, e4]
theorem ky_at {T c d k : Nat} (hc : 0 < c) : ky T c d k = [((k / T % c : Nat) : Int), ((k % T : Nat) : Int), (d : Int) - 1 - ((k / T / c : Nat) : Int)] := by
  unfold ky
  rw [Int.natCast_emod, Int.natCast_emod, Int.natCast_ediv, Int.natCast_ediv, Int.natCast_ediv]
theorem ky_back {T c k : Nat} : (k / T / c * c + k / T % c) * T + k % T = k := by
  rw [Nat.div_add_mod' (k / T) c, Nat.div_add_mod' k T]
end Gd

namespace Gd
open PySem L2
/-- the m-th pixel of tile k -/
noncomputable def pix (w t k m : Nat) : Nat := (k / ac w t * t + m / sd w t (k % ac w t)) * w + (k % ac w t * t + m % sd w t (k % ac w t))
theorem made_flat (W : Nat) (hW : 0 < W) (f : Nat → Nat → V) : ∀ i, Gx.made W f i = (List.range (i * W)).map fun m => f (m / W) (m % W)
  | 0 => by simp [Gx.made]
  | i + 1 => by
    rw [Gx.made_succ, made_flat W hW f i, Nat.succ_mul, List.range_add, List.map_append, List.map_map]
    congr 1
    refine List.map_congr_left fun j hj => ?_
    have hj2 := List.mem_range.mp hj
    show f i j = f ((i * W + j) / W) ((i * W + j) % W)
    rw [Nat.mul_comm, Nat.mul_add_div hW, Nat.div_eq_of_lt hj2, Nat.add_zero, Nat.mul_add_mod, Nat.mod_eq_of_lt hj2]
section
variable {w h t k m n : Nat} (hw : 0 < w) (ht : 0 < t) (hk : k < ac w t * ac h t)
include hw ht hk
theorem rows_of (hm : m < sd h t (k / ac w t) * sd w t (k % ac w t)) : m / sd w t (k % ac w t) < sd h t (k / ac w t) ∧ m % sd w t (k % ac w t) < sd w t (k % ac w t) := by
  have p := sd_pos (n := w) ht (Nat.mod_lt k (ac_pos hw ht))
  exact ⟨Nat.div_lt_of_lt_mul (by rw [Nat.mul_comm]; exact hm), Nat.mod_lt _ p⟩
theorem pix_parts (hm : m < sd h t (k / ac w t) * sd w t (k % ac w t)) : pix w t k m / w = k / ac w t * t + m / sd w t (k % ac w t) ∧ pix w t k m % w = k % ac w t * t + m % sd w t (k % ac w t) := by
  obtain ⟨h1, h2⟩ := rows_of hw ht hk hm
  have c : k % ac w t * t + m % sd w t (k % ac w t) < w := by
    generalize m % sd w t (k % ac w t) = j at *
    unfold sd at h2; omega
  unfold pix
  rw [Nat.mul_comm, Nat.mul_add_div hw, Nat.div_eq_of_lt c, Nat.mul_add_mod, Nat.mod_eq_of_lt c]
  exact ⟨rfl, rfl⟩
theorem pix_lt (hm : m < sd h t (k / ac w t) * sd w t (k % ac w t)) : pix w t k m < w * h := by
  obtain ⟨h1, h2⟩ := rows_of hw ht hk hm
  obtain ⟨e1, e2⟩ := pix_parts hw ht hk hm
  have r : pix w t k m / w < h := by
    rw [e1]
    generalize m / sd w t (k % ac w t) = i at *
    unfold sd at h1; omega
  have := (Nat.div_lt_iff_lt_mul hw).mp r
  rw [Nat.mul_comm]; exact this
end
section
variable {w h t k m : Nat} (hw : 0 < w) (ht : 0 < t) (hk : k < ac w t * ac h t)
include hw ht hk
end
/-- all that stands but one object stands -/
noncomputable def Off (s : Addr) (H H' : Hp) : Prop := ∀ a o, H a = some o → a ≠ s → H' a = some o
theorem Off.of {s : Addr} {H H' : Hp} (e : Same H H') : Off s H H' := fun a o h _ => e a o h
theorem Off.trans {s : Addr} {H H1 H2 : Hp} (e : Off s H H1) (f : Off s H1 H2) : Off s H H2 := fun a o h n => f a o (e a o h n) n
theorem Off.up {s : Addr} {H H' : Hp} {o : HO} (e : Off s H H') : Off s H (upd H' s o) := fun a u h n => by rw [upd_ne n]; exact e a u h n
end Gd

/-! max(xs, default=d) -/
namespace Mx
open PySem PySem.Spec PyProof.Rows
section
variable {prog : Program} {w : World} {A : Around} {R : Result → Shared → Prop} {I : Addr} {fp wr : List Addr} {n : Nat} {P : Nat → Value → Prop} {St : Nat → Heap → Prop} {d : Value}
/-- the best so far, as the loop holds it: nothing, or the item twice -/
noncomputable def Held (bt : Nat → Nat → Bool) (P : Nat → Value → Prop) (j : Nat) (z : Array Value) : Prop := (j = 0 ∧ z = #[]) ∨ ∃ i v, j = i + 1 ∧ z = #[v, v] ∧ P (argBest bt i) v
noncomputable def lst_ (z : Array Value) (c : Nat) : Obj := { cls := .type "list", dict := none, data := .seq z c, slots := #[] }
theorem go (W : Walks prog w A.in1 I fp wr n P St) (bt : Nat → Nat → Bool) (hc : CmpOf prog w A.in1 .Gt P bt) (B : Addr) (hB : B ∉ fp) :
    ∀ (k j : Nat) (s : Shared) (z : Array Value) (c : Nat), n - j = k → j ≤ n → St j s.heap → Held bt P j z → s.heap.get? B = some (lst_ z c) →
    (∀ v h' tk, ((n = 0 ∧ v = d) ∨ (0 < n ∧ P (argBest bt (n - 1)) v)) → (∀ b o, b ∉ wr → b ≠ B → s.heap.get? b = some o → h'.get? b = some o) → R (.ok (.ret v)) { s with heap := h', toks := tk }) →
    codeAny (model prog w) A (.builtin "max.loop" ⟨[.ref I, .none, .ref B], [(Str.ofString "default", d)]⟩) R s := by
  have hw : B ∉ wr := fun h => hB (W.sub _ h)
  have nm : (toString "max" ++ toString ".loop" : String) = "max.loop" := by decide
  intro k
  induction k with
  | zero =>
    intro j s z c hk hj hst hh g hR
    have hin : j = n := by omega
    subst hin
    refine codeAny_builtin F.entry_max_loop ?_
    rw [Around.under_plainId F.plain_max_loop _]
    show wpAny _ A.in1 (seqItems? (.ref B) >>= _) _ _ s
    refine wpAny_bind (wpAny_seqItems g rfl ?_)
    show wpAny _ A.in1 (tryCatch (pyNext (.ref I)) _ >>= _) _ _ s
    refine wpAny_bind (wpAny_tryCatch (W.done s _ _ hst fun h' tk kp => ?_))
    have g' := kp B _ hw g
    rcases hh with ⟨h0, rfl⟩ | ⟨i, v, rfl, rfl, hv⟩
    · show wpAny _ A.in1 (rule "max.default" >>= fun _ => ret d) _ _ _
      refine wpAny_bind (wpAny_rule ?_)
      refine wpAny_pure ?_
      exact hR d h' tk (.inl ⟨h0, rfl⟩) fun b o hb _ e => kp b o hb e
    · show wpAny _ A.in1 (updateSeq B (fun _ => #[]) >>= _) _ _ _
      refine wpAny_bind ?_
      refine wpAny_updateSeq g' rfl (wpAny_bind (wpAny_letGo (wpAny_pure ?_)))
      exact hR v _ tk (.inr ⟨by omega, hv⟩) fun b o hb hbB e => (Heap.get?_update_other _ _ (Ne.symm hbB)).trans (kp b o hb e)
  | succ k ih =>
    intro j s z c hk hj hst hh g hR
    have hlt : j < n := by omega
    refine codeAny_builtin F.entry_max_loop ?_
    rw [Around.under_plainId F.plain_max_loop _]
    show wpAny _ A.in1 (seqItems? (.ref B) >>= _) _ _ s
    refine wpAny_bind (wpAny_seqItems g rfl ?_)
    show wpAny _ A.in1 (tryCatch (pyNext (.ref I)) _ >>= _) _ _ s
    refine wpAny_bind (wpAny_tryCatch (W.item j s _ _ hlt hst fun v h' tk hP hst' kp => ?_))
    have g' := kp B _ hw g
    rcases hh with ⟨h0, rfl⟩ | ⟨i, u, rfl, rfl, hu⟩
    · subst h0
      show wpAny _ A.in1 (updateSeq B (fun _ => #[v, v]) >>= _) _ _ _
      refine wpAny_bind ?_
      refine wpAny_updateSeq g' rfl ?_
      rw [nm]
      refine wpAny_pure ⟨plainId_quiet F.plain_max_loop _, ih 1 _ _ _ (by omega) hlt (W.frame _ _ _ hst' fun b hbf o e => ?_) (.inr ⟨0, v, rfl, rfl, hP⟩) (Heap.get?_update_self _ g' rfl) fun v' h'' tk'' hP' k'' => ?_⟩
      · exact (Heap.get?_update_other _ _ (fun q : B = b => hB (by rw [q]; exact hbf))).trans e
      · exact hR v' h'' tk'' hP' fun b o hb hbB e => k'' b o hb hbB ((Heap.get?_update_other _ _ (Ne.symm hbB)).trans (kp b o hb e))
    show wpAny _ A.in1 (tryCatch (holding [v, v] (richCompare .Gt v u >>= _)) _ >>= _) _ _ _
    refine wpAny_bind (wpAny_tryCatch (wpAny_holding (wpAny_bind (hc (i + 1) (argBest bt i) v u _ _ _ hP hu ?_))))
    refine wpAny_bind (wpAny_holding (wpAny_truthy_bool ?_))
    refine wpAny_bind (wpAny_letGo (wpAny_pure ?_))
    cases hb : bt (i + 1) (argBest bt i) with
    | true =>
      simp only [if_true]
      refine wpAny_bind ?_
      refine wpAny_updateSeq g' rfl (wpAny_bind (wpAny_letGo ?_))
      rw [nm]
      refine wpAny_pure ⟨plainId_quiet F.plain_max_loop _, ih (i + 1 + 1) _ _ _ (by omega) hlt (W.frame _ _ _ hst' fun b hbf o e => ?_) (.inr ⟨i + 1, v, rfl, rfl, by simp only [argBest, hb, if_true]; exact hP⟩) (Heap.get?_update_self _ g' rfl) fun v' h'' tk'' hP' k'' => ?_⟩
      · exact (Heap.get?_update_other _ _ (fun q : B = b => hB (by rw [q]; exact hbf))).trans e
      · exact hR v' h'' tk'' hP' fun b o hb hbB e => k'' b o hb hbB ((Heap.get?_update_other _ _ (Ne.symm hbB)).trans (kp b o hb e))
    | false =>
      simp only [Bool.false_eq_true, if_false]
      refine wpAny_bind (wpAny_letGo ?_)
      rw [nm]
      refine wpAny_pure ⟨plainId_quiet F.plain_max_loop _, ih (i + 1 + 1) _ _ c (by omega) hlt hst' (.inr ⟨i + 1, u, rfl, rfl, by simp only [argBest, hb, Bool.false_eq_true, if_false]; exact hu⟩) g' fun v' h'' tk'' hP' k'' => ?_⟩
      exact hR v' h'' tk'' hP' fun b o hb hbB e => k'' b o hb hbB (kp b o hb e)
end
section
variable {prog : Program} {w : World} {A : Around} {E : Value → Shared → Prop} {s : Shared} {l : Addr} {xs : Array (Int × Tok)} {d : Value}
end
end Mx
namespace Mx
open PySem L2 PyProof.Rows
variable {X : Cx}
section
variable {K : PySem.W.Frag} {σ : L2.St} {H : Hp} {Q : VK} {tr tk : TA}
theorem ckw {r : List V → List V → Hp → VK → Prop} (q : tr σ H fun vs H1 => tk σ H1 fun zs H2 => r vs zs H2 Q) : tCKw r tr tk σ H Q := q
noncomputable instance {r : List V → List V → Hp → VK → Prop} : Gx.St (tCKw r tr tk σ H Q) (tr σ H fun vs H1 => tk σ H1 fun zs H2 => r vs zs H2 Q) := ⟨fun q => ckw q⟩
end
end Mx

namespace Rg
open PySem L2 Gd
/-- the bounds of a frame's numbers -/
structure Dim (w h d c t : Nat) : Prop where
  w1 : 1 ≤ w
  w2 : w ≤ 64
  h1 : 1 ≤ h
  h2 : h ≤ 64
  d1 : 1 ≤ d
  d2 : d ≤ 8
  c1 : c = 1 ∨ c = 3
  t1 : 1 ≤ t
  t2 : t ≤ 16
  sz : w * h * c ≤ 3072
theorem Dim.ok {w h d c t : Nat} (D : Dim w h d c t) : Gd.ac w t ≤ 64 ∧ Gd.ac h t ≤ 64 ∧ 0 < Gd.ac w t ∧ 0 < Gd.ac h t ∧ 0 < Gd.ac w t * Gd.ac h t ∧ Gd.ac w t * Gd.ac h t ≤ 64 * 64 ∧ 1 ≤ c ∧ c ≤ 3 ∧ 0 < w * h ∧ w * h ≤ 64 * 64 := by
  obtain ⟨a1, a2, a3, a4, a5, a6, a7, a8, a9, a10⟩ := D
  have l1 := ac_le (n := w) (t := t) (by omega)
  have l2 := ac_le (n := h) (t := t) (by omega)
  have p1 := ac_pos (n := w) (t := t) (by omega) (by omega)
  have p2 := ac_pos (n := h) (t := t) (by omega) (by omega)
  exact ⟨by omega, by omega, p1, p2, Nat.mul_pos p1 p2, Nat.mul_le_mul (by omega) (by omega), by omega, by omega, Nat.mul_pos (by omega) (by omega), Nat.mul_le_mul a2 a4⟩
noncomputable def inR (x y : Nat) (l p wd ht : Int) : Bool := decide (l ≤ (x : Int)) && decide ((x : Int) < l + wd) && (decide (p ≤ (y : Int)) && decide ((y : Int) < p + ht))
noncomputable def tileBox (w h t k : Nat) : Nat := sd h t (k / ac w t) * sd w t (k % ac w t)
theorem range_get {α : Type} (rs : List α) (z : α) : (List.range rs.length).map (fun j => rs.getD j z) = rs := by
  refine List.ext_getElem (by simp) fun i h1 h2 => ?_
  rw [List.getElem_map, List.getElem_range, List.getD_eq_getElem?_getD, List.getElem?_eq_getElem h2]; rfl
/-- a list of regions stands at l -/
noncomputable def RL (H : Hp) (l : Addr) (rs : List (List Int)) : Prop := Gx.TL H l rs.length (fun j => rs.getD j [])
theorem RL.keep {H H' : Hp} {l : Addr} {rs : List (List Int)} (x : RL H l rs) (s : Same H H') : RL H' l rs := Gx.TL.keep x s
theorem RL.all {H : Hp} {l : Addr} {rs : List (List Int)} (x : RL H l rs) : ∃ xs, H l = some (.lst xs) ∧ xs.length = rs.length ∧ ∀ j v, xs[j]? = some v → ∃ a, v = .ref a ∧ j < rs.length ∧ H a = some (.tup ((rs.getD j []).map V.int)) := by
  obtain ⟨ps, h1, h2, h3⟩ := x
  refine ⟨_, h1, by rw [List.length_map]; exact h2, fun j v e => ?_⟩
  rw [List.getElem?_map] at e
  cases ea : ps[j]? with
  | none => rw [ea] at e; cases e
  | some a =>
    rw [ea] at e
    have hj := (List.getElem?_eq_some_iff.mp ea).1
    exact ⟨a, (Option.some.inj e).symm, by omega, h3 j a ea⟩
theorem getD_mem {rs : List (List Int)} {j : Nat} (h : j < rs.length) : rs.getD j [] ∈ rs := by
  rw [List.getD_eq_getElem?_getD, List.getElem?_eq_getElem h]; exact List.getElem_mem h
/-- references told by their rows -/
noncomputable def RR (H : Hp) (xs : List V) (rs : List (List Int)) : Prop := ∃ ps : List Addr, xs = ps.map V.ref ∧ ps.length = rs.length ∧ ∀ j a, ps[j]? = some a → H a = some (.tup ((rs.getD j []).map V.int))
section
variable {H H' : Hp} {xs ys : List V} {rs qs : List (List Int)} {l : Addr}
theorem RR.keep (x : RR H xs rs) (s : Same H H') : RR H' xs rs := by
  obtain ⟨ps, h1, h2, h3⟩ := x
  exact ⟨ps, h1, h2, fun j a e => s _ _ (h3 j a e)⟩
theorem RR.len (x : RR H xs rs) : xs.length = rs.length := by
  obtain ⟨ps, rfl, h2, h3⟩ := x
  rw [List.length_map]; exact h2
theorem RR.app (x : RR H xs rs) (y : RR H ys qs) : RR H (xs ++ ys) (rs ++ qs) := by
  obtain ⟨ps, h1, h2, h3⟩ := x
  obtain ⟨zs, g1, g2, g3⟩ := y
  refine ⟨ps ++ zs, by rw [h1, g1, List.map_append], by rw [List.length_append, List.length_append]; omega, fun j a e => ?_⟩
  rcases Nat.lt_or_ge j ps.length with z | z
  · rw [List.getElem?_append_left z] at e
    rw [List.getD_eq_getElem?_getD, List.getElem?_append_left (by omega), ← List.getD_eq_getElem?_getD]
    exact h3 j a e
  · rw [List.getElem?_append_right z] at e
    rw [List.getD_eq_getElem?_getD, List.getElem?_append_right (by omega), ← List.getD_eq_getElem?_getD, ← h2]
    exact g3 _ a e
theorem RR.one {a : Addr} {r : List Int} (h : H a = some (.tup (r.map V.int))) : RR H [.ref a] [r] := ⟨[a], rfl, rfl, fun j b e => by
  cases j with
  | zero => cases e; exact h
  | succ j => cases e⟩
theorem RR.take (x : RR H xs rs) (n : Nat) : RR H (xs.take n) (rs.take n) := by
  obtain ⟨ps, h1, h2, h3⟩ := x
  refine ⟨ps.take n, by rw [h1, List.map_take], by rw [List.length_take, List.length_take, h2], fun j a e => ?_⟩
  rw [List.getElem?_take] at e
  by_cases hj : j < n
  · rw [if_pos hj] at e
    rw [List.getD_eq_getElem?_getD, List.getElem?_take_of_lt hj, ← List.getD_eq_getElem?_getD]
    exact h3 j a e
  · rw [if_neg hj] at e; cases e
theorem RR.drop (x : RR H xs rs) (n : Nat) : RR H (xs.drop n) (rs.drop n) := by
  obtain ⟨ps, h1, h2, h3⟩ := x
  refine ⟨ps.drop n, by rw [h1, List.map_drop], by rw [List.length_drop, List.length_drop, h2], fun j a e => ?_⟩
  rw [List.getElem?_drop] at e
  rw [List.getD_eq_getElem?_getD, List.getElem?_drop, ← List.getD_eq_getElem?_getD]
  exact h3 _ a e
theorem RR.rl (h : H l = some (.lst xs)) (x : RR H xs rs) : RL H l rs := by
  obtain ⟨ps, rfl, h2, h3⟩ := x
  exact ⟨ps, h, h2, h3⟩
theorem RL.rr (x : RL H l rs) : ∃ xs, H l = some (.lst xs) ∧ RR H xs rs := by
  obtain ⟨ps, h1, h2, h3⟩ := x
  exact ⟨_, h1, ps, rfl, h2, h3⟩
end
end Rg
namespace Gx
open PySem L2
end Gx

namespace Mv
open PySem L2
/-! what stands (R) and what changes (ps, an object for each address) -/
structure Hv (R H : Hp) (ps : List (Addr × HO)) : Prop where
  off : ∀ a, (∀ q ∈ ps, q.1 ≠ a) → H a = R a
  on : ∀ q ∈ ps, H q.1 = some q.2 ∧ R q.1 = none
  nd : (ps.map (·.1)).Nodup
section
variable {R H H' : Hp} {ps l1 l2 : List (Addr × HO)} {a : Addr} {o o' : HO}
theorem Hv.at (h : Hv R H ps) (m : (a, o) ∈ ps) : H a = some o := (h.on _ m).1
theorem Hv.no (h : Hv R H ps) (m : (a, o) ∈ ps) : R a = none := (h.on _ m).2
theorem Hv.same (h : Hv R H ps) : Same R H := fun a o e => by
  rw [h.off a fun q hq z => ?_]; exact e
  have := (h.on q hq).2
  rw [z, e] at this; cases this
theorem Hv.free (h : Hv R H ps) (e : H a = none) : R a = none ∧ ∀ q ∈ ps, q.1 ≠ a := by
  have n : ∀ q ∈ ps, q.1 ≠ a := fun q hq z => by
    have := (h.on q hq).1
    rw [z, e] at this; cases this
  exact ⟨(h.off a n).symm.trans e, n⟩
theorem Hv.nil : Hv H H [] := ⟨fun _ _ => rfl, (fun q m => nomatch m), List.nodup_nil⟩
theorem Hv.put (h : Hv R H (l1 ++ (a, o) :: l2)) : Hv R (upd H a o') (l1 ++ (a, o') :: l2) := by
  have nd := h.nd
  have ek : (l1 ++ (a, o') :: l2).map (·.1) = (l1 ++ (a, o) :: l2).map (·.1) := by simp
  rw [List.map_append, List.map_cons, List.nodup_append] at nd
  obtain ⟨n1, n2, n3⟩ := nd
  rw [List.nodup_cons] at n2
  refine ⟨fun c hc => ?_, fun q hq => ?_, by rw [ek]; exact h.nd⟩
  · have ca : a ≠ c := hc (a, o') (by simp)
    rw [upd_ne ca.symm]
    refine h.off c fun q hq => ?_
    rcases List.mem_append.mp hq with e | e
    · exact hc q (List.mem_append_left _ e)
    · rcases List.mem_cons.mp e with e | e
      · subst e; exact ca
      · exact hc q (List.mem_append_right _ (List.mem_cons_of_mem _ e))
  · rcases List.mem_append.mp hq with e | e
    · have ne : q.1 ≠ a := n3 _ (List.mem_map_of_mem e) _ (List.mem_cons_self ..)
      rw [upd_ne ne]
      exact h.on q (List.mem_append_left _ e)
    · rcases List.mem_cons.mp e with e | e
      · subst e; exact ⟨upd_same, (h.on (a, o) (by simp)).2⟩
      · have ne : q.1 ≠ a := fun z => n2.1 (by rw [← z]; exact List.mem_map.mpr ⟨q, e, rfl⟩)
        rw [upd_ne ne]
        exact h.on q (List.mem_append_right _ (List.mem_cons_of_mem _ e))
theorem Hv.perm (h : Hv R H l1) (p : l1.Perm l2) : Hv R H l2 := ⟨fun a n => h.off a fun q hq => n q (p.mem_iff.mp hq), fun q hq => h.on q (p.mem_iff.mpr hq), (p.map _).nodup_iff.mp h.nd⟩
/-- behind a call that leaves all that stands -/
theorem Hv.grow (h : Hv R H ps) (s : Same H H') : ∃ R', Hv R' H' ps ∧ Same R R' ∧ ∀ a o, H a = none → H' a = some o → R' a = some o := by
  refine ⟨fun a => if a ∈ ps.map (·.1) then none else H' a, ⟨fun a n => ?_, fun q hq => ⟨s _ _ (h.on q hq).1, if_pos (List.mem_map_of_mem hq)⟩, h.nd⟩, fun a o e => ?_, fun a o e f => ?_⟩
  · rw [if_neg]
    intro m
    obtain ⟨q, hq, e⟩ := List.mem_map.mp m
    exact n q hq e
  · show (if a ∈ ps.map (·.1) then none else H' a) = some o
    rw [if_neg]
    · exact s _ _ (h.same _ _ e)
    · intro m
      obtain ⟨q, hq, z⟩ := List.mem_map.mp m
      have := (h.on q hq).2
      rw [z, e] at this; cases this
  · show (if a ∈ ps.map (·.1) then none else H' a) = some o
    rw [if_neg]
    · exact f
    · intro m
      obtain ⟨q, hq, z⟩ := List.mem_map.mp m
      exact (h.free e).2 q hq z
/-- a new one that is to change -/
theorem Hv.more (h : Hv R H ps) (e : H a = none) (s : Same H H') (f : H' a = some o) : ∃ R', Hv R' H' ((a, o) :: ps) ∧ Same R R' := by
  obtain ⟨ra, na⟩ := h.free e
  obtain ⟨R', h1, h2, h3⟩ := h.grow s
  have s' : Same R (fun c => if c = a then none else R' c) := fun c u z => by
    show (if c = a then none else R' c) = some u
    rw [if_neg (fun y => by rw [y, ra] at z; cases z)]; exact h2 _ _ z
  refine ⟨fun c => if c = a then none else R' c, ⟨fun c n => ?_, fun q hq => ?_, ?_⟩, s'⟩
  · have ca : a ≠ c := n (a, o) (List.mem_cons_self ..)
    rw [if_neg ca.symm]
    exact h1.off c fun q hq => n q (List.mem_cons_of_mem _ hq)
  · rcases List.mem_cons.mp hq with z | z
    · subst z; exact ⟨f, if_pos rfl⟩
    · exact ⟨(h1.on q z).1, by rw [if_neg (na q z)]; exact (h1.on q z).2⟩
  · rw [List.map_cons, List.nodup_cons]
    refine ⟨fun m => ?_, h.nd⟩
    obtain ⟨q, hq, z⟩ := List.mem_map.mp m
    exact na q hq z
/-- what does not change any more -/
theorem Hv.less (h : Hv R H ((a, o) :: ps)) : ∃ R', Hv R' H ps ∧ Same R R' ∧ R' a = some o := by
  have nd := h.nd
  rw [List.map_cons, List.nodup_cons] at nd
  refine ⟨upd R a o, ⟨fun c n => ?_, fun q hq => ⟨(h.on q (List.mem_cons_of_mem _ hq)).1, ?_⟩, nd.2⟩, Gx.same_new (h.on (a, o) (List.mem_cons_self ..)).2, upd_same⟩
  · by_cases ca : c = a
    · subst ca; rw [upd_same]; exact (h.on (c, o) (List.mem_cons_self ..)).1
    · rw [upd_ne ca]
      refine h.off c fun q hq => ?_
      rcases List.mem_cons.mp hq with z | z
      · subst z; exact fun z => ca z.symm
      · exact n q z
  · rw [upd_ne (fun z => nd.1 (by rw [← z]; exact List.mem_map.mpr ⟨q, hq, rfl⟩))]
    exact (h.on q (List.mem_cons_of_mem _ hq)).2
theorem Hv.sw {x y : Addr × HO} (h : Hv R H (x :: y :: ps)) : Hv R H (y :: x :: ps) := h.perm (List.Perm.swap ..)
end
section
variable {R H : Hp} {a b c d e f : Addr} {o p q r s t u : HO} {ps : List (Addr × HO)}
theorem Hv.p0 (h : Hv R H ((a, o) :: ps)) : Hv R (upd H a u) ((a, u) :: ps) := Hv.put (l1 := []) h
theorem Hv.p1 {x1 : Addr × HO} (h : Hv R H (x1 :: (a, o) :: ps)) : Hv R (upd H a u) (x1 :: (a, u) :: ps) := Hv.put (l1 := [x1]) h
theorem Hv.p2 {x1 x2 : Addr × HO} (h : Hv R H (x1 :: x2 :: (a, o) :: ps)) : Hv R (upd H a u) (x1 :: x2 :: (a, u) :: ps) := Hv.put (l1 := [x1, x2]) h
theorem Hv.p3 {x1 x2 x3 : Addr × HO} (h : Hv R H (x1 :: x2 :: x3 :: (a, o) :: ps)) : Hv R (upd H a u) (x1 :: x2 :: x3 :: (a, u) :: ps) := Hv.put (l1 := [x1, x2, x3]) h
theorem Hv.p4 {x1 x2 x3 x4 : Addr × HO} (h : Hv R H (x1 :: x2 :: x3 :: x4 :: (a, o) :: ps)) : Hv R (upd H a u) (x1 :: x2 :: x3 :: x4 :: (a, u) :: ps) := Hv.put (l1 := [x1, x2, x3, x4]) h
theorem Hv.g0 (h : Hv R H ((a, o) :: ps)) : H a = some o := h.at (List.mem_cons_self ..)
theorem Hv.g1 {x1 : Addr × HO} (h : Hv R H (x1 :: (a, o) :: ps)) : H a = some o := h.at (by simp)
theorem Hv.g2 {x1 x2 : Addr × HO} (h : Hv R H (x1 :: x2 :: (a, o) :: ps)) : H a = some o := h.at (by simp)
theorem Hv.g3 {x1 x2 x3 : Addr × HO} (h : Hv R H (x1 :: x2 :: x3 :: (a, o) :: ps)) : H a = some o := h.at (by simp)
theorem Hv.g4 {x1 x2 x3 x4 : Addr × HO} (h : Hv R H (x1 :: x2 :: x3 :: x4 :: (a, o) :: ps)) : H a = some o := h.at (by simp)
theorem Hv.g5 {x1 x2 x3 x4 x5 : Addr × HO} (h : Hv R H (x1 :: x2 :: x3 :: x4 :: x5 :: (a, o) :: ps)) : H a = some o := h.at (by simp)
end
theorem isiLst {K : PySem.W.Frag} {H : Hp} {Q : VK} {a : Addr} {xs : List V} (h : H a = some (.lst xs)) (q : Q (.bl true) H) : rIsi K [.ref a, .ty "list"] H Q := Gx.isi (.base (.lst h)) q (kit_ty (by decide +kernel))
theorem Hv.rot3 {R H : Hp} {a b c : Addr × HO} {l : List (Addr × HO)} (h : Hv R H (a :: b :: c :: l)) : Hv R H (c :: b :: a :: l) := by
  refine h.perm ?_
  refine (List.Perm.swap b a _).trans ?_
  refine (List.Perm.cons b (List.Perm.swap c a _)).trans ?_
  exact List.Perm.swap c b _
theorem Hv.ofOwn {R0 R H : Hp} {D : Addr} {o : HO} {ps : List (Addr × HO)} (O : Fx.Own R H (Nx.one D o)) (hv : Hv R0 R ps) : Hv R0 H ((D, o) :: ps) := by
  obtain ⟨n0, n1⟩ := hv.free (Nx.no1 O)
  refine ⟨fun a n => ?_, fun q hq => ?_, ?_⟩
  · rw [Nx.off1 O (n (D, o) (List.mem_cons_self ..)).symm]
    exact hv.off a fun q hq => n q (List.mem_cons_of_mem _ hq)
  · rcases List.mem_cons.mp hq with e | e
    · subst e; exact ⟨Nx.at1 O, n0⟩
    · rw [Nx.off1 O (n1 q e)]; exact hv.on q e
  · rw [List.map_cons, List.nodup_cons]
    refine ⟨fun m => ?_, hv.nd⟩
    obtain ⟨q, hq, e⟩ := List.mem_map.mp m
    exact n1 q hq e
/-- a list that came to stand apart is laid down -/
theorem Hv.down {R0 R H : Hp} {D : Addr} {o : HO} {ps : List (Addr × HO)} (O : Fx.Own R H (Nx.one D o)) (hv : Hv R0 R ps) : ∃ R', Hv R' H ps ∧ Same R0 R' ∧ R' D = some o := (Hv.ofOwn O hv).less
theorem Hv.more3 {R H H' : Hp} {ps : List (Addr × HO)} {a : Addr} {o : HO} (h : Hv R H ps) (e : H a = none) (s : Same H H') (f : H' a = some o) : ∃ R', Hv R' H' ((a, o) :: ps) ∧ Same R R' ∧ ∀ c u, c ≠ a → H c = none → H' c = some u → R' c = some u := by
  obtain ⟨R', h1, h2⟩ := h.more e s f
  refine ⟨R', h1, h2, fun c u ca hc hu => ?_⟩
  rw [← h1.off c fun q hq => ?_]
  · exact hu
  · rcases List.mem_cons.mp hq with z | z
    · subst z; exact fun y => ca y.symm
    · exact (h.free hc).2 q z
end Mv

namespace Bs
open PySem L2
/-- a bit string as a text of the signs 0 and 1 -/
noncomputable def cd (b : Bool) : Nat := if b then 49 else 48
noncomputable def S (bs : List Bool) : Str := ⟨(bs.map cd).toArray⟩
theorem cd_inj {a b : Bool} (h : cd a = cd b) : a = b := by cases a <;> cases b <;> first | rfl | (exact absurd h (by decide))
theorem len (bs : List Bool) : (S bs).length = bs.length := by simp [S, Str.length]
theorem cat (a b : List Bool) : S a ++ S b = S (a ++ b) := by
  show Str.mk ((a.map cd).toArray ++ (b.map cd).toArray) = Str.mk ((a ++ b).map cd).toArray
  rw [List.map_append]; simp
theorem inj {a b : List Bool} : S a = S b ↔ a = b := by
  constructor
  · intro h
    have h2 : a.map cd = b.map cd := congrArg (fun x : Str => x.cps.toList) h
    exact List.map_inj_right (f := cd) (fun _ _ => cd_inj) |>.mp h2
  · intro h; rw [h]
theorem lit_ : Str.ofString "" = S [] := by decide +kernel
theorem at_ {bs : List Bool} {i : Nat} (h : i < bs.length) : atI (S bs).cps.toList (i : Int) = some (cd (bs.getD i false)) := by
  refine atI_nat ?_
  show (bs.map cd)[i]? = _
  rw [List.getElem?_map, List.getElem?_eq_getElem h]
  simp [List.getD_eq_getElem?_getD, List.getElem?_eq_getElem h]
theorem get_ {bs : List Bool} {i : Nat} (h : i < bs.length) : (S bs).cps[i]? = some (cd (bs.getD i false)) := by
  show ((bs.map cd).toArray)[i]? = _
  rw [List.getElem?_toArray, List.getElem?_map, List.getElem?_eq_getElem h]
  simp [List.getD_eq_getElem?_getD, List.getElem?_eq_getElem h]
section
variable {K : PySem.W.Frag} {H : Hp} {Q : VK}
theorem ix {bs : List Bool} {i : Int} (h0 : 0 ≤ i) (h1 : i < bs.length) (hz : bs.length ≤ 16777216) (q : Q (.str (S [bs.getD i.toNat false])) H) : rIx K (.str (S bs)) (.int i) H Q := by
  have e : i = (i.toNat : Int) := by omega
  rw [e]
  refine Gx.ixS (by rw [len, sizeLine_eq]; exact hz) (at_ (by omega)) ?_
  exact q
theorem strbit {r : Int} (h : r = 0 ∨ r = 1) (q : ∀ c : Bool, c = decide (r = 1) → Q (.str (S [c])) H) : Gx.rStrI [.int r] H Q := by
  rcases h with h | h
  · subst h
    refine Gx.strI (by decide) ?_
    rw [show (toString (0 : Int) : Str) = S [false] by decide +kernel]
    exact q _ rfl
  · subst h
    refine Gx.strI (by decide) ?_
    rw [show (toString (1 : Int) : Str) = S [true] by decide +kernel]
    exact q _ rfl
end
/-- a bit string, bit by bit -/
theorem walk {bs : List Bool} : Walk (Its (S bs)) bs.length (fun _ => True) (fun i H v H' => H' = H ∧ v = .str (S [bs.getD i false])) := by
  have e : (S bs).cps.size = bs.length := len bs
  refine ⟨fun i H hi _ => ?_, fun H _ => ?_, fun i H v H' hi _ y => ?_⟩
  · show i < (S bs).cps.size; omega
  · show (S bs).cps.size ≤ bs.length; omega
  · obtain ⟨h1, c, hc, rfl⟩ := y
    refine ⟨h1, ?_⟩
    have h := get_ hi
    rw [hc] at h
    rw [Option.some.inj h]; rfl
end Bs

namespace Cx_
open PySem L2
noncomputable def bt (bs : List Bool) (i : Int) : Bool := bs.getD i.toNat false
/-- the context of a place (the document's four neighbours) -/
noncomputable def ctx (w : Nat) (bs : List Bool) (n : Nat) : Nat :=
  (if n % w ≠ 0 ∧ bs.getD (n - 1) false = true then 1 else 0) + (if w ≤ n then (if n % w ≠ 0 ∧ bs.getD (n - w - 1) false = true then 2 else 0) + (if bs.getD (n - w) false = true then 4 else 0) + (if n % w < w - 1 ∧ bs.getD (n - w + 1) false = true then 8 else 0) else 0)
theorem ctx_lt (w : Nat) (bs : List Bool) (n : Nat) : ctx w bs n < 16 := by
  unfold ctx
  split <;> split <;> (try split) <;> (try split) <;> (try split) <;> omega
/-- it hangs on the bits before the place alone -/
theorem ctx_same {w n : Nat} {bs cs : List Bool} (hw : 0 < w) (h : ∀ i, i < n → bs.getD i false = cs.getD i false) : ctx w bs n = ctx w cs n := by
  unfold ctx
  by_cases h0 : n = 0
  · subst h0
    simp [Nat.zero_mod, show ¬ w = 0 by omega]
  rw [h (n - 1) (by omega)]
  by_cases hwn : w ≤ n
  · rw [if_pos hwn, if_pos hwn, h (n - w - 1) (by omega), h (n - w) (by omega)]
    by_cases hc : n % w < w - 1
    · rw [h (n - w + 1) (by omega)]
    · rw [if_neg (c := n % w < w - 1 ∧ bs.getD (n - w + 1) false = true) (fun z => hc z.1), if_neg (c := n % w < w - 1 ∧ cs.getD (n - w + 1) false = true) (fun z => hc z.1)]
  · rw [if_neg hwn, if_neg hwn]
end Cx_

namespace Iv
open PySem L2 Cx_
/-- how often the bit b came in the context c before place n -/
noncomputable def cnt (w : Nat) (bs : List Bool) (b : Bool) : Nat → Nat → Nat
  | 0, _ => 0
  | n + 1, c => cnt w bs b n c + if ctx w bs n = c ∧ bs.getD n false = b then 1 else 0
/-- the interval of the first n bits: low, size, whole -/
noncomputable def iv (w : Nat) (bs : List Bool) : Nat → Nat × Nat × Nat
  | 0 => (0, 1, 1)
  | n + 1 =>
    let l := (iv w bs n).1
    let s := (iv w bs n).2.1
    let h := (iv w bs n).2.2
    let z := 1 + cnt w bs false n (ctx w bs n)
    let o := 1 + cnt w bs true n (ctx w bs n)
    if bs.getD n false = true then (l * (z + o) + s * z, s * o, h * (z + o)) else (l * (z + o), s * z, h * (z + o))
theorem cnt_le (w : Nat) (bs : List Bool) (b : Bool) : ∀ n c, cnt w bs b n c ≤ n
  | 0, _ => Nat.le_refl _
  | n + 1, c => by
    have h := cnt_le w bs b n c
    unfold cnt
    split <;> omega
theorem cnt_same {w : Nat} {bs cs : List Bool} {b : Bool} (hw : 0 < w) : ∀ n c, (∀ i, i < n → bs.getD i false = cs.getD i false) → cnt w bs b n c = cnt w cs b n c
  | 0, _, _ => rfl
  | n + 1, c, h => by
    unfold cnt
    rw [cnt_same hw n c fun i hi => h i (by omega), ctx_same hw fun i hi => h i (by omega), h n (by omega)]
theorem iv_same {w : Nat} {bs cs : List Bool} (hw : 0 < w) : ∀ n, (∀ i, i < n → bs.getD i false = cs.getD i false) → iv w bs n = iv w cs n
  | 0, _ => rfl
  | n + 1, h => by
    unfold iv
    rw [iv_same hw n fun i hi => h i (by omega), cnt_same hw n _ fun i hi => h i (by omega), cnt_same hw n _ fun i hi => h i (by omega), ctx_same hw fun i hi => h i (by omega), h n (by omega)]
theorem getD_app {bs cs : List Bool} {i : Nat} (h : i < bs.length) : (bs ++ cs).getD i false = bs.getD i false := by
  rw [List.getD_eq_getElem?_getD, List.getElem?_append_left h, ← List.getD_eq_getElem?_getD]
theorem getD_len {bs cs : List Bool} {b : Bool} : (bs ++ b :: cs).getD bs.length false = b := by
  rw [List.getD_eq_getElem?_getD, List.getElem?_append_right (Nat.le_refl _), Nat.sub_self]; rfl
/-- the counts of one context after all of some bits -/
noncomputable def zs (w : Nat) (bs : List Bool) (c : Nat) : Nat := 1 + cnt w bs false bs.length c
noncomputable def os (w : Nat) (bs : List Bool) (c : Nat) : Nat := 1 + cnt w bs true bs.length c
noncomputable def lo (w : Nat) (bs : List Bool) : Nat := (iv w bs bs.length).1
noncomputable def sz (w : Nat) (bs : List Bool) : Nat := (iv w bs bs.length).2.1
noncomputable def wh (w : Nat) (bs : List Bool) : Nat := (iv w bs bs.length).2.2
/-- the context of the next bit -/
noncomputable def nx (w : Nat) (bs : List Bool) : Nat := ctx w bs bs.length
noncomputable def both (w : Nat) (bs : List Bool) : Nat := zs w bs (nx w bs) + os w bs (nx w bs)
section
variable {w : Nat} {bs : List Bool} {b : Bool} (hw : 0 < w)
include hw
end
section
variable {w n : Nat} {bs : List Bool}
/-- counts from 0, as a list -/
noncomputable def cl (w : Nat) (bs : List Bool) (b : Bool) (n : Nat) : List V := (List.range 16).map fun c => .int (cnt w bs b n c : Nat)
end
end Iv

namespace Fb
open PySem PySem.W PySem.Builtin PyProof.Rows PySem.Calls
/-! a number's binary digits by its format, as the model lays them -/
noncomputable def ds (n : Int) : List Nat := (Nat.toDigits 2 n.natAbs).map fun c => (if (98 : Nat) == 88 then c.toUpper else c).toNat
noncomputable def sg (n : Int) : List Nat := if decide (n < 0) = true then [45] else []
noncomputable def dd (n : Int) : List Nat := if (ds n).isEmpty then [] else List.replicate (Int.toNat 0 - (ds n).length) 48 ++ ds n
noncomputable def pad (n : Int) : Nat := ((-1 : Int) - (((sg n).length : Int) + (([] : List Nat).length : Int) + (([] : List Nat).length : Int)) - ((dd n).length : Int)).toNat
noncomputable def X (n : Int) : Str := ⟨(List.replicate (pad n) 32 ++ sg n ++ [] ++ List.replicate 0 32 ++ dd n ++ [] ++ List.replicate 0 32).toArray⟩
/-- the k lowest binary digits of r, the highest first -/
noncomputable def bin : Nat → Nat → List Bool
  | 0, _ => []
  | k + 1, r => bin k (r / 2) ++ [decide (r % 2 = 1)]
theorem bin_len : ∀ k r, (bin k r).length = k
  | 0, _ => rfl
  | k + 1, r => by unfold bin; rw [List.length_append, bin_len k]; rfl
section
variable {Y : L2.Cx}
end
end Fb

namespace I2
open PySem PySem.NumText PySem.Calls PyProof.Rows L2
/-! a number read from binary digits -/
noncomputable def dv (b : Bool) : Nat := if b then 1 else 0
/-- the value of bits, the highest first -/
noncomputable def val (bs : List Bool) : Nat := bs.foldl (fun a b => a * 2 + dv b) 0
structure Kept (p : Prop) : Prop where
  out : p
end I2

namespace Fb
open I2
theorem val_app (bs : List Bool) (b : Bool) : val (bs ++ [b]) = val bs * 2 + dv b := by unfold val; rw [List.foldl_append]; rfl
theorem val_lt (bs : List Bool) : val bs < 2 ^ bs.length := by
  suffices h : ∀ (n : Nat) (bs : List Bool), bs.length = n → val bs < 2 ^ n from h _ bs rfl
  intro n
  induction n with
  | zero => intro bs h; rw [List.length_eq_zero_iff.mp h]; decide
  | succ n ih =>
    intro bs h
    rcases List.eq_nil_or_concat bs with e | ⟨cs, b, e⟩
    · rw [e] at h; cases h
    · rw [List.concat_eq_append] at e
      subst e
      rw [List.length_append, List.length_singleton] at h
      have := ih cs (by omega)
      rw [val_app, Nat.pow_succ]
      have hb : dv b ≤ 1 := by cases b <;> decide
      omega
theorem bin_val (bs : List Bool) : bin bs.length (val bs) = bs := by
  suffices h : ∀ (n : Nat) (bs : List Bool), bs.length = n → bin n (val bs) = bs from h _ bs rfl
  intro n
  induction n with
  | zero => intro bs h; rw [List.length_eq_zero_iff.mp h]; rfl
  | succ n ih =>
    intro bs h
    rcases List.eq_nil_or_concat bs with e | ⟨cs, b, e⟩
    · rw [e] at h; cases h
    · rw [List.concat_eq_append] at e
      subst e
      rw [List.length_append, List.length_singleton] at h
      unfold bin
      rw [val_app, show (val cs * 2 + dv b) / 2 = val cs by cases b <;> (unfold dv; simp) <;> omega, ih cs (by omega)]
      congr 2
      cases b <;> (unfold dv; simp) <;> omega
section
open PySem L2
variable {σ : L2.St} {H : Hp} {Q : VK} {te : TE}
end
end Fb

namespace Gx
open PySem L2
theorem bits {σ : L2.St} {H : Hp} {Q : VK} {te : TE} (q : te σ H fun x H1 => BiP x H1 Q) : tBits te σ H Q := q
end Gx
namespace Iv
open Cx_
/-! the interval lies in the whole -/
theorem sz_pos' {w : Nat} {bs : List Bool} : ∀ n, 0 < (iv w bs n).2.1 ∧ 0 < (iv w bs n).2.2
  | 0 => ⟨Nat.one_pos, Nat.one_pos⟩
  | n + 1 => by
    obtain ⟨h1, h2⟩ := sz_pos' (w := w) (bs := bs) n
    rw [iv]
    split
    · exact ⟨Nat.mul_pos h1 (by omega), Nat.mul_pos h2 (by omega)⟩
    · exact ⟨Nat.mul_pos h1 (by omega), Nat.mul_pos h2 (by omega)⟩
theorem in_whole {w : Nat} {bs : List Bool} : ∀ n, (iv w bs n).1 + (iv w bs n).2.1 ≤ (iv w bs n).2.2
  | 0 => Nat.le_refl _
  | n + 1 => by
    have h := in_whole (w := w) (bs := bs) n
    rw [iv]
    generalize (iv w bs n).1 = l at *
    generalize (iv w bs n).2.1 = s at *
    generalize (iv w bs n).2.2 = m at *
    generalize 1 + cnt w bs false n (ctx w bs n) = z
    generalize 1 + cnt w bs true n (ctx w bs n) = o
    have h2 := Nat.mul_le_mul_right (z + o) h
    rw [Nat.add_mul, Nat.mul_add s] at h2
    split
    · simp only []; omega
    · simp only []; omega
theorem wh_le {w : Nat} {bs : List Bool} : ∀ n, n ≤ 300 → (iv w bs n).2.2 ≤ 2 ^ (10 * n)
  | 0, _ => Nat.le_refl _
  | n + 1, hn => by
    have h := wh_le (w := w) (bs := bs) n (by omega)
    have c1 := cnt_le w bs false n (ctx w bs n)
    have c2 := cnt_le w bs true n (ctx w bs n)
    have e : (iv w bs (n + 1)).2.2 = (iv w bs n).2.2 * (1 + cnt w bs false n (ctx w bs n) + (1 + cnt w bs true n (ctx w bs n))) := by
      rw [iv]; split <;> rfl
    rw [e, show 10 * (n + 1) = 10 * n + 10 by omega, Nat.pow_add]
    exact Nat.mul_le_mul h (Nat.le_trans (show _ ≤ 602 by omega) (by decide))
theorem sz_pos (w : Nat) (bs : List Bool) : 0 < sz w bs := (sz_pos' _).1
theorem wh_pos (w : Nat) (bs : List Bool) : 0 < wh w bs := (sz_pos' _).2
theorem lo_sz (w : Nat) (bs : List Bool) : lo w bs + sz w bs ≤ wh w bs := in_whole _
end Iv
namespace Cd
/-- the first place of p from n on, within f places -/
noncomputable def first (p : Nat → Bool) : Nat → Nat → Nat
  | n, 0 => n
  | n, f + 1 => if p n = true then n else first p (n + 1) f
theorem first_spec (p : Nat → Bool) : ∀ (f n j : Nat), n ≤ j → j ≤ n + f → p j = true → p (first p n f) = true ∧ n ≤ first p n f ∧ first p n f ≤ j ∧ ∀ i, n ≤ i → i < first p n f → p i = false
  | 0, n, j, h1, h2, h3 => by
    have e : j = n := by omega
    subst e
    exact ⟨h3, Nat.le_refl _, Nat.le_refl _, fun i a b => absurd a (by unfold first at b; omega)⟩
  | f + 1, n, j, h1, h2, h3 => by
    unfold first
    by_cases h : p n = true
    · rw [if_pos h]; exact ⟨h, Nat.le_refl _, h1, fun i a b => absurd a (by omega)⟩
    · rw [if_neg h]
      have hj : n + 1 ≤ j := by
        rcases Nat.lt_or_ge n j with q | q
        · exact q
        · exact absurd (show p n = true by rw [show n = j by omega]; exact h3) h
      obtain ⟨a, b, c, d⟩ := first_spec p f (n + 1) j hj (by omega) h3
      refine ⟨a, by omega, c, fun i x y => ?_⟩
      by_cases e : i = n
      · subst e; simpa using h
      · exact d i (by omega) y
/-- the least a with a / 2^k from low / whole on -/
noncomputable def ceil (l h k : Nat) : Nat := (l * 2 ^ k + h - 1) / h
/-- its cell lies in the interval -/
noncomputable def fit (l s h k : Nat) : Bool := decide ((ceil l h k + 1) * h ≤ (l + s) * 2 ^ k)
/-- the number of digits of the shortest cell -/
noncomputable def klen (l s h : Nat) : Nat := first (fit l s h) 0 (h + 2)
theorem ceil_ge {l h k : Nat} (hh : 0 < h) : l * 2 ^ k ≤ ceil l h k * h := by
  unfold ceil
  have e := Nat.div_add_mod (l * 2 ^ k + h - 1) h
  have m := Nat.mod_lt (l * 2 ^ k + h - 1) hh
  rw [Nat.mul_comm] at e
  omega
theorem ceil_lt {l h k : Nat} (hh : 0 < h) : ceil l h k * h < l * 2 ^ k + h := by
  unfold ceil
  have e := Nat.div_mul_le_self (l * 2 ^ k + h - 1) h
  omega
theorem fit_of {l s h k : Nat} (hh : 0 < h) (g : 2 * h ≤ s * 2 ^ k) : fit l s h k = true := by
  refine decide_eq_true ?_
  have c := ceil_lt (l := l) (k := k) hh
  rw [Nat.add_mul, Nat.add_mul, Nat.one_mul]
  omega
theorem klen_spec {l s h : Nat} (hs : 0 < s) (hh : 0 < h) : fit l s h (klen l s h) = true ∧ ∀ i, i < klen l s h → fit l s h i = false := by
  have g : fit l s h (h + 2) = true := fit_of hh (by
    have := Nat.lt_two_pow_self (n := h)
    have e : 2 ^ (h + 2) = 4 * 2 ^ h := by rw [Nat.pow_add, Nat.mul_comm]
    have := Nat.mul_le_mul hs (Nat.le_refl (2 ^ (h + 2)))
    omega)
  obtain ⟨a, b, c, d⟩ := first_spec (fit l s h) (h + 2) 0 (h + 2) (Nat.zero_le _) (by omega) g
  exact ⟨a, fun i hi => d i (Nat.zero_le _) hi⟩
theorem klen_lt {l s h : Nat} (hs : 0 < s) (hh : 0 < h) (hl : l + s ≤ h) : s * 2 ^ klen l s h < 4 * h := by
  obtain ⟨a, b⟩ := klen_spec (l := l) hs hh
  cases e : klen l s h with
  | zero => rw [Nat.pow_zero, Nat.mul_one]; omega
  | succ k =>
    have z := b k (by omega)
    have n : ¬ 2 * h ≤ s * 2 ^ k := fun q => by rw [fit_of hh q] at z; cases z
    rw [Nat.pow_succ, ← Nat.mul_assoc]; omega
theorem klen_small {l s h b : Nat} (hs : 0 < s) (hh : 0 < h) (hl : l + s ≤ h) (hb : h ≤ 2 ^ b) : klen l s h < b + 2 := by
  have a := klen_lt (l := l) hs hh hl
  have c : 2 ^ klen l s h ≤ s * 2 ^ klen l s h := Nat.le_mul_of_pos_left _ hs
  have d : 2 ^ klen l s h < 2 ^ (b + 2) := by rw [Nat.pow_add]; omega
  exact (Nat.pow_lt_pow_iff_right (by decide)).mp d
end Cd
namespace Iv
/-- the code of bits: so many digits, of this value -/
noncomputable def kl (w : Nat) (bs : List Bool) : Nat := Cd.klen (lo w bs) (sz w bs) (wh w bs)
noncomputable def av (w : Nat) (bs : List Bool) : Nat := Cd.ceil (lo w bs) (wh w bs) (kl w bs)
noncomputable def code (w : Nat) (bs : List Bool) : List Bool := Fb.bin (kl w bs) (av w bs)
theorem code_len (w : Nat) (bs : List Bool) : (code w bs).length = kl w bs := Fb.bin_len _ _
theorem wh_pow {w : Nat} {bs : List Bool} (h : bs.length ≤ 300) : wh w bs ≤ 2 ^ 3000 := Nat.le_trans (wh_le _ h) (Nat.pow_le_pow_right (by decide) (by omega))
theorem kl_le {w : Nat} {bs : List Bool} (h : bs.length ≤ 300) : kl w bs < 3002 := Cd.klen_small (sz_pos w bs) (wh_pos w bs) (lo_sz w bs) (wh_pow h)
end Iv

namespace Pr
/-! products and sums over the first places -/
noncomputable def prod (f : Nat → Nat) : Nat → Nat
  | 0 => 1
  | k + 1 => prod f k * f k
noncomputable def sum (f : Nat → Nat) : Nat → Nat
  | 0 => 0
  | k + 1 => sum f k + f k
noncomputable def fct : Nat → Nat
  | 0 => 1
  | n + 1 => fct n * (n + 1)
theorem fct_pos : ∀ n, 0 < fct n
  | 0 => Nat.one_pos
  | n + 1 => Nat.mul_pos (fct_pos n) (Nat.succ_pos n)
theorem prod_pos {f : Nat → Nat} (h : ∀ i, 0 < f i) : ∀ k, 0 < prod f k
  | 0 => Nat.one_pos
  | k + 1 => Nat.mul_pos (prod_pos h k) (h k)
theorem prod_le {f g : Nat → Nat} (h : ∀ i, f i ≤ g i) : ∀ k, prod f k ≤ prod g k
  | 0 => Nat.le_refl _
  | k + 1 => Nat.mul_le_mul (prod_le h k) (h k)
theorem prod_congr {f g : Nat → Nat} : ∀ k, (∀ i, i < k → f i = g i) → prod f k = prod g k
  | 0, _ => rfl
  | k + 1, h => by unfold prod; rw [prod_congr k fun i hi => h i (by omega), h k (by omega)]
theorem prod_mul (f g : Nat → Nat) : ∀ k, prod (fun i => f i * g i) k = prod f k * prod g k
  | 0 => rfl
  | k + 1 => by
    unfold prod
    rw [prod_mul f g k]
    exact Nat.mul_mul_mul_comm ..
theorem prod_pow (f : Nat → Nat) (e : Nat) : ∀ k, prod (fun i => f i ^ e) k = prod f k ^ e
  | 0 => by simp [prod]
  | k + 1 => by unfold prod; rw [prod_pow f e k, Nat.mul_pow]
theorem prod_two (f : Nat → Nat) : ∀ k, prod (fun i => 2 ^ f i) k = 2 ^ sum f k
  | 0 => rfl
  | k + 1 => by unfold prod sum; rw [prod_two f k, Nat.pow_add]
/-- one factor grows -/
theorem prod_one {f g : Nat → Nat} {a r : Nat} : ∀ k, a < k → g a = f a * r → (∀ i, i ≠ a → g i = f i) → prod g k = prod f k * r
  | 0, h, _, _ => absurd h (by omega)
  | k + 1, h, h1, h2 => by
    unfold prod
    by_cases e : a = k
    · subst e
      rw [prod_congr (f := g) (g := f) a fun i hi => h2 i (by omega), h1, Nat.mul_assoc]
    · rw [prod_one k (by omega) h1 h2, h2 k (by omega)]
      exact Nat.mul_right_comm ..
theorem sum_one {f g : Nat → Nat} {a r : Nat} : ∀ k, a < k → g a = f a + r → (∀ i, i ≠ a → g i = f i) → sum g k = sum f k + r
  | 0, h, _, _ => absurd h (by omega)
  | k + 1, h, h1, h2 => by
    have sc : ∀ k, (∀ i, i < k → g i = f i) → sum g k = sum f k := by
      intro k
      induction k with
      | zero => intro _; rfl
      | succ k ih => intro h; unfold sum; rw [ih fun i hi => h i (by omega), h k (by omega)]
    unfold sum
    by_cases e : a = k
    · subst e
      rw [sc a fun i hi => h2 i (by omega), h1]; omega
    · rw [sum_one k (by omega) h1 h2, h2 k (by omega)]; omega
theorem fct_two : ∀ (s a b : Nat), a + b = s → fct (a + b) ≤ fct a * fct b * 2 ^ (a + b)
  | s, 0, b, _ => by
    rw [Nat.zero_add]
    show fct b ≤ 1 * fct b * 2 ^ b
    rw [Nat.one_mul]
    exact Nat.le_mul_of_pos_right _ (Nat.two_pow_pos b)
  | s, a + 1, 0, _ => by
    show fct (a + 1) ≤ fct (a + 1) * 1 * 2 ^ (a + 1)
    rw [Nat.mul_one]
    exact Nat.le_mul_of_pos_right _ (Nat.two_pow_pos _)
  | 0, a + 1, b + 1, h => by omega
  | s + 1, a + 1, b + 1, h => by
    have h1 := fct_two s a (b + 1) (by omega)
    have h2 := fct_two s (a + 1) b (by omega)
    rw [show a + 1 + (b + 1) = (a + (b + 1)) + 1 by omega]
    have e : a + 1 + b = a + (b + 1) := by omega
    rw [e] at h2
    show fct (a + (b + 1)) * (a + (b + 1) + 1) ≤ _
    rw [show a + (b + 1) + 1 = (a + 1) + (b + 1) by omega, Nat.mul_add]
    generalize fct (a + (b + 1)) = x at *
    rw [show a + 1 + (b + 1) = (a + (b + 1)) + 1 by omega, Nat.pow_succ]
    generalize 2 ^ (a + (b + 1)) = p at *
    have g1 := Nat.mul_le_mul_right (a + 1) h1
    have g2 := Nat.mul_le_mul_right (b + 1) h2
    have e1 : fct a * fct (b + 1) * p * (a + 1) = fct (a + 1) * fct (b + 1) * p := by
      show _ = fct a * (a + 1) * fct (b + 1) * p
      rw [Nat.mul_right_comm (fct a) (a + 1), Nat.mul_right_comm (fct a * fct (b + 1)) (a + 1)]
    have e2 : fct (a + 1) * fct b * p * (b + 1) = fct (a + 1) * fct (b + 1) * p := by
      show _ = fct (a + 1) * (fct b * (b + 1)) * p
      rw [← Nat.mul_assoc, Nat.mul_right_comm _ (b + 1) p]
    rw [e1] at g1
    rw [e2] at g2
    rw [← Nat.mul_assoc]
    omega
end Pr
namespace Iv
open Cx_ Pr
/-! codes are short: the whole over the size is at most a power of two -/
theorem pow16 (n : Nat) : (n + 1) ^ 16 ≤ 2 ^ (n + 51) := by
  by_cases h : n ≤ 22
  · have : ∀ m : _root_.Fin 23, (m.1 + 1) ^ 16 ≤ 2 ^ (m.1 + 51) := by decide +kernel
    exact this ⟨n, by omega⟩
  · obtain ⟨k, rfl⟩ : ∃ k, n = 22 + k := ⟨n - 22, by omega⟩
    clear h
    induction k with
    | zero => decide +kernel
    | succ k ih =>
      have step : (22 + (k + 1) + 1) ^ 16 ≤ 2 * (22 + k + 1) ^ 16 := by
        have a : (23 * (22 + (k + 1) + 1)) ^ 16 ≤ (24 * (22 + k + 1)) ^ 16 := Nat.pow_le_pow_left (by omega) 16
        rw [Nat.mul_pow, Nat.mul_pow] at a
        have b : (24 : Nat) ^ 16 ≤ 2 * 23 ^ 16 := by decide +kernel
        have c := Nat.mul_le_mul_right ((22 + k + 1) ^ 16) b
        have d : 23 ^ 16 * (22 + (k + 1) + 1) ^ 16 ≤ 23 ^ 16 * (2 * (22 + k + 1) ^ 16) := by
          refine Nat.le_trans a (Nat.le_trans c (Nat.le_of_eq ?_))
          rw [Nat.mul_comm 2 (23 ^ 16), Nat.mul_assoc]
        exact Nat.le_of_mul_le_mul_left d (by decide +kernel)
      refine Nat.le_trans step (Nat.le_trans (Nat.mul_le_mul_left 2 ih) (Nat.le_of_eq ?_))
      rw [show 22 + (k + 1) + 51 = (22 + k + 51) + 1 by omega]
      exact (Nat.pow_succ' ..).symm
theorem cnt_ne {w : Nat} {bs : List Bool} {n c : Nat} (b : Bool) (h : ¬ ctx w bs n = c) : cnt w bs b (n + 1) c = cnt w bs b n c := by
  show cnt w bs b n c + (if _ ∧ _ then 1 else 0) = _
  rw [if_neg (fun z => h z.1)]; rfl
theorem cnt_no {w : Nat} {bs : List Bool} {n c : Nat} {b : Bool} (h : ¬ bs.getD n false = b) : cnt w bs b (n + 1) c = cnt w bs b n c := by
  show cnt w bs b n c + (if _ ∧ _ then 1 else 0) = _
  rw [if_neg (fun z => h z.2)]; rfl
theorem cnt_yes {w : Nat} {bs : List Bool} {n c : Nat} {b : Bool} (h : ctx w bs n = c) (hb : bs.getD n false = b) : cnt w bs b (n + 1) c = cnt w bs b n c + 1 := by
  show cnt w bs b n c + (if _ ∧ _ then 1 else 0) = _
  rw [if_pos ⟨h, hb⟩]
/-- how many bits came in a context -/
noncomputable def many (w : Nat) (bs : List Bool) (n c : Nat) : Nat := cnt w bs false n c + cnt w bs true n c
theorem many_step (w : Nat) (bs : List Bool) (n c : Nat) : many w bs (n + 1) c = many w bs n c + if ctx w bs n = c then 1 else 0 := by
  show cnt w bs false (n + 1) c + cnt w bs true (n + 1) c = cnt w bs false n c + cnt w bs true n c + _
  by_cases h : ctx w bs n = c
  · rw [if_pos h]
    cases e : bs.getD n false
    · rw [cnt_yes h e, cnt_no (b := true) (by rw [e]; decide)]; omega
    · rw [cnt_yes h e, cnt_no (b := false) (by rw [e]; decide)]; omega
  · rw [if_neg h, cnt_ne _ h, cnt_ne _ h]; rfl
theorem many_sum (w : Nat) (bs : List Bool) : ∀ n, sum (many w bs n) 16 = n
  | 0 => rfl
  | n + 1 => by
    rw [sum_one (f := many w bs n) (a := ctx w bs n) (r := 1) 16 (ctx_lt w bs n) (by rw [many_step, if_pos rfl]) (fun i hi => by rw [many_step, if_neg (Ne.symm hi)]; rfl), many_sum w bs n]
/-- the interval by its counts: size times all (n + 1)! is the whole times all z! o! -/
theorem by_counts (w : Nat) (bs : List Bool) : ∀ n, (iv w bs n).2.1 * prod (fun c => fct (many w bs n c + 1)) 16 = (iv w bs n).2.2 * prod (fun c => fct (cnt w bs false n c) * fct (cnt w bs true n c)) 16
  | 0 => rfl
  | n + 1 => by
    have ih := by_counts w bs n
    have hc := ctx_lt w bs n
    have p1 : prod (fun c => fct (many w bs (n + 1) c + 1)) 16 = prod (fun c => fct (many w bs n c + 1)) 16 * (many w bs n (ctx w bs n) + 2) :=
      prod_one (a := ctx w bs n) 16 hc (by rw [many_step, if_pos rfl]; rfl) (fun i hi => by rw [many_step, if_neg (Ne.symm hi)])
    rw [p1]
    by_cases hb : bs.getD n false = true
    · have p2 : prod (fun c => fct (cnt w bs false (n + 1) c) * fct (cnt w bs true (n + 1) c)) 16 = prod (fun c => fct (cnt w bs false n c) * fct (cnt w bs true n c)) 16 * (1 + cnt w bs true n (ctx w bs n)) :=
        prod_one (a := ctx w bs n) 16 hc (by
          have e1 : cnt w bs false (n + 1) (ctx w bs n) = cnt w bs false n (ctx w bs n) := cnt_no (by rw [hb]; decide)
          have e2 : cnt w bs true (n + 1) (ctx w bs n) = cnt w bs true n (ctx w bs n) + 1 := cnt_yes rfl hb
          rw [e1, e2, Nat.mul_assoc, Nat.add_comm 1]; rfl) (fun i hi => by
          have e1 : ∀ b, cnt w bs b (n + 1) i = cnt w bs b n i := fun b => cnt_ne b (fun z => hi z.symm)
          rw [e1, e1])
      rw [p2, iv, if_pos hb]
      simp only []
      have e : 1 + cnt w bs false n (ctx w bs n) + (1 + cnt w bs true n (ctx w bs n)) = many w bs n (ctx w bs n) + 2 := by unfold many; omega
      rw [e, Nat.mul_mul_mul_comm, Nat.mul_comm (1 + cnt w bs true n (ctx w bs n)) (many w bs n (ctx w bs n) + 2), Nat.mul_mul_mul_comm ((iv w bs n).2.2), ih]
    · have hb2 : bs.getD n false = false := by simpa using hb
      have p2 : prod (fun c => fct (cnt w bs false (n + 1) c) * fct (cnt w bs true (n + 1) c)) 16 = prod (fun c => fct (cnt w bs false n c) * fct (cnt w bs true n c)) 16 * (1 + cnt w bs false n (ctx w bs n)) :=
        prod_one (a := ctx w bs n) 16 hc (by
          have e1 : cnt w bs true (n + 1) (ctx w bs n) = cnt w bs true n (ctx w bs n) := cnt_no (by rw [hb2]; decide)
          have e2 : cnt w bs false (n + 1) (ctx w bs n) = cnt w bs false n (ctx w bs n) + 1 := cnt_yes rfl hb2
          rw [e1, e2, Nat.mul_right_comm]; congr 1; rw [Nat.add_comm 1]; rfl) (fun i hi => by
          have e1 : ∀ b, cnt w bs b (n + 1) i = cnt w bs b n i := fun b => cnt_ne b (fun z => hi z.symm)
          rw [e1, e1])
      rw [p2, iv, if_neg hb]
      simp only []
      have e : 1 + cnt w bs false n (ctx w bs n) + (1 + cnt w bs true n (ctx w bs n)) = many w bs n (ctx w bs n) + 2 := by unfold many; omega
      rw [e, Nat.mul_mul_mul_comm, Nat.mul_comm (1 + cnt w bs false n (ctx w bs n)) (many w bs n (ctx w bs n) + 2), Nat.mul_mul_mul_comm ((iv w bs n).2.2), ih]
theorem whole_le (w : Nat) (bs : List Bool) (n : Nat) : (iv w bs n).2.2 ≤ (iv w bs n).2.1 * (2 ^ n * prod (fun c => many w bs n c + 1) 16) := by
  have h := by_counts w bs n
  have le : prod (fun c => fct (many w bs n c + 1)) 16 ≤ prod (fun c => (fct (cnt w bs false n c) * fct (cnt w bs true n c)) * (2 ^ many w bs n c * (many w bs n c + 1))) 16 := prod_le (fun c => by
    have f := fct_two _ (cnt w bs false n c) (cnt w bs true n c) rfl
    have g := Nat.mul_le_mul_right (many w bs n c + 1) f
    rw [Nat.mul_assoc] at g
    exact g) 16
  rw [prod_mul, prod_mul (fun c => 2 ^ many w bs n c), prod_two, many_sum] at le
  have pos : 0 < prod (fun c => fct (cnt w bs false n c) * fct (cnt w bs true n c)) 16 := prod_pos (fun c => Nat.mul_pos (fct_pos _) (fct_pos _)) 16
  have le2 := Nat.mul_le_mul_left ((iv w bs n).2.1) le
  rw [h, Nat.mul_left_comm] at le2
  rw [Nat.mul_comm (iv w bs n).2.2] at le2
  exact Nat.le_of_mul_le_mul_left le2 pos
theorem short {w : Nat} {bs : List Bool} (hw : 0 < w) : 16 * kl w bs < 17 * bs.length + 848 := by
  have h1 := Cd.klen_lt (sz_pos w bs) (wh_pos w bs) (lo_sz w bs)
  have h2 : wh w bs ≤ sz w bs * (2 ^ bs.length * prod (fun c => many w bs bs.length c + 1) 16) := whole_le w bs bs.length
  have h3 : sz w bs * 2 ^ kl w bs < sz w bs * (2 ^ (bs.length + 2) * prod (fun c => many w bs bs.length c + 1) 16) := by
    have e : sz w bs * (2 ^ (bs.length + 2) * prod (fun c => many w bs bs.length c + 1) 16) = 4 * (sz w bs * (2 ^ bs.length * prod (fun c => many w bs bs.length c + 1) 16)) := by
      rw [Nat.pow_add, show (2 : Nat) ^ 2 = 4 by decide, Nat.mul_comm (2 ^ bs.length) 4, Nat.mul_assoc 4, Nat.mul_left_comm (sz w bs) 4]
    rw [e]
    exact Nat.lt_of_lt_of_le h1 (Nat.mul_le_mul_left 4 h2)
  have h4 := Nat.lt_of_mul_lt_mul_left h3
  have h5 := Nat.pow_lt_pow_left h4 (show 16 ≠ 0 by decide)
  rw [Nat.mul_pow, ← prod_pow, ← Nat.pow_mul, ← Nat.pow_mul] at h5
  have h6 : prod (fun c => (many w bs bs.length c + 1) ^ 16) 16 ≤ prod (fun c => 2 ^ (many w bs bs.length c + 51)) 16 := prod_le (fun c => pow16 _) 16
  have h7 : prod (fun c => 2 ^ (many w bs bs.length c + 51)) 16 = 2 ^ (bs.length + 816) := by
    have e : (fun c => 2 ^ (many w bs bs.length c + 51)) = (fun c => 2 ^ many w bs bs.length c * 2 ^ 51) := by funext c; rw [Nat.pow_add]
    have c51 : prod (fun _ => 2 ^ 51) 16 = 2 ^ 816 := by decide +kernel
    rw [e, prod_mul, prod_two, many_sum, c51, Nat.pow_add]
  rw [h7] at h6
  have h8 := Nat.lt_of_lt_of_le h5 (Nat.mul_le_mul_left _ h6)
  rw [← Nat.pow_add] at h8
  have h9 := (Nat.pow_lt_pow_iff_right (by decide)).mp h8
  omega
end Iv

namespace Ord
open Cx_ Iv I2 Fb
/-! intervals nest; codes lie as the bits do -/
theorem cross {a x b y c z : Nat} (h1 : a * y ≤ b * x) (h2 : b * z ≤ c * y) (hy : 0 < y) : a * z ≤ c * x := by
  have g1 := Nat.mul_le_mul_right z h1
  have g2 := Nat.mul_le_mul_right x h2
  refine Nat.le_of_mul_le_mul_right (?_ : a * z * y ≤ c * x * y) hy
  rw [Nat.mul_right_comm a z y, Nat.mul_right_comm c x y]
  refine Nat.le_trans g1 ?_
  rw [Nat.mul_right_comm b x z]
  exact g2
/-- b lies in a -/
noncomputable def Nest (a b : Nat × Nat × Nat) : Prop := a.1 * b.2.2 ≤ b.1 * a.2.2 ∧ (b.1 + b.2.1) * a.2.2 ≤ (a.1 + a.2.1) * b.2.2
theorem Nest.trans {a b c : Nat × Nat × Nat} (h : 0 < b.2.2) (p : Nest a b) (q : Nest b c) : Nest a c :=
  ⟨cross p.1 q.1 h, cross q.2 p.2 h⟩
theorem Nest.refl (a : Nat × Nat × Nat) : Nest a a := ⟨Nat.le_refl _, Nat.le_refl _⟩
theorem nest_step (w : Nat) (bs : List Bool) (n : Nat) : Nest (iv w bs n) (iv w bs (n + 1)) := by
  unfold Nest
  rw [iv]
  generalize (iv w bs n).1 = l
  generalize (iv w bs n).2.1 = s
  generalize (iv w bs n).2.2 = m
  generalize 1 + cnt w bs false n (ctx w bs n) = z
  generalize 1 + cnt w bs true n (ctx w bs n) = o
  split
  · refine ⟨?_, ?_⟩
    · show l * (m * (z + o)) ≤ (l * (z + o) + s * z) * m
      rw [Nat.add_mul, Nat.mul_right_comm l (z + o) m, Nat.mul_assoc]; omega
    · show (l * (z + o) + s * z + s * o) * m ≤ (l + s) * (m * (z + o))
      rw [Nat.add_assoc, ← Nat.mul_add s, ← Nat.add_mul, Nat.mul_right_comm, Nat.mul_assoc]; exact Nat.le_refl _
  · refine ⟨?_, ?_⟩
    · show l * (m * (z + o)) ≤ (l * (z + o)) * m
      rw [Nat.mul_right_comm l (z + o) m, Nat.mul_assoc]; exact Nat.le_refl _
    · show (l * (z + o) + s * z) * m ≤ (l + s) * (m * (z + o))
      have e : (l + s) * (m * (z + o)) = (l * (z + o) + s * (z + o)) * m := by
        rw [← Nat.add_mul, Nat.mul_right_comm, Nat.mul_assoc]
      rw [e]
      exact Nat.mul_le_mul_right m (Nat.add_le_add_left (Nat.mul_le_mul_left s (Nat.le_add_right _ _)) _)
theorem nest (w : Nat) (bs : List Bool) (n : Nat) : ∀ k, Nest (iv w bs n) (iv w bs (n + k))
  | 0 => Nest.refl _
  | k + 1 => (nest w bs n k).trans (sz_pos' _).2 (nest_step w bs (n + k))
/-- bits up to the first difference -/
noncomputable def Diff (one two : List Bool) (q : List Bool) : Prop := ∃ t t', one = q ++ false :: t ∧ two = q ++ true :: t'
/-- the intervals lie apart, in order -/
theorem apart {w : Nat} {one two q : List Bool} (hw : 0 < w) (d : Diff one two q) : (lo w one + sz w one) * wh w two ≤ lo w two * wh w one := by
  obtain ⟨t, t', rfl, rfl⟩ := d
  have same : ∀ i, i < q.length → (q ++ false :: t).getD i false = (q ++ true :: t').getD i false := fun i hi => by rw [getD_app hi, getD_app hi]
  have n1 := nest w (q ++ false :: t) (q.length + 1) t.length
  have n2 := nest w (q ++ true :: t') (q.length + 1) t'.length
  rw [show q.length + 1 + t.length = (q ++ false :: t).length by rw [List.length_append, List.length_cons]; omega] at n1
  rw [show q.length + 1 + t'.length = (q ++ true :: t').length by rw [List.length_append, List.length_cons]; omega] at n2
  have e1 : iv w (q ++ false :: t) (q.length + 1) = ((iv w (q ++ false :: t) q.length).1 * (1 + cnt w (q ++ false :: t) false q.length (ctx w (q ++ false :: t) q.length) + (1 + cnt w (q ++ false :: t) true q.length (ctx w (q ++ false :: t) q.length))), (iv w (q ++ false :: t) q.length).2.1 * (1 + cnt w (q ++ false :: t) false q.length (ctx w (q ++ false :: t) q.length)), (iv w (q ++ false :: t) q.length).2.2 * (1 + cnt w (q ++ false :: t) false q.length (ctx w (q ++ false :: t) q.length) + (1 + cnt w (q ++ false :: t) true q.length (ctx w (q ++ false :: t) q.length)))) := by
    rw [iv, if_neg (by rw [getD_len]; decide)]
  have e2 : iv w (q ++ true :: t') (q.length + 1) = ((iv w (q ++ false :: t) q.length).1 * (1 + cnt w (q ++ false :: t) false q.length (ctx w (q ++ false :: t) q.length) + (1 + cnt w (q ++ false :: t) true q.length (ctx w (q ++ false :: t) q.length))) + (iv w (q ++ false :: t) q.length).2.1 * (1 + cnt w (q ++ false :: t) false q.length (ctx w (q ++ false :: t) q.length)), (iv w (q ++ false :: t) q.length).2.1 * (1 + cnt w (q ++ false :: t) true q.length (ctx w (q ++ false :: t) q.length)), (iv w (q ++ false :: t) q.length).2.2 * (1 + cnt w (q ++ false :: t) false q.length (ctx w (q ++ false :: t) q.length) + (1 + cnt w (q ++ false :: t) true q.length (ctx w (q ++ false :: t) q.length)))) := by
    rw [iv, if_pos getD_len, iv_same hw _ same, cnt_same hw _ _ same, cnt_same hw _ _ same, ctx_same hw same]
  have pos : 0 < (iv w (q ++ false :: t) (q.length + 1)).2.2 := (sz_pos' _).2
  have a1 := n1.2
  have a2 := n2.1
  rw [e1] at a1
  rw [e2] at a2
  rw [e1] at pos
  exact cross a1 a2 pos
/-- the cells lie apart, in order -/
theorem cells {w : Nat} {one two q : List Bool} (hw : 0 < w) (d : Diff one two q) : (av w one + 1) * 2 ^ kl w two ≤ av w two * 2 ^ kl w one := by
  have h1 : (av w one + 1) * wh w one ≤ (lo w one + sz w one) * 2 ^ kl w one := of_decide_eq_true (Cd.klen_spec (sz_pos w one) (wh_pos w one)).1
  have h2 : lo w two * 2 ^ kl w two ≤ av w two * wh w two := Cd.ceil_ge (wh_pos w two)
  exact cross (cross h1 (apart hw d) (wh_pos w one)) h2 (wh_pos w two)
theorem val_cons (b : Bool) (t : List Bool) : val (b :: t) = dv b * 2 ^ t.length + val t := by
  suffices h : ∀ (t : List Bool) (a : Nat), t.foldl (fun a b => a * 2 + dv b) a = a * 2 ^ t.length + val t by
    show t.foldl (fun a b => a * 2 + dv b) (0 * 2 + dv b) = _
    rw [h, Nat.zero_mul, Nat.zero_add]
  intro t
  induction t with
  | nil => intro a; show a = a * 1 + 0; omega
  | cons c t ih =>
    intro a
    show t.foldl (fun a b => a * 2 + dv b) (a * 2 + dv c) = a * 2 ^ (t.length + 1) + t.foldl (fun a b => a * 2 + dv b) (0 * 2 + dv c)
    rw [ih, ih, Nat.add_mul, Nat.pow_succ, Nat.mul_comm (2 ^ t.length) 2, ← Nat.mul_assoc, Nat.zero_mul, Nat.zero_add]
    omega
/-- cells that lie apart are told apart by their digits -/
theorem differ : ∀ {p r : List Bool}, (val p + 1) * 2 ^ r.length ≤ val r * 2 ^ p.length → ∃ q, Diff p r q
  | [], r, h => by
    exfalso
    have := val_lt r
    have e : val r * 2 ^ ([] : List Bool).length = val r := Nat.mul_one _
    have e2 : (val [] + 1) * 2 ^ r.length = 2 ^ r.length := Nat.one_mul _
    omega
  | a :: p, [], h => by
    exfalso
    have e : val ([] : List Bool) * 2 ^ (a :: p).length = 0 := Nat.zero_mul _
    have e2 : (val (a :: p) + 1) * 2 ^ ([] : List Bool).length = val (a :: p) + 1 := Nat.mul_one _
    omega
  | a :: p, b :: r, h => by
    rw [val_cons, val_cons, List.length_cons, List.length_cons, Nat.pow_succ, Nat.pow_succ, ← Nat.mul_assoc, ← Nat.mul_assoc] at h
    have h := Nat.le_of_mul_le_mul_right h (by decide)
    have l1 := val_lt p
    have l2 := val_lt r
    have same : (val p + 1) * 2 ^ r.length ≤ val r * 2 ^ p.length → a = b → ∃ q, Diff (a :: p) (b :: r) q := fun g e => by
      subst e
      obtain ⟨q, t, t', h1, h2⟩ := differ g
      exact ⟨a :: q, t, t', by rw [h1]; rfl, by rw [h2]; rfl⟩
    cases a <;> cases b
    · refine same ?_ rfl
      rw [show dv false = 0 from rfl, Nat.zero_mul, Nat.zero_add, Nat.zero_mul, Nat.zero_add] at h
      exact h
    · exact ⟨[], p, r, rfl, rfl⟩
    · exfalso
      rw [show dv false = 0 from rfl, show dv true = 1 from rfl, Nat.zero_mul, Nat.zero_add, Nat.one_mul] at h
      have a1 : (2 ^ p.length + val p + 1) * 2 ^ r.length ≥ 2 ^ p.length * 2 ^ r.length := Nat.mul_le_mul_right _ (by omega)
      have a2 : val r * 2 ^ p.length < 2 ^ r.length * 2 ^ p.length := Nat.mul_lt_mul_of_pos_right l2 (Nat.two_pow_pos _)
      rw [Nat.mul_comm (2 ^ r.length)] at a2
      omega
    · refine same ?_ rfl
      rw [show dv true = 1 from rfl, Nat.one_mul, Nat.one_mul, Nat.add_assoc, Nat.add_mul (2 ^ p.length), Nat.add_mul (2 ^ r.length), Nat.mul_comm (2 ^ r.length)] at h
      exact Nat.le_of_add_le_add_left h
end Ord

namespace Mu
open PySem L2
end Mu

namespace Kn
open PySem L2 Iv Cd Ord I2 Fb Cx_
/-! what a prefix of a code tells -/
section
variable {w m : Nat} {c p bs : List Bool}
end
/-! the border -/
noncomputable def tp (w : Nat) (p : List Bool) : Nat := lo w p * both w p + sz w p * zs w p (nx w p)
noncomputable def bt (w : Nat) (p : List Bool) : Nat := wh w p * both w p
noncomputable def lower (m : Nat) (p : List Bool) : List Bool := p ++ false :: List.replicate (m - p.length - 1) true
noncomputable def upper (m : Nat) (p : List Bool) : List Bool := p ++ true :: List.replicate (m - p.length - 1) false
theorem lower_len {m : Nat} {p : List Bool} (h : p.length < m) : (lower m p).length = m := by
  unfold lower; rw [List.length_append, List.length_cons, List.length_replicate]; omega
section
variable {w m : Nat} {c p : List Bool} (hw : 0 < w)
include hw
end
/-- all possible bits go on from p -/
noncomputable def From (w m : Nat) (c p : List Bool) : Prop := ∀ bs, bs.length = m → c <+: code w bs → p <+: bs
/-- the known prefix, or none -/
noncomputable def Known (w m : Nat) (c : List Bool) : Option (List Bool) → Prop
  | none => ∀ bs, bs.length = m → ¬ c <+: code w bs
  | some p => p.length ≤ m ∧ From w m c p ∧ (p.length = m → c <+: code w p) ∧ (p.length < m → c <+: code w (lower m p) ∧ c <+: code w (upper m p))
/-- a known prefix comes of possible bits -/
theorem exists_of {w m : Nat} {c p : List Bool} (k : Known w m c (some p)) : ∃ bs, bs.length = m ∧ c <+: code w bs ∧ p <+: bs := by
  obtain ⟨h1, h2, h3, h4⟩ := k
  by_cases e : p.length = m
  · exact ⟨p, e, h3 e, List.prefix_rfl⟩
  · exact ⟨_, lower_len (by omega), (h4 (by omega)).1, ⟨_, rfl⟩⟩
theorem bin_of {m : Nat} {bs : List Bool} (hl : bs.length = m) : bin m (val bs) = bs ∧ val bs < 2 ^ m := by
  subst hl; exact ⟨bin_val bs, val_lt bs⟩
/-- the possible rows of all rows -/
noncomputable def rowsOf (w m : Nat) (c : List Bool) : List (List Bool) := ((List.range (2 ^ m)).filter fun v => decide (c <+: code w (bin m v))).map fun v => bin m v
theorem mem_rows {w m : Nat} {c bs : List Bool} : bs ∈ rowsOf w m c ↔ bs.length = m ∧ c <+: code w bs := by
  unfold rowsOf
  rw [List.mem_map]
  constructor
  · rintro ⟨v, hv, rfl⟩
    rw [List.mem_filter] at hv
    exact ⟨bin_len _ _, of_decide_eq_true hv.2⟩
  · rintro ⟨hl, hc⟩
    obtain ⟨e, h⟩ := bin_of hl
    refine ⟨val bs, ?_, e⟩
    rw [List.mem_filter, List.mem_range, e]
    exact ⟨h, decide_eq_true hc⟩
theorem rows_some {w m : Nat} {c p : List Bool} (k : Known w m c (some p)) : rowsOf w m c ≠ [] := by
  obtain ⟨bs, hl, hc, _⟩ := exists_of k
  exact List.ne_nil_of_mem (mem_rows.mpr ⟨hl, hc⟩)
theorem sw (a b : List Bool) : PySem.Txt.startswith (Bs.S a) (Bs.S b) = decide (b <+: a) := by
  unfold PySem.Txt.startswith
  rw [PySem.StrLaws.subAt_eq, Bs.len, Bs.len, List.drop_zero, Nat.zero_add]
  show (decide (b.length ≤ a.length) && ((a.map Bs.cd).take b.length == b.map Bs.cd)) = _
  rw [← List.map_take, Bool.eq_iff_iff, Bool.and_eq_true, decide_eq_true_iff, decide_eq_true_iff, beq_iff_eq]
  constructor
  · rintro ⟨_, h⟩
    exact List.prefix_iff_eq_take.mpr (List.map_inj_right (f := Bs.cd) (fun _ _ => Bs.cd_inj) |>.mp h).symm
  · intro h
    exact ⟨h.length_le, by rw [← List.prefix_iff_eq_take.mp h]⟩
end Kn

namespace Gd
open PySem L2
noncomputable def xr (a b : Nat) : Nat := if a = b then 0 else 1
theorem xr_int {a b : Nat} (ha : a ≤ 1) (hb : b ≤ 1) : Builtin.bitXor (a : Int) (b : Int) = ((xr a b : Nat) : Int) := by
  have h1 : a = 0 ∨ a = 1 := by omega
  have h2 : b = 0 ∨ b = 1 := by omega
  rcases h1 with e | e <;> rcases h2 with e2 | e2 <;> subst e <;> subst e2 <;> decide +kernel
noncomputable def vl (f : Nat → List Int) (j k : Nat) : Nat := ((f j).getD k 0).toNat
/-- the stored bit -/
noncomputable def sb (f : Nat → List Int) (c j k p : Nat) : Nat :=
  if c = 1 then Gy.gb (vl f 0 k) p else if j = 0 then Gy.gb (vl f 1 k) p else xr (Gy.gb (vl f 1 k) p) (Gy.gb (vl f (if j = 1 then 0 else 2) k) p)
theorem getD_mem {xs : List Int} {k : Nat} (h : k < xs.length) : xs.getD k 0 ∈ xs := by
  rw [List.getD_eq_getElem?_getD, List.getElem?_eq_getElem h]; exact List.getElem_mem h
theorem vl_int {f : Nat → List Int} {j k : Nat} (h : k < (f j).length) (hz : ∀ z ∈ f j, 0 ≤ z) : (f j).getD k 0 = ((vl f j k : Nat) : Int) := by
  unfold vl
  rw [Int.toNat_of_nonneg (hz _ (getD_mem h))]
end Gd

namespace Pk
open PySem L2 I2 Fb
/-! bits and bytes -/
noncomputable def ckStep (a : Int × Int) (b : Int) : Int × Int := ((a.1 + b) % 256, (a.2 + (a.1 + b) % 256) % 256)
noncomputable def ck (xs : List Int) : Int × Int := xs.foldl ckStep (0, 0)
noncomputable def nb (n : Nat) : Nat := (n + 7) / 8
noncomputable def fill (bs : List Bool) : List Bool := bs ++ List.replicate (8 * nb bs.length - bs.length) false
/-- the i-th eight of some bits -/
noncomputable def ei (l : List Bool) (i : Nat) : List Bool := (l.drop (8 * i)).take 8
noncomputable def pk (bs : List Bool) : List Int := (List.range (nb bs.length)).map fun i => ((val (ei (fill bs) i) : Nat) : Int)
noncomputable def un (xs : List Nat) : List Bool := (xs.map (bin 8)).flatten
theorem un_len (xs : List Nat) : (un xs).length = 8 * xs.length := by
  unfold un
  induction xs with
  | nil => rfl
  | cons x xs ih => rw [List.map_cons, List.flatten_cons, List.length_append, ih, bin_len, List.length_cons]; omega
/-- the law's part: the i-th eight and seven zeros -/
noncomputable def part (bs : List Bool) (i : Nat) : List Bool := ei bs i ++ List.replicate 7 false
theorem glue (e : Str) (he : e.cps = #[]) : ∀ (rows : List (List Bool)) (a : List Bool), (rows.map Bs.S).foldl (fun acc p => acc ++ e.cps ++ p.cps) (Bs.S a).cps = (Bs.S (a ++ rows.flatten)).cps
  | [], a => by rw [List.flatten_nil, List.append_nil]; rfl
  | r :: rows, a => by
    rw [List.map_cons, List.foldl_cons, he, Array.append_empty, List.flatten_cons, ← List.append_assoc]
    rw [← he]
    have := glue e he rows (a ++ r)
    rw [← this]
    congr 1
    have c := Bs.cat a r
    have := congrArg Str.cps c
    exact this
theorem joinE (rows : List (List Bool)) : Txt.join (Str.ofString "") (rows.map Bs.S) = Bs.S rows.flatten := by
  have he : (Str.ofString "").cps = #[] := rfl
  cases rows with
  | nil => rfl
  | cons r rows =>
    have := glue (Str.ofString "") he rows r
    show Str.mk (((r :: rows).map Bs.S).drop 1 |>.foldl (fun acc p => acc ++ (Str.ofString "").cps ++ p.cps) (Bs.S r).cps) = _
    rw [List.map_cons, List.drop_one, List.tail_cons, this, List.flatten_cons]
theorem sum_len : ∀ (rows : List (List Bool)), (∀ r ∈ rows, r.length ≤ 8) → ((rows.map Bs.S).map (·.length)).sum ≤ 8 * rows.length
  | [], _ => Nat.le_refl _
  | r :: rows, h => by
    have ih := sum_len rows fun x hx => h x (List.mem_cons_of_mem _ hx)
    have h1 := h r (List.mem_cons_self ..)
    rw [List.map_cons, List.map_cons, List.sum_cons, List.length_cons, Bs.len]
    omega
theorem joinP {K : PySem.W.Frag} {H : Hp} {Q : VK} {p : Addr} {rows : List (List Bool)} (hp : SqL K H p (rows.map fun r => V.str (Bs.S r))) (h8 : ∀ r ∈ rows, r.length ≤ 8) (hl : rows.length ≤ 1000000) (q : Q (.str (Bs.S rows.flatten)) H) :
    ∃ a p', ∃ ys : List Str, V.str (Str.ofString "") = .str a ∧ [V.ref p] = [.ref p'] ∧ (SqL K H p' (ys.map V.str) ∨ SqT K H p' (ys.map V.str)) ∧ (ys.map (·.length)).sum + ys.length * a.length ≤ 16777216 ∧ Q (.str (Txt.join a ys)) H := by
  refine ⟨_, p, rows.map Bs.S, rfl, rfl, .inl (by rw [List.map_map]; exact hp), ?_, ?_⟩
  · have := sum_len rows h8
    have e0 : (Str.ofString "").length = 0 := rfl
    rw [e0, Nat.mul_zero]
    omega
  · rw [joinE]; exact q
theorem singles {A : Type} (g : A → Bool) : ∀ l : List A, (l.map fun i => [g i]).flatten = l.map g
  | [] => rfl
  | a :: l => by rw [List.map_cons, List.flatten_cons, singles g l, List.map_cons]; rfl
end Pk

namespace Pb
open PySem L2
/-- the bits of a packet -/
noncomputable def pb (w h t : Nat) (f : Nat → List Int) (c j k p : Nat) : List Bool := (List.range (Rg.tileBox w h t k)).map fun m => decide (Gd.sb f c j (Gd.pix w t k m) p = 1)
theorem pb_len {w h t : Nat} {f : Nat → List Int} {c j k p : Nat} : (pb w h t f c j k p).length = Rg.tileBox w h t k := by unfold pb; simp
theorem sb_le (f : Nat → List Int) (c j k p : Nat) : Gd.sb f c j k p ≤ 1 := by
  unfold Gd.sb
  have g := fun v => Gy.gb_le v p
  have x : ∀ a b, Gd.xr a b ≤ 1 := fun a b => by unfold Gd.xr; split <;> omega
  split
  · exact g _
  · split
    · exact g _
    · exact x _ _
theorem box_le {w h t k : Nat} (h1 : t ≤ 16) : Rg.tileBox w h t k ≤ 256 := by
  unfold Rg.tileBox
  have a : Gd.sd h t (k / Gd.ac w t) ≤ 16 := by unfold Gd.sd; omega
  have b : Gd.sd w t (k % Gd.ac w t) ≤ 16 := by unfold Gd.sd; omega
  exact Nat.mul_le_mul a b
theorem str01 {H : Hp} {Q : VK} {n : Nat} (h : n ≤ 1) (q : Q (.str (Bs.S [decide (n = 1)])) H) : Gx.rStrI [.int (n : Int)] H Q := Bs.strbit (by omega) fun c hc => by
  rw [hc, show decide ((n : Int) = 1) = decide (n = 1) from decide_eq_decide.mpr (by omega)]; exact q
/-- single bits joined -/
theorem joinS {K : PySem.W.Frag} {H : Hp} {Q : VK} {p : Addr} {n : Nat} {g : Nat → Bool} (hp : SqL K H p ((List.range n).map fun m => V.str (Bs.S [g m]))) (hn : n ≤ 1000000) (q : Q (.str (Bs.S ((List.range n).map g))) H) :
    ∃ a p', ∃ ys : List Str, V.str (Str.ofString "") = .str a ∧ [V.ref p] = [.ref p'] ∧ (SqL K H p' (ys.map V.str) ∨ SqT K H p' (ys.map V.str)) ∧ (ys.map (·.length)).sum + ys.length * a.length ≤ 16777216 ∧ Q (.str (Txt.join a ys)) H := by
  refine Pk.joinP (rows := (List.range n).map fun m => [g m]) (by rw [List.map_map]; exact hp) (fun r hr => ?_) (by simp; omega) (by rw [Pk.singles]; exact q)
  obtain ⟨m, _, rfl⟩ := List.mem_map.mp hr
  show 1 ≤ 8; decide
theorem rowHf {w h d c : Nat} {rows : List (List Int)} (ok : Pq.rowsOk (w * h) d c rows) {m t k : Nat} (hm : Gd.pix w t k m < w * h) : ∀ i, i < c → Gd.pix w t k m < (rows.getD i []).length ∧ ∀ z ∈ rows.getD i [], 0 ≤ z := fun i hi => by
  have o := Pq.rowOk_getD ok hi
  exact ⟨by rw [o.1]; exact hm, fun z hz => (o.2 z hz).1⟩
end Pb

namespace Dx
open PySem L2 Fx Nx
section
variable {K : PySem.W.Frag} {R H S : Hp} {a b p : Addr} {kvs : List (List L2.Key × V)} {k : List L2.Key} {v x y : V} {Q : VK} {D : Ends} {σ : L2.St} {td ty tv : TE}
noncomputable def DgP (x y : V) (H : Hp) (Q : VK) : Prop := ∃ a v, x = .ref a ∧ DGet H a y (some v) ∧ Q v H
theorem dget (q : td σ H fun x H1 => ty σ H1 fun y H2 => DgP x y H2 Q) : tDGet td ty σ H Q := q
noncomputable instance : Gx.St (tDGet td ty σ H Q) (td σ H fun x H1 => ty σ H1 fun y H2 => DgP x y H2 Q) := ⟨fun q => dget q⟩
noncomputable def DpP (x y v : V) (D : Ends) (σ : L2.St) (H : Hp) : Prop := ∃ a H4, x = .ref a ∧ DPut H a y v H4 ∧ D.nx σ H4
theorem dput (q : tv σ H fun v H1 => td σ H1 fun x H2 => ty σ H2 fun y H3 => DpP x y v D σ H3) : sDPut td ty tv D σ H := q
noncomputable instance : Gx.St (sDPut td ty tv D σ H) (tv σ H fun v H1 => td σ H1 fun x H2 => ty σ H2 fun y H3 => DpP x y v D σ H3) := ⟨fun q => dput q⟩
end
/-- a key's tuple -/
noncomputable def kq (j k p : Nat) : List L2.Key := [.inl (j : Int), .inl (k : Int), .inl (p : Int)]
theorem kq_inj {j k p j' k' p' : Nat} : kq j k p = kq j' k' p' ↔ j = j' ∧ k = k' ∧ p = p' := by
  unfold kq
  simp only [List.cons.injEq, Sum.inl.injEq, and_true]
  omega
/-- the gray bit that the stored channels give -/
noncomputable def nd (c j : Nat) : List Nat := if c = 1 ∨ j = 1 then [0] else [0, if j = 0 then 1 else 2]
noncomputable def bit (b : Bool) : Nat := if b = true then 1 else 0
noncomputable def gv (g : Nat → Nat → Nat → List Bool) (c j k m p : Nat) : Nat := ((nd c j).map fun s => bit ((g s k p).getD m false)).sum % 2
noncomputable def gs (g : Nat → Nat → Nat → List Bool) (c d j k m : Nat) : List Nat := (List.range d).map fun i => gv g c j k m (d - 1 - i)
end Dx

namespace Dx
open PySem L2
/-! what packets tell of a picture -/
noncomputable def ix (c T d j k p : Nat) : Nat := ((d - 1 - p) * c + j) * T + k
theorem ix_back {c T d i : Nat} (hc : 0 < c) (hT : 0 < T) (hi : i < d * c * T) : i / T % c < c ∧ i % T < T ∧ d - 1 - i / T / c < d ∧ i / T / c < d ∧ ix c T d (i / T % c) (i % T) (d - 1 - i / T / c) = i := by
  have h1 : i / T < d * c := Nat.div_lt_of_lt_mul (by rw [Nat.mul_comm]; exact hi)
  have h2 : i / T / c < d := Nat.div_lt_of_lt_mul (by rw [Nat.mul_comm]; exact h1)
  refine ⟨Nat.mod_lt _ hc, Nat.mod_lt _ hT, ?_, h2, ?_⟩
  · generalize i / T / c = u at *
    omega
  unfold ix
  rw [show d - 1 - (d - 1 - i / T / c) = i / T / c by generalize i / T / c = u at *; omega]
  exact Gd.ky_back
theorem ky_ix {c T d i : Nat} (hc : 0 < c) (hT : 0 < T) (hi : i < d * c * T) : Gd.ky T c d i = [((i / T % c : Nat) : Int), ((i % T : Nat) : Int), ((d - 1 - i / T / c : Nat) : Int)] := by
  obtain ⟨_, _, _, h, _⟩ := ix_back hc hT hi
  rw [Gd.ky_at hc, show (d : Int) - 1 - ((i / T / c : Nat) : Int) = ((d - 1 - i / T / c : Nat) : Int) by generalize i / T / c = u at *; omega]
/-! the pixels before a tile, and before a key -/
noncomputable def off (w h t k : Nat) : Nat := (k / Gd.ac w t * t) * w + Gd.sd h t (k / Gd.ac w t) * (k % Gd.ac w t * t)
section
variable {w h t k : Nat} (hw : 0 < w) (ht : 0 < t) (hk : k < Gd.ac w t * Gd.ac h t)
include hw ht hk
end
/-- the bits before the i-th key -/
noncomputable def acc (w h t i : Nat) : Nat := i / (Gd.ac w t * Gd.ac h t) * (w * h) + off w h t (i % (Gd.ac w t * Gd.ac h t))
noncomputable def PT (c T d : Nat) (S : Nat → Nat → Nat → Prop) (F : Nat → Nat → Nat → List Bool → Prop) (kvs : List (List L2.Key × V)) : Prop := ∃ g : Nat → Nat → Nat → List Bool, ∀ j k p, j < c → k < T → p < d → S j k p → valV kvs (kq j k p) = some (.str (Bs.S (g j k p))) ∧ F j k p (g j k p)
theorem PT.put {c T d : Nat} {S S' : Nat → Nat → Nat → Prop} {F F' : Nat → Nat → Nat → List Bool → Prop} {kvs kvs' : List (List L2.Key × V)} {j0 k0 p0 : Nat} {b : List Bool} (x : PT c T d S F kvs) (e : ∀ key, valV kvs' key = if key = kq j0 k0 p0 then some (.str (Bs.S b)) else valV kvs key) (hb : F' j0 k0 p0 b)
    (hS : ∀ j k p, j < c → k < T → p < d → ¬ (j = j0 ∧ k = k0 ∧ p = p0) → S' j k p → S j k p ∧ ∀ y, F j k p y → F' j k p y) : PT c T d S' F' kvs' := by
  obtain ⟨g, hg⟩ := x
  refine ⟨fun j k p => if j = j0 ∧ k = k0 ∧ p = p0 then b else g j k p, fun j k p hj hk hp s => ?_⟩
  rw [e]
  dsimp only
  by_cases z : j = j0 ∧ k = k0 ∧ p = p0
  · rw [if_pos (kq_inj.mpr z), if_pos z]
    obtain ⟨rfl, rfl, rfl⟩ := z
    exact ⟨rfl, hb⟩
  · rw [if_neg (fun y => z (kq_inj.mp y)), if_neg z]
    obtain ⟨h1, h2⟩ := hS j k p hj hk hp z s
    obtain ⟨h3, h4⟩ := hg j k p hj hk hp h1
    exact ⟨h3, h2 _ h4⟩
theorem PT.mono {c T d : Nat} {S S' : Nat → Nat → Nat → Prop} {F F' : Nat → Nat → Nat → List Bool → Prop} {kvs : List (List L2.Key × V)} (x : PT c T d S F kvs) (h : ∀ j k p, j < c → k < T → p < d → S' j k p → S j k p ∧ ∀ y, F j k p y → F' j k p y) : PT c T d S' F' kvs := by
  obtain ⟨g, hg⟩ := x
  refine ⟨g, fun j k p hj hk hp s => ?_⟩
  obtain ⟨h1, h2⟩ := h j k p hj hk hp s
  obtain ⟨h3, h4⟩ := hg j k p hj hk hp h1
  exact ⟨h3, h2 _ h4⟩
end Dx

namespace En
open PySem L2
/-! lists of pairs of a key and a number -/
noncomputable def EnP (H : Hp) : List V → List (List Int × Int) → Prop
  | [], [] => True
  | v :: xs, e :: es => (∃ a kp, v = .ref a ∧ H a = some (.tup [.ref kp, .int e.2]) ∧ H kp = some (.tup (e.1.map V.int))) ∧ EnP H xs es
  | _, _ => False
theorem EnP.keep {H H' : Hp} (s : Same H H') : ∀ {xs : List V} {es : List (List Int × Int)}, EnP H xs es → EnP H' xs es
  | [], [], _ => trivial
  | _ :: _, _ :: _, ⟨⟨a, kp, e1, e2, e3⟩, r⟩ => ⟨⟨a, kp, e1, s _ _ e2, s _ _ e3⟩, EnP.keep s r⟩
  | [], _ :: _, h => h.elim
  | _ :: _, [], h => h.elim
theorem EnP.len {H : Hp} : ∀ {xs : List V} {es : List (List Int × Int)}, EnP H xs es → xs.length = es.length
  | [], [], _ => rfl
  | _ :: _, _ :: _, ⟨_, r⟩ => congrArg (· + 1) (EnP.len r)
  | [], _ :: _, h => h.elim
  | _ :: _, [], h => h.elim
theorem EnP.app {H : Hp} : ∀ {xs ys : List V} {es fs : List (List Int × Int)}, EnP H xs es → EnP H ys fs → EnP H (xs ++ ys) (es ++ fs)
  | [], _, [], _, _, h => h
  | _ :: _, _, _ :: _, _, h, g => ⟨h.1, EnP.app h.2 g⟩
  | [], _, _ :: _, _, h, _ => h.elim
  | _ :: _, _, [], _, h, _ => h.elim
theorem EnP.at {H : Hp} : ∀ {xs : List V} {es : List (List Int × Int)} {i : Nat} {v : V}, EnP H xs es → xs[i]? = some v → ∃ (e : List Int × Int) (a kp : Addr), es[i]? = some e ∧ v = .ref a ∧ H a = some (.tup [.ref kp, .int e.2]) ∧ H kp = some (.tup (e.1.map V.int))
  | [], [], _, _, _, h => by cases h
  | v :: xs, e :: es, 0, _, ⟨⟨a, kp, h1, h2, h3⟩, _⟩, h => by cases h; exact ⟨e, a, kp, rfl, h1, h2, h3⟩
  | _ :: _, _ :: _, i + 1, _, ⟨_, r⟩, h => EnP.at (i := i) r (by simpa using h)
  | [], _ :: _, _, _, h, _ => h.elim
  | _ :: _, [], _, _, h, _ => h.elim
noncomputable def EL (H : Hp) (l : Addr) (es : List (List Int × Int)) : Prop := ∃ xs, H l = some (.lst xs) ∧ EnP H xs es
theorem EL.keep {H H' : Hp} {l : Addr} {es : List (List Int × Int)} (x : EL H l es) (s : Same H H') : EL H' l es := by
  obtain ⟨xs, h1, h2⟩ := x
  exact ⟨xs, s _ _ h1, h2.keep s⟩
noncomputable def enD (e : List Int × Int) : PyData := .tuple [.tuple (e.1.map .int), .int e.2]
theorem EnP.dp {K : PySem.W.Frag} {H : Hp} : ∀ {xs : List V} {es : List (List Int × Int)}, EnP H xs es → DpAll K H xs (es.map enD)
  | [], [], _ => .nil
  | v :: _, _ :: _, ⟨⟨a, kp, h1, h2, h3⟩, r⟩ => by
    subst h1
    exact .cons (.tup (SqT.of h2) (.cons (.tup (SqT.of h3) (Gx.dpAll_int _)) (.cons (.int _) .nil))) (EnP.dp r)
  | [], _ :: _, h => h.elim
  | _ :: _, [], h => h.elim
theorem EL.dp {K : PySem.W.Frag} {H : Hp} {l : Addr} {es : List (List Int × Int)} (x : EL H l es) : Dp K H (.ref l) (.list (es.map enD)) := by
  obtain ⟨xs, h1, h2⟩ := x
  exact .lst (SqL.of h1) h2.dp
noncomputable def kb (c T d : Nat) (k : List Int) : Option Str := Sx.keyBad c T d (k.getD 0 0) (k.getD 1 0) (k.getD 2 0)
noncomputable def told : Option (Option Str) → List Str
  | none => []
  | some none => ["twice"]
  | some (some z) => [z]
/-! the table of what was seen -/
noncomputable def ik (k : List Int) : List L2.Key := k.map Sum.inl
theorem ik_inj {j k : List Int} : ik j = ik k ↔ j = k := by
  unfold ik
  constructor
  · intro h
    induction j generalizing k with
    | nil => cases k with
      | nil => rfl
      | cons _ _ => cases h
    | cons a j ih => cases k with
      | nil => cases h
      | cons b k => injection h with h1 h2; injection h1 with h1; rw [h1, ih h2]
  · intro h; rw [h]
noncomputable def Seen (kvs : List (List L2.Key × V)) (seen : List (List Int)) : Prop := ∀ k : List Int, (valV kvs (ik k)).isSome = decide (k ∈ seen)
theorem Seen.nil : Seen [] [] := fun k => by simp [valV]
theorem Seen.put {kvs : List (List L2.Key × V)} {seen : List (List Int)} {k : List Int} {v : V} (x : Seen kvs seen) : Seen (putK kvs (ik k) v) (seen ++ [k]) := fun j => by
  rw [valV_put]
  by_cases h : j = k
  · rw [if_pos (ik_inj.mpr h)]
    simp [h]
  · rw [if_neg (fun z => h (ik_inj.mp z)), x j]
    simp [h]
noncomputable def DiP (x y : V) (H : Hp) (Q : VK) : Prop := ∃ a o, x = .ref a ∧ DGet H a y o ∧ Q (.bl o.isSome) H
theorem din {td ty : TE} {σ : L2.St} {H : Hp} {Q : VK} (q : ty σ H fun y H1 => td σ H1 fun x H2 => DiP x y H2 Q) : tDIn ty td σ H Q := q
noncomputable instance {td ty : TE} {σ : L2.St} {H : Hp} {Q : VK} : Gx.St (tDIn ty td σ H Q) (ty σ H fun y H1 => td σ H1 fun x H2 => DiP x y H2 Q) := ⟨fun q => din q⟩
end En

namespace Rd
open PySem L2 I2 Fb Pk
/-! records and headers, as rows of 32 numbers -/
/-- some digits, filled up to 160 -/
noncomputable def full (bs : List Bool) : List Bool := bs ++ List.replicate (160 - bs.length) false
noncomputable def body (bs : List Bool) : List Nat := (List.range 20).map fun k => val (ei (full bs) k)
noncomputable def I (xs : List Nat) : List Int := xs.map fun v : Nat => (v : Int)
noncomputable def W (xs : List Nat) : List V := xs.map fun v : Nat => V.int (v : Int)
theorem un_app (xs ys : List Nat) : un (xs ++ ys) = un xs ++ un ys := by unfold un; rw [List.map_append, List.flatten_append]
theorem more {xs : List Nat} {c : Nat} (hl : xs.length = 32) (h : c ≤ 160) : (un ((xs.drop 6).take 25)).take c = (un ((xs.drop 6).take 20)).take c := by
  have e : (xs.drop 6).take 25 = (xs.drop 6).take 20 ++ ((xs.drop 6).drop 20).take 5 := by
    rw [← List.take_add]
  rw [e, un_app, List.take_append_of_le_length]
  rw [un_len, List.length_take, List.length_drop]
  omega
/-- an answer: none, or a tuple of two numbers and a text -/
noncomputable def Told (d : Option (Nat × Nat × List Bool)) (v : V) (H : Hp) : Prop :=
  match d with
  | none => v = .non
  | some (a, b, bs) => ∃ t, v = .ref t ∧ H t = some (.tup [.int (a : Int), .int (b : Int), .str (Bs.S bs)])
theorem Told.keep {d : Option (Nat × Nat × List Bool)} {v : V} {H H' : Hp} (t : Told d v H) (s : Same H H') : Told d v H' := by
  cases d with
  | none => exact t
  | some r => obtain ⟨t, e, h⟩ := t; exact ⟨t, e, s _ _ h⟩
end Rd
namespace Bx
open PySem L2
theorem Box.put {H0 H : Hp} {b p c : Addr} {xs : List Int} {o : HO} (B : Box H0 H b p xs) (w : c ≠ b ∧ c ≠ p ∧ H0 c = none) : Box H0 (upd H c o) b p xs := by
  obtain ⟨k, hk⟩ := B.bx
  exact ⟨Gx.same_up w.2.2 B.same, B.nb, B.np, ⟨k, by rw [upd_ne w.1.symm]; exact hk⟩, by rw [upd_ne w.2.1.symm]; exact B.dg⟩
end Bx

namespace Pt
open PySem L2
/-! lists of pairs of a key and its bits; the bytes of a packet file -/
abbrev PE := List Int × List Bool
noncomputable def PtP (H : Hp) : List V → List PE → Prop
  | [], [] => True
  | v :: xs, e :: es => (∃ a kp, v = .ref a ∧ H a = some (.tup [.ref kp, .str (Bs.S e.2)]) ∧ H kp = some (.tup (e.1.map V.int))) ∧ PtP H xs es
  | _, _ => False
theorem PtP.keep {H H' : Hp} (s : Same H H') : ∀ {xs : List V} {es : List PE}, PtP H xs es → PtP H' xs es
  | [], [], _ => trivial
  | _ :: _, _ :: _, ⟨⟨a, kp, e1, e2, e3⟩, r⟩ => ⟨⟨a, kp, e1, s _ _ e2, s _ _ e3⟩, PtP.keep s r⟩
  | [], _ :: _, h => h.elim
  | _ :: _, [], h => h.elim
theorem PtP.len {H : Hp} : ∀ {xs : List V} {es : List PE}, PtP H xs es → xs.length = es.length
  | [], [], _ => rfl
  | _ :: _, _ :: _, ⟨_, r⟩ => congrArg (· + 1) (PtP.len r)
  | [], _ :: _, h => h.elim
  | _ :: _, [], h => h.elim
theorem PtP.app {H : Hp} : ∀ {xs ys : List V} {es fs : List PE}, PtP H xs es → PtP H ys fs → PtP H (xs ++ ys) (es ++ fs)
  | [], _, [], _, _, h => h
  | _ :: _, _, _ :: _, _, h, g => ⟨h.1, PtP.app h.2 g⟩
  | [], _, _ :: _, _, h, _ => h.elim
  | _ :: _, _, [], _, h, _ => h.elim
theorem PtP.at {H : Hp} : ∀ {xs : List V} {es : List PE} {i : Nat} {v : V}, PtP H xs es → xs[i]? = some v → ∃ (e : PE) (a kp : Addr), es[i]? = some e ∧ v = .ref a ∧ H a = some (.tup [.ref kp, .str (Bs.S e.2)]) ∧ H kp = some (.tup (e.1.map V.int))
  | [], [], _, _, _, h => by cases h
  | v :: xs, e :: es, 0, _, ⟨⟨a, kp, h1, h2, h3⟩, _⟩, h => by cases h; exact ⟨e, a, kp, rfl, h1, h2, h3⟩
  | _ :: _, _ :: _, i + 1, _, ⟨_, r⟩, h => PtP.at (i := i) r (by simpa using h)
  | [], _ :: _, _, _, h, _ => h.elim
  | _ :: _, [], _, _, h, _ => h.elim
theorem PtP.take {H : Hp} : ∀ {xs : List V} {es : List PE} (n : Nat), PtP H xs es → PtP H (xs.take n) (es.take n)
  | xs, es, 0, _ => by simp [PtP]
  | [], [], _ + 1, _ => by simp [PtP]
  | _ :: _, _ :: _, n + 1, ⟨h, r⟩ => ⟨h, PtP.take n r⟩
  | [], _ :: _, _ + 1, h => h.elim
  | _ :: _, [], _ + 1, h => h.elim
theorem PtP.drop {H : Hp} : ∀ {xs : List V} {es : List PE} (n : Nat), PtP H xs es → PtP H (xs.drop n) (es.drop n)
  | _, _, 0, h => h
  | [], [], _ + 1, _ => by simp [PtP]
  | _ :: _, _ :: _, n + 1, ⟨_, r⟩ => PtP.drop n r
  | [], _ :: _, _ + 1, h => h.elim
  | _ :: _, [], _ + 1, h => h.elim
theorem PtP.one {H : Hp} {a kp : Addr} {k : List Int} {bs : List Bool} (h1 : H a = some (.tup [.ref kp, .str (Bs.S bs)])) (h2 : H kp = some (.tup (k.map V.int))) : PtP H [.ref a] [(k, bs)] := ⟨⟨a, kp, rfl, h1, h2⟩, trivial⟩
noncomputable def PL (H : Hp) (l : Addr) (es : List PE) : Prop := ∃ xs, H l = some (.lst xs) ∧ PtP H xs es
theorem PL.keep {H H' : Hp} {l : Addr} {es : List PE} (x : PL H l es) (s : Same H H') : PL H' l es := by
  obtain ⟨xs, h1, h2⟩ := x
  exact ⟨xs, s _ _ h1, h2.keep s⟩
noncomputable def ptD (e : PE) : PyData := .tuple [.tuple (e.1.map .int), .str (Bs.S e.2)]
theorem PtP.dp {K : PySem.W.Frag} {H : Hp} : ∀ {xs : List V} {es : List PE}, PtP H xs es → DpAll K H xs (es.map ptD)
  | [], [], _ => .nil
  | v :: _, _ :: _, ⟨⟨a, kp, h1, h2, h3⟩, r⟩ => by
    subst h1
    exact .cons (.tup (SqT.of h2) (.cons (.tup (SqT.of h3) (Gx.dpAll_int _)) (.cons (.str _) .nil))) (PtP.dp r)
  | [], _ :: _, h => h.elim
  | _ :: _, [], h => h.elim
theorem PL.dp {K : PySem.W.Frag} {H : Hp} {l : Addr} {es : List PE} (x : PL H l es) : Dp K H (.ref l) (.list (es.map ptD)) := by
  obtain ⟨xs, h1, h2⟩ := x
  exact .lst (SqL.of h1) h2.dp
noncomputable def num (c T d : Nat) (k : List Int) : Nat := Dx.ix c T d (k.getD 0 0).toNat (k.getD 1 0).toNat (k.getD 2 0).toNat
noncomputable def wp (xs : List Int) : List Int := xs ++ [(Pk.ck xs).1, (Pk.ck xs).2]
noncomputable def two (n : Nat) : List Int := [((n / 256 : Nat) : Int), ((n % 256 : Nat) : Int)]
noncomputable def hB (w h d c t n : Nat) : List Int := wp ([80, 80, 67, 49] ++ [(w : Int), (h : Int), (d : Int), (c : Int), (t : Int)] ++ two n)
/-- where the keys stand -/
theorem PtP.keys {H : Hp} : ∀ {xs : List V} {es : List PE}, PtP H xs es → ∃ ps : List Addr, ps.length = es.length ∧ ∀ (i : Nat) (v : V), xs[i]? = some v → ∃ (e : PE) (a kp : Addr), v = V.ref a ∧ es[i]? = some e ∧ ps[i]? = some kp ∧ H a = some (.tup [.ref kp, .str (Bs.S e.2)]) ∧ H kp = some (.tup (e.1.map V.int))
  | [], [], _ => ⟨[], rfl, fun i v e => by simp at e⟩
  | v :: xs, e :: es, ⟨⟨a, kp, h1, h2, h3⟩, r⟩ => by
    obtain ⟨ps, l, f⟩ := PtP.keys r
    refine ⟨kp :: ps, by rw [List.length_cons, List.length_cons, l], fun i y ey => ?_⟩
    cases i with
    | zero => cases ey; exact ⟨e, a, kp, h1, rfl, rfl, h2, h3⟩
    | succ i => exact f i y (by simpa using ey)
  | [], _ :: _, h => h.elim
  | _ :: _, [], h => h.elim
noncomputable def wd (m : Nat) : Str := (["channel", "tile", "plane"] : List Str).getD m ""
theorem three {xs : List Int} (h : xs.length = 3) : ∃ a b c, xs = [a, b, c] := by
  match xs, h with
  | [a, b, c], _ => exact ⟨a, b, c, rfl⟩
end Pt

namespace Aw
open PySem L2
/-! the code of a packet of a picture -/
@[irreducible] noncomputable def pc (w h t : Nat) (f : Nat → List Int) (c j k p : Nat) : List Bool := Iv.code (Gd.sd w t (k % Gd.ac w t)) (Pb.pb w h t f c j k p)
/-! lists of triples of a key, a number and bits -/
abbrev AE := List Int × Int × List Bool
noncomputable def AtP (H : Hp) : List V → List AE → Prop
  | [], [] => True
  | v :: xs, e :: es => (∃ a kp, v = .ref a ∧ H a = some (.tup [.ref kp, .int e.2.1, .str (Bs.S e.2.2)]) ∧ H kp = some (.tup (e.1.map V.int))) ∧ AtP H xs es
  | _, _ => False
theorem AtP.keep {H H' : Hp} (s : Same H H') : ∀ {xs : List V} {es : List AE}, AtP H xs es → AtP H' xs es
  | [], [], _ => trivial
  | _ :: _, _ :: _, ⟨⟨a, kp, e1, e2, e3⟩, r⟩ => ⟨⟨a, kp, e1, s _ _ e2, s _ _ e3⟩, AtP.keep s r⟩
  | [], _ :: _, h => h.elim
  | _ :: _, [], h => h.elim
theorem AtP.len {H : Hp} : ∀ {xs : List V} {es : List AE}, AtP H xs es → xs.length = es.length
  | [], [], _ => rfl
  | _ :: _, _ :: _, ⟨_, r⟩ => congrArg (· + 1) (AtP.len r)
  | [], _ :: _, h => h.elim
  | _ :: _, [], h => h.elim
theorem AtP.app {H : Hp} : ∀ {xs ys : List V} {es fs : List AE}, AtP H xs es → AtP H ys fs → AtP H (xs ++ ys) (es ++ fs)
  | [], _, [], _, _, h => h
  | _ :: _, _, _ :: _, _, h, g => ⟨h.1, AtP.app h.2 g⟩
  | [], _, _ :: _, _, h, _ => h.elim
  | _ :: _, _, [], _, h, _ => h.elim
theorem AtP.at {H : Hp} : ∀ {xs : List V} {es : List AE} {i : Nat} {v : V}, AtP H xs es → xs[i]? = some v → ∃ (e : AE) (a kp : Addr), es[i]? = some e ∧ v = .ref a ∧ H a = some (.tup [.ref kp, .int e.2.1, .str (Bs.S e.2.2)]) ∧ H kp = some (.tup (e.1.map V.int))
  | [], [], _, _, _, h => by cases h
  | v :: xs, e :: es, 0, _, ⟨⟨a, kp, h1, h2, h3⟩, _⟩, h => by cases h; exact ⟨e, a, kp, rfl, h1, h2, h3⟩
  | _ :: _, _ :: _, i + 1, _, ⟨_, r⟩, h => AtP.at (i := i) r (by simpa using h)
  | [], _ :: _, _, _, h, _ => h.elim
  | _ :: _, [], _, _, h, _ => h.elim
noncomputable def AL (H : Hp) (l : Addr) (es : List AE) : Prop := ∃ xs, H l = some (.lst xs) ∧ AtP H xs es
theorem AL.keep {H H' : Hp} {l : Addr} {es : List AE} (x : AL H l es) (s : Same H H') : AL H' l es := by
  obtain ⟨xs, h1, h2⟩ := x
  exact ⟨xs, s _ _ h1, h2.keep s⟩
theorem AtP.off {H : Hp} {p : Addr} {o : HO} (h : ∀ zs, H p ≠ some (.tup zs)) : ∀ {xs : List V} {es : List AE}, AtP H xs es → AtP (upd H p o) xs es
  | [], [], _ => trivial
  | _ :: _, _ :: _, ⟨⟨a, kp, e1, e2, e3⟩, r⟩ => ⟨⟨a, kp, e1, by rw [upd_ne (fun z => h _ (by rw [← z]; exact e2))]; exact e2, by rw [upd_ne (fun z => h _ (by rw [← z]; exact e3))]; exact e3⟩, AtP.off h r⟩
  | [], _ :: _, h => h.elim
  | _ :: _, [], h => h.elim
noncomputable def atD (e : AE) : PyData := .tuple [.tuple (e.1.map .int), .int e.2.1, .str (Bs.S e.2.2)]
theorem AtP.dp {K : PySem.W.Frag} {H : Hp} : ∀ {xs : List V} {es : List AE}, AtP H xs es → DpAll K H xs (es.map atD)
  | [], [], _ => .nil
  | v :: _, _ :: _, ⟨⟨a, kp, h1, h2, h3⟩, r⟩ => by
    subst h1
    exact .cons (.tup (SqT.of h2) (.cons (.tup (SqT.of h3) (Gx.dpAll_int _)) (.cons (.int _) (.cons (.str _) .nil)))) (AtP.dp r)
  | [], _ :: _, h => h.elim
  | _ :: _, [], h => h.elim
theorem AL.dp {K : PySem.W.Frag} {H : Hp} {l : Addr} {es : List AE} (x : AL H l es) : Dp K H (.ref l) (.list (es.map atD)) := by
  obtain ⟨xs, h1, h2⟩ := x
  exact .lst (SqL.of h1) h2.dp
noncomputable def ans0 (cd : List Int → List Bool) : List (List Int × Int) → Nat → List AE
  | [], _ => []
  | e :: r, left => if left = 0 then [] else
    let b := ((cd e.1).drop e.2.toNat).take left
    (if b = [] then [] else [(e.1, e.2, b)]) ++ ans0 cd r (left - b.length)
@[irreducible] noncomputable def ans (cd : List Int → List Bool) (es : List (List Int × Int)) (n : Nat) : List AE := ans0 cd es n
@[irreducible] noncomputable def cdk (w h t : Nat) (f : Nat → List Int) (c : Nat) (k : List Int) : List Bool := pc w h t f c (k.getD 0 0).toNat (k.getD 1 0).toNat (k.getD 2 0).toNat
@[irreducible] noncomputable def rest (cd : List Int → List Bool) (e : List Int × Int) : List Bool := (cd e.1).drop e.2.toNat
theorem isiLst {K : PySem.W.Frag} {H : Hp} {Q : VK} {a : Addr} {xs : List V} (h : H a = some (.lst xs)) (q : Q (.bl true) H) : rIsi K [.ref a, .ty "list"] H Q := Gx.isi (.base (.lst h)) q (kit_ty (by decide +kernel))
end Aw

namespace Ar
open PySem L2
/-! what has arrived: digits by the keys' numbers -/
/-- width and places of the packet with the number i -/
noncomputable def wd (w t T c i : Nat) : Nat := Gd.sd w t (i % T % Gd.ac w t)
noncomputable def bx (w h t T i : Nat) : Nat := Rg.tileBox w h t (i % T)
/-- the prefixes that are kept beside the digits -/
structure Ok (w h t c N : Nat) (ds ps : List (List Bool)) : Prop where
  dl : ds.length = N
  pl : ps.length = N
  db : ∀ b ∈ ds, b.length ≤ 100000
  pk : ∀ i, i < N → ds.getD i [] ≠ [] → Kn.Known (wd w t (Gd.ac w t * Gd.ac h t) c i) (bx w h t (Gd.ac w t * Gd.ac h t) i) (ds.getD i []) (some (ps.getD i []))
  pn : ∀ i, i < N → ds.getD i [] = [] → ps.getD i [] = []
theorem getD_set {ds : List (List Bool)} {i j : Nat} {b : List Bool} (h : i < ds.length) : (ds.set i b).getD j [] = if j = i then b else ds.getD j [] := by
  rw [List.getD_eq_getElem?_getD, List.getElem?_set, List.getD_eq_getElem?_getD]
  by_cases c : i = j
  · subst c; rw [if_pos rfl, if_pos h, if_pos rfl]; rfl
  · rw [if_neg c, if_neg (fun e => c e.symm)]
theorem Ok.set {w h t c N i : Nat} {ds ps : List (List Bool)} {b p : List Bool} (o : Ok w h t c N ds ps) (hi : i < N) (hb : b ≠ []) (hl : b.length ≤ 100000) (k : Kn.Known (wd w t (Gd.ac w t * Gd.ac h t) c i) (bx w h t (Gd.ac w t * Gd.ac h t) i) b (some p)) : Ok w h t c N (ds.set i b) (ps.set i p) := by
  refine ⟨by rw [List.length_set]; exact o.dl, by rw [List.length_set]; exact o.pl, fun x hx => ?_, fun j hj hn => ?_, fun j hj hn => ?_⟩
  · rcases List.mem_or_eq_of_mem_set hx with e | e
    · exact o.db x e
    · rw [e]; exact hl
  · rw [getD_set (by rw [o.dl]; exact hi)] at hn ⊢
    rw [getD_set (by rw [o.pl]; exact hi)]
    by_cases e : j = i
    · subst e; rw [if_pos rfl, if_pos rfl]; exact k
    · rw [if_neg e] at hn ⊢; rw [if_neg e]; exact o.pk j hj hn
  · rw [getD_set (by rw [o.dl]; exact hi)] at hn
    rw [getD_set (by rw [o.pl]; exact hi)]
    by_cases e : j = i
    · rw [if_pos e] at hn; exact absurd hn hb
    · rw [if_neg e] at hn ⊢; exact o.pn j hj hn
/-- out of what stands, to be changed -/
theorem take {R H : Hp} {ps : List (Addr × HO)} {a : Addr} {o : HO} (h : Mv.Hv R H ps) (e : R a = some o) : ∃ R', Mv.Hv R' H ((a, o) :: ps) ∧ ∀ c u, c ≠ a → R c = some u → R' c = some u := by
  have na : ∀ q ∈ ps, q.1 ≠ a := fun q hq z => by
    have := (h.on q hq).2
    rw [z, e] at this; cases this
  refine ⟨fun c => if c = a then none else R c, ⟨fun c n => ?_, fun q hq => ?_, ?_⟩, fun c u hc hu => ?_⟩
  · have ca : a ≠ c := n (a, o) (List.mem_cons_self ..)
    show H c = if c = a then none else R c
    rw [if_neg ca.symm]
    exact h.off c fun q hq => n q (List.mem_cons_of_mem _ hq)
  · rcases List.mem_cons.mp hq with z | z
    · subst z; exact ⟨h.same _ _ e, if_pos rfl⟩
    · exact ⟨(h.on q z).1, by show (if q.1 = a then none else R q.1) = none; rw [if_neg (na q z)]; exact (h.on q z).2⟩
  · rw [List.map_cons, List.nodup_cons]
    refine ⟨fun m => ?_, h.nd⟩
    obtain ⟨q, hq, z⟩ := List.mem_map.mp m
    exact na q hq z
  · show (if c = a then none else R c) = some u
    rw [if_neg hc]; exact hu
/-- without digits nothing is known -/
theorem known_nil {w m : Nat} (hm : 0 < m) : Kn.Known w m [] (some []) := ⟨Nat.zero_le _, fun bs _ _ => List.nil_prefix, fun h => (by rw [← h] at hm; exact absurd hm (Nat.lt_irrefl _)), fun _ => ⟨List.nil_prefix, List.nil_prefix⟩⟩
theorem Ok.known {w h t c N i : Nat} {ds ps : List (List Bool)} (o : Ok w h t c N ds ps) (hi : i < N) (hm : 0 < bx w h t (Gd.ac w t * Gd.ac h t) i) : Kn.Known (wd w t (Gd.ac w t * Gd.ac h t) c i) (bx w h t (Gd.ac w t * Gd.ac h t) i) (ds.getD i []) (some (ps.getD i [])) := by
  by_cases e : ds.getD i [] = []
  · rw [o.pn i hi e, e]; exact known_nil hm
  · exact o.pk i hi e
/-- what a piece does: the first thing that is wrong, or the number of new digits -/
noncomputable def dueV (W m c T d : Nat) (D : List Bool) (k : List Int) (st : Int) (bs : List Bool) : V := match En.kb c T d k with
  | some z => .str z
  | none => if ¬ (0 ≤ st ∧ st ≤ 65535) then .str "start" else if ¬ bs.length ≤ 65535 then .str "bits" else if D.length < st.toNat then .str "ahead" else if ¬ (D.drop st.toNat).take bs.length <+: bs then .str "other" else if bs.length ≤ D.length - st.toNat then .int 0 else if Kn.rowsOf W m (D ++ bs.drop (D.length - st.toNat)) = [] then .str "none" else .int ((bs.length - (D.length - st.toNat) : Nat) : Int)
end Ar

namespace Ar
open PySem L2
/-- digits of a packet that can be are short -/
theorem Ok.short {w h t c N : Nat} {ds ps : List (List Bool)} (o : Ok w h t c N ds ps) (ht : t ≤ 16) : ∀ b ∈ ds, b.length < 3002 := fun b hb => by
  obtain ⟨i, hi, rfl⟩ := List.getElem_of_mem hb
  have e : ds[i] = ds.getD i [] := by rw [List.getD_eq_getElem?_getD, List.getElem?_eq_getElem hi]; rfl
  rw [e]
  by_cases z : ds.getD i [] = []
  · rw [z]; decide
  have kn := o.pk i (by rw [← o.dl]; exact hi) z
  have ne := Kn.rows_some kn
  obtain ⟨x, hx⟩ := List.exists_mem_of_ne_nil _ ne
  obtain ⟨h1, h2⟩ := Kn.mem_rows.mp hx
  have h3 := h2.length_le
  rw [Iv.code_len] at h3
  have h4 : bx w h t (Gd.ac w t * Gd.ac h t) i ≤ 256 := Pb.box_le ht
  exact Nat.lt_of_le_of_lt h3 (Iv.kl_le (by rw [h1]; omega))
end Ar

namespace Om
open PySem L2
/-! what is open, what is missing -/
end Om

namespace Rk
open PySem L2 Iv Cd Ord I2 Fb Cx_ Kn
/-! the possible bits are neighbours -/
/-- possible: the row with the value v -/
noncomputable def Ps (w m : Nat) (c : List Bool) (v : Nat) : Prop := c <+: code w (bin m v)
noncomputable instance (w m : Nat) (c : List Bool) (v : Nat) : Decidable (Ps w m c v) := inferInstanceAs (Decidable (c <+: code w (bin m v)))
section
variable {w m : Nat} {c : List Bool} (hw : 0 < w)
include hw
end
noncomputable def orV (m : Nat) : Option Nat → V
  | none => .non
  | some f => .str (Bs.S (bin m f))
/-- the values of the possible rows -/
noncomputable def vals (w m : Nat) (c : List Bool) : List Nat := (List.range (2 ^ m)).filter fun v => decide (Ps w m c v)
theorem between {f n N : Nat} (h : f + n ≤ N) (p : Nat → Bool) (hp : ∀ v, v < N → (p v = true ↔ f ≤ v ∧ v < f + n)) : (List.range N).filter p = List.range' f n := by
  have e : List.range N = List.range' 0 f ++ (List.range' f n ++ List.range' (f + n) (N - f - n)) := by
    have e1 := List.range'_append_1 (s := f) (m := n) (n := N - f - n)
    have e2 := List.range'_append_1 (s := 0) (m := f) (n := n + (N - f - n))
    rw [e1]
    rw [Nat.zero_add] at e2
    rw [e2, List.range_eq_range']
    congr 1
    omega
  rw [e, List.filter_append, List.filter_append]
  have g1 : (List.range' 0 f).filter p = [] := by
    rw [List.filter_eq_nil_iff]
    intro v hv hp1
    rw [List.mem_range'_1] at hv
    have := (hp v (by omega)).mp hp1
    omega
  have g2 : (List.range' f n).filter p = List.range' f n := by
    rw [List.filter_eq_self]
    intro v hv
    rw [List.mem_range'_1] at hv
    exact (hp v (by omega)).mpr hv
  have g3 : (List.range' (f + n) (N - f - n)).filter p = [] := by
    rw [List.filter_eq_nil_iff]
    intro v hv hp1
    rw [List.mem_range'_1] at hv
    have := (hp v (by omega)).mp hp1
    omega
  rw [g1, g2, g3, List.nil_append, List.append_nil]
/-- the count -/
noncomputable def many (w m : Nat) (c : List Bool) : Nat := (vals w m c).length
end Rk

namespace Nb
open PySem L2
/-! numbers of possible bits, their product; bits that are needed -/
/-- the smallest k with x <= 2^k -/
noncomputable def bn (x : Int) : Nat := Builtin.Int.intBits (x - 1)
end Nb

namespace Vm
open PySem L2
theorem cut_back (xs : List V) : cutV xs (some (-16)) none = xs.drop (xs.length - 16) := by
  unfold cutV
  have e : HT.sIx xs.length 0 (some (-16)) = xs.length - 16 := by
    show (if (-16 : Int) < 0 then ((-16 : Int) + (xs.length : Int)).toNat else min (-16 : Int).toNat xs.length) = _
    rw [if_pos (by decide)]; omega
  rw [e]
  show (xs.drop (xs.length - 16)).take (xs.length - (xs.length - 16)) = _
  exact List.take_of_length_le (by rw [List.length_drop]; exact Nat.le_refl _)
theorem cut_from (xs : List V) (k : Nat) : cutV xs (some (k : Int)) none = xs.drop k := by
  unfold cutV
  rw [HT.sIx_nat]
  show (xs.drop (min k xs.length)).take (xs.length - min k xs.length) = _
  rw [List.take_of_length_le (by rw [List.length_drop]; exact Nat.le_refl _)]
  rcases Nat.le_total k xs.length with z | z
  · rw [Nat.min_eq_left z]
  · rw [Nat.min_eq_right z, List.drop_of_length_le (Nat.le_refl _), List.drop_of_length_le z]
/-- what a piece does, and what stands then -/
noncomputable def due (w h t c d : Nat) (ds : List (List Bool)) (e : Aw.AE) : V := Ar.dueV (Ar.wd w t (Gd.ac w t * Gd.ac h t) c (Pt.num c (Gd.ac w t * Gd.ac h t) d e.1)) (Ar.bx w h t (Gd.ac w t * Gd.ac h t) (Pt.num c (Gd.ac w t * Gd.ac h t) d e.1)) c (Gd.ac w t * Gd.ac h t) d (ds.getD (Pt.num c (Gd.ac w t * Gd.ac h t) d e.1) []) e.1 e.2.1 e.2.2
noncomputable def nx (w h t c d : Nat) (ds : List (List Bool)) (e : Aw.AE) : List (List Bool) := ds.set (Pt.num c (Gd.ac w t * Gd.ac h t) d e.1) (ds.getD (Pt.num c (Gd.ac w t * Gd.ac h t) d e.1) [] ++ e.2.2.drop ((ds.getD (Pt.num c (Gd.ac w t * Gd.ac h t) d e.1) []).length - e.2.1.toNat))
/-- a row of pieces: what is raised first, or the number of new digits and what stands -/
noncomputable def run (w h t c d : Nat) : List (List Bool) → Nat → List Aw.AE → V × List (List Bool)
  | ds, n, [] => (.int (n : Int), ds)
  | ds, n, e :: r => match due w h t c d ds e with
    | .int m => run w h t c d (nx w h t c d ds e) (n + m.toNat) r
    | z => (z, ds)
theorem or_pre {t u : TT} {σ : L2.St} {H : Hp} {B : Bool → Hp → Prop} (P : Hp → Prop) (hA : ∀ H, P H → B true H) (h : (∀ H, P H → B true H) → tOr t u σ H B) : tOr t u σ H B := h hA
end Vm

namespace Cg
open PySem L2
/-- whether a key's bits differ -/
noncomputable def dif (w h t c T d : Nat) (f g : List (List Int)) (i : Nat) : Bool := !decide (Pb.pb w h t (fun i => f.getD i []) c (i / T % c) (i % T) (d - 1 - i / T / c) = Pb.pb w h t (fun i => g.getD i []) c (i / T % c) (i % T) (d - 1 - i / T / c))
noncomputable def chg (w h d c t : Nat) (f g : List (List Int)) : List (List Int) := ((List.range (d * c * (Gd.ac w t * Gd.ac h t))).filter (dif w h t c (Gd.ac w t * Gd.ac h t) d f g)).map (Gd.ky (Gd.ac w t * Gd.ac h t) c d)
/-- rows taken out of a list -/
theorem rr_filter {H : Hp} {ps : List Addr} {f : Nat → List Int} {n : Nat} (hl : ps.length = n) (h : ∀ j a, ps[j]? = some a → H a = some (.tup ((f j).map V.int))) (c : Nat → Bool) : ∀ m, m ≤ n → Rg.RR H (((List.range m).filter c).map fun i => V.ref (ps.getD i 0)) (((List.range m).filter c).map f)
  | 0, _ => ⟨[], rfl, rfl, fun j a e => by cases e⟩
  | m + 1, hm => by
    have ih := rr_filter hl h c m (by omega)
    rw [List.range_succ, List.filter_append, List.map_append, List.map_append]
    refine ih.app ?_
    by_cases hc : c m = true
    · rw [List.filter_cons, if_pos hc, List.filter_nil, List.map_cons, List.map_cons, List.map_nil, List.map_nil]
      refine Rg.RR.one ?_
      have hmp : m < ps.length := by omega
      rw [List.getD_eq_getElem?_getD, List.getElem?_eq_getElem hmp]
      exact h m _ (List.getElem?_eq_getElem hmp)
    · rw [List.filter_cons, if_neg hc, List.filter_nil]
      exact ⟨[], rfl, rfl, fun j a e => by cases e⟩
theorem eqv_tups : ∀ xs ys : List (List Int), PyData.eqvAll (xs.map fun r => PyData.tuple (r.map PyData.int)) (ys.map fun r => PyData.tuple (r.map PyData.int)) = decide (xs = ys)
  | [], [] => by simp [PyData.eqvAll]
  | [], _ :: _ => by simp [PyData.eqvAll]
  | _ :: _, [] => by simp [PyData.eqvAll]
  | x :: xs, y :: ys => by
    simp only [List.map_cons, PyData.eqvAll, PyData.eqv, eqv_tups xs ys, Gx.eqvAll_int]
    by_cases h : x = y
    · subst h; simp
    · simp [h]
theorem rl_dp {K : PySem.W.Frag} {H : Hp} {l : Addr} {rs : List (List Int)} (x : Rg.RL H l rs) : Dp K H (.ref l) (.list (rs.map fun r => PyData.tuple (r.map PyData.int))) := by
  have := Gx.TL.dp (K := K) x
  rw [Rg.range_get] at this
  exact this
theorem eqRL {K : PySem.W.Frag} {H : Hp} {Q : VK} {l m : Addr} {xs ys : List (List Int)} (x : Rg.RL H l xs) (y : Rg.RL H m ys) (q : Q (.bl (decide (xs = ys))) H) : rEqD K (.ref l) (.ref m) H Q :=
  ⟨_, _, rl_dp x, rl_dp y, Gx.shaped_tups _, Gx.shaped_tups _, by rw [show PyData.eqv (.list (xs.map fun r => PyData.tuple (r.map PyData.int))) (.list (ys.map fun r => PyData.tuple (r.map PyData.int))) = decide (xs = ys) from eqv_tups xs ys]; exact q⟩
noncomputable def stored (c ch : Nat) : List Nat := if c = 1 then [0] else if ch = 0 then [1] else if ch = 1 then [0, 1, 2] else [2]
end Cg

namespace Rt
open PySem L2
/-- the sides of a part of a picture, whole tiles of it -/
noncomputable def cw (n t a b : Nat) : Nat := min (b * t) (n - a * t)
theorem cw_pos {n t a b : Nat} (ht : 0 < t) (hb : 1 ≤ b) (h : a + b ≤ Gd.ac n t) : 0 < cw n t a b ∧ a * t + cw n t a b ≤ n := by
  have h1 := Gd.ac_mul (n := n) ht (show a < Gd.ac n t by omega)
  have h2 : 0 < b * t := Nat.mul_pos hb ht
  unfold cw
  omega
/-- the pixel of the whole for the m-th of the part -/
noncomputable def rp (w t l p c m : Nat) : Nat := (p * t + m / c) * w + (l * t + m % c)
/-- a rectangle of tiles: its sides, its first fault -/
noncomputable def sOk (l p w h : Int) : Prop := (0 ≤ l ∧ l ≤ 63) ∧ (0 ≤ p ∧ p ≤ 63) ∧ (1 ≤ w ∧ w ≤ 64) ∧ (1 ≤ h ∧ h ≤ 64)
noncomputable instance {l p w h : Int} : Decidable (sOk l p w h) := inferInstanceAs (Decidable (_ ∧ _))
noncomputable def rectBad (aw ah : Nat) (l p w h : Int) : Option (Option Str) := if ¬ sOk l p w h then some (some ("rectangle" : Str)) else if l + w > aw ∨ p + h > ah then some none else none
theorem rectBad_none {aw ah : Nat} {l p a b : Int} (e : rectBad aw ah l p a b = none) : (0 ≤ l ∧ l ≤ 63) ∧ (0 ≤ p ∧ p ≤ 63) ∧ (1 ≤ a ∧ a ≤ 64) ∧ (1 ≤ b ∧ b ≤ 64) ∧ l + a ≤ aw ∧ p + b ≤ ah := by
  unfold rectBad at e
  by_cases k : sOk l p a b
  · rw [if_neg (not_not_intro k)] at e
    by_cases g : l + a > aw ∨ p + b > ah
    · rw [if_pos g] at e; cases e
    · exact ⟨k.1, k.2.1, k.2.2.1, k.2.2.2, by omega, by omega⟩
  · rw [if_pos k] at e; cases e
end Rt

namespace Rt
open PySem L2
/-! the tiles of a crop are tiles of the whole -/
section
variable {w h t l p a b k : Nat} (ht : 0 < t) (ha : 1 ≤ a) (hb : 1 ≤ b) (h1 : l + a ≤ Gd.ac w t) (h2 : p + b ≤ Gd.ac h t) (hk : k < a * b)
include ht ha hb h1 h2 hk
end
end Rt

namespace Rt
open PySem L2
/-! a part in place of a crop -/
noncomputable def inR (w X Y W V n : Nat) : Prop := (X ≤ n % w ∧ n % w < X + W) ∧ Y ≤ n / w ∧ n / w < Y + V
noncomputable instance {w X Y W V n : Nat} : Decidable (inR w X Y W V n) := inferInstanceAs (Decidable (_ ∧ _))
noncomputable def mo (w X Y W n : Nat) : Nat := (n / w - Y) * W + (n % w - X)
noncomputable def pv (w X Y W V : Nat) (f g : List (List Int)) (i j n : Nat) : Int := if inR w X Y W V n ∧ mo w X Y W n < i then (g.getD j []).getD (mo w X Y W n) 0 else (f.getD j []).getD n 0
noncomputable def pr (w h X Y W V : Nat) (f g : List (List Int)) (i j : Nat) : List Int := (List.range (w * h)).map (pv w X Y W V f g i j)
noncomputable def pasR (w h X Y W V c : Nat) (f g : List (List Int)) : List (List Int) := (List.range c).map (pr w h X Y W V f g (V * W))
theorem pr_len {w h X Y W V i j : Nat} {f g : List (List Int)} : (pr w h X Y W V f g i j).length = w * h := by unfold pr; rw [List.length_map, List.length_range]
theorem pr_get {w h X Y W V i j n : Nat} {f g : List (List Int)} (h1 : n < (pr w h X Y W V f g i j).length) : (pr w h X Y W V f g i j)[n] = pv w X Y W V f g i j n := by simp [pr]
section
variable {w h t l p W V : Nat} (hW : 0 < W) (hl : l * t + W ≤ w)
include hW hl
theorem rp_back {m : Nat} (hm : m < V * W) : inR w (l * t) (p * t) W V (rp w t l p W m) ∧ mo w (l * t) (p * t) W (rp w t l p W m) = m := by
  have d1 : m / W < V := Nat.div_lt_of_lt_mul (by rw [Nat.mul_comm]; exact hm)
  have d2 := Nat.mod_lt m hW
  have e : rp w t l p W m = w * (p * t + m / W) + (l * t + m % W) := by unfold rp; rw [Nat.mul_comm]
  have lt : l * t + m % W < w := by omega
  have e1 : rp w t l p W m / w = p * t + m / W := by rw [e, Nat.mul_add_div (by omega), Nat.div_eq_of_lt lt, Nat.add_zero]
  have e2 : rp w t l p W m % w = l * t + m % W := by rw [e, Nat.mul_add_mod, Nat.mod_eq_of_lt lt]
  unfold inR mo
  rw [e1, e2]
  refine ⟨⟨⟨Nat.le_add_right _ _, Nat.add_lt_add_left d2 _⟩, Nat.le_add_right _ _, Nat.add_lt_add_left d1 _⟩, ?_⟩
  rw [Nat.add_sub_cancel_left, Nat.add_sub_cancel_left, Nat.mul_comm]
  exact Nat.div_add_mod m W
theorem mo_back {n : Nat} (hn : inR w (l * t) (p * t) W V n) : rp w t l p W (mo w (l * t) (p * t) W n) = n ∧ mo w (l * t) (p * t) W n < V * W := by
  obtain ⟨⟨a1, a2⟩, a3, a4⟩ := hn
  have lt : n % w - l * t < W := by omega
  have e : mo w (l * t) (p * t) W n = W * (n / w - p * t) + (n % w - l * t) := by unfold mo; rw [Nat.mul_comm]
  have e1 : mo w (l * t) (p * t) W n / W = n / w - p * t := by rw [e, Nat.mul_add_div hW, Nat.div_eq_of_lt lt, Nat.add_zero]
  have e2 : mo w (l * t) (p * t) W n % W = n % w - l * t := by rw [e, Nat.mul_add_mod, Nat.mod_eq_of_lt lt]
  refine ⟨?_, ?_⟩
  · unfold rp
    rw [e1, e2, show p * t + (n / w - p * t) = n / w by omega, show l * t + (n % w - l * t) = n % w by omega, Nat.mul_comm]
    exact Nat.div_add_mod n w
  · unfold mo
    have := Nat.mul_le_mul_right W (show n / w - p * t + 1 ≤ V by omega)
    rw [Nat.add_mul, Nat.one_mul] at this
    omega
theorem pr_step {f g : List (List Int)} {i j : Nat} (hi : i < V * W) : (pr w h (l * t) (p * t) W V f g i j).set (rp w t l p W i) ((g.getD j []).getD i 0) = pr w h (l * t) (p * t) W V f g (i + 1) j := by
  obtain ⟨b1, b2⟩ := rp_back (p := p) hW hl hi
  refine List.ext_getElem (by rw [List.length_set, pr_len, pr_len]) fun n h1 h2 => ?_
  rw [List.getElem_set, pr_get, pr_get]
  unfold pv
  by_cases e : rp w t l p W i = n
  · subst e
    rw [if_pos rfl, if_pos ⟨b1, by rw [b2]; omega⟩, b2]
  · rw [if_neg e]
    by_cases k : inR w (l * t) (p * t) W V n
    · have ne : mo w (l * t) (p * t) W n ≠ i := fun z => e (by rw [← z]; exact (mo_back hW hl k).1)
      by_cases k2 : mo w (l * t) (p * t) W n < i
      · rw [if_pos ⟨k, k2⟩, if_pos ⟨k, by omega⟩]
      · rw [if_neg (fun z => k2 z.2), if_neg (fun z => by have := z.2; omega)]
    · rw [if_neg (fun z => k z.1), if_neg (fun z => k z.1)]
end
theorem pr_zero {w h X Y W V d c j : Nat} {f g : List (List Int)} (ok : Pq.rowsOk (w * h) d c f) (hj : j < c) : pr w h X Y W V f g 0 j = f.getD j [] := by
  have hl := (Pq.rowOk_getD ok hj).1
  refine List.ext_getElem (by rw [pr_len, hl]) fun n h1 h2 => ?_
  rw [pr_get]
  unfold pv
  rw [if_neg (fun z => Nat.not_lt_zero _ z.2), List.getD_eq_getElem?_getD, List.getElem?_eq_getElem h2]
  rfl
theorem pasR_at {w h X Y W V c j : Nat} {f g : List (List Int)} (hj : j < c) : (pasR w h X Y W V c f g).getD j [] = pr w h X Y W V f g (V * W) j := Pq.getD_range hj
section
variable {w h t l p W V d c : Nat} {f g : List (List Int)} (hW : 0 < W) (hl : l * t + W ≤ w) (hp : p * t + V ≤ h) (ok : Pq.rowsOk (w * h) d c f)
include hW hl hp ok
theorem pasR_ok (ok2 : Pq.rowsOk (W * V) d c g) : Pq.rowsOk (w * h) d c (pasR w h (l * t) (p * t) W V c f g) := Pq.rowsOk_range fun j hj => ⟨by unfold pr; simp, fun z hz => by
  obtain ⟨n, hn, rfl⟩ := List.mem_map.mp hz
  have hn := List.mem_range.mp hn
  have o := Pq.rowOk_getD ok hj
  have o2 := Pq.rowOk_getD ok2 hj
  unfold pv
  by_cases k : inR w (l * t) (p * t) W V n ∧ mo w (l * t) (p * t) W n < V * W
  · rw [if_pos k]
    exact o2.2 _ (Gd.getD_mem (by rw [o2.1, Nat.mul_comm W V]; exact k.2))
  · rw [if_neg k]
    exact o.2 _ (Gd.getD_mem (by rw [o.1]; exact hn))⟩
theorem rp_in {m : Nat} (hm : m < V * W) : rp w t l p W m < w * h := by
  have d1 : m / W < V := Nat.div_lt_of_lt_mul (by rw [Nat.mul_comm]; exact hm)
  have d2 := Nat.mod_lt m hW
  unfold rp
  have := Nat.mul_le_mul_right w (show p * t + m / W + 1 ≤ h by omega)
  rw [Nat.add_mul, Nat.one_mul] at this
  rw [Nat.mul_comm w h]
  omega
end
theorem rebase {H1 H2 H3 : Hp} {l p : Addr} {o : HO} {n : Nat} {f : Nat → List Int} (x : Pq.LN H1 H2 l n f) (hp : H2 p = none) (s : Same H2 H3) : Pq.LN (upd H1 p o) H3 l n f := by
  obtain ⟨ps, h1, h2, h3, h4, h5⟩ := x
  refine ⟨ps, s _ _ h1, h2, h3, fun a ha => ⟨?_, (h4 a ha).2⟩, fun j a e => s _ _ (h5 j a e)⟩
  have hne : a ≠ p := fun z => by
    obtain ⟨j, hj, e⟩ := List.getElem_of_mem ha
    have := h5 j a (by rw [List.getElem?_eq_getElem hj, e])
    rw [z, hp] at this
    cases this
  rw [upd_ne hne]
  exact (h4 a ha).1
theorem lnc {H0 H : Hp} {l : Addr} {n : Nat} {f f' : Nat → List Int} (x : Pq.LN H0 H l n f) (e : ∀ j, j < n → f j = f' j) : Pq.LN H0 H l n f' := by
  obtain ⟨ps, u1, u2, u3, u4, u5⟩ := x
  refine ⟨ps, u1, u2, u3, u4, fun j a e2 => ?_⟩
  have hj : j < n := by rw [← u2]; exact (List.getElem?_eq_some_iff.mp e2).1
  rw [← e j hj]
  exact u5 j a e2
end Rt

namespace Sq
open PySem L2
/-! sources: rows of keys that stand beside what changes -/
theorem tup_in {R H : Hp} {l : List (Addr × HO)} {a : Addr} {xs : List V} (h : Mv.Hv R H l) (hp : ∀ q ∈ l, ∀ zs, q.2 ≠ HO.tup zs) (e : H a = some (.tup xs)) : R a = some (.tup xs) := by
  rw [← h.off a fun q hq z => ?_]
  · exact e
  · have := (h.on q hq).1
    rw [z, e] at this
    exact hp q hq xs (Option.some.inj this).symm
theorem rl_in {R H : Hp} {l : List (Addr × HO)} {p : Addr} {rs : List (List Int)} (h : Mv.Hv R H l) (hp : ∀ q ∈ l, ∀ zs, q.2 ≠ HO.tup zs) (x : Rg.RL H p rs) (e : ∀ o, H p = some o → R p = some o) : Rg.RL R p rs := by
  obtain ⟨ps, h1, h2, h3⟩ := x
  exact ⟨ps, e _ h1, h2, fun j a ha => tup_in h hp (h3 j a ha)⟩
theorem no2 {a b : Addr} {x y : HO} {l : List (Addr × HO)} (hx : ∀ zs, x ≠ HO.tup zs) (hy : ∀ zs, y ≠ HO.tup zs) (hr : ∀ q ∈ l, ∀ zs, q.2 ≠ HO.tup zs) : ∀ q ∈ (a, x) :: (b, y) :: l, ∀ zs, q.2 ≠ HO.tup zs := fun q hq => by
  rcases List.mem_cons.mp hq with z | hq
  · subst z; exact hx
  rcases List.mem_cons.mp hq with z | hq
  · subst z; exact hy
  · exact hr q hq
theorem rl_lst {H : Hp} {p : Addr} {rs : List (List Int)} (x : Rg.RL H p rs) : ∃ xs, H p = some (.lst xs) := by
  obtain ⟨ps, h1, _⟩ := x
  exact ⟨_, h1⟩
/-- if p or q: the then part once, knowing that one of them holds -/
theorem or3 {p : Prop} (q : Prop) {A B C : Prop} [Decidable p] (hC : ¬ p → (q → A) → C) (hA : p ∨ q → A) : Gx.IfP (decide p) (Gx.IfP true A B) C := by
  by_cases h : p
  · exact Gx.if_y (decide_eq_true h) (Gx.if_t (hA (.inl h)))
  · exact Gx.if_n (decide_eq_false h) (hC h fun z => hA (.inr z))
theorem cw_int {n t a b : Nat} (h : a * t ≤ n) : (if (n : Int) - (a : Int) * (t : Int) < (1 + (b : Int)) * (t : Int) then (n : Int) - (a : Int) * (t : Int) else (1 + (b : Int)) * (t : Int)) = ((Rt.cw n t a (1 + b) : Nat) : Int) := by
  unfold Rt.cw
  rw [← Int.natCast_mul, show (1 : Int) + (b : Int) = ((1 + b : Nat) : Int) by omega, ← Int.natCast_mul]
  generalize (1 + b) * t = X
  generalize a * t = Y at *
  by_cases e : (n : Int) - (Y : Int) < (X : Int)
  · rw [if_pos e]; omega
  · rw [if_neg e]; omega
theorem no1 {a : Addr} {x : HO} {l : List (Addr × HO)} (hx : ∀ zs, x ≠ HO.tup zs) (hr : ∀ q ∈ l, ∀ zs, q.2 ≠ HO.tup zs) : ∀ q ∈ (a, x) :: l, ∀ zs, q.2 ≠ HO.tup zs := fun q hq => by
  rcases List.mem_cons.mp hq with z | hq
  · subst z; exact hx
  · exact hr q hq
/-- rows of numbers that stand, a row of such -/
noncomputable def RWs (R : Hp) : List V → List (List (List Int)) → Prop
  | [], [] => True
  | v :: xs, f :: S => (∃ a, v = .ref a ∧ Pq.RW R a f) ∧ RWs R xs S
  | _, _ => False
theorem RWs.keep {R R' : Hp} (s : Same R R') : ∀ {xs : List V} {S : List (List (List Int))}, RWs R xs S → RWs R' xs S
  | [], [], _ => trivial
  | _ :: _, _ :: _, ⟨⟨a, e, h⟩, r⟩ => ⟨⟨a, e, h.keep s⟩, RWs.keep s r⟩
  | [], _ :: _, h => h.elim
  | _ :: _, [], h => h.elim
theorem RWs.len {R : Hp} : ∀ {xs : List V} {S : List (List (List Int))}, RWs R xs S → xs.length = S.length
  | [], [], _ => rfl
  | _ :: _, _ :: _, ⟨_, r⟩ => congrArg (· + 1) (RWs.len r)
  | [], _ :: _, h => h.elim
  | _ :: _, [], h => h.elim
theorem RWs.snoc {a : Addr} {R : Hp} {f : List (List Int)} (x : Pq.RW R a f) : ∀ {xs : List V} {S : List (List (List Int))}, RWs R xs S → RWs R (xs ++ [.ref a]) (S ++ [f])
  | [], [], _ => ⟨⟨a, rfl, x⟩, trivial⟩
  | _ :: _, _ :: _, ⟨e, r⟩ => ⟨e, RWs.snoc x r⟩
  | [], _ :: _, h => h.elim
  | _ :: _, [], h => h.elim
theorem RWs.drop {R : Hp} : ∀ {n : Nat} {xs : List V} {S : List (List (List Int))}, RWs R xs S → RWs R (xs.drop n) (S.drop n)
  | 0, _, _, h => h
  | _ + 1, [], [], _ => trivial
  | n + 1, _ :: _, _ :: _, ⟨_, r⟩ => RWs.drop (n := n) r
  | _ + 1, [], _ :: _, h => h.elim
  | _ + 1, _ :: _, [], h => h.elim
theorem RWs.last {R : Hp} {f : List (List Int)} : ∀ {S : List (List (List Int))} {xs : List V}, RWs R xs (S ++ [f]) → ∃ ys a, xs = ys ++ [.ref a] ∧ Pq.RW R a f ∧ RWs R ys S
  | [], [v], ⟨⟨a, e, h⟩, _⟩ => ⟨[], a, by rw [e]; rfl, h, trivial⟩
  | [], [], h => h.elim
  | [], _ :: _ :: _, ⟨_, h⟩ => h.elim
  | _ :: _, [], h => h.elim
  | _ :: S, v :: xs, ⟨e, r⟩ => by
    obtain ⟨ys, a, e1, e2, e3⟩ := RWs.last (S := S) r
    exact ⟨v :: ys, a, by rw [e1]; rfl, e2, e, e3⟩
/-- the last of five ahead, in place of the first -/
theorem last5 {R H : Hp} {a b c d e : Addr × HO} (h : Mv.Hv R H [a, b, c, d, e]) : Mv.Hv R H [e, b, c, d, a] := h.perm (by
  refine List.Perm.trans (l₂ := [e, a, b, c, d]) ?_ (List.Perm.cons _ ?_)
  · exact (List.perm_append_comm (l₁ := [a, b, c, d]) (l₂ := [e]))
  · exact (List.perm_append_comm (l₁ := [a]) (l₂ := [b, c, d])))
end Sq

namespace Dk
open PySem L2
/-! a disk: blocks, the writes that wait, cuts, what is left before the cut, what is torn -/
noncomputable def BL (R : Hp) (vs : List V) (bs : List (List Int)) : Prop := vs.length = bs.length ∧ ∀ (i : Nat) (v : V), vs[i]? = some v → ∃ (a : Addr) (b : List Int), v = .ref a ∧ bs[i]? = some b ∧ R a = some (.lst (b.map V.int))
noncomputable def PL (mk : List V → HO) (R : Hp) (vs : List V) (es : List (Nat × List Int)) : Prop := vs.length = es.length ∧ ∀ (i : Nat) (v : V), vs[i]? = some v → ∃ (t a : Addr) (e : Nat × List Int), v = .ref t ∧ es[i]? = some e ∧ R t = some (mk [.int (e.1 : Int), .ref a]) ∧ R a = some (.lst (e.2.map V.int))
section
variable {R R' : Hp} {vs : List V} {bs : List (List Int)} {es : List (Nat × List Int)} {mk : List V → HO}
theorem BL.keep (h : BL R vs bs) (s : Same R R') : BL R' vs bs := ⟨h.1, fun i v e => by
  obtain ⟨a, b, h1, h2, h3⟩ := h.2 i v e
  exact ⟨a, b, h1, h2, s _ _ h3⟩⟩
theorem PL.keep (h : PL mk R vs es) (s : Same R R') : PL mk R' vs es := ⟨h.1, fun i v e => by
  obtain ⟨t, a, b, h1, h2, h3, h4⟩ := h.2 i v e
  exact ⟨t, a, b, h1, h2, s _ _ h3, s _ _ h4⟩⟩
theorem BL.get {i : Nat} (h : BL R vs bs) (hi : i < bs.length) : ∃ a, vs[i]? = some (.ref a) ∧ R a = some (.lst ((bs.getD i []).map V.int)) := by
  have hv : i < vs.length := by rw [h.1]; exact hi
  obtain ⟨a, b, h1, h2, h3⟩ := h.2 i _ (List.getElem?_eq_getElem hv)
  exact ⟨a, by rw [List.getElem?_eq_getElem hv, h1], by rw [List.getD_eq_getElem?_getD, h2]; exact h3⟩
theorem BL.set {i : Nat} {a : Addr} {b : List Int} (h : BL R vs bs) (ha : R a = some (.lst (b.map V.int))) : BL R (vs.set i (.ref a)) (bs.set i b) := ⟨by simp [h.1], fun j v e => by
  rw [List.getElem?_set] at e ⊢
  by_cases c : i = j
  · subst c
    rw [if_pos rfl] at e ⊢
    by_cases l : i < vs.length
    · rw [if_pos l] at e
      rw [if_pos (by rw [← h.1]; exact l)]
      cases e
      exact ⟨a, b, rfl, rfl, ha⟩
    · rw [if_neg l] at e; cases e
  · rw [if_neg c] at e ⊢
    exact h.2 j v e⟩
theorem PL.nil : PL mk R [] [] := ⟨rfl, fun i v e => by simp at e⟩
theorem PL.snoc {t a : Addr} {e : Nat × List Int} (h : PL mk R vs es) (ht : R t = some (mk [.int (e.1 : Int), .ref a])) (ha : R a = some (.lst (e.2.map V.int))) : PL mk R (vs ++ [.ref t]) (es ++ [e]) := ⟨by simp [h.1], fun j v q => by
  have hl := h.1
  rcases Nat.lt_trichotomy j vs.length with c | c | c
  · rw [List.getElem?_append_left c] at q
    obtain ⟨t', a', e', h1, h2, h3, h4⟩ := h.2 j v q
    exact ⟨t', a', e', h1, by rw [List.getElem?_append_left (by omega)]; exact h2, h3, h4⟩
  · rw [List.getElem?_append_right (by omega), show j - vs.length = 0 by omega] at q
    cases q
    exact ⟨t, a, e, rfl, by rw [List.getElem?_append_right (by omega), show j - es.length = 0 by omega]; rfl, ht, ha⟩
  · rw [List.getElem?_eq_none (by simp; omega)] at q; cases q⟩
theorem PL.get {i : Nat} (h : PL mk R vs es) (hi : i < es.length) : ∃ t a e, vs[i]? = some (.ref t) ∧ es[i]? = some e ∧ R t = some (mk [.int (e.1 : Int), .ref a]) ∧ R a = some (.lst (e.2.map V.int)) := by
  have hv : i < vs.length := by rw [h.1]; exact hi
  obtain ⟨t, a, e, h1, h2, h3, h4⟩ := h.2 i _ (List.getElem?_eq_getElem hv)
  exact ⟨t, a, e, by rw [List.getElem?_eq_getElem hv, h1], h2, h3, h4⟩
end
structure St where
  bl : List (List Int)
  pe : List (Nat × List Int)
  cu : Nat
  lf : Option Nat
  tn : List Int
noncomputable def zs : List Int := List.replicate 32 0
noncomputable def s0 (n : Nat) : St := ⟨List.replicate n zs, [], 0, none, []⟩
noncomputable def tear (n : Int) (new old : List Int) : List Int := new.take n.toNat ++ old.drop n.toNat
noncomputable def cutS : List Int → List (List Int) → List (Nat × List Int) → List (List Int)
  | _, bs, [] => bs
  | tn, bs, e :: r => cutS tn.tail (bs.set e.1 (tear (tn.headD 0) e.2 (bs.getD e.1 []))) r
noncomputable def St.cut (s : St) (tn : List Int) : St := ⟨cutS tn s.bl s.pe, [], s.cu + 1, none, s.tn⟩
noncomputable def flB (bs : List (List Int)) (pe : List (Nat × List Int)) : List (List Int) := pe.foldl (fun b e => b.set e.1 e.2) bs
/-- a write or flush counted, if the power stays -/
noncomputable def less : Option Nat → Option Nat
  | none => none
  | some n => some (n - 1)
noncomputable def St.write (s : St) (a : Nat) (b : List Int) : St := ⟨s.bl, s.pe ++ [(a, b)], s.cu, s.lf, s.tn⟩
noncomputable def St.flush (s : St) : St := ⟨flB s.bl s.pe, [], s.cu, s.lf, s.tn⟩
noncomputable def BOk (b : List Int) : Prop := b.length = 32 ∧ ∀ z ∈ b, 0 ≤ z ∧ z ≤ 255
noncomputable def TOk (t : List Int) : Prop := ∀ z ∈ t, 0 ≤ z ∧ z ≤ 32
noncomputable instance (b : List Int) : Decidable (BOk b) := by unfold BOk; infer_instance
noncomputable instance (b : List Int) : Decidable (TOk b) := by unfold TOk; infer_instance
/-- what a disk of n blocks keeps -/
structure Wf (n m : Nat) (s : St) : Prop where
  n1 : 4 ≤ n
  n2 : n ≤ 400
  bn : s.bl.length = n
  bb : ∀ b ∈ s.bl, BOk b
  pn : s.pe.length ≤ m
  pb : ∀ e ∈ s.pe, e.1 < n ∧ BOk e.2
  tn : TOk s.tn
  tl : s.tn.length ≤ 100000
  lf : ∀ k, s.lf = some k → k ≤ 100000
theorem set_ok {bs : List (List Int)} {i : Nat} {b : List Int} (h : ∀ b ∈ bs, BOk b) (hb : BOk b) : ∀ c ∈ bs.set i b, BOk c := fun c hc => by
  rcases List.mem_or_eq_of_mem_set hc with e | e
  · exact h c e
  · rw [e]; exact hb
theorem tear_ok {n : Int} {a b : List Int} (ha : BOk a) (hb : BOk b) : BOk (tear n a b) := by
  obtain ⟨a1, a2⟩ := ha
  obtain ⟨b1, b2⟩ := hb
  refine ⟨by unfold tear; simp [a1, b1]; omega, fun z h => ?_⟩
  unfold tear at h
  rcases List.mem_append.mp h with e | e
  · exact a2 z (List.mem_of_mem_take e)
  · exact b2 z (List.mem_of_mem_drop e)
theorem getD_ok {bs : List (List Int)} {i : Nat} (h : ∀ b ∈ bs, BOk b) (hi : i < bs.length) : BOk (bs.getD i []) := by
  rw [List.getD_eq_getElem?_getD, List.getElem?_eq_getElem hi]
  exact h _ (List.getElem_mem hi)
theorem cutS_len : ∀ {tn : List Int} {bs : List (List Int)} {pe : List (Nat × List Int)}, (cutS tn bs pe).length = bs.length
  | _, _, [] => rfl
  | _, _, e :: r => by unfold cutS; rw [cutS_len, List.length_set]
theorem cutS_ok {n : Nat} : ∀ {tn : List Int} {bs : List (List Int)} {pe : List (Nat × List Int)}, bs.length = n → (∀ b ∈ bs, BOk b) → (∀ e ∈ pe, e.1 < n ∧ BOk e.2) → ∀ b ∈ cutS tn bs pe, BOk b
  | _, _, [], _, h, _ => h
  | tn, bs, e :: r, hn, h, g => by
    obtain ⟨g1, g2⟩ := g e (List.mem_cons_self ..)
    unfold cutS
    exact cutS_ok (by rw [List.length_set]; exact hn) (set_ok h (tear_ok g2 (getD_ok h (by omega)))) fun f hf => g f (List.mem_cons_of_mem _ hf)
theorem flB_len : ∀ {bs : List (List Int)} {pe : List (Nat × List Int)}, (flB bs pe).length = bs.length
  | _, [] => rfl
  | bs, e :: r => by
    show (flB (bs.set e.1 e.2) r).length = _
    rw [flB_len, List.length_set]
theorem flB_ok {n : Nat} : ∀ {bs : List (List Int)} {pe : List (Nat × List Int)}, (∀ b ∈ bs, BOk b) → (∀ e ∈ pe, e.1 < n ∧ BOk e.2) → ∀ b ∈ flB bs pe, BOk b
  | _, [], h, _ => h
  | bs, e :: r, h, g => flB_ok (bs := bs.set e.1 e.2) (pe := r) (set_ok h (g e (List.mem_cons_self ..)).2) fun f hf => g f (List.mem_cons_of_mem _ hf)
theorem Wf.mono {n m k : Nat} {s : St} (w : Wf n m s) (h : m ≤ k) : Wf n k s := ⟨w.n1, w.n2, w.bn, w.bb, Nat.le_trans w.pn h, w.pb, w.tn, w.tl, w.lf⟩
theorem Wf.cut {n m : Nat} {s : St} {t : List Int} (w : Wf n m s) : Wf n 0 (s.cut t) := ⟨w.n1, w.n2, cutS_len.trans w.bn, cutS_ok w.bn w.bb w.pb, Nat.le_refl _, (fun e h => nomatch h), w.tn, w.tl, (fun k h => nomatch h)⟩
theorem Wf.write {n m a : Nat} {b : List Int} {s : St} (w : Wf n m s) (ha : a < n) (hb : BOk b) : Wf n (m + 1) (s.write a b) := ⟨w.n1, w.n2, w.bn, w.bb, by unfold St.write; rw [List.length_append]; have := w.pn; show _ + 1 ≤ _; omega, fun e he => by
  rcases List.mem_append.mp he with h | h
  · exact w.pb e h
  · rw [List.mem_singleton] at h; rw [h]; exact ⟨ha, hb⟩, w.tn, w.tl, w.lf⟩
theorem Wf.flush {n m : Nat} {s : St} (w : Wf n m s) : Wf n 0 s.flush := ⟨w.n1, w.n2, flB_len.trans w.bn, flB_ok w.bb w.pb, Nat.le_refl _, (fun e h => nomatch h), w.tn, w.tl, w.lf⟩
noncomputable def In (R : Hp) (rest : List (Addr × HO)) (a : Addr) (o : HO) : Prop := R a = some o ∨ (a, o) ∈ rest
theorem In.keep {R R' : Hp} {rest : List (Addr × HO)} {a : Addr} {o : HO} (i : In R rest a o) (s : Same R R') : In R' rest a o := i.imp (s _ _) id
theorem BL.rw {R H : Hp} {l : Addr} {vs : List V} {bs : List (List Int)} (h : BL R vs bs) (s : Same R H) (hl : H l = some (.lst vs)) : Pq.RW H l bs := by
  have hp : ∃ ps : List Addr, vs = ps.map V.ref := by
    have key : ∀ (ws : List V), (∀ v ∈ ws, ∃ a, v = V.ref a) → ∃ ps : List Addr, ws = ps.map V.ref := by
      intro ws
      induction ws with
      | nil => intro _; exact ⟨[], rfl⟩
      | cons w ws ih =>
        intro hw
        obtain ⟨a, ha⟩ := hw w (List.mem_cons_self ..)
        obtain ⟨ps, hps⟩ := ih fun v hv => hw v (List.mem_cons_of_mem _ hv)
        exact ⟨a :: ps, by rw [List.map_cons, ha, hps]⟩
    refine key vs fun v hv => ?_
    obtain ⟨i, hi, rfl⟩ := List.getElem_of_mem hv
    obtain ⟨a, b, e, _⟩ := h.2 i _ (List.getElem?_eq_getElem hi)
    exact ⟨a, e⟩
  obtain ⟨ps, rfl⟩ := hp
  refine ⟨ps, hl, by rw [← h.1, List.length_map], fun j a e => ?_⟩
  obtain ⟨a', b, e1, e2, e3⟩ := h.2 j (.ref a) (by rw [List.getElem?_map, e]; rfl)
  cases e1
  dsimp only
  rw [List.getD_eq_getElem?_getD, e2]
  exact s _ _ e3
theorem BL.snoc {R : Hp} {vs : List V} {bs : List (List Int)} {a : Addr} {b : List Int} (h : BL R vs bs) (ha : R a = some (.lst (b.map V.int))) : BL R (vs ++ [.ref a]) (bs ++ [b]) := ⟨by simp [h.1], fun j v q => by
  have hl := h.1
  rcases Nat.lt_trichotomy j vs.length with c | c | c
  · rw [List.getElem?_append_left c] at q
    obtain ⟨a', b', h1, h2, h3⟩ := h.2 j v q
    exact ⟨a', b', h1, by rw [List.getElem?_append_left (by omega)]; exact h2, h3⟩
  · rw [List.getElem?_append_right (by omega), show j - vs.length = 0 by omega] at q
    cases q
    exact ⟨a, b, rfl, by rw [List.getElem?_append_right (by omega), show j - bs.length = 0 by omega]; rfl, ha⟩
  · rw [List.getElem?_eq_none (by simp; omega)] at q; cases q⟩
end Dk

/-! several except clauses, with and without a name: each takes what the ones before let by. -/
namespace Tm
open PySem PySem.Spec PyProof.Rows L2
inductive Hd (X : Cx) : List ExceptHandler → (WX → Ends → WX) → Prop
  | nil : Hd X [] fun W _ => W
  | named {x n : Str} {i : Nat} {c : Value} {ts : Addr → Value → Option Addr → TS} {b0 : Stmt} {su : List Stmt} {np p : Pos} {hs : List ExceptHandler} {w : WX → Ends → WX} (hi : X.N[i]? = some n) (hl : X.env.kindOf n = some .local) (hc : Names X x c)
      (run : ∀ (a : Addr) (oe : Obj) (cls : Value) (d : Option Addr) (pn : List (Addr × Obj)), Zc cls d oe → (∃ vs, oe.data = .fields vs) → PSs (X.suite a ((a, oe) :: pn)) (b0 :: su) (ts a cls d)) (r : Hd X hs w) :
      Hd X (.ExceptHandler (some (.Name x np)) (some n) (b0 :: su) p :: hs) fun W D => wAs X.K c i ts (w W D) D
  | only {x : Str} {c : Value} {ts : Addr → Value → Option Addr → TS} {b0 : Stmt} {su : List Stmt} {np p : Pos} {hs : List ExceptHandler} {w : WX → Ends → WX} (hc : Names X x c)
      (run : ∀ (a : Addr) (oe : Obj) (cls : Value) (d : Option Addr) (pn : List (Addr × Obj)), Zc cls d oe → (∃ vs, oe.data = .fields vs) → PSs (X.suite a ((a, oe) :: pn)) (b0 :: su) (ts a cls d)) (r : Hd X hs w) :
      Hd X (.ExceptHandler (some (.Name x np)) none (b0 :: su) p :: hs) fun W D => wOnly X.K c ts (w W D) D
theorem named_name {X : Cx} {x : Str} {c : Value} {np : Pos} {a : Addr} {pn : List (Addr × Obj)} {σ : L2.St} {H : Hp} {s : Shared} {oe : Obj} (hc : Names X x c) (S : Inv (X.suite a ((a, oe) :: pn)) [] σ H s) {Q : Value → Shared → Prop} {E : Value → Shared → Prop} (q : Q c s) :
    wpAny (model X.prog X.w) (X.A.mark (some (.ref a))) (eval (.Name x np) X.env) Q E s := by
  obtain ⟨hg, hd, hm | ⟨hm, hv, hn⟩⟩ := hc
  · exact ld_glob (X := X.suite a ((a, oe) :: pn)) S hg hm q hd
  · exact ld_blt (X := X.suite a ((a, oe) :: pn)) S hg hm hv q hn hd
theorem ps_try {X : Cx} {body : List Stmt} {hs : List ExceptHandler} {h0 : ExceptHandler} {pos : Pos} {tb : WX → TS} {Wout : WX} {w : WX → Ends → WX} (hst : X.stack = X.env :: X.outer) (hf : X.env.frame = some X.env.locals) (hN : X.N.Nodup) (tk : Takes X Wout)
    (hb : ∀ (W : WX) (pn : List (Addr × Obj)) (xe : Value → Shared → Prop), Takes (X.tr pn xe) W → PassesOwn (model X.prog X.w) X.A X.env xe → PSs (X.tr pn xe) body (tb W))
    (hh : Hd X (h0 :: hs) w) : PS X (.Try body (h0 :: hs) [] [] pos) (fun D σ H => tb (w Wout D) D σ H) := by
  refine ⟨fun pins s σ H D I h => wpAny_Try_except (wpAny_mono ((hb (w Wout D) (X.pn ++ pins) (fun e s₁ => wpAny (model X.prog X.w) X.A (noteFrame e X.env) (fun _ s₂ => wpAny (model X.prog X.w) X.A (setFlight e none) (fun _ s₃ =>
    wpAny (model X.prog X.w) X.A (handleBy e X.env (h0 :: hs)) (SP X pins D) X.xe s₃) X.xe s₂) X.xe s₁) (fun u t xx => ?_) PassesOwn.looking).run [] s σ H D (I.toTry _) h) (fun f s1 k => ?_) (fun e s1 he => he))⟩
  · obtain ⟨a, B, sI, pins', σ', H', cls, d, rfl, J', nb, up, sky, na, os, ag, want⟩ := xx
    have ok := I.ok
    have J : Inv X pins σ' H' sI := J'.ofTry ok
    refine Sky.land Zc.steady (by rw [ok.frames, hst]) hf (by rw [← hst]; exact sky) fun g fl upg => ?_
    obtain ⟨oe, vs, he, hz, hd⟩ := fl.there
    have out : a ∉ frs (X.env :: X.outer) := fun hm => by
      obtain ⟨_, o', e', no⟩ := fl.2.2.1.mem hm
      rw [he] at e'; cases e'
      exact no _ hd
    have n1 : a ≠ X.env.locals := fun z => out (List.mem_filterMap.mpr ⟨X.env, List.mem_cons_self, by rw [hf, z]⟩)
    have n2 : a ∉ X.fs := fun hm => by
      obtain ⟨e, h1, h2⟩ := List.mem_filterMap.mp hm
      exact out (List.mem_filterMap.mpr ⟨e, List.mem_cons_of_mem _ h1, h2⟩)
    have Jg : Inv X pins σ' H' { t with heap := g } := J.landed nb fl.1 (up.trans upg) os ag
    have Sg := Jg.suite he hd na n1 n2
    -- the clauses, one after another
    have go : ∀ {l : List ExceptHandler} {w' : WX → Ends → WX}, Hd X l w' → w' Wout D cls d σ' H' → wpAny (model X.prog X.w) X.A (handleBy (.ref a) X.env l) (SP X pins D) X.xe { t with heap := g } := by
      intro l w' hl
      have kind : PySem.W.Looks (model X.prog X.w) g (typeOf (.ref a)) cls := fun A Q E s k q => wpAny_typeOf_ref (k _ _ he) (by rw [hz.1]; exact q)
      induction hl with
      | nil =>
        intro want
        obtain ⟨_, _, _, oe2, vs2, T, oT, _, e2, _, d2, e3, _⟩ := id fl
        refine wpAny_handleBy_nil ?_
        unfold PySem.passOn
        refine wpAny_bind (wpAny_field e2 d2 e3 ?_)
        rw [if_neg (show ¬ ((Value.ref T == Value.none) = true) from by simp)]
        have last : wpAny (model X.prog X.w) X.A (setFlight (.ref a) X.env.frame) (fun _ s4 => wpAny (model X.prog X.w) X.A (throw (.ref a) : Sem Flow) (SP X pins D) X.xe s4) X.xe { t with heap := g } := by
          rw [hf]
          exact HandSPX.setFlight_upZ fl fun g2 sky2 up2 => wpAny_throw (tk _ _ ⟨a, B, sI, pins, σ', H', cls, d, rfl, J, nb, (up.trans upg).trans up2, .inr (.inr (by rw [hst]; exact sky2)), na, os, ag, want⟩)
        first
          | exact wpAny_bind (wpAny_pure (wpAny_bind last))
          | exact wpAny_bind last
      | named hi hl2 hc run r ih =>
        rintro ⟨b, hb1, yes, no⟩
        refine wpAny_handleBy_cons (codeAny_handlers_test (named_name hc Sg ((PySem.W.exm_one (M := model X.prog X.w) Jg.kIn kind hb1).here ?_))) (by intro q; cases q)
        cases b with
        | false => exact ih (no rfl)
        | true =>
          refine codeAny_handlers_suite_as (HandSPX.lands_againZ fl fun g2 fl2 up2 => ?_)
          obtain ⟨oe2, vs2, e2, z2, d2⟩ := fl2.there
          have S2 := (J.landed nb fl2.1 ((up.trans upg).trans up2) os ag : Inv X pins σ' H' { t with heap := g2 }).suite e2 d2 na n1 n2
          refine store_ok (X := X.suite a ((a, oe2) :: (X.pn ++ pins))) (v := .ref a) S2 hN hi (.inl hl2) rfl (fun s5 S5 => ?_) (.inr hl2)
          refine wpAny_mono ((run a oe2 cls d (X.pn ++ pins) z2 ⟨_, d2⟩).run [] s5 _ H' _ S5 (yes rfl a na)) (fun f s6 k => ?_) (fun _ _ z => False.elim z)
          cases f with
          | ret u =>
            obtain ⟨v6, σ6, H6, S6, r6, q6⟩ := k
            exact gone_ok (S6.unsuite ok) hN hi hl2 fun s7 J7 => ⟨_, _, _, J7, r6, q6⟩
          | _ =>
            obtain ⟨σ6, H6, S6, q6⟩ := k
            exact gone_ok (S6.unsuite ok) hN hi hl2 fun s7 J7 => ⟨_, _, J7, q6⟩
      | only hc run r ih =>
        rintro ⟨b, hb1, yes, no⟩
        refine wpAny_handleBy_cons (codeAny_handlers_test (named_name hc Sg ((PySem.W.exm_one (M := model X.prog X.w) Jg.kIn kind hb1).here ?_))) (by intro q; cases q)
        cases b with
        | false => exact ih (no rfl)
        | true =>
          refine codeAny_handlers_suite (HandSPX.lands_againZ fl fun g2 fl2 up2 => ?_)
          obtain ⟨oe2, vs2, e2, z2, d2⟩ := fl2.there
          have S2 := (J.landed nb fl2.1 ((up.trans upg).trans up2) os ag : Inv X pins σ' H' { t with heap := g2 }).suite e2 d2 na n1 n2
          refine wpAny_mono ((run a oe2 cls d (X.pn ++ pins) z2 ⟨_, d2⟩).run [] _ _ H' _ S2 (yes rfl a na)) (fun f s6 k => ?_) (fun _ _ z => False.elim z)
          cases f with
          | ret u =>
            obtain ⟨v6, σ6, H6, S6, r6, q6⟩ := k
            exact ⟨_, _, _, S6.unsuite ok, r6, q6⟩
          | _ =>
            obtain ⟨σ6, H6, S6, q6⟩ := k
            exact ⟨_, _, S6.unsuite ok, q6⟩
    exact go hh want
  · cases f with
    | next =>
      obtain ⟨σ', H', J', q⟩ := k
      exact wpAny_execs_nil ⟨σ', H', J'.ofTry I.ok, q⟩
    | ret u =>
      obtain ⟨v, σ', H', J', r, q⟩ := k
      exact ⟨v, σ', H', J'.ofTry I.ok, r, q⟩
    | _ =>
      obtain ⟨σ', H', J', q⟩ := k
      exact ⟨σ', H', J'.ofTry I.ok, q⟩
/-! a clause lets it by; takes it -/
section
variable {K : PySem.W.Frag} {c : Value} {i : Nat} {ts : Addr → Value → Option Addr → TS} {W : WX} {D : Ends} {cls : Value} {d : Option Addr} {σ : L2.St} {H : Hp}
theorem by_as (h : PySem.W.exmOne K cls c = some false) (q : W cls d σ H) : wAs K c i ts W D cls d σ H := ⟨false, h, fun z => Bool.noConfusion z, fun _ => q⟩
theorem by_only (h : PySem.W.exmOne K cls c = some false) (q : W cls d σ H) : wOnly K c ts W D cls d σ H := ⟨false, h, fun z => Bool.noConfusion z, fun _ => q⟩
theorem took_only (h : PySem.W.exmOne K cls c = some true) (q : ∀ a, H a = none → ts a cls d D σ H) : wOnly K c ts W D cls d σ H := ⟨true, h, fun _ => q, fun z => Bool.noConfusion z⟩
end
end Tm

namespace My
open PySem L2
noncomputable section
noncomputable def top (i : Nat) : Stmt := PySem.Challenge.pw_packetpicture_k69_source_and_its_past.main.body.getD i (.Pass ⟨0, 0, 0, 0⟩)
abbrev s_Picture_rows : Stmt := inClass (top 26) 3
abbrev s_law_same_rows : Stmt := top 87
abbrev s_Source_shown : Stmt := inClass (top 71) 1
abbrev s_with_saved : Stmt := top 69
abbrev s_Frame_across : Stmt := inClass (top 17) 1
abbrev s_tile_corner : Stmt := top 18
abbrev s_tile_size : Stmt := top 19
abbrev s_tile_pixels : Stmt := top 20
abbrev s_gray_bit : Stmt := top 41
abbrev s_Picture_value : Stmt := inClass (top 26) 1
abbrev s_stored_bit : Stmt := top 42
abbrev s_check_range : Stmt := top 8
abbrev s_Frame_down : Stmt := inClass (top 17) 2
abbrev s_Frame_tiles : Stmt := inClass (top 17) 3
abbrev s_check_key : Stmt := top 23
abbrev s_same_kind : Stmt := top 16
abbrev s_fits_frame : Stmt := top 27
abbrev s_check_fits : Stmt := top 28
abbrev s_packet_bits : Stmt := top 43
abbrev s_Frame_packets : Stmt := inClass (top 17) 5
abbrev s_key_at : Stmt := top 22
abbrev s_all_keys : Stmt := top 21
abbrev s_changed : Stmt := top 45
abbrev s_Source__become : Stmt := inClass (top 71) 4
abbrev s_check_values : Stmt := top 25
abbrev s_check_size : Stmt := top 15
abbrev s_check_kind : Stmt := top 14
abbrev s_Picture___init__ : Stmt := inClass (top 26) 0
abbrev s_crop_pixels : Stmt := top 35
abbrev s_Frame___init__ : Stmt := inClass (top 17) 0
abbrev s_check_sides : Stmt := top 30
abbrev s_check_rectangle : Stmt := top 31
abbrev s_check_tiles : Stmt := top 33
abbrev s_crop_frame : Stmt := top 34
abbrev s_paste_crops : Stmt := top 36
abbrev s_Source_paste : Stmt := inClass (top 71) 3
abbrev s_Picture_with_value : Stmt := inClass (top 26) 5
abbrev s_Source_change : Stmt := inClass (top 71) 2
abbrev s_law_ask_raw : Stmt := top 89
abbrev s_law_ask : Stmt := top 90
abbrev s_law_gray : Stmt := top 79
abbrev s_law_stored : Stmt := top 80
abbrev s_law_tile : Stmt := top 81
abbrev s_law_pixels : Stmt := top 82
abbrev s_law_packet : Stmt := top 85
abbrev s_law_tiles : Stmt := top 83
abbrev s_law_keys : Stmt := top 84
abbrev s_law_changed : Stmt := top 88
abbrev s_law_draw : Stmt := top 76
abbrev s_law_change : Stmt := top 91
abbrev s_law_picture : Stmt := top 86
abbrev s_law_rows : Stmt := top 78
abbrev s_law_paste : Stmt := top 92
abbrev s_law_flag : Stmt := top 73
abbrev s_Source_undo : Stmt := inClass (top 71) 5
abbrev s_Picture_framed : Stmt := inClass (top 26) 6
abbrev s_Source___init__ : Stmt := inClass (top 71) 0
abbrev s_law_shape : Stmt := top 77
abbrev s_law_cell : Stmt := top 74
abbrev s_law_digits : Stmt := top 75
abbrev s_law : Stmt := top 93
set_option genInjectivity false
set_option genSizeOf false
set_option genSizeOfSpec false
/-- a def of the text as it stands behind the top -/
structure DefAt (K : PySem.W.Frag) (mg : Str → Option Value) (x : Str) (st : Stmt) (ps : List Str) where
  a : Addr
  d : FuncData
  f : Fun K x x st a d
  g : mg x = some (.ref a)
  b : Binds K d ps []
structure DefAl (K : PySem.W.Frag) (mg : Str → Option Value) (x y : Str) (st : Stmt) (ps : List Str) where
  a : Addr
  d : FuncData
  f : Fun K y y st a d
  g : mg x = some (.ref a)
  b : Binds K d ps []
structure MethAt (K : PySem.W.Frag) (C : Addr) (x q : Str) (st : Stmt) (ps : List Str) where
  a : Addr
  d : FuncData
  f : Fun K x q st a d
  b : Binds K d ps []
  m : Meth K C x a
abbrev s_OutOfRange___init__ : Stmt := inClass (top 3) 0
/-- the law's own: True, whatever the script -/
noncomputable def spLaw (K : PySem.W.Frag) : Sp := fun vs H Q _ => ∃ (a : Addr) (ns : List Int), vs = [.ref a] ∧ SqL K H a (ns.map V.int) ∧ ns.length ≤ 63 ∧ (∀ z ∈ ns, Builtin.Int.intBits z ≤ 1048576) ∧ ∀ H', Q (.bl true) H' 
set_option genInjectivity false
set_option genSizeOf false
set_option genSizeOfSpec false
structure Tx (P : Program) (K : PySem.W.Frag) (mg : Str → Option Value) where
  a_Picture : Addr
  cl_Picture : Cls K a_Picture
  g_Picture : mg "Picture" = some (.ref a_Picture)
  mk_Picture : PySem.W.makesIn K a_Picture = true
  kp_Picture : PySem.W.keepIn K (.ref a_Picture) = true
  io_Picture : Nx.IsO K a_Picture
  na_Picture_width : NoAttr K a_Picture "width"
  na_Picture_height : NoAttr K a_Picture "height"
  na_Picture_depth : NoAttr K a_Picture "depth"
  na_Picture_channels : NoAttr K a_Picture "channels"
  na_Picture__rows : NoAttr K a_Picture "_rows"
  a_Frame : Addr
  cl_Frame : Cls K a_Frame
  g_Frame : mg "Frame" = some (.ref a_Frame)
  mk_Frame : PySem.W.makesIn K a_Frame = true
  kp_Frame : PySem.W.keepIn K (.ref a_Frame) = true
  na_Frame_width : NoAttr K a_Frame "width"
  na_Frame_height : NoAttr K a_Frame "height"
  na_Frame_depth : NoAttr K a_Frame "depth"
  na_Frame_channels : NoAttr K a_Frame "channels"
  na_Frame_tile : NoAttr K a_Frame "tile"
  a_Source : Addr
  cl_Source : Cls K a_Source
  g_Source : mg "Source" = some (.ref a_Source)
  mk_Source : PySem.W.makesIn K a_Source = true
  kp_Source : PySem.W.keepIn K (.ref a_Source) = true
  na_Source_frame : NoAttr K a_Source "frame"
  na_Source__picture : NoAttr K a_Source "_picture"
  na_Source__saved : NoAttr K a_Source "_saved"
  Picture_rows : MethAt K a_Picture "rows" "Picture.rows" s_Picture_rows ["self"]
  law_same_rows : DefAt K mg "_law_same_rows" s_law_same_rows ["picture", "shape", "rows"]
  Source_shown : MethAt K a_Source "shown" "Source.shown" s_Source_shown ["self"]
  with_saved : DefAt K mg "with_saved" s_with_saved ["saved", "state"]
  Frame_across : MethAt K a_Frame "across" "Frame.across" s_Frame_across ["self"]
  tile_corner : DefAt K mg "tile_corner" s_tile_corner ["frame", "tile"]
  tile_size : DefAt K mg "tile_size" s_tile_size ["frame", "tile"]
  tile_pixels : DefAt K mg "tile_pixels" s_tile_pixels ["frame", "tile"]
  gray_bit : DefAt K mg "gray_bit" s_gray_bit ["value", "plane"]
  Picture_value : MethAt K a_Picture "value" "Picture.value" s_Picture_value ["self", "channel", "pixel"]
  stored_bit : DefAt K mg "stored_bit" s_stored_bit ["picture", "channel", "pixel", "plane"]
  check_range : DefAt K mg "check_range" s_check_range ["name", "value", "least", "most"]
  Frame_down : MethAt K a_Frame "down" "Frame.down" s_Frame_down ["self"]
  Frame_tiles : MethAt K a_Frame "tiles" "Frame.tiles" s_Frame_tiles ["self"]
  check_key : DefAt K mg "check_key" s_check_key ["frame", "key"]
  same_kind : DefAt K mg "same_kind" s_same_kind ["one", "other"]
  fits_frame : DefAt K mg "fits_frame" s_fits_frame ["frame", "picture"]
  check_fits : DefAt K mg "check_fits" s_check_fits ["frame", "picture"]
  packet_bits : DefAt K mg "packet_bits" s_packet_bits ["frame", "picture", "key"]
  Frame_packets : MethAt K a_Frame "packets" "Frame.packets" s_Frame_packets ["self"]
  key_at : DefAt K mg "key_at" s_key_at ["frame", "number"]
  all_keys : DefAt K mg "all_keys" s_all_keys ["frame"]
  changed : DefAt K mg "changed" s_changed ["frame", "one", "other"]
  Source__become : MethAt K a_Source "_become" "Source._become" s_Source__become ["self", "picture"]
  check_values : DefAt K mg "check_values" s_check_values ["width", "height", "depth", "channels", "values"]
  check_size : DefAt K mg "check_size" s_check_size ["width", "height", "channels"]
  check_kind : DefAt K mg "check_kind" s_check_kind ["width", "height", "depth", "channels"]
  Picture___init__ : MethAt K a_Picture "__init__" "Picture.__init__" s_Picture___init__ ["self", "width", "height", "depth", "channels", "values"]
  crop_pixels : DefAt K mg "crop_pixels" s_crop_pixels ["frame", "rectangle", "part"]
  Frame___init__ : MethAt K a_Frame "__init__" "Frame.__init__" s_Frame___init__ ["self", "width", "height", "depth", "channels", "tile"]
  check_sides : DefAt K mg "check_sides" s_check_sides ["name", "left", "top", "width", "height"]
  check_rectangle : DefAt K mg "check_rectangle" s_check_rectangle ["rectangle"]
  check_tiles : DefAt K mg "check_tiles" s_check_tiles ["frame", "rectangle"]
  crop_frame : DefAt K mg "crop_frame" s_crop_frame ["frame", "rectangle"]
  paste_crops : DefAl K mg "paste_crops" "paste" s_paste_crops ["frame", "rectangle", "picture", "part"]
  Source_paste : MethAt K a_Source "paste" "Source.paste" s_Source_paste ["self", "rectangle", "part"]
  Picture_with_value : MethAt K a_Picture "with_value" "Picture.with_value" s_Picture_with_value ["self", "channel", "pixel", "value"]
  Source_change : MethAt K a_Source "change" "Source.change" s_Source_change ["self", "channel", "pixel", "value"]
  law_ask_raw : DefAt K mg "_law_ask_raw" s_law_ask_raw ["source", "which", "one", "two", "three"]
  law_ask : DefAt K mg "_law_ask" s_law_ask ["source", "which", "one", "two", "three"]
  law_gray : DefAt K mg "_law_gray" s_law_gray ["value", "plane"]
  law_stored : DefAt K mg "_law_stored" s_law_stored ["shape", "rows", "channel", "pixel", "plane"]
  law_tile : DefAt K mg "_law_tile" s_law_tile ["shape", "tile"]
  law_pixels : DefAt K mg "_law_pixels" s_law_pixels ["shape", "tile"]
  law_packet : DefAt K mg "_law_packet" s_law_packet ["shape", "rows", "key"]
  law_tiles : DefAt K mg "_law_tiles" s_law_tiles ["shape"]
  law_keys : DefAt K mg "_law_keys" s_law_keys ["shape"]
  law_changed : DefAt K mg "_law_changed" s_law_changed ["shape", "one", "other"]
  law_draw : DefAt K mg "_law_draw" s_law_draw ["box", "many"]
  law_change : DefAt K mg "_law_change" s_law_change ["box", "shape", "rows", "source"]
  law_picture : DefAt K mg "_law_picture" s_law_picture ["shape", "rows"]
  law_rows : DefAt K mg "_law_rows" s_law_rows ["box", "shape"]
  law_paste : DefAt K mg "_law_paste" s_law_paste ["box", "shape", "rows", "source"]
  law_flag : DefAt K mg "_law_flag" s_law_flag ["actual", "due"]
  Source_undo : MethAt K a_Source "undo" "Source.undo" s_Source_undo ["self"]
  Picture_framed : MethAt K a_Picture "framed" "Picture.framed" s_Picture_framed ["self", "tile"]
  Source___init__ : MethAt K a_Source "__init__" "Source.__init__" s_Source___init__ ["self", "picture", "tile"]
  law_shape : DefAt K mg "_law_shape" s_law_shape ["box", "most", "planes", "side"]
  law_cell : DefAt K mg "_law_cell" s_law_cell ["script", "k"]
  law_digits : DefAt K mg "_law_digits" s_law_digits ["script", "first", "last"]
  law : DefAt K mg "law" s_law ["script"]
  x_OutOfRange : Sx.ExcAt P K mg "OutOfRange" "OutOfRange.__init__" s_OutOfRange___init__ ["self", "name"]
  y_OtherKind : Sx.BareAt K mg "OtherKind"
  y_OutsidePicture : Sx.BareAt K mg "OutsidePicture"
  nf_OutOfRange_name : PySem.W.findIn K (.ref x_OutOfRange.C) "name" = some none
  em_OutOfRange_OtherKind : PySem.W.exmOne K (.ref x_OutOfRange.C) (.ref y_OtherKind.C) = some false
  em_OutOfRange_OutsidePicture : PySem.W.exmOne K (.ref x_OutOfRange.C) (.ref y_OutsidePicture.C) = some false
  em_OtherKind_OutOfRange : PySem.W.exmOne K (.ref y_OtherKind.C) (.ref x_OutOfRange.C) = some false
  em_OtherKind_OutsidePicture : PySem.W.exmOne K (.ref y_OtherKind.C) (.ref y_OutsidePicture.C) = some false
  em_OutsidePicture_OtherKind : PySem.W.exmOne K (.ref y_OutsidePicture.C) (.ref y_OtherKind.C) = some false
  em_OutsidePicture_OutOfRange : PySem.W.exmOne K (.ref y_OutsidePicture.C) (.ref x_OutOfRange.C) = some false
  n_bool : mg "bool" = none
  n_divmod : mg "divmod" = none
  n_enumerate : mg "enumerate" = none
  n_int : mg "int" = none
  n_isinstance : mg "isinstance" = none
  n_len : mg "len" = none
  n_list : mg "list" = none
  n_max : mg "max" = none
  n_min : mg "min" = none
  n_range : mg "range" = none
  n_str : mg "str" = none
  t_DEPTH_MOST : Tok
  c_DEPTH_MOST : mg "DEPTH_MOST" = some (.int 8 t_DEPTH_MOST)
  t_SIDE_MOST : Tok
  c_SIDE_MOST : mg "SIDE_MOST" = some (.int 64 t_SIDE_MOST)
  t_TILE_MOST : Tok
  c_TILE_MOST : mg "TILE_MOST" = some (.int 16 t_TILE_MOST)
  t_UNDO_MOST : Tok
  c_UNDO_MOST : mg "UNDO_MOST" = some (.int 16 t_UNDO_MOST)
  t_VALUES_MOST : Tok
  c_VALUES_MOST : mg "VALUES_MOST" = some (.int 3072 t_VALUES_MOST)
section
variable {P : Program} {w : World} {K : PySem.W.Frag} {mg : Str → Option Value} {base : Heap}
noncomputable def fl_Picture (v0 v1 v2 v3 v4 : V) : List (Str × V) := [("width", v0), ("height", v1), ("depth", v2), ("channels", v3), ("_rows", v4)]
theorem ne_Picture_width__height : ((Str.ofString "width") = Str.ofString "height") = False := eq_false (by decide +kernel)
theorem ne_Picture_width__depth : ((Str.ofString "width") = Str.ofString "depth") = False := eq_false (by decide +kernel)
theorem ne_Picture_width__channels : ((Str.ofString "width") = Str.ofString "channels") = False := eq_false (by decide +kernel)
theorem ne_Picture_width___rows : ((Str.ofString "width") = Str.ofString "_rows") = False := eq_false (by decide +kernel)
theorem ne_Picture_width__value : ((Str.ofString "width") = Str.ofString "value") = False := eq_false (by decide +kernel)
theorem ne_Picture_width__rows : ((Str.ofString "width") = Str.ofString "rows") = False := eq_false (by decide +kernel)
theorem ne_Picture_width__with_value : ((Str.ofString "width") = Str.ofString "with_value") = False := eq_false (by decide +kernel)
theorem ne_Picture_width__framed : ((Str.ofString "width") = Str.ofString "framed") = False := eq_false (by decide +kernel)
theorem ne_Picture_height__depth : ((Str.ofString "height") = Str.ofString "depth") = False := eq_false (by decide +kernel)
theorem ne_Picture_height__channels : ((Str.ofString "height") = Str.ofString "channels") = False := eq_false (by decide +kernel)
theorem ne_Picture_height___rows : ((Str.ofString "height") = Str.ofString "_rows") = False := eq_false (by decide +kernel)
theorem ne_Picture_height__value : ((Str.ofString "height") = Str.ofString "value") = False := eq_false (by decide +kernel)
theorem ne_Picture_height__rows : ((Str.ofString "height") = Str.ofString "rows") = False := eq_false (by decide +kernel)
theorem ne_Picture_height__with_value : ((Str.ofString "height") = Str.ofString "with_value") = False := eq_false (by decide +kernel)
theorem ne_Picture_height__framed : ((Str.ofString "height") = Str.ofString "framed") = False := eq_false (by decide +kernel)
theorem ne_Picture_depth__channels : ((Str.ofString "depth") = Str.ofString "channels") = False := eq_false (by decide +kernel)
theorem ne_Picture_depth___rows : ((Str.ofString "depth") = Str.ofString "_rows") = False := eq_false (by decide +kernel)
theorem ne_Picture_depth__value : ((Str.ofString "depth") = Str.ofString "value") = False := eq_false (by decide +kernel)
theorem ne_Picture_depth__rows : ((Str.ofString "depth") = Str.ofString "rows") = False := eq_false (by decide +kernel)
theorem ne_Picture_depth__with_value : ((Str.ofString "depth") = Str.ofString "with_value") = False := eq_false (by decide +kernel)
theorem ne_Picture_depth__framed : ((Str.ofString "depth") = Str.ofString "framed") = False := eq_false (by decide +kernel)
theorem ne_Picture_channels___rows : ((Str.ofString "channels") = Str.ofString "_rows") = False := eq_false (by decide +kernel)
theorem ne_Picture_channels__value : ((Str.ofString "channels") = Str.ofString "value") = False := eq_false (by decide +kernel)
theorem ne_Picture_channels__rows : ((Str.ofString "channels") = Str.ofString "rows") = False := eq_false (by decide +kernel)
theorem ne_Picture_channels__with_value : ((Str.ofString "channels") = Str.ofString "with_value") = False := eq_false (by decide +kernel)
theorem ne_Picture_channels__framed : ((Str.ofString "channels") = Str.ofString "framed") = False := eq_false (by decide +kernel)
theorem ne_Picture__rows__value : ((Str.ofString "_rows") = Str.ofString "value") = False := eq_false (by decide +kernel)
theorem ne_Picture__rows__rows : ((Str.ofString "_rows") = Str.ofString "rows") = False := eq_false (by decide +kernel)
theorem ne_Picture__rows__with_value : ((Str.ofString "_rows") = Str.ofString "with_value") = False := eq_false (by decide +kernel)
theorem ne_Picture__rows__framed : ((Str.ofString "_rows") = Str.ofString "framed") = False := eq_false (by decide +kernel)
theorem put_Picture_width {v0 v1 v2 v3 v4 : V} {z : V} : putF "width" z (fl_Picture v0 v1 v2 v3 v4) = fl_Picture z v1 v2 v3 v4 := by
  simp only [fl_Picture, putF, if_false, if_true, reduceIte]
theorem lk_Picture_width {v0 v1 v2 v3 v4 : V} : (fl_Picture v0 v1 v2 v3 v4).lookup ("width" : Str) = some v0 := by
  have h := lookup_putF "width" "width" v0 (fl_Picture v0 v1 v2 v3 v4)
  rw [put_Picture_width, if_pos rfl] at h
  exact h
theorem put_Picture_height {v0 v1 v2 v3 v4 : V} {z : V} : putF "height" z (fl_Picture v0 v1 v2 v3 v4) = fl_Picture v0 z v2 v3 v4 := by
  simp only [fl_Picture, putF, ne_Picture_width__height, if_false, if_true, reduceIte]
theorem lk_Picture_height {v0 v1 v2 v3 v4 : V} : (fl_Picture v0 v1 v2 v3 v4).lookup ("height" : Str) = some v1 := by
  have h := lookup_putF "height" "height" v1 (fl_Picture v0 v1 v2 v3 v4)
  rw [put_Picture_height, if_pos rfl] at h
  exact h
theorem put_Picture_depth {v0 v1 v2 v3 v4 : V} {z : V} : putF "depth" z (fl_Picture v0 v1 v2 v3 v4) = fl_Picture v0 v1 z v3 v4 := by
  simp only [fl_Picture, putF, ne_Picture_width__depth, ne_Picture_height__depth, if_false, if_true, reduceIte]
theorem lk_Picture_depth {v0 v1 v2 v3 v4 : V} : (fl_Picture v0 v1 v2 v3 v4).lookup ("depth" : Str) = some v2 := by
  have h := lookup_putF "depth" "depth" v2 (fl_Picture v0 v1 v2 v3 v4)
  rw [put_Picture_depth, if_pos rfl] at h
  exact h
theorem put_Picture_channels {v0 v1 v2 v3 v4 : V} {z : V} : putF "channels" z (fl_Picture v0 v1 v2 v3 v4) = fl_Picture v0 v1 v2 z v4 := by
  simp only [fl_Picture, putF, ne_Picture_width__channels, ne_Picture_height__channels, ne_Picture_depth__channels, if_false, if_true, reduceIte]
theorem lk_Picture_channels {v0 v1 v2 v3 v4 : V} : (fl_Picture v0 v1 v2 v3 v4).lookup ("channels" : Str) = some v3 := by
  have h := lookup_putF "channels" "channels" v3 (fl_Picture v0 v1 v2 v3 v4)
  rw [put_Picture_channels, if_pos rfl] at h
  exact h
theorem put_Picture__rows {v0 v1 v2 v3 v4 : V} {z : V} : putF "_rows" z (fl_Picture v0 v1 v2 v3 v4) = fl_Picture v0 v1 v2 v3 z := by
  simp only [fl_Picture, putF, ne_Picture_width___rows, ne_Picture_height___rows, ne_Picture_depth___rows, ne_Picture_channels___rows, if_false, if_true, reduceIte]
theorem lk_Picture__rows {v0 v1 v2 v3 v4 : V} : (fl_Picture v0 v1 v2 v3 v4).lookup ("_rows" : Str) = some v4 := by
  have h := lookup_putF "_rows" "_rows" v4 (fl_Picture v0 v1 v2 v3 v4)
  rw [put_Picture__rows, if_pos rfl] at h
  exact h
theorem ini_Picture {v0 v1 v2 v3 v4 : V} : putF "_rows" v4 (putF "channels" v3 (putF "depth" v2 (putF "height" v1 (putF "width" v0 [])))) = fl_Picture v0 v1 v2 v3 v4 := by
  simp only [fl_Picture, putF, ne_Picture_width__height, ne_Picture_width__depth, ne_Picture_width__channels, ne_Picture_width___rows, ne_Picture_height__depth, ne_Picture_height__channels, ne_Picture_height___rows, ne_Picture_depth__channels, ne_Picture_depth___rows, ne_Picture_channels___rows, if_false, if_true, reduceIte]
theorem no_Picture_value {v0 v1 v2 v3 v4 : V} : (fl_Picture v0 v1 v2 v3 v4).lookup ("value" : Str) = none := by
  have q : ∀ (g : Str) (u : V) (r : List (Str × V)), ¬ g = "value" → List.lookup (Str.ofString "value") ((g, u) :: r) = List.lookup (Str.ofString "value") r := fun g u r h => by
    have hb : ((Str.ofString "value") == g) = false := beq_eq_false_iff_ne.mpr (fun z => h z.symm)
    simp only [List.lookup, hb]
  unfold fl_Picture
  rw [q _ _ _ (by rw [ne_Picture_width__value]; exact id), q _ _ _ (by rw [ne_Picture_height__value]; exact id), q _ _ _ (by rw [ne_Picture_depth__value]; exact id), q _ _ _ (by rw [ne_Picture_channels__value]; exact id), q _ _ _ (by rw [ne_Picture__rows__value]; exact id)]
  rfl
theorem no_Picture_rows {v0 v1 v2 v3 v4 : V} : (fl_Picture v0 v1 v2 v3 v4).lookup ("rows" : Str) = none := by
  have q : ∀ (g : Str) (u : V) (r : List (Str × V)), ¬ g = "rows" → List.lookup (Str.ofString "rows") ((g, u) :: r) = List.lookup (Str.ofString "rows") r := fun g u r h => by
    have hb : ((Str.ofString "rows") == g) = false := beq_eq_false_iff_ne.mpr (fun z => h z.symm)
    simp only [List.lookup, hb]
  unfold fl_Picture
  rw [q _ _ _ (by rw [ne_Picture_width__rows]; exact id), q _ _ _ (by rw [ne_Picture_height__rows]; exact id), q _ _ _ (by rw [ne_Picture_depth__rows]; exact id), q _ _ _ (by rw [ne_Picture_channels__rows]; exact id), q _ _ _ (by rw [ne_Picture__rows__rows]; exact id)]
  rfl
theorem no_Picture_with_value {v0 v1 v2 v3 v4 : V} : (fl_Picture v0 v1 v2 v3 v4).lookup ("with_value" : Str) = none := by
  have q : ∀ (g : Str) (u : V) (r : List (Str × V)), ¬ g = "with_value" → List.lookup (Str.ofString "with_value") ((g, u) :: r) = List.lookup (Str.ofString "with_value") r := fun g u r h => by
    have hb : ((Str.ofString "with_value") == g) = false := beq_eq_false_iff_ne.mpr (fun z => h z.symm)
    simp only [List.lookup, hb]
  unfold fl_Picture
  rw [q _ _ _ (by rw [ne_Picture_width__with_value]; exact id), q _ _ _ (by rw [ne_Picture_height__with_value]; exact id), q _ _ _ (by rw [ne_Picture_depth__with_value]; exact id), q _ _ _ (by rw [ne_Picture_channels__with_value]; exact id), q _ _ _ (by rw [ne_Picture__rows__with_value]; exact id)]
  rfl
theorem no_Picture_framed {v0 v1 v2 v3 v4 : V} : (fl_Picture v0 v1 v2 v3 v4).lookup ("framed" : Str) = none := by
  have q : ∀ (g : Str) (u : V) (r : List (Str × V)), ¬ g = "framed" → List.lookup (Str.ofString "framed") ((g, u) :: r) = List.lookup (Str.ofString "framed") r := fun g u r h => by
    have hb : ((Str.ofString "framed") == g) = false := beq_eq_false_iff_ne.mpr (fun z => h z.symm)
    simp only [List.lookup, hb]
  unfold fl_Picture
  rw [q _ _ _ (by rw [ne_Picture_width__framed]; exact id), q _ _ _ (by rw [ne_Picture_height__framed]; exact id), q _ _ _ (by rw [ne_Picture_depth__framed]; exact id), q _ _ _ (by rw [ne_Picture_channels__framed]; exact id), q _ _ _ (by rw [ne_Picture__rows__framed]; exact id)]
  rfl
theorem k4_Picture (T : Tx P K mg) {H : Hp} {x dx : Addr} {v0 v1 v2 v3 v4 : V} (h : H x = some (.ins T.a_Picture dx (fl_Picture v0 v1 v2 v3 v4))) : Nx.K4 K H x v0 v1 v2 v3 := ⟨_, dx, _, h, T.cl_Picture, ⟨T.na_Picture_width, T.na_Picture_height, T.na_Picture_depth, T.na_Picture_channels⟩, lk_Picture_width, lk_Picture_height, lk_Picture_depth, lk_Picture_channels⟩
/-- a Picture stands at x, its rows at r -/
structure Pic (C : Addr) (H : Hp) (x r : Addr) (w h d c : Nat) (f : Nat → List Int) : Prop where
  ob : ∃ dx, H x = some (.ins C dx (fl_Picture (.int (w : Int)) (.int (h : Int)) (.int (d : Int)) (.int (c : Int)) (.ref r)))
  rs : Gx.LL H r c f
theorem Pic.keep {C x r : Addr} {H H' : Hp} {w h d c : Nat} {f : Nat → List Int} (p : Pic C H x r w h d c f) (s : Same H H') : Pic C H' x r w h d c f := by
  obtain ⟨⟨dx, h1⟩, h2⟩ := p
  exact ⟨⟨dx, s _ _ h1⟩, h2.keep s⟩

noncomputable def fl_Frame (v0 v1 v2 v3 v4 : V) : List (Str × V) := [("width", v0), ("height", v1), ("depth", v2), ("channels", v3), ("tile", v4)]
theorem ne_Frame_width__height : ((Str.ofString "width") = Str.ofString "height") = False := eq_false (by decide +kernel)
theorem ne_Frame_width__depth : ((Str.ofString "width") = Str.ofString "depth") = False := eq_false (by decide +kernel)
theorem ne_Frame_width__channels : ((Str.ofString "width") = Str.ofString "channels") = False := eq_false (by decide +kernel)
theorem ne_Frame_width__tile : ((Str.ofString "width") = Str.ofString "tile") = False := eq_false (by decide +kernel)
theorem ne_Frame_width__across : ((Str.ofString "width") = Str.ofString "across") = False := eq_false (by decide +kernel)
theorem ne_Frame_width__down : ((Str.ofString "width") = Str.ofString "down") = False := eq_false (by decide +kernel)
theorem ne_Frame_width__tiles : ((Str.ofString "width") = Str.ofString "tiles") = False := eq_false (by decide +kernel)
theorem ne_Frame_width__packets : ((Str.ofString "width") = Str.ofString "packets") = False := eq_false (by decide +kernel)
theorem ne_Frame_height__depth : ((Str.ofString "height") = Str.ofString "depth") = False := eq_false (by decide +kernel)
theorem ne_Frame_height__channels : ((Str.ofString "height") = Str.ofString "channels") = False := eq_false (by decide +kernel)
theorem ne_Frame_height__tile : ((Str.ofString "height") = Str.ofString "tile") = False := eq_false (by decide +kernel)
theorem ne_Frame_height__across : ((Str.ofString "height") = Str.ofString "across") = False := eq_false (by decide +kernel)
theorem ne_Frame_height__down : ((Str.ofString "height") = Str.ofString "down") = False := eq_false (by decide +kernel)
theorem ne_Frame_height__tiles : ((Str.ofString "height") = Str.ofString "tiles") = False := eq_false (by decide +kernel)
theorem ne_Frame_height__packets : ((Str.ofString "height") = Str.ofString "packets") = False := eq_false (by decide +kernel)
theorem ne_Frame_depth__channels : ((Str.ofString "depth") = Str.ofString "channels") = False := eq_false (by decide +kernel)
theorem ne_Frame_depth__tile : ((Str.ofString "depth") = Str.ofString "tile") = False := eq_false (by decide +kernel)
theorem ne_Frame_depth__across : ((Str.ofString "depth") = Str.ofString "across") = False := eq_false (by decide +kernel)
theorem ne_Frame_depth__down : ((Str.ofString "depth") = Str.ofString "down") = False := eq_false (by decide +kernel)
theorem ne_Frame_depth__tiles : ((Str.ofString "depth") = Str.ofString "tiles") = False := eq_false (by decide +kernel)
theorem ne_Frame_depth__packets : ((Str.ofString "depth") = Str.ofString "packets") = False := eq_false (by decide +kernel)
theorem ne_Frame_channels__tile : ((Str.ofString "channels") = Str.ofString "tile") = False := eq_false (by decide +kernel)
theorem ne_Frame_channels__across : ((Str.ofString "channels") = Str.ofString "across") = False := eq_false (by decide +kernel)
theorem ne_Frame_channels__down : ((Str.ofString "channels") = Str.ofString "down") = False := eq_false (by decide +kernel)
theorem ne_Frame_channels__tiles : ((Str.ofString "channels") = Str.ofString "tiles") = False := eq_false (by decide +kernel)
theorem ne_Frame_channels__packets : ((Str.ofString "channels") = Str.ofString "packets") = False := eq_false (by decide +kernel)
theorem ne_Frame_tile__across : ((Str.ofString "tile") = Str.ofString "across") = False := eq_false (by decide +kernel)
theorem ne_Frame_tile__down : ((Str.ofString "tile") = Str.ofString "down") = False := eq_false (by decide +kernel)
theorem ne_Frame_tile__tiles : ((Str.ofString "tile") = Str.ofString "tiles") = False := eq_false (by decide +kernel)
theorem ne_Frame_tile__packets : ((Str.ofString "tile") = Str.ofString "packets") = False := eq_false (by decide +kernel)
theorem put_Frame_width {v0 v1 v2 v3 v4 : V} {z : V} : putF "width" z (fl_Frame v0 v1 v2 v3 v4) = fl_Frame z v1 v2 v3 v4 := by
  simp only [fl_Frame, putF, if_false, if_true, reduceIte]
theorem lk_Frame_width {v0 v1 v2 v3 v4 : V} : (fl_Frame v0 v1 v2 v3 v4).lookup ("width" : Str) = some v0 := by
  have h := lookup_putF "width" "width" v0 (fl_Frame v0 v1 v2 v3 v4)
  rw [put_Frame_width, if_pos rfl] at h
  exact h
theorem put_Frame_height {v0 v1 v2 v3 v4 : V} {z : V} : putF "height" z (fl_Frame v0 v1 v2 v3 v4) = fl_Frame v0 z v2 v3 v4 := by
  simp only [fl_Frame, putF, ne_Frame_width__height, if_false, if_true, reduceIte]
theorem lk_Frame_height {v0 v1 v2 v3 v4 : V} : (fl_Frame v0 v1 v2 v3 v4).lookup ("height" : Str) = some v1 := by
  have h := lookup_putF "height" "height" v1 (fl_Frame v0 v1 v2 v3 v4)
  rw [put_Frame_height, if_pos rfl] at h
  exact h
theorem put_Frame_depth {v0 v1 v2 v3 v4 : V} {z : V} : putF "depth" z (fl_Frame v0 v1 v2 v3 v4) = fl_Frame v0 v1 z v3 v4 := by
  simp only [fl_Frame, putF, ne_Frame_width__depth, ne_Frame_height__depth, if_false, if_true, reduceIte]
theorem lk_Frame_depth {v0 v1 v2 v3 v4 : V} : (fl_Frame v0 v1 v2 v3 v4).lookup ("depth" : Str) = some v2 := by
  have h := lookup_putF "depth" "depth" v2 (fl_Frame v0 v1 v2 v3 v4)
  rw [put_Frame_depth, if_pos rfl] at h
  exact h
theorem put_Frame_channels {v0 v1 v2 v3 v4 : V} {z : V} : putF "channels" z (fl_Frame v0 v1 v2 v3 v4) = fl_Frame v0 v1 v2 z v4 := by
  simp only [fl_Frame, putF, ne_Frame_width__channels, ne_Frame_height__channels, ne_Frame_depth__channels, if_false, if_true, reduceIte]
theorem lk_Frame_channels {v0 v1 v2 v3 v4 : V} : (fl_Frame v0 v1 v2 v3 v4).lookup ("channels" : Str) = some v3 := by
  have h := lookup_putF "channels" "channels" v3 (fl_Frame v0 v1 v2 v3 v4)
  rw [put_Frame_channels, if_pos rfl] at h
  exact h
theorem put_Frame_tile {v0 v1 v2 v3 v4 : V} {z : V} : putF "tile" z (fl_Frame v0 v1 v2 v3 v4) = fl_Frame v0 v1 v2 v3 z := by
  simp only [fl_Frame, putF, ne_Frame_width__tile, ne_Frame_height__tile, ne_Frame_depth__tile, ne_Frame_channels__tile, if_false, if_true, reduceIte]
theorem lk_Frame_tile {v0 v1 v2 v3 v4 : V} : (fl_Frame v0 v1 v2 v3 v4).lookup ("tile" : Str) = some v4 := by
  have h := lookup_putF "tile" "tile" v4 (fl_Frame v0 v1 v2 v3 v4)
  rw [put_Frame_tile, if_pos rfl] at h
  exact h
theorem ini_Frame {v0 v1 v2 v3 v4 : V} : putF "tile" v4 (putF "channels" v3 (putF "depth" v2 (putF "height" v1 (putF "width" v0 [])))) = fl_Frame v0 v1 v2 v3 v4 := by
  simp only [fl_Frame, putF, ne_Frame_width__height, ne_Frame_width__depth, ne_Frame_width__channels, ne_Frame_width__tile, ne_Frame_height__depth, ne_Frame_height__channels, ne_Frame_height__tile, ne_Frame_depth__channels, ne_Frame_depth__tile, ne_Frame_channels__tile, if_false, if_true, reduceIte]
theorem no_Frame_across {v0 v1 v2 v3 v4 : V} : (fl_Frame v0 v1 v2 v3 v4).lookup ("across" : Str) = none := by
  have q : ∀ (g : Str) (u : V) (r : List (Str × V)), ¬ g = "across" → List.lookup (Str.ofString "across") ((g, u) :: r) = List.lookup (Str.ofString "across") r := fun g u r h => by
    have hb : ((Str.ofString "across") == g) = false := beq_eq_false_iff_ne.mpr (fun z => h z.symm)
    simp only [List.lookup, hb]
  unfold fl_Frame
  rw [q _ _ _ (by rw [ne_Frame_width__across]; exact id), q _ _ _ (by rw [ne_Frame_height__across]; exact id), q _ _ _ (by rw [ne_Frame_depth__across]; exact id), q _ _ _ (by rw [ne_Frame_channels__across]; exact id), q _ _ _ (by rw [ne_Frame_tile__across]; exact id)]
  rfl
theorem no_Frame_down {v0 v1 v2 v3 v4 : V} : (fl_Frame v0 v1 v2 v3 v4).lookup ("down" : Str) = none := by
  have q : ∀ (g : Str) (u : V) (r : List (Str × V)), ¬ g = "down" → List.lookup (Str.ofString "down") ((g, u) :: r) = List.lookup (Str.ofString "down") r := fun g u r h => by
    have hb : ((Str.ofString "down") == g) = false := beq_eq_false_iff_ne.mpr (fun z => h z.symm)
    simp only [List.lookup, hb]
  unfold fl_Frame
  rw [q _ _ _ (by rw [ne_Frame_width__down]; exact id), q _ _ _ (by rw [ne_Frame_height__down]; exact id), q _ _ _ (by rw [ne_Frame_depth__down]; exact id), q _ _ _ (by rw [ne_Frame_channels__down]; exact id), q _ _ _ (by rw [ne_Frame_tile__down]; exact id)]
  rfl
theorem no_Frame_tiles {v0 v1 v2 v3 v4 : V} : (fl_Frame v0 v1 v2 v3 v4).lookup ("tiles" : Str) = none := by
  have q : ∀ (g : Str) (u : V) (r : List (Str × V)), ¬ g = "tiles" → List.lookup (Str.ofString "tiles") ((g, u) :: r) = List.lookup (Str.ofString "tiles") r := fun g u r h => by
    have hb : ((Str.ofString "tiles") == g) = false := beq_eq_false_iff_ne.mpr (fun z => h z.symm)
    simp only [List.lookup, hb]
  unfold fl_Frame
  rw [q _ _ _ (by rw [ne_Frame_width__tiles]; exact id), q _ _ _ (by rw [ne_Frame_height__tiles]; exact id), q _ _ _ (by rw [ne_Frame_depth__tiles]; exact id), q _ _ _ (by rw [ne_Frame_channels__tiles]; exact id), q _ _ _ (by rw [ne_Frame_tile__tiles]; exact id)]
  rfl
theorem no_Frame_packets {v0 v1 v2 v3 v4 : V} : (fl_Frame v0 v1 v2 v3 v4).lookup ("packets" : Str) = none := by
  have q : ∀ (g : Str) (u : V) (r : List (Str × V)), ¬ g = "packets" → List.lookup (Str.ofString "packets") ((g, u) :: r) = List.lookup (Str.ofString "packets") r := fun g u r h => by
    have hb : ((Str.ofString "packets") == g) = false := beq_eq_false_iff_ne.mpr (fun z => h z.symm)
    simp only [List.lookup, hb]
  unfold fl_Frame
  rw [q _ _ _ (by rw [ne_Frame_width__packets]; exact id), q _ _ _ (by rw [ne_Frame_height__packets]; exact id), q _ _ _ (by rw [ne_Frame_depth__packets]; exact id), q _ _ _ (by rw [ne_Frame_channels__packets]; exact id), q _ _ _ (by rw [ne_Frame_tile__packets]; exact id)]
  rfl
theorem k4_Frame (T : Tx P K mg) {H : Hp} {x dx : Addr} {v0 v1 v2 v3 v4 : V} (h : H x = some (.ins T.a_Frame dx (fl_Frame v0 v1 v2 v3 v4))) : Nx.K4 K H x v0 v1 v2 v3 := ⟨_, dx, _, h, T.cl_Frame, ⟨T.na_Frame_width, T.na_Frame_height, T.na_Frame_depth, T.na_Frame_channels⟩, lk_Frame_width, lk_Frame_height, lk_Frame_depth, lk_Frame_channels⟩
/-- a Frame stands at x -/
noncomputable def Frm (C : Addr) (H : Hp) (x : Addr) (w h d c t : Nat) : Prop := ∃ dx, H x = some (.ins C dx (fl_Frame (.int (w : Int)) (.int (h : Int)) (.int (d : Int)) (.int (c : Int)) (.int (t : Int))))
theorem Frm.keep {C x : Addr} {H H' : Hp} {w h d c t : Nat} (f : Frm C H x w h d c t) (s : Same H H') : Frm C H' x w h d c t := by
  obtain ⟨dx, h1⟩ := f
  exact ⟨dx, s _ _ h1⟩

noncomputable def fl_Source (v0 v1 v2 : V) : List (Str × V) := [("frame", v0), ("_picture", v1), ("_saved", v2)]
theorem ne_Source_frame___picture : ((Str.ofString "frame") = Str.ofString "_picture") = False := eq_false (by decide +kernel)
theorem ne_Source_frame___saved : ((Str.ofString "frame") = Str.ofString "_saved") = False := eq_false (by decide +kernel)
theorem ne_Source_frame__shown : ((Str.ofString "frame") = Str.ofString "shown") = False := eq_false (by decide +kernel)
theorem ne_Source_frame__change : ((Str.ofString "frame") = Str.ofString "change") = False := eq_false (by decide +kernel)
theorem ne_Source_frame__paste : ((Str.ofString "frame") = Str.ofString "paste") = False := eq_false (by decide +kernel)
theorem ne_Source_frame___become : ((Str.ofString "frame") = Str.ofString "_become") = False := eq_false (by decide +kernel)
theorem ne_Source_frame__undo : ((Str.ofString "frame") = Str.ofString "undo") = False := eq_false (by decide +kernel)
theorem ne_Source__picture___saved : ((Str.ofString "_picture") = Str.ofString "_saved") = False := eq_false (by decide +kernel)
theorem ne_Source__picture__shown : ((Str.ofString "_picture") = Str.ofString "shown") = False := eq_false (by decide +kernel)
theorem ne_Source__picture__change : ((Str.ofString "_picture") = Str.ofString "change") = False := eq_false (by decide +kernel)
theorem ne_Source__picture__paste : ((Str.ofString "_picture") = Str.ofString "paste") = False := eq_false (by decide +kernel)
theorem ne_Source__picture___become : ((Str.ofString "_picture") = Str.ofString "_become") = False := eq_false (by decide +kernel)
theorem ne_Source__picture__undo : ((Str.ofString "_picture") = Str.ofString "undo") = False := eq_false (by decide +kernel)
theorem ne_Source__saved__shown : ((Str.ofString "_saved") = Str.ofString "shown") = False := eq_false (by decide +kernel)
theorem ne_Source__saved__change : ((Str.ofString "_saved") = Str.ofString "change") = False := eq_false (by decide +kernel)
theorem ne_Source__saved__paste : ((Str.ofString "_saved") = Str.ofString "paste") = False := eq_false (by decide +kernel)
theorem ne_Source__saved___become : ((Str.ofString "_saved") = Str.ofString "_become") = False := eq_false (by decide +kernel)
theorem ne_Source__saved__undo : ((Str.ofString "_saved") = Str.ofString "undo") = False := eq_false (by decide +kernel)
theorem put_Source_frame {v0 v1 v2 : V} {z : V} : putF "frame" z (fl_Source v0 v1 v2) = fl_Source z v1 v2 := by
  simp only [fl_Source, putF, if_false, if_true, reduceIte]
theorem lk_Source_frame {v0 v1 v2 : V} : (fl_Source v0 v1 v2).lookup ("frame" : Str) = some v0 := by
  have h := lookup_putF "frame" "frame" v0 (fl_Source v0 v1 v2)
  rw [put_Source_frame, if_pos rfl] at h
  exact h
theorem put_Source__picture {v0 v1 v2 : V} {z : V} : putF "_picture" z (fl_Source v0 v1 v2) = fl_Source v0 z v2 := by
  simp only [fl_Source, putF, ne_Source_frame___picture, if_false, if_true, reduceIte]
theorem lk_Source__picture {v0 v1 v2 : V} : (fl_Source v0 v1 v2).lookup ("_picture" : Str) = some v1 := by
  have h := lookup_putF "_picture" "_picture" v1 (fl_Source v0 v1 v2)
  rw [put_Source__picture, if_pos rfl] at h
  exact h
theorem put_Source__saved {v0 v1 v2 : V} {z : V} : putF "_saved" z (fl_Source v0 v1 v2) = fl_Source v0 v1 z := by
  simp only [fl_Source, putF, ne_Source_frame___saved, ne_Source__picture___saved, if_false, if_true, reduceIte]
theorem lk_Source__saved {v0 v1 v2 : V} : (fl_Source v0 v1 v2).lookup ("_saved" : Str) = some v2 := by
  have h := lookup_putF "_saved" "_saved" v2 (fl_Source v0 v1 v2)
  rw [put_Source__saved, if_pos rfl] at h
  exact h
theorem few_Source {v0 v1 v2 : V} : (fl_Source v0 v1 v2).length < 1000 := by
  show 3 < 1000
  decide
theorem ini_Source {v0 v1 v2 : V} : putF "_saved" v2 (putF "_picture" v1 (putF "frame" v0 [])) = fl_Source v0 v1 v2 := by
  simp only [fl_Source, putF, ne_Source_frame___picture, ne_Source_frame___saved, ne_Source__picture___saved, if_false, if_true, reduceIte]
theorem no_Source_shown {v0 v1 v2 : V} : (fl_Source v0 v1 v2).lookup ("shown" : Str) = none := by
  have q : ∀ (g : Str) (u : V) (r : List (Str × V)), ¬ g = "shown" → List.lookup (Str.ofString "shown") ((g, u) :: r) = List.lookup (Str.ofString "shown") r := fun g u r h => by
    have hb : ((Str.ofString "shown") == g) = false := beq_eq_false_iff_ne.mpr (fun z => h z.symm)
    simp only [List.lookup, hb]
  unfold fl_Source
  rw [q _ _ _ (by rw [ne_Source_frame__shown]; exact id), q _ _ _ (by rw [ne_Source__picture__shown]; exact id), q _ _ _ (by rw [ne_Source__saved__shown]; exact id)]
  rfl
theorem no_Source_change {v0 v1 v2 : V} : (fl_Source v0 v1 v2).lookup ("change" : Str) = none := by
  have q : ∀ (g : Str) (u : V) (r : List (Str × V)), ¬ g = "change" → List.lookup (Str.ofString "change") ((g, u) :: r) = List.lookup (Str.ofString "change") r := fun g u r h => by
    have hb : ((Str.ofString "change") == g) = false := beq_eq_false_iff_ne.mpr (fun z => h z.symm)
    simp only [List.lookup, hb]
  unfold fl_Source
  rw [q _ _ _ (by rw [ne_Source_frame__change]; exact id), q _ _ _ (by rw [ne_Source__picture__change]; exact id), q _ _ _ (by rw [ne_Source__saved__change]; exact id)]
  rfl
theorem no_Source_paste {v0 v1 v2 : V} : (fl_Source v0 v1 v2).lookup ("paste" : Str) = none := by
  have q : ∀ (g : Str) (u : V) (r : List (Str × V)), ¬ g = "paste" → List.lookup (Str.ofString "paste") ((g, u) :: r) = List.lookup (Str.ofString "paste") r := fun g u r h => by
    have hb : ((Str.ofString "paste") == g) = false := beq_eq_false_iff_ne.mpr (fun z => h z.symm)
    simp only [List.lookup, hb]
  unfold fl_Source
  rw [q _ _ _ (by rw [ne_Source_frame__paste]; exact id), q _ _ _ (by rw [ne_Source__picture__paste]; exact id), q _ _ _ (by rw [ne_Source__saved__paste]; exact id)]
  rfl
theorem no_Source__become {v0 v1 v2 : V} : (fl_Source v0 v1 v2).lookup ("_become" : Str) = none := by
  have q : ∀ (g : Str) (u : V) (r : List (Str × V)), ¬ g = "_become" → List.lookup (Str.ofString "_become") ((g, u) :: r) = List.lookup (Str.ofString "_become") r := fun g u r h => by
    have hb : ((Str.ofString "_become") == g) = false := beq_eq_false_iff_ne.mpr (fun z => h z.symm)
    simp only [List.lookup, hb]
  unfold fl_Source
  rw [q _ _ _ (by rw [ne_Source_frame___become]; exact id), q _ _ _ (by rw [ne_Source__picture___become]; exact id), q _ _ _ (by rw [ne_Source__saved___become]; exact id)]
  rfl
theorem no_Source_undo {v0 v1 v2 : V} : (fl_Source v0 v1 v2).lookup ("undo" : Str) = none := by
  have q : ∀ (g : Str) (u : V) (r : List (Str × V)), ¬ g = "undo" → List.lookup (Str.ofString "undo") ((g, u) :: r) = List.lookup (Str.ofString "undo") r := fun g u r h => by
    have hb : ((Str.ofString "undo") == g) = false := beq_eq_false_iff_ne.mpr (fun z => h z.symm)
    simp only [List.lookup, hb]
  unfold fl_Source
  rw [q _ _ _ (by rw [ne_Source_frame__undo]; exact id), q _ _ _ (by rw [ne_Source__picture__undo]; exact id), q _ _ _ (by rw [ne_Source__saved__undo]; exact id)]
  rfl
/-- a Picture that stands -/
noncomputable def Pn (CP : Addr) (R : Hp) (w h d c : Nat) (a : Addr) (f : List (List Int)) : Prop := (∃ r, Pic CP R a r w h d c (fun i => f.getD i [])) ∧ Pq.rowsOk (w * h) d c f
theorem Pn.keep {CP a : Addr} {R R' : Hp} {w h d c : Nat} {f : List (List Int)} (x : Pn CP R w h d c a f) (s : Same R R') : Pn CP R' w h d c a f := by
  obtain ⟨⟨r, h1⟩, h2⟩ := x
  exact ⟨⟨r, h1.keep s⟩, h2⟩
/-- a row of such -/
noncomputable def Pns (CP : Addr) (R : Hp) (w h d c : Nat) : List V → List (List (List Int)) → Prop
  | [], [] => True
  | v :: xs, f :: S => (∃ a, v = .ref a ∧ Pn CP R w h d c a f) ∧ Pns CP R w h d c xs S
  | _, _ => False
theorem Pns.keep {CP : Addr} {R R' : Hp} {w h d c : Nat} (s : Same R R') : ∀ {xs : List V} {S : List (List (List Int))}, Pns CP R w h d c xs S → Pns CP R' w h d c xs S
  | [], [], _ => trivial
  | _ :: _, _ :: _, ⟨⟨a, e, h⟩, r⟩ => ⟨⟨a, e, h.keep s⟩, Pns.keep s r⟩
  | [], _ :: _, h => h.elim
  | _ :: _, [], h => h.elim
theorem Pns.len {CP : Addr} {R : Hp} {w h d c : Nat} : ∀ {xs : List V} {S : List (List (List Int))}, Pns CP R w h d c xs S → xs.length = S.length
  | [], [], _ => rfl
  | _ :: _, _ :: _, ⟨_, r⟩ => congrArg (· + 1) (Pns.len r)
  | [], _ :: _, h => h.elim
  | _ :: _, [], h => h.elim
theorem Pns.snoc {CP a : Addr} {R : Hp} {w h d c : Nat} {f : List (List Int)} (x : Pn CP R w h d c a f) : ∀ {xs : List V} {S : List (List (List Int))}, Pns CP R w h d c xs S → Pns CP R w h d c (xs ++ [.ref a]) (S ++ [f])
  | [], [], _ => ⟨⟨a, rfl, x⟩, trivial⟩
  | _ :: _, _ :: _, ⟨e, r⟩ => ⟨e, Pns.snoc x r⟩
  | [], _ :: _, h => h.elim
  | _ :: _, [], h => h.elim
theorem Pns.drop {CP : Addr} {R : Hp} {w h d c : Nat} : ∀ {n : Nat} {xs : List V} {S : List (List (List Int))}, Pns CP R w h d c xs S → Pns CP R w h d c (xs.drop n) (S.drop n)
  | 0, _, _, h => h
  | _ + 1, [], [], _ => trivial
  | n + 1, _ :: _, _ :: _, ⟨_, r⟩ => Pns.drop (n := n) r
  | _ + 1, [], _ :: _, h => h.elim
  | _ + 1, _ :: _, [], h => h.elim
theorem Pns.last {CP : Addr} {R : Hp} {w h d c : Nat} {f : List (List Int)} : ∀ {S : List (List (List Int))} {xs : List V}, Pns CP R w h d c xs (S ++ [f]) → ∃ ys a, xs = ys ++ [.ref a] ∧ Pn CP R w h d c a f ∧ Pns CP R w h d c ys S
  | [], [v], ⟨⟨a, e, h⟩, _⟩ => ⟨[], a, by rw [e]; rfl, h, trivial⟩
  | [], [], h => h.elim
  | [], _ :: _ :: _, ⟨_, h⟩ => h.elim
  | _ :: _, [], h => h.elim
  | _ :: S, v :: xs, ⟨e, r⟩ => by
    obtain ⟨ys, a, e1, e2, e3⟩ := Pns.last (S := S) r
    exact ⟨v :: ys, a, by rw [e1]; rfl, e2, e, e3⟩

theorem scx_OutOfRange : Sx.SupScope ["self", "name"] ["self", "name"] (defScope s_OutOfRange___init__) := ⟨rfl, rfl, rfl, by decide +kernel, rfl, by decide +kernel, by decide +kernel, by decide +kernel, rfl, rfl⟩
theorem ok_OutOfRange___init__ (T : Tx P K mg) : FnOk P w K mg base CX0 1 T.x_OutOfRange.a T.x_OutOfRange.d ["self", "name"] (Sx.sp1 T.x_OutOfRange.C "name") := by
  refine Sx.fn_sup (k := 0) T.x_OutOfRange.o T.x_OutOfRange.s scx_OutOfRange (fun vs H Q E h => ?_) rfl rfl rfl rfl (fun _ => rfl) (fun _ => ⟨_, rfl⟩) (fun _ => rfl) (fun cda cc A outer s H vs Q E h => ?_)
  · obtain ⟨a, z, rfl, _⟩ := h; rfl
  obtain ⟨a, z, rfl, hz, ha, q⟩ := h
  have hs : sizeLine = 16777216 := sizeLine_eq
  refine ⟨_, _, a, [.str z], pa_cons (pe_joined (PJ.cons (pe_fmt (pv 1)) (PJ.cons pe_str PJ.nil))) pa_nil, pss_one (ps_ost (pv 0) (pv 1)), rfl, ha, ?_⟩
  have l1 : ∀ x y : Str, (x ++ y).length = x.length + y.length := fun x y => Str.length_append x y
  refine ⟨.str z, rfl, .inl ⟨z, rfl, by omega, z, rfl, by rw [l1]; show 0 + _ ≤ _; omega, _, rfl, by rw [l1, l1]; show 0 + _ + 16 ≤ _; omega, by show 1 ≤ 1000; decide, ha, ?_⟩⟩
  exact ⟨.str z, rfl, .ref a, rfl, a, _, rfl, T.x_OutOfRange.o, T.nf_OutOfRange_name, .inl ⟨ha, fun dx hd hne => q dx hd hne⟩⟩

set_option hygiene false
local macro_rules | `(tactic| walk_at "go1") => `(tactic| (first
  | refine Gx.fp (by assumption) T.cl_Picture T.na_Picture_width lk_Picture_width ?_
  | refine Gx.fp (by assumption) T.cl_Picture T.na_Picture_height lk_Picture_height ?_
  | refine Gx.fp (by assumption) T.cl_Picture T.na_Picture_depth lk_Picture_depth ?_
  | refine Gx.fp (by assumption) T.cl_Picture T.na_Picture_channels lk_Picture_channels ?_
  | refine Gx.fp (by assumption) T.cl_Picture T.na_Picture__rows lk_Picture__rows ?_
  | refine Gx.fp (by assumption) T.cl_Frame T.na_Frame_width lk_Frame_width ?_
  | refine Gx.fp (by assumption) T.cl_Frame T.na_Frame_height lk_Frame_height ?_
  | refine Gx.fp (by assumption) T.cl_Frame T.na_Frame_depth lk_Frame_depth ?_
  | refine Gx.fp (by assumption) T.cl_Frame T.na_Frame_channels lk_Frame_channels ?_
  | refine Gx.fp (by assumption) T.cl_Frame T.na_Frame_tile lk_Frame_tile ?_
  | refine Gx.fp (by assumption) T.cl_Source T.na_Source_frame lk_Source_frame ?_
  | refine Gx.fp (by assumption) T.cl_Source T.na_Source__picture lk_Source__picture ?_
  | refine Gx.fp (by assumption) T.cl_Source T.na_Source__saved lk_Source__saved ?_))
set_option hygiene true
noncomputable def sp_Picture_rows (C : Addr) : Sp := fun vs H Q _ => ∃ (x r : Addr) (w h d c : Nat) (f : Nat → List Int), vs = [.ref x] ∧ Pic C H x r w h d c f ∧ c ≤ 3 ∧ ∀ p H', H p = none → Same H H' → Pq.LN H H' p c f → Q (.ref p) H'

theorem sc_Picture_rows : FnScope ["self", "row"] ["self"] (defScope s_Picture_rows) := ⟨rfl, rfl, rfl, by decide +kernel, rfl, by decide +kernel, by decide +kernel⟩
theorem ok_Picture_rows (T : Tx P K mg) : FnOk P w K mg base CX0 1 T.Picture_rows.a T.Picture_rows.d ["self"] (sp_Picture_rows T.a_Picture) := by
  refine T.Picture_rows.f.ok sc_Picture_rows (fun vs H Q E h => ?_) (fun cdv A outer s H vs Q E hr h => ⟨_, pss_one (ps_ret (pe_lc (own := [("row", 1)]) (g := (gName 1)) (tt := tYes) rfl sc_Picture_rows.nd (pi_list (pe_fld (pv 0) rfl)) (blkOk_by (own := [("row", 1)]) (N := ["self", "row"]) (sc := defScope s_Picture_rows) (by decide +kernel)) (fun _ _ _ _ _ => (pg_name (i := 1) sc_Picture_rows.nd rfl (Or.inl rfl))) (fun _ _ _ _ _ => pts_nil) (fun _ _ _ _ _ => pe_callTy (Gx.c_listK (K := K) rfl) rfl T.n_list (by decide +kernel) (pa_cons (pv 1) pa_nil)))), ?_⟩)
  · obtain ⟨x, r, w, h, d, c, f, rfl, _⟩ := h
    rfl
  · skip
    obtain ⟨x, r, w, h, d, c, f, rfl, ⟨⟨dx, hx⟩, ll⟩, hc, q⟩ := h
    obtain ⟨xs, hv, hl, hall⟩ := ll.all
    walk_at "go"
    refine Gx.lp (SqL.of hv) ?_
    refine Pq.lcLN (K := K) walk_list (by omega) f (fun _ s => s.seq (SqL.of hv)) Gx.sameAt ?_ ?_
    · rintro i y H3 H3' R R0 hi s3 ⟨rfl, hy⟩ hr
      obtain ⟨b, rfl, hb⟩ := hall i y hy
      have hb := s3 _ _ hb
      walk_at "go"
      refine Gx.listL (SqL.of hb) fun p hp => ?_
      exact hr p _ hp (Gx.same_new hp) upd_same
    rw [hl]
    exact q

theorem cpn_Picture_rows {C x r : Addr} {w h d c : Nat} {f : Nat → List Int} {H : Hp} {Q : VK} {E : XK} (p : Pic C H x r w h d c f) (hc : c ≤ 3) (q : ∀ p H', H p = none → Same H H' → Pq.LN H H' p c f → Q (.ref p) H') : Gx.CP (sp_Picture_rows C) [.ref x] [] H Q E := ⟨x, r, w, h, d, c, f, rfl, p, hc, q⟩
theorem cp_Picture_rows {C x r : Addr} {w h d c : Nat} {f : Nat → List Int} {H : Hp} {Q : VK} {E : XK} (p : Pic C H x r w h d c f) (hc : c ≤ 3) (q : ∀ p H', H p = none → Same H H' → Gx.LL H' p c f → Q (.ref p) H') : Gx.CP (sp_Picture_rows C) [.ref x] [] H Q E := cpn_Picture_rows p hc fun p H' n s l => q p H' n s l.ll

noncomputable def sp_law_same_rows (K : PySem.W.Frag) (C : Addr) : Sp := fun vs H Q _ => ∃ (y r s v : Addr) (w h d c t : Nat) (f rs : List (List Int)), vs = [.ref y, .ref s, .ref v] ∧ Pic C H y r w h d c (fun i => f.getD i []) ∧ Rg.Dim w h d c t ∧ f.length = c ∧ H s = some (.lst [.int (w : Int), .int (h : Int), .int (d : Int), .int (c : Int), .int (t : Int)]) ∧ Pq.RW H v rs ∧ ∀ H', Same H H' → Q (.bl (decide (f = rs))) H'

theorem sc_law_same_rows : FnScope ["picture", "shape", "rows"] ["picture", "shape", "rows"] (defScope s_law_same_rows) := ⟨rfl, rfl, rfl, by decide +kernel, rfl, by decide +kernel, by decide +kernel⟩
theorem ok_law_same_rows (T : Tx P K mg) : FnOk P w K mg base CX0 2 T.law_same_rows.a T.law_same_rows.d ["picture", "shape", "rows"] (sp_law_same_rows K T.a_Picture) := by
  refine T.law_same_rows.f.ok sc_law_same_rows (fun vs H Q E h => ?_) (fun cdv A outer s H vs Q E hr h => ⟨_, pss_cons (ps_if (PW.pt (pw_or (pt_not (pt_val (pe_callB (Gx.c_isiK (K := K) rfl) rfl T.n_isinstance (by decide +kernel) (pa_cons (pv 0) (pa_cons (pe_glob (v := .ref T.a_Picture) rfl T.g_Picture rfl) pa_nil))))) (pw_or (pt_cmpR op_ne (pe_fld (pv 0) rfl) (pe_ix (Gx.ix_seqK (K := K) rfl) (pv 1) (pe_int) (fun _ _ => rfl)) (nomark _)) (pw_or1 (pt_cmpR op_ne (pe_fld (pv 0) rfl) (pe_ix (Gx.ix_seqK (K := K) rfl) (pv 1) (pe_int) (fun _ _ => rfl)) (nomark _)))))) (pss_one (ps_ret (pe_bl))) (pss_nil))
      (pss_cons (ps_if (PW.pt (pw_or (pt_cmpR op_ne (pe_fld (pv 0) rfl) (pe_ix (Gx.ix_seqK (K := K) rfl) (pv 1) (pe_int) (fun _ _ => rfl)) (nomark _)) (pw_or1 (pt_cmpR op_ne (pe_fld (pv 0) rfl) (pe_ix (Gx.ix_seqK (K := K) rfl) (pv 1) (pe_int) (fun _ _ => rfl)) (nomark _))))) (pss_one (ps_ret (pe_bl))) (pss_nil))
      (pss_one (ps_ret (pe_cmpR (op_eqD hr.units) (pe_meth0 (pv 0) T.cl_Picture T.Picture_rows.m (ok_Picture_rows T) (hr.mono (by decide)) T.Picture_rows.b .nil pass0) (pv 2) (nomark _))))), ?_⟩)
  · obtain ⟨y, r, s, v, w, h, d, c, t, f, rs, rfl, _⟩ := h
    rfl
  · skip
    obtain ⟨y, r, s', v, w, h, d, c, t, f, rs, rfl, P, D, hfl, hS, hv, q⟩ := h
    obtain ⟨a1, a2, a3, a4, a5, a6, a7, a8, a9, a10⟩ := id D
    obtain ⟨⟨dx, hy⟩, hrs⟩ := id P
    walk_at "run"
    refine Nx.isiOs T.io_Picture T.cl_Picture hy ?_
    walk_at "run"
    refine Gx.if_dn (fun e => absurd rfl e) (fun _ => ?_)
    walk_at "run"
    refine Gx.if_dn (fun e => absurd rfl e) (fun _ => ?_)
    walk_at "run"
    refine Gx.if_dn (fun e => absurd rfl e) (fun _ => ?_)
    walk_at "run"
    refine Gx.if_dn (fun e => absurd rfl e) (fun _ => ?_)
    walk_at "run"
    refine Gx.mp hy no_Picture_rows ?_
    walk_at "run"
    refine cp_Picture_rows P (by omega) fun p H1 n1 s1 hLL => ?_
    have hp : Pq.RW H1 p f := by unfold Pq.RW; rw [hfl]; exact hLL
    walk_at "run"
    refine Pq.eqRW hp (hv.keep s1) ?_
    exact q _ s1

theorem cp_law_same_rows {K : PySem.W.Frag} {C y r s v : Addr} {w h d c t : Nat} {f rs : List (List Int)} {H : Hp} {Q : VK} {E : XK} (P : Pic C H y r w h d c (fun i => f.getD i [])) (D : Rg.Dim w h d c t) (hf : f.length = c) (hS : H s = some (.lst [.int (w : Int), .int (h : Int), .int (d : Int), .int (c : Int), .int (t : Int)])) (hv : Pq.RW H v rs) (q : ∀ H', Same H H' → Q (.bl (decide (f = rs))) H') : Gx.CP (sp_law_same_rows K C) [.ref y, .ref s, .ref v] [] H Q E := ⟨y, r, s, v, w, h, d, c, t, f, rs, rfl, P, D, hf, hS, hv, q⟩

noncomputable def sp_Source_shown (CV : Addr) : Sp := fun vs H Q _ => ∃ (v dv : Addr) (f y sl : V), vs = [.ref v] ∧ H v = some (.ins CV dv (fl_Source f y sl)) ∧ Q y H

theorem sc_Source_shown : FnScope ["self"] ["self"] (defScope s_Source_shown) := ⟨rfl, rfl, rfl, by decide +kernel, rfl, by decide +kernel, by decide +kernel⟩
theorem ok_Source_shown (T : Tx P K mg) : FnOk P w K mg base CX0 1 T.Source_shown.a T.Source_shown.d ["self"] (sp_Source_shown T.a_Source) := by
  refine T.Source_shown.f.ok sc_Source_shown (fun vs H Q E h => ?_) (fun cdv A outer s H vs Q E hr h => ⟨_, pss_one (ps_ret (pe_fld (pv 0) rfl)), ?_⟩)
  · obtain ⟨v, dv, f, y, sl, rfl, _⟩ := h
    rfl
  · skip
    obtain ⟨v, dv, f, y, sl, rfl, hv, q⟩ := h
    walk_at "run"
    exact q

theorem cp_Source_shown {CV v dv : Addr} {f y sl : V} {H : Hp} {Q : VK} {E : XK} (hv : H v = some (.ins CV dv (fl_Source f y sl))) (q : Q y H) : Gx.CP (sp_Source_shown CV) [.ref v] [] H Q E := ⟨v, dv, f, y, sl, rfl, hv, q⟩

noncomputable def sp_with_saved : Sp := fun vs H Q _ => ∃ (p : Addr) (x : V) (xs : List V), vs = [.ref p, x] ∧ H p = some (.lst xs) ∧ xs.length ≤ 1000 ∧ ∀ q H', H q = none → Same H H' → H' q = some (.lst ((xs ++ [x]).drop (xs.length + 1 - 16))) → Q (.ref q) H'

theorem sc_with_saved : FnScope ["saved", "state", "rows"] ["saved", "state"] (defScope s_with_saved) := ⟨rfl, rfl, rfl, by decide +kernel, rfl, by decide +kernel, by decide +kernel⟩
theorem ok_with_saved (T : Tx P K mg) : FnOk P w K mg base CX0 1 T.with_saved.a T.with_saved.d ["saved", "state"] (sp_with_saved) := by
  refine T.with_saved.f.ok sc_with_saved (fun vs H Q E h => ?_) (fun cdv A outer s H vs Q E hr h => ⟨_, pss_cons (ps_set (i := 2) sc_with_saved.nd rfl (Or.inl rfl) (pe_op op_cat (pv 0) (pe_lst (pa_cons (pv 1) pa_nil))))
      (pss_one (ps_ret (pe_slice (Gx.sl_listK (K := K) rfl) (pv 2) (po_some (pe_un un_neg (pe_glob (v := .int 16) rfl T.c_UNDO_MOST ⟨_, rfl⟩))) po_none))), ?_⟩)
  · obtain ⟨p, x, xs, rfl, _⟩ := h
    rfl
  · skip
    obtain ⟨p, x, xs, rfl, hp, hl, q⟩ := h
    walk_at "run"
    refine Nx.lst0 (by show 1 ≤ sizeLine; decide) fun p1 H1 n1 s1 h1 => ?_
    walk_at "run"
    refine Nx.cat0 (s1 _ _ hp) h1 (by rw [sizeLine_eq]; show _ + 1 ≤ _; omega) fun p2 H2 n2 s2 h2 => ?_
    walk_at "run"
    refine Nx.slL0 (SqL.of h2) fun p3 H3 n3 s3 h3 => ?_
    have e := Vm.cut_back (xs ++ [x])
    rw [List.length_append] at e
    have h3 : H3 p3 = some (.lst ((xs ++ [x]).drop (xs.length + 1 - 16))) := by rw [h3]; exact congrArg (fun z => some (HO.lst z)) e
    exact q p3 H3 ((s1.trans s2).free n3) (s1.trans (s2.trans s3)) h3

theorem cp_with_saved {p : Addr} {x : V} {xs : List V} {H : Hp} {Q : VK} {E : XK} (hp : H p = some (.lst xs)) (hl : xs.length ≤ 1000) (q : ∀ q H', H q = none → Same H H' → H' q = some (.lst ((xs ++ [x]).drop (xs.length + 1 - 16))) → Q (.ref q) H') : Gx.CP sp_with_saved [.ref p, x] [] H Q E := ⟨p, x, xs, rfl, hp, hl, q⟩

noncomputable def sp_Frame_across (C : Addr) : Sp := fun vs H Q _ => ∃ (x : Addr) (w h d c t : Nat), vs = [.ref x] ∧ Frm C H x w h d c t ∧ 1 ≤ t ∧ t ≤ 16 ∧ Q (.int (Gd.ac w t : Nat)) H

theorem sc_Frame_across : FnScope ["self"] ["self"] (defScope s_Frame_across) := ⟨rfl, rfl, rfl, by decide +kernel, rfl, by decide +kernel, by decide +kernel⟩
theorem ok_Frame_across (T : Tx P K mg) : FnOk P w K mg base CX0 1 T.Frame_across.a T.Frame_across.d ["self"] (sp_Frame_across T.a_Frame) := by
  refine T.Frame_across.f.ok sc_Frame_across (fun vs H Q E h => ?_) (fun cdv A outer s H vs Q E hr h => ⟨_, pss_one (ps_ret (pe_op op_fdiv (pe_op op_sub (pe_op op_add (pe_fld (pv 0) rfl) (pe_fld (pv 0) rfl)) (pe_int)) (pe_fld (pv 0) rfl))), ?_⟩)
  · obtain ⟨x, w, h, d, c, t, rfl, _⟩ := h
    rfl
  · skip
    obtain ⟨x, w, h, d, c, t, rfl, ⟨dx, hx⟩, ht1, ht2, q⟩ := h
    walk_at "go"
    refine Gx.ic ⟨by omega, by omega⟩ ?_
    rw [Gd.ac_int (by omega)]
    exact q

theorem cp_Frame_across {C x : Addr} {w h d c t : Nat} {H : Hp} {Q : VK} {E : XK} (f : Frm C H x w h d c t) (h1 : 1 ≤ t) (h2 : t ≤ 16) (q : Q (.int (Gd.ac w t : Nat)) H) : Gx.CP (sp_Frame_across C) [.ref x] [] H Q E := ⟨x, w, h, d, c, t, rfl, f, h1, h2, q⟩

noncomputable def sp_tile_corner (C : Addr) : Sp := fun vs H Q _ => ∃ (x : Addr) (w h d c t k : Nat), vs = [.ref x, .int (k : Int)] ∧ Frm C H x w h d c t ∧ 1 ≤ t ∧ t ≤ 16 ∧ 1 ≤ w ∧ w ≤ 64 ∧ k ≤ 100000 ∧ ∀ p, H p = none → Q (.ref p) (upd H p (.tup [.int (k % Gd.ac w t * t : Nat), .int (k / Gd.ac w t * t : Nat)]))

theorem sc_tile_corner : FnScope ["frame", "tile", "across"] ["frame", "tile"] (defScope s_tile_corner) := ⟨rfl, rfl, rfl, by decide +kernel, rfl, by decide +kernel, by decide +kernel⟩
theorem ok_tile_corner (T : Tx P K mg) : FnOk P w K mg base CX0 2 T.tile_corner.a T.tile_corner.d ["frame", "tile"] (sp_tile_corner T.a_Frame) := by
  refine T.tile_corner.f.ok sc_tile_corner (fun vs H Q E h => ?_) (fun cdv A outer s H vs Q E hr h => ⟨_, pss_cons (ps_set (i := 2) sc_tile_corner.nd rfl (Or.inl rfl) (pe_meth0 (pv 0) T.cl_Frame T.Frame_across.m (ok_Frame_across T) (hr.mono (by decide)) T.Frame_across.b .nil pass0))
      (pss_one (ps_ret (pe_tup (pa_cons (pe_op op_mul (pe_op op_mod (pv 1) (pv 2)) (pe_fld (pv 0) rfl)) (pa_cons (pe_op op_mul (pe_op op_fdiv (pv 1) (pv 2)) (pe_fld (pv 0) rfl)) pa_nil))))), ?_⟩)
  · obtain ⟨x, w, h, d, c, t, k, rfl, _⟩ := h
    rfl
  · skip
    obtain ⟨x, w, h, d, c, t, k, rfl, ⟨dx, hx⟩, ht1, ht2, hw1, hw, hk, q⟩ := h
    have l1 := Gd.ac_le (n := w) (t := t) (by omega)
    have l2 := Gd.ac_pos (n := w) (t := t) (by omega) (by omega)
    walk_at "go"
    refine Gx.mp hx no_Frame_across ?_
    walk_at "go"
    refine cp_Frame_across ⟨dx, hx⟩ ht1 ht2 ?_
    walk_at "go"
    refine Gx.ic (by omega) ?_
    walk_at "go"
    refine Gx.ic (.inr (by omega)) ?_
    walk_at "go"
    refine Gx.ic ⟨by omega, by omega⟩ ?_
    walk_at "go"
    refine Gx.ic (.inr (by omega)) ?_
    walk_at "go"
    rw [← Int.natCast_emod, ← Int.natCast_ediv, ← Int.natCast_mul, ← Int.natCast_mul]
    exact Gx.tupP (by show 2 ≤ sizeLine; decide) q

theorem cp_tile_corner {C x : Addr} {w h d c t k : Nat} {H : Hp} {Q : VK} {E : XK} (f : Frm C H x w h d c t) (h1 : 1 ≤ t) (h2 : t ≤ 16) (hw1 : 1 ≤ w) (hw : w ≤ 64) (hk : k ≤ 100000) (q : ∀ p, H p = none → Q (.ref p) (upd H p (.tup [.int (k % Gd.ac w t * t : Nat), .int (k / Gd.ac w t * t : Nat)]))) :
    Gx.CP (sp_tile_corner C) [.ref x, .int (k : Int)] [] H Q E := ⟨x, w, h, d, c, t, k, rfl, f, h1, h2, hw1, hw, hk, q⟩
noncomputable def sp_tile_size (C : Addr) : Sp := fun vs H Q _ => ∃ (x : Addr) (w h d c t k : Nat), vs = [.ref x, .int (k : Int)] ∧ Frm C H x w h d c t ∧ 1 ≤ t ∧ t ≤ 16 ∧ 1 ≤ w ∧ w ≤ 64 ∧ 1 ≤ h ∧ h ≤ 64 ∧ k < Gd.ac w t * Gd.ac h t ∧
  ∀ p H', H p = none → Same H H' → H' p = some (.tup [.int (Gd.sd w t (k % Gd.ac w t) : Nat), .int (Gd.sd h t (k / Gd.ac w t) : Nat)]) → Q (.ref p) H'

theorem sc_tile_size : FnScope ["frame", "tile", "left", "top"] ["frame", "tile"] (defScope s_tile_size) := ⟨rfl, rfl, rfl, by decide +kernel, rfl, by decide +kernel, by decide +kernel⟩
theorem ok_tile_size (T : Tx P K mg) : FnOk P w K mg base CX0 3 T.tile_size.a T.tile_size.d ["frame", "tile"] (sp_tile_size T.a_Frame) := by
  refine T.tile_size.f.ok sc_tile_size (fun vs H Q E h => ?_) (fun cdv A outer s H vs Q E hr h => ⟨_, pss_cons (ps_asg (pe_call (ok_tile_corner T) (hr.mono (by decide)) rfl T.tile_corner.g T.tile_corner.f.kp T.tile_corner.b .nil pass0 (pa_cons (pv 0) (pa_cons (pv 1) pa_nil))) (pg_tup rfl (pgs_cons (pg_name (i := 2) sc_tile_size.nd rfl (Or.inl rfl)) (pgs_cons (pg_name (i := 3) sc_tile_size.nd rfl (Or.inl rfl)) pgs_nil))))
      (pss_one (ps_ret (pe_tup (pa_cons (pe_callB (Gx.c_min2 rfl) rfl T.n_min (by decide +kernel) (pa_cons (pe_fld (pv 0) rfl) (pa_cons (pe_op op_sub (pe_fld (pv 0) rfl) (pv 2)) pa_nil))) (pa_cons (pe_callB (Gx.c_min2 rfl) rfl T.n_min (by decide +kernel) (pa_cons (pe_fld (pv 0) rfl) (pa_cons (pe_op op_sub (pe_fld (pv 0) rfl) (pv 3)) pa_nil))) pa_nil))))), ?_⟩)
  · obtain ⟨x, w, h, d, c, t, k, rfl, _⟩ := h
    rfl
  · skip
    obtain ⟨x, w, h, d, c, t, k, rfl, ⟨dx, hx⟩, ht1, ht2, hw1, hw, hh1, hh, hk, q⟩ := h
    have l1 := Gd.ac_le (n := w) (t := t) (by omega)
    have l2 := Gd.ac_pos (n := w) (t := t) (by omega) (by omega)
    have l3 := Gd.ac_le (n := h) (t := t) (by omega)
    have l4 : Gd.ac w t * Gd.ac h t ≤ 64 * 64 := Nat.mul_le_mul (by omega) (by omega)
    have m1 : k % Gd.ac w t < Gd.ac w t := Nat.mod_lt _ l2
    have m2 : k / Gd.ac w t < Gd.ac h t := Nat.div_lt_of_lt_mul hk
    walk_at "go"
    refine cp_tile_corner ⟨dx, hx⟩ ht1 ht2 hw1 hw (by omega) fun p hp => ?_
    refine Gx.gtup (SqT.of upd_same) rfl ?_
    have hx := Gx.same_new (o := .tup [.int (k % Gd.ac w t * t : Nat), .int (k / Gd.ac w t * t : Nat)]) hp _ _ hx
    walk_at "go"
    refine Gx.min2 ?_
    walk_at "go"
    refine Gx.min2 ?_
    walk_at "go"
    rw [Gd.sd_int (by omega) m1, Gd.sd_int (by omega) m2]
    refine Gx.tupP (by show 2 ≤ sizeLine; decide) fun p2 hp2 => ?_
    exact q p2 _ (((Gx.same_new hp).free hp2)) ((Gx.same_new hp).trans (Gx.same_new hp2)) upd_same

theorem cp_tile_size {C x : Addr} {w h d c t k : Nat} {H : Hp} {Q : VK} {E : XK} (f : Frm C H x w h d c t) (h1 : 1 ≤ t) (h2 : t ≤ 16) (hw1 : 1 ≤ w) (hw : w ≤ 64) (hh1 : 1 ≤ h) (hh : h ≤ 64) (hk : k < Gd.ac w t * Gd.ac h t)
    (q : ∀ p H', H p = none → Same H H' → H' p = some (.tup [.int (Gd.sd w t (k % Gd.ac w t) : Nat), .int (Gd.sd h t (k / Gd.ac w t) : Nat)]) → Q (.ref p) H') :
    Gx.CP (sp_tile_size C) [.ref x, .int (k : Int)] [] H Q E := ⟨x, w, h, d, c, t, k, rfl, f, h1, h2, hw1, hw, hh1, hh, hk, q⟩

/-- the pixels of a tile, row by row -/
noncomputable def sp_tile_pixels (C : Addr) : Sp := fun vs H Q _ => ∃ (x : Addr) (w h d c t k : Nat), vs = [.ref x, .int (k : Int)] ∧ Frm C H x w h d c t ∧ 1 ≤ t ∧ t ≤ 16 ∧ 1 ≤ w ∧ w ≤ 64 ∧ 1 ≤ h ∧ h ≤ 64 ∧ k < Gd.ac w t * Gd.ac h t ∧
  ∀ p H', H p = none → Same H H' → H' p = some (.lst (Gx.made (Gd.sd w t (k % Gd.ac w t)) (fun i j => .int (((k / Gd.ac w t * t + i) * w + (k % Gd.ac w t * t + j) : Nat) : Int)) (Gd.sd h t (k / Gd.ac w t)))) → Q (.ref p) H'

theorem sc_tile_pixels : FnScope ["frame", "tile", "left", "top", "width", "height", "row", "column"] ["frame", "tile"] (defScope s_tile_pixels) := ⟨rfl, rfl, rfl, by decide +kernel, rfl, by decide +kernel, by decide +kernel⟩
theorem ok_tile_pixels (T : Tx P K mg) : FnOk P w K mg base CX0 4 T.tile_pixels.a T.tile_pixels.d ["frame", "tile"] (sp_tile_pixels T.a_Frame) := by
  refine T.tile_pixels.f.ok sc_tile_pixels (fun vs H Q E h => ?_) (fun cdv A outer s H vs Q E hr h => ⟨_, pss_cons (ps_asg (pe_call (ok_tile_corner T) (hr.mono (by decide)) rfl T.tile_corner.g T.tile_corner.f.kp T.tile_corner.b .nil pass0 (pa_cons (pv 0) (pa_cons (pv 1) pa_nil))) (pg_tup rfl (pgs_cons (pg_name (i := 2) sc_tile_pixels.nd rfl (Or.inr rfl)) (pgs_cons (pg_name (i := 3) sc_tile_pixels.nd rfl (Or.inl rfl)) pgs_nil))))
      (pss_cons (ps_asg (pe_call (ok_tile_size T) (hr.mono (by decide)) rfl T.tile_size.g T.tile_size.f.kp T.tile_size.b .nil pass0 (pa_cons (pv 0) (pa_cons (pv 1) pa_nil))) (pg_tup rfl (pgs_cons (pg_name (i := 4) sc_tile_pixels.nd rfl (Or.inr rfl)) (pgs_cons (pg_name (i := 5) sc_tile_pixels.nd rfl (Or.inl rfl)) pgs_nil))))
      (pss_one (ps_ret (pe_lc2 (own := [("row", 6), ("column", 7)]) (vs1 := [7]) (g := (gName 6)) (g1 := (gName 7)) (tt := tYes) (tt1 := tYes) rfl sc_tile_pixels.nd (pi_range2 rfl T.n_range (pa_cons (pv 3) (pa_cons (pe_op op_add (pv 3) (pv 5)) pa_nil))) (blkOk_by (own := [("row", 6), ("column", 7)]) (N := ["frame", "tile", "left", "top", "width", "height", "row", "column"]) (sc := defScope s_tile_pixels) (by decide +kernel)) (by decide) (fun _ _ _ _ _ => (pg_name (i := 6) sc_tile_pixels.nd rfl (Or.inl rfl))) (fun _ _ _ _ _ => pts_nil) (fun _ _ _ _ _ => pi_range2 rfl T.n_range (pa_cons (pv 2) (pa_cons (pe_op op_add (pv 2) (pv 4)) pa_nil))) (fun _ _ _ _ _ => (pg_name (i := 7) sc_tile_pixels.nd rfl (Or.inl rfl))) (fun _ _ _ _ _ => pts_nil) (fun _ _ _ _ _ => pe_op op_add (pe_op op_mul (pv 6) (Gx.pe_fldK (K := K) rfl (pv 0) rfl)) (pv 7)))))), ?_⟩)
  · obtain ⟨x, w, h, d, c, t, k, rfl, _⟩ := h
    rfl
  · skip
    obtain ⟨x, w, h, d, c, t, k, rfl, fr, ht1, ht2, hw1, hw, hh1, hh, hk, q⟩ := h
    have l1 := Gd.ac_le (n := w) (t := t) (by omega)
    have l2 := Gd.ac_pos (n := w) (t := t) (by omega) (by omega)
    have l3 := Gd.ac_le (n := h) (t := t) (by omega)
    have l4 : Gd.ac w t * Gd.ac h t ≤ 64 * 64 := Nat.mul_le_mul (by omega) (by omega)
    have m1 : k % Gd.ac w t < Gd.ac w t := Nat.mod_lt _ l2
    have m2 : k / Gd.ac w t < Gd.ac h t := Nat.div_lt_of_lt_mul hk
    have b1 := Gd.ac_mul (n := w) (t := t) (by omega) m1
    have b2 := Gd.ac_mul (n := h) (t := t) (by omega) m2
    have sw : Gd.sd w t (k % Gd.ac w t) ≤ 16 := by unfold Gd.sd; omega
    have sh : Gd.sd h t (k / Gd.ac w t) ≤ 16 := by unfold Gd.sd; omega
    walk_at "go"
    refine cp_tile_corner fr ht1 ht2 hw1 hw (by omega) fun p1 hp1 => ?_
    refine Gx.gtup (SqT.of upd_same) rfl ?_
    have s1 := Gx.same_new (o := .tup [.int (k % Gd.ac w t * t : Nat), .int (k / Gd.ac w t * t : Nat)]) hp1
    have fr1 := fr.keep s1
    walk_at "go"
    refine cp_tile_size fr1 ht1 ht2 hw1 hw hh1 hh hk fun p2 H2 hp2 s2 h2 => ?_
    refine Gx.gtup (SqT.of h2) rfl ?_
    have s12 := s1.trans s2
    generalize k % Gd.ac w t * t = X0 at *
    generalize k / Gd.ac w t * t = Y0 at *
    generalize Gd.sd w t (k % Gd.ac w t) = W0 at *
    generalize Gd.sd h t (k / Gd.ac w t) = H0 at *
    walk_at "go"
    refine Gx.r2 ⟨by omega, by omega, by omega, by omega⟩ ?_
    rw [show ((Y0 : Int) + (H0 : Int) - (Y0 : Int)).toNat = H0 by omega]
    refine Gx.lc2O walk_range (fun D i H' => H D = none ∧ Same H H' ∧ H' D = some (.lst (Gx.made W0 (fun i j => .int (((Y0 + i) * w + (X0 + j) : Nat) : Int)) i)))
      (fun D hD => ⟨s12.free hD, Gx.same_up (s12.free hD) s12, upd_same⟩) (fun _ _ _ _ _ => trivial) ?_ (fun D H' hD hp => q D H' hp.1 hp.2.1 hp.2.2)
    rintro D i v H3 H3' hi ⟨hD, s3, h3⟩ ⟨rfl, hv⟩
    have hv2 : v = .int ((Y0 + i : Nat) : Int) := hv.trans (congrArg V.int (by omega))
    subst hv2

    walk_at "go"
    refine Gx.r2 ⟨by omega, by omega, by omega, by omega⟩ ?_
    rw [show ((X0 : Int) + (W0 : Int) - (X0 : Int)).toNat = W0 by omega]
    refine Gx.lc2I walk_range (fun j H' => (∀ a, a ≠ D → H' a = H3' a) ∧ H' D = some (.lst (Gx.made W0 (fun i j => .int (((Y0 + i) * w + (X0 + j) : Nat) : Int)) i ++ (List.range j).map fun j => .int (((Y0 + i) * w + (X0 + j) : Nat) : Int))))
      ⟨fun _ _ => rfl, by rw [h3]; simp⟩ (fun _ _ _ _ => trivial) ?_ ?_
    · rintro j v H4 H4' hj ⟨k4, h4⟩ ⟨rfl, hv⟩
      have hv2 : v = .int ((X0 + j : Nat) : Int) := hv.trans (congrArg V.int (by omega))
      subst hv2
      obtain ⟨dx, hx⟩ := fr.keep s3
      have xD : x ≠ D := ne_of hx h3 (by intro z; cases z)
      have hx := (k4 x xD).trans hx
      walk_at "go"
      refine Gx.ic (.inr (by omega)) ?_
      walk_at "go"
      refine ⟨_, h4, ?_, fun a ha => by rw [upd_ne ha]; exact k4 a ha, ?_⟩
      · rw [List.length_append, Gx.made_len, List.length_map, List.length_range, sizeLine_eq]
        have : i * W0 ≤ 16 * 16 := Nat.mul_le_mul (by omega) sw
        omega
      · rw [upd_same, List.range_succ, List.map_append, List.append_assoc, ← Int.natCast_mul, ← Int.natCast_add]; rfl
    · rintro H4 ⟨k4, h4⟩
      refine ⟨hD, fun a o e => ?_, by rw [h4, Gx.made_succ]⟩
      by_cases ha : a = D
      · subst ha; rw [hD] at e; cases e
      · rw [k4 a ha]; exact s3 a o e

theorem cp_tile_pixels {C x : Addr} {w h d c t k : Nat} {H : Hp} {Q : VK} {E : XK} (f : Frm C H x w h d c t) (h1 : 1 ≤ t) (h2 : t ≤ 16) (hw1 : 1 ≤ w) (hw : w ≤ 64) (hh1 : 1 ≤ h) (hh : h ≤ 64) (hk : k < Gd.ac w t * Gd.ac h t)
    (q : ∀ p H', H p = none → Same H H' → H' p = some (.lst (Gx.made (Gd.sd w t (k % Gd.ac w t)) (fun i j => .int (((k / Gd.ac w t * t + i) * w + (k % Gd.ac w t * t + j) : Nat) : Int)) (Gd.sd h t (k / Gd.ac w t)))) → Q (.ref p) H') :
    Gx.CP (sp_tile_pixels C) [.ref x, .int (k : Int)] [] H Q E := ⟨x, w, h, d, c, t, k, rfl, f, h1, h2, hw1, hw, hh1, hh, hk, q⟩

noncomputable def sp_gray_bit : Sp := fun vs H Q _ => ∃ (v p : Nat), vs = [.int (v : Int), .int (p : Int)] ∧ Q (.int (Gy.gb v p : Nat)) H

theorem sc_gray_bit : FnScope ["value", "plane"] ["value", "plane"] (defScope s_gray_bit) := ⟨rfl, rfl, rfl, by decide +kernel, rfl, by decide +kernel, by decide +kernel⟩
theorem ok_gray_bit (T : Tx P K mg) : FnOk P w K mg base CX0 1 T.gray_bit.a T.gray_bit.d ["value", "plane"] (sp_gray_bit) := by
  refine T.gray_bit.f.ok sc_gray_bit (fun vs H Q E h => ?_) (fun cdv A outer s H vs Q E hr h => ⟨_, pss_one (ps_ret (pe_op op_and (pe_op op_xor (pe_op op_shr (pv 0) (pv 1)) (pe_op op_shr (pv 0) (pe_op op_add (pv 1) (pe_int)))) (pe_int))), ?_⟩)
  · obtain ⟨v, p, rfl, _⟩ := h
    rfl
  · skip
    obtain ⟨v, p, rfl, q⟩ := h
    walk_at "go"
    refine Gx.ic (by walk_at "side") ?_
    walk_at "go"
    refine Gx.ic (by walk_at "side") ?_
    walk_at "go"
    rw [show (Builtin.bitAnd (Builtin.bitXor ((v : Int) / 2 ^ (p : Int).toNat) ((v : Int) / 2 ^ ((p : Int) + 1).toNat)) 1) = ((Gy.gb v p : Nat) : Int) from Gy.gb_int v p]
    exact q

theorem cp_gray_bit {a b : Int} {H : Hp} {Q : VK} {E : XK} (h0 : 0 ≤ a) (h1 : 0 ≤ b) (q : Q (.int (Gy.gb a.toNat b.toNat : Nat)) H) : Gx.CP sp_gray_bit [.int a, .int b] [] H Q E :=
  ⟨a.toNat, b.toNat, by rw [List.append_nil, Int.toNat_of_nonneg h0, Int.toNat_of_nonneg h1], q⟩

noncomputable def sp_Picture_value (C : Addr) : Sp := fun vs H Q _ => ∃ (x r : Addr) (w h d c j k : Nat) (f : Nat → List Int), vs = [.ref x, .int (j : Int), .int (k : Int)] ∧ Pic C H x r w h d c f ∧ j < c ∧ k < (f j).length ∧ Q (.int ((f j).getD k 0)) H

theorem sc_Picture_value : FnScope ["self", "channel", "pixel"] ["self", "channel", "pixel"] (defScope s_Picture_value) := ⟨rfl, rfl, rfl, by decide +kernel, rfl, by decide +kernel, by decide +kernel⟩
theorem ok_Picture_value (T : Tx P K mg) : FnOk P w K mg base CX0 1 T.Picture_value.a T.Picture_value.d ["self", "channel", "pixel"] (sp_Picture_value T.a_Picture) := by
  refine T.Picture_value.f.ok sc_Picture_value (fun vs H Q E h => ?_) (fun cdv A outer s H vs Q E hr h => ⟨_, pss_one (ps_ret (pe_ix (Gx.ix_seqK (K := K) rfl) (pe_ix (Gx.ix_seqK (K := K) rfl) (pe_fld (pv 0) rfl) (pv 1) (fun _ _ => rfl)) (pv 2) (fun _ _ => rfl))), ?_⟩)
  · obtain ⟨x, r, w, h, d, c, j, k, f, rfl, _⟩ := h
    rfl
  · skip
    obtain ⟨x, r, w, h, d, c, j, k, f, rfl, ⟨⟨dx, hx⟩, ll⟩, hj, hk, q⟩ := h
    obtain ⟨xs, b, h1, h2, h3⟩ := ll.get hj
    walk_at "go"
    refine Gx.ixL (SqL.of h1) h2 ?_
    walk_at "go"
    refine Gx.ixL (SqL.of h3) (Gx.at_map hk) ?_
    exact q

theorem cp_Picture_value {C x r : Addr} {w h d c j k : Nat} {f : Nat → List Int} {H : Hp} {Q : VK} {E : XK} (p : Pic C H x r w h d c f) (hj : j < c) (hk : k < (f j).length) (q : Q (.int ((f j).getD k 0)) H) : Gx.CP (sp_Picture_value C) [.ref x, .int (j : Int), .int (k : Int)] [] H Q E := ⟨x, r, w, h, d, c, j, k, f, rfl, p, hj, hk, q⟩

noncomputable def sp_stored_bit (C : Addr) : Sp := fun vs H Q _ => ∃ (x r : Addr) (w h d c j k p : Nat) (f : Nat → List Int), vs = [.ref x, .int (j : Int), .int (k : Int), .int (p : Int)] ∧ Pic C H x r w h d c f ∧ (c = 1 ∨ c = 3) ∧ j < c ∧ (∀ i, i < c → k < (f i).length ∧ ∀ z ∈ f i, 0 ≤ z) ∧ Q (.int (Gd.sb f c j k p : Nat)) H

theorem sc_stored_bit : FnScope ["picture", "channel", "pixel", "plane", "middle", "other"] ["picture", "channel", "pixel", "plane"] (defScope s_stored_bit) := ⟨rfl, rfl, rfl, by decide +kernel, rfl, by decide +kernel, by decide +kernel⟩
theorem ok_stored_bit (T : Tx P K mg) : FnOk P w K mg base CX0 2 T.stored_bit.a T.stored_bit.d ["picture", "channel", "pixel", "plane"] (sp_stored_bit T.a_Picture) := by
  refine T.stored_bit.f.ok sc_stored_bit (fun vs H Q E h => ?_) (fun cdv A outer s H vs Q E hr h => ⟨_, pss_cons (ps_if (pt_cmpR op_eq (pe_fld (pv 0) rfl) (pe_int) (nomark _)) (pss_one (ps_ret (pe_call (ok_gray_bit T) (hr.mono (by decide)) rfl T.gray_bit.g T.gray_bit.f.kp T.gray_bit.b .nil pass0 (pa_cons (pe_meth (pv 0) T.cl_Picture T.Picture_value.m (ok_Picture_value T) (hr.mono (by decide)) T.Picture_value.b .nil pass0 (pa_cons (pe_int) (pa_cons (pv 2) pa_nil))) (pa_cons (pv 3) pa_nil))))) (pss_nil))
      (pss_cons (ps_set (i := 4) sc_stored_bit.nd rfl (Or.inl rfl) (pe_call (ok_gray_bit T) (hr.mono (by decide)) rfl T.gray_bit.g T.gray_bit.f.kp T.gray_bit.b .nil pass0 (pa_cons (pe_meth (pv 0) T.cl_Picture T.Picture_value.m (ok_Picture_value T) (hr.mono (by decide)) T.Picture_value.b .nil pass0 (pa_cons (pe_int) (pa_cons (pv 2) pa_nil))) (pa_cons (pv 3) pa_nil))))
      (pss_cons (ps_if (pt_cmpR op_eq (pv 1) (pe_int) (nomark _)) (pss_one (ps_ret (pv 4))) (pss_nil))
      (pss_cons (ps_set (i := 5) sc_stored_bit.nd rfl (Or.inl rfl) (pe_ifExp (pt_cmpR op_eq (pv 1) (pe_int) (nomark _)) (pe_int) (pe_int)))
      (pss_one (ps_ret (pe_op op_xor (pv 4) (pe_call (ok_gray_bit T) (hr.mono (by decide)) rfl T.gray_bit.g T.gray_bit.f.kp T.gray_bit.b .nil pass0 (pa_cons (pe_meth (pv 0) T.cl_Picture T.Picture_value.m (ok_Picture_value T) (hr.mono (by decide)) T.Picture_value.b .nil pass0 (pa_cons (pv 5) (pa_cons (pv 2) pa_nil))) (pa_cons (pv 3) pa_nil))))))))), ?_⟩)
  · obtain ⟨x, r, w, h, d, c, j, k, p, f, rfl, _⟩ := h
    rfl
  · skip
    obtain ⟨x, r, w, h, d, c, j, k, p, f, rfl, pc, hc, hj, hf, q⟩ := h
    obtain ⟨dx, hx⟩ := pc.ob
    walk_at "go"
    refine Gx.if_d (fun e => ?_) (fun e => ?_)
    · have e1 : c = 1 := by omega
      walk_at "go"
      refine Gx.mp hx no_Picture_value ?_
      walk_at "go"
      refine cp_Picture_value (j := 0) pc (by omega) (hf 0 (by omega)).1 ?_
      walk_at "go"
      rw [Gd.vl_int (hf 0 (by omega)).1 (hf 0 (by omega)).2]
      refine cp_gray_bit (by omega) (by omega) ?_
      rw [Int.toNat_natCast, Int.toNat_natCast]
      unfold Gd.sb at q
      rw [if_pos e1] at q
      exact q
    have e3 : c = 3 := by omega
    have ne1 : ¬ c = 1 := by omega
    unfold Gd.sb at q
    rw [if_neg ne1] at q
    walk_at "go"
    refine Gx.mp hx no_Picture_value ?_
    walk_at "go"
    refine cp_Picture_value (j := 1) pc (by omega) (hf 1 (by omega)).1 ?_
    walk_at "go"
    rw [Gd.vl_int (hf 1 (by omega)).1 (hf 1 (by omega)).2]
    refine cp_gray_bit (by omega) (by omega) ?_
    rw [Int.toNat_natCast, Int.toNat_natCast]
    walk_at "go"
    refine Gx.if_d (fun e => ?_) (fun e => ?_)
    · walk_at "go"
      rw [if_pos (by omega)] at q
      exact q
    rw [if_neg (by omega)] at q
    walk_at "go"
    refine Gx.if_d (fun e1 => ?_) (fun e1 => ?_)
    · walk_at "go"
      refine Gx.mp hx no_Picture_value ?_
      walk_at "go"
      refine cp_Picture_value (j := 0) pc (by omega) (hf 0 (by omega)).1 ?_
      walk_at "go"
      rw [Gd.vl_int (hf 0 (by omega)).1 (hf 0 (by omega)).2]
      refine cp_gray_bit (by omega) (by omega) ?_
      rw [Int.toNat_natCast, Int.toNat_natCast]
      refine Gx.i0 ?_
      rw [Gd.xr_int (Gy.gb_le _ _) (Gy.gb_le _ _)]
      rw [if_pos (show j = 1 by omega)] at q
      exact q
    · walk_at "go"
      refine Gx.mp hx no_Picture_value ?_
      walk_at "go"
      refine cp_Picture_value (j := 2) pc (by omega) (hf 2 (by omega)).1 ?_
      walk_at "go"
      rw [Gd.vl_int (hf 2 (by omega)).1 (hf 2 (by omega)).2]
      refine cp_gray_bit (by omega) (by omega) ?_
      rw [Int.toNat_natCast, Int.toNat_natCast]
      refine Gx.i0 ?_
      rw [Gd.xr_int (Gy.gb_le _ _) (Gy.gb_le _ _)]
      rw [if_neg (show ¬ j = 1 by omega)] at q
      exact q

theorem cp_stored_bit {C x r : Addr} {w h d c j k p : Nat} {f : Nat → List Int} {H : Hp} {Q : VK} {E : XK} (pc : Pic C H x r w h d c f) (hc : c = 1 ∨ c = 3) (hj : j < c) (hf : ∀ i, i < c → k < (f i).length ∧ ∀ z ∈ f i, 0 ≤ z) (q : Q (.int (Gd.sb f c j k p : Nat)) H) :
    Gx.CP (sp_stored_bit C) [.ref x, .int (j : Int), .int (k : Int), .int (p : Int)] [] H Q E := ⟨x, r, w, h, d, c, j, k, p, f, rfl, pc, hc, hj, hf, q⟩

/-- a number against its bounds -/
noncomputable def sp_check_range (C : Addr) : Sp := fun vs H Q E => ∃ (z : Str) (v l m : Int), vs = [.str z, .int v, .int l, .int m] ∧ z.length ≤ 1000 ∧ (l ≤ v → v ≤ m → Q .non H) ∧ (¬ (l ≤ v ∧ v ≤ m) → Sx.Err C H z E)

theorem sc_check_range : FnScope ["name", "value", "least", "most"] ["name", "value", "least", "most"] (defScope s_check_range) := ⟨rfl, rfl, rfl, by decide +kernel, rfl, by decide +kernel, by decide +kernel⟩
theorem ok_check_range (T : Tx P K mg) : FnOk P w K mg base (L2.CX P w) 3 T.check_range.a T.check_range.d ["name", "value", "least", "most"] (sp_check_range T.x_OutOfRange.C) := by
  refine T.check_range.f.okX sc_check_range (fun vs H Q E h => ?_) (fun cdv A outer s H vs Q E hr h => ⟨_, pss_one (ps_if (PW.pt (pw_or (pt_cmpR op_lt (pv 1) (pv 2) (nomark _)) (pw_or1 (pt_cmpR op_gt (pv 1) (pv 3) (nomark _))))) (pss_one (ps_raise rfl (takes_of rfl rfl rfl rfl) (pmk_oex T.x_OutOfRange.o T.x_OutOfRange.i T.x_OutOfRange.t (ok_OutOfRange___init__ T) (hr.mono (by decide)) T.x_OutOfRange.b .nil pass0 rfl T.x_OutOfRange.g (pa_cons (pv 0) pa_nil)))) (pss_nil)), ?_⟩)
  · obtain ⟨z, v, l, m, rfl, _⟩ := h
    rfl
  · skip
    obtain ⟨z, v, l, m, rfl, hz, q, qe⟩ := h
    walk_at "go"
    refine Gx.if_d (fun h => ?_) (fun h => ?_)
    · walk_at "go"
      exact Sx.mkO hz (qe (by omega)).now fun R h => by walk_at "go"; exact h
    walk_at "go"
    refine Gx.if_d (fun h2 => ?_) (fun h2 => ?_)
    · walk_at "go"
      exact Sx.mkO hz (qe (by omega)).now fun R h => by walk_at "go"; exact h
    walk_at "go"
    exact q (by omega) (by omega)

theorem cs_check_range {C : Addr} {z : Str} {v l m : Int} {H : Hp} {Q : VK} {E : XK} (q : l ≤ v → v ≤ m → Q .non H) (qe : ¬ (l ≤ v ∧ v ≤ m) → Sx.Err C H z E) (hz : z.length ≤ 1000 := by decide) : Sx.CS (sp_check_range C) [.str z, .int v, .int l, .int m] H Q E := ⟨z, v, l, m, rfl, hz, q, qe⟩
noncomputable def sp_Frame_down (C : Addr) : Sp := fun vs H Q _ => ∃ (x : Addr) (w h d c t : Nat), vs = [.ref x] ∧ Frm C H x w h d c t ∧ 1 ≤ t ∧ t ≤ 16 ∧ Q (.int (Gd.ac h t : Nat)) H

theorem sc_Frame_down : FnScope ["self"] ["self"] (defScope s_Frame_down) := ⟨rfl, rfl, rfl, by decide +kernel, rfl, by decide +kernel, by decide +kernel⟩
theorem ok_Frame_down (T : Tx P K mg) : FnOk P w K mg base CX0 1 T.Frame_down.a T.Frame_down.d ["self"] (sp_Frame_down T.a_Frame) := by
  refine T.Frame_down.f.ok sc_Frame_down (fun vs H Q E h => ?_) (fun cdv A outer s H vs Q E hr h => ⟨_, pss_one (ps_ret (pe_op op_fdiv (pe_op op_sub (pe_op op_add (pe_fld (pv 0) rfl) (pe_fld (pv 0) rfl)) (pe_int)) (pe_fld (pv 0) rfl))), ?_⟩)
  · obtain ⟨x, w, h, d, c, t, rfl, _⟩ := h
    rfl
  · skip
    obtain ⟨x, w, h, d, c, t, rfl, ⟨dx, hx⟩, ht1, ht2, q⟩ := h
    walk_at "go"
    refine Gx.ic ⟨by omega, by omega⟩ ?_
    rw [Gd.ac_int (by omega)]
    exact q

theorem cp_Frame_down {C x : Addr} {w h d c t : Nat} {H : Hp} {Q : VK} {E : XK} (f : Frm C H x w h d c t) (h1 : 1 ≤ t) (h2 : t ≤ 16) (q : Q (.int (Gd.ac h t : Nat)) H) : Gx.CP (sp_Frame_down C) [.ref x] [] H Q E := ⟨x, w, h, d, c, t, rfl, f, h1, h2, q⟩

noncomputable def sp_Frame_tiles (C : Addr) : Sp := fun vs H Q _ => ∃ (x : Addr) (w h d c t : Nat), vs = [.ref x] ∧ Frm C H x w h d c t ∧ 1 ≤ t ∧ t ≤ 16 ∧ w ≤ 64 ∧ h ≤ 64 ∧ Q (.int (Gd.ac w t * Gd.ac h t : Nat)) H

theorem sc_Frame_tiles : FnScope ["self"] ["self"] (defScope s_Frame_tiles) := ⟨rfl, rfl, rfl, by decide +kernel, rfl, by decide +kernel, by decide +kernel⟩
theorem ok_Frame_tiles (T : Tx P K mg) : FnOk P w K mg base CX0 2 T.Frame_tiles.a T.Frame_tiles.d ["self"] (sp_Frame_tiles T.a_Frame) := by
  refine T.Frame_tiles.f.ok sc_Frame_tiles (fun vs H Q E h => ?_) (fun cdv A outer s H vs Q E hr h => ⟨_, pss_one (ps_ret (pe_op op_mul (pe_meth0 (pv 0) T.cl_Frame T.Frame_across.m (ok_Frame_across T) (hr.mono (by decide)) T.Frame_across.b .nil pass0) (pe_meth0 (pv 0) T.cl_Frame T.Frame_down.m (ok_Frame_down T) (hr.mono (by decide)) T.Frame_down.b .nil pass0))), ?_⟩)
  · obtain ⟨x, w, h, d, c, t, rfl, _⟩ := h
    rfl
  · skip
    obtain ⟨x, w, h, d, c, t, rfl, ⟨dx, hx⟩, ht1, ht2, hw, hh, q⟩ := h
    have l1 := Gd.ac_le (n := w) (t := t) (by omega)
    walk_at "go"
    refine Gx.mp hx no_Frame_across ?_
    walk_at "go"
    refine cp_Frame_across ⟨dx, hx⟩ ht1 ht2 ?_
    walk_at "go"
    refine Gx.mp hx no_Frame_down ?_
    walk_at "go"
    refine cp_Frame_down ⟨dx, hx⟩ ht1 ht2 ?_
    refine Gx.ic (.inl (by omega)) ?_
    rw [← Int.natCast_mul]
    exact q

theorem cp_Frame_tiles {C x : Addr} {w h d c t : Nat} {H : Hp} {Q : VK} {E : XK} (f : Frm C H x w h d c t) (h1 : 1 ≤ t) (h2 : t ≤ 16) (hw : w ≤ 64) (hh : h ≤ 64) (q : Q (.int (Gd.ac w t * Gd.ac h t : Nat)) H) : Gx.CP (sp_Frame_tiles C) [.ref x] [] H Q E := ⟨x, w, h, d, c, t, rfl, f, h1, h2, hw, hh, q⟩

noncomputable def sp_check_key (CE C : Addr) : Sp := fun vs H Q E => ∃ (x p : Addr) (w h d c t : Nat) (ch ti pl : Int), vs = [.ref x, .ref p] ∧ Frm C H x w h d c t ∧ 1 ≤ t ∧ t ≤ 16 ∧ w ≤ 64 ∧ h ≤ 64 ∧ H p = some (.tup [.int ch, .int ti, .int pl]) ∧
  (Sx.keyBad c (Gd.ac w t * Gd.ac h t) d ch ti pl = none → Q .non H) ∧ (∀ z, Sx.keyBad c (Gd.ac w t * Gd.ac h t) d ch ti pl = some z → Sx.Err CE H z E)

theorem sc_check_key : FnScope ["frame", "key", "channel", "tile", "plane"] ["frame", "key"] (defScope s_check_key) := ⟨rfl, rfl, rfl, by decide +kernel, rfl, by decide +kernel, by decide +kernel⟩
theorem ok_check_key (T : Tx P K mg) : FnOk P w K mg base (L2.CX P w) 4 T.check_key.a T.check_key.d ["frame", "key"] (sp_check_key T.x_OutOfRange.C T.a_Frame) := by
  refine T.check_key.f.okX sc_check_key (fun vs H Q E h => ?_) (fun cdv A outer s H vs Q E hr h => ⟨_, pss_cons (ps_asg (pv 1) (pg_tup rfl (pgs_cons (pg_name (i := 2) sc_check_key.nd rfl (Or.inl rfl)) (pgs_cons (pg_name (i := 3) sc_check_key.nd rfl (Or.inl rfl)) (pgs_cons (pg_name (i := 4) sc_check_key.nd rfl (Or.inl rfl)) pgs_nil)))))
      (pss_cons (ps_expr (pe_callS (ok_check_range T) (hr.mono (by decide)) rfl T.check_range.g T.check_range.f.kp T.check_range.b (fun σ => passAt (takes_of rfl rfl rfl rfl) σ) (pa_cons (pe_str) (pa_cons (pv 2) (pa_cons (pe_int) (pa_cons (pe_op op_sub (pe_fld (pv 0) rfl) (pe_int)) pa_nil))))))
      (pss_cons (ps_expr (pe_callS (ok_check_range T) (hr.mono (by decide)) rfl T.check_range.g T.check_range.f.kp T.check_range.b (fun σ => passAt (takes_of rfl rfl rfl rfl) σ) (pa_cons (pe_str) (pa_cons (pv 3) (pa_cons (pe_int) (pa_cons (pe_op op_sub (pe_meth0 (pv 0) T.cl_Frame T.Frame_tiles.m (ok_Frame_tiles T) (hr.mono (by decide)) T.Frame_tiles.b .nil pass0) (pe_int)) pa_nil))))))
      (pss_one (ps_expr (pe_callS (ok_check_range T) (hr.mono (by decide)) rfl T.check_range.g T.check_range.f.kp T.check_range.b (fun σ => passAt (takes_of rfl rfl rfl rfl) σ) (pa_cons (pe_str) (pa_cons (pv 4) (pa_cons (pe_int) (pa_cons (pe_op op_sub (pe_fld (pv 0) rfl) (pe_int)) pa_nil))))))))), ?_⟩)
  · obtain ⟨x, p, w, h, d, c, t, ch, ti, pl, rfl, _⟩ := h
    rfl
  · skip
    obtain ⟨x, p, w, h, d, c, t, ch, ti, pl, rfl, fr, ht1, ht2, hw, hh, hp, q, qe⟩ := h
    unfold Sx.keyBad at q qe
    obtain ⟨dx, hx⟩ := id fr
    walk_at "go"
    refine Gx.gtup (SqT.of hp) rfl ?_
    walk_at "go"
    refine cs_check_range (fun a1 a2 => ?_) (fun a => qe _ (if_pos a))
    rw [if_neg (not_not_intro ⟨a1, a2⟩)] at q qe
    walk_at "go"
    refine Gx.mp hx no_Frame_tiles ?_
    walk_at "go"
    refine cp_Frame_tiles fr ht1 ht2 hw hh ?_
    walk_at "go"
    refine cs_check_range (fun b1 b2 => ?_) (fun a => qe _ (if_pos a))
    rw [if_neg (not_not_intro ⟨b1, b2⟩)] at q qe
    walk_at "go"
    refine cs_check_range (fun c1 c2 => ?_) (fun a => qe _ (if_pos a))
    rw [if_neg (not_not_intro ⟨c1, c2⟩)] at q
    walk_at "go"
    exact q rfl

theorem cs_check_key {CE C x p : Addr} {w h d c t : Nat} {ch ti pl : Int} {H : Hp} {Q : VK} {E : XK} (f : Frm C H x w h d c t) (h1 : 1 ≤ t) (h2 : t ≤ 16) (hw : w ≤ 64) (hh : h ≤ 64) (hp : H p = some (.tup [.int ch, .int ti, .int pl]))
    (q : Sx.keyBad c (Gd.ac w t * Gd.ac h t) d ch ti pl = none → Q .non H) (qe : ∀ z, Sx.keyBad c (Gd.ac w t * Gd.ac h t) d ch ti pl = some z → Sx.Err CE H z E) : Sx.CS (sp_check_key CE C) [.ref x, .ref p] H Q E := ⟨x, p, w, h, d, c, t, ch, ti, pl, rfl, f, h1, h2, hw, hh, hp, q, qe⟩

noncomputable def sp_same_kind (K : PySem.W.Frag) : Sp := fun vs H Q _ => ∃ (x y : Addr) (w h d c w' h' d' c' : Int), vs = [.ref x, .ref y] ∧ Nx.K4 K H x (.int w) (.int h) (.int d) (.int c) ∧ Nx.K4 K H y (.int w') (.int h') (.int d') (.int c') ∧ Q (.bl (decide (w = w' ∧ h = h' ∧ d = d' ∧ c = c'))) H

theorem sc_same_kind : FnScope ["one", "other"] ["one", "other"] (defScope s_same_kind) := ⟨rfl, rfl, rfl, by decide +kernel, rfl, by decide +kernel, by decide +kernel⟩
theorem ok_same_kind (T : Tx P K mg) : FnOk P w K mg base CX0 1 T.same_kind.a T.same_kind.d ["one", "other"] (sp_same_kind K) := by
  refine T.same_kind.f.ok sc_same_kind (fun vs H Q E h => ?_) (fun cdv A outer s H vs Q E hr h => ⟨_, pss_one (ps_ret (pe_and (pe_cmpR op_eq (pe_fld (pv 0) rfl) (pe_fld (pv 1) rfl) (nomark _)) (pe_and (pe_cmpR op_eq (pe_fld (pv 0) rfl) (pe_fld (pv 1) rfl) (nomark _)) (pe_and (pe_cmpR op_eq (pe_fld (pv 0) rfl) (pe_fld (pv 1) rfl) (nomark _)) (pe_one (pe_cmpR op_eq (pe_fld (pv 0) rfl) (pe_fld (pv 1) rfl) (nomark _))))))), ?_⟩)
  · obtain ⟨x, y, w, h, d, c, w', h', d', c', rfl, _⟩ := h
    rfl
  · skip
    obtain ⟨x, y, w, h, d, c, w', h', d', c', rfl, ⟨C, dx, fs, hx, cl, ⟨n1, n2, n3, n4⟩, l1, l2, l3, l4⟩, ⟨C', dy, gs, hy, cl', ⟨m1, m2, m3, m4⟩, g1, g2, g3, g4⟩, q⟩ := h
    walk_at "run"
    refine Gx.fp hx cl n1 l1 ?_
    walk_at "run"
    refine Gx.fp hy cl' m1 g1 ?_
    walk_at "run"
    refine Gx.if_b (fun e1 => ?_) (fun e1 => ?_)
    rotate_left
    · have e1 := of_decide_eq_false e1
      rw [decide_eq_false (fun k => e1 k.1)] at q
      walk_at "run"
      exact q
    have e1 := of_decide_eq_true e1
    walk_at "run"
    refine Gx.fp hx cl n2 l2 ?_
    walk_at "run"
    refine Gx.fp hy cl' m2 g2 ?_
    walk_at "run"
    refine Gx.if_b (fun e2 => ?_) (fun e2 => ?_)
    rotate_left
    · have e2 := of_decide_eq_false e2
      rw [decide_eq_false (fun k => e2 k.2.1)] at q
      walk_at "run"
      exact q
    have e2 := of_decide_eq_true e2
    walk_at "run"
    refine Gx.fp hx cl n3 l3 ?_
    walk_at "run"
    refine Gx.fp hy cl' m3 g3 ?_
    walk_at "run"
    refine Gx.if_b (fun e3 => ?_) (fun e3 => ?_)
    rotate_left
    · have e3 := of_decide_eq_false e3
      rw [decide_eq_false (fun k => e3 k.2.2.1)] at q
      walk_at "run"
      exact q
    have e3 := of_decide_eq_true e3
    walk_at "run"
    refine Gx.fp hx cl n4 l4 ?_
    walk_at "run"
    refine Gx.fp hy cl' m4 g4 ?_
    walk_at "run"
    rw [show decide (w = w' ∧ h = h' ∧ d = d' ∧ c = c') = decide (c = c') from decide_eq_decide.mpr ⟨fun k => k.2.2.2, fun k => ⟨e1, e2, e3, k⟩⟩] at q
    exact q

theorem cp_same_kind {K : PySem.W.Frag} {x y : Addr} {w h d c w' h' d' c' : Int} {H : Hp} {Q : VK} {E : XK} (hx : Nx.K4 K H x (.int w) (.int h) (.int d) (.int c)) (hy : Nx.K4 K H y (.int w') (.int h') (.int d') (.int c')) (q : Q (.bl (decide (w = w' ∧ h = h' ∧ d = d' ∧ c = c'))) H) : Gx.CP (sp_same_kind K) [.ref x, .ref y] [] H Q E := ⟨x, y, w, h, d, c, w', h', d', c', rfl, hx, hy, q⟩

noncomputable def sp_fits_frame (K : PySem.W.Frag) : Sp := fun vs H Q _ => ∃ (x y : Addr) (w h d c w' h' d' c' : Int), vs = [.ref x, .ref y] ∧ Nx.K4 K H x (.int w) (.int h) (.int d) (.int c) ∧ Nx.K4 K H y (.int w') (.int h') (.int d') (.int c') ∧ Q (.bl (decide (w = w' ∧ h = h' ∧ d = d' ∧ c = c'))) H

theorem sc_fits_frame : FnScope ["frame", "picture"] ["frame", "picture"] (defScope s_fits_frame) := ⟨rfl, rfl, rfl, by decide +kernel, rfl, by decide +kernel, by decide +kernel⟩
theorem ok_fits_frame (T : Tx P K mg) : FnOk P w K mg base CX0 2 T.fits_frame.a T.fits_frame.d ["frame", "picture"] (sp_fits_frame K) := by
  refine T.fits_frame.f.ok sc_fits_frame (fun vs H Q E h => ?_) (fun cdv A outer s H vs Q E hr h => ⟨_, pss_one (ps_ret (pe_call (ok_same_kind T) (hr.mono (by decide)) rfl T.same_kind.g T.same_kind.f.kp T.same_kind.b .nil pass0 (pa_cons (pv 0) (pa_cons (pv 1) pa_nil)))), ?_⟩)
  · obtain ⟨x, y, w, h, d, c, w', h', d', c', rfl, _⟩ := h
    rfl
  · skip
    obtain ⟨x, y, w, h, d, c, w', h', d', c', rfl, hx, hy, q⟩ := h
    walk_at "run"
    exact cp_same_kind hx hy q

theorem cp_fits_frame {K : PySem.W.Frag} {x y : Addr} {w h d c w' h' d' c' : Int} {H : Hp} {Q : VK} {E : XK} (hx : Nx.K4 K H x (.int w) (.int h) (.int d) (.int c)) (hy : Nx.K4 K H y (.int w') (.int h') (.int d') (.int c')) (q : Q (.bl (decide (w = w' ∧ h = h' ∧ d = d' ∧ c = c'))) H) : Gx.CP (sp_fits_frame K) [.ref x, .ref y] [] H Q E := ⟨x, y, w, h, d, c, w', h', d', c', rfl, hx, hy, q⟩

noncomputable def sp_check_fits (K : PySem.W.Frag) (CO : Addr) : Sp := fun vs H Q E => ∃ (x y : Addr) (w h d c w' h' d' c' : Int), vs = [.ref x, .ref y] ∧ Nx.K4 K H x (.int w) (.int h) (.int d) (.int c) ∧ Nx.K4 K H y (.int w') (.int h') (.int d') (.int c') ∧ ((w = w' ∧ h = h' ∧ d = d' ∧ c = c') → Q .non H) ∧ (¬ (w = w' ∧ h = h' ∧ d = d' ∧ c = c') → Sx.ErrB CO H E)

theorem sc_check_fits : FnScope ["frame", "picture"] ["frame", "picture"] (defScope s_check_fits) := ⟨rfl, rfl, rfl, by decide +kernel, rfl, by decide +kernel, by decide +kernel⟩
theorem ok_check_fits (T : Tx P K mg) : FnOk P w K mg base (L2.CX P w) 3 T.check_fits.a T.check_fits.d ["frame", "picture"] (sp_check_fits K T.y_OtherKind.C) := by
  refine T.check_fits.f.okX sc_check_fits (fun vs H Q E h => ?_) (fun cdv A outer s H vs Q E hr h => ⟨_, pss_one (ps_if (pt_not (pt_val (pe_call (ok_fits_frame T) (hr.mono (by decide)) rfl T.fits_frame.g T.fits_frame.f.kp T.fits_frame.b .nil pass0 (pa_cons (pv 0) (pa_cons (pv 1) pa_nil))))) (pss_one (ps_raise rfl (takes_of rfl rfl rfl rfl) (pmk_own PySem.F.excBase_ValueError T.y_OtherKind.x T.y_OtherKind.g T.y_OtherKind.k (raises_own T.y_OtherKind.b T.y_OtherKind.t) rfl))) (pss_nil)), ?_⟩)
  · obtain ⟨x, y, w, h, d, c, w', h', d', c', rfl, _⟩ := h
    rfl
  · skip
    obtain ⟨x, y, w, h, d, c, w', h', d', c', rfl, hx, hy, q, qe⟩ := h
    walk_at "run"
    refine cp_fits_frame hx hy ?_
    walk_at "run"
    refine Gx.if_dn (fun e => ?_) (fun e => ?_)
    · walk_at "run"
      exact qe e H (Same.refl _)
    walk_at "run"
    exact q e

theorem cs_check_fits {K : PySem.W.Frag} {CO x y : Addr} {w h d c w' h' d' c' : Int} {H : Hp} {Q : VK} {E : XK} (hx : Nx.K4 K H x (.int w) (.int h) (.int d) (.int c)) (hy : Nx.K4 K H y (.int w') (.int h') (.int d') (.int c')) (q : (w = w' ∧ h = h' ∧ d = d' ∧ c = c') → Q .non H) (qe : ¬ (w = w' ∧ h = h' ∧ d = d' ∧ c = c') → Sx.ErrB CO H E) : Sx.CS (sp_check_fits K CO) [.ref x, .ref y] H Q E := ⟨x, y, w, h, d, c, w', h', d', c', rfl, hx, hy, q, qe⟩

noncomputable def sp_packet_bits (CE CO CF CP : Addr) : Sp := fun vs H Q E => ∃ (x y r p : Addr) (w h d c t w' h' d' c' : Nat) (f : List (List Int)) (ch ti pl : Int), vs = [.ref x, .ref y, .ref p] ∧ Frm CF H x w h d c t ∧ Rg.Dim w h d c t ∧ Pic CP H y r w' h' d' c' (fun i => f.getD i []) ∧ Pq.rowsOk (w' * h') d' c' f ∧ H p = some (.tup [.int ch, .int ti, .int pl]) ∧
  (¬ (w = w' ∧ h = h' ∧ d = d' ∧ c = c') → Sx.ErrB CO H E) ∧ ((w = w' ∧ h = h' ∧ d = d' ∧ c = c') → ∀ z, Sx.keyBad c (Gd.ac w t * Gd.ac h t) d ch ti pl = some z → Sx.Err CE H z E) ∧
  ((w = w' ∧ h = h' ∧ d = d' ∧ c = c') → Sx.keyBad c (Gd.ac w t * Gd.ac h t) d ch ti pl = none → ∀ H', Same H H' → Q (.str (Bs.S (Pb.pb w h t (fun i => f.getD i []) c ch.toNat ti.toNat pl.toNat))) H')
theorem keyBad_none {c n d : Nat} {ch ti pl : Int} (e : Sx.keyBad c n d ch ti pl = none) : (0 ≤ ch ∧ ch < c) ∧ (0 ≤ ti ∧ ti < n) ∧ (0 ≤ pl ∧ pl < d) := by
  unfold Sx.keyBad at e
  by_cases h1 : 0 ≤ ch ∧ ch ≤ (c : Int) - 1 <;> by_cases h2 : 0 ≤ ti ∧ ti ≤ (n : Int) - 1 <;> by_cases h3 : 0 ≤ pl ∧ pl ≤ (d : Int) - 1 <;> simp [h1, h2, h3] at e
  omega

theorem sc_packet_bits : FnScope ["frame", "picture", "key", "channel", "tile", "plane", "bits", "pixel", "bit"] ["frame", "picture", "key"] (defScope s_packet_bits) := ⟨rfl, rfl, rfl, by decide +kernel, rfl, by decide +kernel, by decide +kernel⟩
theorem ok_packet_bits (T : Tx P K mg) : FnOk P w K mg base (L2.CX P w) 5 T.packet_bits.a T.packet_bits.d ["frame", "picture", "key"] (sp_packet_bits T.x_OutOfRange.C T.y_OtherKind.C T.a_Frame T.a_Picture) := by
  refine T.packet_bits.f.okX sc_packet_bits (fun vs H Q E h => ?_) (fun cdv A outer s H vs Q E hr h => ⟨_, pss_cons (ps_expr (pe_callS (ok_check_fits T) (hr.mono (by decide)) rfl T.check_fits.g T.check_fits.f.kp T.check_fits.b (fun σ => passAt (takes_of rfl rfl rfl rfl) σ) (pa_cons (pv 0) (pa_cons (pv 1) pa_nil))))
      (pss_cons (ps_expr (pe_callS (ok_check_key T) (hr.mono (by decide)) rfl T.check_key.g T.check_key.f.kp T.check_key.b (fun σ => passAt (takes_of rfl rfl rfl rfl) σ) (pa_cons (pv 0) (pa_cons (pv 2) pa_nil))))
      (pss_cons (ps_asg (pv 2) (pg_tup rfl (pgs_cons (pg_name (i := 3) sc_packet_bits.nd rfl (Or.inr rfl)) (pgs_cons (pg_name (i := 4) sc_packet_bits.nd rfl (Or.inl rfl)) (pgs_cons (pg_name (i := 5) sc_packet_bits.nd rfl (Or.inr rfl)) pgs_nil)))))
      (pss_cons (ps_setLc (i := 6) (own := [("pixel", 7)]) (g := (gName 7)) (tt := tYes) rfl sc_packet_bits.nd rfl rfl (sw_true rfl rfl rfl (by decide +kernel)) (pi_list (pe_call (ok_tile_pixels T) (hr.mono (by decide)) rfl T.tile_pixels.g T.tile_pixels.f.kp T.tile_pixels.b .nil pass0 (pa_cons (pv 0) (pa_cons (pv 4) pa_nil)))) (blkOk_by (own := [("pixel", 7)]) (N := ["frame", "picture", "key", "channel", "tile", "plane", "bits", "pixel", "bit"]) (sc := defScope s_packet_bits) (by decide +kernel)) (fun _ _ _ _ _ => (pg_name (i := 7) sc_packet_bits.nd rfl (Or.inl rfl))) (fun _ _ _ _ _ => pts_nil) (fun _ _ _ _ _ => pe_call (ok_stored_bit T) (hr.mono (by decide)) rfl T.stored_bit.g T.stored_bit.f.kp T.stored_bit.b .nil pass0 (pa_cons (pv 1) (pa_cons (pv 3) (pa_cons (pv 7) (pa_cons (pv 5) pa_nil))))))
      (pss_one (ps_ret (pe_join (pe_str) (pe_lc (own := [("bit", 8)]) (g := (gName 8)) (tt := tYes) rfl sc_packet_bits.nd (pi_list (pv 6)) (blkOk_by (own := [("bit", 8)]) (N := ["frame", "picture", "key", "channel", "tile", "plane", "bits", "pixel", "bit"]) (sc := defScope s_packet_bits) (by decide +kernel)) (fun _ _ _ _ _ => (pg_name (i := 8) sc_packet_bits.nd rfl (Or.inl rfl))) (fun _ _ _ _ _ => pts_nil) (fun _ _ _ _ _ => pe_callTy Gx.c_strI rfl T.n_str (by decide +kernel) (pa_cons (pv 8) pa_nil))))))))), ?_⟩)
  · obtain ⟨x, y, r, p, w, h, d, c, t, w', h', d', c', f, ch, ti, pl, rfl, _⟩ := h
    rfl
  · skip
    obtain ⟨x, y, r, p, w, h, d, c, t, w', h', d', c', f, ch, ti, pl, rfl, fr, D, P1, hok, hp, q1, q2, q3⟩ := h
    obtain ⟨l1, l2, l3, l4, l5, l6, l7⟩ := D.ok
    obtain ⟨a1, a2, a3, a4, a5, a6, a7, a8, a9, a10⟩ := id D
    obtain ⟨dx, hx⟩ := id fr
    obtain ⟨⟨dy, hy⟩, lp⟩ := id P1
    walk_at "run"
    refine cs_check_fits (k4_Frame T hx) (k4_Picture T hy) (fun e => ?_) (fun e => q1 (by omega))
    have e' : w = w' ∧ h = h' ∧ d = d' ∧ c = c' := by omega
    replace q2 := q2 e'
    replace q3 := q3 e'
    obtain ⟨rfl, rfl, rfl, rfl⟩ := e'
    walk_at "run"
    refine cs_check_key fr a8 a9 a2 a4 hp (fun kb => ?_) q2
    obtain ⟨⟨b1, b2⟩, ⟨b3, b4⟩, b5, b6⟩ := keyBad_none kb
    replace q3 := q3 kb
    obtain ⟨ch, rfl⟩ : ∃ n : Nat, ch = n := ⟨ch.toNat, by omega⟩
    obtain ⟨ti, rfl⟩ : ∃ n : Nat, ti = n := ⟨ti.toNat, by omega⟩
    obtain ⟨pl, rfl⟩ : ∃ n : Nat, pl = n := ⟨pl.toNat, by omega⟩
    rw [Int.toNat_natCast, Int.toNat_natCast, Int.toNat_natCast] at q3
    have hti : ti < Gd.ac w t * Gd.ac h t := by omega
    have hbox := Pb.box_le (w := w) (h := h) (k := ti) (t := t) (by omega)
    walk_at "run"
    refine cp_tile_pixels fr a8 a9 a1 a2 a3 a4 hti fun p1 H1 n1 s1 h1 => ?_
    have tw := Gd.sd_pos (n := w) (t := t) (by omega) (Nat.mod_lt ti l3)
    rw [Gd.made_flat _ tw] at h1
    have h1 : H1 p1 = some (.lst ((List.range (Rg.tileBox w h t ti)).map fun m => V.int ((Gd.pix w t ti m : Nat) : Int))) := h1
    walk_at "run"
    refine Gx.lp (SqL.of h1) ?_
    refine Gx.lcMap (walk_list (xs := _)) (by rw [List.length_map, List.length_range]; omega) (fun m => .int ((Gd.sb (fun i => f.getD i []) c ch (Gd.pix w t ti m) pl : Nat) : Int)) (fun _ s => s.seq (SqL.of h1)) Gx.sameAt ?_ ?_
    · rintro m y' H3 H3' R R0 hm s3 ⟨rfl, hy'⟩ hr
      rw [List.length_map, List.length_range] at hm
      rw [List.getElem?_map, List.getElem?_range hm] at hy'
      have hy' := Option.some.inj hy'
      subst hy'
      have hm2 := Gd.pix_lt (show 0 < w by omega) (show 0 < t by omega) hti hm
      walk_at "run"
      refine cp_stored_bit ((P1.keep s1).keep s3) a7 (by omega) (Pb.rowHf hok hm2) ?_
      exact hr _ (Same.refl _)
    intro p2 H2 n2 s2 h2
    rw [List.length_map, List.length_range] at h2
    walk_at "run"
    refine Gx.lp (SqL.of h2) ?_
    refine Gx.lcMap (walk_list (xs := _)) (by rw [List.length_map, List.length_range]; omega) (fun m => .str (Bs.S [decide (Gd.sb (fun i => f.getD i []) c ch (Gd.pix w t ti m) pl = 1)])) (fun _ s => s.seq (SqL.of h2)) Gx.sameAt ?_ ?_
    · rintro m y' H3 H3' R R0 hm s3 ⟨rfl, hy'⟩ hr
      rw [List.length_map, List.length_range] at hm
      rw [List.getElem?_map, List.getElem?_range hm] at hy'
      have hy' := Option.some.inj hy'
      subst hy'
      walk_at "run"
      refine Pb.str01 (Pb.sb_le _ _ _ _ _) ?_
      exact hr _ (Same.refl _)
    intro p3 H3 n3 s3 h3
    rw [List.length_map, List.length_range] at h3
    walk_at "run"
    refine Pb.joinS (SqL.of h3) (by omega) ?_
    exact q3 _ (s1.trans (s2.trans s3))

theorem cp_packet_bits {CE CO CF CP x y r p : Addr} {w h d c t : Nat} {f : List (List Int)} {j k pl : Nat} {H : Hp} {Q : VK} {E : XK} (fr : Frm CF H x w h d c t) (D : Rg.Dim w h d c t) (P1 : Pic CP H y r w h d c (fun i => f.getD i [])) (ok : Pq.rowsOk (w * h) d c f) (hp : H p = some (.tup [.int (j : Int), .int (k : Int), .int (pl : Int)])) (hj : j < c) (hk : k < Gd.ac w t * Gd.ac h t) (hpl : pl < d)
  (q3 : ∀ H', Same H H' → Q (.str (Bs.S (Pb.pb w h t (fun i => f.getD i []) c j k pl))) H') : Gx.CP (sp_packet_bits CE CO CF CP) [.ref x, .ref y, .ref p] [] H Q E := ⟨x, y, r, p, w, h, d, c, t, w, h, d, c, f, j, k, pl, rfl, fr, D, P1, ok, hp, fun n => absurd ⟨rfl, rfl, rfl, rfl⟩ n, (fun _ z e => by
    exfalso
    unfold Sx.keyBad at e
    rw [if_neg (by omega), if_neg (by omega), if_neg (by omega)] at e
    cases e), fun _ _ => by rw [Int.toNat_natCast, Int.toNat_natCast, Int.toNat_natCast]; exact q3⟩

noncomputable def sp_Frame_packets (C : Addr) : Sp := fun vs H Q _ => ∃ (x : Addr) (w h d c t : Nat), vs = [.ref x] ∧ Frm C H x w h d c t ∧ 1 ≤ t ∧ t ≤ 16 ∧ w ≤ 64 ∧ h ≤ 64 ∧ d ≤ 8 ∧ c ≤ 3 ∧ Q (.int (d * c * (Gd.ac w t * Gd.ac h t) : Nat)) H

theorem sc_Frame_packets : FnScope ["self"] ["self"] (defScope s_Frame_packets) := ⟨rfl, rfl, rfl, by decide +kernel, rfl, by decide +kernel, by decide +kernel⟩
theorem ok_Frame_packets (T : Tx P K mg) : FnOk P w K mg base CX0 3 T.Frame_packets.a T.Frame_packets.d ["self"] (sp_Frame_packets T.a_Frame) := by
  refine T.Frame_packets.f.ok sc_Frame_packets (fun vs H Q E h => ?_) (fun cdv A outer s H vs Q E hr h => ⟨_, pss_one (ps_ret (pe_op op_mul (pe_op op_mul (pe_fld (pv 0) rfl) (pe_fld (pv 0) rfl)) (pe_meth0 (pv 0) T.cl_Frame T.Frame_tiles.m (ok_Frame_tiles T) (hr.mono (by decide)) T.Frame_tiles.b .nil pass0))), ?_⟩)
  · obtain ⟨x, w, h, d, c, t, rfl, _⟩ := h
    rfl
  · skip
    obtain ⟨x, w, h, d, c, t, rfl, ⟨dx, hx⟩, ht1, ht2, hw, hh, hd, hc, q⟩ := h
    have l1 : d * c ≤ 8 * 3 := Nat.mul_le_mul hd hc
    walk_at "go"
    refine Gx.ic (.inl (by omega)) ?_
    walk_at "go"
    refine Gx.mp hx no_Frame_tiles ?_
    walk_at "go"
    refine cp_Frame_tiles ⟨dx, hx⟩ ht1 ht2 hw hh ?_
    rw [← Int.natCast_mul]
    refine Gx.ic (.inl (by omega)) ?_
    rw [← Int.natCast_mul]
    exact q

theorem cp_Frame_packets {C x : Addr} {w h d c t : Nat} {H : Hp} {Q : VK} {E : XK} (f : Frm C H x w h d c t) (h1 : 1 ≤ t) (h2 : t ≤ 16) (hw : w ≤ 64) (hh : h ≤ 64) (hd : d ≤ 8) (hc : c ≤ 3) (q : Q (.int (d * c * (Gd.ac w t * Gd.ac h t) : Nat)) H) : Gx.CP (sp_Frame_packets C) [.ref x] [] H Q E := ⟨x, w, h, d, c, t, rfl, f, h1, h2, hw, hh, hd, hc, q⟩

noncomputable def sp_key_at (C : Addr) : Sp := fun vs H Q _ => ∃ (x : Addr) (w h d c t k : Nat), vs = [.ref x, .int (k : Int)] ∧ Frm C H x w h d c t ∧ 1 ≤ t ∧ t ≤ 16 ∧ 1 ≤ w ∧ w ≤ 64 ∧ 1 ≤ h ∧ h ≤ 64 ∧ 1 ≤ c ∧ c ≤ 3 ∧ ∀ p H', Same H H' → H' p = some (.tup ((Gd.ky (Gd.ac w t * Gd.ac h t) c d k).map V.int)) → Q (.ref p) H'

theorem sc_key_at : FnScope ["frame", "number", "rows", "tile", "higher_planes", "channel"] ["frame", "number"] (defScope s_key_at) := ⟨rfl, rfl, rfl, by decide +kernel, rfl, by decide +kernel, by decide +kernel⟩
theorem ok_key_at (T : Tx P K mg) : FnOk P w K mg base CX0 3 T.key_at.a T.key_at.d ["frame", "number"] (sp_key_at T.a_Frame) := by
  refine T.key_at.f.ok sc_key_at (fun vs H Q E h => ?_) (fun cdv A outer s H vs Q E hr h => ⟨_, pss_cons (ps_asg (pe_callB Gx.c_divmod rfl T.n_divmod (by decide +kernel) (pa_cons (pv 1) (pa_cons (pe_meth0 (pv 0) T.cl_Frame T.Frame_tiles.m (ok_Frame_tiles T) (hr.mono (by decide)) T.Frame_tiles.b .nil pass0) pa_nil))) (pg_tup rfl (pgs_cons (pg_name (i := 2) sc_key_at.nd rfl (Or.inl rfl)) (pgs_cons (pg_name (i := 3) sc_key_at.nd rfl (Or.inl rfl)) pgs_nil))))
      (pss_cons (ps_asg (pe_callB Gx.c_divmod rfl T.n_divmod (by decide +kernel) (pa_cons (pv 2) (pa_cons (pe_fld (pv 0) rfl) pa_nil))) (pg_tup rfl (pgs_cons (pg_name (i := 4) sc_key_at.nd rfl (Or.inl rfl)) (pgs_cons (pg_name (i := 5) sc_key_at.nd rfl (Or.inl rfl)) pgs_nil))))
      (pss_one (ps_ret (pe_tup (pa_cons (pv 5) (pa_cons (pv 3) (pa_cons (pe_op op_sub (pe_op op_sub (pe_fld (pv 0) rfl) (pe_int)) (pv 4)) pa_nil))))))), ?_⟩)
  · obtain ⟨x, w, h, d, c, t, k, rfl, _⟩ := h
    rfl
  · skip
    obtain ⟨x, w, h, d, c, t, k, rfl, fr, ht1, ht2, hw1, hw, hh1, hh, hc1, hc, q⟩ := h
    have l1 := Gd.ac_le (n := w) (t := t) (by omega)
    have l2 := Gd.ac_le (n := h) (t := t) (by omega)
    have p1 := Gd.ac_pos (n := w) (t := t) (by omega) (by omega)
    have p2 := Gd.ac_pos (n := h) (t := t) (by omega) (by omega)
    have p3 : 0 < Gd.ac w t * Gd.ac h t := Nat.mul_pos p1 p2
    have l4 : Gd.ac w t * Gd.ac h t ≤ 64 * 64 := Nat.mul_le_mul (by omega) (by omega)
    obtain ⟨dx, hx⟩ := id fr
    walk_at "go"
    refine Gx.mp hx no_Frame_tiles ?_
    walk_at "go"
    refine cp_Frame_tiles fr ht1 ht2 hw hh ?_
    walk_at "go"
    refine Gx.dvm ⟨by omega, by omega⟩ fun pa hpa => ?_
    walk_at "go"
    refine Gx.gtup (SqT.of upd_same) rfl ?_
    have s1 := Gx.same_new (o := .tup [.int ((k : Int) / ((Gd.ac w t * Gd.ac h t : Nat) : Int)), .int ((k : Int) % ((Gd.ac w t * Gd.ac h t : Nat) : Int))]) hpa
    have hx := s1 _ _ hx
    walk_at "go"
    refine Gx.dvm ⟨by omega, by omega⟩ fun pb hpb => ?_
    walk_at "go"
    refine Gx.gtup (SqT.of upd_same) rfl ?_
    have s2 := Gx.same_new (o := .tup [.int ((k : Int) / ((Gd.ac w t * Gd.ac h t : Nat) : Int) / (c : Int)), .int ((k : Int) / ((Gd.ac w t * Gd.ac h t : Nat) : Int) % (c : Int))]) hpb
    have hx := s2 _ _ hx
    walk_at "go"
    refine Gx.tupP (by show 3 ≤ sizeLine; decide) fun p hp => ?_
    exact q p _ (s1.trans (s2.trans (Gx.same_new hp))) upd_same

theorem cp_key_at {C x : Addr} {w h d c t k : Nat} {H : Hp} {Q : VK} {E : XK} (f : Frm C H x w h d c t) (h1 : 1 ≤ t) (h2 : t ≤ 16) (hw1 : 1 ≤ w) (hw : w ≤ 64) (hh1 : 1 ≤ h) (hh : h ≤ 64) (hc1 : 1 ≤ c) (hc : c ≤ 3)
    (q : ∀ p H', Same H H' → H' p = some (.tup ((Gd.ky (Gd.ac w t * Gd.ac h t) c d k).map V.int)) → Q (.ref p) H') : Gx.CP (sp_key_at C) [.ref x, .int (k : Int)] [] H Q E := ⟨x, w, h, d, c, t, k, rfl, f, h1, h2, hw1, hw, hh1, hh, hc1, hc, q⟩

noncomputable def sp_all_keys (C : Addr) : Sp := fun vs H Q _ => ∃ (x : Addr) (w h d c t : Nat), vs = [.ref x] ∧ Frm C H x w h d c t ∧ 1 ≤ t ∧ t ≤ 16 ∧ 1 ≤ w ∧ w ≤ 64 ∧ 1 ≤ h ∧ h ≤ 64 ∧ 1 ≤ c ∧ c ≤ 3 ∧ d ≤ 8 ∧ ∀ p H', H p = none → Same H H' → Gx.TL H' p (d * c * (Gd.ac w t * Gd.ac h t)) (Gd.ky (Gd.ac w t * Gd.ac h t) c d) → Q (.ref p) H'

theorem sc_all_keys : FnScope ["frame", "number"] ["frame"] (defScope s_all_keys) := ⟨rfl, rfl, rfl, by decide +kernel, rfl, by decide +kernel, by decide +kernel⟩
theorem ok_all_keys (T : Tx P K mg) : FnOk P w K mg base CX0 4 T.all_keys.a T.all_keys.d ["frame"] (sp_all_keys T.a_Frame) := by
  refine T.all_keys.f.ok sc_all_keys (fun vs H Q E h => ?_) (fun cdv A outer s H vs Q E hr h => ⟨_, pss_one (ps_ret (pe_lc (own := [("number", 1)]) (g := (gName 1)) (tt := tYes) rfl sc_all_keys.nd (pi_range1 rfl T.n_range (pa_cons (pe_meth0 (pv 0) T.cl_Frame T.Frame_packets.m (ok_Frame_packets T) (hr.mono (by decide)) T.Frame_packets.b .nil pass0) pa_nil)) (blkOk_by (own := [("number", 1)]) (N := ["frame", "number"]) (sc := defScope s_all_keys) (by decide +kernel)) (fun _ _ _ _ _ => (pg_name (i := 1) sc_all_keys.nd rfl (Or.inl rfl))) (fun _ _ _ _ _ => pts_nil) (fun _ _ _ _ _ => pe_call (ok_key_at T) (hr.mono (by decide)) rfl T.key_at.g T.key_at.f.kp T.key_at.b .nil pass0 (pa_cons (pv 0) (pa_cons (pv 1) pa_nil))))), ?_⟩)
  · obtain ⟨x, w, h, d, c, t, rfl, _⟩ := h
    rfl
  · skip
    obtain ⟨x, w, h, d, c, t, rfl, fr, ht1, ht2, hw1, hw, hh1, hh, hc1, hc, hd, q⟩ := h
    have l1 := Gd.ac_le (n := w) (t := t) (by omega)
    have l2 := Gd.ac_le (n := h) (t := t) (by omega)
    have l4 : Gd.ac w t * Gd.ac h t ≤ 64 * 64 := Nat.mul_le_mul (by omega) (by omega)
    have l5 : d * c * (Gd.ac w t * Gd.ac h t) ≤ 8 * 3 * (64 * 64) := Nat.mul_le_mul (Nat.mul_le_mul hd hc) l4
    obtain ⟨dx, hx⟩ := id fr
    walk_at "go"
    refine Gx.mp hx no_Frame_packets ?_
    walk_at "go"
    refine cp_Frame_packets fr ht1 ht2 hw hh hd hc ?_
    walk_at "go"
    refine Gx.r1 (by omega) (by omega) ?_
    refine Gx.lcTup walk_range (by omega) (Gd.ky (Gd.ac w t * Gd.ac h t) c d) (fun _ _ => trivial) Gx.sameFn ?_ ?_
    · rintro i y H3 H3' R R0 hi s3 ⟨rfl, hy⟩ hr
      have hy2 : y = .int (i : Int) := hy.trans (congrArg V.int (by omega))
      subst hy2
      walk_at "go"
      exact cp_key_at (fr.keep s3) ht1 ht2 hw1 hw hh1 hh hc1 hc hr
    rw [Int.toNat_natCast]
    exact q

theorem cp_all_keys {C x : Addr} {w h d c t : Nat} {H : Hp} {Q : VK} {E : XK} (f : Frm C H x w h d c t) (h1 : 1 ≤ t) (h2 : t ≤ 16) (hw1 : 1 ≤ w) (hw : w ≤ 64) (hh1 : 1 ≤ h) (hh : h ≤ 64) (hc1 : 1 ≤ c) (hc : c ≤ 3) (hd : d ≤ 8)
    (q : ∀ p H', H p = none → Same H H' → Gx.TL H' p (d * c * (Gd.ac w t * Gd.ac h t)) (Gd.ky (Gd.ac w t * Gd.ac h t) c d) → Q (.ref p) H') : Gx.CP (sp_all_keys C) [.ref x] [] H Q E := ⟨x, w, h, d, c, t, rfl, f, h1, h2, hw1, hw, hh1, hh, hc1, hc, hd, q⟩

noncomputable def sp_changed (K : PySem.W.Frag) (CO CF CP : Addr) : Sp := fun vs H Q E => ∃ (x y r z r2 : Addr) (w h d c t w1 h1 d1 c1 w2 h2 d2 c2 : Nat) (f g : List (List Int)), vs = [.ref x, .ref y, .ref z] ∧ Frm CF H x w h d c t ∧ Rg.Dim w h d c t ∧ Pic CP H y r w1 h1 d1 c1 (fun i => f.getD i []) ∧ Pic CP H z r2 w2 h2 d2 c2 (fun i => g.getD i []) ∧ Pq.rowsOk (w1 * h1) d1 c1 f ∧ Pq.rowsOk (w2 * h2) d2 c2 g ∧
  (¬ ((w = w1 ∧ h = h1 ∧ d = d1 ∧ c = c1) ∧ (w = w2 ∧ h = h2 ∧ d = d2 ∧ c = c2)) → Sx.ErrB CO H E) ∧
  ((w = w1 ∧ h = h1 ∧ d = d1 ∧ c = c1) → (w = w2 ∧ h = h2 ∧ d = d2 ∧ c = c2) → ∀ p H', H p = none → Same H H' → Rg.RL H' p (Cg.chg w h d c t f g) → Q (.ref p) H')

theorem sc_changed : FnScope ["frame", "one", "other", "key"] ["frame", "one", "other"] (defScope s_changed) := ⟨rfl, rfl, rfl, by decide +kernel, rfl, by decide +kernel, by decide +kernel⟩
theorem ok_changed (T : Tx P K mg) : FnOk P w K mg base (L2.CX P w) 6 T.changed.a T.changed.d ["frame", "one", "other"] (sp_changed K T.y_OtherKind.C T.a_Frame T.a_Picture) := by
  refine T.changed.f.okX sc_changed (fun vs H Q E h => ?_) (fun cdv A outer s H vs Q E hr h => ⟨_, pss_cons (ps_expr (pe_callS (ok_check_fits T) (hr.mono (by decide)) rfl T.check_fits.g T.check_fits.f.kp T.check_fits.b (fun σ => passAt (takes_of rfl rfl rfl rfl) σ) (pa_cons (pv 0) (pa_cons (pv 1) pa_nil))))
      (pss_cons (ps_expr (pe_callS (ok_check_fits T) (hr.mono (by decide)) rfl T.check_fits.g T.check_fits.f.kp T.check_fits.b (fun σ => passAt (takes_of rfl rfl rfl rfl) σ) (pa_cons (pv 0) (pa_cons (pv 2) pa_nil))))
      (pss_one (ps_ret (pe_lc (own := [("key", 3)]) (g := (gName 3)) rfl sc_changed.nd (pi_list (pe_call (ok_all_keys T) (hr.mono (by decide)) rfl T.all_keys.g T.all_keys.f.kp T.all_keys.b .nil pass0 (pa_cons (pv 0) pa_nil))) (blkOk_by (own := [("key", 3)]) (N := ["frame", "one", "other", "key"]) (sc := defScope s_changed) (by decide +kernel)) (fun _ _ _ _ _ => (pg_name (i := 3) sc_changed.nd rfl (Or.inl rfl))) (fun _ _ _ _ _ => pts_one (pt_cmpR op_ne (pe_call (ok_packet_bits T) (hr.mono (by decide)) rfl T.packet_bits.g T.packet_bits.f.kp T.packet_bits.b .nil passL (pa_cons (pv 0) (pa_cons (pv 1) (pa_cons (pv 3) pa_nil)))) (pe_call (ok_packet_bits T) (hr.mono (by decide)) rfl T.packet_bits.g T.packet_bits.f.kp T.packet_bits.b .nil passL (pa_cons (pv 0) (pa_cons (pv 2) (pa_cons (pv 3) pa_nil)))) (nomark _))) (fun _ _ _ _ _ => pv 3))))), ?_⟩)
  · obtain ⟨x, y, r, z, r2, w, h, d, c, t, w1, h1, d1, c1, w2, h2, d2, c2, f, g, rfl, _⟩ := h
    rfl
  · skip
    obtain ⟨x, y, r, z, r2, w, h, d, c, t, w1, h1, d1, c1, w2, h2, d2, c2, f, g, rfl, fr, D, P1, P2, ok1, ok2, qe, q⟩ := h
    obtain ⟨l1, l2, l3, l4, l5, l6, l7⟩ := D.ok
    obtain ⟨a1, a2, a3, a4, a5, a6, a7, a8, a9, a10⟩ := id D
    obtain ⟨dx, hx⟩ := id fr
    obtain ⟨⟨dy, hy⟩, _⟩ := id P1
    obtain ⟨⟨dz, hz⟩, _⟩ := id P2
    walk_at "run"
    refine cs_check_fits (k4_Frame T hx) (k4_Picture T hy) (fun e1 => ?_) (fun e1 => qe (fun k => e1 (by omega)))
    walk_at "run"
    refine cs_check_fits (k4_Frame T hx) (k4_Picture T hz) (fun e2 => ?_) (fun e2 => qe (fun k => e2 (by omega)))
    replace q := q (by omega) (by omega)
    obtain ⟨rfl, rfl, rfl, rfl⟩ : w = w1 ∧ h = h1 ∧ d = d1 ∧ c = c1 := by omega
    obtain ⟨rfl, rfl, rfl, rfl⟩ : w = w2 ∧ h = h2 ∧ d = d2 ∧ c = c2 := by omega
    walk_at "run"
    refine cp_all_keys fr a8 a9 a1 a2 a3 a4 (by omega) (by omega) a6 fun pk H1 n1 s1 hK => ?_
    obtain ⟨ks, k1, k2, k3⟩ := id hK
    have hN : d * c * (Gd.ac w t * Gd.ac h t) ≤ 8 * 3 * (64 * 64) := Nat.mul_le_mul (Nat.mul_le_mul a6 (by omega)) l6
    walk_at "run"
    refine Gx.lp (SqL.of k1) ?_
    refine Gx.lcFil (walk_list (xs := ks.map V.ref)) (by rw [List.length_map]; omega) (Cg.dif w h t c (Gd.ac w t * Gd.ac h t) d f g) (fun i => V.ref (ks.getD i 0)) (fun _ s => s.seq (SqL.of k1)) Gx.sameAt ?_ ?_
    · rintro i v H3 H3' R R0 hi s3 ⟨rfl, hv⟩ hr hr0
      rw [List.length_map, k2] at hi
      have hik : i < ks.length := by omega
      rw [List.getElem?_map, List.getElem?_eq_getElem hik] at hv
      have hv := Option.some.inj hv
      subst hv
      have hka := k3 i ks[i] (List.getElem?_eq_getElem hik)
      have hg : ks.getD i 0 = ks[i] := by rw [List.getD_eq_getElem?_getD, List.getElem?_eq_getElem hik]; rfl
      rw [hg] at hr
      obtain ⟨i1, i2, i3, i4, i5⟩ := Dx.ix_back (show 0 < c by omega) l5 hi
      rw [Dx.ky_ix (show 0 < c by omega) l5 hi] at hka
      unfold Cg.dif at hr hr0
      have hka : H1 ks[i] = some (.tup [.int ((i / (Gd.ac w t * Gd.ac h t) % c : Nat) : Int), .int ((i % (Gd.ac w t * Gd.ac h t) : Nat) : Int), .int ((d - 1 - i / (Gd.ac w t * Gd.ac h t) / c : Nat) : Int)]) := hka
      have s13 := s1.trans s3
      walk_at "run"
      refine cp_packet_bits (fr.keep s13) D (P1.keep s13) ok1 (s3 _ _ hka) i1 i2 i3 fun H4 s4 => ?_
      walk_at "run"
      refine cp_packet_bits (fr.keep (s13.trans s4)) D (P2.keep (s13.trans s4)) ok2 (s4 _ _ (s3 _ _ hka)) i1 i2 i3 fun H5 s5 => ?_
      walk_at "run"
      refine Gx.if_b (fun e => ?_) (fun e => ?_)
      · walk_at "run"
        exact hr (by rw [← e]; congr 1; exact decide_eq_decide.mpr Bs.inj.symm) H5 (s4.trans s5)
      · exact hr0 (by rw [← e]; congr 1; exact decide_eq_decide.mpr Bs.inj.symm) H5 (s4.trans s5)
    intro p H2 n2 s2 h2
    rw [List.length_map, k2] at h2
    refine q p H2 (s1.free n2) (s1.trans s2) ?_
    exact Rg.RR.rl h2 ((Cg.rr_filter k2 k3 (Cg.dif w h t c (Gd.ac w t * Gd.ac h t) d f g) _ (Nat.le_refl _)).keep s2)

theorem cp_changed {K : PySem.W.Frag} {CO CF CP x y r z r2 : Addr} {w h d c t : Nat} {f g : List (List Int)} {H : Hp} {Q : VK} {E : XK} (fr : Frm CF H x w h d c t) (D : Rg.Dim w h d c t) (P1 : Pic CP H y r w h d c (fun i => f.getD i [])) (P2 : Pic CP H z r2 w h d c (fun i => g.getD i [])) (ok1 : Pq.rowsOk (w * h) d c f) (ok2 : Pq.rowsOk (w * h) d c g)
  (q : ∀ p H', H p = none → Same H H' → Rg.RL H' p (Cg.chg w h d c t f g) → Q (.ref p) H') : Gx.CP (sp_changed K CO CF CP) [.ref x, .ref y, .ref z] [] H Q E := ⟨x, y, r, z, r2, w, h, d, c, t, w, h, d, c, w, h, d, c, f, g, rfl, fr, D, P1, P2, ok1, ok2, fun n => absurd ⟨⟨rfl, rfl, rfl, rfl⟩, rfl, rfl, rfl, rfl⟩ n, fun _ _ => q⟩

noncomputable def sp_Source_become (CS CP CF : Addr) : Sp := fun vs H Q _ => ∃ (R : Hp) (rest : List (Addr × HO)) (v dv fa y sl z : Addr) (xs : List V) (w h d c t : Nat) (f g : List (List Int)), vs = [.ref v, .ref z] ∧ (∀ q ∈ rest, ∀ ys, q.2 ≠ HO.tup ys) ∧ Mv.Hv R H ((v, .ins CS dv (fl_Source (.ref fa) (.ref y) (.ref sl))) :: (sl, .lst xs) :: rest) ∧ xs.length ≤ 1000 ∧ Frm CF R fa w h d c t ∧ Rg.Dim w h d c t ∧ Pn CP R w h d c y f ∧ Pn CP R w h d c z g ∧
  ∀ p sl2 R' H', Same R R' → Rg.RL R' p (Cg.chg w h d c t f g) → Mv.Hv R' H' ((v, .ins CS dv (fl_Source (.ref fa) (.ref z) (.ref sl2))) :: (sl2, .lst ((xs ++ [V.ref y]).drop (xs.length + 1 - 16))) :: rest) → Q (.ref p) H'

theorem sc_Source__become : FnScope ["self", "picture", "keys"] ["self", "picture"] (defScope s_Source__become) := ⟨rfl, rfl, rfl, by decide +kernel, rfl, by decide +kernel, by decide +kernel⟩
theorem ok_Source__become (T : Tx P K mg) : FnOk P w K mg base CX0 7 T.Source__become.a T.Source__become.d ["self", "picture"] (sp_Source_become T.a_Source T.a_Picture T.a_Frame) := by
  refine T.Source__become.f.ok sc_Source__become (fun vs H Q E h => ?_) (fun cdv A outer s H vs Q E hr h => ⟨_, pss_cons (ps_set (i := 2) sc_Source__become.nd rfl (Or.inl rfl) (pe_call (ok_changed T) (hr.mono (by decide)) rfl T.changed.g T.changed.f.kp T.changed.b .nil passL (pa_cons (pe_fld (pv 0) rfl) (pa_cons (pe_fld (pv 0) rfl) (pa_cons (pv 1) pa_nil)))))
      (pss_cons (ps_fld (pv 0) (pe_call (ok_with_saved T) (hr.mono (by decide)) rfl T.with_saved.g T.with_saved.f.kp T.with_saved.b .nil pass0 (pa_cons (pe_fld (pv 0) rfl) (pa_cons (pe_fld (pv 0) rfl) pa_nil))) rfl)
      (pss_cons (ps_fld (pv 0) (pv 1) rfl)
      (pss_one (ps_ret (pv 2))))), ?_⟩)
  · obtain ⟨R, rest, v, dv, fa, y, sl, z, xs, w, h, d, c, t, f, g, rfl, _⟩ := h
    rfl
  · skip
    obtain ⟨R, rest, v, dv, fa, y, sl, z, xs, w, h, d, c, t, f, g, rfl, hr, hv, hxs, fr, D, ⟨⟨r1, P1⟩, ok1⟩, ⟨⟨r2, P2⟩, ok2⟩, q⟩ := h
    have h0 := hv.g0
    have s0 := hv.same
    walk_at "run"
    refine cp_changed (fr.keep s0) D (P1.keep s0) (P2.keep s0) ok1 ok2 fun p H1 n1 s1 hp => ?_
    obtain ⟨R1, hv1, sR1, gR1⟩ := hv.grow s1
    have hp1 : Rg.RL R1 p (Cg.chg w h d c t f g) := Sq.rl_in hv1 (Sq.no2 (fun _ z => by cases z) (fun _ z => by cases z) hr) hp (fun o => gR1 _ _ n1)
    have hc1 := hv1.g0
    have hs1 := hv1.g1
    walk_at "run"
    refine cp_with_saved hs1 hxs fun sl2 H5 n5 s5 h5 => ?_
    obtain ⟨R5, hv5, sR5⟩ := hv1.more n5 s5 h5
    have h5v := hv5.g1
    walk_at "run"
    refine Gx.sfp h5v T.cl_Source T.na_Source__saved few_Source put_Source__saved ?_
    have hv6 := hv5.p1 (u := .ins T.a_Source dv (fl_Source (.ref fa) (.ref y) (.ref sl2)))
    generalize upd H5 v (.ins T.a_Source dv (fl_Source (.ref fa) (.ref y) (.ref sl2))) = H6 at hv6 ⊢
    have h6v := hv6.g1
    walk_at "run"
    refine Gx.sfp h6v T.cl_Source T.na_Source__picture few_Source put_Source__picture ?_
    have hv7 := hv6.p1 (u := .ins T.a_Source dv (fl_Source (.ref fa) (.ref z) (.ref sl2)))
    generalize upd H6 v (.ins T.a_Source dv (fl_Source (.ref fa) (.ref z) (.ref sl2))) = H7 at hv7 ⊢
    walk_at "run"
    obtain ⟨R8, hv8, sR8, _⟩ := hv7.rot3.less
    exact q p sl2 R8 H7 (sR1.trans (sR5.trans sR8)) (hp1.keep (sR5.trans sR8)) hv8

theorem cp_Source_become {CS CP CF v dv fa y sl z : Addr} {xs : List V} {w h d c t : Nat} {f g : List (List Int)} {R H : Hp} {rest : List (Addr × HO)} {Q : VK} {E : XK} (hr : ∀ q ∈ rest, ∀ ys, q.2 ≠ HO.tup ys) (hv : Mv.Hv R H ((v, .ins CS dv (fl_Source (.ref fa) (.ref y) (.ref sl))) :: (sl, .lst xs) :: rest)) (hl : xs.length ≤ 1000) (fr : Frm CF R fa w h d c t) (D : Rg.Dim w h d c t) (p1 : Pn CP R w h d c y f) (p2 : Pn CP R w h d c z g)
  (q : ∀ p sl2 R' H', Same R R' → Rg.RL R' p (Cg.chg w h d c t f g) → Mv.Hv R' H' ((v, .ins CS dv (fl_Source (.ref fa) (.ref z) (.ref sl2))) :: (sl2, .lst ((xs ++ [V.ref y]).drop (xs.length + 1 - 16))) :: rest) → Q (.ref p) H') : Gx.CP (sp_Source_become CS CP CF) [.ref v, .ref z] [] H Q E := ⟨R, rest, v, dv, fa, y, sl, z, xs, w, h, d, c, t, f, g, rfl, hr, hv, hl, fr, D, p1, p2, q⟩

noncomputable def sp_check_values (K : PySem.W.Frag) (C : Addr) : Sp := fun vs H Q E => ∃ (v : Addr) (w h d c : Nat) (rows : List (List Int)), vs = [.int (w : Int), .int (h : Int), .int (d : Int), .int (c : Int), .ref v] ∧ Pq.RW H v rows ∧ w ≤ 64 ∧ h ≤ 64 ∧ d ≤ 8 ∧ (Pq.rowsOk (w * h) d c rows → Q .non H) ∧ (¬ Pq.rowsOk (w * h) d c rows → Sx.Err C H "values" E)

theorem sc_check_values : FnScope ["width", "height", "depth", "channels", "values", "row", "value"] ["width", "height", "depth", "channels", "values"] (defScope s_check_values) := ⟨rfl, rfl, rfl, by decide +kernel, rfl, by decide +kernel, by decide +kernel⟩
theorem ok_check_values (T : Tx P K mg) : FnOk P w K mg base (L2.CX P w) 4 T.check_values.a T.check_values.d ["width", "height", "depth", "channels", "values"] (sp_check_values K T.x_OutOfRange.C) := by
  refine T.check_values.f.okX sc_check_values (fun vs H Q E h => ?_) (fun cdv A outer s H vs Q E hr h => ⟨_, pss_cons (ps_if (pt_cmpR op_ne (pe_callB (Gx.c_lenK (K := K) rfl) rfl T.n_len (by decide +kernel) (pa_cons (pv 4) pa_nil)) (pv 3) (nomark _)) (pss_one (ps_raise rfl (takes_of rfl rfl rfl rfl) (pmk_oex T.x_OutOfRange.o T.x_OutOfRange.i T.x_OutOfRange.t (ok_OutOfRange___init__ T) (hr.mono (by decide)) T.x_OutOfRange.b .nil pass0 rfl T.x_OutOfRange.g (pa_cons (pe_str) pa_nil)))) (pss_nil))
      (pss_one (ps_for (passes_of rfl) rfl (pi_list (pv 4)) (pg_name (i := 5) sc_check_values.nd rfl (Or.inl rfl))
      (pss_cons (ps_if (pt_cmpR op_ne (pe_callB (Gx.c_lenK (K := K) rfl) rfl T.n_len (by decide +kernel) (pa_cons (pv 5) pa_nil)) (pe_op op_mul (pv 0) (pv 1)) (nomark _)) (pss_one (ps_raise rfl (takes_of rfl rfl rfl rfl) (pmk_oex T.x_OutOfRange.o T.x_OutOfRange.i T.x_OutOfRange.t (ok_OutOfRange___init__ T) (hr.mono (by decide)) T.x_OutOfRange.b .nil pass0 rfl T.x_OutOfRange.g (pa_cons (pe_str) pa_nil)))) (pss_nil))
      (pss_one (ps_for (passes_of rfl) rfl (pi_list (pv 5)) (pg_name (i := 6) sc_check_values.nd rfl (Or.inl rfl))
      (pss_one (ps_expr (pe_callS (ok_check_range T) (hr.mono (by decide)) rfl T.check_range.g T.check_range.f.kp T.check_range.b (fun σ => passAt (takes_of rfl rfl rfl rfl) σ) (pa_cons (pe_str) (pa_cons (pv 6) (pa_cons (pe_int) (pa_cons (pe_op op_sub (pe_op op_shl (pe_int) (pv 2)) (pe_int)) pa_nil)))))))))))), ?_⟩)
  · obtain ⟨v, w, h, d, c, rows, rfl, _⟩ := h
    rfl
  · skip
    obtain ⟨v, w, h, d, c, rows, rfl, hv, hw, hh, hd, q, qe⟩ := h
    obtain ⟨xs, r1, r2, r3⟩ := hv.all
    walk_at "run"
    refine Gx.lenL (SqL.of r1) ?_
    rw [r2]
    walk_at "run"
    refine Gx.if_dn (fun e => ?_) (fun e => ?_)
    · walk_at "run"
      exact Sx.mkO (by decide) (qe fun k => e (by have := k.1; omega)).now fun R h => by walk_at "run"; exact h
    walk_at "run"
    refine Gx.lp (SqL.of r1) ?_
    refine Gx.fw (walk_list (xs := xs)) (fun i σ' H' => H' = H ∧ (∀ j, j < i → j < rows.length → Pq.rowOk (w * h) d (rows.getD j [])) ∧ ∃ v1 v2 : Option V, σ' = [some (.int (w : Int)), some (.int (h : Int)), some (.int (d : Int)), some (.int (c : Int)), some (.ref v), v1, v2]) ⟨rfl, (fun j h => absurd h (Nat.not_lt_zero _)), none, none, rfl⟩ (fun i σ' H' _ hh => by rw [hh.1]; exact SqL.of r1) ?_ ?_
    · rintro i y σ' H2 H2' hi ⟨rfl, hj, v1, v2, rfl⟩ ⟨rfl, hy⟩
      obtain ⟨ra, rfl, hi2, hra⟩ := r3 i y hy
      have bad : ¬ Pq.rowOk (w * h) d (rows.getD i []) → Sx.Err T.x_OutOfRange.C H2' "values" E := fun n => qe fun k => n (k.2 _ (Pq.rowsAt hi2))
      generalize hrow : rows.getD i [] = row at hra bad
      walk_at "run"
      refine Gx.lenL (SqL.of hra) ?_
      rw [List.length_map]
      walk_at "run"
      rw [← Int.natCast_mul]
      refine Gx.if_dn (fun e2 => ?_) (fun e2 => ?_)
      · walk_at "run"
        exact Sx.mkO (by decide) (bad fun k => e2 (by have := k.1; omega)).now fun R h => by walk_at "run"; exact h
      walk_at "run"
      refine Gx.lp (SqL.of hra) ?_
      refine Gx.fw (walk_list (xs := row.map V.int)) (fun k σ' H' => H' = H2' ∧ (∀ j, j < k → j < row.length → 0 ≤ row.getD j 0 ∧ row.getD j 0 < ((2 ^ d : Nat) : Int)) ∧ ∃ v2 : Option V, σ' = [some (.int (w : Int)), some (.int (h : Int)), some (.int (d : Int)), some (.int (c : Int)), some (.ref v), some (.ref ra), v2]) ⟨rfl, (fun j h => absurd h (Nat.not_lt_zero _)), _, rfl⟩ (fun i σ' H' _ hh => by rw [hh.1]; exact SqL.of hra) ?_ ?_
      · rintro k y σ' H3 H3' hk ⟨rfl, hall, v2, rfl⟩ ⟨rfl, hy⟩
        rw [List.length_map] at hk
        rw [List.getElem?_map, List.getElem?_eq_getElem hk] at hy
        have hy := Option.some.inj hy
        subst hy
        have hg : row.getD k 0 = row[k] := by rw [List.getD_eq_getElem?_getD, List.getElem?_eq_getElem hk]; rfl
        walk_at "run"
        rw [Gy.pw]
        refine cs_check_range (fun b1 b2 => ?_) (fun n => bad fun kk => n (by have := kk.2 _ (List.getElem_mem hk); omega))
        walk_at "run"
        refine ⟨rfl, fun j h1 h2 => ?_, _, rfl⟩
        rcases Nat.lt_or_ge j k with z | z
        · exact hall j z h2
        · rw [show j = k by omega, hg]; omega
      · rintro σ' H3 ⟨rfl, hall, v2, rfl⟩
        rw [List.length_map] at hall
        walk_at "run"
        refine ⟨rfl, fun j h1 h2 => ?_, _, _, rfl⟩
        rcases Nat.lt_or_ge j i with z | z
        · exact hj j z h2
        · rw [show j = i by omega, hrow]
          refine ⟨by omega, fun z hz => ?_⟩
          obtain ⟨m, hm, rfl⟩ := List.getElem_of_mem hz
          have := hall m hm hm
          rw [List.getD_eq_getElem?_getD, List.getElem?_eq_getElem hm] at this
          exact this
    rintro σ' H2 ⟨rfl, hj, v1, v2, rfl⟩
    walk_at "run"
    refine q ⟨by omega, fun r hr => ?_⟩
    obtain ⟨j, hj2, rfl⟩ := List.getElem_of_mem hr
    have := hj j (by omega) hj2
    rw [List.getD_eq_getElem?_getD, List.getElem?_eq_getElem hj2] at this
    exact this

theorem cs_check_values {K : PySem.W.Frag} {C v : Addr} {w h d c : Nat} {rows : List (List Int)} {H : Hp} {Q : VK} {E : XK} (hv : Pq.RW H v rows) (hw : w ≤ 64) (hh : h ≤ 64) (hd : d ≤ 8) (q : Pq.rowsOk (w * h) d c rows → Q .non H) (qe : ¬ Pq.rowsOk (w * h) d c rows → Sx.Err C H "values" E) : Sx.CS (sp_check_values K C) [.int (w : Int), .int (h : Int), .int (d : Int), .int (c : Int), .ref v] H Q E := ⟨v, w, h, d, c, rows, rfl, hv, hw, hh, hd, q, qe⟩

noncomputable def sp_check_size (C : Addr) : Sp := fun vs H Q E => ∃ (w h c : Int), vs = [.int w, .int h, .int c] ∧ (1 ≤ w ∧ w ≤ 64) ∧ (1 ≤ h ∧ h ≤ 64) ∧ (1 ≤ c ∧ c ≤ 3) ∧ (w * h * c ≤ 3072 → Q .non H) ∧ (w * h * c > 3072 → Sx.Err C H "size" E)

theorem sc_check_size : FnScope ["width", "height", "channels"] ["width", "height", "channels"] (defScope s_check_size) := ⟨rfl, rfl, rfl, by decide +kernel, rfl, by decide +kernel, by decide +kernel⟩
theorem ok_check_size (T : Tx P K mg) : FnOk P w K mg base (L2.CX P w) 3 T.check_size.a T.check_size.d ["width", "height", "channels"] (sp_check_size T.x_OutOfRange.C) := by
  refine T.check_size.f.okX sc_check_size (fun vs H Q E h => ?_) (fun cdv A outer s H vs Q E hr h => ⟨_, pss_one (ps_if (pt_cmpR op_gt (pe_op op_mul (pe_op op_mul (pv 0) (pv 1)) (pv 2)) (pe_glob (v := .int 3072) rfl T.c_VALUES_MOST ⟨_, rfl⟩) (nomark _)) (pss_one (ps_raise rfl (takes_of rfl rfl rfl rfl) (pmk_oex T.x_OutOfRange.o T.x_OutOfRange.i T.x_OutOfRange.t (ok_OutOfRange___init__ T) (hr.mono (by decide)) T.x_OutOfRange.b .nil pass0 rfl T.x_OutOfRange.g (pa_cons (pe_str) pa_nil)))) (pss_nil)), ?_⟩)
  · obtain ⟨w, h, c, rfl, _⟩ := h
    rfl
  · skip
    obtain ⟨w, h, c, rfl, hw, hh, hc, q, qe⟩ := h
    walk_at "go"
    refine Gx.ic (.inr (by omega)) ?_
    walk_at "go"
    refine Gx.ic (.inr (by omega)) ?_
    walk_at "go"
    refine Gx.if_d (fun a => ?_) (fun a => ?_)
    · walk_at "go"
      exact Sx.mkO (by decide) (qe (by omega)).now fun R h => by walk_at "go"; exact h
    walk_at "go"
    exact q (by omega)

theorem cs_check_size {C : Addr} {w h c : Int} {H : Hp} {Q : VK} {E : XK} (hw : 1 ≤ w ∧ w ≤ 64) (hh : 1 ≤ h ∧ h ≤ 64) (hc : 1 ≤ c ∧ c ≤ 3) (q : w * h * c ≤ 3072 → Q .non H) (qe : w * h * c > 3072 → Sx.Err C H "size" E) : Sx.CS (sp_check_size C) [.int w, .int h, .int c] H Q E := ⟨w, h, c, rfl, hw, hh, hc, q, qe⟩

noncomputable def sp_check_kind (C : Addr) : Sp := fun vs H Q E => ∃ (w h d c : Int), vs = [.int w, .int h, .int d, .int c] ∧ (Sx.kindBad w h d c = none → ∀ H', Same H H' → Q .non H') ∧ (∀ z, Sx.kindBad w h d c = some z → Sx.Err C H z E)

theorem sc_check_kind : FnScope ["width", "height", "depth", "channels"] ["width", "height", "depth", "channels"] (defScope s_check_kind) := ⟨rfl, rfl, rfl, by decide +kernel, rfl, by decide +kernel, by decide +kernel⟩
theorem ok_check_kind (T : Tx P K mg) : FnOk P w K mg base (L2.CX P w) 4 T.check_kind.a T.check_kind.d ["width", "height", "depth", "channels"] (sp_check_kind T.x_OutOfRange.C) := by
  refine T.check_kind.f.okX sc_check_kind (fun vs H Q E h => ?_) (fun cdv A outer s H vs Q E hr h => ⟨_, pss_cons (ps_expr (pe_callS (ok_check_range T) (hr.mono (by decide)) rfl T.check_range.g T.check_range.f.kp T.check_range.b (fun σ => passAt (takes_of rfl rfl rfl rfl) σ) (pa_cons (pe_str) (pa_cons (pv 0) (pa_cons (pe_int) (pa_cons (pe_glob (v := .int 64) rfl T.c_SIDE_MOST ⟨_, rfl⟩) pa_nil))))))
      (pss_cons (ps_expr (pe_callS (ok_check_range T) (hr.mono (by decide)) rfl T.check_range.g T.check_range.f.kp T.check_range.b (fun σ => passAt (takes_of rfl rfl rfl rfl) σ) (pa_cons (pe_str) (pa_cons (pv 1) (pa_cons (pe_int) (pa_cons (pe_glob (v := .int 64) rfl T.c_SIDE_MOST ⟨_, rfl⟩) pa_nil))))))
      (pss_cons (ps_expr (pe_callS (ok_check_range T) (hr.mono (by decide)) rfl T.check_range.g T.check_range.f.kp T.check_range.b (fun σ => passAt (takes_of rfl rfl rfl rfl) σ) (pa_cons (pe_str) (pa_cons (pv 2) (pa_cons (pe_int) (pa_cons (pe_glob (v := .int 8) rfl T.c_DEPTH_MOST ⟨_, rfl⟩) pa_nil))))))
      (pss_one (ps_if (pt_cmpR op_notIn_seq (pv 3) (pe_tup (pa_cons (pe_int) (pa_cons (pe_int) pa_nil))) (by rfl)) (pss_one (ps_raise rfl (takes_of rfl rfl rfl rfl) (pmk_oex T.x_OutOfRange.o T.x_OutOfRange.i T.x_OutOfRange.t (ok_OutOfRange___init__ T) (hr.mono (by decide)) T.x_OutOfRange.b .nil pass0 rfl T.x_OutOfRange.g (pa_cons (pe_str) pa_nil)))) (pss_nil))))), ?_⟩)
  · obtain ⟨w, h, d, c, rfl, _⟩ := h
    rfl
  · skip
    obtain ⟨w, h, d, c, rfl, q, qe⟩ := h
    unfold Sx.kindBad at q qe
    walk_at "go"
    refine cs_check_range (fun a1 a2 => ?_) (fun a => qe _ (if_pos a))
    rw [if_neg (not_not_intro ⟨a1, a2⟩)] at q qe
    walk_at "go"
    refine cs_check_range (fun b1 b2 => ?_) (fun a => qe _ (if_pos a))
    rw [if_neg (not_not_intro ⟨b1, b2⟩)] at q qe
    walk_at "go"
    refine cs_check_range (fun c1 c2 => ?_) (fun a => qe _ (if_pos a))
    rw [if_neg (not_not_intro ⟨c1, c2⟩)] at q qe
    walk_at "go"
    refine Gx.tupP (by show 2 ≤ sizeLine; decide) fun p hp => ?_
    have s1 := Gx.same_new (o := .tup [.int 1, .int 3]) hp
    walk_at "go"
    refine Gx.inT (SqT.of upd_same) rfl ?_
    walk_at "go"
    have e : inV (.int c) [.int 1, .int 3] = decide (c = 1 ∨ c = 3) := by
      by_cases hc : c = 1 ∨ c = 3
      · rw [decide_eq_true hc]
        rcases hc with e | e <;> subst e <;> decide
      · rw [decide_eq_false hc]
        exact Gx.notin_ints [1, 3] (fun y hy e => hc (by simp at hy; omega))
    by_cases hc : c = 1 ∨ c = 3
    · rw [if_neg (not_not_intro hc)] at q
      refine Gx.if_n (by rw [e, decide_eq_true hc]; rfl) ?_
      walk_at "go"
      exact q rfl _ s1
    · rw [if_pos hc] at qe
      refine Gx.if_y (by rw [e, decide_eq_false hc]; rfl) ?_
      walk_at "go"
      exact Sx.mkO (by decide) ((qe _ rfl).mono s1).now fun R h => by walk_at "go"; exact h

theorem cs_check_kind {C : Addr} {w h d c : Int} {H : Hp} {Q : VK} {E : XK} (q : Sx.kindBad w h d c = none → ∀ H', Same H H' → Q .non H') (qe : ∀ z, Sx.kindBad w h d c = some z → Sx.Err C H z E) : Sx.CS (sp_check_kind C) [.int w, .int h, .int d, .int c] H Q E := ⟨w, h, d, c, rfl, q, qe⟩

noncomputable def sp_Picture_init (K : PySem.W.Frag) (CE C : Addr) : Sp := fun vs H Q E => ∃ (H0 : Hp) (x dx v : Addr) (w h d c : Int) (rows : List (List Int)), vs = [.ref x, .int w, .int h, .int d, .int c, .ref v] ∧ H x = some (.ins C dx []) ∧ Same H0 H ∧ H0 x = none ∧ Pq.RW H0 v rows ∧ rows.length ≤ 1000 ∧
  (Pq.pictBad w h d c rows = none → ∀ (r : Addr) (H' : Hp), Same H0 H' → H0 r = none → Pic C H' x r w.toNat h.toNat d.toNat c.toNat (fun j => rows.getD j []) → Pq.LN H0 H' r c.toNat (fun j => rows.getD j []) → Q .non H') ∧ (∀ z, Pq.pictBad w h d c rows = some z → Sx.Err CE H0 z E)

theorem sc_Picture___init__ : FnScope ["self", "width", "height", "depth", "channels", "values", "row"] ["self", "width", "height", "depth", "channels", "values"] (defScope s_Picture___init__) := ⟨rfl, rfl, rfl, by decide +kernel, rfl, by decide +kernel, by decide +kernel⟩
theorem ok_Picture___init__ (T : Tx P K mg) : FnOk P w K mg base (L2.CX P w) 5 T.Picture___init__.a T.Picture___init__.d ["self", "width", "height", "depth", "channels", "values"] (sp_Picture_init K T.x_OutOfRange.C T.a_Picture) := by
  refine T.Picture___init__.f.okX sc_Picture___init__ (fun vs H Q E h => ?_) (fun cdv A outer s H vs Q E hr h => ⟨_, pss_cons (ps_expr (pe_callS (ok_check_kind T) (hr.mono (by decide)) rfl T.check_kind.g T.check_kind.f.kp T.check_kind.b (fun σ => passAt (takes_of rfl rfl rfl rfl) σ) (pa_cons (pv 1) (pa_cons (pv 2) (pa_cons (pv 3) (pa_cons (pv 4) pa_nil))))))
      (pss_cons (ps_expr (pe_callS (ok_check_size T) (hr.mono (by decide)) rfl T.check_size.g T.check_size.f.kp T.check_size.b (fun σ => passAt (takes_of rfl rfl rfl rfl) σ) (pa_cons (pv 1) (pa_cons (pv 2) (pa_cons (pv 4) pa_nil)))))
      (pss_cons (ps_expr (pe_callS (ok_check_values T) (hr.mono (by decide)) rfl T.check_values.g T.check_values.f.kp T.check_values.b (fun σ => passAt (takes_of rfl rfl rfl rfl) σ) (pa_cons (pv 1) (pa_cons (pv 2) (pa_cons (pv 3) (pa_cons (pv 4) (pa_cons (pv 5) pa_nil)))))))
      (pss_cons (ps_fld (pv 0) (pv 1) rfl)
      (pss_cons (ps_fld (pv 0) (pv 2) rfl)
      (pss_cons (ps_fld (pv 0) (pv 3) rfl)
      (pss_cons (ps_fld (pv 0) (pv 4) rfl)
      (pss_one (ps_fld (pv 0) (pe_lc (own := [("row", 6)]) (g := (gName 6)) (tt := tYes) rfl sc_Picture___init__.nd (pi_list (pv 5)) (blkOk_by (own := [("row", 6)]) (N := ["self", "width", "height", "depth", "channels", "values", "row"]) (sc := defScope s_Picture___init__) (by decide +kernel)) (fun _ _ _ _ _ => (pg_name (i := 6) sc_Picture___init__.nd rfl (Or.inl rfl))) (fun _ _ _ _ _ => pts_nil) (fun _ _ _ _ _ => pe_callTy (Gx.c_listK (K := K) rfl) rfl T.n_list (by decide +kernel) (pa_cons (pv 6) pa_nil))) rfl)))))))), ?_⟩)
  · obtain ⟨H0, x, dx, v, w, h, d, c, rows, rfl, _⟩ := h
    rfl
  · skip
    obtain ⟨H0, x, dx, v, w, h, d, c, rows, rfl, hx, s0, h0, hv, hlen, q, qe⟩ := h
    unfold Pq.pictBad at q qe
    walk_at "run"
    refine cs_check_kind (fun hk H1 s1 => ?_) (fun z e => (qe z (by rw [e])).mono s0)
    rw [hk] at q qe
    dsimp only at q qe
    obtain ⟨k1, k2, k3, k4⟩ := Sx.kindBad_none.mp hk
    have hx := s1 _ _ hx
    have s0 := s0.trans s1
    walk_at "run"
    refine cs_check_size k1 k2 (by omega) (fun a => ?_) (fun a => (qe _ (if_pos a)).mono s0)
    rw [if_neg (by omega)] at q qe
    obtain ⟨w, rfl⟩ : ∃ n : Nat, w = n := ⟨w.toNat, by omega⟩
    obtain ⟨h, rfl⟩ : ∃ n : Nat, h = n := ⟨h.toNat, by omega⟩
    obtain ⟨d, rfl⟩ : ∃ n : Nat, d = n := ⟨d.toNat, by omega⟩
    obtain ⟨c, rfl⟩ : ∃ n : Nat, c = n := ⟨c.toNat, by omega⟩
    rw [← Int.natCast_mul, Int.toNat_natCast, Int.toNat_natCast, Int.toNat_natCast] at q qe
    walk_at "run"
    refine cs_check_values (hv.keep s0) (by omega) (by omega) (by omega) (fun ok => ?_) (fun bad => (qe _ (if_neg bad)).mono s0)
    rw [if_pos ok] at q
    clear qe
    walk_at "run"
    refine Gx.sfp hx T.cl_Picture T.na_Picture_width (by walk_at "few") rfl ?_
    walk_at "run"
    refine Gx.sfp upd_same T.cl_Picture T.na_Picture_height (by walk_at "few") rfl ?_
    walk_at "run"
    refine Gx.sfp upd_same T.cl_Picture T.na_Picture_depth (by walk_at "few") rfl ?_
    walk_at "run"
    refine Gx.sfp upd_same T.cl_Picture T.na_Picture_channels (by walk_at "few") rfl ?_
    rw [upd_upd, upd_upd, upd_upd]
    have s2 : Same H0 (upd H1 x (.ins T.a_Picture dx (putF "channels" (.int (c : Int)) (putF "depth" (.int (d : Int)) (putF "height" (.int (h : Int)) (putF "width" (.int (w : Int)) [])))))) := Gx.same_up h0 s0
    have hx2 : upd H1 x (.ins T.a_Picture dx (putF "channels" (.int (c : Int)) (putF "depth" (.int (d : Int)) (putF "height" (.int (h : Int)) (putF "width" (.int (w : Int)) []))))) x = some (.ins T.a_Picture dx (putF "channels" (.int (c : Int)) (putF "depth" (.int (d : Int)) (putF "height" (.int (h : Int)) (putF "width" (.int (w : Int)) []))))) := upd_same
    generalize upd H1 x (.ins T.a_Picture dx (putF "channels" (.int (c : Int)) (putF "depth" (.int (d : Int)) (putF "height" (.int (h : Int)) (putF "width" (.int (w : Int)) []))))) = H2 at s2 hx2 ⊢
    obtain ⟨xs, r1, r2, r3⟩ := (hv.keep s2).all
    walk_at "run"
    refine Gx.lp (SqL.of r1) ?_
    refine Pq.lcLN (K := K) (walk_list (xs := xs)) (by omega) (fun j => rows.getD j []) (fun _ s => s.seq (SqL.of r1)) Gx.sameAt ?_ ?_
    · rintro i y H3 H3' R R0 hi s3 ⟨rfl, hy⟩ hr
      obtain ⟨b, rfl, hi2, hb⟩ := r3 i y hy
      have hb := s3 _ _ hb
      walk_at "run"
      refine Gx.listL (SqL.of hb) fun p hp => ?_
      exact hr p _ hp (Gx.same_new hp) upd_same
    intro r H3 hr s3 llr
    rw [r2, ok.1] at llr
    walk_at "run"
    refine Gx.sfp (s3 _ _ hx2) T.cl_Picture T.na_Picture__rows (by walk_at "few") rfl ?_
    rw [ini_Picture]
    obtain ⟨zs, hz, _⟩ := llr.ll.len
    have rx : r ≠ x := fun e => by rw [e, hx2] at hr; cases hr
    obtain ⟨ps, e1, e2, e4, e5, e3⟩ := llr
    have hx3 := s3 _ _ hx2
    have key : Pq.LN H0 (upd H3 x (.ins T.a_Picture dx (fl_Picture (.int (w : Int)) (.int (h : Int)) (.int (d : Int)) (.int (c : Int)) (.ref r)))) r c (fun j => rows.getD j []) := ⟨ps, by rw [upd_ne rx]; exact e1, e2, e4, fun a ha => ⟨s2.free (e5 a ha).1, (e5 a ha).2⟩, fun j a e => by rw [upd_ne (ne_of (e3 j a e) hx3 (by intro z; cases z))]; exact e3 j a e⟩
    exact q rfl r _ (Gx.same_up h0 (s2.trans s3)) (s2.free hr) ⟨⟨dx, upd_same⟩, key.ll⟩ key

theorem mksN_Picture {K : PySem.W.Frag} {CE C v : Addr} {w h d c : Int} {rows : List (List Int)} {H : Hp} {Q : VK} {E : XK} (hv : Pq.RW H v rows) (hl : rows.length ≤ 1000) (q : Pq.pictBad w h d c rows = none → ∀ x r H2, Same H H2 → H x = none → H r = none → Pic C H2 x r w.toNat h.toNat d.toNat c.toNat (fun j => rows.getD j []) → Pq.LN H H2 r c.toNat (fun j => rows.getD j []) → Q (.ref x) H2) (qe : ∀ z, Pq.pictBad w h d c rows = some z → Sx.Err CE H z E) :
    Sx.MkS C (sp_Picture_init K CE C) [.int w, .int h, .int d, .int c, .ref v] H Q E := by
  intro x dx hx hdx hne
  exact ⟨H, x, dx, v, w, h, d, c, rows, rfl, upd_same, Gx.same_up hx (Gx.same_new hdx), hx, hv, hl, fun ok r H2 s2 hr fr ln => ⟨rfl, q ok x r H2 s2 hx hr fr ln⟩, qe⟩
theorem mk_Picture {K : PySem.W.Frag} {CE C v : Addr} {w h d c : Nat} {rows : List (List Int)} {H : Hp} {Q : VK} {E : XK} (hw : 1 ≤ w ∧ w ≤ 64) (hh : 1 ≤ h ∧ h ≤ 64) (hd : 1 ≤ d ∧ d ≤ 8) (hc : c = 1 ∨ c = 3) (hs : w * h * c ≤ 3072) (hv : Pq.RW H v rows) (ok : Pq.rowsOk (w * h) d c rows) (q : ∀ x r H2, Same H H2 → H x = none → H r = none → Pic C H2 x r w h d c (fun j => rows.getD j []) → Q (.ref x) H2) :
    Gx.MkP C (sp_Picture_init K CE C) [.int (w : Int), .int (h : Int), .int (d : Int), .int (c : Int), .ref v] [] H Q E := by
  intro x dx hx hdx hne
  have ok' : Pq.pictBad (w : Int) (h : Int) (d : Int) (c : Int) rows = none := by
    unfold Pq.pictBad
    rw [Sx.kindBad_none.mpr ⟨by omega, by omega, by omega, by omega⟩]
    dsimp only
    rw [if_neg (by rw [← Int.natCast_mul, ← Int.natCast_mul]; omega), ← Int.natCast_mul, Int.toNat_natCast, Int.toNat_natCast, Int.toNat_natCast, if_pos ok]
  exact ⟨H, x, dx, v, w, h, d, c, rows, rfl, upd_same, Gx.same_up hx (Gx.same_new hdx), hx, hv, by have := ok.1; omega, fun _ r H2 s2 hr fr _ => ⟨rfl, q x r H2 s2 hx hr fr⟩, fun z e => by rw [ok'] at e; cases e⟩
theorem mkN_Picture {K : PySem.W.Frag} {CE C v : Addr} {w h d c : Nat} {rows : List (List Int)} {H : Hp} {Q : VK} {E : XK} (hw : 1 ≤ w ∧ w ≤ 64) (hh : 1 ≤ h ∧ h ≤ 64) (hd : 1 ≤ d ∧ d ≤ 8) (hc : c = 1 ∨ c = 3) (hs : w * h * c ≤ 3072) (hv : Pq.RW H v rows) (ok : Pq.rowsOk (w * h) d c rows) (q : ∀ x r H2, Same H H2 → H x = none → H r = none → Pic C H2 x r w h d c (fun j => rows.getD j []) → Pq.LN H H2 r c (fun j => rows.getD j []) → Q (.ref x) H2) :
    Gx.MkP C (sp_Picture_init K CE C) [.int (w : Int), .int (h : Int), .int (d : Int), .int (c : Int), .ref v] [] H Q E := by
  intro x dx hx hdx hne
  have ok' : Pq.pictBad (w : Int) (h : Int) (d : Int) (c : Int) rows = none := by
    unfold Pq.pictBad
    rw [Sx.kindBad_none.mpr ⟨by omega, by omega, by omega, by omega⟩]
    dsimp only
    rw [if_neg (by rw [← Int.natCast_mul, ← Int.natCast_mul]; omega), ← Int.natCast_mul, Int.toNat_natCast, Int.toNat_natCast, Int.toNat_natCast, if_pos ok]
  exact ⟨H, x, dx, v, w, h, d, c, rows, rfl, upd_same, Gx.same_up hx (Gx.same_new hdx), hx, hv, by have := ok.1; omega, fun _ r H2 s2 hr fr ln => ⟨rfl, q x r H2 s2 hx hr fr (by rw [Int.toNat_natCast] at ln; exact ln)⟩, fun z e => by rw [ok'] at e; cases e⟩

noncomputable def sp_crop_pixels (K : PySem.W.Frag) (CF : Addr) : Sp := fun vs H Q _ => ∃ (x r y : Addr) (w h d c t l p w2 h2 d2 c2 t2 : Nat) (v3 v4 : V), vs = [.ref x, .ref r, .ref y] ∧ Frm CF H x w h d c t ∧ SqT K H r [.int (l : Int), .int (p : Int), v3, v4] ∧ Frm CF H y w2 h2 d2 c2 t2 ∧ w ≤ 64 ∧ h ≤ 64 ∧ t ≤ 16 ∧ 1 ≤ w2 ∧ l * t + w2 ≤ w ∧ p * t + h2 ≤ h ∧ l ≤ 64 ∧ p ≤ 64 ∧
  ∀ q1 H', H q1 = none → Same H H' → H' q1 = some (.lst ((List.range (h2 * w2)).map fun m => V.int ((Rt.rp w t l p w2 m : Nat) : Int))) → Q (.ref q1) H'

theorem sc_crop_pixels : FnScope ["frame", "rectangle", "part", "left", "top", "row", "column"] ["frame", "rectangle", "part"] (defScope s_crop_pixels) := ⟨rfl, rfl, rfl, by decide +kernel, rfl, by decide +kernel, by decide +kernel⟩
theorem ok_crop_pixels (T : Tx P K mg) : FnOk P w K mg base CX0 1 T.crop_pixels.a T.crop_pixels.d ["frame", "rectangle", "part"] (sp_crop_pixels K T.a_Frame) := by
  refine T.crop_pixels.f.ok sc_crop_pixels (fun vs H Q E h => ?_) (fun cdv A outer s H vs Q E hr h => ⟨_, pss_cons (ps_set (i := 3) sc_crop_pixels.nd rfl (Or.inr rfl) (pe_op op_mul (pe_ix (Gx.ix_seqK (K := K) rfl) (pv 1) (pe_int) (fun _ _ => rfl)) (pe_fld (pv 0) rfl)))
      (pss_cons (ps_set (i := 4) sc_crop_pixels.nd rfl (Or.inl rfl) (pe_op op_mul (pe_ix (Gx.ix_seqK (K := K) rfl) (pv 1) (pe_int) (fun _ _ => rfl)) (pe_fld (pv 0) rfl)))
      (pss_one (ps_ret (pe_lc2 (own := [("row", 5), ("column", 6)]) (vs1 := [6]) (g := (gName 5)) (g1 := (gName 6)) (tt := tYes) (tt1 := tYes) rfl sc_crop_pixels.nd (pi_range2 rfl T.n_range (pa_cons (pv 4) (pa_cons (pe_op op_add (pv 4) (pe_fld (pv 2) rfl)) pa_nil))) (blkOk_by (own := [("row", 5), ("column", 6)]) (N := ["frame", "rectangle", "part", "left", "top", "row", "column"]) (sc := defScope s_crop_pixels) (by decide +kernel)) (by decide) (fun _ _ _ _ _ => (pg_name (i := 5) sc_crop_pixels.nd rfl (Or.inl rfl))) (fun _ _ _ _ _ => pts_nil) (fun _ _ _ _ _ => pi_range2 rfl T.n_range (pa_cons (pv 3) (pa_cons (pe_op op_add (pv 3) (Gx.pe_fldK (K := K) rfl (pv 2) rfl)) pa_nil))) (fun _ _ _ _ _ => (pg_name (i := 6) sc_crop_pixels.nd rfl (Or.inl rfl))) (fun _ _ _ _ _ => pts_nil) (fun _ _ _ _ _ => pe_op op_add (pe_op op_mul (pv 5) (Gx.pe_fldK (K := K) rfl (pv 0) rfl)) (pv 6)))))), ?_⟩)
  · obtain ⟨x, r, y, w, h, d, c, t, l, p, w2, h2, d2, c2, t2, v3, v4, rfl, _⟩ := h
    rfl
  · skip
    obtain ⟨x, r, y, w, h, d, c, t, l, p, w2, h2, d2, c2, t2, v3, v4, rfl, fr, hr', fr2, hw, hh, ht, hw2, hl, hp, hl6, hp6, q⟩ := h
    obtain ⟨dx, hx⟩ := id fr
    obtain ⟨dy, hy⟩ := id fr2
    walk_at "run"
    rw [← Int.natCast_mul, ← Int.natCast_mul]
    have hrp : (fun m => V.int ((Rt.rp w t l p w2 m : Nat) : Int)) = fun m => V.int (((p * t + m / w2) * w + (l * t + m % w2) : Nat) : Int) := rfl
    rw [hrp] at q
    clear hrp
    generalize l * t = X0 at *
    generalize p * t = Y0 at *
    walk_at "run"
    refine Gx.r2 ⟨by omega, by omega, by omega, by omega⟩ ?_
    rw [show ((Y0 : Int) + (h2 : Int) - (Y0 : Int)).toNat = h2 by omega]
    have fin := Gd.made_flat w2 hw2 (fun i j => V.int (((Y0 + i) * w + (X0 + j) : Nat) : Int)) h2
    refine Gx.lc2O walk_range (fun D i H' => H D = none ∧ Same H H' ∧ H' D = some (.lst (Gx.made w2 (fun i j => .int (((Y0 + i) * w + (X0 + j) : Nat) : Int)) i)))
      (fun D hD => ⟨hD, Gx.same_new hD, upd_same⟩) (fun _ _ _ _ _ => trivial) ?_ (fun D H' hD hp => q D H' hp.1 hp.2.1 (by rw [hp.2.2, fin]))
    rintro D i v H3 H3' hi ⟨hD, s3, h3⟩ ⟨rfl, hv⟩
    have hv2 : v = .int ((Y0 + i : Nat) : Int) := hv.trans (congrArg V.int (by omega))
    subst hv2
    have hy3 := s3 _ _ hy
    walk_at "run"
    refine Gx.r2 ⟨by omega, by omega, by omega, by omega⟩ ?_
    rw [show ((X0 : Int) + (w2 : Int) - (X0 : Int)).toNat = w2 by omega]
    refine Gx.lc2I walk_range (fun j H' => (∀ a, a ≠ D → H' a = H3' a) ∧ H' D = some (.lst (Gx.made w2 (fun i j => .int (((Y0 + i) * w + (X0 + j) : Nat) : Int)) i ++ (List.range j).map fun j => .int (((Y0 + i) * w + (X0 + j) : Nat) : Int))))
      ⟨fun _ _ => rfl, by rw [h3]; simp⟩ (fun _ _ _ _ => trivial) ?_ ?_
    · rintro j v H4 H4' hj ⟨k4, h4⟩ ⟨rfl, hv⟩
      have hv2 : v = .int ((X0 + j : Nat) : Int) := hv.trans (congrArg V.int (by omega))
      subst hv2
      have hx3 := s3 _ _ hx
      have xD : x ≠ D := ne_of hx3 h3 (by intro z; cases z)
      have hx := (k4 x xD).trans hx3
      walk_at "go"
      refine Gx.ic (.inr (by omega)) ?_
      walk_at "go"
      refine ⟨_, h4, ?_, fun a ha => by rw [upd_ne ha]; exact k4 a ha, ?_⟩
      · rw [List.length_append, Gx.made_len, List.length_map, List.length_range, sizeLine_eq]
        have : i * w2 ≤ 64 * 64 := Nat.mul_le_mul (by omega) (by omega)
        omega
      · rw [upd_same, List.range_succ, List.map_append, List.append_assoc, ← Int.natCast_mul, ← Int.natCast_add]; rfl
    · rintro H4 ⟨k4, h4⟩
      refine ⟨hD, fun a o e => ?_, by rw [h4, Gx.made_succ]⟩
      by_cases ha : a = D
      · subst ha; rw [hD] at e; cases e
      · rw [k4 a ha]; exact s3 a o e

theorem cp_crop_pixels {K : PySem.W.Frag} {CF x r y : Addr} {w h d c t l p w2 h2 d2 c2 t2 : Nat} {v3 v4 : V} {H : Hp} {Q : VK} {E : XK} (fr : Frm CF H x w h d c t) (hr : SqT K H r [.int (l : Int), .int (p : Int), v3, v4]) (fr2 : Frm CF H y w2 h2 d2 c2 t2) (hw : w ≤ 64) (hh : h ≤ 64) (ht : t ≤ 16) (hw2 : 1 ≤ w2) (hl : l * t + w2 ≤ w) (hp : p * t + h2 ≤ h) (hl6 : l ≤ 64) (hp6 : p ≤ 64)
  (q : ∀ q1 H', H q1 = none → Same H H' → H' q1 = some (.lst ((List.range (h2 * w2)).map fun m => V.int ((Rt.rp w t l p w2 m : Nat) : Int))) → Q (.ref q1) H') : Gx.CP (sp_crop_pixels K CF) [.ref x, .ref r, .ref y] [] H Q E := ⟨x, r, y, w, h, d, c, t, l, p, w2, h2, d2, c2, t2, v3, v4, rfl, fr, hr, fr2, hw, hh, ht, hw2, hl, hp, hl6, hp6, q⟩

noncomputable def sp_Frame_init (CE C : Addr) : Sp := fun vs H Q E => ∃ (H0 : Hp) (x dx : Addr) (w h d c t : Int), vs = [.ref x, .int w, .int h, .int d, .int c, .int t] ∧ H x = some (.ins C dx []) ∧ Same H0 H ∧ H0 x = none ∧
  (Sx.frameBad w h d c t = none → ∀ (H' : Hp), Same H0 H' → Frm C H' x w.toNat h.toNat d.toNat c.toNat t.toNat → Q .non H') ∧ (∀ z, Sx.frameBad w h d c t = some z → Sx.Err CE H0 z E)

theorem sc_Frame___init__ : FnScope ["self", "width", "height", "depth", "channels", "tile"] ["self", "width", "height", "depth", "channels", "tile"] (defScope s_Frame___init__) := ⟨rfl, rfl, rfl, by decide +kernel, rfl, by decide +kernel, by decide +kernel⟩
theorem ok_Frame___init__ (T : Tx P K mg) : FnOk P w K mg base (L2.CX P w) 5 T.Frame___init__.a T.Frame___init__.d ["self", "width", "height", "depth", "channels", "tile"] (sp_Frame_init T.x_OutOfRange.C T.a_Frame) := by
  refine T.Frame___init__.f.okX sc_Frame___init__ (fun vs H Q E h => ?_) (fun cdv A outer s H vs Q E hr h => ⟨_, pss_cons (ps_expr (pe_callS (ok_check_kind T) (hr.mono (by decide)) rfl T.check_kind.g T.check_kind.f.kp T.check_kind.b (fun σ => passAt (takes_of rfl rfl rfl rfl) σ) (pa_cons (pv 1) (pa_cons (pv 2) (pa_cons (pv 3) (pa_cons (pv 4) pa_nil))))))
      (pss_cons (ps_expr (pe_callS (ok_check_range T) (hr.mono (by decide)) rfl T.check_range.g T.check_range.f.kp T.check_range.b (fun σ => passAt (takes_of rfl rfl rfl rfl) σ) (pa_cons (pe_str) (pa_cons (pv 5) (pa_cons (pe_int) (pa_cons (pe_glob (v := .int 16) rfl T.c_TILE_MOST ⟨_, rfl⟩) pa_nil))))))
      (pss_cons (ps_expr (pe_callS (ok_check_size T) (hr.mono (by decide)) rfl T.check_size.g T.check_size.f.kp T.check_size.b (fun σ => passAt (takes_of rfl rfl rfl rfl) σ) (pa_cons (pv 1) (pa_cons (pv 2) (pa_cons (pv 4) pa_nil)))))
      (pss_cons (ps_fld (pv 0) (pv 1) rfl)
      (pss_cons (ps_fld (pv 0) (pv 2) rfl)
      (pss_cons (ps_fld (pv 0) (pv 3) rfl)
      (pss_cons (ps_fld (pv 0) (pv 4) rfl)
      (pss_one (ps_fld (pv 0) (pv 5) rfl)))))))), ?_⟩)
  · obtain ⟨H0, x, dx, w, h, d, c, t, rfl, _⟩ := h
    rfl
  · skip
    obtain ⟨H0, x, dx, w, h, d, c, t, rfl, hx, s0, h0, q, qe⟩ := h
    unfold Sx.frameBad at q qe
    walk_at "go"
    refine cs_check_kind (fun hk H1 s1 => ?_) (fun z e => (qe z (by rw [e])).mono s0)
    rw [hk] at q qe
    dsimp only at q qe
    obtain ⟨k1, k2, k3, k4⟩ := Sx.kindBad_none.mp hk
    have hx := s1 _ _ hx
    have s0 := s0.trans s1
    walk_at "go"
    refine cs_check_range (fun a1 a2 => ?_) (fun a => (qe _ (if_pos a)).mono s0)
    rw [if_neg (not_not_intro ⟨a1, a2⟩)] at q qe
    walk_at "go"
    refine cs_check_size k1 k2 (by omega) (fun a => ?_) (fun a => (qe _ (if_pos a)).mono s0)
    rw [if_neg (by omega)] at q
    walk_at "go"
    refine Gx.sfp hx T.cl_Frame T.na_Frame_width (by walk_at "few") rfl ?_
    walk_at "go"
    refine Gx.sfp upd_same T.cl_Frame T.na_Frame_height (by walk_at "few") rfl ?_
    walk_at "go"
    refine Gx.sfp upd_same T.cl_Frame T.na_Frame_depth (by walk_at "few") rfl ?_
    walk_at "go"
    refine Gx.sfp upd_same T.cl_Frame T.na_Frame_channels (by walk_at "few") rfl ?_
    walk_at "go"
    refine Gx.sfp upd_same T.cl_Frame T.na_Frame_tile (by walk_at "few") rfl ?_
    rw [upd_upd, upd_upd, upd_upd, upd_upd, ini_Frame]
    refine q rfl _ (Gx.same_up h0 s0) ⟨dx, ?_⟩
    rw [upd_same, Int.toNat_of_nonneg (by omega), Int.toNat_of_nonneg (by omega), Int.toNat_of_nonneg (by omega), Int.toNat_of_nonneg (by omega), Int.toNat_of_nonneg (by omega)]

theorem mk_Frame {CE C : Addr} {w h d c t : Nat} {H : Hp} {Q : VK} {E : XK} (hw : 1 ≤ w ∧ w ≤ 64) (hh : 1 ≤ h ∧ h ≤ 64) (hd : 1 ≤ d ∧ d ≤ 8) (hc : c = 1 ∨ c = 3) (ht : 1 ≤ t ∧ t ≤ 16) (hs : w * h * c ≤ 3072) (q : ∀ x H2, Same H H2 → H x = none → Frm C H2 x w h d c t → Q (.ref x) H2) :
    Gx.MkP C (sp_Frame_init CE C) [.int (w : Int), .int (h : Int), .int (d : Int), .int (c : Int), .int (t : Int)] [] H Q E := by
  intro x dx hx hdx hne
  have ok : Sx.frameBad (w : Int) (h : Int) (d : Int) (c : Int) (t : Int) = none := Sx.frameBad_none.mpr ⟨by omega, by omega, by omega, by omega, by omega, by rw [← Int.natCast_mul, ← Int.natCast_mul]; omega⟩
  exact ⟨H, x, dx, w, h, d, c, t, rfl, upd_same, Gx.same_up hx (Gx.same_new hdx), hx, fun _ H2 s2 fr => ⟨rfl, q x H2 s2 hx fr⟩, fun z e => by rw [ok] at e; cases e⟩
theorem mks_Frame {CE C : Addr} {w h d c t : Int} {H : Hp} {Q : VK} {E : XK} (q : Sx.frameBad w h d c t = none → ∀ x H2, Same H H2 → H x = none → Frm C H2 x w.toNat h.toNat d.toNat c.toNat t.toNat → Q (.ref x) H2) (qe : ∀ z, Sx.frameBad w h d c t = some z → Sx.Err CE H z E) :
    Sx.MkS C (sp_Frame_init CE C) [.int w, .int h, .int d, .int c, .int t] H Q E := by
  intro x dx hx hdx hne
  exact ⟨H, x, dx, w, h, d, c, t, rfl, upd_same, Gx.same_up hx (Gx.same_new hdx), hx, fun ok H2 s2 fr => ⟨rfl, q ok x H2 s2 hx fr⟩, qe⟩

noncomputable def sidesOk (l p w h : Int) : Prop := (0 ≤ l ∧ l ≤ 63) ∧ (0 ≤ p ∧ p ≤ 63) ∧ (1 ≤ w ∧ w ≤ 64) ∧ (1 ≤ h ∧ h ≤ 64)
noncomputable def sp_check_sides (C : Addr) : Sp := fun vs H Q E => ∃ (z : Str) (l p w h : Int), vs = [.str z, .int l, .int p, .int w, .int h] ∧ z.length ≤ 1000 ∧ (sidesOk l p w h → Q .non H) ∧ (¬ sidesOk l p w h → Sx.Err C H z E)

theorem sc_check_sides : FnScope ["name", "left", "top", "width", "height"] ["name", "left", "top", "width", "height"] (defScope s_check_sides) := ⟨rfl, rfl, rfl, by decide +kernel, rfl, by decide +kernel, by decide +kernel⟩
theorem ok_check_sides (T : Tx P K mg) : FnOk P w K mg base (L2.CX P w) 4 T.check_sides.a T.check_sides.d ["name", "left", "top", "width", "height"] (sp_check_sides T.x_OutOfRange.C) := by
  refine T.check_sides.f.okX sc_check_sides (fun vs H Q E h => ?_) (fun cdv A outer s H vs Q E hr h => ⟨_, pss_cons (ps_expr (pe_callS (ok_check_range T) (hr.mono (by decide)) rfl T.check_range.g T.check_range.f.kp T.check_range.b (fun σ => passAt (takes_of rfl rfl rfl rfl) σ) (pa_cons (pv 0) (pa_cons (pv 1) (pa_cons (pe_int) (pa_cons (pe_op op_sub (pe_glob (v := .int 64) rfl T.c_SIDE_MOST ⟨_, rfl⟩) (pe_int)) pa_nil))))))
      (pss_cons (ps_expr (pe_callS (ok_check_range T) (hr.mono (by decide)) rfl T.check_range.g T.check_range.f.kp T.check_range.b (fun σ => passAt (takes_of rfl rfl rfl rfl) σ) (pa_cons (pv 0) (pa_cons (pv 2) (pa_cons (pe_int) (pa_cons (pe_op op_sub (pe_glob (v := .int 64) rfl T.c_SIDE_MOST ⟨_, rfl⟩) (pe_int)) pa_nil))))))
      (pss_cons (ps_expr (pe_callS (ok_check_range T) (hr.mono (by decide)) rfl T.check_range.g T.check_range.f.kp T.check_range.b (fun σ => passAt (takes_of rfl rfl rfl rfl) σ) (pa_cons (pv 0) (pa_cons (pv 3) (pa_cons (pe_int) (pa_cons (pe_glob (v := .int 64) rfl T.c_SIDE_MOST ⟨_, rfl⟩) pa_nil))))))
      (pss_one (ps_expr (pe_callS (ok_check_range T) (hr.mono (by decide)) rfl T.check_range.g T.check_range.f.kp T.check_range.b (fun σ => passAt (takes_of rfl rfl rfl rfl) σ) (pa_cons (pv 0) (pa_cons (pv 4) (pa_cons (pe_int) (pa_cons (pe_glob (v := .int 64) rfl T.c_SIDE_MOST ⟨_, rfl⟩) pa_nil))))))))), ?_⟩)
  · obtain ⟨z, l, p, w, h, rfl, _⟩ := h
    rfl
  · skip
    obtain ⟨z, l, p, w, h, rfl, hz, q, qe⟩ := h
    walk_at "run"
    refine cs_check_range (fun a1 a2 => ?_) (fun n => qe fun k => n k.1) hz
    walk_at "run"
    refine cs_check_range (fun b1 b2 => ?_) (fun n => qe fun k => n k.2.1) hz
    walk_at "run"
    refine cs_check_range (fun c1 c2 => ?_) (fun n => qe fun k => n k.2.2.1) hz
    walk_at "run"
    refine cs_check_range (fun d1 d2 => ?_) (fun n => qe fun k => n k.2.2.2) hz
    walk_at "run"
    exact q ⟨⟨a1, a2⟩, ⟨b1, b2⟩, ⟨c1, c2⟩, d1, d2⟩

theorem cs_check_sides {C : Addr} {z : Str} {l p w h : Int} {H : Hp} {Q : VK} {E : XK} (q : sidesOk l p w h → Q .non H) (qe : ¬ sidesOk l p w h → Sx.Err C H z E) (hz : z.length ≤ 1000 := by decide) : Sx.CS (sp_check_sides C) [.str z, .int l, .int p, .int w, .int h] H Q E := ⟨z, l, p, w, h, rfl, hz, q, qe⟩

noncomputable def sp_check_rectangle (K : PySem.W.Frag) (CE : Addr) : Sp := fun vs H Q E => ∃ (r : Addr) (l p w h : Int), vs = [.ref r] ∧ SqT K H r [.int l, .int p, .int w, .int h] ∧ (sidesOk l p w h → Q .non H) ∧ (¬ sidesOk l p w h → Sx.Err CE H "rectangle" E)

theorem sc_check_rectangle : FnScope ["rectangle", "left", "top", "width", "height"] ["rectangle"] (defScope s_check_rectangle) := ⟨rfl, rfl, rfl, by decide +kernel, rfl, by decide +kernel, by decide +kernel⟩
theorem ok_check_rectangle (T : Tx P K mg) : FnOk P w K mg base (L2.CX P w) 5 T.check_rectangle.a T.check_rectangle.d ["rectangle"] (sp_check_rectangle K T.x_OutOfRange.C) := by
  refine T.check_rectangle.f.okX sc_check_rectangle (fun vs H Q E h => ?_) (fun cdv A outer s H vs Q E hr h => ⟨_, pss_cons (ps_asg (pv 0) (pg_tup rfl (pgs_cons (pg_name (i := 1) sc_check_rectangle.nd rfl (Or.inl rfl)) (pgs_cons (pg_name (i := 2) sc_check_rectangle.nd rfl (Or.inl rfl)) (pgs_cons (pg_name (i := 3) sc_check_rectangle.nd rfl (Or.inl rfl)) (pgs_cons (pg_name (i := 4) sc_check_rectangle.nd rfl (Or.inl rfl)) pgs_nil))))))
      (pss_one (ps_expr (pe_callS (ok_check_sides T) (hr.mono (by decide)) rfl T.check_sides.g T.check_sides.f.kp T.check_sides.b (fun σ => passAt (takes_of rfl rfl rfl rfl) σ) (pa_cons (pe_str) (pa_cons (pv 1) (pa_cons (pv 2) (pa_cons (pv 3) (pa_cons (pv 4) pa_nil)))))))), ?_⟩)
  · obtain ⟨r, l, p, w, h, rfl, _⟩ := h
    rfl
  · skip
    obtain ⟨r, l, p, w, h, rfl, hr', q, qe⟩ := h
    walk_at "run"
    refine cs_check_sides (fun k => ?_) (fun k => qe k)
    walk_at "run"
    exact q k

theorem cs_check_rectangle {K : PySem.W.Frag} {CE r : Addr} {l p w h : Int} {H : Hp} {Q : VK} {E : XK} (hr : SqT K H r [.int l, .int p, .int w, .int h]) (q : sidesOk l p w h → Q .non H) (qe : ¬ sidesOk l p w h → Sx.Err CE H "rectangle" E) : Sx.CS (sp_check_rectangle K CE) [.ref r] H Q E := ⟨r, l, p, w, h, rfl, hr, q, qe⟩

noncomputable def sp_check_tiles (K : PySem.W.Frag) (CE CO CF : Addr) : Sp := fun vs H Q E => ∃ (x r : Addr) (w h d c t : Nat) (l p a b : Int), vs = [.ref x, .ref r] ∧ Frm CF H x w h d c t ∧ 1 ≤ t ∧ t ≤ 16 ∧ w ≤ 64 ∧ h ≤ 64 ∧ SqT K H r [.int l, .int p, .int a, .int b] ∧ (Rt.rectBad (Gd.ac w t) (Gd.ac h t) l p a b = none → Q .non H) ∧ (Rt.rectBad (Gd.ac w t) (Gd.ac h t) l p a b = some (some ("rectangle" : Str)) → Sx.Err CE H "rectangle" E) ∧ (Rt.rectBad (Gd.ac w t) (Gd.ac h t) l p a b = some none → Sx.ErrB CO H E)

theorem sc_check_tiles : FnScope ["frame", "rectangle", "left", "top", "width", "height"] ["frame", "rectangle"] (defScope s_check_tiles) := ⟨rfl, rfl, rfl, by decide +kernel, rfl, by decide +kernel, by decide +kernel⟩
theorem ok_check_tiles (T : Tx P K mg) : FnOk P w K mg base (L2.CX P w) 6 T.check_tiles.a T.check_tiles.d ["frame", "rectangle"] (sp_check_tiles K T.x_OutOfRange.C T.y_OutsidePicture.C T.a_Frame) := by
  refine T.check_tiles.f.okX sc_check_tiles (fun vs H Q E h => ?_) (fun cdv A outer s H vs Q E hr h => ⟨_, pss_cons (ps_expr (pe_callS (ok_check_rectangle T) (hr.mono (by decide)) rfl T.check_rectangle.g T.check_rectangle.f.kp T.check_rectangle.b (fun σ => passAt (takes_of rfl rfl rfl rfl) σ) (pa_cons (pv 1) pa_nil)))
      (pss_cons (ps_asg (pv 1) (pg_tup rfl (pgs_cons (pg_name (i := 2) sc_check_tiles.nd rfl (Or.inl rfl)) (pgs_cons (pg_name (i := 3) sc_check_tiles.nd rfl (Or.inl rfl)) (pgs_cons (pg_name (i := 4) sc_check_tiles.nd rfl (Or.inl rfl)) (pgs_cons (pg_name (i := 5) sc_check_tiles.nd rfl (Or.inl rfl)) pgs_nil))))))
      (pss_one (ps_if (PW.pt (pw_or (pt_cmpR op_gt (pe_op op_add (pv 2) (pv 4)) (pe_meth0 (pv 0) T.cl_Frame T.Frame_across.m (ok_Frame_across T) (hr.mono (by decide)) T.Frame_across.b .nil pass0) (nomark _)) (pw_or1 (pt_cmpR op_gt (pe_op op_add (pv 3) (pv 5)) (pe_meth0 (pv 0) T.cl_Frame T.Frame_down.m (ok_Frame_down T) (hr.mono (by decide)) T.Frame_down.b .nil pass0) (nomark _))))) (pss_one (ps_raise rfl (takes_of rfl rfl rfl rfl) (pmk_own PySem.F.excBase_ValueError T.y_OutsidePicture.x T.y_OutsidePicture.g T.y_OutsidePicture.k (raises_own T.y_OutsidePicture.b T.y_OutsidePicture.t) rfl))) (pss_nil)))), ?_⟩)
  · obtain ⟨x, r, w, h, d, c, t, l, p, a, b, rfl, _⟩ := h
    rfl
  · skip
    obtain ⟨x, r, w, h, d, c, t, l, p, a, b, rfl, fr, ht1, ht2, hw, hh, hr', q, qe, qo⟩ := h
    obtain ⟨dx, hx⟩ := id fr
    unfold Rt.rectBad at q qe qo
    walk_at "run"
    refine cs_check_rectangle hr' (fun k => ?_) (fun k => qe (if_pos k))
    rw [if_neg (not_not_intro (show Rt.sOk l p a b from k))] at q qo
    clear qe
    walk_at "run"
    refine Gx.mp hx no_Frame_across ?_
    walk_at "run"
    refine cp_Frame_across fr ht1 ht2 ?_
    walk_at "run"
    refine Gx.if_d (fun e => ?_) (fun e => ?_)
    · walk_at "run"
      exact qo (if_pos (.inl e)) H (Same.refl _)
    walk_at "run"
    refine Gx.mp hx no_Frame_down ?_
    walk_at "run"
    refine cp_Frame_down fr ht1 ht2 ?_
    walk_at "run"
    refine Gx.if_d (fun e2 => ?_) (fun e2 => ?_)
    · walk_at "run"
      exact qo (if_pos (.inr e2)) H (Same.refl _)
    walk_at "run"
    exact q (if_neg (by omega))

theorem cs_check_tiles {K : PySem.W.Frag} {CE CO CF x r : Addr} {w h d c t : Nat} {l p a b : Int} {H : Hp} {Q : VK} {E : XK} (fr : Frm CF H x w h d c t) (h1 : 1 ≤ t) (h2 : t ≤ 16) (hw : w ≤ 64) (hh : h ≤ 64) (hr : SqT K H r [.int l, .int p, .int a, .int b]) (q : Rt.rectBad (Gd.ac w t) (Gd.ac h t) l p a b = none → Q .non H) (qe : Rt.rectBad (Gd.ac w t) (Gd.ac h t) l p a b = some (some ("rectangle" : Str)) → Sx.Err CE H "rectangle" E) (qo : Rt.rectBad (Gd.ac w t) (Gd.ac h t) l p a b = some none → Sx.ErrB CO H E) :
  Sx.CS (sp_check_tiles K CE CO CF) [.ref x, .ref r] H Q E := ⟨x, r, w, h, d, c, t, l, p, a, b, rfl, fr, h1, h2, hw, hh, hr, q, qe, qo⟩

noncomputable def sp_crop_frame (K : PySem.W.Frag) (CE CO CF : Addr) : Sp := fun vs H Q E => ∃ (x r : Addr) (w h d c t : Nat) (l p a b : Int), vs = [.ref x, .ref r] ∧ Frm CF H x w h d c t ∧ Rg.Dim w h d c t ∧ SqT K H r [.int l, .int p, .int a, .int b] ∧ (Rt.rectBad (Gd.ac w t) (Gd.ac h t) l p a b = none → ∀ y H', Same H H' → H y = none → Frm CF H' y (Rt.cw w t l.toNat a.toNat) (Rt.cw h t p.toNat b.toNat) d c t → Rg.Dim (Rt.cw w t l.toNat a.toNat) (Rt.cw h t p.toNat b.toNat) d c t → Q (.ref y) H') ∧ (Rt.rectBad (Gd.ac w t) (Gd.ac h t) l p a b = some (some ("rectangle" : Str)) → Sx.Err CE H "rectangle" E) ∧ (Rt.rectBad (Gd.ac w t) (Gd.ac h t) l p a b = some none → Sx.ErrB CO H E)

theorem sc_crop_frame : FnScope ["frame", "rectangle", "left", "top", "width", "height", "side", "columns", "rows"] ["frame", "rectangle"] (defScope s_crop_frame) := ⟨rfl, rfl, rfl, by decide +kernel, rfl, by decide +kernel, by decide +kernel⟩
theorem ok_crop_frame (T : Tx P K mg) : FnOk P w K mg base (L2.CX P w) 7 T.crop_frame.a T.crop_frame.d ["frame", "rectangle"] (sp_crop_frame K T.x_OutOfRange.C T.y_OutsidePicture.C T.a_Frame) := by
  refine T.crop_frame.f.okX sc_crop_frame (fun vs H Q E h => ?_) (fun cdv A outer s H vs Q E hr h => ⟨_, pss_cons (ps_expr (pe_callS (ok_check_tiles T) (hr.mono (by decide)) rfl T.check_tiles.g T.check_tiles.f.kp T.check_tiles.b (fun σ => passAt (takes_of rfl rfl rfl rfl) σ) (pa_cons (pv 0) (pa_cons (pv 1) pa_nil))))
      (pss_cons (ps_asg (pv 1) (pg_tup rfl (pgs_cons (pg_name (i := 2) sc_crop_frame.nd rfl (Or.inl rfl)) (pgs_cons (pg_name (i := 3) sc_crop_frame.nd rfl (Or.inl rfl)) (pgs_cons (pg_name (i := 4) sc_crop_frame.nd rfl (Or.inl rfl)) (pgs_cons (pg_name (i := 5) sc_crop_frame.nd rfl (Or.inl rfl)) pgs_nil))))))
      (pss_cons (ps_set (i := 6) sc_crop_frame.nd rfl (Or.inl rfl) (pe_fld (pv 0) rfl))
      (pss_cons (ps_set (i := 7) sc_crop_frame.nd rfl (Or.inl rfl) (pe_callB (Gx.c_min2 rfl) rfl T.n_min (by decide +kernel) (pa_cons (pe_op op_mul (pv 4) (pv 6)) (pa_cons (pe_op op_sub (pe_fld (pv 0) rfl) (pe_op op_mul (pv 2) (pv 6))) pa_nil))))
      (pss_cons (ps_set (i := 8) sc_crop_frame.nd rfl (Or.inl rfl) (pe_callB (Gx.c_min2 rfl) rfl T.n_min (by decide +kernel) (pa_cons (pe_op op_mul (pv 5) (pv 6)) (pa_cons (pe_op op_sub (pe_fld (pv 0) rfl) (pe_op op_mul (pv 3) (pv 6))) pa_nil))))
      (pss_one (ps_ret (Sx.pe_makeS ⟨T.mk_Frame, T.Frame___init__.m.at_, T.Frame___init__.m.fn, T.kp_Frame⟩ (ok_Frame___init__ T) (hr.mono (by decide)) rfl T.g_Frame T.Frame___init__.b (fun σ => passAt (takes_of rfl rfl rfl rfl) σ) (pa_cons (pv 7) (pa_cons (pv 8) (pa_cons (pe_fld (pv 0) rfl) (pa_cons (pe_fld (pv 0) rfl) (pa_cons (pv 6) pa_nil)))))))))))), ?_⟩)
  · obtain ⟨x, r, w, h, d, c, t, l, p, a, b, rfl, _⟩ := h
    rfl
  · skip
    obtain ⟨x, r, w, h, d, c, t, l, p, a, b, rfl, fr, D, hr', q, qe, qo⟩ := h
    obtain ⟨dx, hx⟩ := id fr
    obtain ⟨a1, a2, a3, a4, a5, a6, a7, a8, a9, a10⟩ := id D
    walk_at "run"
    refine cs_check_tiles fr a8 a9 a2 a4 hr' (fun ok => ?_) qe qo
    obtain ⟨b1, b2, b3, b4, b5, b6⟩ := Rt.rectBad_none ok
    have q := q ok
    clear qe qo
    obtain ⟨l, rfl⟩ : ∃ n : Nat, l = n := ⟨l.toNat, by omega⟩
    obtain ⟨p, rfl⟩ : ∃ n : Nat, p = n := ⟨p.toNat, by omega⟩
    obtain ⟨a, rfl⟩ : ∃ n : Nat, a = n := ⟨a.toNat, by omega⟩
    obtain ⟨b, rfl⟩ : ∃ n : Nat, b = n := ⟨b.toNat, by omega⟩
    rw [Int.toNat_natCast, Int.toNat_natCast, Int.toNat_natCast, Int.toNat_natCast] at q
    obtain ⟨c1, c2⟩ := Rt.cw_pos (n := w) (t := t) (a := l) (b := a) (by omega) (by omega) (by omega)
    obtain ⟨c3, c4⟩ := Rt.cw_pos (n := h) (t := t) (a := p) (b := b) (by omega) (by omega) (by omega)
    have e1 := Gd.ac_mul (n := w) (t := t) (k := l) (by omega) (by omega)
    have e2 := Gd.ac_mul (n := h) (t := t) (k := p) (by omega) (by omega)
    have big : Rt.cw w t l a * Rt.cw h t p b * c ≤ 3072 := Nat.le_trans (Nat.mul_le_mul_right c (Nat.mul_le_mul (by omega) (by omega))) a10
    walk_at "run"
    refine Gx.min2 ?_
    rw [show (if (w : Int) - (l : Int) * (t : Int) < (a : Int) * (t : Int) then (w : Int) - (l : Int) * (t : Int) else (a : Int) * (t : Int)) = ((Rt.cw w t l a : Nat) : Int) by
      unfold Rt.cw
      rw [← Int.natCast_mul, ← Int.natCast_mul]
      split <;> omega]
    walk_at "run"
    refine Gx.min2 ?_
    rw [show (if (h : Int) - (p : Int) * (t : Int) < (b : Int) * (t : Int) then (h : Int) - (p : Int) * (t : Int) else (b : Int) * (t : Int)) = ((Rt.cw h t p b : Nat) : Int) by
      unfold Rt.cw
      rw [← Int.natCast_mul, ← Int.natCast_mul]
      split <;> omega]
    walk_at "run"
    refine mks_Frame (fun ok2 y H1 s1 ny fr2 => ?_) (fun z e => ?_)
    · rw [Int.toNat_natCast, Int.toNat_natCast, Int.toNat_natCast, Int.toNat_natCast, Int.toNat_natCast] at fr2
      exact q y H1 s1 ny fr2 ⟨by omega, by omega, by omega, by omega, a5, a6, a7, a8, a9, big⟩
    · exfalso
      rw [Sx.frameBad_none.mpr ⟨by omega, by omega, by omega, by omega, by omega, by rw [← Int.natCast_mul, ← Int.natCast_mul]; omega⟩] at e
      cases e

theorem cs_crop_frame {K : PySem.W.Frag} {CE CO CF x r : Addr} {w h d c t : Nat} {l p a b : Int} {H : Hp} {Q : VK} {E : XK} (fr : Frm CF H x w h d c t) (D : Rg.Dim w h d c t) (hr : SqT K H r [.int l, .int p, .int a, .int b]) (q : Rt.rectBad (Gd.ac w t) (Gd.ac h t) l p a b = none → ∀ y H', Same H H' → H y = none → Frm CF H' y (Rt.cw w t l.toNat a.toNat) (Rt.cw h t p.toNat b.toNat) d c t → Rg.Dim (Rt.cw w t l.toNat a.toNat) (Rt.cw h t p.toNat b.toNat) d c t → Q (.ref y) H') (qe : Rt.rectBad (Gd.ac w t) (Gd.ac h t) l p a b = some (some ("rectangle" : Str)) → Sx.Err CE H "rectangle" E) (qo : Rt.rectBad (Gd.ac w t) (Gd.ac h t) l p a b = some none → Sx.ErrB CO H E) :
  Sx.CS (sp_crop_frame K CE CO CF) [.ref x, .ref r] H Q E := ⟨x, r, w, h, d, c, t, l, p, a, b, rfl, fr, D, hr, q, qe, qo⟩
noncomputable def sp_paste (K : PySem.W.Frag) (CE CO CK CF CP : Addr) : Sp := fun vs H Q E => ∃ (x r y z r1 r2 : Addr) (w h d c t w1 h1 d1 c1 w2 h2 d2 c2 : Nat) (l p a b : Int) (f g : List (List Int)), vs = [.ref x, .ref r, .ref y, .ref z] ∧ Frm CF H x w h d c t ∧ Rg.Dim w h d c t ∧ Pic CP H y r1 w1 h1 d1 c1 (fun i => f.getD i []) ∧ Pq.rowsOk (w1 * h1) d1 c1 f ∧ Pic CP H z r2 w2 h2 d2 c2 (fun i => g.getD i []) ∧ Pq.rowsOk (w2 * h2) d2 c2 g ∧ SqT K H r [.int l, .int p, .int a, .int b] ∧
  (Rt.rectBad (Gd.ac w t) (Gd.ac h t) l p a b = none → (w = w1 ∧ h = h1 ∧ d = d1 ∧ c = c1) → (Rt.cw w t l.toNat a.toNat = w2 ∧ Rt.cw h t p.toNat b.toNat = h2 ∧ d = d2 ∧ c = c2) → ∀ u r' H', Same H H' → H u = none → Pic CP H' u r' w h d c (fun i => (Rt.pasR w h (l.toNat * t) (p.toNat * t) (Rt.cw w t l.toNat a.toNat) (Rt.cw h t p.toNat b.toNat) c f g).getD i []) → (H r' = none ∧ Pq.LN H H' r' c (fun i => (Rt.pasR w h (l.toNat * t) (p.toNat * t) (Rt.cw w t l.toNat a.toNat) (Rt.cw h t p.toNat b.toNat) c f g).getD i [])) → Q (.ref u) H') ∧
  (Rt.rectBad (Gd.ac w t) (Gd.ac h t) l p a b = some (some ("rectangle" : Str)) → Sx.Err CE H "rectangle" E) ∧ (Rt.rectBad (Gd.ac w t) (Gd.ac h t) l p a b = some none → Sx.ErrB CO H E) ∧ (Rt.rectBad (Gd.ac w t) (Gd.ac h t) l p a b = none → ¬ ((w = w1 ∧ h = h1 ∧ d = d1 ∧ c = c1) ∧ (Rt.cw w t l.toNat a.toNat = w2 ∧ Rt.cw h t p.toNat b.toNat = h2 ∧ d = d2 ∧ c = c2)) → Sx.ErrB CK H E)

theorem sc_paste_crops : FnScope ["frame", "rectangle", "picture", "part", "part_frame", "rows", "at", "pixel", "channel"] ["frame", "rectangle", "picture", "part"] (defScope s_paste_crops) := ⟨rfl, rfl, rfl, by decide +kernel, rfl, by decide +kernel, by decide +kernel⟩
theorem ok_paste_crops (T : Tx P K mg) : FnOk P w K mg base (L2.CX P w) 8 T.paste_crops.a T.paste_crops.d ["frame", "rectangle", "picture", "part"] (sp_paste K T.x_OutOfRange.C T.y_OutsidePicture.C T.y_OtherKind.C T.a_Frame T.a_Picture) := by
  refine T.paste_crops.f.okX sc_paste_crops (fun vs H Q E h => ?_) (fun cdv A outer s H vs Q E hr h => ⟨_, pss_cons (ps_set (i := 4) sc_paste_crops.nd rfl (Or.inl rfl) (pe_callS (ok_crop_frame T) (hr.mono (by decide)) rfl T.crop_frame.g T.crop_frame.f.kp T.crop_frame.b (fun σ => passAt (takes_of rfl rfl rfl rfl) σ) (pa_cons (pv 0) (pa_cons (pv 1) pa_nil))))
      (pss_cons (ps_expr (pe_callS (ok_check_fits T) (hr.mono (by decide)) rfl T.check_fits.g T.check_fits.f.kp T.check_fits.b (fun σ => passAt (takes_of rfl rfl rfl rfl) σ) (pa_cons (pv 0) (pa_cons (pv 2) pa_nil))))
      (pss_cons (ps_expr (pe_callS (ok_check_fits T) (hr.mono (by decide)) rfl T.check_fits.g T.check_fits.f.kp T.check_fits.b (fun σ => passAt (takes_of rfl rfl rfl rfl) σ) (pa_cons (pv 4) (pa_cons (pv 3) pa_nil))))
      (pss_cons (ps_set (i := 5) sc_paste_crops.nd rfl (Or.inl rfl) (pe_meth0 (pv 2) T.cl_Picture T.Picture_rows.m (ok_Picture_rows T) (hr.mono (by decide)) T.Picture_rows.b .nil pass0))
      (pss_cons (ps_for (passes_of rfl) rfl (pi_enum rfl T.n_enumerate (pa_cons (pe_call (ok_crop_pixels T) (hr.mono (by decide)) rfl T.crop_pixels.g T.crop_pixels.f.kp T.crop_pixels.b .nil pass0 (pa_cons (pv 0) (pa_cons (pv 1) (pa_cons (pv 4) pa_nil)))) pa_nil)) (pg_tup rfl (pgs_cons (pg_name (i := 6) sc_paste_crops.nd rfl (Or.inl rfl)) (pgs_cons (pg_name (i := 7) sc_paste_crops.nd rfl (Or.inl rfl)) pgs_nil)))
      (pss_one (ps_for (passes_of rfl) rfl (pi_range1 rfl T.n_range (pa_cons (pe_fld (pv 0) rfl) pa_nil)) (pg_name (i := 8) sc_paste_crops.nd rfl (Or.inl rfl))
      (pss_one (ps_asg (pe_meth (pv 3) T.cl_Picture T.Picture_value.m (ok_Picture_value T) (hr.mono (by decide)) T.Picture_value.b .nil pass0 (pa_cons (pv 8) (pa_cons (pv 6) pa_nil))) (pg_sub (pe_ix (Gx.ix_seqK (K := K) rfl) (pv 5) (pv 8) (fun _ _ => rfl)) (pv 7) set_list))))))
      (pss_one (ps_ret (Sx.pe_makeS ⟨T.mk_Picture, T.Picture___init__.m.at_, T.Picture___init__.m.fn, T.kp_Picture⟩ (ok_Picture___init__ T) (hr.mono (by decide)) rfl T.g_Picture T.Picture___init__.b (fun σ => passAt (takes_of rfl rfl rfl rfl) σ) (pa_cons (pe_fld (pv 0) rfl) (pa_cons (pe_fld (pv 0) rfl) (pa_cons (pe_fld (pv 0) rfl) (pa_cons (pe_fld (pv 0) rfl) (pa_cons (pv 5) pa_nil)))))))))))), ?_⟩)
  · obtain ⟨x, r, y, z, r1, r2, w, h, d, c, t, w1, h1, d1, c1, w2, h2, d2, c2, l, p, a, b, f, g, rfl, _⟩ := h
    rfl
  · skip
    obtain ⟨x, r, y, z, r1, r2, w, h, d, c, t, w1, h1, d1, c1, w2, h2, d2, c2, l, p, a, b, f, g, rfl, fr, D, P1, hok, P2, hok2, hr', q, qe, qo, qk⟩ := h
    walk_at "run"
    refine cs_crop_frame fr D hr' (fun ok z' H1 s1 nz fr2 D2 => ?_) qe qo
    obtain ⟨b1, b2, b3, b4, b5, b6⟩ := Rt.rectBad_none ok
    replace q := q ok
    replace qk := qk ok
    clear qe qo
    obtain ⟨l, rfl⟩ : ∃ n : Nat, l = n := ⟨l.toNat, by omega⟩
    obtain ⟨p, rfl⟩ : ∃ n : Nat, p = n := ⟨p.toNat, by omega⟩
    obtain ⟨a, rfl⟩ : ∃ n : Nat, a = n := ⟨a.toNat, by omega⟩
    obtain ⟨b, rfl⟩ : ∃ n : Nat, b = n := ⟨b.toNat, by omega⟩
    rw [Int.toNat_natCast, Int.toNat_natCast, Int.toNat_natCast, Int.toNat_natCast] at q qk fr2 D2
    obtain ⟨a1, a2, a3, a4, a5, a6, a7, a8, a9, a10⟩ := id D
    obtain ⟨c1', c2'⟩ := Rt.cw_pos (n := w) (t := t) (a := l) (b := a) (by omega) (by omega) (by omega)
    obtain ⟨c3', c4'⟩ := Rt.cw_pos (n := h) (t := t) (a := p) (b := b) (by omega) (by omega) (by omega)
    obtain ⟨e1, e2, e3, e4, e5, e6, e7, e8, e9, e10⟩ := id D2
    generalize Rt.cw w t l a = W at *
    generalize Rt.cw h t p b = V0 at *
    obtain ⟨dx, hx⟩ := id (fr.keep s1)
    obtain ⟨⟨dy, hy⟩, _⟩ := id (P1.keep s1)
    walk_at "run"
    refine cs_check_fits (k4_Frame T hx) (k4_Picture T hy) (fun e => ?_) (fun e => (qk (fun k => e (by omega))).mono s1)
    have e' : w = w1 ∧ h = h1 ∧ d = d1 ∧ c = c1 := by omega
    replace q := q e'
    obtain ⟨dx2, hx2⟩ := id fr2
    obtain ⟨⟨dz, hz⟩, _⟩ := id (P2.keep s1)
    walk_at "run"
    refine cs_check_fits (k4_Frame T hx2) (k4_Picture T hz) (fun e2 => ?_) (fun e2 => (qk (fun k => e2 (by omega))).mono s1)
    have e2' : W = w2 ∧ V0 = h2 ∧ d = d2 ∧ c = c2 := by omega
    replace q := q e2'
    clear qk
    obtain ⟨rfl, rfl, rfl, rfl⟩ := e'
    obtain ⟨rfl, rfl, rfl, rfl⟩ := e2'
    walk_at "run"
    refine Gx.mp hy no_Picture_rows ?_
    walk_at "run"
    refine cpn_Picture_rows (P1.keep s1) (by omega) fun pw H2 n2 s2 hN => ?_
    have s12 := s1.trans s2
    have fr' := fr.keep s12
    have fr2' := fr2.keep s2
    walk_at "run"
    refine cp_crop_pixels fr' (Nx.viaT s12 hr') fr2' a2 a4 a9 c1' c2' c4' (by omega) (by omega) fun pp H3 n3 s3 hpp => ?_
    have hN := Rt.rebase (o := .lst ((List.range (V0 * W)).map fun m => V.int ((Rt.rp w t l p W m : Nat) : Int))) hN n3 s3
    have n1p := s2.free n3
    have sB := Gx.same_new (o := .lst ((List.range (V0 * W)).map fun m => V.int ((Rt.rp w t l p W m : Nat) : Int))) n1p
    have sB3 : Same (upd H1 pp (.lst ((List.range (V0 * W)).map fun m => V.int ((Rt.rp w t l p W m : Nat) : Int)))) H3 := fun a o e => by
      by_cases ha : a = pp
      · subst ha; rw [upd_same] at e; cases e; exact hpp
      · rw [upd_ne ha] at e; exact s3 _ _ (s2 _ _ e)
    have hBp : upd H1 pp (.lst ((List.range (V0 * W)).map fun m => V.int ((Rt.rp w t l p W m : Nat) : Int))) pp = some (.lst ((List.range (V0 * W)).map fun m => V.int ((Rt.rp w t l p W m : Nat) : Int))) := upd_same
    generalize upd H1 pp (.lst ((List.range (V0 * W)).map fun m => V.int ((Rt.rp w t l p W m : Nat) : Int))) = B at hN sB sB3 hBp
    have hxB := sB _ _ hx
    have hzB := sB _ _ hz
    have P2B := (P2.keep s1).keep sB
    walk_at "run"
    refine Nx.en (SqL.of hpp) ?_
    have hVW : V0 * W ≤ 64 * 64 := Nat.mul_le_mul (by omega) (by omega)
    refine Gx.fw (walk_enum (xs := (List.range (V0 * W)).map fun m => V.int ((Rt.rp w t l p W m : Nat) : Int))) (fun i σ' H' => ∃ (v6 v7 v8 : Option V), Same B H' ∧ Pq.LN B H' pw c (fun j => Rt.pr w h (l * t) (p * t) W V0 f g i j) ∧ σ' = [some (.ref x), some (.ref r), some (.ref y), some (.ref z), some (.ref z'), some (.ref pw), v6, v7, v8]) ⟨none, none, none, sB3, ?_, rfl⟩ (fun _ _ _ _ hh => by obtain ⟨_, _, _, k, _⟩ := hh; exact SqL.of (k _ _ hBp)) ?_ ?_
    · exact Rt.lnc hN fun j hj => (Rt.pr_zero hok hj).symm
    · rintro i tq σ' H4 H4' hi ⟨v6, v7, v8, s4, hN4, rfl⟩ ⟨ta, v1, v2, rfl, hn, rfl, q1, q2⟩
      cases q1
      dsimp only at q2
      rw [List.length_map, List.length_range] at hi
      rw [List.getElem?_map, List.getElem?_range hi] at q2
      have q2 := Option.some.inj q2
      subst q2
      have s5 := Gx.same_new (o := .tup [.int (i : Int), .int ((Rt.rp w t l p W i : Nat) : Int)]) hn
      have ht5 : upd H4 ta (.tup [.int (i : Int), .int ((Rt.rp w t l p W i : Nat) : Int)]) ta = some (.tup [.int (i : Int), .int ((Rt.rp w t l p W i : Nat) : Int)]) := upd_same
      have hN5 := hN4.keep s5
      have s45 := s4.trans s5
      generalize upd H4 ta (.tup [.int (i : Int), .int ((Rt.rp w t l p W i : Nat) : Int)]) = H5 at s5 ht5 hN5 s45
      have hx5 := s45 _ _ hxB
      walk_at "run"
      refine Gx.r1 (by omega) (by omega) ?_
      rw [Int.toNat_natCast]
      refine Gx.fw walk_range (fun k σ' H' => ∃ (v8 : Option V), Same B H' ∧ Pq.LN B H' pw c (fun j => if j < k then Rt.pr w h (l * t) (p * t) W V0 f g (i + 1) j else Rt.pr w h (l * t) (p * t) W V0 f g i j) ∧ σ' = [some (.ref x), some (.ref r), some (.ref y), some (.ref z), some (.ref z'), some (.ref pw), some (.int (i : Int)), some (.int ((Rt.rp w t l p W i : Nat) : Int)), v8]) ⟨_, s45, ?_, rfl⟩ (fun _ _ _ _ _ => trivial) ?_ ?_
      · exact Rt.lnc hN5 fun j hj => by rw [if_neg (Nat.not_lt_zero _)]
      · rintro k yy σ' H6 H6' hk ⟨v8, s6, hN6, rfl⟩ ⟨rfl, hy6⟩
        have hy2 : yy = .int (k : Int) := hy6.trans (congrArg V.int (by omega))
        subst hy2
        have hz6 := s6 _ _ hzB
        have hgl := (Pq.rowOk_getD hok2 hk).1
        walk_at "run"
        refine Gx.mp hz6 no_Picture_value ?_
        walk_at "run"
        refine cp_Picture_value (P2B.keep s6) hk (by show i < (g.getD k []).length; rw [hgl, Nat.mul_comm]; exact hi) ?_
        obtain ⟨ys, ra, g1, g2, g3, g4, g5, g6, hput⟩ := hN6.at hk
        walk_at "run"
        refine Gx.ixL (SqL.of g1) g3 ?_
        walk_at "run"
        rw [if_neg (Nat.lt_irrefl _)] at g4
        have hpl : (Rt.pr w h (l * t) (p * t) W V0 f g i k).length = w * h := Rt.pr_len
        have hin := Rt.rp_in (h := h) (V := V0) (p := p) c1' c2' c4' hok hi
        refine Nx.setLE (j := Rt.rp w t l p W i) (ys := ((Rt.pr w h (l * t) (p * t) W V0 f g i k).set (Rt.rp w t l p W i) ((g.getD k []).getD i 0)).map V.int) g4 (by rw [List.length_map, hpl]; unfold ixN; rw [if_pos (by omega), if_pos (by omega)]; exact congrArg some (Int.toNat_natCast _)) (by rw [List.map_set]) ?_
        refine ⟨_, Gx.same_up g5 s6, Rt.lnc (hput H6' _ (Same.refl _)) fun j hj => ?_, rfl⟩
        by_cases e1 : j = k
        · subst e1
          rw [if_pos rfl, if_pos (Nat.lt_succ_self _)]
          exact Rt.pr_step c1' c2' hi
        · rw [if_neg e1]
          by_cases e2 : j < k
          · rw [if_pos e2, if_pos (by omega)]
          · rw [if_neg e2, if_neg (by omega)]
      rintro σ' H6 ⟨v8, s6, hN6, rfl⟩
      walk_at "run"
      exact ⟨_, _, _, s6, Rt.lnc hN6 fun j hj => by rw [if_pos hj], rfl⟩
    rintro σ' H4 ⟨v6, v7, v8, s4, hN4, rfl⟩
    rw [List.length_map, List.length_range] at hN4
    have hx4 := s4 _ _ hxB
    walk_at "run"
    have hRW : Pq.RW H4 pw (Rt.pasR w h (l * t) (p * t) W V0 c f g) := Pq.RW.of hN4.ll (by unfold Rt.pasR; simp) fun j hj => (Rt.pasR_at hj).symm
    have hokP := Rt.pasR_ok (h := h) (V := V0) (p := p) (g := g) c1' c2' c4' hok hok2
    refine mksN_Picture hRW (by unfold Rt.pasR; simp; omega) (fun _ z2 r' H5 s5 nz2 nr P5 LN5 => ?_) (fun e he => ?_)
    · rw [Int.toNat_natCast, Int.toNat_natCast, Int.toNat_natCast, Int.toNat_natCast] at P5
      rw [Int.toNat_natCast] at LN5
      have sA := s1.trans (sB.trans s4)
      exact q z2 r' H5 (sA.trans s5) (sA.free nz2) P5 ⟨sA.free nr, LN5.back sA⟩
    · exfalso
      unfold Pq.pictBad at he
      rw [Sx.kindBad_none.mpr ⟨by omega, by omega, by omega, by omega⟩] at he
      dsimp only at he
      rw [if_neg (by rw [← Int.natCast_mul, ← Int.natCast_mul]; omega), ← Int.natCast_mul, Int.toNat_natCast, Int.toNat_natCast, Int.toNat_natCast, if_pos hokP] at he
      cases he

theorem csN_paste {K : PySem.W.Frag} {CE CO CK CF CP x r y z r1 r2 : Addr} {w h d c t w1 h1 d1 c1 w2 h2 d2 c2 : Nat} {l p a b : Int} {f g : List (List Int)} {H : Hp} {Q : VK} {E : XK} (fr : Frm CF H x w h d c t) (D : Rg.Dim w h d c t) (P1 : Pic CP H y r1 w1 h1 d1 c1 (fun i => f.getD i [])) (ok : Pq.rowsOk (w1 * h1) d1 c1 f) (P2 : Pic CP H z r2 w2 h2 d2 c2 (fun i => g.getD i [])) (ok2 : Pq.rowsOk (w2 * h2) d2 c2 g) (hr : SqT K H r [.int l, .int p, .int a, .int b])
  (q : Rt.rectBad (Gd.ac w t) (Gd.ac h t) l p a b = none → (w = w1 ∧ h = h1 ∧ d = d1 ∧ c = c1) → (Rt.cw w t l.toNat a.toNat = w2 ∧ Rt.cw h t p.toNat b.toNat = h2 ∧ d = d2 ∧ c = c2) → ∀ u r' H', Same H H' → H u = none → Pic CP H' u r' w h d c (fun i => (Rt.pasR w h (l.toNat * t) (p.toNat * t) (Rt.cw w t l.toNat a.toNat) (Rt.cw h t p.toNat b.toNat) c f g).getD i []) → (H r' = none ∧ Pq.LN H H' r' c (fun i => (Rt.pasR w h (l.toNat * t) (p.toNat * t) (Rt.cw w t l.toNat a.toNat) (Rt.cw h t p.toNat b.toNat) c f g).getD i [])) → Q (.ref u) H')
  (qe : Rt.rectBad (Gd.ac w t) (Gd.ac h t) l p a b = some (some ("rectangle" : Str)) → Sx.Err CE H "rectangle" E) (qo : Rt.rectBad (Gd.ac w t) (Gd.ac h t) l p a b = some none → Sx.ErrB CO H E) (qk : Rt.rectBad (Gd.ac w t) (Gd.ac h t) l p a b = none → ¬ ((w = w1 ∧ h = h1 ∧ d = d1 ∧ c = c1) ∧ (Rt.cw w t l.toNat a.toNat = w2 ∧ Rt.cw h t p.toNat b.toNat = h2 ∧ d = d2 ∧ c = c2)) → Sx.ErrB CK H E) :
  Sx.CS (sp_paste K CE CO CK CF CP) [.ref x, .ref r, .ref y, .ref z] H Q E := ⟨x, r, y, z, r1, r2, w, h, d, c, t, w1, h1, d1, c1, w2, h2, d2, c2, l, p, a, b, f, g, rfl, fr, D, P1, ok, P2, ok2, hr, q, qe, qo, qk⟩
/-- what is pasted where -/
noncomputable def pasG (w h t c : Nat) (l p a b : Int) (f g : List (List Int)) : List (List Int) := Rt.pasR w h (l.toNat * t) (p.toNat * t) (Rt.cw w t l.toNat a.toNat) (Rt.cw h t p.toNat b.toNat) c f g
noncomputable def sp_Source_paste (K : PySem.W.Frag) (CE CO CK CS CP CF : Addr) : Sp := fun vs H Q E => ∃ (R : Hp) (rest : List (Addr × HO)) (v dv fa y sl z rr r2 : Addr) (xs : List V) (w h d c t w2 h2 d2 c2 : Nat) (f g : List (List Int)) (l p a b : Int), vs = [.ref v, .ref rr, .ref z] ∧ (∀ q ∈ rest, ∀ ys, q.2 ≠ HO.tup ys) ∧ Mv.Hv R H ((v, .ins CS dv (fl_Source (.ref fa) (.ref y) (.ref sl))) :: (sl, .lst xs) :: rest) ∧ xs.length ≤ 1000 ∧ Frm CF R fa w h d c t ∧ Rg.Dim w h d c t ∧ Pn CP R w h d c y f ∧ Pic CP R z r2 w2 h2 d2 c2 (fun i => g.getD i []) ∧ Pq.rowsOk (w2 * h2) d2 c2 g ∧ R rr = some (.tup [.int l, .int p, .int a, .int b]) ∧
  (Rt.rectBad (Gd.ac w t) (Gd.ac h t) l p a b = none → (Rt.cw w t l.toNat a.toNat = w2 ∧ Rt.cw h t p.toNat b.toNat = h2 ∧ d = d2 ∧ c = c2) → ∀ k sl2 u R' H', Same R R' → Pn CP R' w h d c u (pasG w h t c l p a b f g) → Rg.RL R' k (Cg.chg w h d c t f (pasG w h t c l p a b f g)) → Mv.Hv R' H' ((v, .ins CS dv (fl_Source (.ref fa) (.ref u) (.ref sl2))) :: (sl2, .lst ((xs ++ [V.ref y]).drop (xs.length + 1 - 16))) :: rest) → Q (.ref k) H') ∧
  (Rt.rectBad (Gd.ac w t) (Gd.ac h t) l p a b = some (some ("rectangle" : Str)) → Sx.Err CE H "rectangle" E) ∧ (Rt.rectBad (Gd.ac w t) (Gd.ac h t) l p a b = some none → Sx.ErrB CO H E) ∧ (Rt.rectBad (Gd.ac w t) (Gd.ac h t) l p a b = none → ¬ (Rt.cw w t l.toNat a.toNat = w2 ∧ Rt.cw h t p.toNat b.toNat = h2 ∧ d = d2 ∧ c = c2) → Sx.ErrB CK H E)

theorem sc_Source_paste : FnScope ["self", "rectangle", "part"] ["self", "rectangle", "part"] (defScope s_Source_paste) := ⟨rfl, rfl, rfl, by decide +kernel, rfl, by decide +kernel, by decide +kernel⟩
theorem ok_Source_paste (T : Tx P K mg) : FnOk P w K mg base (L2.CX P w) 9 T.Source_paste.a T.Source_paste.d ["self", "rectangle", "part"] (sp_Source_paste K T.x_OutOfRange.C T.y_OutsidePicture.C T.y_OtherKind.C T.a_Source T.a_Picture T.a_Frame) := by
  refine T.Source_paste.f.okX sc_Source_paste (fun vs H Q E h => ?_) (fun cdv A outer s H vs Q E hr h => ⟨_, pss_one (ps_ret (pe_meth (pv 0) T.cl_Source T.Source__become.m (ok_Source__become T) (hr.mono (by decide)) T.Source__become.b .nil pass0 (pa_cons (pe_callS (ok_paste_crops T) (hr.mono (by decide)) rfl T.paste_crops.g T.paste_crops.f.kp T.paste_crops.b (fun σ => passAt (takes_of rfl rfl rfl rfl) σ) (pa_cons (pe_fld (pv 0) rfl) (pa_cons (pv 1) (pa_cons (pe_fld (pv 0) rfl) (pa_cons (pv 2) pa_nil))))) pa_nil))), ?_⟩)
  · obtain ⟨R, rest, v, dv, fa, y, sl, z, rr, r2, xs, w, h, d, c, t, w2, h2, d2, c2, f, g, l, p, a, b, rfl, _⟩ := h
    rfl
  · skip
    obtain ⟨R, rest, v, dv, fa, y, sl, z, rr, r2, xs, w, h, d, c, t, w2, h2, d2, c2, f, g, l, p, a, b, rfl, hr, hv, hxs, fr, D, pn, P2, ok2, hrr, q, qe, qo, qk⟩ := h
    obtain ⟨⟨r1, P1⟩, ok1⟩ := id pn
    obtain ⟨a1, a2, a3, a4, a5, a6, a7, a8, a9, a10⟩ := id D
    have h0 := hv.g0
    have s0 := hv.same
    walk_at "run"
    refine Gx.mp h0 no_Source__become ?_
    walk_at "run"
    refine csN_paste (fr.keep s0) D (P1.keep s0) ok1 (P2.keep s0) ok2 (SqT.of (s0 _ _ hrr)) (fun rb _ e2 u r' H1 s1 nu P3 ln => ?_) qe qo (fun rb e => qk rb fun e2 => e ⟨⟨rfl, rfl, rfl, rfl⟩, e2⟩)
    obtain ⟨R1, hv1, sR1, gR1⟩ := hv.grow s1
    obtain ⟨b1, b2, b3, b4, b5, b6⟩ := Rt.rectBad_none rb
    have okP : Pq.rowsOk (w * h) d c (pasG w h t c l p a b f g) := by
      obtain ⟨c1', c2'⟩ := Rt.cw_pos (n := w) (t := t) (a := l.toNat) (b := a.toNat) (by omega) (by omega) (by omega)
      obtain ⟨c3', c4'⟩ := Rt.cw_pos (n := h) (t := t) (a := p.toNat) (b := b.toNat) (by omega) (by omega) (by omega)
      obtain ⟨g1, g2, g3, g4⟩ := e2
      rw [← g1, ← g2, ← g3, ← g4] at ok2
      exact Rt.pasR_ok c1' c2' c4' ok1 ok2
    have P3 : Pn T.a_Picture R1 w h d c u (pasG w h t c l p a b f g) := ⟨⟨r', ⟨_, gR1 _ _ nu P3.ob.choose_spec⟩, ln.2.down ln.1 gR1⟩, okP⟩
    walk_at "run"
    refine cp_Source_become hr hv1 hxs (fr.keep sR1) D (pn.keep sR1) P3 fun p sl2 R' H' sR hp hv' => ?_
    walk_at "run"
    exact q rb e2 p sl2 u R' H' (sR1.trans sR) (P3.keep sR) hp hv'

theorem cs_Source_paste {K : PySem.W.Frag} {CE CO CK CS CP CF v dv fa y sl z rr r2 : Addr} {xs : List V} {w h d c t w2 h2 d2 c2 : Nat} {f g : List (List Int)} {l p a b : Int} {R H : Hp} {rest : List (Addr × HO)} {Q : VK} {E : XK} (hr : ∀ q ∈ rest, ∀ ys, q.2 ≠ HO.tup ys) (hv : Mv.Hv R H ((v, .ins CS dv (fl_Source (.ref fa) (.ref y) (.ref sl))) :: (sl, .lst xs) :: rest)) (hl : xs.length ≤ 1000) (fr : Frm CF R fa w h d c t) (D : Rg.Dim w h d c t) (p1 : Pn CP R w h d c y f) (P2 : Pic CP R z r2 w2 h2 d2 c2 (fun i => g.getD i [])) (ok2 : Pq.rowsOk (w2 * h2) d2 c2 g) (hrr : R rr = some (.tup [.int l, .int p, .int a, .int b]))
  (q : Rt.rectBad (Gd.ac w t) (Gd.ac h t) l p a b = none → (Rt.cw w t l.toNat a.toNat = w2 ∧ Rt.cw h t p.toNat b.toNat = h2 ∧ d = d2 ∧ c = c2) → ∀ k sl2 u R' H', Same R R' → Pn CP R' w h d c u (pasG w h t c l p a b f g) → Rg.RL R' k (Cg.chg w h d c t f (pasG w h t c l p a b f g)) → Mv.Hv R' H' ((v, .ins CS dv (fl_Source (.ref fa) (.ref u) (.ref sl2))) :: (sl2, .lst ((xs ++ [V.ref y]).drop (xs.length + 1 - 16))) :: rest) → Q (.ref k) H')
  (qe : Rt.rectBad (Gd.ac w t) (Gd.ac h t) l p a b = some (some ("rectangle" : Str)) → Sx.Err CE H "rectangle" E) (qo : Rt.rectBad (Gd.ac w t) (Gd.ac h t) l p a b = some none → Sx.ErrB CO H E) (qk : Rt.rectBad (Gd.ac w t) (Gd.ac h t) l p a b = none → ¬ (Rt.cw w t l.toNat a.toNat = w2 ∧ Rt.cw h t p.toNat b.toNat = h2 ∧ d = d2 ∧ c = c2) → Sx.ErrB CK H E) :
  Sx.CS (sp_Source_paste K CE CO CK CS CP CF) [.ref v, .ref rr, .ref z] H Q E := ⟨R, rest, v, dv, fa, y, sl, z, rr, r2, xs, w, h, d, c, t, w2, h2, d2, c2, f, g, l, p, a, b, rfl, hr, hv, hl, fr, D, p1, P2, ok2, hrr, q, qe, qo, qk⟩

/-- the first number that is wrong -/
noncomputable def withBad (c n d : Nat) (ch px z : Int) : Option Str := if ¬ (0 ≤ ch ∧ ch ≤ (c : Int) - 1) then some "channel" else if ¬ (0 ≤ px ∧ px ≤ (n : Int) - 1) then some "pixel" else if ¬ (0 ≤ z ∧ z ≤ ((2 ^ d : Nat) : Int) - 1) then some "value" else none
noncomputable def withF (f : List (List Int)) (j k : Nat) (z : Int) : List (List Int) := f.set j ((f.getD j []).set k z)
noncomputable def sp_Picture_with_value (CE C : Addr) : Sp := fun vs H Q E => ∃ (x r : Addr) (w h d c : Nat) (f : List (List Int)) (ch px z : Int), vs = [.ref x, .int ch, .int px, .int z] ∧ Pic C H x r w h d c (fun j => f.getD j []) ∧ (1 ≤ w ∧ w ≤ 64) ∧ (1 ≤ h ∧ h ≤ 64) ∧ (1 ≤ d ∧ d ≤ 8) ∧ (c = 1 ∨ c = 3) ∧ w * h * c ≤ 3072 ∧ Pq.rowsOk (w * h) d c f ∧
  (withBad c (w * h) d ch px z = none → ∀ y r' H', Same H H' → H y = none → H r' = none → Pic C H' y r' w h d c (fun j => (withF f ch.toNat px.toNat z).getD j []) → Pq.rowsOk (w * h) d c (withF f ch.toNat px.toNat z) → Pq.LN H H' r' c (fun j => (withF f ch.toNat px.toNat z).getD j []) → Q (.ref y) H') ∧ (∀ e, withBad c (w * h) d ch px z = some e → Sx.Err CE H e E)

theorem sc_Picture_with_value : FnScope ["self", "channel", "pixel", "value", "rows"] ["self", "channel", "pixel", "value"] (defScope s_Picture_with_value) := ⟨rfl, rfl, rfl, by decide +kernel, rfl, by decide +kernel, by decide +kernel⟩
theorem ok_Picture_with_value (T : Tx P K mg) : FnOk P w K mg base (L2.CX P w) 7 T.Picture_with_value.a T.Picture_with_value.d ["self", "channel", "pixel", "value"] (sp_Picture_with_value T.x_OutOfRange.C T.a_Picture) := by
  refine T.Picture_with_value.f.okX sc_Picture_with_value (fun vs H Q E h => ?_) (fun cdv A outer s H vs Q E hr h => ⟨_, pss_cons (ps_expr (pe_callS (ok_check_range T) (hr.mono (by decide)) rfl T.check_range.g T.check_range.f.kp T.check_range.b (fun σ => passAt (takes_of rfl rfl rfl rfl) σ) (pa_cons (pe_str) (pa_cons (pv 1) (pa_cons (pe_int) (pa_cons (pe_op op_sub (pe_fld (pv 0) rfl) (pe_int)) pa_nil))))))
      (pss_cons (ps_expr (pe_callS (ok_check_range T) (hr.mono (by decide)) rfl T.check_range.g T.check_range.f.kp T.check_range.b (fun σ => passAt (takes_of rfl rfl rfl rfl) σ) (pa_cons (pe_str) (pa_cons (pv 2) (pa_cons (pe_int) (pa_cons (pe_op op_sub (pe_op op_mul (pe_fld (pv 0) rfl) (pe_fld (pv 0) rfl)) (pe_int)) pa_nil))))))
      (pss_cons (ps_expr (pe_callS (ok_check_range T) (hr.mono (by decide)) rfl T.check_range.g T.check_range.f.kp T.check_range.b (fun σ => passAt (takes_of rfl rfl rfl rfl) σ) (pa_cons (pe_str) (pa_cons (pv 3) (pa_cons (pe_int) (pa_cons (pe_op op_sub (pe_op op_shl (pe_int) (pe_fld (pv 0) rfl)) (pe_int)) pa_nil))))))
      (pss_cons (ps_set (i := 4) sc_Picture_with_value.nd rfl (Or.inl rfl) (pe_meth0 (pv 0) T.cl_Picture T.Picture_rows.m (ok_Picture_rows T) (hr.mono (by decide)) T.Picture_rows.b .nil pass0))
      (pss_cons (ps_asg (pv 3) (pg_sub (pe_ix (Gx.ix_seqK (K := K) rfl) (pv 4) (pv 1) (fun _ _ => rfl)) (pv 2) set_list))
      (pss_one (ps_ret (Sx.pe_makeS ⟨T.mk_Picture, T.Picture___init__.m.at_, T.Picture___init__.m.fn, T.kp_Picture⟩ (ok_Picture___init__ T) (hr.mono (by decide)) rfl T.g_Picture T.Picture___init__.b (fun σ => passAt (takes_of rfl rfl rfl rfl) σ) (pa_cons (pe_fld (pv 0) rfl) (pa_cons (pe_fld (pv 0) rfl) (pa_cons (pe_fld (pv 0) rfl) (pa_cons (pe_fld (pv 0) rfl) (pa_cons (pv 4) pa_nil)))))))))))), ?_⟩)
  · obtain ⟨x, r, w, h, d, c, f, ch, px, z, rfl, _⟩ := h
    rfl
  · skip
    obtain ⟨x, r, w, h, d, c, f, ch, px, z, rfl, P1, hw, hh, hd, hc, hs, hok, q, qe⟩ := h
    obtain ⟨⟨dx, hx⟩, l1⟩ := id P1
    unfold withBad at q qe
    walk_at "run"
    refine cs_check_range (fun a1 a2 => ?_) (fun n => qe _ (if_pos n))
    rw [if_neg (not_not_intro ⟨a1, a2⟩)] at q qe
    walk_at "run"
    rw [← Int.natCast_mul]
    refine cs_check_range (fun b1 b2 => ?_) (fun n => qe _ (if_pos n))
    rw [if_neg (not_not_intro ⟨b1, b2⟩)] at q qe
    walk_at "run"
    rw [Gy.pw]
    refine cs_check_range (fun d1 d2 => ?_) (fun n => qe _ (if_pos n))
    rw [if_neg (not_not_intro ⟨d1, d2⟩)] at q
    clear qe
    walk_at "run"
    refine Gx.mp hx no_Picture_rows ?_
    walk_at "run"
    refine cpn_Picture_rows P1 (by omega) fun p H1 n1 s1 hN => ?_
    obtain ⟨j, rfl⟩ : ∃ j : Nat, ch = j := ⟨ch.toNat, by omega⟩
    obtain ⟨k, rfl⟩ : ∃ k : Nat, px = k := ⟨px.toNat, by omega⟩
    rw [Int.toNat_natCast, Int.toNat_natCast] at q
    have hjc : j < c := by omega
    have hjf : j < f.length := by have := hok.1; omega
    have hrow := hok.2 _ (Pq.rowsAt hjf)
    obtain ⟨xs, a, e1, e2, e3, e4, hN2⟩ := hN.put (k := k) (z := z) hjc
    walk_at "run"
    refine Gx.ixL (SqL.of e1) e2 ?_
    walk_at "run"
    refine Gx.setL (j := k) e3 (by rw [List.length_map, hrow.1]; unfold ixN; rw [if_pos (by omega), if_pos (by omega)]; exact congrArg some (Int.toNat_natCast _)) ?_
    rw [show ((f.getD j []).map V.int).set k (.int z) = ((f.getD j []).set k z).map V.int by rw [List.map_set]]
    have s2 : Same H (upd H1 a (.lst (((f.getD j []).set k z).map V.int))) := Gx.same_up e4 s1
    rw [Pq.set_rows hjf] at hN2
    generalize upd H1 a (.lst (((f.getD j []).set k z).map V.int)) = H2 at s2 hN2 ⊢
    have hx2 := s2 _ _ hx
    walk_at "run"
    have hok2 := Pq.set_ok (k := k) hok hjc (z := z) ⟨d1, by omega⟩
    have hRW : Pq.RW H2 p (f.set j ((f.getD j []).set k z)) := Pq.RW.of hN2.ll (by rw [List.length_set]; exact hok.1) fun _ _ => rfl
    refine mksN_Picture hRW (by rw [List.length_set]; have := hok.1; omega) (fun _ y r' H3 s3 ny nr P3 LN3 => ?_) (fun e he => ?_)
    · rw [Int.toNat_natCast, Int.toNat_natCast, Int.toNat_natCast, Int.toNat_natCast] at P3
      rw [Int.toNat_natCast] at LN3
      exact q rfl y r' H3 (s2.trans s3) (s2.free ny) (s2.free nr) P3 hok2 (Pq.LN.back LN3 s2)
    · exfalso
      unfold Pq.pictBad at he
      rw [Sx.kindBad_none.mpr ⟨by omega, by omega, by omega, by omega⟩] at he
      dsimp only at he
      rw [if_neg (by rw [← Int.natCast_mul, ← Int.natCast_mul]; omega), ← Int.natCast_mul, Int.toNat_natCast, Int.toNat_natCast, Int.toNat_natCast, if_pos hok2] at he
      cases he

theorem csN_Picture_with_value {CE C x r : Addr} {w h d c : Nat} {f : List (List Int)} {ch px z : Int} {H : Hp} {Q : VK} {E : XK} (P1 : Pic C H x r w h d c (fun j => f.getD j [])) (hw : 1 ≤ w ∧ w ≤ 64) (hh : 1 ≤ h ∧ h ≤ 64) (hd : 1 ≤ d ∧ d ≤ 8) (hc : c = 1 ∨ c = 3) (hs : w * h * c ≤ 3072) (ok : Pq.rowsOk (w * h) d c f)
    (q : withBad c (w * h) d ch px z = none → ∀ y r' H', Same H H' → H y = none → H r' = none → Pic C H' y r' w h d c (fun j => (withF f ch.toNat px.toNat z).getD j []) → Pq.rowsOk (w * h) d c (withF f ch.toNat px.toNat z) → Pq.LN H H' r' c (fun j => (withF f ch.toNat px.toNat z).getD j []) → Q (.ref y) H') (qe : ∀ e, withBad c (w * h) d ch px z = some e → Sx.Err CE H e E) : Sx.CS (sp_Picture_with_value CE C) [.ref x, .int ch, .int px, .int z] H Q E := ⟨x, r, w, h, d, c, f, ch, px, z, rfl, P1, hw, hh, hd, hc, hs, ok, q, qe⟩
noncomputable def sp_Source_change (CE CS CP CF : Addr) : Sp := fun vs H Q E => ∃ (R : Hp) (rest : List (Addr × HO)) (v dv fa y sl : Addr) (xs : List V) (w h d c t : Nat) (f : List (List Int)) (ch px z : Int), vs = [.ref v, .int ch, .int px, .int z] ∧ (∀ q ∈ rest, ∀ ys, q.2 ≠ HO.tup ys) ∧ Mv.Hv R H ((v, .ins CS dv (fl_Source (.ref fa) (.ref y) (.ref sl))) :: (sl, .lst xs) :: rest) ∧ xs.length ≤ 1000 ∧ Frm CF R fa w h d c t ∧ Rg.Dim w h d c t ∧ Pn CP R w h d c y f ∧
  (withBad c (w * h) d ch px z = none → ∀ p sl2 u R' H', Same R R' → Pn CP R' w h d c u (withF f ch.toNat px.toNat z) → Rg.RL R' p (Cg.chg w h d c t f (withF f ch.toNat px.toNat z)) → Mv.Hv R' H' ((v, .ins CS dv (fl_Source (.ref fa) (.ref u) (.ref sl2))) :: (sl2, .lst ((xs ++ [V.ref y]).drop (xs.length + 1 - 16))) :: rest) → Q (.ref p) H') ∧
  (∀ e, withBad c (w * h) d ch px z = some e → Sx.Err CE H e E)

theorem sc_Source_change : FnScope ["self", "channel", "pixel", "value"] ["self", "channel", "pixel", "value"] (defScope s_Source_change) := ⟨rfl, rfl, rfl, by decide +kernel, rfl, by decide +kernel, by decide +kernel⟩
theorem ok_Source_change (T : Tx P K mg) : FnOk P w K mg base (L2.CX P w) 8 T.Source_change.a T.Source_change.d ["self", "channel", "pixel", "value"] (sp_Source_change T.x_OutOfRange.C T.a_Source T.a_Picture T.a_Frame) := by
  refine T.Source_change.f.okX sc_Source_change (fun vs H Q E h => ?_) (fun cdv A outer s H vs Q E hr h => ⟨_, pss_one (ps_ret (pe_meth (pv 0) T.cl_Source T.Source__become.m (ok_Source__become T) (hr.mono (by decide)) T.Source__become.b .nil pass0 (pa_cons (Sx.pe_methS (pe_fld (pv 0) rfl) T.cl_Picture T.Picture_with_value.m (ok_Picture_with_value T) (hr.mono (by decide)) T.Picture_with_value.b (fun σ => passAt (takes_of rfl rfl rfl rfl) σ) (pa_cons (pv 1) (pa_cons (pv 2) (pa_cons (pv 3) pa_nil)))) pa_nil))), ?_⟩)
  · obtain ⟨R, rest, v, dv, fa, y, sl, xs, w, h, d, c, t, f, ch, px, z, rfl, _⟩ := h
    rfl
  · skip
    obtain ⟨R, rest, v, dv, fa, y, sl, xs, w, h, d, c, t, f, ch, px, z, rfl, hr, hv, hxs, fr, D, pn, q, qe⟩ := h
    obtain ⟨a1, a2, a3, a4, a5, a6, a7, a8, a9, a10⟩ := id D
    obtain ⟨⟨r1, P1⟩, ok1⟩ := id pn
    obtain ⟨⟨dy, hy⟩, _⟩ := id P1
    have h0 := hv.g0
    walk_at "run"
    refine Gx.mp h0 no_Source__become ?_
    walk_at "run"
    refine Sx.mts (hv.same _ _ hy) no_Picture_with_value ?_
    walk_at "run"
    refine csN_Picture_with_value (P1.keep hv.same) ⟨a1, a2⟩ ⟨a3, a4⟩ ⟨a5, a6⟩ a7 a10 ok1 (fun hb u r' H1 s1 nu nr P2 ok2 ln => ?_) qe
    obtain ⟨R1, hv1, sR1, gR1⟩ := hv.grow s1
    have P2 : Pn T.a_Picture R1 w h d c u (withF f ch.toNat px.toNat z) := ⟨⟨r', ⟨_, gR1 _ _ nu P2.ob.choose_spec⟩, ln.down nr gR1⟩, ok2⟩
    walk_at "run"
    refine cp_Source_become hr hv1 hxs (fr.keep sR1) D (pn.keep sR1) P2 fun p sl2 R' H' sR hp hv' => ?_
    walk_at "run"
    exact q hb p sl2 u R' H' (sR1.trans sR) (P2.keep sR) hp hv'

theorem cs_Source_change {CE CS CP CF v dv fa y sl : Addr} {xs : List V} {w h d c t : Nat} {f : List (List Int)} {ch px z : Int} {R H : Hp} {rest : List (Addr × HO)} {Q : VK} {E : XK} (hr : ∀ q ∈ rest, ∀ ys, q.2 ≠ HO.tup ys) (hv : Mv.Hv R H ((v, .ins CS dv (fl_Source (.ref fa) (.ref y) (.ref sl))) :: (sl, .lst xs) :: rest)) (hl : xs.length ≤ 1000) (fr : Frm CF R fa w h d c t) (D : Rg.Dim w h d c t) (p1 : Pn CP R w h d c y f)
  (q : withBad c (w * h) d ch px z = none → ∀ p sl2 u R' H', Same R R' → Pn CP R' w h d c u (withF f ch.toNat px.toNat z) → Rg.RL R' p (Cg.chg w h d c t f (withF f ch.toNat px.toNat z)) → Mv.Hv R' H' ((v, .ins CS dv (fl_Source (.ref fa) (.ref u) (.ref sl2))) :: (sl2, .lst ((xs ++ [V.ref y]).drop (xs.length + 1 - 16))) :: rest) → Q (.ref p) H')
  (qe : ∀ e, withBad c (w * h) d ch px z = some e → Sx.Err CE H e E) : Sx.CS (sp_Source_change CE CS CP CF) [.ref v, .int ch, .int px, .int z] H Q E := ⟨R, rest, v, dv, fa, y, sl, xs, w, h, d, c, t, f, ch, px, z, rfl, hr, hv, hl, fr, D, p1, q, qe⟩

noncomputable def sp_law_ask_raw (K : PySem.W.Frag) (CE CO CK CS CP CF : Addr) : Sp := fun vs H Q E => ∃ (v : Addr) (which : Int) (one two three : V), vs = [.ref v, .int which, one, two, three] ∧ ((which = 0 ∧ Sx.CS (sp_Source_change CE CS CP CF) [.ref v, one, two, three] H Q E) ∨ (which = 1 ∧ Sx.CS (sp_Source_paste K CE CO CK CS CP CF) [.ref v, one, two] H Q E))
theorem Sq.chg_ins {CE CS CP CF v : Addr} {one two three : V} {H : Hp} {Q : VK} {E : XK} (h : Sx.CS (sp_Source_change CE CS CP CF) [.ref v, one, two, three] H Q E) : ∃ dv a b e, H v = some (.ins CS dv (fl_Source a b e)) := by
  obtain ⟨R, rest, v, dv, fa, y, sl, xs, w, h, d, c, t, f, ch, px, z, e, hr, hv, _⟩ := h
  cases e
  exact ⟨_, _, _, _, hv.g0⟩
theorem Sq.pas_ins {K : PySem.W.Frag} {CE CO CK CS CP CF v : Addr} {one two : V} {H : Hp} {Q : VK} {E : XK} (h : Sx.CS (sp_Source_paste K CE CO CK CS CP CF) [.ref v, one, two] H Q E) : ∃ dv a b e, H v = some (.ins CS dv (fl_Source a b e)) := by
  obtain ⟨R, rest, v, dv, fa, y, sl, z, rr, r2, xs, w, h, d, c, t, w2, h2, d2, c2, f, g, l, p, a, b, e, hr, hv, _⟩ := h
  cases e
  exact ⟨_, _, _, _, hv.g0⟩

theorem sc_law_ask_raw : FnScope ["source", "which", "one", "two", "three"] ["source", "which", "one", "two", "three"] (defScope s_law_ask_raw) := ⟨rfl, rfl, rfl, by decide +kernel, rfl, by decide +kernel, by decide +kernel⟩
theorem ok_law_ask_raw (T : Tx P K mg) : FnOk P w K mg base (L2.CX P w) 10 T.law_ask_raw.a T.law_ask_raw.d ["source", "which", "one", "two", "three"] (sp_law_ask_raw K T.x_OutOfRange.C T.y_OutsidePicture.C T.y_OtherKind.C T.a_Source T.a_Picture T.a_Frame) := by
  refine T.law_ask_raw.f.okX sc_law_ask_raw (fun vs H Q E h => ?_) (fun cdv A outer s H vs Q E hr h => ⟨_, pss_cons (ps_if (pt_cmpR op_eq (pv 1) (pe_int) (nomark _)) (pss_one (ps_ret (Sx.pe_methS (pv 0) T.cl_Source T.Source_change.m (ok_Source_change T) (hr.mono (by decide)) T.Source_change.b (fun σ => passAt (takes_of rfl rfl rfl rfl) σ) (pa_cons (pv 2) (pa_cons (pv 3) (pa_cons (pv 4) pa_nil)))))) (pss_nil))
      (pss_one (ps_ret (Sx.pe_methS (pv 0) T.cl_Source T.Source_paste.m (ok_Source_paste T) (hr.mono (by decide)) T.Source_paste.b (fun σ => passAt (takes_of rfl rfl rfl rfl) σ) (pa_cons (pv 2) (pa_cons (pv 3) pa_nil))))), ?_⟩)
  · obtain ⟨v, which, one, two, three, rfl, _⟩ := h
    rfl
  · skip
    obtain ⟨v, which, one, two, three, rfl, h⟩ := h
    rcases h with ⟨rfl, hh⟩ | ⟨rfl, hh⟩
    · have hx := Sq.chg_ins hh
      obtain ⟨dv, fa, fb, fc, hx⟩ := hx
      walk_at "run"
      walk_at "lit"
      refine Sx.mts hx no_Source_change ?_
      walk_at "run"
      exact hh
    · obtain ⟨dv, fa, fb, fc, hx⟩ := Sq.pas_ins hh
      walk_at "run"
      walk_at "lit"
      refine Sx.mts hx no_Source_paste ?_
      walk_at "run"
      exact hh

theorem cs_law_ask_raw {K : PySem.W.Frag} {CE CO CK CS CP CF v : Addr} {which : Int} {one two three : V} {H : Hp} {Q : VK} {E : XK} (h : (which = 0 ∧ Sx.CS (sp_Source_change CE CS CP CF) [.ref v, one, two, three] H Q E) ∨ (which = 1 ∧ Sx.CS (sp_Source_paste K CE CO CK CS CP CF) [.ref v, one, two] H Q E)) : Sx.CS (sp_law_ask_raw K CE CO CK CS CP CF) [.ref v, .int which, one, two, three] H Q E := ⟨v, which, one, two, three, rfl, h⟩

noncomputable def sp_law_ask69 (K : PySem.W.Frag) (CS CP CF : Addr) : Sp := fun vs H Q _ => ∃ (R : Hp) (rest : List (Addr × HO)) (v dv fa y sl : Addr) (xs : List V) (w h d c t : Nat) (f : List (List Int)) (which : Int) (one two three : V), vs = [.ref v, .int which, one, two, three] ∧ (∀ q ∈ rest, ∀ ys, q.2 ≠ HO.tup ys) ∧ Mv.Hv R H ((v, .ins CS dv (fl_Source (.ref fa) (.ref y) (.ref sl))) :: (sl, .lst xs) :: rest) ∧ xs.length ≤ 1000 ∧ Frm CF R fa w h d c t ∧ Rg.Dim w h d c t ∧ Pn CP R w h d c y f ∧
  ((which = 0 ∧ ∃ (ch px z : Int), one = .int ch ∧ two = .int px ∧ three = .int z ∧
    (withBad c (w * h) d ch px z = none → ∀ p sl2 u R' H', Same R R' → Pn CP R' w h d c u (withF f ch.toNat px.toNat z) → Rg.RL R' p (Cg.chg w h d c t f (withF f ch.toNat px.toNat z)) → Mv.Hv R' H' ((v, .ins CS dv (fl_Source (.ref fa) (.ref u) (.ref sl2))) :: (sl2, .lst ((xs ++ [V.ref y]).drop (xs.length + 1 - 16))) :: rest) → Q (.ref p) H') ∧
    (∀ e, withBad c (w * h) d ch px z = some e → ∀ R' H', Same R R' → Mv.Hv R' H' ((v, .ins CS dv (fl_Source (.ref fa) (.ref y) (.ref sl))) :: (sl, .lst xs) :: rest) → Q (.str e) H')) ∨
   (which = 1 ∧ ∃ (rr z r2 w2 h2 d2 c2 : Nat) (g : List (List Int)) (l p a b : Int), one = .ref rr ∧ two = .ref z ∧ Pic CP R z r2 w2 h2 d2 c2 (fun i => g.getD i []) ∧ Pq.rowsOk (w2 * h2) d2 c2 g ∧ R rr = some (.tup [.int l, .int p, .int a, .int b]) ∧
    (Rt.rectBad (Gd.ac w t) (Gd.ac h t) l p a b = none → (Rt.cw w t l.toNat a.toNat = w2 ∧ Rt.cw h t p.toNat b.toNat = h2 ∧ d = d2 ∧ c = c2) → ∀ k sl2 u R' H', Same R R' → Pn CP R' w h d c u (pasG w h t c l p a b f g) → Rg.RL R' k (Cg.chg w h d c t f (pasG w h t c l p a b f g)) → Mv.Hv R' H' ((v, .ins CS dv (fl_Source (.ref fa) (.ref u) (.ref sl2))) :: (sl2, .lst ((xs ++ [V.ref y]).drop (xs.length + 1 - 16))) :: rest) → Q (.ref k) H') ∧
    (∀ e : Str, ((Rt.rectBad (Gd.ac w t) (Gd.ac h t) l p a b = some (some ("rectangle" : Str)) ∧ e = "rectangle") ∨ (Rt.rectBad (Gd.ac w t) (Gd.ac h t) l p a b = some none ∧ e = "outside") ∨ (Rt.rectBad (Gd.ac w t) (Gd.ac h t) l p a b = none ∧ ¬ (Rt.cw w t l.toNat a.toNat = w2 ∧ Rt.cw h t p.toNat b.toNat = h2 ∧ d = d2 ∧ c = c2) ∧ e = "kind")) → ∀ R' H', Same R R' → Mv.Hv R' H' ((v, .ins CS dv (fl_Source (.ref fa) (.ref y) (.ref sl))) :: (sl, .lst xs) :: rest) → Q (.str e) H')))

theorem sc_law_ask : FnScope ["source", "which", "one", "two", "three", "told", "e"] ["source", "which", "one", "two", "three"] (defScope s_law_ask) := ⟨rfl, rfl, rfl, by decide +kernel, rfl, by decide +kernel, by decide +kernel⟩
theorem ok_law_ask (T : Tx P K mg) : FnOk P w K mg base CX0 11 T.law_ask.a T.law_ask.d ["source", "which", "one", "two", "three"] (sp_law_ask69 K T.a_Source T.a_Picture T.a_Frame) := by
  refine T.law_ask.f.ok sc_law_ask (fun vs H Q E h => ?_) (fun cdv A outer s H vs Q E hr h => ⟨_, pss_cons (Tm.ps_try rfl rfl sc_law_ask.nd takes0 (fun W pn xe tk po => pss_one (ps_set (i := 5) sc_law_ask.nd rfl (Or.inl rfl) (pe_callS (ok_law_ask_raw T) (hr.mono (by decide)) rfl T.law_ask_raw.g T.law_ask_raw.f.kp T.law_ask_raw.b (fun σ => passAt tk σ) (pa_cons (pv 0) (pa_cons (pv 1) (pa_cons (pv 2) (pa_cons (pv 3) (pa_cons (pv 4) pa_nil))))))))
      (Tm.Hd.named (i := 6) rfl rfl ⟨rfl, by decide, .inl T.x_OutOfRange.g⟩ (fun a oe cls d pn hz hf => pss_one (ps_ret (by exact pe_xf T.x_OutOfRange.xf T.nf_OutOfRange_name hz hf (pv 6) rfl)))
      (Tm.Hd.only ⟨rfl, by decide, .inl T.y_OutsidePicture.g⟩ (fun a oe cls d pn hz hf => pss_one (ps_ret (pe_str))) (Tm.Hd.only ⟨rfl, by decide, .inl T.y_OtherKind.g⟩ (fun a oe cls d pn hz hf => pss_one (ps_ret (pe_str))) Tm.Hd.nil))))
      (pss_cons (ps_if (pt_val (pe_callB (Gx.c_isiK (K := K) rfl) rfl T.n_isinstance (by decide +kernel) (pa_cons (pv 5) (pa_cons (pe_bltn (v := .ty "str") rfl T.n_str (by decide +kernel) rfl) pa_nil)))) (pss_one (ps_ret (pe_str))) (pss_nil))
      (pss_one (ps_ret (pv 5)))), ?_⟩)
  · obtain ⟨R, rest, v, dv, fa, y, sl, xs, w, h, d, c, t, f, which, one, two, three, rfl, _⟩ := h
    rfl
  · skip
    obtain ⟨R, rest, v, dv, fa, y, sl, xs, w, h, d, c, t, f, which, one, two, three, rfl, hr, hv, hxs, fr, D, pn, hh⟩ := h
    rcases hh with ⟨rfl, ch, px, z, rfl, rfl, rfl, q, qe⟩ | ⟨rfl, rr, z, r2, w2, h2, d2, c2, g, l, p, a, b, rfl, rfl, P2, ok2, hrr, q, qe⟩
    · walk_at "run"
      refine cs_law_ask_raw (.inl ⟨rfl, cs_Source_change hr hv hxs fr D pn (fun hb p sl2 u R' H' sR pu hp hv' => ?_) (fun e he H1 dd s1 hd1 => ?_)⟩)
      · walk_at "run"
        refine Gx.isi (b := false) (.base (.lst (hv'.same _ _ (Sq.rl_lst hp).choose_spec))) ?_ (kit_ty (by decide +kernel))
        walk_at "lit"
        exact q hb p sl2 u R' H' sR pu hp hv'
      · refine Sx.took T.x_OutOfRange.te fun a' ha => ?_
        have hX : upd H1 dd (.xd [("name", .str e)]) dd = some (.xd [("name", .str e)]) := upd_same
        have s2 := Gx.same_new (o := .xd [("name", .str e)]) hd1
        generalize upd H1 dd (.xd [("name", .str e)]) = H2 at hX s2 ⊢
        obtain ⟨R2, hv2, sR2, _⟩ := hv.grow (s1.trans s2)
        walk_at "run"
        refine Sx.xfp hX ?_
        exact qe e he R2 H2 sR2 hv2
    · walk_at "run"
      refine cs_law_ask_raw (.inr ⟨rfl, cs_Source_paste hr hv hxs fr D pn P2 ok2 hrr (fun hb e2 p sl2 u R' H' sR pu hp hv' => ?_) (fun he H1 dd s1 hd1 => ?_) (fun he H1 s1 => ?_) (fun he e2 H1 s1 => ?_)⟩)
      · walk_at "run"
        refine Gx.isi (b := false) (.base (.lst (hv'.same _ _ (Sq.rl_lst hp).choose_spec))) ?_ (kit_ty (by decide +kernel))
        walk_at "lit"
        exact q hb e2 p sl2 u R' H' sR pu hp hv'
      · refine Sx.took T.x_OutOfRange.te fun a' ha => ?_
        have hX : upd H1 dd (.xd [("name", .str "rectangle")]) dd = some (.xd [("name", .str "rectangle")]) := upd_same
        have s2 := Gx.same_new (o := .xd [("name", .str "rectangle")]) hd1
        generalize upd H1 dd (.xd [("name", .str "rectangle")]) = H2 at hX s2 ⊢
        obtain ⟨R2, hv2, sR2, _⟩ := hv.grow (s1.trans s2)
        walk_at "run"
        refine Sx.xfp hX ?_
        exact qe _ (.inl ⟨he, rfl⟩) R2 H2 sR2 hv2
      · obtain ⟨R2, hv2, sR2, _⟩ := hv.grow s1
        refine Tm.by_as T.em_OutsidePicture_OutOfRange ?_
        refine Tm.took_only T.y_OutsidePicture.te fun a' ha => ?_
        walk_at "run"
        exact qe _ (.inr (.inl ⟨he, rfl⟩)) R2 H1 sR2 hv2
      · obtain ⟨R2, hv2, sR2, _⟩ := hv.grow s1
        refine Tm.by_as T.em_OtherKind_OutOfRange ?_
        refine Tm.by_only T.em_OtherKind_OutsidePicture ?_
        refine Tm.took_only T.y_OtherKind.te fun a' ha => ?_
        walk_at "run"
        exact qe _ (.inr (.inr ⟨he, e2, rfl⟩)) R2 H1 sR2 hv2

theorem cp_law_ask0 {K : PySem.W.Frag} {CS CP CF v dv fa y sl : Addr} {xs : List V} {w h d c t : Nat} {f : List (List Int)} {ch px z : Int} {x3 : V} {R H : Hp} {rest : List (Addr × HO)} {Q : VK} {E : XK} (hr : ∀ q ∈ rest, ∀ ys, q.2 ≠ HO.tup ys) (hv : Mv.Hv R H ((v, .ins CS dv (fl_Source (.ref fa) (.ref y) (.ref sl))) :: (sl, .lst xs) :: rest)) (hl : xs.length ≤ 1000) (fr : Frm CF R fa w h d c t) (D : Rg.Dim w h d c t) (p1 : Pn CP R w h d c y f)
  (q : withBad c (w * h) d ch px z = none → ∀ p sl2 u R' H', Same R R' → Pn CP R' w h d c u (withF f ch.toNat px.toNat z) → Rg.RL R' p (Cg.chg w h d c t f (withF f ch.toNat px.toNat z)) → Mv.Hv R' H' ((v, .ins CS dv (fl_Source (.ref fa) (.ref u) (.ref sl2))) :: (sl2, .lst ((xs ++ [V.ref y]).drop (xs.length + 1 - 16))) :: rest) → Q (.ref p) H')
  (qe : ∀ e, withBad c (w * h) d ch px z = some e → ∀ R' H', Same R R' → Mv.Hv R' H' ((v, .ins CS dv (fl_Source (.ref fa) (.ref y) (.ref sl))) :: (sl, .lst xs) :: rest) → Q (.str e) H') :
  Gx.CP (sp_law_ask69 K CS CP CF) [.ref v, .int 0, .int ch, .int px, .int z] [] H Q E := ⟨R, rest, v, dv, fa, y, sl, xs, w, h, d, c, t, f, 0, _, _, _, rfl, hr, hv, hl, fr, D, p1, .inl ⟨rfl, ch, px, z, rfl, rfl, rfl, q, qe⟩⟩
theorem cp_law_ask1 {K : PySem.W.Frag} {CS CP CF v dv fa y sl rr z r2 : Addr} {xs : List V} {w h d c t w2 h2 d2 c2 : Nat} {f g : List (List Int)} {l p a b : Int} {x3 : V} {R H : Hp} {rest : List (Addr × HO)} {Q : VK} {E : XK} (hr : ∀ q ∈ rest, ∀ ys, q.2 ≠ HO.tup ys) (hv : Mv.Hv R H ((v, .ins CS dv (fl_Source (.ref fa) (.ref y) (.ref sl))) :: (sl, .lst xs) :: rest)) (hl : xs.length ≤ 1000) (fr : Frm CF R fa w h d c t) (D : Rg.Dim w h d c t) (p1 : Pn CP R w h d c y f) (P2 : Pic CP R z r2 w2 h2 d2 c2 (fun i => g.getD i [])) (ok2 : Pq.rowsOk (w2 * h2) d2 c2 g) (hrr : R rr = some (.tup [.int l, .int p, .int a, .int b]))
  (q : Rt.rectBad (Gd.ac w t) (Gd.ac h t) l p a b = none → (Rt.cw w t l.toNat a.toNat = w2 ∧ Rt.cw h t p.toNat b.toNat = h2 ∧ d = d2 ∧ c = c2) → ∀ k sl2 u R' H', Same R R' → Pn CP R' w h d c u (pasG w h t c l p a b f g) → Rg.RL R' k (Cg.chg w h d c t f (pasG w h t c l p a b f g)) → Mv.Hv R' H' ((v, .ins CS dv (fl_Source (.ref fa) (.ref u) (.ref sl2))) :: (sl2, .lst ((xs ++ [V.ref y]).drop (xs.length + 1 - 16))) :: rest) → Q (.ref k) H')
  (qe : ∀ e : Str, ((Rt.rectBad (Gd.ac w t) (Gd.ac h t) l p a b = some (some ("rectangle" : Str)) ∧ e = "rectangle") ∨ (Rt.rectBad (Gd.ac w t) (Gd.ac h t) l p a b = some none ∧ e = "outside") ∨ (Rt.rectBad (Gd.ac w t) (Gd.ac h t) l p a b = none ∧ ¬ (Rt.cw w t l.toNat a.toNat = w2 ∧ Rt.cw h t p.toNat b.toNat = h2 ∧ d = d2 ∧ c = c2) ∧ e = "kind")) → ∀ R' H', Same R R' → Mv.Hv R' H' ((v, .ins CS dv (fl_Source (.ref fa) (.ref y) (.ref sl))) :: (sl, .lst xs) :: rest) → Q (.str e) H') :
  Gx.CP (sp_law_ask69 K CS CP CF) [.ref v, .int 1, .ref rr, .ref z, x3] [] H Q E := ⟨R, rest, v, dv, fa, y, sl, xs, w, h, d, c, t, f, 1, _, _, _, rfl, hr, hv, hl, fr, D, p1, .inr ⟨rfl, rr, z, r2, w2, h2, d2, c2, g, l, p, a, b, rfl, rfl, P2, ok2, hrr, q, qe⟩⟩

theorem gb_and (v p : Nat) : Builtin.bitXor (Builtin.bitAnd ((v : Int) / 2 ^ (p : Int).toNat) 1) (Builtin.bitAnd ((v : Int) / 2 ^ ((p : Int) + 1).toNat) 1) = ((Gy.gb v p : Nat) : Int) := by
  have e1 : (p : Int).toNat = p := rfl
  have e2 : ((p : Int) + 1).toNat = p + 1 := by omega
  have c (k : Nat) : (v : Int) / 2 ^ k = ((v / 2 ^ k : Nat) : Int) := by
    rw [Int.natCast_ediv, Int.natCast_pow]; rfl
  have m (x : Nat) : Builtin.bitAnd (x : Int) 1 = ((x % 2 : Nat) : Int) := by
    have h := Bits.bitAnd_mask (x := (x : Int)) 1 (Int.natCast_nonneg _)
    rw [show (2 : Int) ^ 1 - 1 = 1 by decide, show (2 : Int) ^ 1 = ((2 : Nat) : Int) by decide, ← Int.natCast_emod] at h
    exact h
  rw [e1, e2, c, c, m, m, Gd.xr_int (by omega) (by omega)]
  unfold Gy.gb Gd.xr
  split <;> omega
noncomputable def sp_law_gray : Sp := fun vs H Q _ => ∃ (v p : Nat), vs = [.int (v : Int), .int (p : Int)] ∧ p ≤ 1000 ∧ Q (.int (Gy.gb v p : Nat)) H

theorem sc_law_gray : FnScope ["value", "plane"] ["value", "plane"] (defScope s_law_gray) := ⟨rfl, rfl, rfl, by decide +kernel, rfl, by decide +kernel, by decide +kernel⟩
theorem ok_law_gray (T : Tx P K mg) : FnOk P w K mg base CX0 1 T.law_gray.a T.law_gray.d ["value", "plane"] (sp_law_gray) := by
  refine T.law_gray.f.ok sc_law_gray (fun vs H Q E h => ?_) (fun cdv A outer s H vs Q E hr h => ⟨_, pss_one (ps_ret (pe_op op_xor (pe_op op_and (pe_op op_shr (pv 0) (pv 1)) (pe_int)) (pe_op op_and (pe_op op_shr (pv 0) (pe_op op_add (pv 1) (pe_int))) (pe_int)))), ?_⟩)
  · obtain ⟨v, p, rfl, _⟩ := h
    rfl
  · skip
    obtain ⟨v, p, rfl, hp, q⟩ := h
    walk_at "run"
    rw [gb_and]
    exact q

theorem cp_law_gray {v p : Nat} {H : Hp} {Q : VK} {E : XK} (hp : p ≤ 1000) (q : Q (.int (Gy.gb v p : Nat)) H) : Gx.CP sp_law_gray [.int (v : Int), .int (p : Int)] [] H Q E := ⟨v, p, rfl, hp, q⟩

noncomputable def sp_law_stored : Sp := fun vs H Q _ => ∃ (v s : Addr) (c j k p : Nat) (f : Nat → List Int), vs = [.ref s, .ref v, .int (j : Int), .int (k : Int), .int (p : Int)] ∧ (∃ z0 z1 z2 z4, H s = some (.lst [z0, z1, z2, .int (c : Int), z4])) ∧ Gx.LL H v c f ∧ (c = 1 ∨ c = 3) ∧ j < c ∧ p ≤ 1000 ∧ (∀ i, i < c → k < (f i).length ∧ ∀ z ∈ f i, 0 ≤ z) ∧ Q (.int (Gd.sb f c j k p : Nat)) H

theorem sc_law_stored : FnScope ["shape", "rows", "channel", "pixel", "plane", "middle"] ["shape", "rows", "channel", "pixel", "plane"] (defScope s_law_stored) := ⟨rfl, rfl, rfl, by decide +kernel, rfl, by decide +kernel, by decide +kernel⟩
theorem ok_law_stored (T : Tx P K mg) : FnOk P w K mg base CX0 2 T.law_stored.a T.law_stored.d ["shape", "rows", "channel", "pixel", "plane"] (sp_law_stored) := by
  refine T.law_stored.f.ok sc_law_stored (fun vs H Q E h => ?_) (fun cdv A outer s H vs Q E hr h => ⟨_, pss_cons (ps_if (pt_cmpR op_eq (pe_ix (Gx.ix_seqK (K := K) rfl) (pv 0) (pe_int) (fun _ _ => rfl)) (pe_int) (nomark _)) (pss_one (ps_ret (pe_call (ok_law_gray T) (hr.mono (by decide)) rfl T.law_gray.g T.law_gray.f.kp T.law_gray.b .nil pass0 (pa_cons (pe_ix (Gx.ix_seqK (K := K) rfl) (pe_ix (Gx.ix_seqK (K := K) rfl) (pv 1) (pe_int) (fun _ _ => rfl)) (pv 3) (fun _ _ => rfl)) (pa_cons (pv 4) pa_nil))))) (pss_nil))
      (pss_cons (ps_set (i := 5) sc_law_stored.nd rfl (Or.inl rfl) (pe_call (ok_law_gray T) (hr.mono (by decide)) rfl T.law_gray.g T.law_gray.f.kp T.law_gray.b .nil pass0 (pa_cons (pe_ix (Gx.ix_seqK (K := K) rfl) (pe_ix (Gx.ix_seqK (K := K) rfl) (pv 1) (pe_int) (fun _ _ => rfl)) (pv 3) (fun _ _ => rfl)) (pa_cons (pv 4) pa_nil))))
      (pss_cons (ps_if (pt_cmpR op_eq (pv 2) (pe_int) (nomark _)) (pss_one (ps_ret (pv 5))) (pss_nil))
      (pss_cons (ps_if (pt_cmpR op_eq (pv 2) (pe_int) (nomark _)) (pss_one (ps_ret (pe_op op_xor (pv 5) (pe_call (ok_law_gray T) (hr.mono (by decide)) rfl T.law_gray.g T.law_gray.f.kp T.law_gray.b .nil pass0 (pa_cons (pe_ix (Gx.ix_seqK (K := K) rfl) (pe_ix (Gx.ix_seqK (K := K) rfl) (pv 1) (pe_int) (fun _ _ => rfl)) (pv 3) (fun _ _ => rfl)) (pa_cons (pv 4) pa_nil)))))) (pss_nil))
      (pss_one (ps_ret (pe_op op_xor (pv 5) (pe_call (ok_law_gray T) (hr.mono (by decide)) rfl T.law_gray.g T.law_gray.f.kp T.law_gray.b .nil pass0 (pa_cons (pe_ix (Gx.ix_seqK (K := K) rfl) (pe_ix (Gx.ix_seqK (K := K) rfl) (pv 1) (pe_int) (fun _ _ => rfl)) (pv 3) (fun _ _ => rfl)) (pa_cons (pv 4) pa_nil))))))))), ?_⟩)
  · obtain ⟨v, s, c, j, k, p, f, rfl, _⟩ := h
    rfl
  · skip
    obtain ⟨v, s', c, j, k, p, f, rfl, ⟨z0, z1, z2, z4, hS⟩, ll, hc, hj, hp, hf, q⟩ := h
    obtain ⟨xs0, hv, hl⟩ := ll.len
    walk_at "go"
    refine Gx.ixL (SqL.of hS) (at_of (j := 3) rfl rfl) ?_
    walk_at "go"
    refine Gx.if_d (fun e => ?_) (fun e => ?_)
    · have e1 : c = 1 := by omega
      obtain ⟨xs, b, h1, h2, h3⟩ := ll.get (j := 0) (by omega)
      walk_at "go"
      refine Gx.ixL (SqL.of h1) h2 ?_
      walk_at "go"
      refine Gx.ixL (SqL.of h3) (Gx.at_map (hf 0 (by omega)).1) ?_
      walk_at "go"
      rw [Gd.vl_int (hf 0 (by omega)).1 (hf 0 (by omega)).2]
      refine cp_law_gray hp ?_
      unfold Gd.sb at q
      rw [if_pos e1] at q
      exact q
    have e3 : c = 3 := by omega
    have ne1 : ¬ c = 1 := by omega
    unfold Gd.sb at q
    rw [if_neg ne1] at q
    obtain ⟨xs, b, h1, h2, h3⟩ := ll.get (j := 1) (by omega)
    walk_at "go"
    refine Gx.ixL (SqL.of h1) h2 ?_
    walk_at "go"
    refine Gx.ixL (SqL.of h3) (Gx.at_map (hf 1 (by omega)).1) ?_
    walk_at "go"
    rw [Gd.vl_int (hf 1 (by omega)).1 (hf 1 (by omega)).2]
    refine cp_law_gray hp ?_
    walk_at "go"
    refine Gx.if_d (fun e => ?_) (fun e => ?_)
    · walk_at "go"
      rw [if_pos (by omega)] at q
      exact q
    rw [if_neg (by omega)] at q
    walk_at "go"
    refine Gx.if_d (fun e1 => ?_) (fun e1 => ?_)
    · obtain ⟨xs, b, h1, h2, h3⟩ := ll.get (j := 0) (by omega)
      walk_at "go"
      refine Gx.ixL (SqL.of h1) h2 ?_
      walk_at "go"
      refine Gx.ixL (SqL.of h3) (Gx.at_map (hf 0 (by omega)).1) ?_
      walk_at "go"
      rw [Gd.vl_int (hf 0 (by omega)).1 (hf 0 (by omega)).2]
      refine cp_law_gray hp ?_
      walk_at "go"
      rw [Gd.xr_int (Gy.gb_le _ _) (Gy.gb_le _ _)]
      rw [if_pos (show j = 1 by omega)] at q
      exact q
    · obtain ⟨xs, b, h1, h2, h3⟩ := ll.get (j := 2) (by omega)
      walk_at "go"
      refine Gx.ixL (SqL.of h1) h2 ?_
      walk_at "go"
      refine Gx.ixL (SqL.of h3) (Gx.at_map (hf 2 (by omega)).1) ?_
      walk_at "go"
      rw [Gd.vl_int (hf 2 (by omega)).1 (hf 2 (by omega)).2]
      refine cp_law_gray hp ?_
      walk_at "go"
      rw [Gd.xr_int (Gy.gb_le _ _) (Gy.gb_le _ _)]
      rw [if_neg (show ¬ j = 1 by omega)] at q
      exact q

theorem cp_law_stored {v s : Addr} {z0 z1 z2 z4 : V} {c j k p : Nat} {f : Nat → List Int} {H : Hp} {Q : VK} {E : XK} (hS : H s = some (.lst [z0, z1, z2, .int (c : Int), z4])) (ll : Gx.LL H v c f) (hc : c = 1 ∨ c = 3) (hj : j < c) (hp : p ≤ 1000) (hf : ∀ i, i < c → k < (f i).length ∧ ∀ z ∈ f i, 0 ≤ z) (q : Q (.int (Gd.sb f c j k p : Nat)) H) :
    Gx.CP sp_law_stored [.ref s, .ref v, .int (j : Int), .int (k : Int), .int (p : Int)] [] H Q E := ⟨v, s, c, j, k, p, f, rfl, ⟨z0, z1, z2, z4, hS⟩, ll, hc, hj, hp, hf, q⟩

noncomputable def sp_law_tile : Sp := fun vs H Q _ => ∃ (s : Addr) (w h d c t k : Nat), vs = [.ref s, .int (k : Int)] ∧ H s = some (.lst [.int (w : Int), .int (h : Int), .int (d : Int), .int (c : Int), .int (t : Int)]) ∧ Rg.Dim w h d c t ∧ k < Gd.ac w t * Gd.ac h t ∧ ∀ p H', H p = none → Same H H' → H' p = some (.lst [.int ((k % Gd.ac w t * t : Nat) : Int), .int ((k / Gd.ac w t * t : Nat) : Int), .int ((Gd.sd w t (k % Gd.ac w t) : Nat) : Int), .int ((Gd.sd h t (k / Gd.ac w t) : Nat) : Int)]) → Q (.ref p) H'

theorem sc_law_tile : FnScope ["shape", "tile", "across", "left", "top"] ["shape", "tile"] (defScope s_law_tile) := ⟨rfl, rfl, rfl, by decide +kernel, rfl, by decide +kernel, by decide +kernel⟩
theorem ok_law_tile (T : Tx P K mg) : FnOk P w K mg base CX0 1 T.law_tile.a T.law_tile.d ["shape", "tile"] (sp_law_tile) := by
  refine T.law_tile.f.ok sc_law_tile (fun vs H Q E h => ?_) (fun cdv A outer s H vs Q E hr h => ⟨_, pss_cons (ps_set (i := 2) sc_law_tile.nd rfl (Or.inl rfl) (pe_op op_fdiv (pe_op op_sub (pe_op op_add (pe_ix (Gx.ix_seqK (K := K) rfl) (pv 0) (pe_int) (fun _ _ => rfl)) (pe_ix (Gx.ix_seqK (K := K) rfl) (pv 0) (pe_int) (fun _ _ => rfl))) (pe_int)) (pe_ix (Gx.ix_seqK (K := K) rfl) (pv 0) (pe_int) (fun _ _ => rfl))))
      (pss_cons (ps_set (i := 3) sc_law_tile.nd rfl (Or.inl rfl) (pe_op op_mul (pe_op op_mod (pe_callTy Gx.c_int rfl T.n_int (by decide +kernel) (pa_cons (pv 1) pa_nil)) (pv 2)) (pe_ix (Gx.ix_seqK (K := K) rfl) (pv 0) (pe_int) (fun _ _ => rfl))))
      (pss_cons (ps_set (i := 4) sc_law_tile.nd rfl (Or.inl rfl) (pe_op op_mul (pe_op op_fdiv (pv 1) (pv 2)) (pe_ix (Gx.ix_seqK (K := K) rfl) (pv 0) (pe_int) (fun _ _ => rfl))))
      (pss_one (ps_ret (pe_lst (pa_cons (pv 3) (pa_cons (pv 4) (pa_cons (pe_callB (Gx.c_min2 rfl) rfl T.n_min (by decide +kernel) (pa_cons (pe_ix (Gx.ix_seqK (K := K) rfl) (pv 0) (pe_int) (fun _ _ => rfl)) (pa_cons (pe_op op_sub (pe_ix (Gx.ix_seqK (K := K) rfl) (pv 0) (pe_int) (fun _ _ => rfl)) (pv 3)) pa_nil))) (pa_cons (pe_callB (Gx.c_min2 rfl) rfl T.n_min (by decide +kernel) (pa_cons (pe_ix (Gx.ix_seqK (K := K) rfl) (pv 0) (pe_int) (fun _ _ => rfl)) (pa_cons (pe_op op_sub (pe_ix (Gx.ix_seqK (K := K) rfl) (pv 0) (pe_int) (fun _ _ => rfl)) (pv 4)) pa_nil))) pa_nil))))))))), ?_⟩)
  · obtain ⟨s, w, h, d, c, t, k, rfl, _⟩ := h
    rfl
  · skip
    obtain ⟨s', w, h, d, c, t, k, rfl, hS, D, hk, q⟩ := h
    obtain ⟨l1, l2, l3, l4, l5, l6, l7⟩ := D.ok
    obtain ⟨a1, a2, a3, a4, a5, a6, a7, a8, a9, a10⟩ := id D
    have m1 : k % Gd.ac w t < Gd.ac w t := Nat.mod_lt _ l3
    have m2 : k / Gd.ac w t < Gd.ac h t := Nat.div_lt_of_lt_mul hk
    have e1 : ((k : Int) % ((Gd.ac w t : Nat) : Int) * (t : Int)) = ((k % Gd.ac w t * t : Nat) : Int) := by rw [Int.natCast_mul, Int.natCast_emod]
    have e2 : ((k : Int) / ((Gd.ac w t : Nat) : Int) * (t : Int)) = ((k / Gd.ac w t * t : Nat) : Int) := by rw [Int.natCast_mul, Int.natCast_ediv]
    walk_at "run"
    rw [Gd.ac_int (by omega)]
    walk_at "run"
    rw [e1, e2]
    refine Gx.min2 ?_
    rw [Gd.sd_int (by omega) m1]
    walk_at "run"
    refine Gx.min2 ?_
    rw [Gd.sd_int (by omega) m2]
    walk_at "run"
    refine Nx.lst0 (by show 4 ≤ sizeLine; decide) fun p H1 n1 s1 h1 => ?_
    exact q p H1 n1 s1 h1

theorem cp_law_tile {s : Addr} {w h d c t k : Nat} {H : Hp} {Q : VK} {E : XK} (hS : H s = some (.lst [.int (w : Int), .int (h : Int), .int (d : Int), .int (c : Int), .int (t : Int)])) (D : Rg.Dim w h d c t) (hk : k < Gd.ac w t * Gd.ac h t) (q : ∀ p H', H p = none → Same H H' → H' p = some (.lst [.int ((k % Gd.ac w t * t : Nat) : Int), .int ((k / Gd.ac w t * t : Nat) : Int), .int ((Gd.sd w t (k % Gd.ac w t) : Nat) : Int), .int ((Gd.sd h t (k / Gd.ac w t) : Nat) : Int)]) → Q (.ref p) H') : Gx.CP sp_law_tile [.ref s, .int (k : Int)] [] H Q E := ⟨s, w, h, d, c, t, k, rfl, hS, D, hk, q⟩

/-- the pixels of a tile as a list -/
noncomputable def pxs (w h t k : Nat) : List V := (List.range (Rg.tileBox w h t k)).map fun m => .int ((Gd.pix w t k m : Nat) : Int)
noncomputable def sp_law_pixels : Sp := fun vs H Q _ => ∃ (s : Addr) (w h d c t k : Nat), vs = [.ref s, .int (k : Int)] ∧ H s = some (.lst [.int (w : Int), .int (h : Int), .int (d : Int), .int (c : Int), .int (t : Int)]) ∧ Rg.Dim w h d c t ∧ k < Gd.ac w t * Gd.ac h t ∧ ∀ p H', H p = none → Same H H' → H' p = some (.lst (pxs w h t k)) → Q (.ref p) H'

theorem sc_law_pixels : FnScope ["shape", "tile", "place", "pixels", "y", "x"] ["shape", "tile"] (defScope s_law_pixels) := ⟨rfl, rfl, rfl, by decide +kernel, rfl, by decide +kernel, by decide +kernel⟩
theorem ok_law_pixels (T : Tx P K mg) : FnOk P w K mg base CX0 2 T.law_pixels.a T.law_pixels.d ["shape", "tile"] (sp_law_pixels) := by
  refine T.law_pixels.f.ok sc_law_pixels (fun vs H Q E h => ?_) (fun cdv A outer s H vs Q E hr h => ⟨_, pss_cons (ps_set (i := 2) sc_law_pixels.nd rfl (Or.inl rfl) (pe_call (ok_law_tile T) (hr.mono (by decide)) rfl T.law_tile.g T.law_tile.f.kp T.law_tile.b .nil pass0 (pa_cons (pv 0) (pa_cons (pv 1) pa_nil))))
      (pss_cons (ps_set (i := 3) sc_law_pixels.nd rfl (Or.inl rfl) (pe_lst pa_nil))
      (pss_cons (ps_for PassesOwn.never rfl (pi_range1 rfl T.n_range (pa_cons (pe_ix (Gx.ix_seqK (K := K) rfl) (pv 2) (pe_int) (fun _ _ => rfl)) pa_nil)) (pg_name (i := 4) sc_law_pixels.nd rfl (Or.inl rfl))
      (pss_one (ps_for PassesOwn.never rfl (pi_range1 rfl T.n_range (pa_cons (pe_ix (Gx.ix_seqK (K := K) rfl) (pv 2) (pe_int) (fun _ _ => rfl)) pa_nil)) (pg_name (i := 5) sc_law_pixels.nd rfl (Or.inl rfl))
      (pss_one (ps_expr (pe_bm PySem.F.plainAttrs_list PySem.F.slot_list_append PySem.F.type_list_append mt_append (pv 3) (pa_cons (pe_op op_add (pe_op op_add (pe_op op_mul (pe_op op_add (pe_ix (Gx.ix_seqK (K := K) rfl) (pv 2) (pe_int) (fun _ _ => rfl)) (pv 4)) (pe_ix (Gx.ix_seqK (K := K) rfl) (pv 0) (pe_int) (fun _ _ => rfl))) (pe_ix (Gx.ix_seqK (K := K) rfl) (pv 2) (pe_int) (fun _ _ => rfl))) (pv 5)) pa_nil)))))))
      (pss_one (ps_ret (pv 3))))), ?_⟩)
  · obtain ⟨s, w, h, d, c, t, k, rfl, _⟩ := h
    rfl
  · skip
    obtain ⟨s', w, h, d, c, t, k, rfl, hS, D, hk, q⟩ := h
    obtain ⟨l1, l2, l3, l4, l5, l6, l7⟩ := D.ok
    obtain ⟨a1, a2, a3, a4, a5, a6, a7, a8, a9, a10⟩ := id D
    have m1 : k % Gd.ac w t < Gd.ac w t := Nat.mod_lt _ l3
    have m2 : k / Gd.ac w t < Gd.ac h t := Nat.div_lt_of_lt_mul hk
    have tw := Gd.sd_pos (n := w) (t := t) (by omega) m1
    have b1 := Gd.ac_mul (n := w) (t := t) (by omega) m1
    have b2 := Gd.ac_mul (n := h) (t := t) (by omega) m2
    have hW : Gd.sd w t (k % Gd.ac w t) ≤ 16 := by unfold Gd.sd; omega
    have hH : Gd.sd h t (k / Gd.ac w t) ≤ 16 := by unfold Gd.sd; omega
    walk_at "run"
    refine cp_law_tile hS D hk fun pl H1 n1 s1 h1 => ?_
    have hS1 := s1 _ _ hS
    have e : (List.range (Gd.sd h t (k / Gd.ac w t) * Gd.sd w t (k % Gd.ac w t))).map (fun m => V.int ((((k / Gd.ac w t * t + m / Gd.sd w t (k % Gd.ac w t)) * w + k % Gd.ac w t * t + m % Gd.sd w t (k % Gd.ac w t) : Nat)) : Int)) = pxs w h t k := by
      unfold pxs Rg.tileBox
      refine List.map_congr_left fun m _ => ?_
      unfold Gd.pix
      rw [Nat.add_assoc]
    generalize pxs w h t k = PX at *
    generalize Gd.sd w t (k % Gd.ac w t) = W at *
    generalize Gd.sd h t (k / Gd.ac w t) = U at *
    generalize k % Gd.ac w t * t = X0 at *
    generalize k / Gd.ac w t * t = Y0 at *
    walk_at "run"
    refine Nx.lst0 (by show 0 ≤ sizeLine; decide) fun pp H2 n2 s2 h2 => ?_
    have np := s1.free n2
    have s12 := s1.trans s2
    have h1b := s2 _ _ h1
    walk_at "run"
    refine Gx.r1 (by omega) (by omega) ?_
    rw [Int.toNat_natCast]
    have g : ∀ n, V.int (((Y0 + n / W) * w + X0 + n % W : Nat) : Int) = (fun m => V.int (((Y0 + m / W) * w + X0 + m % W : Nat) : Int)) n := fun _ => rfl
    refine Gx.fw walk_range (fun i σ' H' => ∃ (v4 v5 : Option V), Same H1 H' ∧ H' pp = some (.lst ((List.range (i * W)).map fun m => V.int (((Y0 + m / W) * w + X0 + m % W : Nat) : Int))) ∧ σ' = [some (.ref s'), some (.int (k : Int)), some (.ref pl), some (.ref pp), v4, v5]) ⟨none, none, s2, by rw [Nat.zero_mul]; exact h2, rfl⟩ (fun _ _ _ _ _ => trivial) ?_ ?_
    · rintro i y σ' H3 H3' hi ⟨v4, v5, s3, hpp, rfl⟩ ⟨rfl, hy⟩
      have hy2 : y = .int (i : Int) := hy.trans (congrArg V.int (by omega))
      subst hy2
      have hl3 := s3 _ _ h1
      walk_at "run"
      refine Gx.r1 (by omega) (by omega) ?_
      rw [Int.toNat_natCast]
      refine Gx.fw walk_range (fun j σ' H' => ∃ (v5 : Option V), Same H1 H' ∧ H' pp = some (.lst ((List.range (i * W + j)).map fun m => V.int (((Y0 + m / W) * w + X0 + m % W : Nat) : Int))) ∧ σ' = [some (.ref s'), some (.int (k : Int)), some (.ref pl), some (.ref pp), some (.int (i : Int)), v5]) ⟨_, s3, hpp, rfl⟩ (fun _ _ _ _ _ => trivial) ?_ ?_
      · rintro j z σ' H4 H4' hj ⟨v5, s4, hpp, rfl⟩ ⟨rfl, hz⟩
        have hz2 : z = .int (j : Int) := hz.trans (congrArg V.int (by omega))
        subst hz2
        have hl4 := s4 _ _ h1
        have hS4 := s4 _ _ hS1
        have hYw : i * W ≤ 16 * 16 := Nat.mul_le_mul (by omega) (by omega)
        walk_at "run"
        refine Gx.bmS (Gx.tyL (SqL.of hpp)) ?_
        walk_at "run"
        rw [← Int.natCast_add, ← Int.natCast_mul, ← Int.natCast_add, ← Int.natCast_add]
        refine Gx.app hpp (by rw [List.length_map, List.length_range, sizeLine_eq]; omega) ?_
        refine ⟨_, Gx.same_up n2 s4, ?_, rfl⟩
        rw [upd_same, show i * W + (j + 1) = i * W + j + 1 by omega, List.range_succ, List.map_append]
        congr 3
        show [V.int _] = [V.int _]
        rw [Nat.mul_comm i W, Nat.mul_add_div (by omega), Nat.div_eq_of_lt hj, Nat.add_zero, Nat.mul_add_mod, Nat.mod_eq_of_lt hj]
      rintro σ' H4 ⟨v5, s4, hpp, rfl⟩
      walk_at "run"
      exact ⟨_, _, s4, by rw [Nat.succ_mul]; exact hpp, rfl⟩
    rintro σ' H3 ⟨v4, v5, s3, hpp, rfl⟩
    rw [e] at hpp
    walk_at "run"
    exact q pp H3 np (s1.trans s3) hpp

theorem cp_law_pixels {s : Addr} {w h d c t k : Nat} {H : Hp} {Q : VK} {E : XK} (hS : H s = some (.lst [.int (w : Int), .int (h : Int), .int (d : Int), .int (c : Int), .int (t : Int)])) (D : Rg.Dim w h d c t) (hk : k < Gd.ac w t * Gd.ac h t) (q : ∀ p H', H p = none → Same H H' → H' p = some (.lst (pxs w h t k)) → Q (.ref p) H') :
    Gx.CP sp_law_pixels [.ref s, .int (k : Int)] [] H Q E := ⟨s, w, h, d, c, t, k, rfl, hS, D, hk, q⟩

noncomputable def sp_law_packet : Sp := fun vs H Q _ => ∃ (s v kp : Addr) (w h d c t j k p : Nat) (f : List (List Int)), vs = [.ref s, .ref v, .ref kp] ∧ H s = some (.lst [.int (w : Int), .int (h : Int), .int (d : Int), .int (c : Int), .int (t : Int)]) ∧ Rg.Dim w h d c t ∧ Pq.RW H v f ∧ Pq.rowsOk (w * h) d c f ∧ H kp = some (.tup [.int (j : Int), .int (k : Int), .int (p : Int)]) ∧ j < c ∧ k < Gd.ac w t * Gd.ac h t ∧ p < d ∧ ∀ H', Same H H' → Q (.str (Bs.S (Pb.pb w h t (fun i => f.getD i []) c j k p))) H'

theorem sc_law_packet : FnScope ["shape", "rows", "key", "text", "pixel"] ["shape", "rows", "key"] (defScope s_law_packet) := ⟨rfl, rfl, rfl, by decide +kernel, rfl, by decide +kernel, by decide +kernel⟩
theorem ok_law_packet (T : Tx P K mg) : FnOk P w K mg base CX0 3 T.law_packet.a T.law_packet.d ["shape", "rows", "key"] (sp_law_packet) := by
  refine T.law_packet.f.ok sc_law_packet (fun vs H Q E h => ?_) (fun cdv A outer s H vs Q E hr h => ⟨_, pss_cons (ps_set (i := 3) sc_law_packet.nd rfl (Or.inl rfl) (pe_str))
      (pss_cons (ps_for PassesOwn.never rfl (pi_list (pe_call (ok_law_pixels T) (hr.mono (by decide)) rfl T.law_pixels.g T.law_pixels.f.kp T.law_pixels.b .nil pass0 (pa_cons (pv 0) (pa_cons (pe_ix (Gx.ix_seqK (K := K) rfl) (pv 2) (pe_int) (fun _ _ => rfl)) pa_nil)))) (pg_name (i := 4) sc_law_packet.nd rfl (Or.inl rfl))
      (pss_one (ps_set (i := 3) sc_law_packet.nd rfl (Or.inl rfl) (pe_op Gx.o_addS (pv 3) (pe_callTy Gx.c_strI rfl T.n_str (by decide +kernel) (pa_cons (pe_call (ok_law_stored T) (hr.mono (by decide)) rfl T.law_stored.g T.law_stored.f.kp T.law_stored.b .nil pass0 (pa_cons (pv 0) (pa_cons (pv 1) (pa_cons (pe_ix (Gx.ix_seqK (K := K) rfl) (pv 2) (pe_int) (fun _ _ => rfl)) (pa_cons (pv 4) (pa_cons (pe_ix (Gx.ix_seqK (K := K) rfl) (pv 2) (pe_int) (fun _ _ => rfl)) pa_nil)))))) pa_nil))))))
      (pss_one (ps_ret (pv 3)))), ?_⟩)
  · obtain ⟨s, v, kp, w, h, d, c, t, j, k, p, f, rfl, _⟩ := h
    rfl
  · skip
    obtain ⟨s', v, kp, w, h, d, c, t, j, k, p, f, rfl, hS, D, hv, ok, hk, hj, hkt, hp, q⟩ := h
    obtain ⟨l1, l2, l3, l4, l5, l6, l7⟩ := D.ok
    obtain ⟨a1, a2, a3, a4, a5, a6, a7, a8, a9, a10⟩ := id D
    have hbox := Pb.box_le (w := w) (h := h) (k := k) (t := t) a9
    walk_at "run"
    refine cp_law_pixels hS D hkt fun pp H1 n1 s1 h1 => ?_
    have hpx : (pxs w h t k).length = Rg.tileBox w h t k := by unfold pxs; simp
    have hll : Gx.LL H v c (fun i => f.getD i []) := by
      have := hv
      unfold Pq.RW at this
      rw [ok.1] at this
      exact this
    walk_at "run"
    refine Gx.lp (SqL.of h1) ?_
    refine Gx.fw (walk_list (xs := pxs w h t k)) (fun i σ' H' => ∃ (v4 : Option V), Same H1 H' ∧ σ' = [some (.ref s'), some (.ref v), some (.ref kp), some (.str (Bs.S ((Pb.pb w h t (fun i => f.getD i []) c j k p).take i))), v4]) ⟨none, Same.refl _, by rw [List.take_zero, ← Bs.lit_]; rfl⟩ (fun i σ' H' _ ⟨_, s2, _⟩ => SqL.of (s2 _ _ h1)) ?_ ?_
    · rintro i y σ' H2 H2' hi ⟨v4, s2, rfl⟩ ⟨rfl, hy⟩
      rw [hpx] at hi
      unfold pxs at hy
      rw [List.getElem?_map, List.getElem?_range hi] at hy
      have hy := Option.some.inj hy
      subst hy
      have sA := s1.trans s2
      have hk' := sA _ _ hk
      have hS' := sA _ _ hS
      have hpl := Gd.pix_lt (h := h) (w := w) (t := t) (k := k) (m := i) (by omega) (by omega) hkt hi
      walk_at "run"
      refine cp_law_stored hS' (hll.keep sA) a7 hj (by omega) (fun z hz => ⟨by rw [(Pq.rowOk_getD ok hz).1]; exact hpl, fun y hy => ((Pq.rowOk_getD ok hz).2 y hy).1⟩) ?_
      walk_at "run"
      refine Pb.str01 (Pb.sb_le _ _ _ _ _) ?_
      refine Gx.addS (by rw [Bs.len, Bs.len, List.length_take, Pb.pb_len, sizeLine_eq]; show _ + 1 ≤ _; omega) ?_
      rw [Bs.cat]
      have et : (Pb.pb w h t (fun i => f.getD i []) c j k p).take (i + 1) = (Pb.pb w h t (fun i => f.getD i []) c j k p).take i ++ [decide (Gd.sb (fun i => f.getD i []) c j (Gd.pix w t k i) p = 1)] := by
        rw [List.take_add_one]
        congr 1
        unfold Pb.pb
        rw [List.getElem?_map, List.getElem?_range hi]; rfl
      rw [← et]
      walk_at "run"
      exact ⟨_, s2, rfl⟩
    rintro σ' H2 ⟨v4, s2, rfl⟩
    rw [List.take_of_length_le (by rw [Pb.pb_len, hpx]; exact Nat.le_refl _)]
    walk_at "run"
    exact q H2 (s1.trans s2)

theorem cp_law_packet {s v kp : Addr} {w h d c t j k p : Nat} {f : List (List Int)} {H : Hp} {Q : VK} {E : XK} (hS : H s = some (.lst [.int (w : Int), .int (h : Int), .int (d : Int), .int (c : Int), .int (t : Int)])) (D : Rg.Dim w h d c t) (hv : Pq.RW H v f) (ok : Pq.rowsOk (w * h) d c f) (hk : H kp = some (.tup [.int (j : Int), .int (k : Int), .int (p : Int)])) (hj : j < c) (hkt : k < Gd.ac w t * Gd.ac h t) (hp : p < d) (q : ∀ H', Same H H' → Q (.str (Bs.S (Pb.pb w h t (fun i => f.getD i []) c j k p))) H') : Gx.CP sp_law_packet [.ref s, .ref v, .ref kp] [] H Q E := ⟨s, v, kp, w, h, d, c, t, j, k, p, f, rfl, hS, D, hv, ok, hk, hj, hkt, hp, q⟩

noncomputable def sp_law_tiles : Sp := fun vs H Q _ => ∃ (s : Addr) (w h d c t : Nat), vs = [.ref s] ∧ H s = some (.lst [.int (w : Int), .int (h : Int), .int (d : Int), .int (c : Int), .int (t : Int)]) ∧ 1 ≤ t ∧ t ≤ 16 ∧ w ≤ 64 ∧ Q (.int (Gd.ac w t * Gd.ac h t : Nat)) H

theorem sc_law_tiles : FnScope ["shape", "across"] ["shape"] (defScope s_law_tiles) := ⟨rfl, rfl, rfl, by decide +kernel, rfl, by decide +kernel, by decide +kernel⟩
theorem ok_law_tiles (T : Tx P K mg) : FnOk P w K mg base CX0 1 T.law_tiles.a T.law_tiles.d ["shape"] (sp_law_tiles) := by
  refine T.law_tiles.f.ok sc_law_tiles (fun vs H Q E h => ?_) (fun cdv A outer s H vs Q E hr h => ⟨_, pss_cons (ps_set (i := 1) sc_law_tiles.nd rfl (Or.inl rfl) (pe_op op_fdiv (pe_op op_sub (pe_op op_add (pe_ix (Gx.ix_seqK (K := K) rfl) (pv 0) (pe_int) (fun _ _ => rfl)) (pe_ix (Gx.ix_seqK (K := K) rfl) (pv 0) (pe_int) (fun _ _ => rfl))) (pe_int)) (pe_ix (Gx.ix_seqK (K := K) rfl) (pv 0) (pe_int) (fun _ _ => rfl))))
      (pss_one (ps_ret (pe_op op_mul (pv 1) (pe_op op_fdiv (pe_op op_sub (pe_op op_add (pe_ix (Gx.ix_seqK (K := K) rfl) (pv 0) (pe_int) (fun _ _ => rfl)) (pe_ix (Gx.ix_seqK (K := K) rfl) (pv 0) (pe_int) (fun _ _ => rfl))) (pe_int)) (pe_ix (Gx.ix_seqK (K := K) rfl) (pv 0) (pe_int) (fun _ _ => rfl)))))), ?_⟩)
  · obtain ⟨s, w, h, d, c, t, rfl, _⟩ := h
    rfl
  · skip
    obtain ⟨s, w, h, d, c, t, rfl, hS, ht1, ht2, hw, q⟩ := h
    have l1 := Gd.ac_le (n := w) (t := t) (by omega)
    walk_at "run"
    rw [Gd.ac_int (by omega), Gd.ac_int (by omega)]
    refine Gx.ic (.inl (by omega)) ?_
    rw [← Int.natCast_mul]
    exact q

theorem cp_law_tiles {s : Addr} {w h d c t : Nat} {H : Hp} {Q : VK} {E : XK} (hS : H s = some (.lst [.int (w : Int), .int (h : Int), .int (d : Int), .int (c : Int), .int (t : Int)])) (h1 : 1 ≤ t) (h2 : t ≤ 16) (hw : w ≤ 64) (q : Q (.int (Gd.ac w t * Gd.ac h t : Nat)) H) : Gx.CP sp_law_tiles [.ref s] [] H Q E := ⟨s, w, h, d, c, t, rfl, hS, h1, h2, hw, q⟩

noncomputable def sp_law_keys : Sp := fun vs H Q _ => ∃ (s : Addr) (w h d c t n : Nat), vs = [.ref s] ∧ n = Gd.ac w t * Gd.ac h t ∧ 1 ≤ t ∧ t ≤ 16 ∧ w ≤ 64 ∧ H s = some (.lst [.int (w : Int), .int (h : Int), .int (d : Int), .int (c : Int), .int (t : Int)]) ∧ d ≤ 8 ∧ c ≤ 3 ∧ n ≤ 10000 ∧ ∀ p H', H p = none → Same H H' → Gx.TL H' p (d * c * n) (Gd.ky n c d) → Q (.ref p) H'

theorem sc_law_keys : FnScope ["shape", "keys", "step", "channel", "tile"] ["shape"] (defScope s_law_keys) := ⟨rfl, rfl, rfl, by decide +kernel, rfl, by decide +kernel, by decide +kernel⟩
theorem ok_law_keys (T : Tx P K mg) : FnOk P w K mg base CX0 2 T.law_keys.a T.law_keys.d ["shape"] (sp_law_keys) := by
  refine T.law_keys.f.ok sc_law_keys (fun vs H Q E h => ?_) (fun cdv A outer s H vs Q E hr h => ⟨_, pss_cons (ps_set (i := 1) sc_law_keys.nd rfl (Or.inl rfl) (pe_lst pa_nil))
      (pss_cons (ps_for PassesOwn.never rfl (pi_range1 rfl T.n_range (pa_cons (pe_ix (Gx.ix_seqK (K := K) rfl) (pv 0) (pe_int) (fun _ _ => rfl)) pa_nil)) (pg_name (i := 2) sc_law_keys.nd rfl (Or.inl rfl))
      (pss_one (ps_for PassesOwn.never rfl (pi_range1 rfl T.n_range (pa_cons (pe_ix (Gx.ix_seqK (K := K) rfl) (pv 0) (pe_int) (fun _ _ => rfl)) pa_nil)) (pg_name (i := 3) sc_law_keys.nd rfl (Or.inl rfl))
      (pss_one (ps_for PassesOwn.never rfl (pi_range1 rfl T.n_range (pa_cons (pe_call (ok_law_tiles T) (hr.mono (by decide)) rfl T.law_tiles.g T.law_tiles.f.kp T.law_tiles.b .nil pass0 (pa_cons (pv 0) pa_nil)) pa_nil)) (pg_name (i := 4) sc_law_keys.nd rfl (Or.inl rfl))
      (pss_one (ps_expr (pe_bm PySem.F.plainAttrs_list PySem.F.slot_list_append PySem.F.type_list_append mt_append (pv 1) (pa_cons (pe_tup (pa_cons (pv 3) (pa_cons (pv 4) (pa_cons (pe_op op_sub (pe_op op_sub (pe_ix (Gx.ix_seqK (K := K) rfl) (pv 0) (pe_int) (fun _ _ => rfl)) (pe_int)) (pv 2)) pa_nil)))) pa_nil)))))))))
      (pss_one (ps_ret (pv 1)))), ?_⟩)
  · obtain ⟨s, w, h, d, c, t, n, rfl, _⟩ := h
    rfl
  · skip
    obtain ⟨s, w, h, d, c, t, n, rfl, en, ht1, ht2, hw, hS, hd, hc, hn, q⟩ := h
    walk_at "go"
    refine Gx.lstP (Nat.zero_le _) fun p hp => ?_
    have big : ∀ {i j k : Nat}, i < d → j < c → k < n → (i * c + j) * n + k < 8 * 3 * 10000 + 1000000 := fun {i j k} hi hj hk => by
      have a1 : i * c + j ≤ 7 * 3 + 3 := Nat.add_le_add (Nat.mul_le_mul (by omega) hc) (by omega)
      have a2 : (i * c + j) * n ≤ (7 * 3 + 3) * 10000 := Nat.mul_le_mul a1 hn
      omega
    walk_at "go"
    refine Gx.ixL (SqL.of (Gx.same_new hp _ _ hS)) (at_of (j := 2) rfl rfl) ?_
    walk_at "go"
    refine Gx.r1 (by omega) (by omega) ?_
    rw [Int.toNat_natCast]
    refine Gx.fw walk_range (fun i σ' H' => Same H H' ∧ Gx.TL H' p (i * c * n) (Gd.ky n c d) ∧ ∃ v1 v2 v3 : Option V, σ' = [some (.ref s), some (.ref p), v1, v2, v3])
      ⟨Gx.same_new hp, by rw [Nat.zero_mul, Nat.zero_mul]; exact Gx.TL.nil upd_same, none, none, none, rfl⟩ (fun _ _ _ _ _ => trivial) ?_ ?_
    · rintro i x σ' H2 H2' hi ⟨s2, tl2, v1, v2, v3, rfl⟩ ⟨rfl, hx⟩
      have hx2 : x = .int (i : Int) := hx.trans (congrArg V.int (by omega))
      subst hx2
      walk_at "go"
      refine Gx.ixL (SqL.of (s2 _ _ hS)) (at_of (j := 3) rfl rfl) ?_
      walk_at "go"
      refine Gx.r1 (by omega) (by omega) ?_
      rw [Int.toNat_natCast]
      refine Gx.fw walk_range (fun j σ' H' => Same H H' ∧ Gx.TL H' p ((i * c + j) * n) (Gd.ky n c d) ∧ ∃ v2 v3 : Option V, σ' = [some (.ref s), some (.ref p), some (.int (i : Int)), v2, v3])
        ⟨s2, tl2, _, _, rfl⟩ (fun _ _ _ _ _ => trivial) ?_ ?_
      · rintro j x σ' H3 H3' hj ⟨s3, tl3, v2, v3, rfl⟩ ⟨rfl, hx⟩
        have hx2 : x = .int (j : Int) := hx.trans (congrArg V.int (by omega))
        subst hx2
        walk_at "go"
        refine cp_law_tiles (s3 _ _ hS) ht1 ht2 hw ?_
        rw [← en]
        walk_at "go"
        refine Gx.r1 (by omega) (by omega) ?_
        rw [Int.toNat_natCast]
        refine Gx.fw walk_range (fun k σ' H' => Same H H' ∧ Gx.TL H' p ((i * c + j) * n + k) (Gd.ky n c d) ∧ ∃ v3 : Option V, σ' = [some (.ref s), some (.ref p), some (.int (i : Int)), some (.int (j : Int)), v3])
          ⟨s3, tl3, _, rfl⟩ (fun _ _ _ _ _ => trivial) ?_ ?_
        · rintro k x σ' H4 H4' hk ⟨s4, tl4, v3, rfl⟩ ⟨rfl, hx⟩
          have hx2 : x = .int (k : Int) := hx.trans (congrArg V.int (by omega))
          subst hx2
          obtain ⟨xs0, hp0, hl0⟩ : ∃ xs, H4' p = some (.lst xs) ∧ xs.length = (i * c + j) * n + k := by
            obtain ⟨ps, e1, e2, e3⟩ := tl4
            exact ⟨_, e1, by rw [List.length_map]; exact e2⟩
          walk_at "go"
          refine Gx.bmS (Gx.tyL (SqL.of hp0)) ?_
          walk_at "go"
          refine Gx.ixL (SqL.of (s4 _ _ hS)) (at_of (j := 2) rfl rfl) ?_
          walk_at "go"
          refine Gx.tupP (by show 3 ≤ sizeLine; decide) fun a ha => ?_
          have sa := Gx.same_new (o := .tup [.int (j : Int), .int (k : Int), .int ((d : Int) - 1 - (i : Int))]) ha
          obtain ⟨xs, e1, e2, e3⟩ := (tl4.keep sa).snoc (t := a) (by rw [upd_same, Gd.ky_of hj hk]; rfl)
          have hb := big hi hj hk
          walk_at "go"
          refine Gx.app e1 (by rw [e2, sizeLine_eq]; omega) ?_
          walk_at "go"
          exact ⟨Gx.same_up hp (s4.trans sa), e3, _, rfl⟩
        · rintro σ' H4 ⟨s4, tl4, v3, rfl⟩
          walk_at "go"
          exact ⟨s4, by rw [show i * c + (j + 1) = (i * c + j) + 1 by omega, Nat.succ_mul]; exact tl4, _, _, rfl⟩
      · rintro σ' H3 ⟨s3, tl3, v2, v3, rfl⟩
        walk_at "go"
        exact ⟨s3, by rw [Nat.succ_mul]; exact tl3, _, _, _, rfl⟩
    · rintro σ' H2 ⟨s2, tl2, v1, v2, v3, rfl⟩
      walk_at "go"
      exact q p H2 hp s2 tl2

theorem cp_law_keys {s : Addr} {w h d c t : Nat} {H : Hp} {Q : VK} {E : XK} (hS : H s = some (.lst [.int (w : Int), .int (h : Int), .int (d : Int), .int (c : Int), .int (t : Int)])) (D : Rg.Dim w h d c t)
    (q : ∀ p H', H p = none → Same H H' → Gx.TL H' p (d * c * (Gd.ac w t * Gd.ac h t)) (Gd.ky (Gd.ac w t * Gd.ac h t) c d) → Q (.ref p) H') : Gx.CP sp_law_keys [.ref s] [] H Q E := by
  obtain ⟨l1, l2, l3, l4, l5, l6, l7, l8, l9⟩ := D.ok
  exact ⟨s, w, h, d, c, t, _, rfl, rfl, D.t1, D.t2, D.w2, hS, D.d2, l8, by omega, q⟩

noncomputable def sp_law_changed : Sp := fun vs H Q _ => ∃ (s v1 v2 : Addr) (w h d c t : Nat) (f g : List (List Int)), vs = [.ref s, .ref v1, .ref v2] ∧ H s = some (.lst [.int (w : Int), .int (h : Int), .int (d : Int), .int (c : Int), .int (t : Int)]) ∧ Rg.Dim w h d c t ∧ Pq.RW H v1 f ∧ Pq.rowsOk (w * h) d c f ∧ Pq.RW H v2 g ∧ Pq.rowsOk (w * h) d c g ∧ ∀ p H', H p = none → Same H H' → Rg.RL H' p (Cg.chg w h d c t f g) → Q (.ref p) H'

theorem sc_law_changed : FnScope ["shape", "one", "other", "key"] ["shape", "one", "other"] (defScope s_law_changed) := ⟨rfl, rfl, rfl, by decide +kernel, rfl, by decide +kernel, by decide +kernel⟩
theorem ok_law_changed (T : Tx P K mg) : FnOk P w K mg base CX0 4 T.law_changed.a T.law_changed.d ["shape", "one", "other"] (sp_law_changed) := by
  refine T.law_changed.f.ok sc_law_changed (fun vs H Q E h => ?_) (fun cdv A outer s H vs Q E hr h => ⟨_, pss_one (ps_ret (pe_lc (own := [("key", 3)]) (g := (gName 3)) rfl sc_law_changed.nd (pi_list (pe_call (ok_law_keys T) (hr.mono (by decide)) rfl T.law_keys.g T.law_keys.f.kp T.law_keys.b .nil pass0 (pa_cons (pv 0) pa_nil))) (blkOk_by (own := [("key", 3)]) (N := ["shape", "one", "other", "key"]) (sc := defScope s_law_changed) (by decide +kernel)) (fun _ _ _ _ _ => (pg_name (i := 3) sc_law_changed.nd rfl (Or.inl rfl))) (fun _ _ _ _ _ => pts_one (pt_cmpR op_ne (pe_call (ok_law_packet T) (hr.mono (by decide)) rfl T.law_packet.g T.law_packet.f.kp T.law_packet.b .nil pass0 (pa_cons (pv 0) (pa_cons (pv 1) (pa_cons (pv 3) pa_nil)))) (pe_call (ok_law_packet T) (hr.mono (by decide)) rfl T.law_packet.g T.law_packet.f.kp T.law_packet.b .nil pass0 (pa_cons (pv 0) (pa_cons (pv 2) (pa_cons (pv 3) pa_nil)))) (nomark _))) (fun _ _ _ _ _ => pv 3))), ?_⟩)
  · obtain ⟨s, v1, v2, w, h, d, c, t, f, g, rfl, _⟩ := h
    rfl
  · skip
    obtain ⟨s', v1, v2, w, h, d, c, t, f, g, rfl, hS, D, hv1, ok1, hv2, ok2, q⟩ := h
    obtain ⟨l1, l2, l3, l4, l5, l6, l7⟩ := D.ok
    obtain ⟨a1, a2, a3, a4, a5, a6, a7, a8, a9, a10⟩ := id D
    have hc0 : 0 < c := by omega
    have hN : d * c * (Gd.ac w t * Gd.ac h t) ≤ 8 * 3 * (64 * 64) := Nat.mul_le_mul (Nat.mul_le_mul a6 (by omega)) l6
    walk_at "run"
    refine cp_law_keys hS D fun pk H1 n1 s1 hK => ?_
    obtain ⟨ks, k1, k2, k3⟩ := id hK
    walk_at "run"
    refine Gx.lp (SqL.of k1) ?_
    refine Gx.lcFil (walk_list (xs := ks.map V.ref)) (by rw [List.length_map]; omega) (Cg.dif w h t c (Gd.ac w t * Gd.ac h t) d f g) (fun i => V.ref (ks.getD i 0)) (fun _ s => s.seq (SqL.of k1)) Gx.sameAt ?_ ?_
    · rintro i v H3 H3' R R0 hi s3 ⟨rfl, hv⟩ hr hr0
      rw [List.length_map, k2] at hi
      have hik : i < ks.length := by omega
      rw [List.getElem?_map, List.getElem?_eq_getElem hik] at hv
      have hv := Option.some.inj hv
      subst hv
      have hka := k3 i ks[i] (List.getElem?_eq_getElem hik)
      have hg : ks.getD i 0 = ks[i] := by rw [List.getD_eq_getElem?_getD, List.getElem?_eq_getElem hik]; rfl
      rw [hg] at hr
      obtain ⟨i1, i2, i3, i4, i5⟩ := Dx.ix_back hc0 l5 hi
      rw [Dx.ky_ix hc0 l5 hi] at hka
      unfold Cg.dif at hr hr0
      have hka : H1 ks[i] = some (.tup [.int ((i / (Gd.ac w t * Gd.ac h t) % c : Nat) : Int), .int ((i % (Gd.ac w t * Gd.ac h t) : Nat) : Int), .int ((d - 1 - i / (Gd.ac w t * Gd.ac h t) / c : Nat) : Int)]) := hka
      have s13 := s1.trans s3
      walk_at "run"
      refine cp_law_packet (s13 _ _ hS) D (hv1.keep s13) ok1 (s3 _ _ hka) i1 i2 i3 fun H4 s4 => ?_
      walk_at "run"
      have s14 := s13.trans s4
      refine cp_law_packet (s14 _ _ hS) D (hv2.keep s14) ok2 (s4 _ _ (s3 _ _ hka)) i1 i2 i3 fun H5 s5 => ?_
      walk_at "run"
      refine Gx.if_b (fun e => ?_) (fun e => ?_)
      · walk_at "run"
        exact hr (by rw [← e]; congr 1; exact decide_eq_decide.mpr Bs.inj.symm) H5 (s4.trans s5)
      · exact hr0 (by rw [← e]; congr 1; exact decide_eq_decide.mpr Bs.inj.symm) H5 (s4.trans s5)
    intro p H2 n2 s2 h2
    rw [List.length_map, k2] at h2
    walk_at "run"
    refine q p H2 (s1.free n2) (s1.trans s2) ?_
    exact Rg.RR.rl h2 ((Cg.rr_filter k2 k3 (Cg.dif w h t c (Gd.ac w t * Gd.ac h t) d f g) _ (Nat.le_refl _)).keep s2)

theorem cp_law_changed {s v1 v2 : Addr} {w h d c t : Nat} {f g : List (List Int)} {H : Hp} {Q : VK} {E : XK} (hS : H s = some (.lst [.int (w : Int), .int (h : Int), .int (d : Int), .int (c : Int), .int (t : Int)])) (D : Rg.Dim w h d c t) (hv1 : Pq.RW H v1 f) (ok1 : Pq.rowsOk (w * h) d c f) (hv2 : Pq.RW H v2 g) (ok2 : Pq.rowsOk (w * h) d c g) (q : ∀ p H', H p = none → Same H H' → Rg.RL H' p (Cg.chg w h d c t f g) → Q (.ref p) H') : Gx.CP sp_law_changed [.ref s, .ref v1, .ref v2] [] H Q E := ⟨s, v1, v2, w, h, d, c, t, f, g, rfl, hS, D, hv1, ok1, hv2, ok2, q⟩

/-- a number from 0 on below the limit; the box's place moves -/
noncomputable def sp_law_draw : Sp := fun vs H Q _ => ∃ (H0 : Hp) (b p : Addr) (xs : List Int) (m : Int), vs = [.ref b, .int m] ∧ 0 < m ∧ Bx.Box H0 H b p xs ∧ ∀ (r : Int) (H' : Hp), 0 ≤ r → r < m → Bx.Box H0 H' b p xs → (∀ c, c ≠ b → H' c = H c) → Q (.int r) H'

theorem sc_law_draw : FnScope ["box", "many", "at"] ["box", "many"] (defScope s_law_draw) := ⟨rfl, rfl, rfl, by decide +kernel, rfl, by decide +kernel, by decide +kernel⟩
theorem ok_law_draw (T : Tx P K mg) : FnOk P w K mg base CX0 1 T.law_draw.a T.law_draw.d ["box", "many"] (sp_law_draw) := by
  refine T.law_draw.f.ok sc_law_draw (fun vs H Q E h => ?_) (fun cdv A outer s H vs Q E hr h => ⟨_, pss_cons (ps_set (i := 2) sc_law_draw.nd rfl (Or.inl rfl) (pe_ix (Gx.ix_seqK (K := K) rfl) (pv 0) (pe_int) (fun _ _ => rfl)))
      (pss_cons (ps_asg (pe_op op_add (pv 2) (pe_int)) (pg_sub (pv 0) (pe_int) set_list))
      (pss_cons (ps_if (pt_cmpR op_lt (pv 2) (pe_callB (Gx.c_lenK (K := K) rfl) rfl T.n_len (by decide +kernel) (pa_cons (pe_ix (Gx.ix_seqK (K := K) rfl) (pv 0) (pe_int) (fun _ _ => rfl)) pa_nil)) (nomark _)) (pss_one (ps_ret (pe_op op_mod (pe_callTy Gx.c_int rfl T.n_int (by decide +kernel) (pa_cons (pe_ix (Gx.ix_seqK (K := K) rfl) (pe_ix (Gx.ix_seqK (K := K) rfl) (pv 0) (pe_int) (fun _ _ => rfl)) (pv 2) (fun _ _ => rfl)) pa_nil)) (pv 1)))) (pss_nil))
      (pss_one (ps_ret (pe_op op_mod (pe_callTy Gx.c_int rfl T.n_int (by decide +kernel) (pa_cons (pe_op op_add (pe_op op_mul (pv 2) (pe_int)) (pe_int)) pa_nil)) (pv 1)))))), ?_⟩)
  · obtain ⟨H0, b, p, xs, m, rfl, _⟩ := h
    rfl
  · skip
    obtain ⟨H0, b, p, xs, m, rfl, hm, B, q⟩ := h
    have hne := B.ne
    obtain ⟨hs, nb, np, ⟨k, hk⟩, hd⟩ := B
    walk_at "go"
    refine Gx.ixL (SqL.of hk) (at_of (j := 1) rfl rfl) ?_
    walk_at "go"
    refine Gx.setL (j := 1) hk rfl ?_
    have hk2 : upd H b (.lst [.ref p, .int ((k : Int) + 1)]) b = some (.lst [.ref p, .int ((k + 1 : Nat) : Int)]) := by rw [upd_same]; rfl
    have hd2 : upd H b (.lst [.ref p, .int ((k : Int) + 1)]) p = some (.lst (xs.map V.int)) := by rw [upd_ne hne]; exact hd
    have B2 : Bx.Box H0 (upd H b (.lst [.ref p, .int ((k : Int) + 1)])) b p xs := ⟨Gx.same_up nb hs, nb, np, ⟨k + 1, hk2⟩, hd2⟩
    have kp : ∀ c, c ≠ b → upd H b (.lst [.ref p, .int ((k : Int) + 1)]) c = H c := fun c hc => upd_ne hc
    walk_at "go"
    refine Gx.ixL (SqL.of hk2) (at_of (j := 0) rfl rfl) ?_
    walk_at "go"
    refine Gx.lenL (SqL.of hd2) ?_
    rw [List.length_map]
    walk_at "go"
    refine Gx.if_d (fun hlt => ?_) (fun hge => ?_)
    · walk_at "go"
      refine Gx.ixL (SqL.of hk2) (at_of (j := 0) rfl rfl) ?_
      walk_at "go"
      refine Gx.ixL (SqL.of hd2) (Gx.at_map (by omega)) ?_
      walk_at "go"
      refine Gx.ic hm ?_
      exact q _ _ (Int.emod_nonneg _ (by omega)) (Int.emod_lt_of_pos _ hm) B2 kp
    · walk_at "go"
      refine Gx.ic (.inr (by decide)) ?_
      walk_at "go"
      refine Gx.ic hm ?_
      exact q _ _ (Int.emod_nonneg _ (by omega)) (Int.emod_lt_of_pos _ hm) B2 kp

theorem cp_law_draw {H0 H : Hp} {b p : Addr} {xs : List Int} {m : Int} {Q : VK} {E : XK} (B : Bx.Box H0 H b p xs) (hm : 0 < m) (q : ∀ (r : Int) (H' : Hp), 0 ≤ r → r < m → Bx.Box H0 H' b p xs → (∀ c, c ≠ b → H' c = H c) → Q (.int r) H') :
    Gx.CP sp_law_draw [.ref b, .int m] [] H Q E := ⟨H0, b, p, xs, m, rfl, hm, B, q⟩
theorem drB {R H : Hp} {b p : Addr} {xs : List Int} {m : Int} {Q : VK} {E : XK} (B : Nx.Bo R H b p xs) (hm : 0 < m) (q : ∀ (r : Nat) (H' : Hp), (r : Int) < m → Nx.Bo R H' b p xs → Q (.int (r : Int)) H') :
    Gx.CP (Fx.fr sp_law_draw) [.ref b, .int m] [] H Q E := Nx.whole (cp_law_draw B.old hm fun r H' h0 h1 B' kp => by
  have := q r.toNat H' (by omega) (B.again B' kp)
  rw [Int.toNat_of_nonneg h0] at this
  exact this)
/-- a draw among what changes -/
theorem drV {R H : Hp} {l1 l2 : List (Addr × HO)} {b p : Addr} {k : Nat} {xs : List Int} {m : Int} {Q : VK} {E : XK} (hv : Mv.Hv R H (l1 ++ (b, .lst [.ref p, .int (k : Int)]) :: l2)) (hp : R p = some (.lst (xs.map V.int))) (hm : 0 < m) (q : ∀ (r k' : Nat) (H' : Hp), (r : Int) < m → Mv.Hv R H' (l1 ++ (b, .lst [.ref p, .int (k' : Int)]) :: l2) → Q (.int (r : Int)) H') : Gx.CP sp_law_draw [.ref b, .int m] [] H Q E := by
  have hb : H b = some (.lst [.ref p, .int (k : Int)]) := hv.at (by simp)
  have hp' := hv.same _ _ hp
  have ne : p ≠ b := fun e => by
    rw [e, hb] at hp'
    injection hp' with hp'
    injection hp' with hp'
    cases xs with
    | nil => cases hp'
    | cons x xs => cases hp'
  refine cp_law_draw (H0 := fun a => if a = p ∨ a = b then none else H a) ⟨fun a o e => ?_, if_pos (.inr rfl), if_pos (.inl rfl), ⟨k, hb⟩, hp'⟩ hm fun r H' h0 h1 B' kp => ?_
  · by_cases c : a = p ∨ a = b
    · rw [if_pos c] at e; cases e
    · rw [if_neg c] at e; exact e
  · obtain ⟨k', hk'⟩ := B'.bx
    have eH : H' = upd H b (.lst [.ref p, .int (k' : Int)]) := funext fun c => by
      by_cases e : c = b
      · rw [e, hk', upd_same]
      · rw [kp c e, upd_ne e]
    have := q r.toNat k' H' (by omega) (by rw [eH]; exact hv.put)
    rw [Int.toNat_of_nonneg h0] at this
    exact this
noncomputable def sp_law_change (K : PySem.W.Frag) (CS CP CF : Addr) : Sp := fun vs H Q _ => ∃ (R : Hp) (rest : List (Addr × HO)) (v dv fa y sl b p s rv : Addr) (k : Nat) (ns : List Int) (xs : List V) (w h d c t : Nat) (f : List (List Int)), vs = [.ref b, .ref s, .ref rv, .ref v] ∧ (∀ q ∈ rest, ∀ ys, q.2 ≠ HO.tup ys) ∧ Mv.Hv R H ((v, .ins CS dv (fl_Source (.ref fa) (.ref y) (.ref sl))) :: (sl, .lst xs) :: (b, .lst [.ref p, .int (k : Int)]) :: rest) ∧ R p = some (.lst (ns.map V.int)) ∧ R s = some (.lst [.int (w : Int), .int (h : Int), .int (d : Int), .int (c : Int), .int (t : Int)]) ∧ xs.length ≤ 1000 ∧ Frm CF R fa w h d c t ∧ Rg.Dim w h d c t ∧ Pn CP R w h d c y f ∧ Pq.RW R rv f ∧
  ∀ (r mv : Addr) (k' : Nat) (R' H' : Hp), Same R R' → 
    (R' r = some (.lst [.bl true, .ref mv, .bl false]) → Mv.Hv R' H' ((v, .ins CS dv (fl_Source (.ref fa) (.ref y) (.ref sl))) :: (sl, .lst xs) :: (b, .lst [.ref p, .int (k' : Int)]) :: rest) → Q (.ref r) H') ∧
    (∀ (u sl2 : Addr) (g : List (List Int)), R' r = some (.lst [.bl true, .ref mv, .bl true]) → Pq.RW R' mv g → Pn CP R' w h d c u g → Mv.Hv R' H' ((v, .ins CS dv (fl_Source (.ref fa) (.ref u) (.ref sl2))) :: (sl2, .lst ((xs ++ [V.ref y]).drop (xs.length + 1 - 16))) :: (b, .lst [.ref p, .int (k' : Int)]) :: rest) → Q (.ref r) H')

theorem sc_law_change : FnScope ["box", "shape", "rows", "source", "channel", "pixel", "value", "kind", "due", "made", "row"] ["box", "shape", "rows", "source"] (defScope s_law_change) := ⟨rfl, rfl, rfl, by decide +kernel, rfl, by decide +kernel, by decide +kernel⟩
theorem ok_law_change (T : Tx P K mg) : FnOk P w K mg base CX0 12 T.law_change.a T.law_change.d ["box", "shape", "rows", "source"] (sp_law_change K T.a_Source T.a_Picture T.a_Frame) := by
  refine T.law_change.f.ok sc_law_change (fun vs H Q E h => ?_) (fun cdv A outer s H vs Q E hr h => ⟨_, pss_cons (ps_set (i := 4) sc_law_change.nd rfl (Or.inl rfl) (pe_call (ok_law_draw T) (hr.mono (by decide)) rfl T.law_draw.g T.law_draw.f.kp T.law_draw.b .nil pass0 (pa_cons (pv 0) (pa_cons (pe_ix (Gx.ix_seqK (K := K) rfl) (pv 1) (pe_int) (fun _ _ => rfl)) pa_nil))))
      (pss_cons (ps_set (i := 5) sc_law_change.nd rfl (Or.inl rfl) (pe_call (ok_law_draw T) (hr.mono (by decide)) rfl T.law_draw.g T.law_draw.f.kp T.law_draw.b .nil pass0 (pa_cons (pv 0) (pa_cons (pe_op op_mul (pe_ix (Gx.ix_seqK (K := K) rfl) (pv 1) (pe_int) (fun _ _ => rfl)) (pe_ix (Gx.ix_seqK (K := K) rfl) (pv 1) (pe_int) (fun _ _ => rfl))) pa_nil))))
      (pss_cons (ps_set (i := 6) sc_law_change.nd rfl (Or.inl rfl) (pe_call (ok_law_draw T) (hr.mono (by decide)) rfl T.law_draw.g T.law_draw.f.kp T.law_draw.b .nil pass0 (pa_cons (pv 0) (pa_cons (pe_op op_shl (pe_int) (pe_ix (Gx.ix_seqK (K := K) rfl) (pv 1) (pe_int) (fun _ _ => rfl))) pa_nil))))
      (pss_cons (ps_set (i := 7) sc_law_change.nd rfl (Or.inl rfl) (pe_call (ok_law_draw T) (hr.mono (by decide)) rfl T.law_draw.g T.law_draw.f.kp T.law_draw.b .nil pass0 (pa_cons (pv 0) (pa_cons (pe_int) pa_nil))))
      (pss_cons (ps_set (i := 8) sc_law_change.nd rfl (Or.inl rfl) (pe_str))
      (C8.pss_cut (ps_if (PW.pt (pw_or (pt_cmpR op_eq (pv 7) (pe_int) (nomark _)) (pw_or1 (pt_cmpR op_eq (pv 7) (pe_int) (nomark _))))) (pss_cons (ps_set (i := 6) sc_law_change.nd rfl (Or.inl rfl) (pe_ix (Gx.ix_seqK (K := K) rfl) (pe_lst (pa_cons (pe_op op_sub (pe_int) (pe_int)) (pa_cons (pe_op op_shl (pe_int) (pe_ix (Gx.ix_seqK (K := K) rfl) (pv 1) (pe_int) (fun _ _ => rfl))) pa_nil))) (pe_call (ok_law_draw T) (hr.mono (by decide)) rfl T.law_draw.g T.law_draw.f.kp T.law_draw.b .nil pass0 (pa_cons (pv 0) (pa_cons (pe_int) pa_nil))) (fun _ _ => rfl)))
      (pss_one (ps_set (i := 8) sc_law_change.nd rfl (Or.inl rfl) (pe_str)))) (pss_nil))
      (C8.pss_cut (ps_if (PW.pt (pw_or (pt_cmpR op_eq (pv 7) (pe_int) (nomark _)) (pw_or1 (pt_cmpR op_eq (pv 7) (pe_int) (nomark _))))) (pss_cons (ps_set (i := 5) sc_law_change.nd rfl (Or.inl rfl) (pe_ix (Gx.ix_seqK (K := K) rfl) (pe_lst (pa_cons (pe_op op_sub (pe_int) (pe_int)) (pa_cons (pe_op op_mul (pe_ix (Gx.ix_seqK (K := K) rfl) (pv 1) (pe_int) (fun _ _ => rfl)) (pe_ix (Gx.ix_seqK (K := K) rfl) (pv 1) (pe_int) (fun _ _ => rfl))) pa_nil))) (pe_call (ok_law_draw T) (hr.mono (by decide)) rfl T.law_draw.g T.law_draw.f.kp T.law_draw.b .nil pass0 (pa_cons (pv 0) (pa_cons (pe_int) pa_nil))) (fun _ _ => rfl)))
      (pss_one (ps_set (i := 8) sc_law_change.nd rfl (Or.inl rfl) (pe_str)))) (pss_nil))
      (C8.pss_cut (ps_if (pt_cmpR op_eq (pv 7) (pe_int) (nomark _)) (pss_cons (ps_set (i := 4) sc_law_change.nd rfl (Or.inl rfl) (pe_ix (Gx.ix_seqK (K := K) rfl) (pe_lst (pa_cons (pe_op op_sub (pe_int) (pe_int)) (pa_cons (pe_ix (Gx.ix_seqK (K := K) rfl) (pv 1) (pe_int) (fun _ _ => rfl)) pa_nil))) (pe_call (ok_law_draw T) (hr.mono (by decide)) rfl T.law_draw.g T.law_draw.f.kp T.law_draw.b .nil pass0 (pa_cons (pv 0) (pa_cons (pe_int) pa_nil))) (fun _ _ => rfl)))
      (pss_one (ps_set (i := 8) sc_law_change.nd rfl (Or.inl rfl) (pe_str)))) (pss_nil))
      (pss_cons (ps_setLc (i := 9) (own := [("row", 10)]) (g := (gName 10)) (tt := tYes) rfl sc_law_change.nd rfl rfl (sw_true rfl rfl rfl (by decide +kernel)) (pi_list (pv 2)) (blkOk_by (own := [("row", 10)]) (N := ["box", "shape", "rows", "source", "channel", "pixel", "value", "kind", "due", "made", "row"]) (sc := defScope s_law_change) (by decide +kernel)) (fun _ _ _ _ _ => (pg_name (i := 10) sc_law_change.nd rfl (Or.inl rfl))) (fun _ _ _ _ _ => pts_nil) (fun _ _ _ _ _ => pe_callTy (Gx.c_listK (K := K) rfl) rfl T.n_list (by decide +kernel) (pa_cons (pv 10) pa_nil)))
      (pss_cons (ps_if (pt_cmpR op_eq (pv 8) (pe_str) (nomark _)) (pss_cons (ps_asg (pv 6) (pg_sub (pe_ix (Gx.ix_seqK (K := K) rfl) (pv 9) (pv 4) (fun _ _ => rfl)) (pv 5) set_list))
      (pss_one (ps_set (i := 8) sc_law_change.nd rfl (Or.inl rfl) (pe_call (ok_law_changed T) (hr.mono (by decide)) rfl T.law_changed.g T.law_changed.f.kp T.law_changed.b .nil pass0 (pa_cons (pv 1) (pa_cons (pv 2) (pa_cons (pv 9) pa_nil))))))) (pss_nil))
      (pss_one (ps_ret (pe_lst (pa_cons (pe_cmpR (op_eqD hr.units) (pe_call (ok_law_ask T) (hr.mono (by decide)) rfl T.law_ask.g T.law_ask.f.kp T.law_ask.b .nil pass0 (pa_cons (pv 3) (pa_cons (pe_int) (pa_cons (pv 4) (pa_cons (pv 5) (pa_cons (pv 6) pa_nil)))))) (pv 8) (nomark _)) (pa_cons (pv 9) (pa_cons (pe_callB (Gx.c_isiK (K := K) rfl) rfl T.n_isinstance (by decide +kernel) (pa_cons (pv 8) (pa_cons (pe_bltn (v := .ty "list") rfl T.n_list (by decide +kernel) rfl) pa_nil))) pa_nil))))))))))))))), ?_⟩)
  · obtain ⟨R, rest, v, dv, fa, y, sl, b, p, s, rv, k, ns, xs, w, h, d, c, t, f, rfl, _⟩ := h
    rfl
  · skip
    obtain ⟨R, rest, v, dv, fa, y, sl, b, p, s', rv, k, ns, xs, w, h, d, c, t, f, rfl, hrest, hv, hp, hS, hxs, fr, D, pn, hrw, q⟩ := h
    obtain ⟨a1, a2, a3, a4, a5, a6, a7, a8, a9, a10⟩ := id D
    have hc0 : 0 < c := by omega
    have hwh : 0 < w * h := Nat.mul_pos (by omega) (by omega)
    have hS0 := hv.same _ _ hS
    walk_at "run"
    refine drV (l1 := [_, _]) (l2 := rest) hv hp (by omega) fun ch k1 H1 hch hv1 => ?_
    have hS1 := hv1.same _ _ hS
    walk_at "run"
    rw [← Int.natCast_mul]
    refine drV (l1 := [_, _]) (l2 := rest) hv1 hp (by omega) fun px k2 H2 hpx hv2 => ?_
    have hS2 := hv2.same _ _ hS
    have h2d := Nat.two_pow_pos d
    walk_at "run"
    rw [Gy.pw]
    refine drV (l1 := [_, _]) (l2 := rest) hv2 hp (by omega) fun vl k3 H3 hvl hv3 => ?_
    have hS3 := hv3.same _ _ hS
    walk_at "run"
    refine drV (l1 := [_, _]) (l2 := rest) hv3 hp (by decide) fun kd k4 H4 hkd hv4 => ?_
    have hv4 : Mv.Hv R H4 ((v, .ins T.a_Source dv (fl_Source (.ref fa) (.ref y) (.ref sl))) :: (sl, .lst xs) :: (b, .lst [.ref p, .int (k4 : Int)]) :: rest) := hv4
    clear hv1 hv2 hv3 hS0 hS1 hS2 hS3
    walk_at "run"
    refine Gx.cut (fun σ' H' => ∃ (R5 : Hp) (z : Int) (k5 : Nat) (dw : Str) (v9 v10 : Option V), Same R R5 ∧ Mv.Hv R5 H' ((v, .ins T.a_Source dv (fl_Source (.ref fa) (.ref y) (.ref sl))) :: (sl, .lst xs) :: (b, .lst [.ref p, .int (k5 : Int)]) :: rest) ∧ ((¬ (kd = 0 ∨ kd = 3) ∧ (0 ≤ z ∧ z ≤ ((2 ^ d : Nat) : Int) - 1) ∧ dw = "") ∨ ((kd = 0 ∨ kd = 3) ∧ ¬ (0 ≤ z ∧ z ≤ ((2 ^ d : Nat) : Int) - 1) ∧ dw = "value")) ∧ σ' = [some (.ref b), some (.ref s'), some (.ref rv), some (.ref v), some (.int (ch : Int)), some (.int (px : Int)), some (.int z), some (.int (kd : Int)), some (.str dw), v9, v10]) ?_ ?_
    · have hS4 := hv4.same _ _ hS
      walk_at "run"
      refine Sq.or3 ((kd : Int) = 3) (fun n h => ?_) (fun e => ?_)
      · walk_at "run"
        refine Gx.if_d (fun e => h e) (fun e => ?_)
        walk_at "run"
        exact ⟨R, vl, k4, _, _, _, Same.refl R, hv4, .inl ⟨by omega, ⟨by omega, by omega⟩, rfl⟩, rfl⟩
      walk_at "run"
      rw [Gy.pw]
      refine Nx.lst0 (by show 2 ≤ sizeLine; decide) fun l1 H5 n5 s5 h5 => ?_
      obtain ⟨R5, hv5, sR5, gR5⟩ := hv4.grow s5
      have h5 := gR5 _ _ n5 h5
      walk_at "run"
      refine drV (l1 := [_, _]) (l2 := rest) hv5 (sR5 _ _ hp) (by decide) fun r6 k6 H6 hr6 hv6 => ?_
      have h6 := hv6.same _ _ h5
      have hz : ∃ z : Int, atI [V.int (-1), V.int ((2 ^ d : Nat) : Int)] (r6 : Int) = some (.int z) ∧ ¬ (0 ≤ z ∧ z ≤ ((2 ^ d : Nat) : Int) - 1) := by
        rcases (show r6 = 0 ∨ r6 = 1 by omega) with rfl | rfl
        · exact ⟨-1, rfl, by omega⟩
        · exact ⟨_, rfl, by omega⟩
      obtain ⟨z, hz1, hz2⟩ := hz
      walk_at "run"
      refine Gx.ixL (SqL.of h6) hz1 ?_
      walk_at "run"
      exact ⟨R5, z, k6, _, _, _, sR5, hv6, .inr ⟨by omega, hz2, rfl⟩, rfl⟩
    rintro σ' H5 ⟨R5, z, k5, dw, v9, v10, sR5, hv5, hz, rfl⟩
    have hp5 := sR5 _ _ hp
    have hS5 := sR5 _ _ hS
    clear hv4
    walk_at "run"
    refine Gx.cut (fun σ' H' => ∃ (R6 : Hp) (pz : Int) (k5 : Nat) (dx : Str) (v9 v10 : Option V), Same R5 R6 ∧ Mv.Hv R6 H' ((v, .ins T.a_Source dv (fl_Source (.ref fa) (.ref y) (.ref sl))) :: (sl, .lst xs) :: (b, .lst [.ref p, .int (k5 : Int)]) :: rest) ∧ ((¬ (kd = 1 ∨ kd = 3) ∧ (0 ≤ pz ∧ pz ≤ ((w * h : Nat) : Int) - 1) ∧ dx = dw) ∨ ((kd = 1 ∨ kd = 3) ∧ ¬ (0 ≤ pz ∧ pz ≤ ((w * h : Nat) : Int) - 1) ∧ dx = "pixel")) ∧ σ' = [some (.ref b), some (.ref s'), some (.ref rv), some (.ref v), some (.int (ch : Int)), some (.int pz), some (.int z), some (.int (kd : Int)), some (.str dx), v9, v10]) ?_ ?_
    · have hS5' := hv5.same _ _ hS5
      walk_at "run"
      refine Sq.or3 ((kd : Int) = 3) (fun n h => ?_) (fun e => ?_)
      · walk_at "run"
        refine Gx.if_d (fun e => h e) (fun e => ?_)
        walk_at "run"
        exact ⟨R5, px, k5, _, _, _, Same.refl R5, hv5, .inl ⟨by omega, ⟨by omega, by omega⟩, rfl⟩, rfl⟩
      walk_at "run"
      rw [← Int.natCast_mul]
      refine Nx.lst0 (by show 2 ≤ sizeLine; decide) fun l1 H6 n6 s6 h6 => ?_
      obtain ⟨R6, hv6, sR6, gR6⟩ := hv5.grow s6
      have h6 := gR6 _ _ n6 h6
      walk_at "run"
      refine drV (l1 := [_, _]) (l2 := rest) hv6 (sR6 _ _ hp5) (by decide) fun r6 k6 H7 hr6 hv7 => ?_
      have h7 := hv7.same _ _ h6
      have hz : ∃ z : Int, atI [V.int (-1), V.int ((w * h : Nat) : Int)] (r6 : Int) = some (.int z) ∧ ¬ (0 ≤ z ∧ z ≤ ((w * h : Nat) : Int) - 1) := by
        rcases (show r6 = 0 ∨ r6 = 1 by omega) with rfl | rfl
        · exact ⟨-1, rfl, by omega⟩
        · exact ⟨_, rfl, by omega⟩
      obtain ⟨pz, hz1, hz2⟩ := hz
      walk_at "run"
      refine Gx.ixL (SqL.of h7) hz1 ?_
      walk_at "run"
      exact ⟨R6, pz, k6, _, _, _, sR6, hv7, .inr ⟨by omega, hz2, rfl⟩, rfl⟩
    rintro σ' H6 ⟨R6, pz, k6, dx, v9, v10, sR6, hv6, hz2, rfl⟩
    have hp6 := sR6 _ _ hp5
    have hS6 := sR6 _ _ hS5
    clear hv5 hp5 hS5
    walk_at "run"
    refine Gx.cut (fun σ' H' => ∃ (R7 : Hp) (cz : Int) (k5 : Nat) (dy : Str) (v9 v10 : Option V), Same R6 R7 ∧ Mv.Hv R7 H' ((v, .ins T.a_Source dv (fl_Source (.ref fa) (.ref y) (.ref sl))) :: (sl, .lst xs) :: (b, .lst [.ref p, .int (k5 : Int)]) :: rest) ∧ ((withBad c (w * h) d cz pz z = none ∧ dy = "") ∨ (withBad c (w * h) d cz pz z = some dy ∧ dy ≠ "" ∧ PyData.strOk dy = true)) ∧ σ' = [some (.ref b), some (.ref s'), some (.ref rv), some (.ref v), some (.int cz), some (.int pz), some (.int z), some (.int (kd : Int)), some (.str dy), v9, v10]) ?_ ?_
    · have hS6' := hv6.same _ _ hS6
      walk_at "run"
      refine Gx.if_d (fun e => ?_) (fun e => ?_)
      · walk_at "run"
        refine Nx.lst0 (by show 2 ≤ sizeLine; decide) fun l1 H7 n7 s7 h7 => ?_
        obtain ⟨R7, hv7, sR7, gR7⟩ := hv6.grow s7
        have h7 := gR7 _ _ n7 h7
        walk_at "run"
        refine drV (l1 := [_, _]) (l2 := rest) hv7 (sR7 _ _ hp6) (by decide) fun r6 k7 H8 hr6 hv8 => ?_
        have h8 := hv8.same _ _ h7
        have hz : ∃ z : Int, atI [V.int (-1), V.int (c : Int)] (r6 : Int) = some (.int z) ∧ ¬ (0 ≤ z ∧ z ≤ (c : Int) - 1) := by
          rcases (show r6 = 0 ∨ r6 = 1 by omega) with rfl | rfl
          · exact ⟨-1, rfl, by omega⟩
          · exact ⟨_, rfl, by omega⟩
        obtain ⟨cz, hz1, hz3⟩ := hz
        walk_at "run"
        refine Gx.ixL (SqL.of h8) hz1 ?_
        walk_at "run"
        exact ⟨R7, cz, k7, _, _, _, sR7, hv8, .inr ⟨by unfold withBad; rw [if_pos hz3], by decide +kernel, by decide +kernel⟩, rfl⟩
      · walk_at "run"
        refine ⟨R6, ch, k6, _, _, _, Same.refl R6, hv6, ?_, rfl⟩
        unfold withBad
        rw [if_neg (show ¬ ¬ (0 ≤ (ch : Int) ∧ (ch : Int) ≤ (c : Int) - 1) by omega)]
        rcases hz2 with ⟨k1, k2, rfl⟩ | ⟨k1, k2, rfl⟩
        · rw [if_neg (not_not_intro k2)]
          rcases hz with ⟨k3, k4, rfl⟩ | ⟨k3, k4, rfl⟩
          · rw [if_neg (not_not_intro k4)]
            exact .inl ⟨rfl, rfl⟩
          · rw [if_pos k4]
            exact .inr ⟨rfl, by decide +kernel, by decide +kernel⟩
        · rw [if_pos k2]
          exact .inr ⟨rfl, by decide +kernel, by decide +kernel⟩
    rintro σ' H7 ⟨R7, cz, k7, dy, v9, v10, sR7, hv7, hz3, rfl⟩
    have hp7 := sR7 _ _ hp6
    have hS7 := sR7 _ _ hS6
    have sA := sR5.trans (sR6.trans sR7)
    clear hv6 hp6 hS6 hz hz2
    have hrw7 := hrw.keep sA
    obtain ⟨zs, r1, r2, r3⟩ := (hrw7.keep hv7.same).all
    have hfl : f.length = c := pn.2.1
    walk_at "run"
    refine Gx.lp (SqL.of r1) ?_
    refine Pq.lcLN (K := K) (walk_list (xs := zs)) (by omega) (fun j => f.getD j []) (fun _ s => s.seq (SqL.of r1)) Gx.sameAt ?_ ?_
    · rintro i y H8 H8' R' R0 hi s8 ⟨rfl, hy⟩ hr
      obtain ⟨b8, rfl, hi2, hb⟩ := r3 i y hy
      have hb := s8 _ _ hb
      walk_at "run"
      refine Gx.listL (SqL.of hb) fun p hp => ?_
      exact hr p _ hp (Gx.same_new hp) upd_same
    intro mv H8 n8 s8 hN
    rw [r2, hfl] at hN
    clear r1 r2 r3
    walk_at "run"
    have sn7 := pn.keep sA
    refine Gx.if_d (fun hdy => ?_) (fun hdy => ?_)
    · have hb : withBad c (w * h) d cz pz z = none := by
        rcases hz3 with ⟨e, _⟩ | ⟨_, e, _⟩
        · exact e
        · exact absurd hdy e
      have hb2 := hb
      unfold withBad at hb2
      obtain ⟨k1, k2, k3⟩ : (0 ≤ cz ∧ cz ≤ (c : Int) - 1) ∧ (0 ≤ pz ∧ pz ≤ ((w * h : Nat) : Int) - 1) ∧ (0 ≤ z ∧ z ≤ ((2 ^ d : Nat) : Int) - 1) := by
        by_cases e1 : 0 ≤ cz ∧ cz ≤ (c : Int) - 1
        · rw [if_neg (not_not_intro e1)] at hb2
          by_cases e2 : 0 ≤ pz ∧ pz ≤ ((w * h : Nat) : Int) - 1
          · rw [if_neg (not_not_intro e2)] at hb2
            by_cases e3 : 0 ≤ z ∧ z ≤ ((2 ^ d : Nat) : Int) - 1
            · exact ⟨e1, e2, e3⟩
            · rw [if_pos e3] at hb2; cases hb2
          · rw [if_pos e2] at hb2; cases hb2
        · rw [if_pos e1] at hb2; cases hb2
      obtain ⟨j, rfl⟩ : ∃ j : Nat, cz = j := ⟨cz.toNat, by omega⟩
      obtain ⟨m, rfl⟩ : ∃ m : Nat, pz = m := ⟨pz.toNat, by omega⟩
      have hjc : j < c := by omega
      have hjf : j < f.length := by omega
      have ok := pn.2
      have hrow := ok.2 _ (Pq.rowsAt hjf)
      obtain ⟨ys, a, e1, e2, e3, e4, hN2⟩ := hN.put (k := m) (z := z) hjc
      walk_at "run"
      refine Gx.ixL (SqL.of e1) e2 ?_
      walk_at "run"
      refine Gx.setL (j := m) e3 (by rw [List.length_map, hrow.1]; unfold ixN; rw [if_pos (by omega), if_pos (by omega)]; exact congrArg some (Int.toNat_natCast _)) ?_
      rw [show ((f.getD j []).map V.int).set m (.int z) = ((f.getD j []).set m z).map V.int by rw [List.map_set]]
      have s9 : Same H7 (upd H8 a (.lst (((f.getD j []).set m z).map V.int))) := Gx.same_up e4 s8
      rw [Pq.set_rows hjf] at hN2
      generalize upd H8 a (.lst (((f.getD j []).set m z).map V.int)) = H9 at s9 hN2 ⊢
      obtain ⟨R9, hv9, sR9, gR9⟩ := hv7.grow s9
      have hRW : Pq.RW R9 mv (withF f j m z) := Pq.RW.of (hN2.down n8 gR9) (by unfold withF; rw [List.length_set]; omega) fun _ _ => rfl
      have hok2 : Pq.rowsOk (w * h) d c (withF f j m z) := Pq.set_ok ok hjc ⟨k3.1, by omega⟩
      have hq := hv9.same _ _ (sR9 _ _ hS7)
      walk_at "run"
      refine cp_law_changed hq D ((hrw7.keep sR9).keep hv9.same) ok (hRW.keep hv9.same) hok2 fun kp H10 n10 s10 hk10 => ?_
      obtain ⟨R10, hv10, sR10, gR10⟩ := hv9.grow s10
      have hk10 : Rg.RL R10 kp _ := Sq.rl_in hv10 (Sq.no2 (fun _ z => by cases z) (fun _ z => by cases z) (Sq.no1 (fun _ z => by cases z) hrest)) hk10 (fun o => gR10 _ _ n10)
      walk_at "run"
      refine cp_law_ask0 (x3 := .non) (Sq.no1 (fun _ z => by cases z) hrest) hv10 hxs (fr.keep (sA.trans (sR9.trans sR10))) D (pn.keep (sA.trans (sR9.trans sR10))) (fun _ kq sl2 u R11 H11 sR11 pu hkq hv11 => ?_) (fun e he => by rw [hb] at he; cases he)
      rw [Int.toNat_natCast, Int.toNat_natCast] at pu hkq
      have hk11 := (hk10.keep sR11).keep hv11.same
      walk_at "run"
      refine Cg.eqRL (hkq.keep hv11.same) hk11 ?_
      rw [decide_eq_true rfl]
      walk_at "run"
      refine Mv.isiLst (Sq.rl_lst hk11).choose_spec ?_
      walk_at "run"
      refine Nx.lst0 (by show 3 ≤ sizeLine; decide) fun r H12 n12 s12 h12 => ?_
      obtain ⟨R12, hv12, sR12, gR12⟩ := hv11.grow s12
      walk_at "run"
      exact (q r mv k7 R12 H12 (sA.trans (sR9.trans (sR10.trans (sR11.trans sR12))))).2 u sl2 _ (gR12 _ _ n12 h12) (hRW.keep (sR10.trans (sR11.trans sR12))) (pu.keep sR12) hv12
    obtain ⟨hw, hok⟩ : withBad c (w * h) d cz pz z = some dy ∧ PyData.strOk dy = true := by
      rcases hz3 with ⟨_, e⟩ | ⟨e, _, e2⟩
      · exact absurd e hdy
      · exact ⟨e, e2⟩
    walk_at "run"
    obtain ⟨R8, hv8, sR8, gR8⟩ := hv7.grow s8
    refine cp_law_ask0 (x3 := .non) (Sq.no1 (fun _ z => by cases z) hrest) hv8 hxs (fr.keep (sA.trans sR8)) D (pn.keep (sA.trans sR8)) (fun hb => by rw [hw] at hb; cases hb) (fun e he R9 H9 sR9 hv9 => ?_)
    obtain rfl : dy = e := Option.some.inj (hw.symm.trans he)
    walk_at "run"
    refine Nx.eqStr hok hok ?_
    rw [decide_eq_true rfl]
    walk_at "run"
    refine Gx.isiS ?_ (by decide +kernel : kitB "str" "list" = some false)
    walk_at "run"
    refine Nx.lst0 (by show 3 ≤ sizeLine; decide) fun r H12 n12 s12 h12 => ?_
    obtain ⟨R12, hv12, sR12, gR12⟩ := hv9.grow s12
    walk_at "run"
    exact (q r mv k7 R12 H12 (sA.trans (sR8.trans (sR9.trans sR12)))).1 (gR12 _ _ n12 h12) hv12

theorem cp_law_change {K : PySem.W.Frag} {CS CP CF v dv fa y sl b p s rv : Addr} {k : Nat} {ns : List Int} {xs : List V} {w h d c t : Nat} {f : List (List Int)} {R H : Hp} {rest : List (Addr × HO)} {Q : VK} {E : XK} (hrest : ∀ q ∈ rest, ∀ ys, q.2 ≠ HO.tup ys) (hv : Mv.Hv R H ((v, .ins CS dv (fl_Source (.ref fa) (.ref y) (.ref sl))) :: (sl, .lst xs) :: (b, .lst [.ref p, .int (k : Int)]) :: rest)) (hp : R p = some (.lst (ns.map V.int))) (hS : R s = some (.lst [.int (w : Int), .int (h : Int), .int (d : Int), .int (c : Int), .int (t : Int)])) (hl : xs.length ≤ 1000) (fr : Frm CF R fa w h d c t) (D : Rg.Dim w h d c t) (pn : Pn CP R w h d c y f) (hrw : Pq.RW R rv f)
  (q : ∀ (r mv : Addr) (k' : Nat) (R' H' : Hp), Same R R' → 
    (R' r = some (.lst [.bl true, .ref mv, .bl false]) → Mv.Hv R' H' ((v, .ins CS dv (fl_Source (.ref fa) (.ref y) (.ref sl))) :: (sl, .lst xs) :: (b, .lst [.ref p, .int (k' : Int)]) :: rest) → Q (.ref r) H') ∧
    (∀ (u sl2 : Addr) (g : List (List Int)), R' r = some (.lst [.bl true, .ref mv, .bl true]) → Pq.RW R' mv g → Pn CP R' w h d c u g → Mv.Hv R' H' ((v, .ins CS dv (fl_Source (.ref fa) (.ref u) (.ref sl2))) :: (sl2, .lst ((xs ++ [V.ref y]).drop (xs.length + 1 - 16))) :: (b, .lst [.ref p, .int (k' : Int)]) :: rest) → Q (.ref r) H')) :
  Gx.CP (sp_law_change K CS CP CF) [.ref b, .ref s, .ref rv, .ref v] [] H Q E := ⟨R, rest, v, dv, fa, y, sl, b, p, s, rv, k, ns, xs, w, h, d, c, t, f, rfl, hrest, hv, hp, hS, hl, fr, D, pn, hrw, q⟩

noncomputable def sp_law_picture (C : Addr) : Sp := fun vs H Q _ => ∃ (s v : Addr) (w h d c t : Nat) (f : List (List Int)), vs = [.ref s, .ref v] ∧ H s = some (.lst [.int (w : Int), .int (h : Int), .int (d : Int), .int (c : Int), .int (t : Int)]) ∧ Rg.Dim w h d c t ∧ Pq.RW H v f ∧ Pq.rowsOk (w * h) d c f ∧ ∀ y r H', Same H H' → H y = none → H r = none → Pic C H' y r w h d c (fun i => f.getD i []) → Pq.LN H H' r c (fun i => f.getD i []) → Q (.ref y) H'

theorem sc_law_picture : FnScope ["shape", "rows", "row"] ["shape", "rows"] (defScope s_law_picture) := ⟨rfl, rfl, rfl, by decide +kernel, rfl, by decide +kernel, by decide +kernel⟩
theorem ok_law_picture (T : Tx P K mg) : FnOk P w K mg base CX0 7 T.law_picture.a T.law_picture.d ["shape", "rows"] (sp_law_picture T.a_Picture) := by
  refine T.law_picture.f.ok sc_law_picture (fun vs H Q E h => ?_) (fun cdv A outer s H vs Q E hr h => ⟨_, pss_one (ps_ret (pe_make ⟨T.mk_Picture, T.Picture___init__.m.at_, T.Picture___init__.m.fn, T.kp_Picture⟩ (ok_Picture___init__ T) (hr.mono (by decide)) rfl T.g_Picture T.Picture___init__.b .nil passL (pa_cons (pe_ix (Gx.ix_seqK (K := K) rfl) (pv 0) (pe_int) (fun _ _ => rfl)) (pa_cons (pe_ix (Gx.ix_seqK (K := K) rfl) (pv 0) (pe_int) (fun _ _ => rfl)) (pa_cons (pe_ix (Gx.ix_seqK (K := K) rfl) (pv 0) (pe_int) (fun _ _ => rfl)) (pa_cons (pe_ix (Gx.ix_seqK (K := K) rfl) (pv 0) (pe_int) (fun _ _ => rfl)) (pa_cons (pe_lc (own := [("row", 2)]) (g := (gName 2)) (tt := tYes) rfl sc_law_picture.nd (pi_list (pv 1)) (blkOk_by (own := [("row", 2)]) (N := ["shape", "rows", "row"]) (sc := defScope s_law_picture) (by decide +kernel)) (fun _ _ _ _ _ => (pg_name (i := 2) sc_law_picture.nd rfl (Or.inl rfl))) (fun _ _ _ _ _ => pts_nil) (fun _ _ _ _ _ => pe_callTy (Gx.c_listK (K := K) rfl) rfl T.n_list (by decide +kernel) (pa_cons (pv 2) pa_nil))) pa_nil))))))), ?_⟩)
  · obtain ⟨s, v, w, h, d, c, t, f, rfl, _⟩ := h
    rfl
  · skip
    obtain ⟨s', v, w, h, d, c, t, f, rfl, hS, D, hv, hok, q⟩ := h
    obtain ⟨a1, a2, a3, a4, a5, a6, a7, a8, a9, a10⟩ := id D
    obtain ⟨xs, hv1, hl, hall⟩ := hv.all
    have hfl := hok.1
    walk_at "run"
    refine Gx.lp (SqL.of hv1) ?_
    refine Gx.lcLst (walk_list (xs := xs)) (by omega) (fun j => f.getD j []) (fun _ s => s.seq (SqL.of hv1)) Gx.sameAt ?_ ?_
    · rintro i y H3 H3' R R0 hi s3 ⟨rfl, hy⟩ hr
      obtain ⟨b, rfl, _, hb⟩ := hall i y hy
      have hb := s3 _ _ hb
      walk_at "run"
      refine Gx.listL (SqL.of hb) fun p hp => ?_
      exact hr p _ hp (Gx.same_new hp) upd_same
    intro p H1 n1 s1 hLL
    rw [hl] at hLL
    have hp : Pq.RW H1 p f := hLL
    walk_at "run"
    exact mkN_Picture ⟨a1, a2⟩ ⟨a3, a4⟩ ⟨a5, a6⟩ a7 a10 hp hok fun y r H2 s2 ny nr P ln => q y r H2 (s1.trans s2) (s1.free ny) (s1.free nr) P (ln.back s1)

theorem cp_law_picture {C s v : Addr} {w h d c t : Nat} {f : List (List Int)} {R H : Hp} {ps : List (Addr × HO)} {Q : VK} {E : XK} (hvv : Mv.Hv R H ps) (hS : R s = some (.lst [.int (w : Int), .int (h : Int), .int (d : Int), .int (c : Int), .int (t : Int)])) (D : Rg.Dim w h d c t) (hv : Pq.RW R v f) (ok : Pq.rowsOk (w * h) d c f) (q : ∀ y r R' H', Same R R' → H y = none → H r = none → Same H H' → Pic C R' y r w h d c (fun i => f.getD i []) → Mv.Hv R' H' ps → Q (.ref y) H') : Gx.CP (sp_law_picture C) [.ref s, .ref v] [] H Q E := ⟨s, v, w, h, d, c, t, f, rfl, hvv.same _ _ hS, D, hv.keep hvv.same, ok, fun y r H' s1 n1 n2 P ln => by
  obtain ⟨R', hv', sR, gR⟩ := hvv.grow s1
  exact q y r R' H' sR n1 n2 s1 ⟨⟨_, gR _ _ n1 P.ob.choose_spec⟩, ln.down n2 gR⟩ hv'⟩

noncomputable def sp_law_rows : Sp := fun vs H Q _ => ∃ (R : Hp) (l1 l2 : List (Addr × HO)) (b p s : Addr) (k : Nat) (xs : List Int) (w h d c t : Nat), vs = [.ref b, .ref s] ∧ Mv.Hv R H (l1 ++ (b, .lst [.ref p, .int (k : Int)]) :: l2) ∧ R p = some (.lst (xs.map V.int)) ∧ Dk.In R (l1 ++ l2) s (.lst [.int (w : Int), .int (h : Int), .int (d : Int), .int (c : Int), .int (t : Int)]) ∧ Rg.Dim w h d c t ∧
  ∀ (v : Addr) (k' : Nat) (f : List (List Int)) (R' H' : Hp), Same R R' → Mv.Hv R' H' (l1 ++ (b, .lst [.ref p, .int (k' : Int)]) :: l2) → Pq.RW R' v f → Pq.rowsOk (w * h) d c f → Q (.ref v) H'

theorem sc_law_rows : FnScope ["box", "shape", "rows", "kind", "channel", "row", "pixel"] ["box", "shape"] (defScope s_law_rows) := ⟨rfl, rfl, rfl, by decide +kernel, rfl, by decide +kernel, by decide +kernel⟩
theorem ok_law_rows (T : Tx P K mg) : FnOk P w K mg base CX0 2 T.law_rows.a T.law_rows.d ["box", "shape"] (sp_law_rows) := by
  refine T.law_rows.f.ok sc_law_rows (fun vs H Q E h => ?_) (fun cdv A outer s H vs Q E hr h => ⟨_, pss_cons (ps_set (i := 2) sc_law_rows.nd rfl (Or.inl rfl) (pe_lst pa_nil))
      (pss_cons (ps_set (i := 3) sc_law_rows.nd rfl (Or.inl rfl) (pe_call (ok_law_draw T) (hr.mono (by decide)) rfl T.law_draw.g T.law_draw.f.kp T.law_draw.b .nil pass0 (pa_cons (pv 0) (pa_cons (pe_int) pa_nil))))
      (pss_cons (ps_for PassesOwn.never rfl (pi_range1 rfl T.n_range (pa_cons (pe_ix (Gx.ix_seqK (K := K) rfl) (pv 1) (pe_int) (fun _ _ => rfl)) pa_nil)) (pg_name (i := 4) sc_law_rows.nd rfl (Or.inl rfl))
      (pss_cons (ps_set (i := 5) sc_law_rows.nd rfl (Or.inl rfl) (pe_lst pa_nil))
      (pss_cons (ps_for PassesOwn.never rfl (pi_range1 rfl T.n_range (pa_cons (pe_op op_mul (pe_ix (Gx.ix_seqK (K := K) rfl) (pv 1) (pe_int) (fun _ _ => rfl)) (pe_ix (Gx.ix_seqK (K := K) rfl) (pv 1) (pe_int) (fun _ _ => rfl))) pa_nil)) (pg_name (i := 6) sc_law_rows.nd rfl (Or.inl rfl))
      (pss_one (ps_if (pt_cmpR op_eq (pv 3) (pe_int) (nomark _)) (pss_one (ps_expr (pe_bm PySem.F.plainAttrs_list PySem.F.slot_list_append PySem.F.type_list_append mt_append (pv 5) (pa_cons (pe_int) pa_nil)))) (pss_one (ps_if (PW.pt (pw_and (pt_cmpR op_eq (pv 3) (pe_int) (nomark _)) (pw_and (pt_cmpR op_gt (pv 6) (pe_int) (nomark _)) (pw_and1 (pt_cmpR op_gt (pe_call (ok_law_draw T) (hr.mono (by decide)) rfl T.law_draw.g T.law_draw.f.kp T.law_draw.b .nil pass0 (pa_cons (pv 0) (pa_cons (pe_int) pa_nil))) (pe_int) (nomark _)))))) (pss_one (ps_expr (pe_bm PySem.F.plainAttrs_list PySem.F.slot_list_append PySem.F.type_list_append mt_append (pv 5) (pa_cons (pe_ix (Gx.ix_seqK (K := K) rfl) (pv 5) (pe_op op_sub (pv 6) (pe_int)) (fun _ _ => rfl)) pa_nil)))) (pss_one (ps_expr (pe_bm PySem.F.plainAttrs_list PySem.F.slot_list_append PySem.F.type_list_append mt_append (pv 5) (pa_cons (pe_call (ok_law_draw T) (hr.mono (by decide)) rfl T.law_draw.g T.law_draw.f.kp T.law_draw.b .nil pass0 (pa_cons (pv 0) (pa_cons (pe_op op_shl (pe_int) (pe_ix (Gx.ix_seqK (K := K) rfl) (pv 1) (pe_int) (fun _ _ => rfl))) pa_nil))) pa_nil)))))))))
      (pss_one (ps_expr (pe_bm PySem.F.plainAttrs_list PySem.F.slot_list_append PySem.F.type_list_append mt_append (pv 2) (pa_cons (pv 5) pa_nil)))))))
      (pss_one (ps_ret (pv 2))))), ?_⟩)
  · obtain ⟨R, l1, l2, b, p, s, k, xs, w, h, d, c, t, rfl, _⟩ := h
    rfl
  · skip
    obtain ⟨R, l1, l2, b, p, s', k, xs, w, h, d, c, t, rfl, hv, hp, hS, D, q⟩ := h
    obtain ⟨l1', l2', l3, l4, l5, l6, l7, l8, l9, l10⟩ := D.ok
    obtain ⟨a1, a2, a3, a4, a5, a6, a7, a8, a9, a10⟩ := id D
    have gS : ∀ {R2 H : Hp} {l0 : List (Addr × HO)} {k : Nat}, Same R R2 → Mv.Hv R2 H (l0 ++ (l1 ++ (b, .lst [.ref p, .int (k : Int)]) :: l2)) → H s' = some (.lst [.int (w : Int), .int (h : Int), .int (d : Int), .int (c : Int), .int (t : Int)]) := fun s hv => by
      rcases hS with hS | hS
      · exact hv.same _ _ (s _ _ hS)
      · exact hv.at (List.mem_append_right _ (by
          rcases List.mem_append.mp hS with e | e
          · exact List.mem_append_left _ e
          · exact List.mem_append_right _ (List.mem_cons_of_mem _ e)))
    walk_at "run"
    refine Nx.lst0 (by show 0 ≤ sizeLine; decide) fun rp H1 n1 s1 h1 => ?_
    obtain ⟨R1, hv1, sR1, _⟩ := hv.more3 n1 s1 h1
    have hp1 := sR1 _ _ hp
    walk_at "run"
    refine drV (l1 := _ :: l1) hv1 hp1 (by decide) fun kd k1 H2 hkd hv2 => ?_
    have hS2 := gS (l0 := [_]) sR1 hv2
    walk_at "run"
    refine Gx.r1 (by omega) (by omega) ?_
    rw [Int.toNat_natCast]
    refine Gx.fw walk_range (fun i σ' H' => ∃ (R' : Hp) (k' : Nat) (f : List (List Int)) (vs : List V) (v4 v5 v6 : Option V), Same R R' ∧ Mv.Hv R' H' ((rp, .lst vs) :: (l1 ++ (b, .lst [.ref p, .int (k' : Int)]) :: l2)) ∧ Dk.BL R' vs f ∧ f.length = i ∧ (∀ r ∈ f, r.length = w * h ∧ ∀ z ∈ r, 0 ≤ z ∧ z < ((2 ^ d : Nat) : Int)) ∧ σ' = [some (.ref b), some (.ref s'), some (.ref rp), some (.int (kd : Int)), v4, v5, v6]) ⟨R1, k1, [], [], none, none, none, sR1, hv2, ⟨rfl, fun i v e => by simp at e⟩, rfl, (fun r hr => nomatch hr), rfl⟩ (fun _ _ _ _ _ => trivial) ?_ ?_
    · clear hv2 hv1 hS2
      rintro i y σ' H3 H3' hi ⟨R3, k3, f, vs, v4, v5, v6, sR3, hv3, hB, hfl, hf, rfl⟩ ⟨rfl, hy⟩
      have hy2 : y = .int (i : Int) := hy.trans (congrArg V.int (by omega))
      subst hy2
      have hS3 := gS (l0 := [_]) sR3 hv3
      have hp3 := sR3 _ _ hp
      walk_at "run"
      refine Nx.lst0 (by show 0 ≤ sizeLine; decide) fun ro H4 n4 s4 h4 => ?_
      obtain ⟨R4, hv4, sR4, _⟩ := hv3.more3 n4 s4 h4
      have hS4 := gS (l0 := [_, _]) (sR3.trans sR4) hv4
      walk_at "run"
      rw [← Int.natCast_mul]
      refine Gx.r1 (by omega) (by omega) ?_
      rw [Int.toNat_natCast]
      refine Gx.fw walk_range (fun j σ' H' => ∃ (k' : Nat) (r : List Int) (v6 : Option V), Mv.Hv R4 H' ((ro, .lst (r.map V.int)) :: (rp, .lst vs) :: (l1 ++ (b, .lst [.ref p, .int (k' : Int)]) :: l2)) ∧ r.length = j ∧ (∀ z ∈ r, 0 ≤ z ∧ z < ((2 ^ d : Nat) : Int)) ∧ σ' = [some (.ref b), some (.ref s'), some (.ref rp), some (.int (kd : Int)), some (.int (i : Int)), some (.ref ro), v6]) ⟨_, [], _, hv4, rfl, (fun z hz => nomatch hz), rfl⟩ (fun _ _ _ _ _ => trivial) ?_ ?_
      · clear hv4 hv3 hS3 hS4
        rintro j z σ' H5 H5' hj ⟨k5, r, v6, hv5, hrl, hrz, rfl⟩ ⟨rfl, hz⟩
        have hz2 : z = .int (j : Int) := hz.trans (congrArg V.int (by omega))
        subst hz2
        have hS5 := gS (l0 := [_, _]) (sR3.trans sR4) hv5
        have hp5 := sR4 _ _ hp3
        have e0 := Nat.two_pow_pos d
        have fin : ∀ (k' : Nat) (H' : Hp) (y : Int), Mv.Hv R4 H' ((ro, .lst (r.map V.int)) :: (rp, .lst vs) :: (l1 ++ (b, .lst [.ref p, .int (k' : Int)]) :: l2)) → 0 ≤ y → y < ((2 ^ d : Nat) : Int) → ∃ (k' : Nat) (r' : List Int) (v6 : Option V), Mv.Hv R4 (upd H' ro (.lst (r.map V.int ++ [.int y]))) ((ro, .lst (r'.map V.int)) :: (rp, .lst vs) :: (l1 ++ (b, .lst [.ref p, .int (k' : Int)]) :: l2)) ∧ r'.length = j + 1 ∧ (∀ z ∈ r', 0 ≤ z ∧ z < ((2 ^ d : Nat) : Int)) ∧ [some (V.ref b), some (.ref s'), some (.ref rp), some (.int (kd : Int)), some (.int (i : Int)), some (.ref ro), some (.int (j : Int))] = [some (.ref b), some (.ref s'), some (.ref rp), some (.int (kd : Int)), some (.int (i : Int)), some (.ref ro), v6] := fun k' H' y hv' y0 y1 => ⟨k', r ++ [y], _, by rw [List.map_append]; exact hv'.p0, by rw [List.length_append, hrl]; rfl, fun z hz => by
          rcases List.mem_append.mp hz with e | e
          · exact hrz z e
          · rw [List.mem_singleton.mp e]; exact ⟨y0, y1⟩, rfl⟩
        walk_at "run"
        refine Gx.if_d (fun e1 => ?_) (fun e1 => ?_)
        · walk_at "run"
          refine Gx.bmS (Gx.tyL (SqL.of hv5.g0)) ?_
          walk_at "run"
          refine Gx.app hv5.g0 (by rw [List.length_map, sizeLine_eq]; omega) ?_
          exact fin k5 _ 0 hv5 (by omega) (by omega)
        walk_at "run"
        refine Gx.if_d (fun e2 => ?_) (fun e2 => ?_)
        · walk_at "run"
          refine Gx.if_d (fun e3 => ?_) (fun e3 => ?_)
          · walk_at "run"
            refine drV (l1 := _ :: _ :: l1) hv5 hp5 (by decide) fun y k6 H6 hy hv5 => ?_
            have hS5 := gS (l0 := [_, _]) (sR3.trans sR4) hv5
            walk_at "run"
            refine Gx.if_d (fun e4 => ?_) (fun e4 => ?_)
            · walk_at "run"
              refine Gx.bmS (Gx.tyL (SqL.of hv5.g0)) ?_
              walk_at "run"
              rw [show (j : Int) - 1 = ((j - 1 : Nat) : Int) by omega]
              refine Gx.ixL (SqL.of hv5.g0) (Gx.at_map (show j - 1 < r.length by omega)) ?_
              obtain ⟨u1, u2⟩ := hrz _ (Gd.getD_mem (show j - 1 < r.length by omega))
              walk_at "run"
              refine Gx.app hv5.g0 (by rw [List.length_map, sizeLine_eq]; omega) ?_
              exact fin k6 H6 _ hv5 u1 u2
            · walk_at "run"
              refine Gx.bmS (Gx.tyL (SqL.of hv5.g0)) ?_
              walk_at "run"
              rw [Gy.pw]
              refine drV (l1 := _ :: _ :: l1) hv5 hp5 (by omega) fun y k6 H6 hy hv6 => ?_
              walk_at "run"
              refine Gx.app hv6.g0 (by rw [List.length_map, sizeLine_eq]; omega) ?_
              exact fin k6 H6 y hv6 (by omega) hy
          · walk_at "run"
            refine Gx.bmS (Gx.tyL (SqL.of hv5.g0)) ?_
            walk_at "run"
            rw [Gy.pw]
            refine drV (l1 := _ :: _ :: l1) hv5 hp5 (by omega) fun y k6 H6 hy hv6 => ?_
            walk_at "run"
            refine Gx.app hv6.g0 (by rw [List.length_map, sizeLine_eq]; omega) ?_
            exact fin k6 H6 y hv6 (by omega) hy
        · walk_at "run"
          refine Gx.bmS (Gx.tyL (SqL.of hv5.g0)) ?_
          walk_at "run"
          rw [Gy.pw]
          refine drV (l1 := _ :: _ :: l1) hv5 hp5 (by omega) fun y k6 H6 hy hv6 => ?_
          walk_at "run"
          refine Gx.app hv6.g0 (by rw [List.length_map, sizeLine_eq]; omega) ?_
          exact fin k6 H6 y hv6 (by omega) hy
      rintro σ' H5 ⟨k5, r, v6, hv5, hrl, hrz, rfl⟩
      have h15 := hv5.g1
      walk_at "run"
      refine Gx.bmS (Gx.tyL (SqL.of h15)) ?_
      walk_at "run"
      have hvl := hB.1
      refine Gx.app h15 (by rw [sizeLine_eq]; omega) ?_
      obtain ⟨R6, hv6, sR6, hro⟩ := hv5.p1.less
      exact ⟨R6, k5, f ++ [r], _, _, _, _, sR3.trans (sR4.trans sR6), hv6, (hB.keep (sR4.trans sR6)).snoc hro, by rw [List.length_append, hfl]; rfl, fun x hx => by
        rcases List.mem_append.mp hx with e | e
        · exact hf x e
        · rw [List.mem_singleton.mp e]; exact ⟨hrl, hrz⟩, rfl⟩
    rintro σ' H3 ⟨R3, k3, f, vs, v4, v5, v6, sR3, hv3, hB, hfl, hf, rfl⟩
    obtain ⟨R4, hv4, sR4, hrp⟩ := hv3.less
    walk_at "run"
    exact q rp k3 f R4 H3 (sR3.trans sR4) hv4 ((hB.keep sR4).rw (Same.refl _) hrp) ⟨hfl, hf⟩

theorem cp_law_rows {R H : Hp} {l1 l2 : List (Addr × HO)} {b p s : Addr} {k : Nat} {xs : List Int} {w h d c t : Nat} {Q : VK} {E : XK} (hv : Mv.Hv R H (l1 ++ (b, .lst [.ref p, .int (k : Int)]) :: l2)) (hp : R p = some (.lst (xs.map V.int))) (hS : Dk.In R (l1 ++ l2) s (.lst [.int (w : Int), .int (h : Int), .int (d : Int), .int (c : Int), .int (t : Int)])) (D : Rg.Dim w h d c t) (q : ∀ (v : Addr) (k' : Nat) (f : List (List Int)) (R' H' : Hp), Same R R' → Mv.Hv R' H' (l1 ++ (b, .lst [.ref p, .int (k' : Int)]) :: l2) → Pq.RW R' v f → Pq.rowsOk (w * h) d c f → Q (.ref v) H') : Gx.CP sp_law_rows [.ref b, .ref s] [] H Q E := ⟨R, l1, l2, b, p, s, k, xs, w, h, d, c, t, rfl, hv, hp, hS, D, q⟩

noncomputable def sp_law_paste (K : PySem.W.Frag) (CS CP CF : Addr) : Sp := fun vs H Q _ => ∃ (R : Hp) (rest : List (Addr × HO)) (v dv fa y sl b p s rv : Addr) (k : Nat) (ns : List Int) (xs : List V) (w h d c t : Nat) (f : List (List Int)), vs = [.ref b, .ref s, .ref rv, .ref v] ∧ (∀ q ∈ rest, ∀ ys, q.2 ≠ HO.tup ys) ∧ Mv.Hv R H ((v, .ins CS dv (fl_Source (.ref fa) (.ref y) (.ref sl))) :: (sl, .lst xs) :: (b, .lst [.ref p, .int (k : Int)]) :: rest) ∧ R p = some (.lst (ns.map V.int)) ∧ R s = some (.lst [.int (w : Int), .int (h : Int), .int (d : Int), .int (c : Int), .int (t : Int)]) ∧ xs.length ≤ 1000 ∧ Frm CF R fa w h d c t ∧ Rg.Dim w h d c t ∧ w ≤ 5 ∧ Pn CP R w h d c y f ∧ Pq.RW R rv f ∧
  ∀ (r mv : Addr) (k' : Nat) (R' H' : Hp), Same R R' → 
    (R' r = some (.lst [.bl true, .ref mv, .bl false]) → Mv.Hv R' H' ((v, .ins CS dv (fl_Source (.ref fa) (.ref y) (.ref sl))) :: (sl, .lst xs) :: (b, .lst [.ref p, .int (k' : Int)]) :: rest) → Q (.ref r) H') ∧
    (∀ (u sl2 : Addr) (g : List (List Int)), R' r = some (.lst [.bl true, .ref mv, .bl true]) → Pq.RW R' mv g → Pn CP R' w h d c u g → Mv.Hv R' H' ((v, .ins CS dv (fl_Source (.ref fa) (.ref u) (.ref sl2))) :: (sl2, .lst ((xs ++ [V.ref y]).drop (xs.length + 1 - 16))) :: (b, .lst [.ref p, .int (k' : Int)]) :: rest) → Q (.ref r) H')

theorem sc_law_paste : FnScope ["box", "shape", "rows", "source", "across", "down", "left", "top", "wide", "high", "width", "height", "part", "kind", "due", "values", "made", "row", "channel", "k", "at", "actual"] ["box", "shape", "rows", "source"] (defScope s_law_paste) := ⟨rfl, rfl, rfl, by decide +kernel, rfl, by decide +kernel, by decide +kernel⟩
theorem ok_law_paste (T : Tx P K mg) : FnOk P w K mg base CX0 12 T.law_paste.a T.law_paste.d ["box", "shape", "rows", "source"] (sp_law_paste K T.a_Source T.a_Picture T.a_Frame) := by
  refine T.law_paste.f.ok sc_law_paste (fun vs H Q E h => ?_) (fun cdv A outer s H vs Q E hr h => ⟨_, pss_cons (ps_set (i := 4) sc_law_paste.nd rfl (Or.inl rfl) (pe_op op_fdiv (pe_op op_sub (pe_op op_add (pe_ix (Gx.ix_seqK (K := K) rfl) (pv 1) (pe_int) (fun _ _ => rfl)) (pe_ix (Gx.ix_seqK (K := K) rfl) (pv 1) (pe_int) (fun _ _ => rfl))) (pe_int)) (pe_ix (Gx.ix_seqK (K := K) rfl) (pv 1) (pe_int) (fun _ _ => rfl))))
      (pss_cons (ps_set (i := 5) sc_law_paste.nd rfl (Or.inl rfl) (pe_op op_fdiv (pe_op op_sub (pe_op op_add (pe_ix (Gx.ix_seqK (K := K) rfl) (pv 1) (pe_int) (fun _ _ => rfl)) (pe_ix (Gx.ix_seqK (K := K) rfl) (pv 1) (pe_int) (fun _ _ => rfl))) (pe_int)) (pe_ix (Gx.ix_seqK (K := K) rfl) (pv 1) (pe_int) (fun _ _ => rfl))))
      (pss_cons (ps_set (i := 6) sc_law_paste.nd rfl (Or.inl rfl) (pe_call (ok_law_draw T) (hr.mono (by decide)) rfl T.law_draw.g T.law_draw.f.kp T.law_draw.b .nil pass0 (pa_cons (pv 0) (pa_cons (pv 4) pa_nil))))
      (pss_cons (ps_set (i := 7) sc_law_paste.nd rfl (Or.inl rfl) (pe_call (ok_law_draw T) (hr.mono (by decide)) rfl T.law_draw.g T.law_draw.f.kp T.law_draw.b .nil pass0 (pa_cons (pv 0) (pa_cons (pv 5) pa_nil))))
      (pss_cons (ps_set (i := 8) sc_law_paste.nd rfl (Or.inl rfl) (pe_op op_add (pe_int) (pe_call (ok_law_draw T) (hr.mono (by decide)) rfl T.law_draw.g T.law_draw.f.kp T.law_draw.b .nil pass0 (pa_cons (pv 0) (pa_cons (pe_op op_sub (pv 4) (pv 6)) pa_nil)))))
      (pss_cons (ps_set (i := 9) sc_law_paste.nd rfl (Or.inl rfl) (pe_op op_add (pe_int) (pe_call (ok_law_draw T) (hr.mono (by decide)) rfl T.law_draw.g T.law_draw.f.kp T.law_draw.b .nil pass0 (pa_cons (pv 0) (pa_cons (pe_op op_sub (pv 5) (pv 7)) pa_nil)))))
      (pss_cons (ps_set (i := 10) sc_law_paste.nd rfl (Or.inl rfl) (pe_callB (Gx.c_min2 rfl) rfl T.n_min (by decide +kernel) (pa_cons (pe_op op_mul (pv 8) (pe_ix (Gx.ix_seqK (K := K) rfl) (pv 1) (pe_int) (fun _ _ => rfl))) (pa_cons (pe_op op_sub (pe_ix (Gx.ix_seqK (K := K) rfl) (pv 1) (pe_int) (fun _ _ => rfl)) (pe_op op_mul (pv 6) (pe_ix (Gx.ix_seqK (K := K) rfl) (pv 1) (pe_int) (fun _ _ => rfl)))) pa_nil))))
      (pss_cons (ps_set (i := 11) sc_law_paste.nd rfl (Or.inl rfl) (pe_callB (Gx.c_min2 rfl) rfl T.n_min (by decide +kernel) (pa_cons (pe_op op_mul (pv 9) (pe_ix (Gx.ix_seqK (K := K) rfl) (pv 1) (pe_int) (fun _ _ => rfl))) (pa_cons (pe_op op_sub (pe_ix (Gx.ix_seqK (K := K) rfl) (pv 1) (pe_int) (fun _ _ => rfl)) (pe_op op_mul (pv 7) (pe_ix (Gx.ix_seqK (K := K) rfl) (pv 1) (pe_int) (fun _ _ => rfl)))) pa_nil))))
      (pss_cons (ps_set (i := 12) sc_law_paste.nd rfl (Or.inl rfl) (pe_lst (pa_cons (pv 10) (pa_cons (pv 11) (pa_cons (pe_ix (Gx.ix_seqK (K := K) rfl) (pv 1) (pe_int) (fun _ _ => rfl)) (pa_cons (pe_ix (Gx.ix_seqK (K := K) rfl) (pv 1) (pe_int) (fun _ _ => rfl)) (pa_cons (pe_int) pa_nil)))))))
      (pss_cons (ps_set (i := 13) sc_law_paste.nd rfl (Or.inl rfl) (pe_call (ok_law_draw T) (hr.mono (by decide)) rfl T.law_draw.g T.law_draw.f.kp T.law_draw.b .nil pass0 (pa_cons (pv 0) (pa_cons (pe_int) pa_nil))))
      (pss_cons (ps_set (i := 14) sc_law_paste.nd rfl (Or.inl rfl) (pe_str))
      (C8.pss_cut (ps_if (PW.pt (pw_or (pt_cmpR op_eq (pv 13) (pe_int) (nomark _)) (pw_or1 (pt_cmpR op_eq (pv 13) (pe_int) (nomark _))))) (pss_cons (ps_asg (pe_op op_add (pe_int) (pe_op op_mod (pe_callTy Gx.c_int rfl T.n_int (by decide +kernel) (pa_cons (pe_ix (Gx.ix_seqK (K := K) rfl) (pv 12) (pe_int) (fun _ _ => rfl)) pa_nil)) (pe_int))) (pg_sub (pv 12) (pe_int) set_list))
      (pss_one (ps_set (i := 14) sc_law_paste.nd rfl (Or.inl rfl) (pe_str)))) (pss_nil))
      (pss_cons (ps_set (i := 15) sc_law_paste.nd rfl (Or.inl rfl) (pe_call (ok_law_rows T) (hr.mono (by decide)) rfl T.law_rows.g T.law_rows.f.kp T.law_rows.b .nil pass0 (pa_cons (pv 0) (pa_cons (pv 12) pa_nil))))
      (C8.pss_cut (ps_if (PW.pt (pw_or (pt_cmpR op_eq (pv 13) (pe_int) (nomark _)) (pw_or1 (pt_cmpR op_eq (pv 13) (pe_int) (nomark _))))) (pss_cons (ps_set (i := 8) sc_law_paste.nd rfl (Or.inl rfl) (pe_op op_add (pe_op op_sub (pv 4) (pv 6)) (pe_int)))
      (pss_one (ps_set (i := 14) sc_law_paste.nd rfl (Or.inl rfl) (pe_str)))) (pss_nil))
      (C8.pss_cut (ps_if (pt_cmpR op_eq (pv 13) (pe_int) (nomark _)) (pss_cons (ps_set (i := 8) sc_law_paste.nd rfl (Or.inl rfl) (pe_int))
      (pss_one (ps_set (i := 14) sc_law_paste.nd rfl (Or.inl rfl) (pe_str)))) (pss_nil))
      (pss_cons (ps_setLc (i := 16) (own := [("row", 17)]) (g := (gName 17)) (tt := tYes) rfl sc_law_paste.nd rfl rfl (sw_true rfl rfl rfl (by decide +kernel)) (pi_list (pv 2)) (blkOk_by (own := [("row", 17)]) (N := ["box", "shape", "rows", "source", "across", "down", "left", "top", "wide", "high", "width", "height", "part", "kind", "due", "values", "made", "row", "channel", "k", "at", "actual"]) (sc := defScope s_law_paste) (by decide +kernel)) (fun _ _ _ _ _ => (pg_name (i := 17) sc_law_paste.nd rfl (Or.inl rfl))) (fun _ _ _ _ _ => pts_nil) (fun _ _ _ _ _ => pe_callTy (Gx.c_listK (K := K) rfl) rfl T.n_list (by decide +kernel) (pa_cons (pv 17) pa_nil)))
      (pss_cons (ps_if (pt_cmpR op_eq (pv 14) (pe_str) (nomark _)) (pss_cons (ps_for PassesOwn.never rfl (pi_range1 rfl T.n_range (pa_cons (pe_ix (Gx.ix_seqK (K := K) rfl) (pv 1) (pe_int) (fun _ _ => rfl)) pa_nil)) (pg_name (i := 18) sc_law_paste.nd rfl (Or.inl rfl))
      (pss_one (ps_for PassesOwn.never rfl (pi_range1 rfl T.n_range (pa_cons (pe_op op_mul (pv 10) (pv 11)) pa_nil)) (pg_name (i := 19) sc_law_paste.nd rfl (Or.inl rfl))
      (pss_cons (ps_set (i := 20) sc_law_paste.nd rfl (Or.inl rfl) (pe_op op_add (pe_op op_add (pe_op op_mul (pe_op op_add (pe_op op_mul (pv 7) (pe_ix (Gx.ix_seqK (K := K) rfl) (pv 1) (pe_int) (fun _ _ => rfl))) (pe_op op_fdiv (pv 19) (pv 10))) (pe_ix (Gx.ix_seqK (K := K) rfl) (pv 1) (pe_int) (fun _ _ => rfl))) (pe_op op_mul (pv 6) (pe_ix (Gx.ix_seqK (K := K) rfl) (pv 1) (pe_int) (fun _ _ => rfl)))) (pe_op op_mod (pe_callTy Gx.c_int rfl T.n_int (by decide +kernel) (pa_cons (pv 19) pa_nil)) (pv 10))))
      (pss_one (ps_asg (pe_ix (Gx.ix_seqK (K := K) rfl) (pe_ix (Gx.ix_seqK (K := K) rfl) (pv 15) (pv 18) (fun _ _ => rfl)) (pv 19) (fun _ _ => rfl)) (pg_sub (pe_ix (Gx.ix_seqK (K := K) rfl) (pv 16) (pv 18) (fun _ _ => rfl)) (pv 20) set_list)))))))
      (pss_one (ps_set (i := 14) sc_law_paste.nd rfl (Or.inl rfl) (pe_call (ok_law_changed T) (hr.mono (by decide)) rfl T.law_changed.g T.law_changed.f.kp T.law_changed.b .nil pass0 (pa_cons (pv 1) (pa_cons (pv 2) (pa_cons (pv 16) pa_nil))))))) (pss_nil))
      (pss_cons (ps_set (i := 21) sc_law_paste.nd rfl (Or.inl rfl) (pe_call (ok_law_ask T) (hr.mono (by decide)) rfl T.law_ask.g T.law_ask.f.kp T.law_ask.b .nil pass0 (pa_cons (pv 3) (pa_cons (pe_int) (pa_cons (pe_tup (pa_cons (pv 6) (pa_cons (pv 7) (pa_cons (pv 8) (pa_cons (pv 9) pa_nil))))) (pa_cons (pe_call (ok_law_picture T) (hr.mono (by decide)) rfl T.law_picture.g T.law_picture.f.kp T.law_picture.b .nil pass0 (pa_cons (pv 12) (pa_cons (pv 15) pa_nil))) (pa_cons (pe_int) pa_nil)))))))
      (pss_one (ps_ret (pe_lst (pa_cons (pe_cmpR (op_eqD hr.units) (pv 21) (pv 14) (nomark _)) (pa_cons (pv 16) (pa_cons (pe_callB (Gx.c_isiK (K := K) rfl) rfl T.n_isinstance (by decide +kernel) (pa_cons (pv 14) (pa_cons (pe_bltn (v := .ty "list") rfl T.n_list (by decide +kernel) rfl) pa_nil))) pa_nil))))))))))))))))))))))), ?_⟩)
  · obtain ⟨R, rest, v, dv, fa, y, sl, b, p, s, rv, k, ns, xs, w, h, d, c, t, f, rfl, _⟩ := h
    rfl
  · skip
    obtain ⟨R, rest, v, dv, fa, y, sl, b, p, s', rv, k, ns, xs, w, h, d, c, t, f, rfl, hrest, hv, hp, hS, hxs, fr, D, hw5, pn, hrw, q⟩ := h
    obtain ⟨l1, l2, l3, l4, l5, l6, l7⟩ := D.ok
    obtain ⟨a1, a2, a3, a4, a5, a6, a7, a8, a9, a10⟩ := id D
    have hc0 : 0 < c := by omega
    have hS0 := hv.same _ _ hS
    have hacw : ((w : Int) + (t : Int) - 1) / (t : Int) = ((Gd.ac w t : Nat) : Int) := by
      unfold Gd.ac
      rw [Int.natCast_ediv]
      congr 1
      omega
    have hach : ((h : Int) + (t : Int) - 1) / (t : Int) = ((Gd.ac h t : Nat) : Int) := by
      unfold Gd.ac
      rw [Int.natCast_ediv]
      congr 1
      omega
    walk_at "run"
    rw [hacw, hach]
    refine drV (l1 := [_, _]) (l2 := rest) hv hp (by omega) fun l k1 H1 hl hv1 => ?_
    walk_at "run"
    refine drV (l1 := [_, _]) (l2 := rest) hv1 hp (by omega) fun pt k2 H2 hpt hv2 => ?_
    walk_at "run"
    rw [show ((Gd.ac w t : Nat) : Int) - (l : Int) = ((Gd.ac w t - l : Nat) : Int) by omega]
    refine drV (l1 := [_, _]) (l2 := rest) hv2 hp (by omega) fun ra k3 H3 hra hv3 => ?_
    walk_at "run"
    rw [show ((Gd.ac h t : Nat) : Int) - (pt : Int) = ((Gd.ac h t - pt : Nat) : Int) by omega]
    refine drV (l1 := [_, _]) (l2 := rest) hv3 hp (by omega) fun rb k4 H4 hrb hv4 => ?_
    have hS4 := hv4.same _ _ hS
    walk_at "run"
    obtain ⟨c1, c2⟩ := Rt.cw_pos (n := w) (t := t) (a := l) (b := 1 + ra) (by omega) (by omega) (by omega)
    obtain ⟨c3, c4⟩ := Rt.cw_pos (n := h) (t := t) (a := pt) (b := 1 + rb) (by omega) (by omega) (by omega)
    refine Gx.min2 ?_
    rw [Sq.cw_int (by omega)]
    walk_at "run"
    refine Gx.min2 ?_
    rw [Sq.cw_int (by omega)]
    rw [show (1 : Int) + (ra : Int) = ((1 + ra : Nat) : Int) by omega, show (1 : Int) + (rb : Int) = ((1 + rb : Nat) : Int) by omega]
    generalize ha : 1 + ra = A at *
    generalize hb : 1 + rb = B at *
    have hWV : Rt.cw w t l A * Rt.cw h t pt B ≤ w * h := Nat.mul_le_mul (by omega) (by omega)
    have hWl : Rt.cw w t l A ≤ w := by omega
    have hVl : Rt.cw h t pt B ≤ h := by omega
    generalize hW : Rt.cw w t l A = W at *
    generalize hV : Rt.cw h t pt B = V0 at *
    have hv4 : Mv.Hv R H4 ((v, .ins T.a_Source dv (fl_Source (.ref fa) (.ref y) (.ref sl))) :: (sl, .lst xs) :: (b, .lst [.ref p, .int (k4 : Int)]) :: rest) := hv4
    clear hv1 hv2 hv3 hS0 hS4
    have hS4 := hv4.same _ _ hS
    walk_at "run"
    refine Nx.lst0 (by show 5 ≤ sizeLine; decide) fun pa H5 n5 s5 h5 => ?_
    obtain ⟨R5, hv5, sR5⟩ := hv4.more n5 s5 h5
    have hv5 : Mv.Hv R5 H5 ((pa, .lst [.int (W : Int), .int (V0 : Int), .int (d : Int), .int (c : Int), .int 1]) :: (v, .ins T.a_Source dv (fl_Source (.ref fa) (.ref y) (.ref sl))) :: (sl, .lst xs) :: (b, .lst [.ref p, .int (k4 : Int)]) :: rest) := hv5
    walk_at "run"
    refine drV (l1 := [_, _, _]) (l2 := rest) hv5 (sR5 _ _ hp) (by decide) fun kd k5 H6 hkd hv6 => ?_
    have hv6 : Mv.Hv R5 H6 ((pa, .lst [.int (W : Int), .int (V0 : Int), .int (d : Int), .int (c : Int), .int 1]) :: (v, .ins T.a_Source dv (fl_Source (.ref fa) (.ref y) (.ref sl))) :: (sl, .lst xs) :: (b, .lst [.ref p, .int (k5 : Int)]) :: rest) := hv6
    walk_at "run"
    refine Gx.cut (fun σ' H' => ∃ (R7 : Hp) (d2 : Nat) (dw : Str) (v15 v16 v17 v18 v19 v20 v21 : Option V), Same R5 R7 ∧ Mv.Hv R7 H' ((v, .ins T.a_Source dv (fl_Source (.ref fa) (.ref y) (.ref sl))) :: (sl, .lst xs) :: (b, .lst [.ref p, .int (k5 : Int)]) :: rest) ∧ R7 pa = some (.lst [.int (W : Int), .int (V0 : Int), .int (d2 : Int), .int (c : Int), .int ((1 : Nat) : Int)]) ∧ (1 ≤ d2 ∧ d2 ≤ 8) ∧ ((¬ (kd = 0 ∨ kd = 2) ∧ d2 = d ∧ dw = "") ∨ ((kd = 0 ∨ kd = 2) ∧ d2 ≠ d ∧ dw = "kind")) ∧ σ' = [some (.ref b), some (.ref s'), some (.ref rv), some (.ref v), some (.int ((Gd.ac w t : Nat) : Int)), some (.int ((Gd.ac h t : Nat) : Int)), some (.int (l : Int)), some (.int (pt : Int)), some (.int (A : Int)), some (.int (B : Int)), some (.int (W : Int)), some (.int (V0 : Int)), some (.ref pa), some (.int (kd : Int)), some (.str dw), v15, v16, v17, v18, v19, v20, v21]) ?_ ?_
    · refine Gx.ifs ?_
      walk_at "run"
      refine Sq.or3 ((kd : Int) = 2) (fun n h => ?_) (fun e => ?_)
      · walk_at "run"
        refine Gx.if_d (fun e => h e) (fun e => ?_)
        walk_at "run"
        obtain ⟨R7, hv7, sR7, h7⟩ := hv6.less
        exact ⟨R7, d, _, _, _, _, _, _, _, _, sR7, hv7, h7, ⟨a5, a6⟩, .inl ⟨by omega, rfl, rfl⟩, rfl⟩
      have hpa := hv6.g0
      walk_at "run"
      refine Nx.setLE (j := 2) (ys := [.int (W : Int), .int (V0 : Int), .int ((1 + d % 8 : Nat) : Int), .int (c : Int), .int 1]) hpa rfl (by rw [show ((1 + d % 8 : Nat) : Int) = 1 + (d : Int) % 8 by omega]; rfl) ?_
      have hv7 := hv6.p0 (u := .lst [.int (W : Int), .int (V0 : Int), .int ((1 + d % 8 : Nat) : Int), .int (c : Int), .int 1])
      generalize upd H6 pa (.lst [.int (W : Int), .int (V0 : Int), .int ((1 + d % 8 : Nat) : Int), .int (c : Int), .int 1]) = H7 at hv7 ⊢
      obtain ⟨R7, hv8, sR7, h7⟩ := hv7.less
      walk_at "run"
      exact ⟨R7, 1 + d % 8, _, _, _, _, _, _, _, _, sR7, hv8, h7, ⟨by omega, by omega⟩, .inr ⟨by omega, by omega, rfl⟩, rfl⟩
    rintro σ' H7 ⟨R7, d2, dw, v15, v16, v17, v18, v19, v20, v21, sR7, hv7, hpa, hd2, hdw, rfl⟩
    have sA := sR5.trans sR7
    have hp7 := sA _ _ hp
    have hS7 := sA _ _ hS
    clear hv4 hv5 hv6 hS4
    have WV : W * V0 * c ≤ 3072 := Nat.le_trans (Nat.mul_le_mul_right c hWV) a10
    have D2 : Rg.Dim W V0 d2 c 1 := ⟨c1, by omega, c3, by omega, hd2.1, hd2.2, a7, by decide, by decide, WV⟩
    walk_at "run"
    refine cp_law_rows (l1 := [_, _]) (l2 := rest) hv7 hp7 (.inl hpa) D2 fun gv k8 g R8 H8 sR8 hv8 hgw hgok => ?_
    have hv8 : Mv.Hv R8 H8 ((v, .ins T.a_Source dv (fl_Source (.ref fa) (.ref y) (.ref sl))) :: (sl, .lst xs) :: (b, .lst [.ref p, .int (k8 : Int)]) :: rest) := hv8
    walk_at "run"
    refine Gx.cut (fun σ' H' => ∃ (az : Int) (dx : Str), H' = H8 ∧ ((¬ (kd = 1 ∨ kd = 2) ∧ az = (A : Int) ∧ dx = dw) ∨ ((kd = 1 ∨ kd = 2) ∧ az = ((Gd.ac w t : Nat) : Int) - (l : Int) + 1 ∧ dx = "outside")) ∧ σ' = [some (.ref b), some (.ref s'), some (.ref rv), some (.ref v), some (.int ((Gd.ac w t : Nat) : Int)), some (.int ((Gd.ac h t : Nat) : Int)), some (.int (l : Int)), some (.int (pt : Int)), some (.int az), some (.int (B : Int)), some (.int (W : Int)), some (.int (V0 : Int)), some (.ref pa), some (.int (kd : Int)), some (.str dx), some (.ref gv), v16, v17, v18, v19, v20, v21]) ?_ ?_
    · refine Gx.ifs ?_
      walk_at "run"
      refine Sq.or3 ((kd : Int) = 2) (fun n h => ?_) (fun e => ?_)
      · walk_at "run"
        refine Gx.if_d (fun e => h e) (fun e => ?_)
        walk_at "run"
        exact ⟨_, _, rfl, .inl ⟨by omega, rfl, rfl⟩, rfl⟩
      walk_at "run"
      exact ⟨_, _, rfl, .inr ⟨by omega, rfl, rfl⟩, rfl⟩
    rintro σ' H9 ⟨az, dx, rfl, hdx, rfl⟩
    walk_at "run"
    refine Gx.cut (fun σ' H' => ∃ (az : Int) (dy : Str), H' = H9 ∧ ((dy = "" ∧ az = (A : Int) ∧ d2 = d) ∨ (dy ≠ "" ∧ PyData.strOk dy = true ∧ ((Rt.rectBad (Gd.ac w t) (Gd.ac h t) l pt az B = some (some ("rectangle" : Str)) ∧ dy = "rectangle") ∨ (Rt.rectBad (Gd.ac w t) (Gd.ac h t) l pt az B = some none ∧ dy = "outside") ∨ (Rt.rectBad (Gd.ac w t) (Gd.ac h t) l pt az B = none ∧ d2 ≠ d ∧ dy = "kind")))) ∧ σ' = [some (.ref b), some (.ref s'), some (.ref rv), some (.ref v), some (.int ((Gd.ac w t : Nat) : Int)), some (.int ((Gd.ac h t : Nat) : Int)), some (.int (l : Int)), some (.int (pt : Int)), some (.int az), some (.int (B : Int)), some (.int (W : Int)), some (.int (V0 : Int)), some (.ref pa), some (.int (kd : Int)), some (.str dy), some (.ref gv), v16, v17, v18, v19, v20, v21]) ?_ ?_
    · have b1 := Gd.ac_le (n := w) (t := t) (by omega)
      have b2 := Gd.ac_le (n := h) (t := t) (by omega)
      refine Gx.ifs ?_
      walk_at "run"
      refine Gx.if_d (fun e => ?_) (fun e => ?_)
      · walk_at "run"
        refine ⟨_, _, rfl, .inr ⟨by decide +kernel, by decide +kernel, .inl ⟨?_, rfl⟩⟩, rfl⟩
        unfold Rt.rectBad
        rw [if_pos (fun z => absurd z.2.2.1.1 (by decide))]
      · walk_at "run"
        refine ⟨_, _, rfl, ?_, rfl⟩
        rcases hdx with ⟨k1, rfl, rfl⟩ | ⟨k1, rfl, rfl⟩
        · rcases hdw with ⟨k2, k3, rfl⟩ | ⟨k2, k3, rfl⟩
          · exact .inl ⟨rfl, rfl, k3⟩
          · refine .inr ⟨by decide +kernel, by decide +kernel, .inr (.inr ⟨?_, k3, rfl⟩)⟩
            unfold Rt.rectBad
            rw [if_neg (not_not_intro ⟨⟨by omega, by omega⟩, ⟨by omega, by omega⟩, ⟨by omega, by omega⟩, ⟨by omega, by omega⟩⟩), if_neg (by omega)]
        · refine .inr ⟨by decide +kernel, by decide +kernel, .inr (.inl ⟨?_, rfl⟩)⟩
          unfold Rt.rectBad
          rw [if_neg (not_not_intro ⟨⟨by omega, by omega⟩, ⟨by omega, by omega⟩, ⟨by omega, by omega⟩, ⟨by omega, by omega⟩⟩), if_pos (by omega)]
    rintro σ' H10 ⟨az, dy, rfl, hdy, rfl⟩
    clear hdx hdw
    have hrw8 := (hrw.keep sA).keep sR8
    have s8A := sA.trans sR8
    have hgw8 := hgw
    have pn8 := pn.keep s8A
    have ok := pn.2
    have hfl : f.length = c := ok.1
    have hS8 := sR8 _ _ hS7
    obtain ⟨zs, r1, r2, r3⟩ := (hrw8.keep hv8.same).all
    walk_at "run"
    refine Gx.lp (SqL.of r1) ?_
    refine Pq.lcLN (K := K) (walk_list (xs := zs)) (by omega) (fun j => f.getD j []) (fun _ s => s.seq (SqL.of r1)) Gx.sameAt ?_ ?_
    · rintro i y H11 H11' R' R0 hi s11 ⟨rfl, hy⟩ hr
      obtain ⟨b8, rfl, hi2, hb⟩ := r3 i y hy
      have hb := s11 _ _ hb
      walk_at "run"
      refine Gx.listL (SqL.of hb) fun p hp => ?_
      exact hr p _ hp (Gx.same_new hp) upd_same
    intro mv H11 n11 s11 hN
    rw [r2, hfl] at hN
    clear r1 r2 r3
    walk_at "run"
    have hfix : ∀ {H' : Hp} {o : HO} {a : Addr}, Same H10 H' → R8 a = some o → H' a = some o := fun s e => s _ _ (hv8.same _ _ e)
    refine Gx.if_d (fun hdy0 => ?_) (fun hdy0 => ?_)
    · obtain ⟨rfl, rfl⟩ : az = (A : Int) ∧ d2 = d := by
        rcases hdy with ⟨_, e1, e2⟩ | ⟨e, _⟩
        · exact ⟨e1, e2⟩
        · exact absurd hdy0 e
      obtain ⟨gs, g1, g2, g3⟩ := id hgw8
      have hVW : V0 * W ≤ 64 * 64 := Nat.mul_le_mul (by omega) (by omega)
      have hS11 := hfix s11 hS8
      walk_at "run"
      refine Gx.r1 (by omega) (by omega) ?_
      rw [Int.toNat_natCast]
      refine Gx.fw walk_range (fun j σ' H' => ∃ (v18 v19 v20 : Option V), Same H10 H' ∧ Pq.LN H10 H' mv c (fun i => if i < j then Rt.pr w h (l * t) (pt * t) W V0 f g (V0 * W) i else Rt.pr w h (l * t) (pt * t) W V0 f g 0 i) ∧ σ' = [some (.ref b), some (.ref s'), some (.ref rv), some (.ref v), some (.int ((Gd.ac w t : Nat) : Int)), some (.int ((Gd.ac h t : Nat) : Int)), some (.int (l : Int)), some (.int (pt : Int)), some (.int (A : Int)), some (.int (B : Int)), some (.int (W : Int)), some (.int (V0 : Int)), some (.ref pa), some (.int (kd : Int)), some (.str dy), some (.ref gv), some (.ref mv), v17, v18, v19, v20, v21]) ⟨_, _, _, s11, Rt.lnc hN fun j hj => by rw [if_neg (Nat.not_lt_zero _)]; exact (Rt.pr_zero ok hj).symm, rfl⟩ (fun _ _ _ _ _ => trivial) ?_ ?_
      · rintro j yy σ' H12 H12' hj ⟨v18, v19, v20, s12, hN12, rfl⟩ ⟨rfl, hy12⟩
        have hy2 : yy = .int (j : Int) := hy12.trans (congrArg V.int (by omega))
        subst hy2
        walk_at "run"
        rw [← Int.natCast_mul]
        refine Gx.r1 (by rw [Nat.mul_comm]; omega) (by rw [Nat.mul_comm]; omega) ?_
        rw [Int.toNat_natCast]
        refine Gx.fw walk_range (fun i σ' H' => ∃ (v19 v20 : Option V), Same H10 H' ∧ Pq.LN H10 H' mv c (fun n => if n < j then Rt.pr w h (l * t) (pt * t) W V0 f g (V0 * W) n else if n = j then Rt.pr w h (l * t) (pt * t) W V0 f g i n else Rt.pr w h (l * t) (pt * t) W V0 f g 0 n) ∧ σ' = [some (.ref b), some (.ref s'), some (.ref rv), some (.ref v), some (.int ((Gd.ac w t : Nat) : Int)), some (.int ((Gd.ac h t : Nat) : Int)), some (.int (l : Int)), some (.int (pt : Int)), some (.int (A : Int)), some (.int (B : Int)), some (.int (W : Int)), some (.int (V0 : Int)), some (.ref pa), some (.int (kd : Int)), some (.str dy), some (.ref gv), some (.ref mv), v17, some (.int (j : Int)), v19, v20, v21]) ⟨_, _, s12, Rt.lnc hN12 fun n hn => ?_, rfl⟩ (fun _ _ _ _ _ => trivial) ?_ ?_
        · by_cases e : n < j
          · rw [if_pos e, if_pos e]
          · rw [if_neg e, if_neg e]
            by_cases e2 : n = j
            · rw [if_pos e2]
            · rw [if_neg e2]
        · rintro i yy σ' H13 H13' hi ⟨v19, v20, s13, hN13, rfl⟩ ⟨rfl, hy13⟩
          have hy2 : yy = .int (i : Int) := hy13.trans (congrArg V.int (by omega))
          subst hy2
          rw [Nat.mul_comm] at hi
          have hS13 := hfix s13 hS8
          walk_at "run"
          obtain ⟨ga, hga⟩ : ∃ ga, gs[j]? = some ga := ⟨gs[j]'(by have := hgok.1; omega), List.getElem?_eq_getElem (by have := hgok.1; omega)⟩
          have hgrow := Pq.rowOk_getD hgok hj
          have hg13 := hfix s13 (g3 j ga hga)
          refine Gx.ixL (SqL.of (hfix s13 g1)) (atI_nat (by rw [List.getElem?_map, hga]; rfl)) ?_
          walk_at "run"
          refine Gx.ixL (SqL.of hg13) (Gx.at_map (by rw [hgrow.1, Nat.mul_comm]; exact hi)) ?_
          obtain ⟨ys, ra', u1, u2, u3, u4, u5, u6, hput⟩ := hN13.at hj
          walk_at "run"
          refine Gx.ixL (SqL.of u1) u3 ?_
          walk_at "run"
          rw [if_neg (Nat.lt_irrefl _), if_pos rfl] at u4
          have hpl : (Rt.pr w h (l * t) (pt * t) W V0 f g i j).length = w * h := Rt.pr_len
          have hin := Rt.rp_in (h := h) (V := V0) (p := pt) c1 c2 c4 ok hi
          rw [show ((pt : Int) * (t : Int) + (i : Int) / (W : Int)) * (w : Int) + (l : Int) * (t : Int) + (i : Int) % (W : Int) = ((Rt.rp w t l pt W i : Nat) : Int) by unfold Rt.rp; rw [Int.natCast_add, Int.natCast_mul, Int.natCast_add, Int.natCast_mul, Int.natCast_add, Int.natCast_mul, Int.natCast_ediv, Int.natCast_emod, Int.add_assoc]]
          refine Nx.setLE (j := Rt.rp w t l pt W i) (ys := ((Rt.pr w h (l * t) (pt * t) W V0 f g i j).set (Rt.rp w t l pt W i) ((g.getD j []).getD i 0)).map V.int) u4 (by rw [List.length_map, hpl]; unfold ixN; rw [if_pos (by omega), if_pos (by omega)]; exact congrArg some (Int.toNat_natCast _)) (by rw [List.map_set]) ?_
          refine ⟨_, _, Gx.same_up u5 s13, Rt.lnc (hput H13' _ (Same.refl _)) fun n hn => ?_, rfl⟩
          by_cases e1 : n = j
          · subst e1
            rw [if_pos rfl, if_neg (Nat.lt_irrefl _), if_pos rfl]
            exact Rt.pr_step c1 c2 hi
          · rw [if_neg e1, if_neg e1, if_neg e1]
        rintro σ' H13 ⟨v19, v20, s13, hN13, rfl⟩
        exact ⟨_, _, _, s13, Rt.lnc hN13 fun n hn => by
          by_cases e : n < j
          · rw [if_pos e, if_pos (by omega)]
          · rw [if_neg e]
            by_cases e2 : n = j
            · rw [if_pos e2, if_pos (by omega), Nat.mul_comm W V0]
            · rw [if_neg e2, if_neg (by omega)], rfl⟩
      rintro σ' H12 ⟨v18, v19, v20, s12, hN12, rfl⟩
      have hN12 := Rt.lnc (f' := fun j => (Rt.pasR w h (l * t) (pt * t) W V0 c f g).getD j []) hN12 fun j hj => by rw [if_pos hj]; exact (Rt.pasR_at hj).symm
      obtain ⟨R12, hv12, sR12, gR12⟩ := hv8.grow s12
      have hRW : Pq.RW R12 mv (Rt.pasR w h (l * t) (pt * t) W V0 c f g) := Pq.RW.of (hN12.down n11 gR12) (by unfold Rt.pasR; simp) fun _ _ => rfl
      have hokP := Rt.pasR_ok (h := h) (V := V0) (p := pt) (g := g) c1 c2 c4 ok hgok
      obtain ⟨GG, hGG⟩ : ∃ GG, GG = Rt.pasR w h (l * t) (pt * t) W V0 c f g := ⟨_, rfl⟩
      rw [← hGG] at hRW hokP hN12
      have hS12 := hv12.same _ _ (sR12 _ _ hS8)
      walk_at "run"
      refine cp_law_changed hS12 D ((hrw8.keep sR12).keep hv12.same) ok (hRW.keep hv12.same) hokP fun kp H14 n14 s14 hk14 => ?_
      obtain ⟨R14, hv14, sR14, gR14⟩ := hv12.grow s14
      have hk14 : Rg.RL R14 kp _ := Sq.rl_in hv14 (Sq.no2 (fun _ z => by cases z) (fun _ z => by cases z) (Sq.no1 (fun _ z => by cases z) hrest)) hk14 (fun o => gR14 _ _ n14)
      walk_at "run"
      refine Nx.tup0 (by show 4 ≤ sizeLine; decide) fun tp H15 n15 s15 h15 => ?_
      obtain ⟨R15, hv15, sR15, gR15⟩ := hv14.grow s15
      have h15 := gR15 _ _ n15 h15
      have s815 := sR12.trans (sR14.trans sR15)
      walk_at "run"
      refine cp_law_picture hv15 (s815 _ _ (sR8 _ _ hpa)) D2 (hgw8.keep s815) hgok fun py pr R16 H16 sR16 npy npr sH16 P16 hv16 => ?_
      have s816 := s815.trans sR16
      have s16 := s8A.trans s816
      walk_at "run"
      refine cp_law_ask1 (Sq.no1 (fun _ z => by cases z) hrest) hv16 hxs (fr.keep s16) D (pn.keep s16) P16 hgok (sR16 _ _ h15) (fun _ _ kq sl2 u R17 H17 sR17 pu hkq hv17 => ?_) (fun e he => ?_)
      rotate_left
      · exfalso
        have rb : Rt.rectBad (Gd.ac w t) (Gd.ac h t) l pt A B = none := by
          have b1 := Gd.ac_le (n := w) (t := t) (by omega)
          have b2 := Gd.ac_le (n := h) (t := t) (by omega)
          unfold Rt.rectBad
          rw [if_neg (not_not_intro ⟨⟨by omega, by omega⟩, ⟨by omega, by omega⟩, ⟨by omega, by omega⟩, ⟨by omega, by omega⟩⟩), if_neg (by omega)]
        rcases he with ⟨e1, _⟩ | ⟨e1, _⟩ | ⟨_, e2, _⟩
        · rw [rb] at e1; cases e1
        · rw [rb] at e1; cases e1
        · exact e2 ⟨by rw [Int.toNat_natCast, Int.toNat_natCast]; exact hW, by rw [Int.toNat_natCast, Int.toNat_natCast]; exact hV, rfl, rfl⟩
      have hpas : pasG w h t c l pt A B f g = GG := by
        unfold pasG
        rw [Int.toNat_natCast, Int.toNat_natCast, Int.toNat_natCast, Int.toNat_natCast, hW, hV, hGG]
      rw [hpas] at pu hkq
      have hk17 := (hk14.keep (sR15.trans (sR16.trans sR17))).keep hv17.same
      walk_at "run"
      refine Cg.eqRL (hkq.keep hv17.same) hk17 ?_
      rw [decide_eq_true rfl]
      walk_at "run"
      refine Mv.isiLst (Sq.rl_lst hk17).choose_spec ?_
      walk_at "run"
      refine Nx.lst0 (by show 3 ≤ sizeLine; decide) fun r H18 n18 s18 h18 => ?_
      obtain ⟨R18, hv18, sR18, gR18⟩ := hv17.grow s18
      walk_at "run"
      exact (q r mv k8 R18 H18 (s16.trans (sR17.trans sR18))).2 u sl2 _ (gR18 _ _ n18 h18) (hRW.keep (sR14.trans (sR15.trans (sR16.trans (sR17.trans sR18))))) (pu.keep sR18) hv18
    obtain ⟨hok, hwd⟩ : PyData.strOk dy = true ∧ ((Rt.rectBad (Gd.ac w t) (Gd.ac h t) l pt az B = some (some ("rectangle" : Str)) ∧ dy = "rectangle") ∨ (Rt.rectBad (Gd.ac w t) (Gd.ac h t) l pt az B = some none ∧ dy = "outside") ∨ (Rt.rectBad (Gd.ac w t) (Gd.ac h t) l pt az B = none ∧ d2 ≠ d ∧ dy = "kind")) := by
      rcases hdy with ⟨e, _⟩ | ⟨_, e2, e3⟩
      · exact absurd e hdy0
      · exact ⟨e2, e3⟩
    obtain ⟨R12, hv12, sR12, gR12⟩ := hv8.grow s11
    walk_at "run"
    refine Nx.tup0 (by show 4 ≤ sizeLine; decide) fun tp H15 n15 s15 h15 => ?_
    obtain ⟨R15, hv15, sR15, gR15⟩ := hv12.grow s15
    have h15 := gR15 _ _ n15 h15
    have s815 := sR12.trans sR15
    walk_at "run"
    refine cp_law_picture hv15 (s815 _ _ (sR8 _ _ hpa)) D2 (hgw8.keep s815) hgok fun py pr R16 H16 sR16 npy npr sH16 P16 hv16 => ?_
    have s816 := s815.trans sR16
    have s16 := s8A.trans s816
    walk_at "run"
    refine cp_law_ask1 (Sq.no1 (fun _ z => by cases z) hrest) hv16 hxs (fr.keep s16) D (pn.keep s16) P16 hgok (sR16 _ _ h15) (fun rb e2 => ?_) (fun e he R17 H17 sR17 hv17 => ?_)
    · exfalso
      rcases hwd with ⟨e1, _⟩ | ⟨e1, _⟩ | ⟨_, e3, _⟩
      · rw [rb] at e1; cases e1
      · rw [rb] at e1; cases e1
      · exact e3 e2.2.2.1.symm
    have hee : dy = e := by
      rcases hwd with ⟨e1, rfl⟩ | ⟨e1, rfl⟩ | ⟨e1, _, rfl⟩
      all_goals
        rcases he with ⟨e4, rfl⟩ | ⟨e4, rfl⟩ | ⟨e4, _, rfl⟩
        all_goals first
          | rfl
          | (exfalso; rw [e1] at e4; cases e4)
    subst hee
    walk_at "run"
    refine Nx.eqStr hok hok ?_
    rw [decide_eq_true rfl]
    walk_at "run"
    refine Gx.isiS ?_ (by decide +kernel : kitB "str" "list" = some false)
    walk_at "run"
    refine Nx.lst0 (by show 3 ≤ sizeLine; decide) fun r H18 n18 s18 h18 => ?_
    obtain ⟨R18, hv18, sR18, gR18⟩ := hv17.grow s18
    walk_at "run"
    exact (q r mv k8 R18 H18 (s16.trans (sR17.trans sR18))).1 (gR18 _ _ n18 h18) hv18

theorem cp_law_paste {K : PySem.W.Frag} {CS CP CF v dv fa y sl b p s rv : Addr} {k : Nat} {ns : List Int} {xs : List V} {w h d c t : Nat} {f : List (List Int)} {R H : Hp} {rest : List (Addr × HO)} {Q : VK} {E : XK} (hrest : ∀ q ∈ rest, ∀ ys, q.2 ≠ HO.tup ys) (hv : Mv.Hv R H ((v, .ins CS dv (fl_Source (.ref fa) (.ref y) (.ref sl))) :: (sl, .lst xs) :: (b, .lst [.ref p, .int (k : Int)]) :: rest)) (hp : R p = some (.lst (ns.map V.int))) (hS : R s = some (.lst [.int (w : Int), .int (h : Int), .int (d : Int), .int (c : Int), .int (t : Int)])) (hl : xs.length ≤ 1000) (fr : Frm CF R fa w h d c t) (D : Rg.Dim w h d c t) (hw5 : w ≤ 5) (pn : Pn CP R w h d c y f) (hrw : Pq.RW R rv f)
  (q : ∀ (r mv : Addr) (k' : Nat) (R' H' : Hp), Same R R' → 
    (R' r = some (.lst [.bl true, .ref mv, .bl false]) → Mv.Hv R' H' ((v, .ins CS dv (fl_Source (.ref fa) (.ref y) (.ref sl))) :: (sl, .lst xs) :: (b, .lst [.ref p, .int (k' : Int)]) :: rest) → Q (.ref r) H') ∧
    (∀ (u sl2 : Addr) (g : List (List Int)), R' r = some (.lst [.bl true, .ref mv, .bl true]) → Pq.RW R' mv g → Pn CP R' w h d c u g → Mv.Hv R' H' ((v, .ins CS dv (fl_Source (.ref fa) (.ref u) (.ref sl2))) :: (sl2, .lst ((xs ++ [V.ref y]).drop (xs.length + 1 - 16))) :: (b, .lst [.ref p, .int (k' : Int)]) :: rest) → Q (.ref r) H')) :
  Gx.CP (sp_law_paste K CS CP CF) [.ref b, .ref s, .ref rv, .ref v] [] H Q E := ⟨R, rest, v, dv, fa, y, sl, b, p, s, rv, k, ns, xs, w, h, d, c, t, f, rfl, hrest, hv, hp, hS, hl, fr, D, hw5, pn, hrw, q⟩

noncomputable def sp_law_flag : Sp := fun vs H Q _ => ∃ b : Bool, vs = [.bl b, .bl b] ∧ Q (.bl true) H

theorem sc_law_flag : FnScope ["actual", "due"] ["actual", "due"] (defScope s_law_flag) := ⟨rfl, rfl, rfl, by decide +kernel, rfl, by decide +kernel, by decide +kernel⟩
theorem ok_law_flag (T : Tx P K mg) : FnOk P w K mg base CX0 1 T.law_flag.a T.law_flag.d ["actual", "due"] (sp_law_flag) := by
  refine T.law_flag.f.ok sc_law_flag (fun vs H Q E h => ?_) (fun cdv A outer s H vs Q E hr h => ⟨_, pss_one (ps_ret (pe_and (pe_callB (Gx.c_isiK (K := K) rfl) rfl T.n_isinstance (by decide +kernel) (pa_cons (pv 0) (pa_cons (pe_bltn (v := .ty "bool") rfl T.n_bool (by decide +kernel) rfl) pa_nil))) (pe_one (pe_cmpR op_eq (pv 0) (pv 1) (nomark _))))), ?_⟩)
  · obtain ⟨b, rfl, _⟩ := h
    rfl
  · skip
    obtain ⟨b, rfl, q⟩ := h
    walk_at "go"
    refine Gx.isiB ?_ (by decide +kernel : kitB "bool" "bool" = some true)
    walk_at "go"
    rw [decide_eq_true rfl]
    exact q

theorem cp_law_flag {b : Bool} {H : Hp} {Q : VK} {E : XK} (q : Q (.bl true) H) : Gx.CP sp_law_flag [.bl b, .bl b] [] H Q E := ⟨b, rfl, q⟩

noncomputable def sp_Source_undo (CV : Addr) : Sp := fun vs H Q _ => ∃ (R : Hp) (rest : List (Addr × HO)) (v dv sl : Addr) (f ya : V) (xs : List V), vs = [.ref v] ∧ Mv.Hv R H ((v, .ins CV dv (fl_Source f ya (.ref sl))) :: (sl, .lst xs) :: rest) ∧ xs.length ≤ 1000 ∧ (xs = [] → Q (.bl false) H) ∧ (∀ ys z, xs = ys ++ [z] → ∀ H', Mv.Hv R H' ((v, .ins CV dv (fl_Source f z (.ref sl))) :: (sl, .lst ys) :: rest) → Q (.bl true) H')

theorem sc_Source_undo : FnScope ["self"] ["self"] (defScope s_Source_undo) := ⟨rfl, rfl, rfl, by decide +kernel, rfl, by decide +kernel, by decide +kernel⟩
theorem ok_Source_undo (T : Tx P K mg) : FnOk P w K mg base CX0 1 T.Source_undo.a T.Source_undo.d ["self"] (sp_Source_undo T.a_Source) := by
  refine T.Source_undo.f.ok sc_Source_undo (fun vs H Q E h => ?_) (fun cdv A outer s H vs Q E hr h => ⟨_, pss_cons (ps_if (pt_cmpR op_eq (pe_callB (Gx.c_lenK (K := K) rfl) rfl T.n_len (by decide +kernel) (pa_cons (pe_fld (pv 0) rfl) pa_nil)) (pe_int) (nomark _)) (pss_one (ps_ret (pe_bl))) (pss_nil))
      (pss_cons (ps_fld (pv 0) (pe_bm0 PySem.F.plainAttrs_list PySem.F.slot_list_pop PySem.F.type_list_pop mt_pop (pe_fld (pv 0) rfl)) rfl)
      (pss_one (ps_ret (pe_bl)))), ?_⟩)
  · obtain ⟨R, rest, v, dv, sl, f, ya, xs, rfl, _⟩ := h
    rfl
  · skip
    obtain ⟨R, rest, v, dv, sl, f, ya, xs, rfl, hv, hl, q0, q1⟩ := h
    have h0 := hv.g0
    have h1 := hv.g1
    walk_at "run"
    refine Gx.lenL (SqL.of h1) ?_
    walk_at "run"
    refine Gx.if_d (fun e => ?_) (fun e => ?_)
    · walk_at "run"
      exact q0 (List.eq_nil_of_length_eq_zero (by omega))
    have ne : xs ≠ [] := fun z => e (by rw [z]; rfl)
    have hx := (List.dropLast_concat_getLast ne).symm
    walk_at "run"
    refine Nx.bm0P (Gx.tyL (SqL.of h1)) ?_
    refine Nx.popL h1 (v := xs.getLast ne) (by rw [List.getElem?_eq_getElem (by have := List.length_pos_iff.mpr ne; omega), List.getLast_eq_getElem]) ?_
    have hv2 := hv.p1 (u := .lst xs.dropLast)
    generalize upd H sl (.lst xs.dropLast) = H2 at hv2 ⊢
    have h2 := hv2.g0
    walk_at "run"
    refine Gx.sfp h2 T.cl_Source T.na_Source__picture few_Source put_Source__picture ?_
    have hv3 := hv2.p0 (u := .ins T.a_Source dv (fl_Source f (xs.getLast ne) (.ref sl)))
    walk_at "run"
    exact q1 _ _ hx _ hv3

theorem cp_Source_undo {CV v dv sl : Addr} {f ya : V} {xs : List V} {R H : Hp} {rest : List (Addr × HO)} {Q : VK} {E : XK} (hv : Mv.Hv R H ((v, .ins CV dv (fl_Source f ya (.ref sl))) :: (sl, .lst xs) :: rest)) (hl : xs.length ≤ 1000) (q0 : xs = [] → Q (.bl false) H) (q1 : ∀ ys z, xs = ys ++ [z] → ∀ H', Mv.Hv R H' ((v, .ins CV dv (fl_Source f z (.ref sl))) :: (sl, .lst ys) :: rest) → Q (.bl true) H') : Gx.CP (sp_Source_undo CV) [.ref v] [] H Q E := ⟨R, rest, v, dv, sl, f, ya, xs, rfl, hv, hl, q0, q1⟩

noncomputable def sp_Picture_framed (CE C CF : Addr) : Sp := fun vs H Q E => ∃ (x r : Addr) (w h d c : Nat) (f : Nat → List Int) (t : Int), vs = [.ref x, .int t] ∧ Pic C H x r w h d c f ∧ (1 ≤ w ∧ w ≤ 64) ∧ (1 ≤ h ∧ h ≤ 64) ∧ (1 ≤ d ∧ d ≤ 8) ∧ (c = 1 ∨ c = 3) ∧ w * h * c ≤ 3072 ∧
  (1 ≤ t → t ≤ 16 → ∀ y H', Same H H' → H y = none → Frm CF H' y w h d c t.toNat → Q (.ref y) H') ∧ (¬ (1 ≤ t ∧ t ≤ 16) → Sx.Err CE H "tile" E)

theorem sc_Picture_framed : FnScope ["self", "tile"] ["self", "tile"] (defScope s_Picture_framed) := ⟨rfl, rfl, rfl, by decide +kernel, rfl, by decide +kernel, by decide +kernel⟩
theorem ok_Picture_framed (T : Tx P K mg) : FnOk P w K mg base (L2.CX P w) 7 T.Picture_framed.a T.Picture_framed.d ["self", "tile"] (sp_Picture_framed T.x_OutOfRange.C T.a_Picture T.a_Frame) := by
  refine T.Picture_framed.f.okX sc_Picture_framed (fun vs H Q E h => ?_) (fun cdv A outer s H vs Q E hr h => ⟨_, pss_one (ps_ret (Sx.pe_makeS ⟨T.mk_Frame, T.Frame___init__.m.at_, T.Frame___init__.m.fn, T.kp_Frame⟩ (ok_Frame___init__ T) (hr.mono (by decide)) rfl T.g_Frame T.Frame___init__.b (fun σ => passAt (takes_of rfl rfl rfl rfl) σ) (pa_cons (pe_fld (pv 0) rfl) (pa_cons (pe_fld (pv 0) rfl) (pa_cons (pe_fld (pv 0) rfl) (pa_cons (pe_fld (pv 0) rfl) (pa_cons (pv 1) pa_nil))))))), ?_⟩)
  · obtain ⟨x, r, w, h, d, c, f, t, rfl, _⟩ := h
    rfl
  · skip
    obtain ⟨x, r, w, h, d, c, f, t, rfl, P1, hw, hh, hd, hc, hs, q, qe⟩ := h
    obtain ⟨⟨dx, hx⟩, l1⟩ := id P1
    walk_at "run"
    refine mks_Frame (fun ok y H1 s1 ny fr => ?_) (fun z e => ?_)
    · have k := Sx.frameBad_none.mp ok
      rw [Int.toNat_natCast, Int.toNat_natCast, Int.toNat_natCast, Int.toNat_natCast] at fr
      exact q k.2.2.2.2.1.1 k.2.2.2.2.1.2 y H1 s1 ny fr
    · unfold Sx.frameBad at e
      rw [Sx.kindBad_none.mpr ⟨by omega, by omega, by omega, by omega⟩] at e
      dsimp only at e
      by_cases ht : 1 ≤ t ∧ t ≤ 16
      · rw [if_neg (not_not_intro ht), if_neg (by rw [← Int.natCast_mul, ← Int.natCast_mul]; omega)] at e
        cases e
      · rw [if_pos ht] at e
        cases e
        exact qe ht

theorem cp_Picture_framed {CE C CF x r : Addr} {w h d c t : Nat} {f : Nat → List Int} {H : Hp} {Q : VK} {E : XK} (P1 : Pic C H x r w h d c f) (hw : 1 ≤ w ∧ w ≤ 64) (hh : 1 ≤ h ∧ h ≤ 64) (hd : 1 ≤ d ∧ d ≤ 8) (hc : c = 1 ∨ c = 3) (hs : w * h * c ≤ 3072) (ht : 1 ≤ t ∧ t ≤ 16)
    (q : ∀ y H', Same H H' → H y = none → Frm CF H' y w h d c t → Q (.ref y) H') : Gx.CP (sp_Picture_framed CE C CF) [.ref x, .int (t : Int)] [] H Q E := ⟨x, r, w, h, d, c, f, t, rfl, P1, hw, hh, hd, hc, hs, fun _ _ y H' s n fr => q y H' s n (by rw [Int.toNat_natCast] at fr; exact fr), fun n => absurd (show (1 : Int) ≤ t ∧ (t : Int) ≤ 16 by omega) n⟩

noncomputable def sp_Source_init (CS CP CF : Addr) : Sp := fun vs H Q _ => ∃ (H0 R0 : Hp) (rest : List (Addr × HO)) (v dv y : Addr) (w h d c t : Nat) (f : List (List Int)), vs = [.ref v, .ref y, .int (t : Int)] ∧ H v = some (.ins CS dv []) ∧ Same H0 H ∧ H0 v = none ∧ Mv.Hv R0 H0 rest ∧ Pn CP R0 w h d c y f ∧ Rg.Dim w h d c t ∧
  ∀ fa sl R H', Same R0 R → Frm CF R fa w h d c t → Mv.Hv R H' ((v, .ins CS dv (fl_Source (.ref fa) (.ref y) (.ref sl))) :: (sl, .lst []) :: rest) → Q .non H'

theorem sc_Source___init__ : FnScope ["self", "picture", "tile"] ["self", "picture", "tile"] (defScope s_Source___init__) := ⟨rfl, rfl, rfl, by decide +kernel, rfl, by decide +kernel, by decide +kernel⟩
theorem ok_Source___init__ (T : Tx P K mg) : FnOk P w K mg base CX0 8 T.Source___init__.a T.Source___init__.d ["self", "picture", "tile"] (sp_Source_init T.a_Source T.a_Picture T.a_Frame) := by
  refine T.Source___init__.f.ok sc_Source___init__ (fun vs H Q E h => ?_) (fun cdv A outer s H vs Q E hr h => ⟨_, pss_cons (ps_fld (pv 0) (pe_meth (pv 1) T.cl_Picture T.Picture_framed.m (ok_Picture_framed T) (hr.mono (by decide)) T.Picture_framed.b .nil passL (pa_cons (pv 2) pa_nil)) rfl)
      (pss_cons (ps_fld (pv 0) (pv 1) rfl)
      (pss_one (ps_fld (pv 0) (pe_lst pa_nil) rfl))), ?_⟩)
  · obtain ⟨H0, R0, rest, v, dv, y, w, h, d, c, t, f, rfl, _⟩ := h
    rfl
  · skip
    obtain ⟨H0, R0, rest, v, dv, y, w, h, d, c, t, f, rfl, hx, s0, h0, hv0, pn, D, q⟩ := h
    obtain ⟨a1, a2, a3, a4, a5, a6, a7, a8, a9, a10⟩ := id D
    obtain ⟨R1, hv1, sR1⟩ := hv0.more h0 s0 hx
    obtain ⟨r, P1⟩ := (pn.keep sR1).1
    obtain ⟨⟨dy, hy⟩, _⟩ := id P1
    walk_at "run"
    refine Gx.mp (hv1.same _ _ hy) no_Picture_framed ?_
    walk_at "run"
    refine cp_Picture_framed (P1.keep hv1.same) ⟨a1, a2⟩ ⟨a3, a4⟩ ⟨a5, a6⟩ a7 a10 ⟨a8, a9⟩ fun fa H2 s2 n2 fr2 => ?_
    obtain ⟨R2, hv2, sR2, gR2⟩ := hv1.grow s2
    have fr2 : Frm T.a_Frame R2 fa w h d c t := by
      obtain ⟨df, hf⟩ := fr2
      exact ⟨df, gR2 _ _ n2 hf⟩
    have hx2 := hv2.g0
    walk_at "run"
    refine Gx.sfp hx2 T.cl_Source T.na_Source_frame (by walk_at "few") rfl ?_
    have hv3 := hv2.p0 (u := .ins T.a_Source dv (putF "frame" (.ref fa) []))
    generalize upd H2 v (.ins T.a_Source dv (putF "frame" (.ref fa) [])) = H3 at hv3 ⊢
    have hk := hv3.g0
    walk_at "run"
    refine Gx.sfp hk T.cl_Source T.na_Source__picture (by walk_at "few") rfl ?_
    have hv5 := hv3.p0 (u := .ins T.a_Source dv (putF "_picture" (.ref y) (putF "frame" (.ref fa) [])))
    generalize upd H3 v (.ins T.a_Source dv (putF "_picture" (.ref y) (putF "frame" (.ref fa) []))) = H5 at hv5 ⊢
    walk_at "run"
    refine Nx.lst0 (by show 0 ≤ sizeLine; decide) fun sl H6 n6 s6 h6 => ?_
    obtain ⟨R6, hv6, sR6⟩ := hv5.more n6 s6 h6
    have hk6 := hv6.g1
    walk_at "run"
    refine Gx.sfp hk6 T.cl_Source T.na_Source__saved (by walk_at "few") rfl ?_
    have hv7 := hv6.p1 (u := .ins T.a_Source dv (putF "_saved" (.ref sl) (putF "_picture" (.ref y) (putF "frame" (.ref fa) []))))
    rw [ini_Source] at hv7 ⊢
    generalize upd H6 v (.ins T.a_Source dv (fl_Source (.ref fa) (.ref y) (.ref sl))) = H7 at hv7 ⊢
    walk_at "run"
    exact q fa sl R6 H7 (sR1.trans (sR2.trans sR6)) (fr2.keep sR6) hv7.sw

theorem mk_Source {CS CP CF y : Addr} {R H : Hp} {rest : List (Addr × HO)} {w h d c t : Nat} {f : List (List Int)} {Q : VK} {E : XK} (hv : Mv.Hv R H rest) (pn : Pn CP R w h d c y f) (D : Rg.Dim w h d c t) (q : ∀ v dv fa sl R' H', Same R R' → Frm CF R' fa w h d c t → Mv.Hv R' H' ((v, .ins CS dv (fl_Source (.ref fa) (.ref y) (.ref sl))) :: (sl, .lst []) :: rest) → Q (.ref v) H') :
    Gx.MkP CS (sp_Source_init CS CP CF) [.ref y, .int (t : Int)] [] H Q E := by
  intro k dk hk hdk hne
  exact ⟨H, R, rest, k, dk, y, w, h, d, c, t, f, rfl, upd_same, Gx.same_up hk (Gx.same_new hdk), hk, hv, pn, D, fun fa sl R' H' s' fr hv' => ⟨rfl, q k dk fa sl R' H' s' fr hv'⟩⟩

noncomputable def sp_law_shape : Sp := fun vs H Q _ => ∃ (R : Hp) (b p : Addr) (xs : List Int) (m n k : Nat), vs = [.ref b, .int (m : Int), .int (n : Int), .int (k : Int)] ∧ 0 < m ∧ 0 < n ∧ 0 < k ∧ Nx.Bo R H b p xs ∧
  ∀ (w h d c t : Nat) (l : Addr) (R' H' : Hp), 1 ≤ w → w ≤ m → 1 ≤ h → h ≤ m → 1 ≤ d → d ≤ n → (c = 1 ∨ c = 3) → 1 ≤ t → t ≤ k → R l = none → Nx.Bo R' H' b p xs → Same R R' → R' l = some (.lst [.int (w : Int), .int (h : Int), .int (d : Int), .int (c : Int), .int (t : Int)]) → Q (.ref l) H'

theorem sc_law_shape : FnScope ["box", "most", "planes", "side", "width", "height", "depth", "channels"] ["box", "most", "planes", "side"] (defScope s_law_shape) := ⟨rfl, rfl, rfl, by decide +kernel, rfl, by decide +kernel, by decide +kernel⟩
theorem ok_law_shape (T : Tx P K mg) : FnOk P w K mg base CX0 2 T.law_shape.a T.law_shape.d ["box", "most", "planes", "side"] (sp_law_shape) := by
  refine T.law_shape.f.ok sc_law_shape (fun vs H Q E h => ?_) (fun cdv A outer s H vs Q E hr h => ⟨_, pss_cons (ps_set (i := 4) sc_law_shape.nd rfl (Or.inl rfl) (pe_op op_add (pe_int) (pe_call (Fx.frame0 (ok_law_draw T)) (hr.mono (by decide)) rfl T.law_draw.g T.law_draw.f.kp T.law_draw.b .nil pass0 (pa_cons (pv 0) (pa_cons (pv 1) pa_nil)))))
      (pss_cons (ps_set (i := 5) sc_law_shape.nd rfl (Or.inl rfl) (pe_op op_add (pe_int) (pe_call (Fx.frame0 (ok_law_draw T)) (hr.mono (by decide)) rfl T.law_draw.g T.law_draw.f.kp T.law_draw.b .nil pass0 (pa_cons (pv 0) (pa_cons (pv 1) pa_nil)))))
      (pss_cons (ps_set (i := 6) sc_law_shape.nd rfl (Or.inl rfl) (pe_op op_add (pe_int) (pe_call (Fx.frame0 (ok_law_draw T)) (hr.mono (by decide)) rfl T.law_draw.g T.law_draw.f.kp T.law_draw.b .nil pass0 (pa_cons (pv 0) (pa_cons (pv 2) pa_nil)))))
      (pss_cons (ps_set (i := 7) sc_law_shape.nd rfl (Or.inl rfl) (pe_op op_add (pe_int) (pe_op op_mul (pe_int) (pe_callTy Gx.c_int rfl T.n_int (by decide +kernel) (pa_cons (pe_cmpR op_eq (pe_call (Fx.frame0 (ok_law_draw T)) (hr.mono (by decide)) rfl T.law_draw.g T.law_draw.f.kp T.law_draw.b .nil pass0 (pa_cons (pv 0) (pa_cons (pe_int) pa_nil))) (pe_int) (nomark _)) pa_nil)))))
      (pss_one (ps_ret (pe_lst (pa_cons (pv 4) (pa_cons (pv 5) (pa_cons (pv 6) (pa_cons (pv 7) (pa_cons (pe_op op_add (pe_int) (pe_call (Fx.frame0 (ok_law_draw T)) (hr.mono (by decide)) rfl T.law_draw.g T.law_draw.f.kp T.law_draw.b .nil pass0 (pa_cons (pv 0) (pa_cons (pv 3) pa_nil)))) pa_nil))))))))))), ?_⟩)
  · obtain ⟨R, b, p, xs, m, n, k, rfl, _⟩ := h
    rfl
  · skip
    obtain ⟨R, b, p, xs, m, n, k, rfl, hm, hn, hk, B, q⟩ := h
    walk_at "run"
    refine drB B (by omega) fun w H1 hw B => ?_
    walk_at "run"
    refine drB B (by omega) fun h H2 hh B => ?_
    walk_at "run"
    refine drB B (by omega) fun d H3 hd B => ?_
    walk_at "run"
    refine drB B (by omega) fun c H4 hc B => ?_
    walk_at "run"
    refine drB B (by omega) fun t H5 ht B => ?_
    walk_at "run"
    refine Nx.lstB (by show 5 ≤ sizeLine; decide) B fun l R' H' hl B s e => ?_
    refine q (1 + w) (1 + h) (1 + d) (if c = 0 then 3 else 1) (1 + t) l R' H' (by omega) (by omega) (by omega) (by omega) (by omega) (by omega) (by split <;> simp) (by omega) (by omega) hl B s ?_
    rw [e]
    have e1 : (1 : Int) + (w : Int) = ((1 + w : Nat) : Int) := by omega
    have e2 : (1 : Int) + (h : Int) = ((1 + h : Nat) : Int) := by omega
    have e3 : (1 : Int) + (d : Int) = ((1 + d : Nat) : Int) := by omega
    have e4 : (1 : Int) + 2 * (if decide ((c : Int) = 0) = true then 1 else 0) = ((if c = 0 then 3 else 1 : Nat) : Int) := by
      by_cases z : c = 0
      · subst z; rfl
      · rw [if_neg z, decide_eq_false (by omega)]; rfl
    have e5 : (1 : Int) + (t : Int) = ((1 + t : Nat) : Int) := by omega
    rw [e1, e2, e3, e4, e5]

theorem shapeV {R H : Hp} {b p : Addr} {k : Nat} {xs : List Int} {m n j : Nat} {Q : VK} {E : XK} (hv : Mv.Hv R H [(b, .lst [.ref p, .int (k : Int)])]) (hp : R p = some (.lst (xs.map V.int))) (hm : 0 < m) (hn : 0 < n) (hj : 0 < j) (q : ∀ (w h d c t : Nat) (l : Addr) (k' : Nat) (R' H' : Hp), 1 ≤ w → w ≤ m → 1 ≤ h → h ≤ m → 1 ≤ d → d ≤ n → (c = 1 ∨ c = 3) → 1 ≤ t → t ≤ j → R l = none → Same R R' → Mv.Hv R' H' [(b, .lst [.ref p, .int (k' : Int)])] → R' l = some (.lst [.int (w : Int), .int (h : Int), .int (d : Int), .int (c : Int), .int (t : Int)]) → Q (.ref l) H') : Gx.CP sp_law_shape [.ref b, .int (m : Int), .int (n : Int), .int (j : Int)] [] H Q E := by
  have B : Nx.Bo R H b p xs := ⟨⟨k, Nx.mk1 (hv.no (List.mem_cons_self ..)) trivial hv.g0 fun a ha => hv.off a fun q hq => by rw [List.mem_singleton.mp hq]; exact fun z => ha z.symm⟩, hp⟩
  refine ⟨R, b, p, xs, m, n, j, rfl, hm, hn, hj, B, fun w h d c t l R' H' a1 a2 a3 a4 a5 a6 a7 a8 a9 nl B' s hl => ?_⟩
  obtain ⟨⟨k', O⟩, _⟩ := B'
  exact q w h d c t l k' R' H' a1 a2 a3 a4 a5 a6 a7 a8 a9 nl s (Mv.Hv.ofOwn O Mv.Hv.nil) hl

/-- a cell of the script, 0 beyond its end -/
noncomputable def sp_law_cell (K : PySem.W.Frag) : Sp := fun vs H Q _ => ∃ (a : Addr) (ns : List Int) (k : Nat), vs = [.ref a, .int (k : Int)] ∧ SqL K H a (ns.map V.int) ∧ k < 100000 ∧ Q (.int (ns.getD k 0)) H

theorem sc_law_cell : FnScope ["script", "k"] ["script", "k"] (defScope s_law_cell) := ⟨rfl, rfl, rfl, by decide +kernel, rfl, by decide +kernel, by decide +kernel⟩
theorem ok_law_cell (T : Tx P K mg) : FnOk P w K mg base CX0 1 T.law_cell.a T.law_cell.d ["script", "k"] (sp_law_cell K) := by
  refine T.law_cell.f.ok sc_law_cell (fun vs H Q E h => ?_) (fun cdv A outer s H vs Q E hr h => ⟨_, pss_cons (ps_if (pt_cmpR op_lt (pv 1) (pe_callB (Gx.c_lenK (K := K) rfl) rfl T.n_len (by decide +kernel) (pa_cons (pv 0) pa_nil)) (nomark _)) (pss_one (ps_ret (pe_ix (Gx.ix_seqK (K := K) rfl) (pv 0) (pv 1) (fun _ _ => rfl)))) (pss_nil))
      (pss_one (ps_ret (pe_int))), ?_⟩)
  · obtain ⟨a, ns, k, rfl, _⟩ := h
    rfl
  · skip
    obtain ⟨a, ns, k, rfl, hs, hk, q⟩ := h
    walk_at "go"
    refine Gx.lenL hs ?_
    walk_at "go"
    refine Gx.if_d (fun hlt => ?_) (fun hge => ?_)
    · rw [List.length_map] at hlt
      walk_at "go"
      exact Gx.ixL hs (Gx.at_map (by omega)) q
    · rw [List.length_map] at hge
      walk_at "go"
      have e : ns.getD k 0 = 0 := by
        rw [List.getD_eq_getElem?_getD, List.getElem?_eq_none (by omega)]; rfl
      rw [e] at q
      exact q

theorem cp_law_cell {K : PySem.W.Frag} {a : Addr} {ns : List Int} {k : Int} {H : Hp} {Q : VK} {E : XK} (hs : SqL K H a (ns.map V.int)) (h0 : 0 ≤ k) (h1 : k < 100000) (q : ∀ z : Int, (z ∈ ns ∨ z = 0) → Q (.int z) H) : Gx.CP (sp_law_cell K) [.ref a, .int k] [] H Q E := by
  refine ⟨a, ns, k.toNat, by rw [List.append_nil, Int.toNat_of_nonneg h0], hs, by omega, q _ ?_⟩
  rw [List.getD_eq_getElem?_getD]
  by_cases h : k.toNat < ns.length
  · rw [List.getElem?_eq_getElem h]; exact .inl (List.getElem_mem h)
  · rw [List.getElem?_eq_none (by omega)]; exact .inr rfl

/-- a new list of ints, as the script has them -/
noncomputable def sp_law_digits (K : PySem.W.Frag) : Sp := fun vs H Q _ => ∃ (a : Addr) (ns : List Int) (f l : Nat), vs = [.ref a, .int (f : Int), .int (l : Int)] ∧ SqL K H a (ns.map V.int) ∧ f ≤ l ∧ l ≤ 1000 ∧
  ∀ (xs : List Int) (p : Addr) (H' : Hp), H p = none → Same H H' → H' p = some (.lst (xs.map V.int)) → Q (.ref p) H'

theorem sc_law_digits : FnScope ["script", "first", "last", "digits", "k", "cell", "turn", "seed"] ["script", "first", "last"] (defScope s_law_digits) := ⟨rfl, rfl, rfl, by decide +kernel, rfl, by decide +kernel, by decide +kernel⟩
theorem ok_law_digits (T : Tx P K mg) : FnOk P w K mg base CX0 2 T.law_digits.a T.law_digits.d ["script", "first", "last"] (sp_law_digits K) := by
  refine T.law_digits.f.ok sc_law_digits (fun vs H Q E h => ?_) (fun cdv A outer s H vs Q E hr h => ⟨_, pss_cons (ps_set (i := 3) sc_law_digits.nd rfl (Or.inl rfl) (pe_lst pa_nil))
      (pss_cons (ps_for PassesOwn.never rfl (pi_range2 rfl T.n_range (pa_cons (pv 1) (pa_cons (pv 2) pa_nil))) (pg_name (i := 4) sc_law_digits.nd rfl (Or.inl rfl))
      (pss_cons (ps_set (i := 5) sc_law_digits.nd rfl (Or.inl rfl) (pe_call (ok_law_cell T) (hr.mono (by decide)) rfl T.law_cell.g T.law_cell.f.kp T.law_cell.b .nil pass0 (pa_cons (pv 0) (pa_cons (pv 4) pa_nil))))
      (C8.pss_cut (ps_if (pt_cmpR op_lt (pv 5) (pe_int) (nomark _)) (pss_one (ps_set (i := 5) sc_law_digits.nd rfl (Or.inl rfl) (pe_op op_sub (pe_int) (pe_op op_mul (pe_int) (pv 5))))) (pss_nil))
      (pss_one (ps_if (pt_cmpR op_ge (pv 5) (pe_int) (nomark _)) (pss_one (ps_for PassesOwn.never rfl (pi_range1 rfl T.n_range (pa_cons (pe_int) pa_nil)) (pg_name (i := 6) sc_law_digits.nd rfl (Or.inl rfl))
      (pss_one (ps_if (pt_cmpR op_gt (pv 5) (pe_int) (nomark _)) (pss_cons (ps_expr (pe_bm PySem.F.plainAttrs_list PySem.F.slot_list_append PySem.F.type_list_append mt_append (pv 3) (pa_cons (pe_op op_mod (pe_callTy Gx.c_int rfl T.n_int (by decide +kernel) (pa_cons (pv 5) pa_nil)) (pe_int)) pa_nil)))
      (pss_one (ps_set (i := 5) sc_law_digits.nd rfl (Or.inl rfl) (pe_op op_fdiv (pv 5) (pe_int))))) (pss_nil))))) (pss_cons (ps_set (i := 7) sc_law_digits.nd rfl (Or.inl rfl) (pe_op op_mod (pe_callTy Gx.c_int rfl T.n_int (by decide +kernel) (pa_cons (pe_op op_add (pe_op op_add (pe_op op_mul (pv 5) (pe_int)) (pe_op op_mul (pv 4) (pe_int))) (pe_int)) pa_nil)) (pe_int)))
      (pss_one (ps_for PassesOwn.never rfl (pi_range1 rfl T.n_range (pa_cons (pe_int) pa_nil)) (pg_name (i := 6) sc_law_digits.nd rfl (Or.inl rfl))
      (pss_cons (ps_set (i := 7) sc_law_digits.nd rfl (Or.inl rfl) (pe_op op_mod (pe_callTy Gx.c_int rfl T.n_int (by decide +kernel) (pa_cons (pe_op op_add (pe_op op_add (pe_op op_mul (pv 7) (pe_int)) (pe_op op_mul (pe_int) (pv 6))) (pe_int)) pa_nil)) (pe_int)))
      (pss_one (ps_expr (pe_bm PySem.F.plainAttrs_list PySem.F.slot_list_append PySem.F.type_list_append mt_append (pv 3) (pa_cons (pe_op op_mod (pe_callTy Gx.c_int rfl T.n_int (by decide +kernel) (pa_cons (pe_op op_fdiv (pv 7) (pe_int)) pa_nil)) (pe_int)) pa_nil)))))))))))))
      (pss_one (ps_ret (pv 3)))), ?_⟩)
  · obtain ⟨a, ns, f, l, rfl, _⟩ := h
    rfl
  · skip
    obtain ⟨a, ns, f, l, rfl, hs, hfl, hl, q⟩ := h
    walk_at "go"
    refine Gx.lstP (Nat.zero_le _) fun p hp => ?_
    walk_at "go"
    refine Gx.r2 (by omega) ?_
    refine Gx.fw walk_range (fun i σ' H' => ∃ (xs : List Int) (k c t sd : Option V), xs.length ≤ 60 * i ∧ Same H H' ∧ H' p = some (.lst (xs.map V.int)) ∧
      σ' = [some (.ref a), some (.int (f : Int)), some (.int (l : Int)), some (.ref p), k, c, t, sd]) ?_ (fun _ _ _ _ _ => trivial) ?_ ?_
    · exact ⟨[], none, none, none, none, Nat.zero_le _, Gx.same_new hp, upd_same, rfl⟩
    · rintro i x σ' H1 H1' hi ⟨xs, k, c, t, sd, hx, s1, hL, rfl⟩ ⟨rfl, hxi⟩
      have hxi2 : x = .int ((f + i : Nat) : Int) := hxi.trans (congrArg V.int (by omega))
      subst hxi2
      have hz : ∀ ys : List Int, ys.length ≤ 60 * i + 60 → (ys.map V.int).length < sizeLine := fun ys h => by rw [List.length_map, sizeLine_eq]; omega
      walk_at "go"
      refine cp_law_cell (s1.seq hs) (by omega) (by omega) fun c0 _ => ?_
      walk_at "go"
      refine Gx.cut (fun σ' H' => H' = H1' ∧ ∃ c1 : Int, σ' = [some (.ref a), some (.int (f : Int)), some (.int (l : Int)), some (.ref p), some (.int ((f + i : Nat) : Int)), some (.int c1), t, sd]) ?_ ?_
      · walk_at "go"
        refine Gx.if_d (fun _ => ?_) (fun _ => ?_)
        · walk_at "go"
          refine Gx.ic (.inl (by decide)) ?_
          walk_at "go"
          exact ⟨rfl, _, rfl⟩
        · walk_at "go"
          exact ⟨rfl, _, rfl⟩
      · rintro σ' H' ⟨rfl, c1, rfl⟩
        walk_at "go"
        refine Gx.if_b (fun _ => ?_) (fun _ => ?_)
        · walk_at "go"
          refine Gx.r1 (by decide) (by decide) ?_
          refine Gx.fw walk_range (fun j σ' H' => ∃ (ys : List Int) (c t : Option V) (cc : Int), ys.length ≤ 60 * i + j ∧ Same H H' ∧ H' p = some (.lst (ys.map V.int)) ∧
            σ' = [some (.ref a), some (.int (f : Int)), some (.int (l : Int)), some (.ref p), some (.int ((f + i : Nat) : Int)), some (.int cc), t, sd]) ⟨xs, none, t, c1, by omega, s1, hL, rfl⟩ (fun _ _ _ _ _ => trivial) ?_ ?_
          · rintro j x σ' H2 H2' hj ⟨ys, _, t, cc, hy, s2, hL2, rfl⟩ ⟨rfl, hxj⟩
            walk_at "go"
            refine Gx.if_b (fun _ => ?_) (fun _ => ?_)
            · walk_at "go"
              refine Gx.bmS (Gx.tyL (SqL.of hL2)) ?_
              walk_at "go"
              refine Gx.ic (by decide) ?_
              walk_at "go"
              refine Gx.app hL2 (hz ys (by omega)) ?_
              walk_at "go"
              refine Gx.ic ⟨by decide, by decide⟩ ?_
              walk_at "go"
              exact ⟨ys ++ [cc % 1000], none, some x, _, by rw [List.length_append, List.length_singleton]; omega, Gx.same_up hp s2, Gx.snoc, rfl⟩
            · walk_at "go"
              exact ⟨ys, none, some x, cc, by omega, s2, hL2, rfl⟩
          · rintro σ' H' ⟨ys, _, t, cc, hy, s2, hL2, rfl⟩
            walk_at "go"
            exact ⟨ys, _, _, _, _, by omega, s2, hL2, rfl⟩
        · walk_at "go"
          refine Gx.ic (.inr (by decide)) ?_
          walk_at "go"
          refine Gx.ic (.inr (by decide)) ?_
          walk_at "go"
          refine Gx.ic (by decide) ?_
          walk_at "go"
          refine Gx.r1 (by decide) (by decide) ?_
          refine Gx.fw walk_range (fun j σ' H' => ∃ (ys : List Int) (t : Option V) (s0 : Int), ys.length ≤ 60 * i + j ∧ Same H H' ∧ H' p = some (.lst (ys.map V.int)) ∧ 
            σ' = [some (.ref a), some (.int (f : Int)), some (.int (l : Int)), some (.ref p), some (.int ((f + i : Nat) : Int)), some (.int c1), t, some (.int s0)]) ⟨xs, t, _, by omega, s1, hL, rfl⟩ (fun _ _ _ _ _ => trivial) ?_ ?_
          · rintro j x σ' H2 H2' hj ⟨ys, t, s0, hy, s2, hL2, rfl⟩ ⟨rfl, hxj⟩
            subst hxj
            walk_at "go"
            refine Gx.ic (.inr (by decide)) ?_
            walk_at "go"
            refine Gx.ic (.inl (by decide)) ?_
            walk_at "go"
            refine Gx.ic (by decide) ?_
            walk_at "go"
            refine Gx.bmS (Gx.tyL (SqL.of hL2)) ?_
            walk_at "go"
            refine Gx.ic ⟨by decide, by decide⟩ ?_
            walk_at "go"
            refine Gx.ic (by decide) ?_
            walk_at "go"
            refine Gx.app hL2 (hz ys (by omega)) ?_
            exact ⟨ys ++ [_], _, _, by rw [List.length_append, List.length_singleton]; omega, Gx.same_up hp s2, Gx.snoc, rfl⟩
          · rintro σ' H' ⟨ys, t, s0, hy, s2, hL2, rfl⟩
            walk_at "go"
            exact ⟨ys, _, _, _, _, by omega, s2, hL2, rfl⟩
    · rintro σ' H' ⟨xs, k, c, t, sd, hx, s1, hL, rfl⟩
      walk_at "go"
      exact q xs p H' hp s1 hL

theorem cp_law_digits {K : PySem.W.Frag} {a : Addr} {ns : List Int} {f l : Int} {H : Hp} {Q : VK} {E : XK} (hs : SqL K H a (ns.map V.int)) (h0 : 0 ≤ f) (h1 : f ≤ l) (h2 : l ≤ 1000)
    (q : ∀ (xs : List Int) (p : Addr) (H' : Hp), H p = none → Same H H' → H' p = some (.lst (xs.map V.int)) → Q (.ref p) H') : Gx.CP (sp_law_digits K) [.ref a, .int f, .int l] [] H Q E :=
  ⟨a, ns, f.toNat, l.toNat, by rw [List.append_nil, Int.toNat_of_nonneg h0, Int.toNat_of_nonneg (Int.le_trans h0 h1)], hs, by omega, by omega, q⟩


theorem sc_law : FnScope ["script", "box", "shape", "rows", "source", "past", "turn", "made", "shown", "copy"] ["script"] (defScope s_law) := ⟨rfl, rfl, rfl, by decide +kernel, rfl, by decide +kernel, by decide +kernel⟩
theorem ok_law (T : Tx P K mg) : FnOk P w K mg base CX0 13 T.law.a T.law.d ["script"] (spLaw K) := by
  refine T.law.f.ok sc_law (fun vs H Q E h => ?_) (fun cdv A outer s H vs Q E hr h => ⟨_, pss_cons (ps_set (i := 1) sc_law.nd rfl (Or.inl rfl) (pe_lst (pa_cons (pe_call (ok_law_digits T) (hr.mono (by decide)) rfl T.law_digits.g T.law_digits.f.kp T.law_digits.b .nil pass0 (pa_cons (pv 0) (pa_cons (pe_int) (pa_cons (pe_int) pa_nil)))) (pa_cons (pe_int) pa_nil))))
      (pss_cons (ps_set (i := 2) sc_law.nd rfl (Or.inl rfl) (pe_call (ok_law_shape T) (hr.mono (by decide)) rfl T.law_shape.g T.law_shape.f.kp T.law_shape.b .nil pass0 (pa_cons (pv 1) (pa_cons (pe_int) (pa_cons (pe_int) (pa_cons (pe_int) pa_nil))))))
      (pss_cons (ps_set (i := 3) sc_law.nd rfl (Or.inl rfl) (pe_call (ok_law_rows T) (hr.mono (by decide)) rfl T.law_rows.g T.law_rows.f.kp T.law_rows.b .nil pass0 (pa_cons (pv 1) (pa_cons (pv 2) pa_nil))))
      (pss_cons (ps_set (i := 4) sc_law.nd rfl (Or.inl rfl) (pe_make ⟨T.mk_Source, T.Source___init__.m.at_, T.Source___init__.m.fn, T.kp_Source⟩ (ok_Source___init__ T) (hr.mono (by decide)) rfl T.g_Source T.Source___init__.b .nil pass0 (pa_cons (pe_call (ok_law_picture T) (hr.mono (by decide)) rfl T.law_picture.g T.law_picture.f.kp T.law_picture.b .nil pass0 (pa_cons (pv 2) (pa_cons (pv 3) pa_nil))) (pa_cons (pe_ix (Gx.ix_seqK (K := K) rfl) (pv 2) (pe_int) (fun _ _ => rfl)) pa_nil))))
      (pss_cons (ps_set (i := 5) sc_law.nd rfl (Or.inl rfl) (pe_lst pa_nil))
      (pss_cons (ps_for PassesOwn.never rfl (pi_range1 rfl T.n_range (pa_cons (pe_op op_add (pe_int) (pe_callB (Gx.c_min2 rfl) rfl T.n_min (by decide +kernel) (pa_cons (pe_callB (Gx.c_lenK (K := K) rfl) rfl T.n_len (by decide +kernel) (pa_cons (pv 0) pa_nil)) (pa_cons (pe_int) pa_nil)))) pa_nil)) (pg_name (i := 6) sc_law.nd rfl (Or.inl rfl))
      (C8.pss_cut (ps_if (PW.pt (pw_or (pt_cmpR op_ge (pv 6) (pe_callB (Gx.c_min2 rfl) rfl T.n_min (by decide +kernel) (pa_cons (pe_callB (Gx.c_lenK (K := K) rfl) rfl T.n_len (by decide +kernel) (pa_cons (pv 0) pa_nil)) (pa_cons (pe_int) pa_nil))) (nomark _)) (pw_or1 (pt_cmpR op_eq (pe_call (ok_law_draw T) (hr.mono (by decide)) rfl T.law_draw.g T.law_draw.f.kp T.law_draw.b .nil pass0 (pa_cons (pv 1) (pa_cons (pe_int) pa_nil))) (pe_int) (nomark _))))) (pss_cons (ps_if (pt_not (pt_val (pe_call (ok_law_flag T) (hr.mono (by decide)) rfl T.law_flag.g T.law_flag.f.kp T.law_flag.b .nil pass0 (pa_cons (pe_meth0 (pv 4) T.cl_Source T.Source_undo.m (ok_Source_undo T) (hr.mono (by decide)) T.Source_undo.b .nil pass0) (pa_cons (pe_cmpR op_gt (pe_callB (Gx.c_lenK (K := K) rfl) rfl T.n_len (by decide +kernel) (pa_cons (pv 5) pa_nil)) (pe_int) (nomark _)) pa_nil))))) (pss_one (ps_ret (pe_bl))) (pss_nil))
      (pss_one (ps_if (pt_cmpR op_gt (pe_callB (Gx.c_lenK (K := K) rfl) rfl T.n_len (by decide +kernel) (pa_cons (pv 5) pa_nil)) (pe_int) (nomark _)) (pss_one (ps_set (i := 3) sc_law.nd rfl (Or.inl rfl) (pe_bm0 PySem.F.plainAttrs_list PySem.F.slot_list_pop PySem.F.type_list_pop mt_pop (pv 5)))) (pss_nil)))) (C8.pss_cut (ps_if (pt_cmpR op_eq (pe_call (ok_law_draw T) (hr.mono (by decide)) rfl T.law_draw.g T.law_draw.f.kp T.law_draw.b .nil pass0 (pa_cons (pv 1) (pa_cons (pe_int) pa_nil))) (pe_int) (nomark _)) (pss_one (ps_set (i := 7) sc_law.nd rfl (Or.inl rfl) (pe_call (ok_law_paste T) (hr.mono (by decide)) rfl T.law_paste.g T.law_paste.f.kp T.law_paste.b .nil pass0 (pa_cons (pv 1) (pa_cons (pv 2) (pa_cons (pv 3) (pa_cons (pv 4) pa_nil))))))) (pss_one (ps_set (i := 7) sc_law.nd rfl (Or.inl rfl) (pe_call (ok_law_change T) (hr.mono (by decide)) rfl T.law_change.g T.law_change.f.kp T.law_change.b .nil pass0 (pa_cons (pv 1) (pa_cons (pv 2) (pa_cons (pv 3) (pa_cons (pv 4) pa_nil))))))))
      (pss_cons (ps_if (pt_not (pt_val (pe_ix (Gx.ix_seqK (K := K) rfl) (pv 7) (pe_int) (fun _ _ => rfl)))) (pss_one (ps_ret (pe_bl))) (pss_nil))
      (pss_one (ps_if (pt_val (pe_ix (Gx.ix_seqK (K := K) rfl) (pv 7) (pe_int) (fun _ _ => rfl))) (pss_cons (ps_set (i := 5) sc_law.nd rfl (Or.inl rfl) (pe_slice (Gx.sl_listK (K := K) rfl) (pe_op op_cat (pv 5) (pe_lst (pa_cons (pv 3) pa_nil))) (po_some (pe_callB (Gx.c_max2 rfl) rfl T.n_max (by decide +kernel) (pa_cons (pe_int) (pa_cons (pe_op op_sub (pe_callB (Gx.c_lenK (K := K) rfl) rfl T.n_len (by decide +kernel) (pa_cons (pv 5) pa_nil)) (pe_int)) pa_nil)))) po_none))
      (pss_one (ps_set (i := 3) sc_law.nd rfl (Or.inl rfl) (pe_ix (Gx.ix_seqK (K := K) rfl) (pv 7) (pe_int) (fun _ _ => rfl))))) (pss_nil))))))
      (pss_cons (ps_set (i := 8) sc_law.nd rfl (Or.inl rfl) (pe_meth0 (pv 4) T.cl_Source T.Source_shown.m (ok_Source_shown T) (hr.mono (by decide)) T.Source_shown.b .nil pass0))
      (pss_cons (ps_if (pt_not (pt_val (pe_call (ok_law_same_rows T) (hr.mono (by decide)) rfl T.law_same_rows.g T.law_same_rows.f.kp T.law_same_rows.b .nil pass0 (pa_cons (pv 8) (pa_cons (pv 2) (pa_cons (pv 3) pa_nil)))))) (pss_one (ps_ret (pe_bl))) (pss_nil))
      (pss_cons (ps_set (i := 9) sc_law.nd rfl (Or.inl rfl) (pe_meth0 (pv 8) T.cl_Picture T.Picture_rows.m (ok_Picture_rows T) (hr.mono (by decide)) T.Picture_rows.b .nil pass0))
      (pss_one (ps_expr (pe_bm PySem.F.plainAttrs_list PySem.F.slot_list_append PySem.F.type_list_append mt_append (pe_ix (Gx.ix_seqK (K := K) rfl) (pv 9) (pe_int) (fun _ _ => rfl)) (pa_cons (pe_ix (Gx.ix_seqK (K := K) rfl) (pe_ix (Gx.ix_seqK (K := K) rfl) (pv 3) (pe_int) (fun _ _ => rfl)) (pe_int) (fun _ _ => rfl)) pa_nil)))))))))
      (pss_one (ps_ret (pe_bl)))))))), ?_⟩)
  · obtain ⟨a, ns, rfl, _⟩ := h
    rfl
  · skip
    obtain ⟨a, ns, rfl, hs, hlen, hbits, q⟩ := h
    walk_at "run"
    refine cp_law_digits hs (by decide) (by decide) (by decide) fun xs p H1 np s1 hd => ?_
    walk_at "run"
    refine Nx.lst0 (by show 2 ≤ sizeLine; decide) fun b H2 nb s2 hb => ?_
    have hb : H2 b = some (.lst [.ref p, .int ((0 : Nat) : Int)]) := hb
    obtain ⟨R2, hv2, sR2⟩ := (Mv.Hv.nil (H := H1)).more nb s2 hb
    have hp2 := sR2 _ _ hd
    have hs := (s1.trans sR2).seq hs
    clear s1 s2 hb nb np hd
    walk_at "run"
    refine shapeV (m := 5) (n := 3) (j := 4) hv2 hp2 (by decide) (by decide) (by decide) fun w h d c t sp k3 R3 H3 hw1 hw2 hh1 hh2 hd1 hd2 hc ht1 ht2 nsp sR3 hv3 hsp => ?_
    have hp3 := sR3 _ _ hp2
    have hs := sR3.seq hs
    have wh : w * h ≤ 5 * 5 := Nat.mul_le_mul hw2 hh2
    have big : w * h * c ≤ 3072 := Nat.le_trans (Nat.mul_le_mul wh (show c ≤ 3 by omega)) (by decide)
    have D : Rg.Dim w h d c t := ⟨hw1, by omega, hh1, by omega, hd1, by omega, hc, ht1, by omega, big⟩
    have hc0 : 0 < c := by omega
    have hwh : 0 < w * h := Nat.mul_pos (by omega) (by omega)
    clear hv2 hp2 sR2 sR3 nsp
    walk_at "run"
    refine cp_law_rows (l1 := []) (l2 := []) hv3 hp3 (.inl hsp) D fun rv0 k5 f0 R5 H5 sR5 hv5 hRW hok => ?_
    have hv5 : Mv.Hv R5 H5 [(b, .lst [.ref p, .int (k5 : Int)])] := hv5
    have hp5 := sR5 _ _ hp3
    have hsp5 := sR5 _ _ hsp
    have hs := sR5.seq hs
    walk_at "run"
    refine cp_law_picture hv5 hsp5 D hRW hok fun py pr R6 H6 sR6 npy npr sH6 P6 hv6 => ?_
    have hsp6 := hv6.same _ _ (sR6 _ _ hsp5)
    walk_at "run"
    refine mk_Source hv6 ⟨⟨pr, P6⟩, hok⟩ D fun so dv fa sl R7 H7 sR7 fr hv7 => ?_
    walk_at "run"
    refine Nx.lst0 (by show 0 ≤ sizeLine; decide) fun pa H8 n8 s8 h8 => ?_
    obtain ⟨R8, hv8, sR8⟩ := hv7.more n8 s8 h8
    have s58 := sR6.trans (sR7.trans sR8)
    have hp := s58 _ _ hp5
    have hsp := s58 _ _ hsp5
    have hs := s58.seq hs
    have fr := fr.keep sR8
    have pn : Pn T.a_Picture R8 w h d c py f0 := Pn.keep ⟨⟨pr, P6⟩, hok⟩ (sR7.trans sR8)
    have hRW := hRW.keep s58
    have hv8 : Mv.Hv R8 H8 [(so, .ins T.a_Source dv (fl_Source (.ref fa) (.ref py) (.ref sl))), (sl, .lst []), (b, .lst [.ref p, .int (k5 : Int)]), (pa, .lst [])] := hv8.perm (by
      refine List.Perm.trans (List.Perm.swap ..) (List.Perm.cons _ ?_)
      refine List.Perm.trans (List.Perm.swap ..) (List.Perm.cons _ (List.Perm.swap ..)))
    clear hv3 hv5 hv6 hv7 hp3 hp5 hsp5 hsp6 sR5 sR6 sR7 sR8 s58 P6 n8 s8 h8 npy npr sH6
    walk_at "run"
    obtain ⟨M, hM, hM45⟩ : ∃ M : Nat, (if (25 : Int) < ((ns.length : Nat) : Int) then (25 : Int) else ((ns.length : Nat) : Int)) = (M : Int) ∧ M ≤ 25 := ⟨min ns.length 25, by split <;> omega, Nat.min_le_right _ _⟩
    refine Gx.lenL (hv8.same.seq hs) ?_
    rw [List.length_map]
    walk_at "run"
    refine Gx.min2 ?_
    rw [hM]
    walk_at "run"
    rw [show (20 : Int) + (M : Int) = ((20 + M : Nat) : Int) by omega]
    refine Gx.r1 (by omega) (by omega) ?_
    rw [Int.toNat_natCast]
    refine Gx.fw walk_range (fun i σ' H' => ∃ (R' : Hp) (k' : Nat) (f : List (List Int)) (S : List (List (List Int))) (y' sl' rv' pa' : Addr) (ys zs : List V) (v6 v7 v8 v9 : Option V), Same R8 R' ∧ Mv.Hv R' H' [(so, .ins T.a_Source dv (fl_Source (.ref fa) (.ref y') (.ref sl'))), (sl', .lst ys), (b, .lst [.ref p, .int (k' : Int)]), (pa', .lst zs)] ∧ Pn T.a_Picture R' w h d c y' f ∧ Pq.RW R' rv' f ∧ Pns T.a_Picture R' w h d c ys S ∧ Sq.RWs R' zs S ∧ S.length ≤ 16 ∧ σ' = [some (.ref a), some (.ref b), some (.ref sp), some (.ref rv'), some (.ref so), some (.ref pa'), v6, v7, v8, v9]) ⟨R8, k5, f0, [], py, sl, rv0, pa, [], [], _, _, _, _, Same.refl _, hv8, pn, hRW, trivial, trivial, Nat.zero_le _, rfl⟩ (fun _ _ _ _ _ => trivial) ?_ ?_
    · clear hv8 pn hRW
      rintro i y σ' H1 H1' hi ⟨R1, k1, f, S, y', sl', rv', pa', ys, zs, v6, v7, v8, v9, sR1, hv1, pn1, rw1, sS, sZ, hS, rfl⟩ ⟨rfl, hy⟩
      have hy2 : y = .int (i : Int) := hy.trans (congrArg V.int (by omega))
      subst hy2
      walk_at "run"
      refine Gx.cut (fun σ' H' => ∃ (R' : Hp) (k' : Nat) (f : List (List Int)) (S : List (List (List Int))) (y' sl' rv' pa' : Addr) (ys zs : List V) (v6 v7 v8 v9 : Option V), Same R8 R' ∧ Mv.Hv R' H' [(so, .ins T.a_Source dv (fl_Source (.ref fa) (.ref y') (.ref sl'))), (sl', .lst ys), (b, .lst [.ref p, .int (k' : Int)]), (pa', .lst zs)] ∧ Pn T.a_Picture R' w h d c y' f ∧ Pq.RW R' rv' f ∧ Pns T.a_Picture R' w h d c ys S ∧ Sq.RWs R' zs S ∧ S.length ≤ 16 ∧ σ' = [some (.ref a), some (.ref b), some (.ref sp), some (.ref rv'), some (.ref so), some (.ref pa'), v6, v7, v8, v9]) ?_ ?_
      · have hsH : SqL K H1' a (ns.map V.int) := hv1.same.seq (sR1.seq hs)
        have hyl := sS.len
        have hzl := sZ.len
        refine Gx.ifs ?_
        refine Vm.or_pre (fun H => ∃ k : Nat, Mv.Hv R1 H [(so, .ins T.a_Source dv (fl_Source (.ref fa) (.ref y') (.ref sl'))), (sl', .lst ys), (b, .lst [.ref p, .int (k : Int)]), (pa', .lst zs)]) (fun H2 ⟨k2, hv2⟩ => ?_) (fun hA => ?_)
        · clear hv1 hsH
          refine Gx.if_t ?_
          have g0 := hv2.g0
          walk_at "run"
          refine Gx.mp g0 no_Source_undo ?_
          walk_at "run"
          refine cp_Source_undo hv2 (by omega) (fun e => ?_) (fun ys2 z e H3 hv3 => ?_)
          · have hz0 : zs.length = 0 := by rw [e] at hyl; rw [hzl, ← hyl]; rfl
            walk_at "run"
            refine Gx.lenL (SqL.of hv2.g3) ?_
            walk_at "run"
            rw [decide_eq_false (show ¬ (0 : Int) < ((zs.length : Nat) : Int) by omega)]
            refine cp_law_flag ?_
            walk_at "lit"
            refine Gx.lenL (SqL.of hv2.g3) ?_
            walk_at "run"
            refine Gx.if_dno (by omega) ?_
            walk_at "run"
            exact ⟨R1, k2, f, S, y', sl', rv', pa', ys, zs, _, _, _, _, sR1, hv2, pn1, rw1, sS, sZ, hS, rfl⟩
          · rcases List.eq_nil_or_concat S with hS0 | ⟨S2, f2, hS0⟩
            · rw [e, hS0, List.length_append] at hyl
              cases hyl
            rw [hS0, List.concat_eq_append] at sS sZ hS
            obtain ⟨ysb, yb, e1, e2, e3⟩ := sS.last
            obtain ⟨zsb, nb, f1', f2', f3'⟩ := sZ.last
            obtain ⟨rfl, ez⟩ := List.append_inj' (e.symm.trans e1) rfl
            cases ez
            rw [f1'] at hv3 hzl
            have hzl2 : (zsb ++ [V.ref nb]).length = zsb.length + 1 := by rw [List.length_append]; rfl
            walk_at "run"
            refine Gx.lenL (SqL.of hv3.g3) ?_
            walk_at "run"
            rw [decide_eq_true (show (0 : Int) < (((zsb ++ [V.ref nb]).length : Nat) : Int) by omega)]
            refine cp_law_flag ?_
            walk_at "lit"
            refine Gx.lenL (SqL.of hv3.g3) ?_
            walk_at "run"
            refine Gx.if_dy (by omega) ?_
            walk_at "run"
            refine Nx.bm0P (Gx.tyL (SqL.of hv3.g3)) ?_
            refine Nx.popL hv3.g3 (v := .ref nb) (by rw [hzl2, Nat.add_sub_cancel, List.getElem?_append_right (Nat.le_refl _), Nat.sub_self]; rfl) ?_
            rw [List.dropLast_concat]
            have hv4 := hv3.p3 (u := .lst zsb)
            generalize upd H3 pa' (.lst zsb) = H4 at hv4 ⊢
            walk_at "run"
            rw [List.length_append] at hS
            exact ⟨R1, k2, f2, S2, yb, sl', nb, pa', ys2, zsb, _, _, _, _, sR1, hv4, e2, f2', e3, f3', Nat.le_of_succ_le hS, rfl⟩
        walk_at "run"
        refine Gx.lenL hsH ?_
        rw [List.length_map]
        walk_at "run"
        refine Gx.min2 ?_
        rw [hM]
        walk_at "run"
        refine Gx.if_d (fun _ => hA _ ⟨k1, hv1⟩) (fun _ => ?_)
        walk_at "run"
        refine drV (l1 := [_, _]) hv1 (sR1 _ _ hp) (by decide) fun r k2 H2 hr hv2 => ?_
        walk_at "run"
        refine Gx.if_d (fun _ => hA _ ⟨k2, hv2⟩) (fun _ => ?_)
        clear hA hv1 hsH
        have hv2 : Mv.Hv R1 H2 [(so, .ins T.a_Source dv (fl_Source (.ref fa) (.ref y') (.ref sl'))), (sl', .lst ys), (b, .lst [.ref p, .int (k2 : Int)]), (pa', .lst zs)] := hv2
        walk_at "run"
        refine Gx.cut (fun σ' H' => ∃ (r mv : Addr) (k4 : Nat) (R4 : Hp) (v8 v9 : Option V), Same R1 R4 ∧ ((R4 r = some (.lst [.bl true, .ref mv, .bl false]) ∧ Mv.Hv R4 H' [(so, .ins T.a_Source dv (fl_Source (.ref fa) (.ref y') (.ref sl'))), (sl', .lst ys), (b, .lst [.ref p, .int (k4 : Int)]), (pa', .lst zs)]) ∨ (∃ (u sl2 : Addr) (g : List (List Int)), R4 r = some (.lst [.bl true, .ref mv, .bl true]) ∧ Pq.RW R4 mv g ∧ Pn T.a_Picture R4 w h d c u g ∧ Mv.Hv R4 H' [(so, .ins T.a_Source dv (fl_Source (.ref fa) (.ref u) (.ref sl2))), (sl2, .lst ((ys ++ [V.ref y']).drop (ys.length + 1 - 16))), (b, .lst [.ref p, .int (k4 : Int)]), (pa', .lst zs)])) ∧ σ' = [some (.ref a), some (.ref b), some (.ref sp), some (.ref rv'), some (.ref so), some (.ref pa'), some (.int (i : Int)), some (.ref r), v8, v9]) ?_ ?_
        · walk_at "run"
          refine drV (l1 := [_, _]) hv2 (sR1 _ _ hp) (by decide) fun r3 k3 H3 hr3 hv3 => ?_
          have hv3 : Mv.Hv R1 H3 [(so, .ins T.a_Source dv (fl_Source (.ref fa) (.ref y') (.ref sl'))), (sl', .lst ys), (b, .lst [.ref p, .int (k3 : Int)]), (pa', .lst zs)] := hv3
          walk_at "run"
          refine Gx.if_d (fun _ => ?_) (fun _ => ?_)
          · walk_at "run"
            refine cp_law_paste (fun q hq => by rw [List.mem_singleton.mp hq]; exact fun _ z => by cases z) hv3 (sR1 _ _ hp) (sR1 _ _ hsp) (by omega) (fr.keep sR1) D hw2 pn1 rw1 fun r mv k4 R4 H4 sR4 => ⟨fun e hv4 => ?_, fun u sl2 g e rwg png hv4 => ?_⟩
            · walk_at "run"
              exact ⟨r, mv, k4, R4, _, _, sR4, .inl ⟨e, hv4⟩, rfl⟩
            · walk_at "run"
              exact ⟨r, mv, k4, R4, _, _, sR4, .inr ⟨u, sl2, g, e, rwg, png, hv4⟩, rfl⟩
          · walk_at "run"
            refine cp_law_change (fun q hq => by rw [List.mem_singleton.mp hq]; exact fun _ z => by cases z) hv3 (sR1 _ _ hp) (sR1 _ _ hsp) (by omega) (fr.keep sR1) D pn1 rw1 fun r mv k4 R4 H4 sR4 => ⟨fun e hv4 => ?_, fun u sl2 g e rwg png hv4 => ?_⟩
            · walk_at "run"
              exact ⟨r, mv, k4, R4, _, _, sR4, .inl ⟨e, hv4⟩, rfl⟩
            · walk_at "run"
              exact ⟨r, mv, k4, R4, _, _, sR4, .inr ⟨u, sl2, g, e, rwg, png, hv4⟩, rfl⟩
        rintro σ' H4 ⟨r, mv, k4, R4, v8', v9', sR4, hh, rfl⟩
        walk_at "run"
        rcases hh with ⟨e, hv4⟩ | ⟨u, sl2, g, e, rwg, png, hv4⟩
        · have hrr := SqL.of (K := K) (hv4.same _ _ e)
          refine Gx.ixL hrr (v := .bl true) rfl ?_
          walk_at "lit"
          exact ⟨R4, k4, f, S, y', sl', rv', pa', ys, zs, _, _, _, _, sR1.trans sR4, hv4, pn1.keep sR4, rw1.keep sR4, sS.keep sR4, sZ.keep sR4, hS, rfl⟩
        have hrr := SqL.of (K := K) (hv4.same _ _ e)
        refine Gx.ixL hrr (v := .bl true) rfl ?_
        walk_at "lit"
        refine Nx.lst0 (by show 1 ≤ sizeLine; decide) fun p11 H11 n11 s11 h11 => ?_
        obtain ⟨R11, hv11, sR11, _⟩ := hv4.grow s11
        have hz11 : H11 pa' = some (.lst zs) := hv11.g3
        walk_at "run"
        refine Nx.cat0 hz11 h11 (by rw [sizeLine_eq]; show zs.length + 1 ≤ _; omega) fun p12 H12 n12 s12 h12 => ?_
        obtain ⟨R12, hv12, sR12, _⟩ := hv11.grow s12
        have hz12 : H12 pa' = some (.lst zs) := hv12.g3
        walk_at "run"
        refine Gx.lenL (SqL.of hz12) ?_
        walk_at "run"
        refine Gx.max2 ?_
        rw [show (if ((zs.length : Nat) : Int) - 15 > 0 then ((zs.length : Nat) : Int) - 15 else 0) = ((zs.length - 15 : Nat) : Int) by split <;> omega]
        walk_at "run"
        refine Nx.slL0 (SqL.of h12) fun pz H13 n13 s13 h13 => ?_
        rw [Vm.cut_from] at h13
        obtain ⟨R13', hv13, sR13⟩ := hv12.more n13 s13 h13
        have hrr := SqL.of (K := K) (hv13.same _ _ (sR13 _ _ (sR12 _ _ (sR11 _ _ e))))
        walk_at "run"
        obtain ⟨R14, hv14, sR14, _⟩ := (Sq.last5 hv13).less
        have sB := sR11.trans (sR12.trans (sR13.trans sR14))
        have s1B := sR4.trans sB
        have sS2 := ((sS.keep s1B).snoc (pn1.keep s1B)).drop (n := ys.length + 1 - 16)
        have sZ2 := ((sZ.keep s1B).snoc (rw1.keep s1B)).drop (n := zs.length - 15)
        rw [show zs.length - 15 = ys.length + 1 - 16 by omega] at sZ2 hv14
        exact ⟨R14, k4, g, (S ++ [f]).drop (ys.length + 1 - 16), u, sl2, mv, pz, _, _, _, _, _, _, sR1.trans s1B, hv14, png.keep sB, rwg.keep sB, sS2, sZ2, by rw [List.length_drop, List.length_append]; show S.length + 1 - _ ≤ 16; omega, rfl⟩
      clear hv1 pn1 rw1 sS sZ hS sR1
      rintro σ' H1 ⟨R1, k1, f, S, y', sl', rv', pa', ys, zs, v6, v7, v8, v9, sR1, hv1, pn1, rw1, sS, sZ, hS, rfl⟩
      have g0 := hv1.g0
      walk_at "run"
      refine Gx.mp g0 no_Source_shown ?_
      walk_at "run"
      refine cp_Source_shown g0 ?_
      obtain ⟨⟨pr1, P1⟩, ok1⟩ := id pn1
      have hfl : f.length = c := ok1.1
      walk_at "run"
      refine cp_law_same_rows (P1.keep hv1.same) D hfl (hv1.same _ _ (sR1 _ _ hsp)) (rw1.keep hv1.same) fun H2 s2 => ?_
      rw [decide_eq_true rfl]
      obtain ⟨R2, hv2, sR2, _⟩ := hv1.grow s2
      have P2 := (P1.keep sR2).keep hv2.same
      obtain ⟨⟨dx2, hx2⟩, _⟩ := id P2
      walk_at "lit"
      refine Gx.mp hx2 no_Picture_rows ?_
      walk_at "run"
      refine cpn_Picture_rows P2 (by omega) fun pl H3 n3 s3 hN => ?_
      obtain ⟨xs4, a4, e1, e1l, e2, e3, e4, e5, e6⟩ := hN.at (j := 0) hc0
      walk_at "run"
      refine Gx.ixL (SqL.of e1) e2 ?_
      walk_at "run"
      refine Gx.bmS (Gx.tyL (SqL.of e3)) ?_
      obtain ⟨rs, r1, r2, r3⟩ := id ((rw1.keep sR2).keep hv2.same |>.keep s3)
      obtain ⟨ra, hra⟩ : ∃ ra, rs[0]? = some ra := ⟨rs[0]'(by omega), List.getElem?_eq_getElem (by omega)⟩
      have hrow := Pq.rowOk_getD ok1 hc0
      walk_at "run"
      refine Gx.ixL (SqL.of r1) (atI_nat (j := 0) (by rw [List.getElem?_map, hra]; rfl)) ?_
      walk_at "run"
      refine Gx.ixL (SqL.of (r3 0 ra hra)) (Gx.at_map (k := 0) (by rw [hrow.1]; exact hwh)) ?_
      walk_at "run"
      have hlen : (f.getD 0 []).length ≤ 25 := by rw [hrow.1]; exact wh
      refine Gx.app e3 (by rw [List.length_map, sizeLine_eq]; omega) ?_
      have s4 := Gx.same_up (o := .lst ((f.getD 0 []).map V.int ++ [.int ((f.getD 0 []).getD 0 0)])) e4 s3
      obtain ⟨R4, hv4, sR4, _⟩ := hv2.grow s4
      walk_at "run"
      exact ⟨R4, k1, f, S, y', sl', rv', pa', ys, zs, _, _, _, _, sR1.trans (sR2.trans sR4), hv4, pn1.keep (sR2.trans sR4), rw1.keep (sR2.trans sR4), sS.keep (sR2.trans sR4), sZ.keep (sR2.trans sR4), hS, rfl⟩
    rintro σ' H1 ⟨R1, k1, f, S, y', sl', rv', pa', ys, zs, v6, v7, v8, v9, sR1, hv1, pn1, rw1, sS, sZ, hS, rfl⟩
    walk_at "run"
    exact q _


end
theorem all_mk {l : PySem.W.OpenLaw} {w : World} {K : PySem.W.Frag} {h : Heap} {mg : Str → Option Value} {fa : Addr} (X : K.In h) (G : h.Ns mainGlobals mg) (hfa : mg "law" = some (.ref fa))
    {C_Picture : Addr}
    {C_Frame : Addr}
    {C_Source : Addr}
    {C_OutOfRange f_OutOfRange cda_OutOfRange cc_OutOfRange N_OutOfRange : Addr} {nm_OutOfRange q_OutOfRange fi_OutOfRange : Str} {bs_OutOfRange bm_OutOfRange sub_OutOfRange : List Value} {sn_OutOfRange : List Str} {ab_OutOfRange : Bool} {col_OutOfRange : Option Bool} {dd_OutOfRange od_OutOfRange an_OutOfRange cdd_OutOfRange cld_OutOfRange : Option Addr} {k0_OutOfRange k1_OutOfRange k2_OutOfRange k3_OutOfRange k5_OutOfRange : Option Value} {oc_OutOfRange kV_OutOfRange dc_OutOfRange pm_OutOfRange ct_OutOfRange ccl_OutOfRange cl_OutOfRange : Value} {sl_OutOfRange ccs_OutOfRange csl_OutOfRange : Array (Option Value)} {vs_OutOfRange : Array Value} {tf_OutOfRange : Tok}
    {C_OtherKind : Addr}
    {C_OutsidePicture : Addr}
    {f_Picture_rows : Addr} {od_Picture_rows an_Picture_rows : Option Addr} {sl_Picture_rows : Array (Option Value)} {oc_Picture_rows kV_Picture_rows dc_Picture_rows pm_Picture_rows cd_Picture_rows ct_Picture_rows : Value}
    {f_law_same_rows : Addr} {od_law_same_rows an_law_same_rows : Option Addr} {sl_law_same_rows : Array (Option Value)} {oc_law_same_rows kV_law_same_rows dc_law_same_rows pm_law_same_rows cd_law_same_rows ct_law_same_rows : Value}
    {f_Source_shown : Addr} {od_Source_shown an_Source_shown : Option Addr} {sl_Source_shown : Array (Option Value)} {oc_Source_shown kV_Source_shown dc_Source_shown pm_Source_shown cd_Source_shown ct_Source_shown : Value}
    {f_with_saved : Addr} {od_with_saved an_with_saved : Option Addr} {sl_with_saved : Array (Option Value)} {oc_with_saved kV_with_saved dc_with_saved pm_with_saved cd_with_saved ct_with_saved : Value}
    {f_Frame_across : Addr} {od_Frame_across an_Frame_across : Option Addr} {sl_Frame_across : Array (Option Value)} {oc_Frame_across kV_Frame_across dc_Frame_across pm_Frame_across cd_Frame_across ct_Frame_across : Value}
    {f_tile_corner : Addr} {od_tile_corner an_tile_corner : Option Addr} {sl_tile_corner : Array (Option Value)} {oc_tile_corner kV_tile_corner dc_tile_corner pm_tile_corner cd_tile_corner ct_tile_corner : Value}
    {f_tile_size : Addr} {od_tile_size an_tile_size : Option Addr} {sl_tile_size : Array (Option Value)} {oc_tile_size kV_tile_size dc_tile_size pm_tile_size cd_tile_size ct_tile_size : Value}
    {f_tile_pixels : Addr} {od_tile_pixels an_tile_pixels : Option Addr} {sl_tile_pixels : Array (Option Value)} {oc_tile_pixels kV_tile_pixels dc_tile_pixels pm_tile_pixels cd_tile_pixels ct_tile_pixels : Value}
    {f_gray_bit : Addr} {od_gray_bit an_gray_bit : Option Addr} {sl_gray_bit : Array (Option Value)} {oc_gray_bit kV_gray_bit dc_gray_bit pm_gray_bit cd_gray_bit ct_gray_bit : Value}
    {f_Picture_value : Addr} {od_Picture_value an_Picture_value : Option Addr} {sl_Picture_value : Array (Option Value)} {oc_Picture_value kV_Picture_value dc_Picture_value pm_Picture_value cd_Picture_value ct_Picture_value : Value}
    {f_stored_bit : Addr} {od_stored_bit an_stored_bit : Option Addr} {sl_stored_bit : Array (Option Value)} {oc_stored_bit kV_stored_bit dc_stored_bit pm_stored_bit cd_stored_bit ct_stored_bit : Value}
    {f_check_range : Addr} {od_check_range an_check_range : Option Addr} {sl_check_range : Array (Option Value)} {oc_check_range kV_check_range dc_check_range pm_check_range cd_check_range ct_check_range : Value}
    {f_Frame_down : Addr} {od_Frame_down an_Frame_down : Option Addr} {sl_Frame_down : Array (Option Value)} {oc_Frame_down kV_Frame_down dc_Frame_down pm_Frame_down cd_Frame_down ct_Frame_down : Value}
    {f_Frame_tiles : Addr} {od_Frame_tiles an_Frame_tiles : Option Addr} {sl_Frame_tiles : Array (Option Value)} {oc_Frame_tiles kV_Frame_tiles dc_Frame_tiles pm_Frame_tiles cd_Frame_tiles ct_Frame_tiles : Value}
    {f_check_key : Addr} {od_check_key an_check_key : Option Addr} {sl_check_key : Array (Option Value)} {oc_check_key kV_check_key dc_check_key pm_check_key cd_check_key ct_check_key : Value}
    {f_same_kind : Addr} {od_same_kind an_same_kind : Option Addr} {sl_same_kind : Array (Option Value)} {oc_same_kind kV_same_kind dc_same_kind pm_same_kind cd_same_kind ct_same_kind : Value}
    {f_fits_frame : Addr} {od_fits_frame an_fits_frame : Option Addr} {sl_fits_frame : Array (Option Value)} {oc_fits_frame kV_fits_frame dc_fits_frame pm_fits_frame cd_fits_frame ct_fits_frame : Value}
    {f_check_fits : Addr} {od_check_fits an_check_fits : Option Addr} {sl_check_fits : Array (Option Value)} {oc_check_fits kV_check_fits dc_check_fits pm_check_fits cd_check_fits ct_check_fits : Value}
    {f_packet_bits : Addr} {od_packet_bits an_packet_bits : Option Addr} {sl_packet_bits : Array (Option Value)} {oc_packet_bits kV_packet_bits dc_packet_bits pm_packet_bits cd_packet_bits ct_packet_bits : Value}
    {f_Frame_packets : Addr} {od_Frame_packets an_Frame_packets : Option Addr} {sl_Frame_packets : Array (Option Value)} {oc_Frame_packets kV_Frame_packets dc_Frame_packets pm_Frame_packets cd_Frame_packets ct_Frame_packets : Value}
    {f_key_at : Addr} {od_key_at an_key_at : Option Addr} {sl_key_at : Array (Option Value)} {oc_key_at kV_key_at dc_key_at pm_key_at cd_key_at ct_key_at : Value}
    {f_all_keys : Addr} {od_all_keys an_all_keys : Option Addr} {sl_all_keys : Array (Option Value)} {oc_all_keys kV_all_keys dc_all_keys pm_all_keys cd_all_keys ct_all_keys : Value}
    {f_changed : Addr} {od_changed an_changed : Option Addr} {sl_changed : Array (Option Value)} {oc_changed kV_changed dc_changed pm_changed cd_changed ct_changed : Value}
    {f_Source__become : Addr} {od_Source__become an_Source__become : Option Addr} {sl_Source__become : Array (Option Value)} {oc_Source__become kV_Source__become dc_Source__become pm_Source__become cd_Source__become ct_Source__become : Value}
    {f_check_values : Addr} {od_check_values an_check_values : Option Addr} {sl_check_values : Array (Option Value)} {oc_check_values kV_check_values dc_check_values pm_check_values cd_check_values ct_check_values : Value}
    {f_check_size : Addr} {od_check_size an_check_size : Option Addr} {sl_check_size : Array (Option Value)} {oc_check_size kV_check_size dc_check_size pm_check_size cd_check_size ct_check_size : Value}
    {f_check_kind : Addr} {od_check_kind an_check_kind : Option Addr} {sl_check_kind : Array (Option Value)} {oc_check_kind kV_check_kind dc_check_kind pm_check_kind cd_check_kind ct_check_kind : Value}
    {f_Picture___init__ : Addr} {od_Picture___init__ an_Picture___init__ : Option Addr} {sl_Picture___init__ : Array (Option Value)} {oc_Picture___init__ kV_Picture___init__ dc_Picture___init__ pm_Picture___init__ cd_Picture___init__ ct_Picture___init__ : Value}
    {f_crop_pixels : Addr} {od_crop_pixels an_crop_pixels : Option Addr} {sl_crop_pixels : Array (Option Value)} {oc_crop_pixels kV_crop_pixels dc_crop_pixels pm_crop_pixels cd_crop_pixels ct_crop_pixels : Value}
    {f_Frame___init__ : Addr} {od_Frame___init__ an_Frame___init__ : Option Addr} {sl_Frame___init__ : Array (Option Value)} {oc_Frame___init__ kV_Frame___init__ dc_Frame___init__ pm_Frame___init__ cd_Frame___init__ ct_Frame___init__ : Value}
    {f_check_sides : Addr} {od_check_sides an_check_sides : Option Addr} {sl_check_sides : Array (Option Value)} {oc_check_sides kV_check_sides dc_check_sides pm_check_sides cd_check_sides ct_check_sides : Value}
    {f_check_rectangle : Addr} {od_check_rectangle an_check_rectangle : Option Addr} {sl_check_rectangle : Array (Option Value)} {oc_check_rectangle kV_check_rectangle dc_check_rectangle pm_check_rectangle cd_check_rectangle ct_check_rectangle : Value}
    {f_check_tiles : Addr} {od_check_tiles an_check_tiles : Option Addr} {sl_check_tiles : Array (Option Value)} {oc_check_tiles kV_check_tiles dc_check_tiles pm_check_tiles cd_check_tiles ct_check_tiles : Value}
    {f_crop_frame : Addr} {od_crop_frame an_crop_frame : Option Addr} {sl_crop_frame : Array (Option Value)} {oc_crop_frame kV_crop_frame dc_crop_frame pm_crop_frame cd_crop_frame ct_crop_frame : Value}
    {f_paste_crops : Addr} {od_paste_crops an_paste_crops : Option Addr} {sl_paste_crops : Array (Option Value)} {oc_paste_crops kV_paste_crops dc_paste_crops pm_paste_crops cd_paste_crops ct_paste_crops : Value}
    {f_Source_paste : Addr} {od_Source_paste an_Source_paste : Option Addr} {sl_Source_paste : Array (Option Value)} {oc_Source_paste kV_Source_paste dc_Source_paste pm_Source_paste cd_Source_paste ct_Source_paste : Value}
    {f_Picture_with_value : Addr} {od_Picture_with_value an_Picture_with_value : Option Addr} {sl_Picture_with_value : Array (Option Value)} {oc_Picture_with_value kV_Picture_with_value dc_Picture_with_value pm_Picture_with_value cd_Picture_with_value ct_Picture_with_value : Value}
    {f_Source_change : Addr} {od_Source_change an_Source_change : Option Addr} {sl_Source_change : Array (Option Value)} {oc_Source_change kV_Source_change dc_Source_change pm_Source_change cd_Source_change ct_Source_change : Value}
    {f_law_ask_raw : Addr} {od_law_ask_raw an_law_ask_raw : Option Addr} {sl_law_ask_raw : Array (Option Value)} {oc_law_ask_raw kV_law_ask_raw dc_law_ask_raw pm_law_ask_raw cd_law_ask_raw ct_law_ask_raw : Value}
    {f_law_ask : Addr} {od_law_ask an_law_ask : Option Addr} {sl_law_ask : Array (Option Value)} {oc_law_ask kV_law_ask dc_law_ask pm_law_ask cd_law_ask ct_law_ask : Value}
    {f_law_gray : Addr} {od_law_gray an_law_gray : Option Addr} {sl_law_gray : Array (Option Value)} {oc_law_gray kV_law_gray dc_law_gray pm_law_gray cd_law_gray ct_law_gray : Value}
    {f_law_stored : Addr} {od_law_stored an_law_stored : Option Addr} {sl_law_stored : Array (Option Value)} {oc_law_stored kV_law_stored dc_law_stored pm_law_stored cd_law_stored ct_law_stored : Value}
    {f_law_tile : Addr} {od_law_tile an_law_tile : Option Addr} {sl_law_tile : Array (Option Value)} {oc_law_tile kV_law_tile dc_law_tile pm_law_tile cd_law_tile ct_law_tile : Value}
    {f_law_pixels : Addr} {od_law_pixels an_law_pixels : Option Addr} {sl_law_pixels : Array (Option Value)} {oc_law_pixels kV_law_pixels dc_law_pixels pm_law_pixels cd_law_pixels ct_law_pixels : Value}
    {f_law_packet : Addr} {od_law_packet an_law_packet : Option Addr} {sl_law_packet : Array (Option Value)} {oc_law_packet kV_law_packet dc_law_packet pm_law_packet cd_law_packet ct_law_packet : Value}
    {f_law_tiles : Addr} {od_law_tiles an_law_tiles : Option Addr} {sl_law_tiles : Array (Option Value)} {oc_law_tiles kV_law_tiles dc_law_tiles pm_law_tiles cd_law_tiles ct_law_tiles : Value}
    {f_law_keys : Addr} {od_law_keys an_law_keys : Option Addr} {sl_law_keys : Array (Option Value)} {oc_law_keys kV_law_keys dc_law_keys pm_law_keys cd_law_keys ct_law_keys : Value}
    {f_law_changed : Addr} {od_law_changed an_law_changed : Option Addr} {sl_law_changed : Array (Option Value)} {oc_law_changed kV_law_changed dc_law_changed pm_law_changed cd_law_changed ct_law_changed : Value}
    {f_law_draw : Addr} {od_law_draw an_law_draw : Option Addr} {sl_law_draw : Array (Option Value)} {oc_law_draw kV_law_draw dc_law_draw pm_law_draw cd_law_draw ct_law_draw : Value}
    {f_law_change : Addr} {od_law_change an_law_change : Option Addr} {sl_law_change : Array (Option Value)} {oc_law_change kV_law_change dc_law_change pm_law_change cd_law_change ct_law_change : Value}
    {f_law_picture : Addr} {od_law_picture an_law_picture : Option Addr} {sl_law_picture : Array (Option Value)} {oc_law_picture kV_law_picture dc_law_picture pm_law_picture cd_law_picture ct_law_picture : Value}
    {f_law_rows : Addr} {od_law_rows an_law_rows : Option Addr} {sl_law_rows : Array (Option Value)} {oc_law_rows kV_law_rows dc_law_rows pm_law_rows cd_law_rows ct_law_rows : Value}
    {f_law_paste : Addr} {od_law_paste an_law_paste : Option Addr} {sl_law_paste : Array (Option Value)} {oc_law_paste kV_law_paste dc_law_paste pm_law_paste cd_law_paste ct_law_paste : Value}
    {f_law_flag : Addr} {od_law_flag an_law_flag : Option Addr} {sl_law_flag : Array (Option Value)} {oc_law_flag kV_law_flag dc_law_flag pm_law_flag cd_law_flag ct_law_flag : Value}
    {f_Source_undo : Addr} {od_Source_undo an_Source_undo : Option Addr} {sl_Source_undo : Array (Option Value)} {oc_Source_undo kV_Source_undo dc_Source_undo pm_Source_undo cd_Source_undo ct_Source_undo : Value}
    {f_Picture_framed : Addr} {od_Picture_framed an_Picture_framed : Option Addr} {sl_Picture_framed : Array (Option Value)} {oc_Picture_framed kV_Picture_framed dc_Picture_framed pm_Picture_framed cd_Picture_framed ct_Picture_framed : Value}
    {f_Source___init__ : Addr} {od_Source___init__ an_Source___init__ : Option Addr} {sl_Source___init__ : Array (Option Value)} {oc_Source___init__ kV_Source___init__ dc_Source___init__ pm_Source___init__ cd_Source___init__ ct_Source___init__ : Value}
    {f_law_shape : Addr} {od_law_shape an_law_shape : Option Addr} {sl_law_shape : Array (Option Value)} {oc_law_shape kV_law_shape dc_law_shape pm_law_shape cd_law_shape ct_law_shape : Value}
    {f_law_cell : Addr} {od_law_cell an_law_cell : Option Addr} {sl_law_cell : Array (Option Value)} {oc_law_cell kV_law_cell dc_law_cell pm_law_cell cd_law_cell ct_law_cell : Value}
    {f_law_digits : Addr} {od_law_digits an_law_digits : Option Addr} {sl_law_digits : Array (Option Value)} {oc_law_digits kV_law_digits dc_law_digits pm_law_digits cd_law_digits ct_law_digits : Value}
    {f_law : Addr} {od_law an_law : Option Addr} {sl_law : Array (Option Value)} {oc_law kV_law dc_law pm_law cd_law ct_law : Value}
    {t_DEPTH_MOST : Tok}
    {t_SIDE_MOST : Tok}
    {t_TILE_MOST : Tok}
    {t_UNDO_MOST : Tok}
    {t_VALUES_MOST : Tok}
    (g_Picture : PySem.W.nsIn K mainGlobals "Picture" = some (some (.ref C_Picture)))
    (pg_Picture : PySem.W.plainGet K C_Picture Str.empty = true)
    (hd_Picture : PySem.W.hasDictIn K C_Picture = true)
    (po_Picture : PySem.W.plainOver K C_Picture = true)
    (sa_Picture : PySem.W.findIn K (.ref C_Picture) "__setattr__" = some (some (.builtin "object.__setattr__")))
    (mk_Picture : PySem.W.makesIn K C_Picture = true)
    (kc_Picture : PySem.W.keepIn K (.ref C_Picture) = true)
    (na_Picture_width : PySem.W.findIn K (.ref C_Picture) "width" = some none)
    (na_Picture_height : PySem.W.findIn K (.ref C_Picture) "height" = some none)
    (na_Picture_depth : PySem.W.findIn K (.ref C_Picture) "depth" = some none)
    (na_Picture_channels : PySem.W.findIn K (.ref C_Picture) "channels" = some none)
    (na_Picture__rows : PySem.W.findIn K (.ref C_Picture) "_rows" = some none)
    (g_Frame : PySem.W.nsIn K mainGlobals "Frame" = some (some (.ref C_Frame)))
    (pg_Frame : PySem.W.plainGet K C_Frame Str.empty = true)
    (hd_Frame : PySem.W.hasDictIn K C_Frame = true)
    (po_Frame : PySem.W.plainOver K C_Frame = true)
    (sa_Frame : PySem.W.findIn K (.ref C_Frame) "__setattr__" = some (some (.builtin "object.__setattr__")))
    (mk_Frame : PySem.W.makesIn K C_Frame = true)
    (kc_Frame : PySem.W.keepIn K (.ref C_Frame) = true)
    (na_Frame_width : PySem.W.findIn K (.ref C_Frame) "width" = some none)
    (na_Frame_height : PySem.W.findIn K (.ref C_Frame) "height" = some none)
    (na_Frame_depth : PySem.W.findIn K (.ref C_Frame) "depth" = some none)
    (na_Frame_channels : PySem.W.findIn K (.ref C_Frame) "channels" = some none)
    (na_Frame_tile : PySem.W.findIn K (.ref C_Frame) "tile" = some none)
    (g_Source : PySem.W.nsIn K mainGlobals "Source" = some (some (.ref C_Source)))
    (pg_Source : PySem.W.plainGet K C_Source Str.empty = true)
    (hd_Source : PySem.W.hasDictIn K C_Source = true)
    (po_Source : PySem.W.plainOver K C_Source = true)
    (sa_Source : PySem.W.findIn K (.ref C_Source) "__setattr__" = some (some (.builtin "object.__setattr__")))
    (mk_Source : PySem.W.makesIn K C_Source = true)
    (kc_Source : PySem.W.keepIn K (.ref C_Source) = true)
    (na_Source_frame : PySem.W.findIn K (.ref C_Source) "frame" = some none)
    (na_Source__picture : PySem.W.findIn K (.ref C_Source) "_picture" = some none)
    (na_Source__saved : PySem.W.findIn K (.ref C_Source) "_saved" = some none)
    (ca_Picture : PySem.W.findIn K (.ref C_Picture) "__class__" = some (some (.builtin "object.__class__")))
    (ob_Picture : PySem.W.mroIn K C_Picture (.type "object") = some true)
    (topS : (l.prog.main.scope.names.lookup ("super" : Str)).isSome = false)
    (nsS : PySem.W.nsIn K mainGlobals "super" = some none)
    (opS : PySem.W.nsIn K cStatics "thirdparty.any" = some none)
    (spS : PySem.W.specialIn K (.builtin "object.__class__") "__get__" = some (some (.builtin "getset_descriptor.__get__")))
    (tkS : PySem.W.takesIn K (.builtin "object.__class__") = some true)
    (g_OutOfRange : PySem.W.nsIn K mainGlobals "OutOfRange" = some (some (.ref C_OutOfRange)))
    (lC_OutOfRange : K.lookup C_OutOfRange = some (excClassObj nm_OutOfRange q_OutOfRange C_OutOfRange N_OutOfRange bs_OutOfRange bm_OutOfRange true sn_OutOfRange sub_OutOfRange ab_OutOfRange col_OutOfRange dd_OutOfRange k0_OutOfRange k1_OutOfRange k2_OutOfRange k3_OutOfRange k5_OutOfRange "ValueError.__new__"))
    (rv_OutOfRange : PySem.HandSPX.refsVE bm_OutOfRange = true)
    (sa_OutOfRange : PySem.W.findIn K (.ref C_OutOfRange) "__setattr__" = some (some (.builtin "object.__setattr__")))
    (bb_OutOfRange : PySem.W.subIn K (.ref C_OutOfRange) (.type "BaseException") = some true)
    (ty_OutOfRange : PySem.W.typeIn K (.ref C_OutOfRange) = some (.type "type"))
    (kC_OutOfRange : PySem.W.keepIn K (.ref C_OutOfRange) = true)
    (iC_OutOfRange : PySem.W.findIn K (.ref C_OutOfRange) "__init__" = some (some (.ref f_OutOfRange)))
    (tI_OutOfRange : PySem.W.typeIn K (.ref f_OutOfRange) = some (.type "function"))
    (lf_OutOfRange : K.lookup f_OutOfRange = some ⟨oc_OutOfRange, od_OutOfRange, .func (PySem.W.ksFn "__init__" "OutOfRange.__init__" (defArgs s_OutOfRange___init__) (defBody s_OutOfRange___init__) (defScope s_OutOfRange___init__) .none kV_OutOfRange dc_OutOfRange pm_OutOfRange an_OutOfRange (.ref cda_OutOfRange) ct_OutOfRange cc_OutOfRange), sl_OutOfRange⟩)
    (cf_OutOfRange : PySem.W.codeIn K (.ref cda_OutOfRange) "OutOfRange.__init__" = true)
    (lcd_OutOfRange : K.lookup cda_OutOfRange = some ⟨ccl_OutOfRange, cdd_OutOfRange, .fields vs_OutOfRange, ccs_OutOfRange⟩)
    (vs2_OutOfRange : vs_OutOfRange[2]? = some (.str fi_OutOfRange tf_OutOfRange))
    (fil_OutOfRange : ((l.prog.main.file : Str) == fi_OutOfRange) = true)
    (lcc_OutOfRange : K.lookup cc_OutOfRange = some ⟨cl_OutOfRange, cld_OutOfRange, .cell (some (.ref C_OutOfRange)), csl_OutOfRange⟩)
    (su_OutOfRange : PySem.W.mroIn K C_OutOfRange (.ref C_OutOfRange) = some true)
    (sup_OutOfRange : PySem.W.ks_superIn K C_OutOfRange C_OutOfRange "__init__" = some (some (.builtin "ValueError.__init__")))
    (isV_OutOfRange : PySem.W.subIn K (.ref C_OutOfRange) (.type "ValueError") = some true)
    (ga_OutOfRange : PySem.W.findIn K (.ref C_OutOfRange) "__getattribute__" = some (some (.builtin "BaseException.__getattribute__")))
    (gg_OutOfRange : PySem.W.findIn K (.ref C_OutOfRange) "__getattr__" = some none)
    (ca_OutOfRange : PySem.W.findIn K (.ref C_OutOfRange) "__class__" = some (some (.builtin "object.__class__")))
    (ob_OutOfRange : PySem.W.mroIn K C_OutOfRange (.type "object") = some true)
    (hd_OutOfRange : PySem.W.hasDictIn K C_OutOfRange = true)
    (ss_OutOfRange : PySem.W.subIn K (.ref C_OutOfRange) (.ref C_OutOfRange) = some true)
    (g_OtherKind : PySem.W.nsIn K mainGlobals "OtherKind" = some (some (.ref C_OtherKind)))
    (kC_OtherKind : PySem.W.keepIn K (.ref C_OtherKind) = true)
    (ex_OtherKind : PySem.W.excIn K C_OtherKind [.type "ValueError", .type "Exception", .type "BaseException", .type "object"] "ValueError.__new__" = true)
    (bb_OtherKind : PySem.W.subIn K (.ref C_OtherKind) (.type "BaseException") = some true)
    (ty_OtherKind : PySem.W.typeIn K (.ref C_OtherKind) = some (.type "type"))
    (hd_OtherKind : PySem.W.hasDictIn K C_OtherKind = true)
    (ss_OtherKind : PySem.W.subIn K (.ref C_OtherKind) (.ref C_OtherKind) = some true)
    (g_OutsidePicture : PySem.W.nsIn K mainGlobals "OutsidePicture" = some (some (.ref C_OutsidePicture)))
    (kC_OutsidePicture : PySem.W.keepIn K (.ref C_OutsidePicture) = true)
    (ex_OutsidePicture : PySem.W.excIn K C_OutsidePicture [.type "ValueError", .type "Exception", .type "BaseException", .type "object"] "ValueError.__new__" = true)
    (bb_OutsidePicture : PySem.W.subIn K (.ref C_OutsidePicture) (.type "BaseException") = some true)
    (ty_OutsidePicture : PySem.W.typeIn K (.ref C_OutsidePicture) = some (.type "type"))
    (hd_OutsidePicture : PySem.W.hasDictIn K C_OutsidePicture = true)
    (ss_OutsidePicture : PySem.W.subIn K (.ref C_OutsidePicture) (.ref C_OutsidePicture) = some true)
    (nf_OutOfRange_name : PySem.W.findIn K (.ref C_OutOfRange) "name" = some none)
    (em_OutOfRange_OtherKind : PySem.W.subIn K (.ref C_OutOfRange) (.ref C_OtherKind) = some false)
    (em_OutOfRange_OutsidePicture : PySem.W.subIn K (.ref C_OutOfRange) (.ref C_OutsidePicture) = some false)
    (em_OtherKind_OutOfRange : PySem.W.subIn K (.ref C_OtherKind) (.ref C_OutOfRange) = some false)
    (em_OtherKind_OutsidePicture : PySem.W.subIn K (.ref C_OtherKind) (.ref C_OutsidePicture) = some false)
    (em_OutsidePicture_OtherKind : PySem.W.subIn K (.ref C_OutsidePicture) (.ref C_OtherKind) = some false)
    (em_OutsidePicture_OutOfRange : PySem.W.subIn K (.ref C_OutsidePicture) (.ref C_OutOfRange) = some false)
    (a_Picture_rows : PySem.W.findIn K (.ref C_Picture) "rows" = some (some (.ref f_Picture_rows)))
    (i_Picture_rows : PySem.W.isFn K (.ref f_Picture_rows) = true)
    (l_Picture_rows : K.lookup f_Picture_rows = some ⟨oc_Picture_rows, od_Picture_rows, .func (PySem.W.fnOf "rows" "Picture.rows" (defArgs s_Picture_rows) (defBody s_Picture_rows) (defScope s_Picture_rows) .none kV_Picture_rows dc_Picture_rows pm_Picture_rows an_Picture_rows cd_Picture_rows ct_Picture_rows), sl_Picture_rows⟩)
    (c_Picture_rows : PySem.W.codeIn K cd_Picture_rows "Picture.rows" = true)
    (k_Picture_rows : PySem.W.keepIn K (.ref f_Picture_rows) = true)
    (a_law_same_rows : PySem.W.nsIn K mainGlobals "_law_same_rows" = some (some (.ref f_law_same_rows)))
    (l_law_same_rows : K.lookup f_law_same_rows = some ⟨oc_law_same_rows, od_law_same_rows, .func (PySem.W.fnOf "_law_same_rows" "_law_same_rows" (defArgs s_law_same_rows) (defBody s_law_same_rows) (defScope s_law_same_rows) .none kV_law_same_rows dc_law_same_rows pm_law_same_rows an_law_same_rows cd_law_same_rows ct_law_same_rows), sl_law_same_rows⟩)
    (c_law_same_rows : PySem.W.codeIn K cd_law_same_rows "_law_same_rows" = true)
    (k_law_same_rows : PySem.W.keepIn K (.ref f_law_same_rows) = true)
    (a_Source_shown : PySem.W.findIn K (.ref C_Source) "shown" = some (some (.ref f_Source_shown)))
    (i_Source_shown : PySem.W.isFn K (.ref f_Source_shown) = true)
    (l_Source_shown : K.lookup f_Source_shown = some ⟨oc_Source_shown, od_Source_shown, .func (PySem.W.fnOf "shown" "Source.shown" (defArgs s_Source_shown) (defBody s_Source_shown) (defScope s_Source_shown) .none kV_Source_shown dc_Source_shown pm_Source_shown an_Source_shown cd_Source_shown ct_Source_shown), sl_Source_shown⟩)
    (c_Source_shown : PySem.W.codeIn K cd_Source_shown "Source.shown" = true)
    (k_Source_shown : PySem.W.keepIn K (.ref f_Source_shown) = true)
    (a_with_saved : PySem.W.nsIn K mainGlobals "with_saved" = some (some (.ref f_with_saved)))
    (l_with_saved : K.lookup f_with_saved = some ⟨oc_with_saved, od_with_saved, .func (PySem.W.fnOf "with_saved" "with_saved" (defArgs s_with_saved) (defBody s_with_saved) (defScope s_with_saved) .none kV_with_saved dc_with_saved pm_with_saved an_with_saved cd_with_saved ct_with_saved), sl_with_saved⟩)
    (c_with_saved : PySem.W.codeIn K cd_with_saved "with_saved" = true)
    (k_with_saved : PySem.W.keepIn K (.ref f_with_saved) = true)
    (a_Frame_across : PySem.W.findIn K (.ref C_Frame) "across" = some (some (.ref f_Frame_across)))
    (i_Frame_across : PySem.W.isFn K (.ref f_Frame_across) = true)
    (l_Frame_across : K.lookup f_Frame_across = some ⟨oc_Frame_across, od_Frame_across, .func (PySem.W.fnOf "across" "Frame.across" (defArgs s_Frame_across) (defBody s_Frame_across) (defScope s_Frame_across) .none kV_Frame_across dc_Frame_across pm_Frame_across an_Frame_across cd_Frame_across ct_Frame_across), sl_Frame_across⟩)
    (c_Frame_across : PySem.W.codeIn K cd_Frame_across "Frame.across" = true)
    (k_Frame_across : PySem.W.keepIn K (.ref f_Frame_across) = true)
    (a_tile_corner : PySem.W.nsIn K mainGlobals "tile_corner" = some (some (.ref f_tile_corner)))
    (l_tile_corner : K.lookup f_tile_corner = some ⟨oc_tile_corner, od_tile_corner, .func (PySem.W.fnOf "tile_corner" "tile_corner" (defArgs s_tile_corner) (defBody s_tile_corner) (defScope s_tile_corner) .none kV_tile_corner dc_tile_corner pm_tile_corner an_tile_corner cd_tile_corner ct_tile_corner), sl_tile_corner⟩)
    (c_tile_corner : PySem.W.codeIn K cd_tile_corner "tile_corner" = true)
    (k_tile_corner : PySem.W.keepIn K (.ref f_tile_corner) = true)
    (a_tile_size : PySem.W.nsIn K mainGlobals "tile_size" = some (some (.ref f_tile_size)))
    (l_tile_size : K.lookup f_tile_size = some ⟨oc_tile_size, od_tile_size, .func (PySem.W.fnOf "tile_size" "tile_size" (defArgs s_tile_size) (defBody s_tile_size) (defScope s_tile_size) .none kV_tile_size dc_tile_size pm_tile_size an_tile_size cd_tile_size ct_tile_size), sl_tile_size⟩)
    (c_tile_size : PySem.W.codeIn K cd_tile_size "tile_size" = true)
    (k_tile_size : PySem.W.keepIn K (.ref f_tile_size) = true)
    (a_tile_pixels : PySem.W.nsIn K mainGlobals "tile_pixels" = some (some (.ref f_tile_pixels)))
    (l_tile_pixels : K.lookup f_tile_pixels = some ⟨oc_tile_pixels, od_tile_pixels, .func (PySem.W.fnOf "tile_pixels" "tile_pixels" (defArgs s_tile_pixels) (defBody s_tile_pixels) (defScope s_tile_pixels) .none kV_tile_pixels dc_tile_pixels pm_tile_pixels an_tile_pixels cd_tile_pixels ct_tile_pixels), sl_tile_pixels⟩)
    (c_tile_pixels : PySem.W.codeIn K cd_tile_pixels "tile_pixels" = true)
    (k_tile_pixels : PySem.W.keepIn K (.ref f_tile_pixels) = true)
    (a_gray_bit : PySem.W.nsIn K mainGlobals "gray_bit" = some (some (.ref f_gray_bit)))
    (l_gray_bit : K.lookup f_gray_bit = some ⟨oc_gray_bit, od_gray_bit, .func (PySem.W.fnOf "gray_bit" "gray_bit" (defArgs s_gray_bit) (defBody s_gray_bit) (defScope s_gray_bit) .none kV_gray_bit dc_gray_bit pm_gray_bit an_gray_bit cd_gray_bit ct_gray_bit), sl_gray_bit⟩)
    (c_gray_bit : PySem.W.codeIn K cd_gray_bit "gray_bit" = true)
    (k_gray_bit : PySem.W.keepIn K (.ref f_gray_bit) = true)
    (a_Picture_value : PySem.W.findIn K (.ref C_Picture) "value" = some (some (.ref f_Picture_value)))
    (i_Picture_value : PySem.W.isFn K (.ref f_Picture_value) = true)
    (l_Picture_value : K.lookup f_Picture_value = some ⟨oc_Picture_value, od_Picture_value, .func (PySem.W.fnOf "value" "Picture.value" (defArgs s_Picture_value) (defBody s_Picture_value) (defScope s_Picture_value) .none kV_Picture_value dc_Picture_value pm_Picture_value an_Picture_value cd_Picture_value ct_Picture_value), sl_Picture_value⟩)
    (c_Picture_value : PySem.W.codeIn K cd_Picture_value "Picture.value" = true)
    (k_Picture_value : PySem.W.keepIn K (.ref f_Picture_value) = true)
    (a_stored_bit : PySem.W.nsIn K mainGlobals "stored_bit" = some (some (.ref f_stored_bit)))
    (l_stored_bit : K.lookup f_stored_bit = some ⟨oc_stored_bit, od_stored_bit, .func (PySem.W.fnOf "stored_bit" "stored_bit" (defArgs s_stored_bit) (defBody s_stored_bit) (defScope s_stored_bit) .none kV_stored_bit dc_stored_bit pm_stored_bit an_stored_bit cd_stored_bit ct_stored_bit), sl_stored_bit⟩)
    (c_stored_bit : PySem.W.codeIn K cd_stored_bit "stored_bit" = true)
    (k_stored_bit : PySem.W.keepIn K (.ref f_stored_bit) = true)
    (a_check_range : PySem.W.nsIn K mainGlobals "check_range" = some (some (.ref f_check_range)))
    (l_check_range : K.lookup f_check_range = some ⟨oc_check_range, od_check_range, .func (PySem.W.fnOf "check_range" "check_range" (defArgs s_check_range) (defBody s_check_range) (defScope s_check_range) .none kV_check_range dc_check_range pm_check_range an_check_range cd_check_range ct_check_range), sl_check_range⟩)
    (c_check_range : PySem.W.codeIn K cd_check_range "check_range" = true)
    (k_check_range : PySem.W.keepIn K (.ref f_check_range) = true)
    (a_Frame_down : PySem.W.findIn K (.ref C_Frame) "down" = some (some (.ref f_Frame_down)))
    (i_Frame_down : PySem.W.isFn K (.ref f_Frame_down) = true)
    (l_Frame_down : K.lookup f_Frame_down = some ⟨oc_Frame_down, od_Frame_down, .func (PySem.W.fnOf "down" "Frame.down" (defArgs s_Frame_down) (defBody s_Frame_down) (defScope s_Frame_down) .none kV_Frame_down dc_Frame_down pm_Frame_down an_Frame_down cd_Frame_down ct_Frame_down), sl_Frame_down⟩)
    (c_Frame_down : PySem.W.codeIn K cd_Frame_down "Frame.down" = true)
    (k_Frame_down : PySem.W.keepIn K (.ref f_Frame_down) = true)
    (a_Frame_tiles : PySem.W.findIn K (.ref C_Frame) "tiles" = some (some (.ref f_Frame_tiles)))
    (i_Frame_tiles : PySem.W.isFn K (.ref f_Frame_tiles) = true)
    (l_Frame_tiles : K.lookup f_Frame_tiles = some ⟨oc_Frame_tiles, od_Frame_tiles, .func (PySem.W.fnOf "tiles" "Frame.tiles" (defArgs s_Frame_tiles) (defBody s_Frame_tiles) (defScope s_Frame_tiles) .none kV_Frame_tiles dc_Frame_tiles pm_Frame_tiles an_Frame_tiles cd_Frame_tiles ct_Frame_tiles), sl_Frame_tiles⟩)
    (c_Frame_tiles : PySem.W.codeIn K cd_Frame_tiles "Frame.tiles" = true)
    (k_Frame_tiles : PySem.W.keepIn K (.ref f_Frame_tiles) = true)
    (a_check_key : PySem.W.nsIn K mainGlobals "check_key" = some (some (.ref f_check_key)))
    (l_check_key : K.lookup f_check_key = some ⟨oc_check_key, od_check_key, .func (PySem.W.fnOf "check_key" "check_key" (defArgs s_check_key) (defBody s_check_key) (defScope s_check_key) .none kV_check_key dc_check_key pm_check_key an_check_key cd_check_key ct_check_key), sl_check_key⟩)
    (c_check_key : PySem.W.codeIn K cd_check_key "check_key" = true)
    (k_check_key : PySem.W.keepIn K (.ref f_check_key) = true)
    (a_same_kind : PySem.W.nsIn K mainGlobals "same_kind" = some (some (.ref f_same_kind)))
    (l_same_kind : K.lookup f_same_kind = some ⟨oc_same_kind, od_same_kind, .func (PySem.W.fnOf "same_kind" "same_kind" (defArgs s_same_kind) (defBody s_same_kind) (defScope s_same_kind) .none kV_same_kind dc_same_kind pm_same_kind an_same_kind cd_same_kind ct_same_kind), sl_same_kind⟩)
    (c_same_kind : PySem.W.codeIn K cd_same_kind "same_kind" = true)
    (k_same_kind : PySem.W.keepIn K (.ref f_same_kind) = true)
    (a_fits_frame : PySem.W.nsIn K mainGlobals "fits_frame" = some (some (.ref f_fits_frame)))
    (l_fits_frame : K.lookup f_fits_frame = some ⟨oc_fits_frame, od_fits_frame, .func (PySem.W.fnOf "fits_frame" "fits_frame" (defArgs s_fits_frame) (defBody s_fits_frame) (defScope s_fits_frame) .none kV_fits_frame dc_fits_frame pm_fits_frame an_fits_frame cd_fits_frame ct_fits_frame), sl_fits_frame⟩)
    (c_fits_frame : PySem.W.codeIn K cd_fits_frame "fits_frame" = true)
    (k_fits_frame : PySem.W.keepIn K (.ref f_fits_frame) = true)
    (a_check_fits : PySem.W.nsIn K mainGlobals "check_fits" = some (some (.ref f_check_fits)))
    (l_check_fits : K.lookup f_check_fits = some ⟨oc_check_fits, od_check_fits, .func (PySem.W.fnOf "check_fits" "check_fits" (defArgs s_check_fits) (defBody s_check_fits) (defScope s_check_fits) .none kV_check_fits dc_check_fits pm_check_fits an_check_fits cd_check_fits ct_check_fits), sl_check_fits⟩)
    (c_check_fits : PySem.W.codeIn K cd_check_fits "check_fits" = true)
    (k_check_fits : PySem.W.keepIn K (.ref f_check_fits) = true)
    (a_packet_bits : PySem.W.nsIn K mainGlobals "packet_bits" = some (some (.ref f_packet_bits)))
    (l_packet_bits : K.lookup f_packet_bits = some ⟨oc_packet_bits, od_packet_bits, .func (PySem.W.fnOf "packet_bits" "packet_bits" (defArgs s_packet_bits) (defBody s_packet_bits) (defScope s_packet_bits) .none kV_packet_bits dc_packet_bits pm_packet_bits an_packet_bits cd_packet_bits ct_packet_bits), sl_packet_bits⟩)
    (c_packet_bits : PySem.W.codeIn K cd_packet_bits "packet_bits" = true)
    (k_packet_bits : PySem.W.keepIn K (.ref f_packet_bits) = true)
    (a_Frame_packets : PySem.W.findIn K (.ref C_Frame) "packets" = some (some (.ref f_Frame_packets)))
    (i_Frame_packets : PySem.W.isFn K (.ref f_Frame_packets) = true)
    (l_Frame_packets : K.lookup f_Frame_packets = some ⟨oc_Frame_packets, od_Frame_packets, .func (PySem.W.fnOf "packets" "Frame.packets" (defArgs s_Frame_packets) (defBody s_Frame_packets) (defScope s_Frame_packets) .none kV_Frame_packets dc_Frame_packets pm_Frame_packets an_Frame_packets cd_Frame_packets ct_Frame_packets), sl_Frame_packets⟩)
    (c_Frame_packets : PySem.W.codeIn K cd_Frame_packets "Frame.packets" = true)
    (k_Frame_packets : PySem.W.keepIn K (.ref f_Frame_packets) = true)
    (a_key_at : PySem.W.nsIn K mainGlobals "key_at" = some (some (.ref f_key_at)))
    (l_key_at : K.lookup f_key_at = some ⟨oc_key_at, od_key_at, .func (PySem.W.fnOf "key_at" "key_at" (defArgs s_key_at) (defBody s_key_at) (defScope s_key_at) .none kV_key_at dc_key_at pm_key_at an_key_at cd_key_at ct_key_at), sl_key_at⟩)
    (c_key_at : PySem.W.codeIn K cd_key_at "key_at" = true)
    (k_key_at : PySem.W.keepIn K (.ref f_key_at) = true)
    (a_all_keys : PySem.W.nsIn K mainGlobals "all_keys" = some (some (.ref f_all_keys)))
    (l_all_keys : K.lookup f_all_keys = some ⟨oc_all_keys, od_all_keys, .func (PySem.W.fnOf "all_keys" "all_keys" (defArgs s_all_keys) (defBody s_all_keys) (defScope s_all_keys) .none kV_all_keys dc_all_keys pm_all_keys an_all_keys cd_all_keys ct_all_keys), sl_all_keys⟩)
    (c_all_keys : PySem.W.codeIn K cd_all_keys "all_keys" = true)
    (k_all_keys : PySem.W.keepIn K (.ref f_all_keys) = true)
    (a_changed : PySem.W.nsIn K mainGlobals "changed" = some (some (.ref f_changed)))
    (l_changed : K.lookup f_changed = some ⟨oc_changed, od_changed, .func (PySem.W.fnOf "changed" "changed" (defArgs s_changed) (defBody s_changed) (defScope s_changed) .none kV_changed dc_changed pm_changed an_changed cd_changed ct_changed), sl_changed⟩)
    (c_changed : PySem.W.codeIn K cd_changed "changed" = true)
    (k_changed : PySem.W.keepIn K (.ref f_changed) = true)
    (a_Source__become : PySem.W.findIn K (.ref C_Source) "_become" = some (some (.ref f_Source__become)))
    (i_Source__become : PySem.W.isFn K (.ref f_Source__become) = true)
    (l_Source__become : K.lookup f_Source__become = some ⟨oc_Source__become, od_Source__become, .func (PySem.W.fnOf "_become" "Source._become" (defArgs s_Source__become) (defBody s_Source__become) (defScope s_Source__become) .none kV_Source__become dc_Source__become pm_Source__become an_Source__become cd_Source__become ct_Source__become), sl_Source__become⟩)
    (c_Source__become : PySem.W.codeIn K cd_Source__become "Source._become" = true)
    (k_Source__become : PySem.W.keepIn K (.ref f_Source__become) = true)
    (a_check_values : PySem.W.nsIn K mainGlobals "check_values" = some (some (.ref f_check_values)))
    (l_check_values : K.lookup f_check_values = some ⟨oc_check_values, od_check_values, .func (PySem.W.fnOf "check_values" "check_values" (defArgs s_check_values) (defBody s_check_values) (defScope s_check_values) .none kV_check_values dc_check_values pm_check_values an_check_values cd_check_values ct_check_values), sl_check_values⟩)
    (c_check_values : PySem.W.codeIn K cd_check_values "check_values" = true)
    (k_check_values : PySem.W.keepIn K (.ref f_check_values) = true)
    (a_check_size : PySem.W.nsIn K mainGlobals "check_size" = some (some (.ref f_check_size)))
    (l_check_size : K.lookup f_check_size = some ⟨oc_check_size, od_check_size, .func (PySem.W.fnOf "check_size" "check_size" (defArgs s_check_size) (defBody s_check_size) (defScope s_check_size) .none kV_check_size dc_check_size pm_check_size an_check_size cd_check_size ct_check_size), sl_check_size⟩)
    (c_check_size : PySem.W.codeIn K cd_check_size "check_size" = true)
    (k_check_size : PySem.W.keepIn K (.ref f_check_size) = true)
    (a_check_kind : PySem.W.nsIn K mainGlobals "check_kind" = some (some (.ref f_check_kind)))
    (l_check_kind : K.lookup f_check_kind = some ⟨oc_check_kind, od_check_kind, .func (PySem.W.fnOf "check_kind" "check_kind" (defArgs s_check_kind) (defBody s_check_kind) (defScope s_check_kind) .none kV_check_kind dc_check_kind pm_check_kind an_check_kind cd_check_kind ct_check_kind), sl_check_kind⟩)
    (c_check_kind : PySem.W.codeIn K cd_check_kind "check_kind" = true)
    (k_check_kind : PySem.W.keepIn K (.ref f_check_kind) = true)
    (a_Picture___init__ : PySem.W.findIn K (.ref C_Picture) "__init__" = some (some (.ref f_Picture___init__)))
    (i_Picture___init__ : PySem.W.isFn K (.ref f_Picture___init__) = true)
    (l_Picture___init__ : K.lookup f_Picture___init__ = some ⟨oc_Picture___init__, od_Picture___init__, .func (PySem.W.fnOf "__init__" "Picture.__init__" (defArgs s_Picture___init__) (defBody s_Picture___init__) (defScope s_Picture___init__) .none kV_Picture___init__ dc_Picture___init__ pm_Picture___init__ an_Picture___init__ cd_Picture___init__ ct_Picture___init__), sl_Picture___init__⟩)
    (c_Picture___init__ : PySem.W.codeIn K cd_Picture___init__ "Picture.__init__" = true)
    (k_Picture___init__ : PySem.W.keepIn K (.ref f_Picture___init__) = true)
    (a_crop_pixels : PySem.W.nsIn K mainGlobals "crop_pixels" = some (some (.ref f_crop_pixels)))
    (l_crop_pixels : K.lookup f_crop_pixels = some ⟨oc_crop_pixels, od_crop_pixels, .func (PySem.W.fnOf "crop_pixels" "crop_pixels" (defArgs s_crop_pixels) (defBody s_crop_pixels) (defScope s_crop_pixels) .none kV_crop_pixels dc_crop_pixels pm_crop_pixels an_crop_pixels cd_crop_pixels ct_crop_pixels), sl_crop_pixels⟩)
    (c_crop_pixels : PySem.W.codeIn K cd_crop_pixels "crop_pixels" = true)
    (k_crop_pixels : PySem.W.keepIn K (.ref f_crop_pixels) = true)
    (a_Frame___init__ : PySem.W.findIn K (.ref C_Frame) "__init__" = some (some (.ref f_Frame___init__)))
    (i_Frame___init__ : PySem.W.isFn K (.ref f_Frame___init__) = true)
    (l_Frame___init__ : K.lookup f_Frame___init__ = some ⟨oc_Frame___init__, od_Frame___init__, .func (PySem.W.fnOf "__init__" "Frame.__init__" (defArgs s_Frame___init__) (defBody s_Frame___init__) (defScope s_Frame___init__) .none kV_Frame___init__ dc_Frame___init__ pm_Frame___init__ an_Frame___init__ cd_Frame___init__ ct_Frame___init__), sl_Frame___init__⟩)
    (c_Frame___init__ : PySem.W.codeIn K cd_Frame___init__ "Frame.__init__" = true)
    (k_Frame___init__ : PySem.W.keepIn K (.ref f_Frame___init__) = true)
    (a_check_sides : PySem.W.nsIn K mainGlobals "check_sides" = some (some (.ref f_check_sides)))
    (l_check_sides : K.lookup f_check_sides = some ⟨oc_check_sides, od_check_sides, .func (PySem.W.fnOf "check_sides" "check_sides" (defArgs s_check_sides) (defBody s_check_sides) (defScope s_check_sides) .none kV_check_sides dc_check_sides pm_check_sides an_check_sides cd_check_sides ct_check_sides), sl_check_sides⟩)
    (c_check_sides : PySem.W.codeIn K cd_check_sides "check_sides" = true)
    (k_check_sides : PySem.W.keepIn K (.ref f_check_sides) = true)
    (a_check_rectangle : PySem.W.nsIn K mainGlobals "check_rectangle" = some (some (.ref f_check_rectangle)))
    (l_check_rectangle : K.lookup f_check_rectangle = some ⟨oc_check_rectangle, od_check_rectangle, .func (PySem.W.fnOf "check_rectangle" "check_rectangle" (defArgs s_check_rectangle) (defBody s_check_rectangle) (defScope s_check_rectangle) .none kV_check_rectangle dc_check_rectangle pm_check_rectangle an_check_rectangle cd_check_rectangle ct_check_rectangle), sl_check_rectangle⟩)
    (c_check_rectangle : PySem.W.codeIn K cd_check_rectangle "check_rectangle" = true)
    (k_check_rectangle : PySem.W.keepIn K (.ref f_check_rectangle) = true)
    (a_check_tiles : PySem.W.nsIn K mainGlobals "check_tiles" = some (some (.ref f_check_tiles)))
    (l_check_tiles : K.lookup f_check_tiles = some ⟨oc_check_tiles, od_check_tiles, .func (PySem.W.fnOf "check_tiles" "check_tiles" (defArgs s_check_tiles) (defBody s_check_tiles) (defScope s_check_tiles) .none kV_check_tiles dc_check_tiles pm_check_tiles an_check_tiles cd_check_tiles ct_check_tiles), sl_check_tiles⟩)
    (c_check_tiles : PySem.W.codeIn K cd_check_tiles "check_tiles" = true)
    (k_check_tiles : PySem.W.keepIn K (.ref f_check_tiles) = true)
    (a_crop_frame : PySem.W.nsIn K mainGlobals "crop_frame" = some (some (.ref f_crop_frame)))
    (l_crop_frame : K.lookup f_crop_frame = some ⟨oc_crop_frame, od_crop_frame, .func (PySem.W.fnOf "crop_frame" "crop_frame" (defArgs s_crop_frame) (defBody s_crop_frame) (defScope s_crop_frame) .none kV_crop_frame dc_crop_frame pm_crop_frame an_crop_frame cd_crop_frame ct_crop_frame), sl_crop_frame⟩)
    (c_crop_frame : PySem.W.codeIn K cd_crop_frame "crop_frame" = true)
    (k_crop_frame : PySem.W.keepIn K (.ref f_crop_frame) = true)
    (a_paste_crops : PySem.W.nsIn K mainGlobals "paste_crops" = some (some (.ref f_paste_crops)))
    (l_paste_crops : K.lookup f_paste_crops = some ⟨oc_paste_crops, od_paste_crops, .func (PySem.W.fnOf "paste" "paste" (defArgs s_paste_crops) (defBody s_paste_crops) (defScope s_paste_crops) .none kV_paste_crops dc_paste_crops pm_paste_crops an_paste_crops cd_paste_crops ct_paste_crops), sl_paste_crops⟩)
    (c_paste_crops : PySem.W.codeIn K cd_paste_crops "paste" = true)
    (k_paste_crops : PySem.W.keepIn K (.ref f_paste_crops) = true)
    (a_Source_paste : PySem.W.findIn K (.ref C_Source) "paste" = some (some (.ref f_Source_paste)))
    (i_Source_paste : PySem.W.isFn K (.ref f_Source_paste) = true)
    (l_Source_paste : K.lookup f_Source_paste = some ⟨oc_Source_paste, od_Source_paste, .func (PySem.W.fnOf "paste" "Source.paste" (defArgs s_Source_paste) (defBody s_Source_paste) (defScope s_Source_paste) .none kV_Source_paste dc_Source_paste pm_Source_paste an_Source_paste cd_Source_paste ct_Source_paste), sl_Source_paste⟩)
    (c_Source_paste : PySem.W.codeIn K cd_Source_paste "Source.paste" = true)
    (k_Source_paste : PySem.W.keepIn K (.ref f_Source_paste) = true)
    (a_Picture_with_value : PySem.W.findIn K (.ref C_Picture) "with_value" = some (some (.ref f_Picture_with_value)))
    (i_Picture_with_value : PySem.W.isFn K (.ref f_Picture_with_value) = true)
    (l_Picture_with_value : K.lookup f_Picture_with_value = some ⟨oc_Picture_with_value, od_Picture_with_value, .func (PySem.W.fnOf "with_value" "Picture.with_value" (defArgs s_Picture_with_value) (defBody s_Picture_with_value) (defScope s_Picture_with_value) .none kV_Picture_with_value dc_Picture_with_value pm_Picture_with_value an_Picture_with_value cd_Picture_with_value ct_Picture_with_value), sl_Picture_with_value⟩)
    (c_Picture_with_value : PySem.W.codeIn K cd_Picture_with_value "Picture.with_value" = true)
    (k_Picture_with_value : PySem.W.keepIn K (.ref f_Picture_with_value) = true)
    (a_Source_change : PySem.W.findIn K (.ref C_Source) "change" = some (some (.ref f_Source_change)))
    (i_Source_change : PySem.W.isFn K (.ref f_Source_change) = true)
    (l_Source_change : K.lookup f_Source_change = some ⟨oc_Source_change, od_Source_change, .func (PySem.W.fnOf "change" "Source.change" (defArgs s_Source_change) (defBody s_Source_change) (defScope s_Source_change) .none kV_Source_change dc_Source_change pm_Source_change an_Source_change cd_Source_change ct_Source_change), sl_Source_change⟩)
    (c_Source_change : PySem.W.codeIn K cd_Source_change "Source.change" = true)
    (k_Source_change : PySem.W.keepIn K (.ref f_Source_change) = true)
    (a_law_ask_raw : PySem.W.nsIn K mainGlobals "_law_ask_raw" = some (some (.ref f_law_ask_raw)))
    (l_law_ask_raw : K.lookup f_law_ask_raw = some ⟨oc_law_ask_raw, od_law_ask_raw, .func (PySem.W.fnOf "_law_ask_raw" "_law_ask_raw" (defArgs s_law_ask_raw) (defBody s_law_ask_raw) (defScope s_law_ask_raw) .none kV_law_ask_raw dc_law_ask_raw pm_law_ask_raw an_law_ask_raw cd_law_ask_raw ct_law_ask_raw), sl_law_ask_raw⟩)
    (c_law_ask_raw : PySem.W.codeIn K cd_law_ask_raw "_law_ask_raw" = true)
    (k_law_ask_raw : PySem.W.keepIn K (.ref f_law_ask_raw) = true)
    (a_law_ask : PySem.W.nsIn K mainGlobals "_law_ask" = some (some (.ref f_law_ask)))
    (l_law_ask : K.lookup f_law_ask = some ⟨oc_law_ask, od_law_ask, .func (PySem.W.fnOf "_law_ask" "_law_ask" (defArgs s_law_ask) (defBody s_law_ask) (defScope s_law_ask) .none kV_law_ask dc_law_ask pm_law_ask an_law_ask cd_law_ask ct_law_ask), sl_law_ask⟩)
    (c_law_ask : PySem.W.codeIn K cd_law_ask "_law_ask" = true)
    (k_law_ask : PySem.W.keepIn K (.ref f_law_ask) = true)
    (a_law_gray : PySem.W.nsIn K mainGlobals "_law_gray" = some (some (.ref f_law_gray)))
    (l_law_gray : K.lookup f_law_gray = some ⟨oc_law_gray, od_law_gray, .func (PySem.W.fnOf "_law_gray" "_law_gray" (defArgs s_law_gray) (defBody s_law_gray) (defScope s_law_gray) .none kV_law_gray dc_law_gray pm_law_gray an_law_gray cd_law_gray ct_law_gray), sl_law_gray⟩)
    (c_law_gray : PySem.W.codeIn K cd_law_gray "_law_gray" = true)
    (k_law_gray : PySem.W.keepIn K (.ref f_law_gray) = true)
    (a_law_stored : PySem.W.nsIn K mainGlobals "_law_stored" = some (some (.ref f_law_stored)))
    (l_law_stored : K.lookup f_law_stored = some ⟨oc_law_stored, od_law_stored, .func (PySem.W.fnOf "_law_stored" "_law_stored" (defArgs s_law_stored) (defBody s_law_stored) (defScope s_law_stored) .none kV_law_stored dc_law_stored pm_law_stored an_law_stored cd_law_stored ct_law_stored), sl_law_stored⟩)
    (c_law_stored : PySem.W.codeIn K cd_law_stored "_law_stored" = true)
    (k_law_stored : PySem.W.keepIn K (.ref f_law_stored) = true)
    (a_law_tile : PySem.W.nsIn K mainGlobals "_law_tile" = some (some (.ref f_law_tile)))
    (l_law_tile : K.lookup f_law_tile = some ⟨oc_law_tile, od_law_tile, .func (PySem.W.fnOf "_law_tile" "_law_tile" (defArgs s_law_tile) (defBody s_law_tile) (defScope s_law_tile) .none kV_law_tile dc_law_tile pm_law_tile an_law_tile cd_law_tile ct_law_tile), sl_law_tile⟩)
    (c_law_tile : PySem.W.codeIn K cd_law_tile "_law_tile" = true)
    (k_law_tile : PySem.W.keepIn K (.ref f_law_tile) = true)
    (a_law_pixels : PySem.W.nsIn K mainGlobals "_law_pixels" = some (some (.ref f_law_pixels)))
    (l_law_pixels : K.lookup f_law_pixels = some ⟨oc_law_pixels, od_law_pixels, .func (PySem.W.fnOf "_law_pixels" "_law_pixels" (defArgs s_law_pixels) (defBody s_law_pixels) (defScope s_law_pixels) .none kV_law_pixels dc_law_pixels pm_law_pixels an_law_pixels cd_law_pixels ct_law_pixels), sl_law_pixels⟩)
    (c_law_pixels : PySem.W.codeIn K cd_law_pixels "_law_pixels" = true)
    (k_law_pixels : PySem.W.keepIn K (.ref f_law_pixels) = true)
    (a_law_packet : PySem.W.nsIn K mainGlobals "_law_packet" = some (some (.ref f_law_packet)))
    (l_law_packet : K.lookup f_law_packet = some ⟨oc_law_packet, od_law_packet, .func (PySem.W.fnOf "_law_packet" "_law_packet" (defArgs s_law_packet) (defBody s_law_packet) (defScope s_law_packet) .none kV_law_packet dc_law_packet pm_law_packet an_law_packet cd_law_packet ct_law_packet), sl_law_packet⟩)
    (c_law_packet : PySem.W.codeIn K cd_law_packet "_law_packet" = true)
    (k_law_packet : PySem.W.keepIn K (.ref f_law_packet) = true)
    (a_law_tiles : PySem.W.nsIn K mainGlobals "_law_tiles" = some (some (.ref f_law_tiles)))
    (l_law_tiles : K.lookup f_law_tiles = some ⟨oc_law_tiles, od_law_tiles, .func (PySem.W.fnOf "_law_tiles" "_law_tiles" (defArgs s_law_tiles) (defBody s_law_tiles) (defScope s_law_tiles) .none kV_law_tiles dc_law_tiles pm_law_tiles an_law_tiles cd_law_tiles ct_law_tiles), sl_law_tiles⟩)
    (c_law_tiles : PySem.W.codeIn K cd_law_tiles "_law_tiles" = true)
    (k_law_tiles : PySem.W.keepIn K (.ref f_law_tiles) = true)
    (a_law_keys : PySem.W.nsIn K mainGlobals "_law_keys" = some (some (.ref f_law_keys)))
    (l_law_keys : K.lookup f_law_keys = some ⟨oc_law_keys, od_law_keys, .func (PySem.W.fnOf "_law_keys" "_law_keys" (defArgs s_law_keys) (defBody s_law_keys) (defScope s_law_keys) .none kV_law_keys dc_law_keys pm_law_keys an_law_keys cd_law_keys ct_law_keys), sl_law_keys⟩)
    (c_law_keys : PySem.W.codeIn K cd_law_keys "_law_keys" = true)
    (k_law_keys : PySem.W.keepIn K (.ref f_law_keys) = true)
    (a_law_changed : PySem.W.nsIn K mainGlobals "_law_changed" = some (some (.ref f_law_changed)))
    (l_law_changed : K.lookup f_law_changed = some ⟨oc_law_changed, od_law_changed, .func (PySem.W.fnOf "_law_changed" "_law_changed" (defArgs s_law_changed) (defBody s_law_changed) (defScope s_law_changed) .none kV_law_changed dc_law_changed pm_law_changed an_law_changed cd_law_changed ct_law_changed), sl_law_changed⟩)
    (c_law_changed : PySem.W.codeIn K cd_law_changed "_law_changed" = true)
    (k_law_changed : PySem.W.keepIn K (.ref f_law_changed) = true)
    (a_law_draw : PySem.W.nsIn K mainGlobals "_law_draw" = some (some (.ref f_law_draw)))
    (l_law_draw : K.lookup f_law_draw = some ⟨oc_law_draw, od_law_draw, .func (PySem.W.fnOf "_law_draw" "_law_draw" (defArgs s_law_draw) (defBody s_law_draw) (defScope s_law_draw) .none kV_law_draw dc_law_draw pm_law_draw an_law_draw cd_law_draw ct_law_draw), sl_law_draw⟩)
    (c_law_draw : PySem.W.codeIn K cd_law_draw "_law_draw" = true)
    (k_law_draw : PySem.W.keepIn K (.ref f_law_draw) = true)
    (a_law_change : PySem.W.nsIn K mainGlobals "_law_change" = some (some (.ref f_law_change)))
    (l_law_change : K.lookup f_law_change = some ⟨oc_law_change, od_law_change, .func (PySem.W.fnOf "_law_change" "_law_change" (defArgs s_law_change) (defBody s_law_change) (defScope s_law_change) .none kV_law_change dc_law_change pm_law_change an_law_change cd_law_change ct_law_change), sl_law_change⟩)
    (c_law_change : PySem.W.codeIn K cd_law_change "_law_change" = true)
    (k_law_change : PySem.W.keepIn K (.ref f_law_change) = true)
    (a_law_picture : PySem.W.nsIn K mainGlobals "_law_picture" = some (some (.ref f_law_picture)))
    (l_law_picture : K.lookup f_law_picture = some ⟨oc_law_picture, od_law_picture, .func (PySem.W.fnOf "_law_picture" "_law_picture" (defArgs s_law_picture) (defBody s_law_picture) (defScope s_law_picture) .none kV_law_picture dc_law_picture pm_law_picture an_law_picture cd_law_picture ct_law_picture), sl_law_picture⟩)
    (c_law_picture : PySem.W.codeIn K cd_law_picture "_law_picture" = true)
    (k_law_picture : PySem.W.keepIn K (.ref f_law_picture) = true)
    (a_law_rows : PySem.W.nsIn K mainGlobals "_law_rows" = some (some (.ref f_law_rows)))
    (l_law_rows : K.lookup f_law_rows = some ⟨oc_law_rows, od_law_rows, .func (PySem.W.fnOf "_law_rows" "_law_rows" (defArgs s_law_rows) (defBody s_law_rows) (defScope s_law_rows) .none kV_law_rows dc_law_rows pm_law_rows an_law_rows cd_law_rows ct_law_rows), sl_law_rows⟩)
    (c_law_rows : PySem.W.codeIn K cd_law_rows "_law_rows" = true)
    (k_law_rows : PySem.W.keepIn K (.ref f_law_rows) = true)
    (a_law_paste : PySem.W.nsIn K mainGlobals "_law_paste" = some (some (.ref f_law_paste)))
    (l_law_paste : K.lookup f_law_paste = some ⟨oc_law_paste, od_law_paste, .func (PySem.W.fnOf "_law_paste" "_law_paste" (defArgs s_law_paste) (defBody s_law_paste) (defScope s_law_paste) .none kV_law_paste dc_law_paste pm_law_paste an_law_paste cd_law_paste ct_law_paste), sl_law_paste⟩)
    (c_law_paste : PySem.W.codeIn K cd_law_paste "_law_paste" = true)
    (k_law_paste : PySem.W.keepIn K (.ref f_law_paste) = true)
    (a_law_flag : PySem.W.nsIn K mainGlobals "_law_flag" = some (some (.ref f_law_flag)))
    (l_law_flag : K.lookup f_law_flag = some ⟨oc_law_flag, od_law_flag, .func (PySem.W.fnOf "_law_flag" "_law_flag" (defArgs s_law_flag) (defBody s_law_flag) (defScope s_law_flag) .none kV_law_flag dc_law_flag pm_law_flag an_law_flag cd_law_flag ct_law_flag), sl_law_flag⟩)
    (c_law_flag : PySem.W.codeIn K cd_law_flag "_law_flag" = true)
    (k_law_flag : PySem.W.keepIn K (.ref f_law_flag) = true)
    (a_Source_undo : PySem.W.findIn K (.ref C_Source) "undo" = some (some (.ref f_Source_undo)))
    (i_Source_undo : PySem.W.isFn K (.ref f_Source_undo) = true)
    (l_Source_undo : K.lookup f_Source_undo = some ⟨oc_Source_undo, od_Source_undo, .func (PySem.W.fnOf "undo" "Source.undo" (defArgs s_Source_undo) (defBody s_Source_undo) (defScope s_Source_undo) .none kV_Source_undo dc_Source_undo pm_Source_undo an_Source_undo cd_Source_undo ct_Source_undo), sl_Source_undo⟩)
    (c_Source_undo : PySem.W.codeIn K cd_Source_undo "Source.undo" = true)
    (k_Source_undo : PySem.W.keepIn K (.ref f_Source_undo) = true)
    (a_Picture_framed : PySem.W.findIn K (.ref C_Picture) "framed" = some (some (.ref f_Picture_framed)))
    (i_Picture_framed : PySem.W.isFn K (.ref f_Picture_framed) = true)
    (l_Picture_framed : K.lookup f_Picture_framed = some ⟨oc_Picture_framed, od_Picture_framed, .func (PySem.W.fnOf "framed" "Picture.framed" (defArgs s_Picture_framed) (defBody s_Picture_framed) (defScope s_Picture_framed) .none kV_Picture_framed dc_Picture_framed pm_Picture_framed an_Picture_framed cd_Picture_framed ct_Picture_framed), sl_Picture_framed⟩)
    (c_Picture_framed : PySem.W.codeIn K cd_Picture_framed "Picture.framed" = true)
    (k_Picture_framed : PySem.W.keepIn K (.ref f_Picture_framed) = true)
    (a_Source___init__ : PySem.W.findIn K (.ref C_Source) "__init__" = some (some (.ref f_Source___init__)))
    (i_Source___init__ : PySem.W.isFn K (.ref f_Source___init__) = true)
    (l_Source___init__ : K.lookup f_Source___init__ = some ⟨oc_Source___init__, od_Source___init__, .func (PySem.W.fnOf "__init__" "Source.__init__" (defArgs s_Source___init__) (defBody s_Source___init__) (defScope s_Source___init__) .none kV_Source___init__ dc_Source___init__ pm_Source___init__ an_Source___init__ cd_Source___init__ ct_Source___init__), sl_Source___init__⟩)
    (c_Source___init__ : PySem.W.codeIn K cd_Source___init__ "Source.__init__" = true)
    (k_Source___init__ : PySem.W.keepIn K (.ref f_Source___init__) = true)
    (a_law_shape : PySem.W.nsIn K mainGlobals "_law_shape" = some (some (.ref f_law_shape)))
    (l_law_shape : K.lookup f_law_shape = some ⟨oc_law_shape, od_law_shape, .func (PySem.W.fnOf "_law_shape" "_law_shape" (defArgs s_law_shape) (defBody s_law_shape) (defScope s_law_shape) .none kV_law_shape dc_law_shape pm_law_shape an_law_shape cd_law_shape ct_law_shape), sl_law_shape⟩)
    (c_law_shape : PySem.W.codeIn K cd_law_shape "_law_shape" = true)
    (k_law_shape : PySem.W.keepIn K (.ref f_law_shape) = true)
    (a_law_cell : PySem.W.nsIn K mainGlobals "_law_cell" = some (some (.ref f_law_cell)))
    (l_law_cell : K.lookup f_law_cell = some ⟨oc_law_cell, od_law_cell, .func (PySem.W.fnOf "_law_cell" "_law_cell" (defArgs s_law_cell) (defBody s_law_cell) (defScope s_law_cell) .none kV_law_cell dc_law_cell pm_law_cell an_law_cell cd_law_cell ct_law_cell), sl_law_cell⟩)
    (c_law_cell : PySem.W.codeIn K cd_law_cell "_law_cell" = true)
    (k_law_cell : PySem.W.keepIn K (.ref f_law_cell) = true)
    (a_law_digits : PySem.W.nsIn K mainGlobals "_law_digits" = some (some (.ref f_law_digits)))
    (l_law_digits : K.lookup f_law_digits = some ⟨oc_law_digits, od_law_digits, .func (PySem.W.fnOf "_law_digits" "_law_digits" (defArgs s_law_digits) (defBody s_law_digits) (defScope s_law_digits) .none kV_law_digits dc_law_digits pm_law_digits an_law_digits cd_law_digits ct_law_digits), sl_law_digits⟩)
    (c_law_digits : PySem.W.codeIn K cd_law_digits "_law_digits" = true)
    (k_law_digits : PySem.W.keepIn K (.ref f_law_digits) = true)
    (a_law : PySem.W.nsIn K mainGlobals "law" = some (some (.ref f_law)))
    (l_law : K.lookup f_law = some ⟨oc_law, od_law, .func (PySem.W.fnOf "law" "law" (defArgs s_law) (defBody s_law) (defScope s_law) .none kV_law dc_law pm_law an_law cd_law ct_law), sl_law⟩)
    (c_law : PySem.W.codeIn K cd_law "law" = true)
    (k_law : PySem.W.keepIn K (.ref f_law) = true)
    (n_bool : PySem.W.nsIn K mainGlobals "bool" = some none)
    (n_divmod : PySem.W.nsIn K mainGlobals "divmod" = some none)
    (n_enumerate : PySem.W.nsIn K mainGlobals "enumerate" = some none)
    (n_int : PySem.W.nsIn K mainGlobals "int" = some none)
    (n_isinstance : PySem.W.nsIn K mainGlobals "isinstance" = some none)
    (n_len : PySem.W.nsIn K mainGlobals "len" = some none)
    (n_list : PySem.W.nsIn K mainGlobals "list" = some none)
    (n_max : PySem.W.nsIn K mainGlobals "max" = some none)
    (n_min : PySem.W.nsIn K mainGlobals "min" = some none)
    (n_range : PySem.W.nsIn K mainGlobals "range" = some none)
    (n_str : PySem.W.nsIn K mainGlobals "str" = some none)
    (c_DEPTH_MOST : PySem.W.nsIn K mainGlobals "DEPTH_MOST" = some (some (.int 8 t_DEPTH_MOST)))
    (c_SIDE_MOST : PySem.W.nsIn K mainGlobals "SIDE_MOST" = some (some (.int 64 t_SIDE_MOST)))
    (c_TILE_MOST : PySem.W.nsIn K mainGlobals "TILE_MOST" = some (some (.int 16 t_TILE_MOST)))
    (c_UNDO_MOST : PySem.W.nsIn K mainGlobals "UNDO_MOST" = some (some (.int 16 t_UNDO_MOST)))
    (c_VALUES_MOST : PySem.W.nsIn K mainGlobals "VALUES_MOST" = some (some (.int 3072 t_VALUES_MOST))) :
    ∃ fd : FuncData, (∀ (s : Shared) (v : Value), BindsTo s fd ⟨[v], []⟩ [("script", v)]) ∧ ∀ base : Heap, K.In base → base.Ns mainGlobals mg → FnOk l.prog w K mg base CX0 13 fa fd ["script"] (spLaw K) := by
  have e := hfa.symm.trans (PySem.W.mg_of X G a_law)
  cases e
  have F_Picture_rows := fun_mk (st := s_Picture_rows) l_Picture_rows c_Picture_rows k_Picture_rows
  have F_law_same_rows := fun_mk (st := s_law_same_rows) l_law_same_rows c_law_same_rows k_law_same_rows
  have F_Source_shown := fun_mk (st := s_Source_shown) l_Source_shown c_Source_shown k_Source_shown
  have F_with_saved := fun_mk (st := s_with_saved) l_with_saved c_with_saved k_with_saved
  have F_Frame_across := fun_mk (st := s_Frame_across) l_Frame_across c_Frame_across k_Frame_across
  have F_tile_corner := fun_mk (st := s_tile_corner) l_tile_corner c_tile_corner k_tile_corner
  have F_tile_size := fun_mk (st := s_tile_size) l_tile_size c_tile_size k_tile_size
  have F_tile_pixels := fun_mk (st := s_tile_pixels) l_tile_pixels c_tile_pixels k_tile_pixels
  have F_gray_bit := fun_mk (st := s_gray_bit) l_gray_bit c_gray_bit k_gray_bit
  have F_Picture_value := fun_mk (st := s_Picture_value) l_Picture_value c_Picture_value k_Picture_value
  have F_stored_bit := fun_mk (st := s_stored_bit) l_stored_bit c_stored_bit k_stored_bit
  have F_check_range := fun_mk (st := s_check_range) l_check_range c_check_range k_check_range
  have F_Frame_down := fun_mk (st := s_Frame_down) l_Frame_down c_Frame_down k_Frame_down
  have F_Frame_tiles := fun_mk (st := s_Frame_tiles) l_Frame_tiles c_Frame_tiles k_Frame_tiles
  have F_check_key := fun_mk (st := s_check_key) l_check_key c_check_key k_check_key
  have F_same_kind := fun_mk (st := s_same_kind) l_same_kind c_same_kind k_same_kind
  have F_fits_frame := fun_mk (st := s_fits_frame) l_fits_frame c_fits_frame k_fits_frame
  have F_check_fits := fun_mk (st := s_check_fits) l_check_fits c_check_fits k_check_fits
  have F_packet_bits := fun_mk (st := s_packet_bits) l_packet_bits c_packet_bits k_packet_bits
  have F_Frame_packets := fun_mk (st := s_Frame_packets) l_Frame_packets c_Frame_packets k_Frame_packets
  have F_key_at := fun_mk (st := s_key_at) l_key_at c_key_at k_key_at
  have F_all_keys := fun_mk (st := s_all_keys) l_all_keys c_all_keys k_all_keys
  have F_changed := fun_mk (st := s_changed) l_changed c_changed k_changed
  have F_Source__become := fun_mk (st := s_Source__become) l_Source__become c_Source__become k_Source__become
  have F_check_values := fun_mk (st := s_check_values) l_check_values c_check_values k_check_values
  have F_check_size := fun_mk (st := s_check_size) l_check_size c_check_size k_check_size
  have F_check_kind := fun_mk (st := s_check_kind) l_check_kind c_check_kind k_check_kind
  have F_Picture___init__ := fun_mk (st := s_Picture___init__) l_Picture___init__ c_Picture___init__ k_Picture___init__
  have F_crop_pixels := fun_mk (st := s_crop_pixels) l_crop_pixels c_crop_pixels k_crop_pixels
  have F_Frame___init__ := fun_mk (st := s_Frame___init__) l_Frame___init__ c_Frame___init__ k_Frame___init__
  have F_check_sides := fun_mk (st := s_check_sides) l_check_sides c_check_sides k_check_sides
  have F_check_rectangle := fun_mk (st := s_check_rectangle) l_check_rectangle c_check_rectangle k_check_rectangle
  have F_check_tiles := fun_mk (st := s_check_tiles) l_check_tiles c_check_tiles k_check_tiles
  have F_crop_frame := fun_mk (st := s_crop_frame) l_crop_frame c_crop_frame k_crop_frame
  have F_paste_crops := fun_mk (st := s_paste_crops) l_paste_crops c_paste_crops k_paste_crops
  have F_Source_paste := fun_mk (st := s_Source_paste) l_Source_paste c_Source_paste k_Source_paste
  have F_Picture_with_value := fun_mk (st := s_Picture_with_value) l_Picture_with_value c_Picture_with_value k_Picture_with_value
  have F_Source_change := fun_mk (st := s_Source_change) l_Source_change c_Source_change k_Source_change
  have F_law_ask_raw := fun_mk (st := s_law_ask_raw) l_law_ask_raw c_law_ask_raw k_law_ask_raw
  have F_law_ask := fun_mk (st := s_law_ask) l_law_ask c_law_ask k_law_ask
  have F_law_gray := fun_mk (st := s_law_gray) l_law_gray c_law_gray k_law_gray
  have F_law_stored := fun_mk (st := s_law_stored) l_law_stored c_law_stored k_law_stored
  have F_law_tile := fun_mk (st := s_law_tile) l_law_tile c_law_tile k_law_tile
  have F_law_pixels := fun_mk (st := s_law_pixels) l_law_pixels c_law_pixels k_law_pixels
  have F_law_packet := fun_mk (st := s_law_packet) l_law_packet c_law_packet k_law_packet
  have F_law_tiles := fun_mk (st := s_law_tiles) l_law_tiles c_law_tiles k_law_tiles
  have F_law_keys := fun_mk (st := s_law_keys) l_law_keys c_law_keys k_law_keys
  have F_law_changed := fun_mk (st := s_law_changed) l_law_changed c_law_changed k_law_changed
  have F_law_draw := fun_mk (st := s_law_draw) l_law_draw c_law_draw k_law_draw
  have F_law_change := fun_mk (st := s_law_change) l_law_change c_law_change k_law_change
  have F_law_picture := fun_mk (st := s_law_picture) l_law_picture c_law_picture k_law_picture
  have F_law_rows := fun_mk (st := s_law_rows) l_law_rows c_law_rows k_law_rows
  have F_law_paste := fun_mk (st := s_law_paste) l_law_paste c_law_paste k_law_paste
  have F_law_flag := fun_mk (st := s_law_flag) l_law_flag c_law_flag k_law_flag
  have F_Source_undo := fun_mk (st := s_Source_undo) l_Source_undo c_Source_undo k_Source_undo
  have F_Picture_framed := fun_mk (st := s_Picture_framed) l_Picture_framed c_Picture_framed k_Picture_framed
  have F_Source___init__ := fun_mk (st := s_Source___init__) l_Source___init__ c_Source___init__ k_Source___init__
  have F_law_shape := fun_mk (st := s_law_shape) l_law_shape c_law_shape k_law_shape
  have F_law_cell := fun_mk (st := s_law_cell) l_law_cell c_law_cell k_law_cell
  have F_law_digits := fun_mk (st := s_law_digits) l_law_digits c_law_digits k_law_digits
  have F_law := fun_mk (st := s_law) l_law c_law k_law
  exact ⟨PySem.W.fnOf "law" "law" (defArgs s_law) (defBody s_law) (defScope s_law) .none kV_law dc_law pm_law an_law cd_law ct_law, fun s v => .of_eq rfl, fun base _ _ => ok_law (mg := mg) {
    a_Picture := C_Picture,
    cl_Picture := ⟨pg_Picture, hd_Picture, po_Picture, sa_Picture⟩,
    g_Picture := PySem.W.mg_of X G g_Picture,
    mk_Picture := mk_Picture,
    kp_Picture := kc_Picture,
    na_Picture_width := na_Picture_width,
    na_Picture_height := na_Picture_height,
    na_Picture_depth := na_Picture_depth,
    na_Picture_channels := na_Picture_channels,
    na_Picture__rows := na_Picture__rows,
    a_Frame := C_Frame,
    cl_Frame := ⟨pg_Frame, hd_Frame, po_Frame, sa_Frame⟩,
    g_Frame := PySem.W.mg_of X G g_Frame,
    mk_Frame := mk_Frame,
    kp_Frame := kc_Frame,
    na_Frame_width := na_Frame_width,
    na_Frame_height := na_Frame_height,
    na_Frame_depth := na_Frame_depth,
    na_Frame_channels := na_Frame_channels,
    na_Frame_tile := na_Frame_tile,
    a_Source := C_Source,
    cl_Source := ⟨pg_Source, hd_Source, po_Source, sa_Source⟩,
    g_Source := PySem.W.mg_of X G g_Source,
    mk_Source := mk_Source,
    kp_Source := kc_Source,
    na_Source_frame := na_Source_frame,
    na_Source__picture := na_Source__picture,
    na_Source__saved := na_Source__saved,
    io_Picture := ⟨ca_Picture, spS, tkS, ob_Picture⟩,
    x_OutOfRange := ⟨C_OutOfRange, f_OutOfRange, _, PySem.W.mg_of X G g_OutOfRange, ⟨⟨nm_OutOfRange, q_OutOfRange, N_OutOfRange, bs_OutOfRange, bm_OutOfRange, sn_OutOfRange, sub_OutOfRange, ab_OutOfRange, col_OutOfRange, dd_OutOfRange, k0_OutOfRange, k1_OutOfRange, k2_OutOfRange, k3_OutOfRange, k5_OutOfRange, lC_OutOfRange, rv_OutOfRange⟩, sa_OutOfRange, bb_OutOfRange, ty_OutOfRange, kC_OutOfRange⟩,
      ⟨⟨_, _, _, _, _, _, _, _, _, _, rfl, lf_OutOfRange, cf_OutOfRange, ⟨_, _, _, _, _, _, lcd_OutOfRange, vs2_OutOfRange, fil_OutOfRange⟩, _, _, _, lcc_OutOfRange⟩, topS, PySem.W.mg_none_of X G nsS, su_OutOfRange, opS, sup_OutOfRange, isV_OutOfRange⟩, iC_OutOfRange, tI_OutOfRange, Binds.all fun us hl => (match us, hl with | [_, _], _ => rfl),
      ⟨ga_OutOfRange, gg_OutOfRange, bb_OutOfRange, hd_OutOfRange⟩, ⟨by unfold PySem.W.clsIn; rw [lC_OutOfRange] <;> rfl, ga_OutOfRange, gg_OutOfRange, bb_OutOfRange, ca_OutOfRange, spS, tkS, ob_OutOfRange⟩, PySem.W.exm_ref bb_OutOfRange hd_OutOfRange ty_OutOfRange ss_OutOfRange⟩,
    y_OtherKind := ⟨C_OtherKind, PySem.W.mg_of X G g_OtherKind, kC_OtherKind, ex_OtherKind, bb_OtherKind, ty_OtherKind, PySem.W.exm_ref bb_OtherKind hd_OtherKind ty_OtherKind ss_OtherKind⟩,
    y_OutsidePicture := ⟨C_OutsidePicture, PySem.W.mg_of X G g_OutsidePicture, kC_OutsidePicture, ex_OutsidePicture, bb_OutsidePicture, ty_OutsidePicture, PySem.W.exm_ref bb_OutsidePicture hd_OutsidePicture ty_OutsidePicture ss_OutsidePicture⟩,
    nf_OutOfRange_name := nf_OutOfRange_name,
    em_OutOfRange_OtherKind := PySem.W.exm_ref bb_OtherKind hd_OtherKind ty_OtherKind em_OutOfRange_OtherKind,
    em_OutOfRange_OutsidePicture := PySem.W.exm_ref bb_OutsidePicture hd_OutsidePicture ty_OutsidePicture em_OutOfRange_OutsidePicture,
    em_OtherKind_OutOfRange := PySem.W.exm_ref bb_OutOfRange hd_OutOfRange ty_OutOfRange em_OtherKind_OutOfRange,
    em_OtherKind_OutsidePicture := PySem.W.exm_ref bb_OutsidePicture hd_OutsidePicture ty_OutsidePicture em_OtherKind_OutsidePicture,
    em_OutsidePicture_OtherKind := PySem.W.exm_ref bb_OtherKind hd_OtherKind ty_OtherKind em_OutsidePicture_OtherKind,
    em_OutsidePicture_OutOfRange := PySem.W.exm_ref bb_OutOfRange hd_OutOfRange ty_OutOfRange em_OutsidePicture_OutOfRange,
    Picture_rows := ⟨_, _, F_Picture_rows, F_Picture_rows.binds fun _ _ _ _ _ _ us hl => match us, hl with | [_], _ => rfl, ⟨a_Picture_rows, i_Picture_rows, k_Picture_rows⟩⟩,
    law_same_rows := ⟨_, _, F_law_same_rows, PySem.W.mg_of X G a_law_same_rows, F_law_same_rows.binds fun _ _ _ _ _ _ us hl => match us, hl with | [_, _, _], _ => rfl⟩,
    Source_shown := ⟨_, _, F_Source_shown, F_Source_shown.binds fun _ _ _ _ _ _ us hl => match us, hl with | [_], _ => rfl, ⟨a_Source_shown, i_Source_shown, k_Source_shown⟩⟩,
    with_saved := ⟨_, _, F_with_saved, PySem.W.mg_of X G a_with_saved, F_with_saved.binds fun _ _ _ _ _ _ us hl => match us, hl with | [_, _], _ => rfl⟩,
    Frame_across := ⟨_, _, F_Frame_across, F_Frame_across.binds fun _ _ _ _ _ _ us hl => match us, hl with | [_], _ => rfl, ⟨a_Frame_across, i_Frame_across, k_Frame_across⟩⟩,
    tile_corner := ⟨_, _, F_tile_corner, PySem.W.mg_of X G a_tile_corner, F_tile_corner.binds fun _ _ _ _ _ _ us hl => match us, hl with | [_, _], _ => rfl⟩,
    tile_size := ⟨_, _, F_tile_size, PySem.W.mg_of X G a_tile_size, F_tile_size.binds fun _ _ _ _ _ _ us hl => match us, hl with | [_, _], _ => rfl⟩,
    tile_pixels := ⟨_, _, F_tile_pixels, PySem.W.mg_of X G a_tile_pixels, F_tile_pixels.binds fun _ _ _ _ _ _ us hl => match us, hl with | [_, _], _ => rfl⟩,
    gray_bit := ⟨_, _, F_gray_bit, PySem.W.mg_of X G a_gray_bit, F_gray_bit.binds fun _ _ _ _ _ _ us hl => match us, hl with | [_, _], _ => rfl⟩,
    Picture_value := ⟨_, _, F_Picture_value, F_Picture_value.binds fun _ _ _ _ _ _ us hl => match us, hl with | [_, _, _], _ => rfl, ⟨a_Picture_value, i_Picture_value, k_Picture_value⟩⟩,
    stored_bit := ⟨_, _, F_stored_bit, PySem.W.mg_of X G a_stored_bit, F_stored_bit.binds fun _ _ _ _ _ _ us hl => match us, hl with | [_, _, _, _], _ => rfl⟩,
    check_range := ⟨_, _, F_check_range, PySem.W.mg_of X G a_check_range, F_check_range.binds fun _ _ _ _ _ _ us hl => match us, hl with | [_, _, _, _], _ => rfl⟩,
    Frame_down := ⟨_, _, F_Frame_down, F_Frame_down.binds fun _ _ _ _ _ _ us hl => match us, hl with | [_], _ => rfl, ⟨a_Frame_down, i_Frame_down, k_Frame_down⟩⟩,
    Frame_tiles := ⟨_, _, F_Frame_tiles, F_Frame_tiles.binds fun _ _ _ _ _ _ us hl => match us, hl with | [_], _ => rfl, ⟨a_Frame_tiles, i_Frame_tiles, k_Frame_tiles⟩⟩,
    check_key := ⟨_, _, F_check_key, PySem.W.mg_of X G a_check_key, F_check_key.binds fun _ _ _ _ _ _ us hl => match us, hl with | [_, _], _ => rfl⟩,
    same_kind := ⟨_, _, F_same_kind, PySem.W.mg_of X G a_same_kind, F_same_kind.binds fun _ _ _ _ _ _ us hl => match us, hl with | [_, _], _ => rfl⟩,
    fits_frame := ⟨_, _, F_fits_frame, PySem.W.mg_of X G a_fits_frame, F_fits_frame.binds fun _ _ _ _ _ _ us hl => match us, hl with | [_, _], _ => rfl⟩,
    check_fits := ⟨_, _, F_check_fits, PySem.W.mg_of X G a_check_fits, F_check_fits.binds fun _ _ _ _ _ _ us hl => match us, hl with | [_, _], _ => rfl⟩,
    packet_bits := ⟨_, _, F_packet_bits, PySem.W.mg_of X G a_packet_bits, F_packet_bits.binds fun _ _ _ _ _ _ us hl => match us, hl with | [_, _, _], _ => rfl⟩,
    Frame_packets := ⟨_, _, F_Frame_packets, F_Frame_packets.binds fun _ _ _ _ _ _ us hl => match us, hl with | [_], _ => rfl, ⟨a_Frame_packets, i_Frame_packets, k_Frame_packets⟩⟩,
    key_at := ⟨_, _, F_key_at, PySem.W.mg_of X G a_key_at, F_key_at.binds fun _ _ _ _ _ _ us hl => match us, hl with | [_, _], _ => rfl⟩,
    all_keys := ⟨_, _, F_all_keys, PySem.W.mg_of X G a_all_keys, F_all_keys.binds fun _ _ _ _ _ _ us hl => match us, hl with | [_], _ => rfl⟩,
    changed := ⟨_, _, F_changed, PySem.W.mg_of X G a_changed, F_changed.binds fun _ _ _ _ _ _ us hl => match us, hl with | [_, _, _], _ => rfl⟩,
    Source__become := ⟨_, _, F_Source__become, F_Source__become.binds fun _ _ _ _ _ _ us hl => match us, hl with | [_, _], _ => rfl, ⟨a_Source__become, i_Source__become, k_Source__become⟩⟩,
    check_values := ⟨_, _, F_check_values, PySem.W.mg_of X G a_check_values, F_check_values.binds fun _ _ _ _ _ _ us hl => match us, hl with | [_, _, _, _, _], _ => rfl⟩,
    check_size := ⟨_, _, F_check_size, PySem.W.mg_of X G a_check_size, F_check_size.binds fun _ _ _ _ _ _ us hl => match us, hl with | [_, _, _], _ => rfl⟩,
    check_kind := ⟨_, _, F_check_kind, PySem.W.mg_of X G a_check_kind, F_check_kind.binds fun _ _ _ _ _ _ us hl => match us, hl with | [_, _, _, _], _ => rfl⟩,
    Picture___init__ := ⟨_, _, F_Picture___init__, F_Picture___init__.binds fun _ _ _ _ _ _ us hl => match us, hl with | [_, _, _, _, _, _], _ => rfl, ⟨a_Picture___init__, i_Picture___init__, k_Picture___init__⟩⟩,
    crop_pixels := ⟨_, _, F_crop_pixels, PySem.W.mg_of X G a_crop_pixels, F_crop_pixels.binds fun _ _ _ _ _ _ us hl => match us, hl with | [_, _, _], _ => rfl⟩,
    Frame___init__ := ⟨_, _, F_Frame___init__, F_Frame___init__.binds fun _ _ _ _ _ _ us hl => match us, hl with | [_, _, _, _, _, _], _ => rfl, ⟨a_Frame___init__, i_Frame___init__, k_Frame___init__⟩⟩,
    check_sides := ⟨_, _, F_check_sides, PySem.W.mg_of X G a_check_sides, F_check_sides.binds fun _ _ _ _ _ _ us hl => match us, hl with | [_, _, _, _, _], _ => rfl⟩,
    check_rectangle := ⟨_, _, F_check_rectangle, PySem.W.mg_of X G a_check_rectangle, F_check_rectangle.binds fun _ _ _ _ _ _ us hl => match us, hl with | [_], _ => rfl⟩,
    check_tiles := ⟨_, _, F_check_tiles, PySem.W.mg_of X G a_check_tiles, F_check_tiles.binds fun _ _ _ _ _ _ us hl => match us, hl with | [_, _], _ => rfl⟩,
    crop_frame := ⟨_, _, F_crop_frame, PySem.W.mg_of X G a_crop_frame, F_crop_frame.binds fun _ _ _ _ _ _ us hl => match us, hl with | [_, _], _ => rfl⟩,
    paste_crops := ⟨_, _, F_paste_crops, PySem.W.mg_of X G a_paste_crops, F_paste_crops.binds fun _ _ _ _ _ _ us hl => match us, hl with | [_, _, _, _], _ => rfl⟩,
    Source_paste := ⟨_, _, F_Source_paste, F_Source_paste.binds fun _ _ _ _ _ _ us hl => match us, hl with | [_, _, _], _ => rfl, ⟨a_Source_paste, i_Source_paste, k_Source_paste⟩⟩,
    Picture_with_value := ⟨_, _, F_Picture_with_value, F_Picture_with_value.binds fun _ _ _ _ _ _ us hl => match us, hl with | [_, _, _, _], _ => rfl, ⟨a_Picture_with_value, i_Picture_with_value, k_Picture_with_value⟩⟩,
    Source_change := ⟨_, _, F_Source_change, F_Source_change.binds fun _ _ _ _ _ _ us hl => match us, hl with | [_, _, _, _], _ => rfl, ⟨a_Source_change, i_Source_change, k_Source_change⟩⟩,
    law_ask_raw := ⟨_, _, F_law_ask_raw, PySem.W.mg_of X G a_law_ask_raw, F_law_ask_raw.binds fun _ _ _ _ _ _ us hl => match us, hl with | [_, _, _, _, _], _ => rfl⟩,
    law_ask := ⟨_, _, F_law_ask, PySem.W.mg_of X G a_law_ask, F_law_ask.binds fun _ _ _ _ _ _ us hl => match us, hl with | [_, _, _, _, _], _ => rfl⟩,
    law_gray := ⟨_, _, F_law_gray, PySem.W.mg_of X G a_law_gray, F_law_gray.binds fun _ _ _ _ _ _ us hl => match us, hl with | [_, _], _ => rfl⟩,
    law_stored := ⟨_, _, F_law_stored, PySem.W.mg_of X G a_law_stored, F_law_stored.binds fun _ _ _ _ _ _ us hl => match us, hl with | [_, _, _, _, _], _ => rfl⟩,
    law_tile := ⟨_, _, F_law_tile, PySem.W.mg_of X G a_law_tile, F_law_tile.binds fun _ _ _ _ _ _ us hl => match us, hl with | [_, _], _ => rfl⟩,
    law_pixels := ⟨_, _, F_law_pixels, PySem.W.mg_of X G a_law_pixels, F_law_pixels.binds fun _ _ _ _ _ _ us hl => match us, hl with | [_, _], _ => rfl⟩,
    law_packet := ⟨_, _, F_law_packet, PySem.W.mg_of X G a_law_packet, F_law_packet.binds fun _ _ _ _ _ _ us hl => match us, hl with | [_, _, _], _ => rfl⟩,
    law_tiles := ⟨_, _, F_law_tiles, PySem.W.mg_of X G a_law_tiles, F_law_tiles.binds fun _ _ _ _ _ _ us hl => match us, hl with | [_], _ => rfl⟩,
    law_keys := ⟨_, _, F_law_keys, PySem.W.mg_of X G a_law_keys, F_law_keys.binds fun _ _ _ _ _ _ us hl => match us, hl with | [_], _ => rfl⟩,
    law_changed := ⟨_, _, F_law_changed, PySem.W.mg_of X G a_law_changed, F_law_changed.binds fun _ _ _ _ _ _ us hl => match us, hl with | [_, _, _], _ => rfl⟩,
    law_draw := ⟨_, _, F_law_draw, PySem.W.mg_of X G a_law_draw, F_law_draw.binds fun _ _ _ _ _ _ us hl => match us, hl with | [_, _], _ => rfl⟩,
    law_change := ⟨_, _, F_law_change, PySem.W.mg_of X G a_law_change, F_law_change.binds fun _ _ _ _ _ _ us hl => match us, hl with | [_, _, _, _], _ => rfl⟩,
    law_picture := ⟨_, _, F_law_picture, PySem.W.mg_of X G a_law_picture, F_law_picture.binds fun _ _ _ _ _ _ us hl => match us, hl with | [_, _], _ => rfl⟩,
    law_rows := ⟨_, _, F_law_rows, PySem.W.mg_of X G a_law_rows, F_law_rows.binds fun _ _ _ _ _ _ us hl => match us, hl with | [_, _], _ => rfl⟩,
    law_paste := ⟨_, _, F_law_paste, PySem.W.mg_of X G a_law_paste, F_law_paste.binds fun _ _ _ _ _ _ us hl => match us, hl with | [_, _, _, _], _ => rfl⟩,
    law_flag := ⟨_, _, F_law_flag, PySem.W.mg_of X G a_law_flag, F_law_flag.binds fun _ _ _ _ _ _ us hl => match us, hl with | [_, _], _ => rfl⟩,
    Source_undo := ⟨_, _, F_Source_undo, F_Source_undo.binds fun _ _ _ _ _ _ us hl => match us, hl with | [_], _ => rfl, ⟨a_Source_undo, i_Source_undo, k_Source_undo⟩⟩,
    Picture_framed := ⟨_, _, F_Picture_framed, F_Picture_framed.binds fun _ _ _ _ _ _ us hl => match us, hl with | [_, _], _ => rfl, ⟨a_Picture_framed, i_Picture_framed, k_Picture_framed⟩⟩,
    Source___init__ := ⟨_, _, F_Source___init__, F_Source___init__.binds fun _ _ _ _ _ _ us hl => match us, hl with | [_, _, _], _ => rfl, ⟨a_Source___init__, i_Source___init__, k_Source___init__⟩⟩,
    law_shape := ⟨_, _, F_law_shape, PySem.W.mg_of X G a_law_shape, F_law_shape.binds fun _ _ _ _ _ _ us hl => match us, hl with | [_, _, _, _], _ => rfl⟩,
    law_cell := ⟨_, _, F_law_cell, PySem.W.mg_of X G a_law_cell, F_law_cell.binds fun _ _ _ _ _ _ us hl => match us, hl with | [_, _], _ => rfl⟩,
    law_digits := ⟨_, _, F_law_digits, PySem.W.mg_of X G a_law_digits, F_law_digits.binds fun _ _ _ _ _ _ us hl => match us, hl with | [_, _, _], _ => rfl⟩,
    law := ⟨_, _, F_law, PySem.W.mg_of X G a_law, F_law.binds fun _ _ _ _ _ _ us hl => match us, hl with | [_], _ => rfl⟩,
    n_bool := PySem.W.mg_none_of X G n_bool,
    n_divmod := PySem.W.mg_none_of X G n_divmod,
    n_enumerate := PySem.W.mg_none_of X G n_enumerate,
    n_int := PySem.W.mg_none_of X G n_int,
    n_isinstance := PySem.W.mg_none_of X G n_isinstance,
    n_len := PySem.W.mg_none_of X G n_len,
    n_list := PySem.W.mg_none_of X G n_list,
    n_max := PySem.W.mg_none_of X G n_max,
    n_min := PySem.W.mg_none_of X G n_min,
    n_range := PySem.W.mg_none_of X G n_range,
    n_str := PySem.W.mg_none_of X G n_str,
    t_DEPTH_MOST := t_DEPTH_MOST,
    c_DEPTH_MOST := PySem.W.mg_of X G c_DEPTH_MOST,
    t_SIDE_MOST := t_SIDE_MOST,
    c_SIDE_MOST := PySem.W.mg_of X G c_SIDE_MOST,
    t_TILE_MOST := t_TILE_MOST,
    c_TILE_MOST := PySem.W.mg_of X G c_TILE_MOST,
    t_UNDO_MOST := t_UNDO_MOST,
    c_UNDO_MOST := PySem.W.mg_of X G c_UNDO_MOST,
    t_VALUES_MOST := t_VALUES_MOST,
    c_VALUES_MOST := PySem.W.mg_of X G c_VALUES_MOST }⟩
theorem walk {l : PySem.W.OpenLaw} {q : Program} {loose : List Str} {XP : (Str → Option Value) → Heap → Prop} {YP : World → Heap → Prop} {d : DefRec} {K : Params → PySem.W.Frag} (hn : l.most = some 63) (hdf : d.params.defaults = [])
    (hY : ∀ (w : World) (h : Heap), YP w h → (K w.params).In h)
    (F : ∀ (w : World) (mg : Str → Option Value) (fa : Addr) (h : Heap), (K w.params).In h → h.Ns mainGlobals mg → mg d.name = some (.ref fa) →
      ∃ fd : FuncData, (∀ (s : Shared) (u : Value), BindsTo s fd ⟨[u], []⟩ [("script", u)]) ∧ ∀ base : Heap, (K w.params).In base → base.Ns mainGlobals mg → FnOk l.prog w (K w.params) mg base CX0 13 fa fd ["script"] (spLaw (K w.params))) :
    PySem.W.WalkO q loose XP YP l.row.toRowW d [] (fun f vs => PySem.call f vs) :=
  L2.walk_ofB (n := 63) (k := 13) (x := "script") (CX := fun _ => CX0) (sp := fun w => spLaw (K w.params)) hn (by decide) hdf ⟨rfl, by decide, by decide⟩ hY F (fun _ _ a ns hl hb _ hS => ⟨a, ns, rfl, hS, hl, hb, fun _ => rfl⟩) fun _ _ _ _ _ z => z
end
end My
open PySem PySem.W PyProof.Rows in
set_option maxRecDepth 100000 in
set_option maxHeartbeats 0 in
theorem PySem.Challenge.cw_packetpicture_k69_source_and_its_past_holds : PySem.Challenge.rw_packetpicture_k69_source_and_its_past.Holds := by
  w_on; o_law; k_head; (case hw => w_witness2)
  k_fill
  refine My.walk (l := PySem.Challenge.rw_packetpicture_k69_source_and_its_past) rfl rfl (fun w h Y => PySem.W.kIn_of Y) ?F
  case F =>
    intro w mg fa h KX G hmg
    refine' My.all_mk KX G hmg ?g_Picture ?pg_Picture ?hd_Picture ?po_Picture ?sa_Picture ?mk_Picture ?kc_Picture ?na_Picture_width ?na_Picture_height ?na_Picture_depth ?na_Picture_channels ?na_Picture__rows ?g_Frame ?pg_Frame ?hd_Frame ?po_Frame ?sa_Frame ?mk_Frame ?kc_Frame ?na_Frame_width ?na_Frame_height ?na_Frame_depth ?na_Frame_channels ?na_Frame_tile ?g_Source ?pg_Source ?hd_Source ?po_Source ?sa_Source ?mk_Source ?kc_Source ?na_Source_frame ?na_Source__picture ?na_Source__saved ?ca_Picture ?ob_Picture ?topS ?nsS ?opS ?spS ?tkS ?g_OutOfRange ?lC_OutOfRange ?rv_OutOfRange ?sa_OutOfRange ?bb_OutOfRange ?ty_OutOfRange ?kC_OutOfRange ?iC_OutOfRange ?tI_OutOfRange ?lf_OutOfRange ?cf_OutOfRange ?lcd_OutOfRange ?vs2_OutOfRange ?fil_OutOfRange ?lcc_OutOfRange ?su_OutOfRange ?sup_OutOfRange ?isV_OutOfRange ?ga_OutOfRange ?gg_OutOfRange ?ca_OutOfRange ?ob_OutOfRange ?hd_OutOfRange ?ss_OutOfRange ?g_OtherKind ?kC_OtherKind ?ex_OtherKind ?bb_OtherKind ?ty_OtherKind ?hd_OtherKind ?ss_OtherKind ?g_OutsidePicture ?kC_OutsidePicture ?ex_OutsidePicture ?bb_OutsidePicture ?ty_OutsidePicture ?hd_OutsidePicture ?ss_OutsidePicture ?nf_OutOfRange_name ?em_OutOfRange_OtherKind ?em_OutOfRange_OutsidePicture ?em_OtherKind_OutOfRange ?em_OtherKind_OutsidePicture ?em_OutsidePicture_OtherKind ?em_OutsidePicture_OutOfRange ?a_Picture_rows ?i_Picture_rows ?l_Picture_rows ?c_Picture_rows ?k_Picture_rows ?a_law_same_rows ?l_law_same_rows ?c_law_same_rows ?k_law_same_rows ?a_Source_shown ?i_Source_shown ?l_Source_shown ?c_Source_shown ?k_Source_shown ?a_with_saved ?l_with_saved ?c_with_saved ?k_with_saved ?a_Frame_across ?i_Frame_across ?l_Frame_across ?c_Frame_across ?k_Frame_across ?a_tile_corner ?l_tile_corner ?c_tile_corner ?k_tile_corner ?a_tile_size ?l_tile_size ?c_tile_size ?k_tile_size ?a_tile_pixels ?l_tile_pixels ?c_tile_pixels ?k_tile_pixels ?a_gray_bit ?l_gray_bit ?c_gray_bit ?k_gray_bit ?a_Picture_value ?i_Picture_value ?l_Picture_value ?c_Picture_value ?k_Picture_value ?a_stored_bit ?l_stored_bit ?c_stored_bit ?k_stored_bit ?a_check_range ?l_check_range ?c_check_range ?k_check_range ?a_Frame_down ?i_Frame_down ?l_Frame_down ?c_Frame_down ?k_Frame_down ?a_Frame_tiles ?i_Frame_tiles ?l_Frame_tiles ?c_Frame_tiles ?k_Frame_tiles ?a_check_key ?l_check_key ?c_check_key ?k_check_key ?a_same_kind ?l_same_kind ?c_same_kind ?k_same_kind ?a_fits_frame ?l_fits_frame ?c_fits_frame ?k_fits_frame ?a_check_fits ?l_check_fits ?c_check_fits ?k_check_fits ?a_packet_bits ?l_packet_bits ?c_packet_bits ?k_packet_bits ?a_Frame_packets ?i_Frame_packets ?l_Frame_packets ?c_Frame_packets ?k_Frame_packets ?a_key_at ?l_key_at ?c_key_at ?k_key_at ?a_all_keys ?l_all_keys ?c_all_keys ?k_all_keys ?a_changed ?l_changed ?c_changed ?k_changed ?a_Source__become ?i_Source__become ?l_Source__become ?c_Source__become ?k_Source__become ?a_check_values ?l_check_values ?c_check_values ?k_check_values ?a_check_size ?l_check_size ?c_check_size ?k_check_size ?a_check_kind ?l_check_kind ?c_check_kind ?k_check_kind ?a_Picture___init__ ?i_Picture___init__ ?l_Picture___init__ ?c_Picture___init__ ?k_Picture___init__ ?a_crop_pixels ?l_crop_pixels ?c_crop_pixels ?k_crop_pixels ?a_Frame___init__ ?i_Frame___init__ ?l_Frame___init__ ?c_Frame___init__ ?k_Frame___init__ ?a_check_sides ?l_check_sides ?c_check_sides ?k_check_sides ?a_check_rectangle ?l_check_rectangle ?c_check_rectangle ?k_check_rectangle ?a_check_tiles ?l_check_tiles ?c_check_tiles ?k_check_tiles ?a_crop_frame ?l_crop_frame ?c_crop_frame ?k_crop_frame ?a_paste_crops ?l_paste_crops ?c_paste_crops ?k_paste_crops ?a_Source_paste ?i_Source_paste ?l_Source_paste ?c_Source_paste ?k_Source_paste ?a_Picture_with_value ?i_Picture_with_value ?l_Picture_with_value ?c_Picture_with_value ?k_Picture_with_value ?a_Source_change ?i_Source_change ?l_Source_change ?c_Source_change ?k_Source_change ?a_law_ask_raw ?l_law_ask_raw ?c_law_ask_raw ?k_law_ask_raw ?a_law_ask ?l_law_ask ?c_law_ask ?k_law_ask ?a_law_gray ?l_law_gray ?c_law_gray ?k_law_gray ?a_law_stored ?l_law_stored ?c_law_stored ?k_law_stored ?a_law_tile ?l_law_tile ?c_law_tile ?k_law_tile ?a_law_pixels ?l_law_pixels ?c_law_pixels ?k_law_pixels ?a_law_packet ?l_law_packet ?c_law_packet ?k_law_packet ?a_law_tiles ?l_law_tiles ?c_law_tiles ?k_law_tiles ?a_law_keys ?l_law_keys ?c_law_keys ?k_law_keys ?a_law_changed ?l_law_changed ?c_law_changed ?k_law_changed ?a_law_draw ?l_law_draw ?c_law_draw ?k_law_draw ?a_law_change ?l_law_change ?c_law_change ?k_law_change ?a_law_picture ?l_law_picture ?c_law_picture ?k_law_picture ?a_law_rows ?l_law_rows ?c_law_rows ?k_law_rows ?a_law_paste ?l_law_paste ?c_law_paste ?k_law_paste ?a_law_flag ?l_law_flag ?c_law_flag ?k_law_flag ?a_Source_undo ?i_Source_undo ?l_Source_undo ?c_Source_undo ?k_Source_undo ?a_Picture_framed ?i_Picture_framed ?l_Picture_framed ?c_Picture_framed ?k_Picture_framed ?a_Source___init__ ?i_Source___init__ ?l_Source___init__ ?c_Source___init__ ?k_Source___init__ ?a_law_shape ?l_law_shape ?c_law_shape ?k_law_shape ?a_law_cell ?l_law_cell ?c_law_cell ?k_law_cell ?a_law_digits ?l_law_digits ?c_law_digits ?k_law_digits ?a_law ?l_law ?c_law ?k_law ?n_bool ?n_divmod ?n_enumerate ?n_int ?n_isinstance ?n_len ?n_list ?n_max ?n_min ?n_range ?n_str ?c_DEPTH_MOST ?c_SIDE_MOST ?c_TILE_MOST ?c_UNDO_MOST ?c_VALUES_MOST
    (case g_Picture => k_is)
    (case pg_Picture => k_is)
    (case hd_Picture => k_is)
    (case po_Picture => k_is)
    (case sa_Picture => k_is)
    (case mk_Picture => k_is)
    (case kc_Picture => k_is)
    (case na_Picture_width => k_is)
    (case na_Picture_height => k_is)
    (case na_Picture_depth => k_is)
    (case na_Picture_channels => k_is)
    (case na_Picture__rows => k_is)
    (case g_Frame => k_is)
    (case pg_Frame => k_is)
    (case hd_Frame => k_is)
    (case po_Frame => k_is)
    (case sa_Frame => k_is)
    (case mk_Frame => k_is)
    (case kc_Frame => k_is)
    (case na_Frame_width => k_is)
    (case na_Frame_height => k_is)
    (case na_Frame_depth => k_is)
    (case na_Frame_channels => k_is)
    (case na_Frame_tile => k_is)
    (case g_Source => k_is)
    (case pg_Source => k_is)
    (case hd_Source => k_is)
    (case po_Source => k_is)
    (case sa_Source => k_is)
    (case mk_Source => k_is)
    (case kc_Source => k_is)
    (case na_Source_frame => k_is)
    (case na_Source__picture => k_is)
    (case na_Source__saved => k_is)
    (case ca_Picture => k_is)
    (case ob_Picture => k_is)
    (case topS => first | rfl | decide +kernel)
    (case nsS => k_is)
    (case opS => k_is)
    (case spS => k_is)
    (case tkS => k_is)
    (case g_OutOfRange => k_is)
    (case lC_OutOfRange => k_is)
    (case rv_OutOfRange => first | rfl | decide +kernel)
    (case sa_OutOfRange => k_is)
    (case bb_OutOfRange => k_is)
    (case ty_OutOfRange => k_is)
    (case kC_OutOfRange => k_is)
    (case iC_OutOfRange => k_is)
    (case tI_OutOfRange => k_is)
    (case lf_OutOfRange => k_is)
    (case cf_OutOfRange => k_is)
    (case lcd_OutOfRange => k_is)
    (case vs2_OutOfRange => first | rfl | decide +kernel)
    (case fil_OutOfRange => first | rfl | decide +kernel)
    (case lcc_OutOfRange => k_is)
    (case su_OutOfRange => k_is)
    (case sup_OutOfRange => ks_is)
    (case isV_OutOfRange => k_is)
    (case ga_OutOfRange => k_is)
    (case gg_OutOfRange => k_is)
    (case ca_OutOfRange => k_is)
    (case ob_OutOfRange => k_is)
    (case hd_OutOfRange => k_is)
    (case ss_OutOfRange => first | rfl | k_is)
    (case g_OtherKind => k_is)
    (case kC_OtherKind => k_is)
    (case ex_OtherKind => k_exc)
    (case bb_OtherKind => k_is)
    (case ty_OtherKind => k_is)
    (case hd_OtherKind => k_is)
    (case ss_OtherKind => first | rfl | k_is)
    (case g_OutsidePicture => k_is)
    (case kC_OutsidePicture => k_is)
    (case ex_OutsidePicture => k_exc)
    (case bb_OutsidePicture => k_is)
    (case ty_OutsidePicture => k_is)
    (case hd_OutsidePicture => k_is)
    (case ss_OutsidePicture => first | rfl | k_is)
    (case nf_OutOfRange_name => k_is)
    (case em_OutOfRange_OtherKind => k_is)
    (case em_OutOfRange_OutsidePicture => k_is)
    (case em_OtherKind_OutOfRange => k_is)
    (case em_OtherKind_OutsidePicture => k_is)
    (case em_OutsidePicture_OtherKind => k_is)
    (case em_OutsidePicture_OutOfRange => k_is)
    (case a_Picture_rows => k_is)
    (case i_Picture_rows => k_is)
    (case l_Picture_rows => k_is)
    (case c_Picture_rows => k_is)
    (case k_Picture_rows => k_is)
    (case a_law_same_rows => k_is)
    (case l_law_same_rows => k_is)
    (case c_law_same_rows => k_is)
    (case k_law_same_rows => k_is)
    (case a_Source_shown => k_is)
    (case i_Source_shown => k_is)
    (case l_Source_shown => k_is)
    (case c_Source_shown => k_is)
    (case k_Source_shown => k_is)
    (case a_with_saved => k_is)
    (case l_with_saved => k_is)
    (case c_with_saved => k_is)
    (case k_with_saved => k_is)
    (case a_Frame_across => k_is)
    (case i_Frame_across => k_is)
    (case l_Frame_across => k_is)
    (case c_Frame_across => k_is)
    (case k_Frame_across => k_is)
    (case a_tile_corner => k_is)
    (case l_tile_corner => k_is)
    (case c_tile_corner => k_is)
    (case k_tile_corner => k_is)
    (case a_tile_size => k_is)
    (case l_tile_size => k_is)
    (case c_tile_size => k_is)
    (case k_tile_size => k_is)
    (case a_tile_pixels => k_is)
    (case l_tile_pixels => k_is)
    (case c_tile_pixels => k_is)
    (case k_tile_pixels => k_is)
    (case a_gray_bit => k_is)
    (case l_gray_bit => k_is)
    (case c_gray_bit => k_is)
    (case k_gray_bit => k_is)
    (case a_Picture_value => k_is)
    (case i_Picture_value => k_is)
    (case l_Picture_value => k_is)
    (case c_Picture_value => k_is)
    (case k_Picture_value => k_is)
    (case a_stored_bit => k_is)
    (case l_stored_bit => k_is)
    (case c_stored_bit => k_is)
    (case k_stored_bit => k_is)
    (case a_check_range => k_is)
    (case l_check_range => k_is)
    (case c_check_range => k_is)
    (case k_check_range => k_is)
    (case a_Frame_down => k_is)
    (case i_Frame_down => k_is)
    (case l_Frame_down => k_is)
    (case c_Frame_down => k_is)
    (case k_Frame_down => k_is)
    (case a_Frame_tiles => k_is)
    (case i_Frame_tiles => k_is)
    (case l_Frame_tiles => k_is)
    (case c_Frame_tiles => k_is)
    (case k_Frame_tiles => k_is)
    (case a_check_key => k_is)
    (case l_check_key => k_is)
    (case c_check_key => k_is)
    (case k_check_key => k_is)
    (case a_same_kind => k_is)
    (case l_same_kind => k_is)
    (case c_same_kind => k_is)
    (case k_same_kind => k_is)
    (case a_fits_frame => k_is)
    (case l_fits_frame => k_is)
    (case c_fits_frame => k_is)
    (case k_fits_frame => k_is)
    (case a_check_fits => k_is)
    (case l_check_fits => k_is)
    (case c_check_fits => k_is)
    (case k_check_fits => k_is)
    (case a_packet_bits => k_is)
    (case l_packet_bits => k_is)
    (case c_packet_bits => k_is)
    (case k_packet_bits => k_is)
    (case a_Frame_packets => k_is)
    (case i_Frame_packets => k_is)
    (case l_Frame_packets => k_is)
    (case c_Frame_packets => k_is)
    (case k_Frame_packets => k_is)
    (case a_key_at => k_is)
    (case l_key_at => k_is)
    (case c_key_at => k_is)
    (case k_key_at => k_is)
    (case a_all_keys => k_is)
    (case l_all_keys => k_is)
    (case c_all_keys => k_is)
    (case k_all_keys => k_is)
    (case a_changed => k_is)
    (case l_changed => k_is)
    (case c_changed => k_is)
    (case k_changed => k_is)
    (case a_Source__become => k_is)
    (case i_Source__become => k_is)
    (case l_Source__become => k_is)
    (case c_Source__become => k_is)
    (case k_Source__become => k_is)
    (case a_check_values => k_is)
    (case l_check_values => k_is)
    (case c_check_values => k_is)
    (case k_check_values => k_is)
    (case a_check_size => k_is)
    (case l_check_size => k_is)
    (case c_check_size => k_is)
    (case k_check_size => k_is)
    (case a_check_kind => k_is)
    (case l_check_kind => k_is)
    (case c_check_kind => k_is)
    (case k_check_kind => k_is)
    (case a_Picture___init__ => k_is)
    (case i_Picture___init__ => k_is)
    (case l_Picture___init__ => k_is)
    (case c_Picture___init__ => k_is)
    (case k_Picture___init__ => k_is)
    (case a_crop_pixels => k_is)
    (case l_crop_pixels => k_is)
    (case c_crop_pixels => k_is)
    (case k_crop_pixels => k_is)
    (case a_Frame___init__ => k_is)
    (case i_Frame___init__ => k_is)
    (case l_Frame___init__ => k_is)
    (case c_Frame___init__ => k_is)
    (case k_Frame___init__ => k_is)
    (case a_check_sides => k_is)
    (case l_check_sides => k_is)
    (case c_check_sides => k_is)
    (case k_check_sides => k_is)
    (case a_check_rectangle => k_is)
    (case l_check_rectangle => k_is)
    (case c_check_rectangle => k_is)
    (case k_check_rectangle => k_is)
    (case a_check_tiles => k_is)
    (case l_check_tiles => k_is)
    (case c_check_tiles => k_is)
    (case k_check_tiles => k_is)
    (case a_crop_frame => k_is)
    (case l_crop_frame => k_is)
    (case c_crop_frame => k_is)
    (case k_crop_frame => k_is)
    (case a_paste_crops => k_is)
    (case l_paste_crops => k_is)
    (case c_paste_crops => k_is)
    (case k_paste_crops => k_is)
    (case a_Source_paste => k_is)
    (case i_Source_paste => k_is)
    (case l_Source_paste => k_is)
    (case c_Source_paste => k_is)
    (case k_Source_paste => k_is)
    (case a_Picture_with_value => k_is)
    (case i_Picture_with_value => k_is)
    (case l_Picture_with_value => k_is)
    (case c_Picture_with_value => k_is)
    (case k_Picture_with_value => k_is)
    (case a_Source_change => k_is)
    (case i_Source_change => k_is)
    (case l_Source_change => k_is)
    (case c_Source_change => k_is)
    (case k_Source_change => k_is)
    (case a_law_ask_raw => k_is)
    (case l_law_ask_raw => k_is)
    (case c_law_ask_raw => k_is)
    (case k_law_ask_raw => k_is)
    (case a_law_ask => k_is)
    (case l_law_ask => k_is)
    (case c_law_ask => k_is)
    (case k_law_ask => k_is)
    (case a_law_gray => k_is)
    (case l_law_gray => k_is)
    (case c_law_gray => k_is)
    (case k_law_gray => k_is)
    (case a_law_stored => k_is)
    (case l_law_stored => k_is)
    (case c_law_stored => k_is)
    (case k_law_stored => k_is)
    (case a_law_tile => k_is)
    (case l_law_tile => k_is)
    (case c_law_tile => k_is)
    (case k_law_tile => k_is)
    (case a_law_pixels => k_is)
    (case l_law_pixels => k_is)
    (case c_law_pixels => k_is)
    (case k_law_pixels => k_is)
    (case a_law_packet => k_is)
    (case l_law_packet => k_is)
    (case c_law_packet => k_is)
    (case k_law_packet => k_is)
    (case a_law_tiles => k_is)
    (case l_law_tiles => k_is)
    (case c_law_tiles => k_is)
    (case k_law_tiles => k_is)
    (case a_law_keys => k_is)
    (case l_law_keys => k_is)
    (case c_law_keys => k_is)
    (case k_law_keys => k_is)
    (case a_law_changed => k_is)
    (case l_law_changed => k_is)
    (case c_law_changed => k_is)
    (case k_law_changed => k_is)
    (case a_law_draw => k_is)
    (case l_law_draw => k_is)
    (case c_law_draw => k_is)
    (case k_law_draw => k_is)
    (case a_law_change => k_is)
    (case l_law_change => k_is)
    (case c_law_change => k_is)
    (case k_law_change => k_is)
    (case a_law_picture => k_is)
    (case l_law_picture => k_is)
    (case c_law_picture => k_is)
    (case k_law_picture => k_is)
    (case a_law_rows => k_is)
    (case l_law_rows => k_is)
    (case c_law_rows => k_is)
    (case k_law_rows => k_is)
    (case a_law_paste => k_is)
    (case l_law_paste => k_is)
    (case c_law_paste => k_is)
    (case k_law_paste => k_is)
    (case a_law_flag => k_is)
    (case l_law_flag => k_is)
    (case c_law_flag => k_is)
    (case k_law_flag => k_is)
    (case a_Source_undo => k_is)
    (case i_Source_undo => k_is)
    (case l_Source_undo => k_is)
    (case c_Source_undo => k_is)
    (case k_Source_undo => k_is)
    (case a_Picture_framed => k_is)
    (case i_Picture_framed => k_is)
    (case l_Picture_framed => k_is)
    (case c_Picture_framed => k_is)
    (case k_Picture_framed => k_is)
    (case a_Source___init__ => k_is)
    (case i_Source___init__ => k_is)
    (case l_Source___init__ => k_is)
    (case c_Source___init__ => k_is)
    (case k_Source___init__ => k_is)
    (case a_law_shape => k_is)
    (case l_law_shape => k_is)
    (case c_law_shape => k_is)
    (case k_law_shape => k_is)
    (case a_law_cell => k_is)
    (case l_law_cell => k_is)
    (case c_law_cell => k_is)
    (case k_law_cell => k_is)
    (case a_law_digits => k_is)
    (case l_law_digits => k_is)
    (case c_law_digits => k_is)
    (case k_law_digits => k_is)
    (case a_law => k_is)
    (case l_law => k_is)
    (case c_law => k_is)
    (case k_law => k_is)
    (case n_bool => k_is)
    (case n_divmod => k_is)
    (case n_enumerate => k_is)
    (case n_int => k_is)
    (case n_isinstance => k_is)
    (case n_len => k_is)
    (case n_list => k_is)
    (case n_max => k_is)
    (case n_min => k_is)
    (case n_range => k_is)
    (case n_str => k_is)
    (case c_DEPTH_MOST => k_is)
    (case c_SIDE_MOST => k_is)
    (case c_TILE_MOST => k_is)
    (case c_UNDO_MOST => k_is)
    (case c_VALUES_MOST => k_is)

