import PyProof.Rows.All
import Wide.All
import OpenK.AllK
import Wide.FinOn
import HandS.ForMost
import HandS.StrMore
import HandS.IsInst
import HandS.Steps
import HandS.Evl
import HandS.Codes
import HandS.ForExc
import KE.KExcSuper
import HandS.Strs
import KE.KExcIs
import HandS.ExcIs
import HandS.HeadHook3
import HandS.More
import KE.KStateDown
import KE.KExcPX
import Lean
import HandS.Base
import HandS.Call
import HandS.Ends
import HandS.Words
import HandS.Head0
import HandS.Head1
import HandS.Head2
import HandS.HeadEnd
import HandS.HeadHook1
import HandS.HeadHook2
import PyProof.RangeIter
import HandS.Iter
import HandS.Hot
import HandS.Comp
import HandS.HotCalls
import HandS.ExcCtx
import HandS.Small
import HandS.WordsDict
import HandS.Defaults
import HandS.SetFor
import HandS.Walk
import HandS.TupAny
import PyProof.P3Eq
import PyProof.EqLayable
import PyProof.Rows.TmSorted
import PySem.Challenge.RW_livestead_k43_bounds_of_definitions
set_option Elab.async false
set_option linter.all false
set_option maxRecDepth 100000
set_option maxHeartbeats 2000000
class Wk0 (G : Prop) (G2 : outParam Prop) : Prop where go : G2 → G
class Wk1 (G : Prop) (G2 : outParam Prop) : Prop where go : G2 → G
/-! Readings step by step: one lemma a construct, texts as lists of codes. -/
namespace Lv
open PySem PySem.Spec PyProof.Rows L2

/-- a text of these codes -/
abbrev T (cs : List Nat) : V := .str ⟨cs.toArray⟩
theorem T_eta (x : Str) : V.str x = T x.cps.toList := by
  show V.str x = V.str ⟨x.cps.toList.toArray⟩
  simp
theorem T_inj {a b : List Nat} (h : T a = T b) : a = b := by
  have h1 : (⟨a.toArray⟩ : Str) = ⟨b.toArray⟩ := V.str.inj h
  have h2 : a.toArray = b.toArray := Str.mk.inj h1
  exact congrArg Array.toList h2
theorem T_iff {a b : List Nat} : T a = T b ↔ a = b := ⟨T_inj, fun h => by rw [h]⟩
theorem len_T (a : List Nat) : (⟨a.toArray⟩ : Str).length = a.length := by
  show a.toArray.size = a.length
  simp

def NewL (xs : List V) (H : Hp) (Q : VK) : Prop := xs.length ≤ sizeLine ∧ ∀ p, H p = none → Q (.ref p) (upd H p (.lst xs))
def NewT (xs : List V) (H : Hp) (Q : VK) : Prop := xs.length ≤ sizeLine ∧ ∀ p, H p = none → Q (.ref p) (upd H p (.tup xs))
section
variable {σ : L2.St} {H : Hp} {Q : VK} {D : Ends} {i : Nat} {v x y : V} {ta tb te : TE} {t u : TS} {g : TG} {r : R2} {K : PySem.W.Frag}
theorem w_var (h : σ[i]? = some (some v)) (k : Q v H) : tVar i σ H Q := ⟨v, h, k⟩
theorem w_c (k : Q v H) : tC v σ H Q := k
instance  : Wk0 (tC v σ H Q) (Q v H) := ⟨w_c⟩
theorem w_cT {cs : List Nat} (k : Q (T cs) H) : tC (T cs) σ H Q := k
instance (priority := 2000) {cs : List Nat} : Wk0 (tC (T cs) σ H Q) (Q (T cs) H) := ⟨w_cT⟩
theorem ex_int {a : Int} {G : Int → Prop} (k : G a) : ∃ i, V.int a = V.int i ∧ G i := ⟨a, rfl, k⟩
instance {a : Int} {G : Int → Prop} : Wk0 (∃ i, V.int a = V.int i ∧ G i) (G a) := ⟨ex_int⟩
theorem ex_bl {a : Bool} {G : Bool → Prop} (k : G a) : ∃ i, V.bl a = V.bl i ∧ G i := ⟨a, rfl, k⟩
instance {a : Bool} {G : Bool → Prop} : Wk0 (∃ i, V.bl a = V.bl i ∧ G i) (G a) := ⟨ex_bl⟩
theorem w_str {x : Str} (k : Q (T x.cps.toList) H) : tC (.str x) σ H Q := by
  show Q (.str x) H
  rw [T_eta]
  exact k
instance (priority := 2000) {x : Str} : Wk0 (tC (.str x) σ H Q) (Q (T x.cps.toList) H) := ⟨w_str⟩
theorem w_seq (k : t { D with nx := u D } σ H) : tSeq t u D σ H := k
instance  : Wk0 (tSeq t u D σ H) (t { D with nx := u D } σ H) := ⟨w_seq⟩
theorem w_next (k : D.nx σ H) : tNext D σ H := k
instance  : Wk0 (tNext D σ H) (D.nx σ H) := ⟨w_next⟩
theorem w_asg (k : te σ H fun x H1 => g x σ H1 D.nx) : tAsg te g D σ H := k
instance  : Wk0 (tAsg te g D σ H) (te σ H fun x H1 => g x σ H1 D.nx) := ⟨w_asg⟩
theorem w_gname {G : L2.St → Hp → Prop} (k : G (σ.set i (some v)) H) : gName i v σ H G := k
instance {G : L2.St → Hp → Prop} : Wk0 (gName i v σ H G) (G (σ.set i (some v)) H) := ⟨w_gname⟩
theorem w_drop (k : te σ H fun _ H1 => D.nx σ H1) : tDrop te D σ H := k
instance  : Wk0 (tDrop te D σ H) (te σ H fun _ H1 => D.nx σ H1) := ⟨w_drop⟩
theorem w_ret (k : te σ H D.rt) : tRet te D σ H := k
instance  : Wk0 (tRet te D σ H) (te σ H D.rt) := ⟨w_ret⟩
theorem w_retN (k : D.rt .non H) : tRetN D σ H := k
instance  : Wk0 (tRetN D σ H) (D.rt .non H) := ⟨w_retN⟩
theorem w_op (k : ta σ H fun x H1 => tb σ H1 fun y H2 => r x y H2 Q) : tOp r ta tb σ H Q := k
instance  : Wk0 (tOp r ta tb σ H Q) (ta σ H fun x H1 => tb σ H1 fun y H2 => r x y H2 Q) := ⟨w_op⟩
theorem w_un {r : V → Hp → VK → Prop} (k : ta σ H fun x H1 => r x H1 Q) : tUn r ta σ H Q := k
instance {r : V → Hp → VK → Prop} : Wk0 (tUn r ta σ H Q) (ta σ H fun x H1 => r x H1 Q) := ⟨w_un⟩
theorem w_i0 {f : Int → Int → V} {a b : Int} (k : Q (f a b) H) : rI0 f (.int a) (.int b) H Q := ⟨a, b, rfl, rfl, k⟩
instance {f : Int → Int → V} {a b : Int} : Wk0 (rI0 f (.int a) (.int b) H Q) (Q (f a b) H) := ⟨w_i0⟩
theorem w_i {C : Int → Int → Prop} {f : Int → Int → V} {a b : Int} (c : C a b) (k : Q (f a b) H) : rI C f (.int a) (.int b) H Q := ⟨a, b, rfl, rfl, c, k⟩
theorem w_mulR {f : Int → Int → V} {a b : Int} (c : -(2 ^ 64) < b ∧ b < 2 ^ 64) (k : Q (f a b) H) : rI CMul f (.int a) (.int b) H Q := ⟨a, b, rfl, rfl, .inr c, k⟩
theorem w_mulL {f : Int → Int → V} {a b : Int} (c : -(2 ^ 64) < a ∧ a < 2 ^ 64) (k : Q (f a b) H) : rI CMul f (.int a) (.int b) H Q := ⟨a, b, rfl, rfl, .inl c, k⟩
theorem w_ifS {c : TT} (k : c σ H fun b H1 => if b = true then t D σ H1 else u D σ H1) : tIfS c t u D σ H := k
instance {c : TT} : Wk0 (tIfS c t u D σ H) (c σ H fun b H1 => if b = true then t D σ H1 else u D σ H1) := ⟨w_ifS⟩
theorem w_test {G : Bool → Hp → Prop} (k : te σ H fun x H' => ∃ b, x = .bl b ∧ G b H') : tTest te σ H G := k
instance {G : Bool → Hp → Prop} : Wk0 (tTest te σ H G) (te σ H fun x H' => ∃ b, x = .bl b ∧ G b H') := ⟨w_test⟩
theorem w_tB {G : Bool → Hp → Prop} (k : te σ H fun x H' => ∃ b, x = .bl b ∧ G b H') : tB te σ H G := k
instance {G : Bool → Hp → Prop} : Wk0 (tB te σ H G) (te σ H fun x H' => ∃ b, x = .bl b ∧ G b H') := ⟨w_tB⟩
theorem w_and {t u : TT} {G : Bool → Hp → Prop} (k : t σ H fun c H1 => if c = true then u σ H1 G else G false H1) : tAnd t u σ H G := k
instance {t u : TT} {G : Bool → Hp → Prop} : Wk0 (tAnd t u σ H G) (t σ H fun c H1 => if c = true then u σ H1 G else G false H1) := ⟨w_and⟩
theorem w_or {t u : TT} {G : Bool → Hp → Prop} (k : t σ H fun c H1 => if c = true then G true H1 else u σ H1 G) : tOr t u σ H G := k
instance {t u : TT} {G : Bool → Hp → Prop} : Wk0 (tOr t u σ H G) (t σ H fun c H1 => if c = true then G true H1 else u σ H1 G) := ⟨w_or⟩
theorem w_not {t : TT} {G : Bool → Hp → Prop} (k : t σ H fun c H1 => G (!c) H1) : tNot t σ H G := k
instance {t : TT} {G : Bool → Hp → Prop} : Wk0 (tNot t σ H G) (t σ H fun c H1 => G (!c) H1) := ⟨w_not⟩
theorem w_andV (k : ta σ H fun x H1 => ∃ c, x = .bl c ∧ if c = true then tb σ H1 Q else Q (.bl false) H1) : tAndV ta tb σ H Q := k
instance  : Wk0 (tAndV ta tb σ H Q) (ta σ H fun x H1 => ∃ c, x = .bl c ∧ if c = true then tb σ H1 Q else Q (.bl false) H1) := ⟨w_andV⟩
theorem w_orV (k : ta σ H fun x H1 => ∃ c, x = .bl c ∧ if c = true then Q (.bl true) H1 else tb σ H1 Q) : tOrV ta tb σ H Q := k
instance  : Wk0 (tOrV ta tb σ H Q) (ta σ H fun x H1 => ∃ c, x = .bl c ∧ if c = true then Q (.bl true) H1 else tb σ H1 Q) := ⟨w_orV⟩
theorem w_notV (k : ta σ H fun x H1 => ∃ c, x = .bl c ∧ Q (.bl (!c)) H1) : tNotV ta σ H Q := k
instance  : Wk0 (tNotV ta σ H Q) (ta σ H fun x H1 => ∃ c, x = .bl c ∧ Q (.bl (!c)) H1) := ⟨w_notV⟩
theorem w_eq (s : scal x y = true) (k : Q (.bl (decide (x = y))) H) : rEq x y H Q := ⟨s, k⟩
theorem w_ne (s : scal x y = true) (k : Q (.bl (!decide (x = y))) H) : rNe x y H Q := ⟨s, k⟩
theorem w_call {sp : Sp} {dvs : List V} {E : XK} {t : TA} (k : t σ H fun vs H1 => sp (vs ++ dvs) H1 Q E) : tCall sp dvs E t σ H Q := k
instance {sp : Sp} {dvs : List V} {E : XK} {t : TA} : Wk0 (tCall sp dvs E t σ H Q) (t σ H fun vs H1 => sp (vs ++ dvs) H1 Q E) := ⟨w_call⟩
theorem w_cb {r : List V → Hp → VK → Prop} {t : TA} (k : t σ H fun vs H1 => r vs H1 Q) : tCB r t σ H Q := k
instance {r : List V → Hp → VK → Prop} {t : TA} : Wk0 (tCB r t σ H Q) (t σ H fun vs H1 => r vs H1 Q) := ⟨w_cb⟩
theorem w_nil {G : List V → Hp → Prop} (k : G [] H) : tNil σ H G := k
instance {G : List V → Hp → Prop} : Wk0 (tNil σ H G) (G [] H) := ⟨w_nil⟩
theorem w_cons {tr : TA} {G : List V → Hp → Prop} (k : ta σ H fun x H1 => tr σ H1 fun xs H2 => G (x :: xs) H2) : tCons ta tr σ H G := k
instance {tr : TA} {G : List V → Hp → Prop} : Wk0 (tCons ta tr σ H G) (ta σ H fun x H1 => tr σ H1 fun xs H2 => G (x :: xs) H2) := ⟨w_cons⟩
theorem w_tup {t : TA} (k : t σ H fun xs H1 => NewT xs H1 Q) : tTup t σ H Q := k
instance {t : TA} : Wk0 (tTup t σ H Q) (t σ H fun xs H1 => NewT xs H1 Q) := ⟨w_tup⟩
theorem w_lst {t : TA} (k : t σ H fun xs H1 => NewL xs H1 Q) : tLst t σ H Q := k
instance {t : TA} : Wk0 (tLst t σ H Q) (t σ H fun xs H1 => NewL xs H1 Q) := ⟨w_lst⟩
theorem w_sl {r : V → Option Int → Option Int → Hp → VK → Prop} {tl th : TO} (k : te σ H fun x H1 => tl σ H1 fun l H2 => th σ H2 fun u H3 => r x l u H3 Q) : tSl r te tl th σ H Q := k
instance {r : V → Option Int → Option Int → Hp → VK → Prop} {tl th : TO} : Wk0 (tSl r te tl th σ H Q) (te σ H fun x H1 => tl σ H1 fun l H2 => th σ H2 fun u H3 => r x l u H3 Q) := ⟨w_sl⟩
theorem w_part {G : Option Int → Hp → Prop} (k : te σ H fun x H1 => ∃ i, x = .int i ∧ G (some i) H1) : tPart te σ H G := k
instance {G : Option Int → Hp → Prop} : Wk0 (tPart te σ H G) (te σ H fun x H1 => ∃ i, x = .int i ∧ G (some i) H1) := ⟨w_part⟩
theorem w_nopart {G : Option Int → Hp → Prop} (k : G none H) : tNoPart σ H G := k
instance {G : Option Int → Hp → Prop} : Wk0 (tNoPart σ H G) (G none H) := ⟨w_nopart⟩
theorem w_gsub {to ti : TE} {t : TSet} {G : L2.St → Hp → Prop} (k : to σ H fun o H1 => ti σ H1 fun i H2 => t o i v H2 fun H3 => G σ H3) : gSub to ti t v σ H G := k
instance {to ti : TE} {t : TSet} {G : L2.St → Hp → Prop} : Wk0 (gSub to ti t v σ H G) (to σ H fun o H1 => ti σ H1 fun i H2 => t o i v H2 fun H3 => G σ H3) := ⟨w_gsub⟩
theorem w_bm {Ty : String} {r : V → List V → Hp → VK → Prop} {to : TE} {t : TA} (k : to σ H fun x H1 => tyV K Ty x H1 ∧ t σ H1 fun xs H2 => r x xs H2 Q) : tBM K Ty r to t σ H Q := k
instance {Ty : String} {r : V → List V → Hp → VK → Prop} {to : TE} {t : TA} : Wk0 (tBM K Ty r to t σ H Q) (to σ H fun x H1 => tyV K Ty x H1 ∧ t σ H1 fun xs H2 => r x xs H2 Q) := ⟨w_bm⟩
theorem w_bm0 {Ty : String} {r : V → List V → Hp → VK → Prop} {to : TE} (k : to σ H fun x H1 => tyV K Ty x H1 ∧ r x [] H1 Q) : tBM0 K Ty r to σ H Q := k
instance {Ty : String} {r : V → List V → Hp → VK → Prop} {to : TE} : Wk0 (tBM0 K Ty r to σ H Q) (to σ H fun x H1 => tyV K Ty x H1 ∧ r x [] H1 Q) := ⟨w_bm0⟩
theorem w_aug {ti : TIp} (h : σ[i]? = some (some x)) (k : te σ H fun y H1 => ti x y H1 fun z H2 => D.nx (σ.set i (some z)) H2) : tAug i te ti D σ H := ⟨x, h, k⟩
theorem w_ifE {c : TT} (k : c σ H fun b H1 => if b = true then ta σ H1 Q else tb σ H1 Q) : tIf c ta tb σ H Q := k

instance {c : TT} : Wk0 (tIf c ta tb σ H Q) (c σ H fun b H1 => if b = true then ta σ H1 Q else tb σ H1 Q) := ⟨w_ifE⟩
/-! tests -/
theorem w_if {p A B : Prop} [Decidable p] (h1 : p → A) (h2 : ¬ p → B) : if decide p = true then A else B := by
  by_cases h : p
  · rw [if_pos (decide_eq_true h)]; exact h1 h
  · rw [if_neg (by simp [h])]; exact h2 h
theorem w_ifn {p A B : Prop} [Decidable p] (h1 : ¬ p → A) (h2 : p → B) : if (!decide p) = true then A else B := by
  by_cases h : p
  · rw [if_neg (by simp [h])]; exact h2 h
  · rw [if_pos (by simp [h])]; exact h1 h
theorem w_ifI {a b : Int} {A B : Prop} (h1 : a = b → A) (h2 : a ≠ b → B) : if decide (V.int a = V.int b) = true then A else B :=
  w_if (fun h => h1 (V.int.inj h)) fun h => h2 fun e => h (by rw [e])
theorem w_ifT {a b : List Nat} {A B : Prop} (h1 : a = b → A) (h2 : a ≠ b → B) : if decide (T a = T b) = true then A else B :=
  w_if (fun h => h1 (T_inj h)) fun h => h2 fun e => h (by rw [e])
theorem w_ifIn {a b : Int} {A B : Prop} (h1 : a ≠ b → A) (h2 : a = b → B) : if (!decide (V.int a = V.int b)) = true then A else B :=
  w_ifn (fun h => h1 fun e => h (by rw [e])) fun h => h2 (V.int.inj h)
theorem w_ifTn {a b : List Nat} {A B : Prop} (h1 : a ≠ b → A) (h2 : a = b → B) : if (!decide (T a = T b)) = true then A else B :=
  w_ifn (fun h => h1 fun e => h (by rw [e])) fun h => h2 (T_inj h)
theorem w_nt {A B : Prop} (h : B) : if (!true) = true then A else B := by
  show if false = true then A else B
  exact L2.iteF h
instance {A B : Prop} : Wk0 (if (!true) = true then A else B) (B) := ⟨w_nt⟩
theorem w_nf {A B : Prop} (h : A) : if (!false) = true then A else B := by
  show if true = true then A else B
  exact L2.iteT h
instance {A B : Prop} : Wk0 (if (!false) = true then A else B) (A) := ⟨w_nf⟩
theorem w_ifb {b : Bool} {A B : Prop} (h1 : b = true → A) (h2 : b = false → B) : if b = true then A else B := by
  cases b with
  | true => rw [if_pos rfl]; exact h1 rfl
  | false => rw [if_neg Bool.false_ne_true]; exact h2 rfl

/-! texts -/
def rAddS : R2 := fun x y H Q => ∃ i j, x = .str i ∧ y = .str j ∧ i.length + j.length ≤ sizeLine ∧ Q (.str (i ++ j)) H
theorem op_addS {X : Cx} : OpR X (binaryOp .Add) rAddS := op_add_str
theorem w_addS {a b : List Nat} (z : a.length + b.length ≤ 1000000) (k : Q (T (a ++ b)) H) : rAddS (T a) (T b) H Q := by
  refine ⟨_, _, rfl, rfl, ?_, ?_⟩
  · rw [len_T, len_T]
    exact Nat.le_trans z (by decide)
  · have e : (⟨a.toArray⟩ : Str) ++ ⟨b.toArray⟩ = ⟨(a ++ b).toArray⟩ := by
      show (⟨a.toArray ++ b.toArray⟩ : Str) = _
      simp
    rw [e]
    exact k
def rMulS : R2 := fun x y H Q => ∃ z n, x = .str z ∧ y = .int n ∧ -(2 ^ 63) ≤ n ∧ n < 1000000 ∧ z.length * n.toNat ≤ 1000000 ∧ Q (T (List.replicate n.toNat z.cps.toList).flatten) H
theorem foldl_rep (c : Array Nat) : ∀ (n : Nat) (acc : Array Nat), (List.replicate n c).foldl (· ++ ·) acc = acc ++ (List.replicate n c.toList).flatten.toArray
  | 0, acc => by simp
  | n + 1, acc => by
    rw [List.replicate_succ, List.foldl_cons, foldl_rep c n, List.replicate_succ, List.flatten_cons]
    apply Array.ext'
    simp
theorem op_mulS {X : Cx} : OpR X (binaryOp .Mult) rMulS := by
  intro pins s σ H x y v u Q I rx ry h
  obtain ⟨z, n, rfl, rfl, h1, h2, h3, q⟩ := h
  obtain ⟨t, rfl⟩ := rx
  obtain ⟨t', rfl⟩ := ry
  refine P.mul_str ?_ ?_ ?_ ?_
  · rw [decide_eq_false (by omega), decide_eq_false (by omega)]; rfl
  · intro hn _ hc
    have hz : z.length ≤ 1000000 := by
      have : z.length * 1 ≤ z.length * n.toNat := Nat.mul_le_mul_left _ (by omega)
      omega
    have : (2 ^ 63 - 1 : Int) / n ≥ 9000000000000 := by
      refine (Int.le_ediv_iff_mul_le (by omega)).mpr ?_
      omega
    omega
  · intro hn _
    show decide (sizeLine < z.length * n.toNat) = false
    refine decide_eq_false ?_
    rw [sizeLine_eq]
    omega
  · by_cases hn : n < 1
    · rw [if_pos hn]
      have e : (List.replicate n.toNat z.cps.toList).flatten = [] := by
        rw [show n.toNat = 0 by omega]; rfl
      rw [e] at q
      exact ⟨by decide, T [], H, I.tok _, ⟨_, rfl⟩, q⟩
    · rw [if_neg hn]
      by_cases hc : (n == 1 || z.length == 0) = true
      · rw [if_pos hc]
        have e : (List.replicate n.toNat z.cps.toList).flatten = z.cps.toList := by
          rw [Bool.or_eq_true] at hc
          rcases hc with hc | hc
          · have : n = 1 := by simpa using hc
            subst this
            simp
          · have hz : z.cps.size = 0 := (beq_iff_eq.mp hc : z.length = 0)
            have : z.cps.toList = [] := by
              rw [← List.length_eq_zero_iff]; simpa using hz
            rw [this]; simp
        rw [e, ← T_eta] at q
        exact ⟨.str z, H, I, ⟨_, rfl⟩, q⟩
      · rw [if_neg hc]
        have e : (⟨(List.replicate n.toNat z.cps).foldl (· ++ ·) #[]⟩ : Str) = ⟨((List.replicate n.toNat z.cps.toList).flatten).toArray⟩ := by
          rw [foldl_rep]; simp
        rw [e]
        refine ⟨?_, T _, H, I.tok _, ⟨_, rfl⟩, q⟩
        rw [len_T]
        have : (List.replicate n.toNat z.cps.toList).flatten.length = n.toNat * z.cps.size := by simp
        rw [this, Nat.mul_comm]
        exact Nat.le_trans h3 (by rw [sizeLine_eq]; omega)
theorem w_mulS {a : List Nat} {n : Int} (h1 : -(2 ^ 63) ≤ n) (h2 : n < 1000000) (h3 : a.length * n.toNat ≤ 1000000) (k : Q (T (List.replicate n.toNat a).flatten) H) : rMulS (T a) (.int n) H Q :=
  ⟨_, n, rfl, rfl, h1, h2, by rw [len_T]; exact h3, k⟩
theorem w_ixS {a : List Nat} {j : Int} {c : Nat} (z : a.length ≤ 1000000) (h : atI a j = some c) (k : Q (T [c]) H) : rIxS (T a) (.int j) H Q :=
  ⟨_, j, c, rfl, rfl, by rw [len_T]; exact Nat.le_trans z (by decide), h, k⟩
def cut (a : List Nat) (lo hi : Option Int) : List Nat := (a.drop (HT.sIx a.length 0 lo)).take (HT.sIx a.length a.length hi - HT.sIx a.length 0 lo)
theorem w_slS {a : List Nat} {lo hi : Option Int} (z : a.length ≤ 1000000) (k : Q (T (cut a lo hi)) H) : rSlS (T a) lo hi H Q := by
  refine ⟨_, rfl, by rw [len_T]; exact Nat.le_trans z (by decide), ?_⟩
  have e : cutS ⟨a.toArray⟩ lo hi = ⟨(cut a lo hi).toArray⟩ := by
    unfold cutS cut
    rw [len_T]
  rw [e]
  exact k
def rLenS : List V → Hp → VK → Prop := fun xs H Q => ∃ z, xs = [.str z] ∧ z.length ≤ sizeLine ∧ Q (.int z.length) H
theorem call_lenS {X : Cx} : CallR X (.builtin "len") rLenS := call_len_str
theorem w_lenS {a : List Nat} (z : a.length ≤ 1000000) (k : Q (.int (a.length : Int)) H) : rLenS [T a] H Q :=
  ⟨_, rfl, by rw [len_T]; exact Nat.le_trans z (by decide), by rw [len_T]; exact k⟩
def rLenL (K : PySem.W.Frag) : List V → Hp → VK → Prop := fun xs H Q => ∃ p ys, xs = [.ref p] ∧ (SqL K H p ys ∨ SqT K H p ys) ∧ Q (.int ys.length) H
theorem call_lenL {X : Cx} : CallR X (.builtin "len") (rLenL X.K) := call_len_seq
theorem w_lenL {p : Addr} {ys : List V} (h : SqL K H p ys) (k : Q (.int (ys.length : Int)) H) : rLenL K [.ref p] H Q := ⟨p, ys, rfl, .inl h, k⟩
theorem w_lenT {p : Addr} {ys : List V} (h : SqT K H p ys) (k : Q (.int (ys.length : Int)) H) : rLenL K [.ref p] H Q := ⟨p, ys, rfl, .inr h, k⟩
def rInt1 : List V → Hp → VK → Prop := fun xs H Q => (∃ i, xs = [.int i] ∧ Q (.int i) H) ∨ ∃ k, xs = [.bl k] ∧ Q (.int (if k then 1 else 0)) H
theorem call_intI {X : Cx} : CallR X (.type "int") rInt1 := call_int1
theorem w_intI {a : Int} (k : Q (.int a) H) : rInt1 [.int a] H Q := .inl ⟨a, rfl, k⟩
instance {a : Int} : Wk0 (rInt1 [.int a] H Q) (Q (.int a) H) := ⟨w_intI⟩
theorem w_intB {b : Bool} (k : Q (.int (if b then 1 else 0)) H) : rInt1 [.bl b] H Q := .inr ⟨b, rfl, k⟩
instance {b : Bool} : Wk0 (rInt1 [.bl b] H Q) (Q (.int (if b then 1 else 0)) H) := ⟨w_intB⟩
def rIntS : List V → Hp → VK → Prop := fun xs H Q => ∃ a n, xs = [.str a] ∧ PySem.intText? a = some n ∧ a.length ≤ 640 ∧ Q (.int n) H
theorem call_intS {X : Cx} : CallR X (.type "int") rIntS := call_int_str
theorem w_intS {a : List Nat} {n : Int} (h : PySem.intText? ⟨a.toArray⟩ = some n) (z : a.length ≤ 640) (k : Q (.int n) H) : rIntS [T a] H Q := ⟨_, n, rfl, h, by rw [len_T]; exact z, k⟩
def rMax2 : List V → Hp → VK → Prop := fun xs H Q => ∃ i j, xs = [.int i, .int j] ∧ Q (.int (if j > i then j else i)) H
theorem call_maxI {X : Cx} (hc : X.calm = true) : CallR X (.builtin "max") rMax2 := call_max2 hc
theorem w_max {a b : Int} (k : Q (.int (if b > a then b else a)) H) : rMax2 [.int a, .int b] H Q := ⟨a, b, rfl, k⟩
instance {a b : Int} : Wk0 (rMax2 [.int a, .int b] H Q) (Q (.int (if b > a then b else a)) H) := ⟨w_max⟩
def rStrI : List V → Hp → VK → Prop := fun xs H Q => ∃ i : Int, xs = [.int i] ∧ i.natAbs.log2 < 1920 ∧ Q (.str (toString i)) H
theorem call_strI {X : Cx} : CallR X (.type "str") rStrI := call_str_int
def rListOf (K : PySem.W.Frag) : List V → Hp → VK → Prop := fun xs H Q => ∃ p ys, xs = [.ref p] ∧ (SqL K H p ys ∨ SqT K H p ys) ∧ ∀ l, H l = none → Q (.ref l) (upd H l (.lst ys))
theorem call_listOf {X : Cx} : CallR X (.type "list") (rListOf X.K) := call_list_of
theorem w_listOf {p : Addr} {ys : List V} (h : SqL K H p ys) (k : ∀ l, H l = none → Q (.ref l) (upd H l (.lst ys))) : rListOf K [.ref p] H Q := ⟨p, ys, rfl, .inl h, k⟩
def rOrd : List V → Hp → VK → Prop := fun xs H Q => ∃ x, xs = [.str x] ∧ x.length = 1 ∧ Q (.int (x.cps.getD 0 0 : Nat)) H
theorem call_ordS {X : Cx} : CallR X (.builtin "ord") rOrd := call_ord
theorem w_ord {c : Nat} (k : Q (.int (c : Int)) H) : rOrd [T [c]] H Q := ⟨_, rfl, rfl, k⟩
instance {c : Nat} : Wk0 (rOrd [T [c]] H Q) (Q (.int (c : Int)) H) := ⟨w_ord⟩
/-- a text within a text: one sign -/
def rInC : R2 := fun x y H Q => ∃ (c : Nat) (z : Str), x = .str ⟨#[c]⟩ ∧ y = .str z ∧ Q (.bl (decide (c ∈ z.cps.toList))) H
theorem op_inC {X : Cx} : OpR X (compareOp .In) rInC := op_in_sign
theorem w_inC {c : Nat} {a : List Nat} (k : Q (.bl (decide (c ∈ a))) H) : rInC (T [c]) (T a) H Q := ⟨c, _, rfl, rfl, k⟩
instance {c : Nat} {a : List Nat} : Wk0 (rInC (T [c]) (T a) H Q) (Q (.bl (decide (c ∈ a))) H) := ⟨w_inC⟩
def rNinC : R2 := fun x y H Q => ∃ (c : Nat) (z : Str), x = .str ⟨#[c]⟩ ∧ y = .str z ∧ Q (.bl (!decide (c ∈ z.cps.toList))) H
theorem op_ninC {X : Cx} : OpR X (compareOp .NotIn) rNinC := op_notIn_sign
theorem w_ninC {c : Nat} {a : List Nat} (k : Q (.bl (!decide (c ∈ a))) H) : rNinC (T [c]) (T a) H Q := ⟨c, _, rfl, rfl, k⟩
instance {c : Nat} {a : List Nat} : Wk0 (rNinC (T [c]) (T a) H Q) (Q (.bl (!decide (c ∈ a))) H) := ⟨w_ninC⟩
/-- a text among texts -/
theorem eqV_T (a b : List Nat) : eqV (T a) (T b) = decide (a = b) := by
  show ((⟨a.toArray⟩ : Str) == ⟨b.toArray⟩) = _
  by_cases h : a = b
  · subst h; simp
  · rw [decide_eq_false h]
    exact beq_eq_false_iff_ne.mpr fun e => h (T_inj (congrArg V.str e))
theorem inV_T (a : List Nat) (l : List (List Nat)) : inV (T a) (l.map T) = decide (a ∈ l) := by
  induction l with
  | nil => rfl
  | cons b l ih =>
    unfold inV at *
    rw [List.map_cons, List.any_cons, ih, eqV_T]
    by_cases h : b = a
    · subst h; simp
    · have h2 : ¬ a = b := fun e => h e.symm
      simp [h, h2]
theorem flat_T (l : List (List Nat)) : (l.map T).all flatV = true := by
  induction l with
  | nil => rfl
  | cons b l ih => rw [List.map_cons, List.all_cons, ih]; rfl
theorem w_inL {a : List Nat} {p : Addr} {l : List (List Nat)} (h : SqL K H p (l.map T)) (k : Q (.bl (decide (a ∈ l))) H) : rIn K false (T a) (.ref p) H Q :=
  ⟨p, _, rfl, .inl h, rfl, flat_T l, by rw [if_neg Bool.false_ne_true, inV_T]; exact k⟩
theorem w_inT {a : List Nat} {p : Addr} {l : List (List Nat)} (h : SqT K H p (l.map T)) (k : Q (.bl (decide (a ∈ l))) H) : rIn K false (T a) (.ref p) H Q :=
  ⟨p, _, rfl, .inr h, rfl, flat_T l, by rw [if_neg Bool.false_ne_true, inV_T]; exact k⟩
/-- lists and tuples at places -/
theorem w_ixL {p : Addr} {xs : List V} {j : Int} (h : SqL K H p xs) (e : atI xs j = some v) (k : Q v H) : rIxL K (.ref p) (.int j) H Q := ⟨p, xs, j, v, rfl, rfl, h, e, k⟩
theorem w_ixT {p : Addr} {xs : List V} {j : Int} (h : SqT K H p xs) (e : atI xs j = some v) (k : Q v H) : rIxT K (.ref p) (.int j) H Q := ⟨p, xs, j, v, rfl, rfl, h, e, k⟩
theorem w_setL {p : Addr} {xs : List V} {j : Int} {n : Nat} {G : Hp → Prop} (h : H p = some (.lst xs)) (e : ixN xs.length j = some n) (k : G (upd H p (.lst (xs.set n v)))) : rSetL (.ref p) (.int j) v H G := ⟨p, xs, j, n, rfl, rfl, h, e, k⟩
theorem w_append {p : Addr} {xs : List V} (h : H p = some (.lst xs)) (z : xs.length ≤ 1000000) (k : Q .non (upd H p (.lst (xs ++ [y])))) : rAppend (.ref p) [y] H Q :=
  ⟨p, xs, y, rfl, rfl, h, Nat.lt_of_le_of_lt z (by decide), k⟩
theorem w_cat {p q : Addr} {xs ys : List V} (hp : H p = some (.lst xs)) (hq : H q = some (.lst ys)) (z : xs.length + ys.length ≤ 1000000) (k : ∀ a, H a = none → Q (.ref a) (upd H a (.lst (xs ++ ys)))) : rCat (.ref p) (.ref q) H Q :=
  ⟨p, q, xs, ys, rfl, rfl, hp, hq, Nat.le_trans z (by decide), k⟩
theorem tyL {p : Addr} {xs : List V} (h : SqL K H p xs) : tyV K "list" (.ref p) H := .inl ⟨rfl, xs, h⟩
theorem tyS {a : List Nat} : tyV K "str" (T a) H := rfl
end

/-! new objects, the heap a letter -/
theorem same_new0 {p : Addr} {H : Hp} {o : HO} (h : H p = none) : Same H (upd H p o) := fun b u e => by
  rw [upd_ne (ne_of_none e h)]; exact e
section
variable {H : Hp} {Q : VK} {xs ys : List V} {K : PySem.W.Frag}
theorem w_newL (z : xs.length ≤ 1000000) (k : ∀ p H1, H p = none → Same H H1 → H1 p = some (.lst xs) → Q (.ref p) H1) : NewL xs H Q :=
  ⟨Nat.le_trans z (by decide), fun p hp => k p _ hp (same_new0 hp) upd_same⟩
theorem w_newT (z : xs.length ≤ 1000000) (k : ∀ p H1, H p = none → Same H H1 → H1 p = some (.tup xs) → Q (.ref p) H1) : NewT xs H Q :=
  ⟨Nat.le_trans z (by decide), fun p hp => k p _ hp (same_new0 hp) upd_same⟩
theorem w_cat2 {p q : Addr} (hp : H p = some (.lst xs)) (hq : H q = some (.lst ys)) (z : xs.length + ys.length ≤ 1000000) (k : ∀ a H1, H a = none → Same H H1 → H1 a = some (.lst (xs ++ ys)) → Q (.ref a) H1) : rCat (.ref p) (.ref q) H Q :=
  w_cat hp hq z fun a ha => k a _ ha (same_new0 ha) upd_same
theorem w_list2 {p : Addr} (h : SqL K H p ys) (k : ∀ l H1, H l = none → Same H H1 → H1 l = some (.lst ys) → Q (.ref l) H1) : rListOf K [.ref p] H Q := w_listOf h fun l hl => k l _ hl (same_new0 hl) upd_same
theorem w_app2 {p : Addr} {y : V} (h : H p = some (.lst xs)) (z : xs.length ≤ 1000000) (k : ∀ H1, H1 p = some (.lst (xs ++ [y])) → (∀ b o, b ≠ p → H b = some o → H1 b = some o) → Q .non H1) : rAppend (.ref p) [y] H Q :=
  w_append h z (k _ upd_same fun b o n e => by rw [upd_ne n]; exact e)
end

/-! loops -/
def ForR (g : TG) (tb : TS) (vs : List V) (D : Ends) (σ : L2.St) (H : Hp) : Prop := ∃ j : Int, vs = [.int j] ∧ -(2 ^ 62) ≤ j ∧ j < 2 ^ 62 ∧ ∃ W : Nat → Nat → L2.St → Hp → Prop, (∃ m, W 0 m σ H) ∧ ∀ i m σ H, W i m σ H →
  ((Itr 0 j.toNat).stop i H ∧ D.nx σ H) ∨ ((Itr 0 j.toNat).go i H ∧ ∃ N : L2.St → Hp → Prop, (∀ σ' H', N σ' H' → ∃ m', m' < m ∧ W (i + 1) m' σ' H') ∧ ∀ x H', (Itr 0 j.toNat).yld i H x H' → g x σ H' fun σ2 H2 => tb { D with nx := N, ct := N, bk := D.nx } σ2 H2)
def ForL (K : PySem.W.Frag) (g : TG) (tb : TS) (x : V) (D : Ends) (σ : L2.St) (H : Hp) : Prop := ∃ a, x = .ref a ∧ (∃ xs, SqL K H a xs) ∧ ∃ W : Nat → Nat → L2.St → Hp → Prop, (∃ m, W 0 m σ H) ∧ ∀ i m σ H, W i m σ H →
  ((Itl K a).stop i H ∧ D.nx σ H) ∨ ((Itl K a).go i H ∧ ∃ N : L2.St → Hp → Prop, (∀ σ' H', N σ' H' → ∃ m', m' < m ∧ W (i + 1) m' σ' H') ∧ ∀ x H', (Itl K a).yld i H x H' → g x σ H' fun σ2 H2 => tb { D with nx := N, ct := N, bk := D.nx } σ2 H2)
def ForT (K : PySem.W.Frag) (g : TG) (tb : TS) (x : V) (D : Ends) (σ : L2.St) (H : Hp) : Prop := ∃ a, x = .ref a ∧ (∃ xs, SqT K H a xs) ∧ ∃ W : Nat → Nat → L2.St → Hp → Prop, (∃ m, W 0 m σ H) ∧ ∀ i m σ H, W i m σ H →
  ((Itt K a).stop i H ∧ D.nx σ H) ∨ ((Itt K a).go i H ∧ ∃ N : L2.St → Hp → Prop, (∀ σ' H', N σ' H' → ∃ m', m' < m ∧ W (i + 1) m' σ' H') ∧ ∀ x H', (Itt K a).yld i H x H' → g x σ H' fun σ2 H2 => tb { D with nx := N, ct := N, bk := D.nx } σ2 H2)
def ForS (g : TG) (tb : TS) (x : V) (D : Ends) (σ : L2.St) (H : Hp) : Prop := ∃ z, x = .str z ∧ ∃ W : Nat → Nat → L2.St → Hp → Prop, (∃ m, W 0 m σ H) ∧ ∀ i m σ H, W i m σ H →
  ((Its z).stop i H ∧ D.nx σ H) ∨ ((Its z).go i H ∧ ∃ N : L2.St → Hp → Prop, (∀ σ' H', N σ' H' → ∃ m', m' < m ∧ W (i + 1) m' σ' H') ∧ ∀ x H', (Its z).yld i H x H' → g x σ H' fun σ2 H2 => tb { D with nx := N, ct := N, bk := D.nx } σ2 H2)
section
variable {σ : L2.St} {H : Hp} {D : Ends} {ta : TA} {te : TE} {g : TG} {tb : TS} {K : PySem.W.Frag}
theorem w_forR (k : ta σ H fun vs H1 => ForR g tb vs D σ H1) : tFor (iRng1 ta) g tb D σ H := k
instance  : Wk0 (tFor (iRng1 ta) g tb D σ H) (ta σ H fun vs H1 => ForR g tb vs D σ H1) := ⟨w_forR⟩
theorem w_forL (k : te σ H fun x H1 => ForL K g tb x D σ H1) : tFor (iList K te) g tb D σ H := k
instance  : Wk0 (tFor (iList K te) g tb D σ H) (te σ H fun x H1 => ForL K g tb x D σ H1) := ⟨w_forL⟩
theorem w_forT (k : te σ H fun x H1 => ForT K g tb x D σ H1) : tFor (iTup K te) g tb D σ H := k
instance  : Wk0 (tFor (iTup K te) g tb D σ H) (te σ H fun x H1 => ForT K g tb x D σ H1) := ⟨w_forT⟩
theorem w_forS (k : te σ H fun x H1 => ForS g tb x D σ H1) : tFor (iStr te) g tb D σ H := k
instance  : Wk0 (tFor (iStr te) g tb D σ H) (te σ H fun x H1 => ForS g tb x D σ H1) := ⟨w_forS⟩
/-- what holds ahead of turn i; a turn; the end -/
theorem for_R {j : Int} (Pv : Nat → L2.St → Hp → Prop) (b0 : 0 ≤ j) (b1 : j < 1000000) (h0 : Pv 0 σ H) (hs : ∀ (i : Nat) σ H, (i : Int) < j → Pv i σ H → g (.int (0 + (i : Int))) σ H fun σ2 H2 => tb { D with nx := Pv (i + 1), ct := Pv (i + 1), bk := D.nx } σ2 H2)
    (hd : ∀ σ H, Pv j.toNat σ H → D.nx σ H) : ForR g tb [.int j] D σ H :=
  ⟨j, rfl, by omega, by omega, for_range (lo := 0) (n := j.toNat) Pv h0 (fun i σ H hi p => hs i σ H (by omega) p) hd⟩
theorem for_L {a : Addr} {xs : List V} (Pv : Nat → L2.St → Hp → Prop) (h0 : Pv 0 σ H) (hl : ∀ i σ H, i ≤ xs.length → Pv i σ H → SqL K H a xs) (hs : ∀ i x σ H, xs[i]? = some x → Pv i σ H → g x σ H fun σ2 H2 => tb { D with nx := Pv (i + 1), ct := Pv (i + 1), bk := D.nx } σ2 H2)
    (hd : ∀ σ H, Pv xs.length σ H → D.nx σ H) : ForL K g tb (.ref a) D σ H :=
  ⟨a, rfl, ⟨xs, hl 0 σ H (Nat.zero_le _) h0⟩, for_list (xs := xs) Pv h0 hl hs hd⟩
theorem for_T {a : Addr} {xs : List V} (Pv : Nat → L2.St → Hp → Prop) (h0 : Pv 0 σ H) (hl : ∀ i σ H, i ≤ xs.length → Pv i σ H → SqT K H a xs) (hs : ∀ i x σ H, xs[i]? = some x → Pv i σ H → g x σ H fun σ2 H2 => tb { D with nx := Pv (i + 1), ct := Pv (i + 1), bk := D.nx } σ2 H2)
    (hd : ∀ σ H, Pv xs.length σ H → D.nx σ H) : ForT K g tb (.ref a) D σ H :=
  ⟨a, rfl, ⟨xs, hl 0 σ H (Nat.zero_le _) h0⟩, for_tup (xs := xs) Pv h0 hl hs hd⟩
theorem for_S {cs : List Nat} (Pv : Nat → L2.St → Hp → Prop) (h0 : Pv 0 σ H) (hs : ∀ i c σ H, cs[i]? = some c → Pv i σ H → g (T [c]) σ H fun σ2 H2 => tb { D with nx := Pv (i + 1), ct := Pv (i + 1), bk := D.nx } σ2 H2)
    (hd : ∀ σ H, Pv cs.length σ H → D.nx σ H) : ForS g tb (T cs) D σ H := by
  refine ⟨⟨cs.toArray⟩, rfl, fun i m σ H => m = cs.length - i ∧ i ≤ cs.length ∧ Pv i σ H, ⟨cs.length, by simp, Nat.zero_le _, h0⟩, ?_⟩
  rintro i m σ H ⟨rfl, hi, p⟩
  by_cases hlt : i < cs.length
  · refine .inr ⟨by show i < cs.toArray.size; simpa using hlt, Pv (i + 1), fun σ' H' p' => ⟨cs.length - (i + 1), by omega, rfl, hlt, p'⟩, fun x H' y => ?_⟩
    obtain ⟨e, c, hc, rfl⟩ := y
    subst e
    have hc' : cs[i]? = some c := by simpa using hc
    exact hs i c σ _ hc' p
  · have e : i = cs.length := by omega
    subst e
    exact .inl ⟨by show cs.toArray.size ≤ cs.length; simp, hd σ H p⟩
/-- while by a word and a measure, the test a letter -/
theorem pe_c0 {X : Cx} {k j : Nat} {x : Str} {sp : Sp} {dvs : List V} {p pos : Pos} (c : C8.Cal X.prog X.w X.K X.mg X.base k x sp dvs) (hr : Room j X.A) (hk : k ≤ j) (hg : Gl X x) (hdb : (x == ("__debug__" : Str)) = false := by decide) :
    PE X (.Call (.Name x p) [] [] pos) (tCall sp dvs L2.E0 tNil) := by
  obtain ⟨f, fd, ps, ds, F, hm, kp, b, d⟩ := c.ex
  exact pe_call0 F (hr.mono hk) hg hm kp b d pass0 hdb
end

/-! heaps: what stands apart from one object -/
/-- all but the object at S is as it was (and more may stand) -/
def Fr (S : Addr) (H H' : Hp) : Prop := ∀ b o, b ≠ S → H b = some o → H' b = some o
theorem Fr.refl (S : Addr) (H : Hp) : Fr S H H := fun _ _ _ h => h
theorem Fr.trans {S : Addr} {H H1 H2 : Hp} (a : Fr S H H1) (b : Fr S H1 H2) : Fr S H H2 := fun c o n h => b c o n (a c o n h)
theorem Fr.new {S p : Addr} {H : Hp} {o : HO} (h : H p = none) : Fr S H (upd H p o) := fun b u _ e => by
  rw [upd_ne (ne_of_none e h)]; exact e
theorem Fr.own {S : Addr} {H : Hp} {o : HO} : Fr S H (upd H S o) := fun b u n e => by
  rw [upd_ne n]; exact e
theorem Fr.to {S : Addr} {H H1 H2 : Hp} (a : Fr S H H1) (b : Same H1 H2) : Fr S H H2 := fun c o n h => b c o (a c o n h)
theorem Same.fr {S : Addr} {H H1 : Hp} (b : Same H H1) : Fr S H H1 := fun c o _ h => b c o h
theorem same_new {p : Addr} {H : Hp} {o : HO} (h : H p = none) : Same H (upd H p o) := fun b u e => by
  rw [upd_ne (ne_of_none e h)]; exact e
theorem Fr.sqL {S a : Addr} {K : PySem.W.Frag} {H H' : Hp} {xs : List V} (f : Fr S H H') (n : a ≠ S) (h : SqL K H a xs) : SqL K H' a xs := by
  rcases h with (h | ⟨o, h⟩) | h
  · exact .inl (.inl (f _ _ n h))
  · exact .inl (.inr ⟨o, f _ _ n h⟩)
  · exact .inr h
theorem Fr.sqT {S a : Addr} {K : PySem.W.Frag} {H H' : Hp} {xs : List V} (f : Fr S H H') (n : a ≠ S) (h : SqT K H a xs) : SqT K H' a xs := by
  rcases h with (h | ⟨o, h⟩) | h
  · exact .inl (.inl (f _ _ n h))
  · exact .inl (.inr ⟨o, f _ _ n h⟩)
  · exact .inr h
theorem Same.sqT {a : Addr} {K : PySem.W.Frag} {H H' : Hp} {xs : List V} (f : Same H H') (h : SqT K H a xs) : SqT K H' a xs := by
  rcases h with (h | ⟨o, h⟩) | h
  · exact .inl (.inl (f _ _ h))
  · exact .inl (.inr ⟨o, f _ _ h⟩)
  · exact .inr h
end Lv
/-! An own error whose __init__ tells its text to its base and keeps one field. -/
namespace PySem
namespace SrcX
open PySem.W PySem.Calls PyProof.Rows PySem.HandSPX
/-! ### the text of __init__: the parameter's name is a letter (at, name) -/
def msg : Str := "the source is wrong at position "
def eA : Arguments := { posonlyargs := [], args := [{ arg := "self", annotation := none, pos := ⟨39, 17, 39, 21⟩ }, { arg := "at", annotation := none, pos := ⟨39, 23, 39, 25⟩ }], vararg := none, kwonlyargs := [], kw_defaults := [], kwarg := none, defaults := [] }
def eB : List Stmt :=
  [.Expr (.Call (.Attribute (.Call (.Name "super" ⟨40, 8, 40, 13⟩) [] [] ⟨40, 8, 40, 15⟩) "__init__" ⟨40, 8, 40, 24⟩) [.JoinedStr [.Constant (.str msg) 0 ⟨40, 27, 40, 59⟩, .FormattedValue (.Name "at" ⟨40, 60, 40, 62⟩) (-1) none ⟨40, 59, 40, 63⟩] ⟨40, 25, 40, 64⟩] [] ⟨40, 8, 40, 65⟩) ⟨40, 8, 40, 65⟩,
   .Assign [.Attribute (.Name "self" ⟨41, 8, 41, 12⟩) "at" ⟨41, 8, 41, 15⟩] (.Name "at" ⟨41, 18, 41, 20⟩) ⟨41, 8, 41, 20⟩]
def eS : Scope := { kind := .function, names := [(PySem.Str.ofString "self", .local), (PySem.Str.ofString "at", .local), (PySem.Str.ofString "__class__", .free), (PySem.Str.ofString "super", .globalImplicit)], isGenerator := false, isCoroutine := false, more := [] }
/-- what the written part says of the class at C, and of its __init__, at fI; x: the field -/
structure SrcTxt (P : Program) (K : Frag) (mg : Str → Option Value) (nm : Str) (C fI : Addr) : Prop where
  gC : mg nm = some (.ref C)
  cls : ∃ nm q N bs bm sn sub ab col dd k0 k1 k2 k3 k5, K.lookup C = some (excClassObj nm q C N bs bm true sn sub ab col dd k0 k1 k2 k3 k5 "ValueError.__new__") ∧ refsVE bm = true
  sa : findIn K (.ref C) "__setattr__" = some (some (.builtin "object.__setattr__"))
  ga : findIn K (.ref C) "__getattribute__" = some (some (.builtin "BaseException.__getattribute__"))
  gg : findIn K (.ref C) "__getattr__" = some none
  noN : findIn K (.ref C) "at" = some none
  iC : findIn K (.ref C) "__init__" = some (some (.ref fI))
  tC : typeIn K (.ref fI) = some (.type "function")
  kC : keepIn K (.ref C) = true
  exC : subIn K (.ref C) (.type "BaseException") = some true
  veC : subIn K (.ref C) (.type "ValueError") = some true
  tyC : typeIn K (.ref C) = some (.type "type")
  hdC : hasDictIn K C = true
  te : exmOne K (.ref C) (.ref C) = some true
  op : nsIn K cStatics "thirdparty.any" = some none
  up : ks_superIn K C C "__init__" = some (some (.builtin "ValueError.__init__"))
  mr : mroIn K C (.ref C) = some true
  su : mg "super" = none
  top : (P.main.scope.names.lookup ("super" : Str)).isSome = false
  fn : ∃ (oc : Value) (od : Option Addr) (doc pm : Value) (an : Option Addr) (cda cc : Addr) (ct : Value) (osl : Array (Option Value)) (qual : Str) (ccl cl : Value) (cdd cld : Option Addr) (ccs csl : Array (Option Value)) (vs : Array Value) (file : Str) (tf : Tok),
    K.lookup fI = some ⟨oc, od, .func (fnX "__init__" qual eA eB eS [("__class__", cc)] .none .none doc pm an (.ref cda) ct), osl⟩ ∧ codeIn K (.ref cda) qual = true ∧
    K.lookup cda = some ⟨ccl, cdd, .fields vs, ccs⟩ ∧ vs[2]? = some (.str file tf) ∧ ((P.main.file : Str) == file) = true ∧ K.lookup cc = some ⟨cl, cld, .cell (some (.ref C)), csl⟩
/-- what __init__ leaves of a fresh exception at x -/
structure InitEnd (h h' : Heap) (e C dx t1 : Addr) (v : Value) : Prop where
  keep : ∀ b o, b ≠ e → h.get? b = some o → h'.get? b = some o
  obj : h'.get? e = some { cls := .ref C, dict := some dx, data := .fields #[.ref t1, .none, .none, .none, .bool false, .none] }
  dbig : h.objs.size ≤ dx
  dne : dx ≠ e
  ns : h'.Ns1 dx (fun y => if y = "at" then some v else none)
structure OwnMade (h h' : Heap) (e C d : Addr) (v : Value) : Prop where
  keep : ∀ b o, h.get? b = some o → h'.get? b = some o
  new : h.objs.size ≤ e
  obj : ∃ oe vs, h'.get? e = some oe ∧ oe.cls = .ref C ∧ oe.dict = some d ∧ oe.data = .fields vs ∧ vs[1]? = some .none
  dbig : h.objs.size ≤ d
  dne : d ≠ e
  ns : h'.Ns1 d (fun y => if y = "at" then some v else none)
theorem one_size (v : Value) : [v].length ≤ sizeLine := by
  rw [sizeLine_eq]
  exact (by decide : 1 ≤ 16777216)
section
variable {prog : Program} {w : World} {A : Around} {E : Value → Shared → Prop} {R : Result → Shared → Prop} {s : Shared} {K : Frag} {mg mb : Str → Option Value} {nm : Str} {C fI : Addr}
/-- the base's __init__, bound, called with one value: the args are laid anew -/
theorem call_mw {h : Heap} {g : Array GenState} {d : Drawn} {t : Nat} {os : OsState} {u e t0 : Addr} {rest : List Value} {Q : Value → Shared → Prop} {nm q : Str} {N : Addr} {bs bm : List Value} {hdct : Bool} {sn : List Str} {sub : List Value} {ab : Bool} {col : Option Bool} {dd : Option Addr} {k0 k1 k2 k3 k5 : Option Value}
    (hC : h.get? C = some (excClassObj nm q C N bs bm hdct sn sub ab col dd k0 k1 k2 k3 k5 "ValueError.__new__")) (he : h.get? e = some (excO C t0)) (hu : h.get? u = some (kxs_mw "ValueError.__init__" e)) (hrest : rest.length ≤ sizeLine)
    (hq : ∀ h' t1, (∀ b o, b ≠ e → h.get? b = some o → h'.get? b = some o) → h'.get? e = some (excO C t1) → Q .none ⟨h', g, d, t, os⟩) :
    wpAny (model prog w) A (call (.ref u) rest) Q E ⟨h, g, d, t, os⟩ := by
  refine wpAny_call (codeAny_of_tree ?_)
  show wpAny _ A.in1 (callAny (.ref u) ⟨rest, []⟩) _ _ _
  simp only [callAny]
  refine wpAny_bind (wpAny_load hu ?_)
  simp only [kxs_mw, show (Value.type "method-wrapper" == Value.type "method" || Value.type "method-wrapper" == Value.type "builtin_function_or_method" || Value.type "method-wrapper" == Value.type "method-wrapper") = true by decide, if_true]
  refine KFB.if_so (by decide) ?_
  refine wpAny_bind (check_bound_init F.excBase_ValueError.toExcCallFacts hC he rfl ?_)
  refine wpAny_bind (wpAny_pure (wpAny_pure ?_))
  refine ⟨plainId_quiet F.excBase_ValueError.init.plain _, codeAny_builtin F.excBase_ValueError.initEntry ?_⟩
  exact exc_init_tree (cls := .ref C) (t0 := t0) (dv := none) (c2 := .none) (c3 := .none) (b4 := .bool false) he hrest fun h' k e' _ => hq h' _ k e'
theorem ldN {M : Model} {env : Env} {m : Str → Option Value} {x : Str} {pos : Pos} {v : Value} {Q : Value → Shared → Prop} (hn : s.heap.Ns env.locals m) (hv : m x = some v) (h : Q v s)
    (hk : env.scope.kind = .function := by rfl) (hl : env.kindOf x = some .local := by rfl) (hd : (x == ("__debug__" : Str)) = false := by decide) :
    wpAny M A (eval (.Name x pos) env) Q E s := wpAny_Name (wpAny_loadName_local hk hl hn hv h) hd
theorem src_init (T : SrcTxt prog K mg nm C fI) {e t0 : Addr} {v : Int} {tv : Tok} (hv : v.natAbs.log2 < 1920) (X : K.In s.heap) (hlim : s.heap.NoLimit) (hg : s.heap.Ns mainGlobals mg) (hb : s.heap.Ns builtinsNs mb) (hmb : mb "super" = some (.type "super"))
    (hx : s.heap.get? e = some (excO C t0)) (hnx : K.lookup e = none) (hroom : A.depth < recursionLimit)
    (hq : ∀ h' tk dx t1, InitEnd s.heap h' e C dx t1 (.int v tv) → R (.ok (.ret .none)) { s with heap := h', toks := tk }) :
    codeAny (model prog w) A (.call (.ref fI) ⟨[.ref e, .int v tv], []⟩) R s := by
  obtain ⟨oc, od, doc, pm, an, cda, cc, ct, osl, qual, ccl, cl, cdd, cld, ccs, csl, vs, file, tf, ho, hcd, hcode, hvs, hfile, hcell⟩ := T.fn
  obtain ⟨nm', q, N, bs, bm, sn, sub, ab, col, dd, k0, k1, k2, k3, k5, hC, hbm⟩ := T.cls
  have hcl : clsIn K C = some { name := nm', bases := bs, mro := .ref C :: bm, ns := N, qualname := q, hasDict := true, slotNames := sn, subclasses := sub, abstract := ab, collection := col, hasDel := false } := by unfold clsIn; rw [hC] <;> rfl
  refine ks_codeAny_call_defAt (binds := [("self", .ref e), ("at", .int v tv)]) hroom (X _ _ ho) rfl hlim (codeRec_of X hcd) rfl (BindsTo.of_eq ?b1) (show ∀ y ∈ eS.names, y.2 ≠ .cell by decide +kernel) (locs rfl) (fun h₁ hns k => ?_) rfl rfl rfl
  case b1 => first | rfl | with_unfolding_all rfl
  have I1 : InstAt s.heap e (excO C t0) C none := ⟨hx, rfl, rfl, trivial⟩
  have hne : e ≠ C := ks_ne X I1 hcl
  obtain ⟨hp, g, d, t, os⟩ := s
  have X₁ : K.In h₁ := X.keeps k
  have hx₁ := k _ _ hx
  -- super().__init__(f'..')
  refine ks_wpAt_execs_cons (ks_wpAt_Expr_any (ks_wpAt_MethodCall ?_ (by with_unfolding_all rfl)))
  have hoH := X₁ _ _ ho
  have hcodeH := X₁ _ _ hcode
  refine' ks_wpAt_super_base (attr := "__init__") (body := eB) (f := fI) (cc := cda) ?a1 ?a2 ?a3 ?a4 ?a5 ?a6 ?a7 ?a8 ?a9 ?a10 hvs hfile T.top ?_
  case a5 => exact hoH
  case a9 => exact hcodeH
  case a1 => rfl
  case a2 => rfl
  case a3 => decide
  case a4 => rfl
  case a6 => rfl
  case a7 => rfl
  case a8 => rfl
  case a10 => rfl
  have hG : h₁.Ns mainGlobals mg := hg.keeps k
  have hB : h₁.Ns builtinsNs mb := hb.keeps k
  refine ks_loadName_global rfl rfl (loadGlobal_builtin hG T.su hB hmb ⟨rfl, ?_⟩)
  refine wpAny_loadName_free rfl rfl rfl ⟨_, X₁ _ _ hcell, rfl⟩ ?_
  refine wpAny_loadName_local rfl rfl hns rfl ?_
  have hCC := X₁ _ _ hC
  refine ks_wpAny_isType_cls hCC rfl ⟨rfl, ?_⟩
  refine ks_wpAny_call_super hCC rfl hx₁ rfl (fun c z => by cases z) (looks_mroIn X₁ T.mr) (fun h₂ hso k₂ => ?_)
  have X₂ : K.In h₂ := X₁.keeps k₂
  have hx₂ := k₂ _ _ hx₁
  have I2 : InstAt h₂ e (excO C t0) C none := ⟨hx₂, rfl, rfl, trivial⟩
  have hI : Looks (model prog w) h₂ (isInstance (.ref e) (.type "ValueError")) true := I2.type.andThen (looks_subIn X₂ T.veC)
  have hup : alongIn K "__init__" (((.ref C :: bm : List Value).dropWhile (· != .ref C)).drop 1) = some (some (.builtin "ValueError.__init__")) := by
    have := T.up
    unfold ks_superIn at this
    rw [hcl] at this
    exact this
  refine kxs_getMethod kxs_ValueError hso (looks_opaque X₂ T.op) (l₀ := .ref C :: bm) ?lk rfl X₂ hup hI hne (by decide) ?_
  case lk => exact fun A Q E s k q => wpAny_bind ((looks_clsIn X₂ hcl) A _ E s k (wpAny_pure q))
  refine kxs_callWith (i := "ValueError.__init__") (x := e) rfl (evalArgs_plain ?_)
  refine Calls.spliced_cons ?_
  -- the text
  have hn₂ : h₂.Ns hp.objs.size _ := hns.keeps k₂
  have hn₃ : (h₂.push (kxs_mw "ValueError.__init__" e)).Ns hp.objs.size _ := hn₂.keeps fun b o z => Heap.get?_push_of_some _ z
  refine wpAny_JoinedStr (pos := ⟨40, 25, 40, 64⟩) ?_
  refine Calls.Constant_str (x := msg) (k := 0) (pos := ⟨40, 27, 40, 59⟩) ?_
  refine ⟨_, _, rfl, by decide +kernel, ?_⟩
  refine wpAny_FormattedValue_plain (value := .Name "at" ⟨40, 60, 40, 62⟩) (pos := ⟨40, 59, 40, 63⟩) (ldN (env := callEnv (fnX "__init__" qual eA eB eS [("__class__", cc)] .none .none doc pm an (.ref cda) ct) hp.objs.size fI) hn₃ rfl (wpAny_formatField_int hv ?_))
  have hsz : ((Str.empty ++ msg) ++ Str.ofString (toString v)).length ≤ sizeLine := by
    rw [strLen_append, PySem.ofString_length, show (Str.empty ++ msg).length = 32 by decide +kernel, sizeLine_eq]
    have := int_text_length_le (k := 1920) (by decide) hv
    omega
  refine ⟨_, _, rfl, hsz, ?_⟩
  refine ⟨hsz, ?_⟩
  refine Calls.spliced_nil ?_
  have hu₃ : (h₂.push (kxs_mw "ValueError.__init__" e)).get? h₂.objs.size = some (kxs_mw "ValueError.__init__" e) := Heap.get?_push_at rfl rfl
  refine ⟨hu₃, ?_⟩
  have k₃ : ∀ b o, h₂.get? b = some o → (h₂.push (kxs_mw "ValueError.__init__" e)).get? b = some o := fun b o z => Heap.get?_push_of_some _ z
  have X₃ : K.In (h₂.push (kxs_mw "ValueError.__init__" e)) := X₂.keeps k₃
  refine call_mw (X₃ _ _ hC) (k₃ _ _ hx₂) hu₃ (one_size _) fun h₄ t1 k₄ hx₄ => ?_
  have X₄ : K.In h₄ := fun a o z => by
    by_cases ha : a = e
    · subst ha
      have := X₃ _ _ z
      have y := k₃ _ _ hx₂
      rw [this] at y
      have nK : K.lookup a = none := hnx
      rw [nK] at z
      cases z
    · exact k₄ _ _ ha (X₃ _ _ z)
  have hn₄ : h₄.Ns hp.objs.size _ := hn₃.at fun o z => k₄ _ _ (Nat.ne_of_gt (Heap.lt_size hx)) z
  -- self.at = at
  refine wpAt_of_wpAny ?_
  refine wpAny_execs_cons (plainObj_wpAny_Assign_Attribute ?_)
  refine ldN (v := .int v tv) hn₄ rfl (ldN (v := .ref e) hn₄ rfl ?_)
  refine set_plain X₄ (ox := excO C t1) (od := none) ⟨hx₄, rfl, rfl, trivial⟩ T.sa ?_
  refine exc_osa X₄ hx₄ hcl (show refsVE (.ref C :: bm) = true from hbm) rfl T.noN (fun h₅ tk₅ dx k₅ dn dne hx₅ hn₅ => ?_)
  refine wpAny_execs_nil ?_
  have keepAll : ∀ b o, b ≠ e → hp.get? b = some o → h₅.get? b = some o := fun b o hb z => k₅ b o hb (k₄ b o hb (k₃ _ _ (k₂ _ _ (k _ _ z))))
  refine hq h₅ tk₅ dx t1 ⟨keepAll, hx₅, ?_, dne, hn₅⟩
  exact Nat.le_trans (Nat.le_of_lt hn₄.lt) dn
theorem src_made (T : SrcTxt prog K mg nm C fI) {v : Int} {tv : Tok} (hv : v.natAbs.log2 < 1920) (X : K.In s.heap) (hlim : s.heap.NoLimit) (hg : s.heap.Ns mainGlobals mg) (hb : s.heap.Ns builtinsNs mb) (hmb : mb "super" = some (.type "super")) (hroom : A.depth + 1 < recursionLimit)
    (hq : ∀ h' tk e d, OwnMade s.heap h' e C d (.int v tv) → R (.ok (.ret (.ref e))) { s with heap := h', toks := tk }) :
    codeAny (model prog w) A (.call (.ref C) ⟨[.int v tv], []⟩) R s := by
  obtain ⟨nm, q, N, bs, bm, sn, sub, ab, col, dd, k0, k1, k2, k3, k5, hC, hbm⟩ := T.cls
  obtain ⟨hp, g, dr, tk, os⟩ := s
  have k : ∀ b o, hp.get? b = some o → ((hp.push (kdv_tup [.int v tv])).push (excO C hp.objs.size)).get? b = some o := fun b o e => Heap.get?_push_of_some _ (Heap.get?_push_of_some _ e)
  have hget : ((hp.push (kdv_tup [.int v tv])).push (excO C hp.objs.size)).get? (hp.objs.size + 1) = some (excO C hp.objs.size) := by heap_get
  have hnx : K.lookup (hp.objs.size + 1) = none := by
    cases e : K.lookup (hp.objs.size + 1) with
    | none => rfl
    | some o =>
      have z : hp.get? (hp.objs.size + 1) = some o := X _ _ e
      exact absurd (Nat.lt_of_succ_lt (Heap.lt_size z)) (Nat.lt_irrefl _)
  refine call_own F.excBase_ValueError (fun X => refsVE_contains X bm hbm) (X _ _ hC) (looks_findIn X T.iC) (fun self => bind_fn X self T.tC) (one_size _) ?_
  refine src_init (s := ⟨(hp.push (kdv_tup [.int v tv])).push (excO C hp.objs.size), g, dr, tk, os⟩) T hv (X.keeps k) (hlim.keeps k) (hg.keeps k) (hb.keeps k) hmb hget hnx ?_ fun h' tk' dx t1 ⟨k', hx, dn, dne, hns⟩ => ?_
  · show A.depth + 1 < recursionLimit
    exact hroom
  · have old : ∀ b o, hp.get? b = some o → h'.get? b = some o := fun b o e => k' b o (Nat.ne_of_lt (Nat.lt_succ_of_lt (Heap.lt_size e))) (k b o e)
    have z : hp.objs.size + 1 + 1 ≤ dx := by
      first
        | (simpa only [Heap.size_push] using dn)
        | exact dn
        | (have q := dn; rw [Heap.size_push, Heap.size_push] at q; exact q)
    exact ⟨rfl, hq h' tk' (hp.objs.size + 1) dx ⟨old, Nat.le_succ _, ⟨_, _, hx, rfl, rfl, rfl, rfl⟩, Nat.le_trans (Nat.le_trans (Nat.le_succ _) (Nat.le_succ _)) z, dne, hns⟩⟩
end
end SrcX
end PySem
namespace L2
open PySem PySem.Spec PyProof.Rows
theorem relO_src {v : V} {v' : Value} (r : RelV v v') (f : Str) : RelO (List.lookup f [(("at" : Str), v)]) (if f = "at" then some v' else none) := by
  by_cases hw : f = "at"
  · subst hw
    rw [if_pos rfl]
    have q : List.lookup ("at" : Str) [(("at" : Str), v)] = some v := by simp [List.lookup]
    rw [q]
    exact r
  · rw [if_neg hw]
    have qw : (f == ("at" : Str)) = false := by simpa using hw
    have q2 : List.lookup f [(("at" : Str), v)] = none := by simp [List.lookup, qw]
    rw [q2]
    trivial
section
variable {X : Cx} {C fI : Addr} {nm : Str}
/-- C(e), e an int -/
def tMkSrc (C : Addr) (ta : TA) : St → Hp → XK → Prop := fun σ H Q => ta σ H fun vs H1 => ∃ v : Int, vs = [.int v] ∧ v.natAbs.log2 < 1920 ∧ ∀ d, H1 d = none → Q (.ref C) (some d) (upd H1 d (.xd [(("at" : Str), .int v)]))
theorem pmk_src {a : Expr} {ta : TA} {p pos : Pos} {k : Nat} (T : PySem.SrcX.SrcTxt X.prog X.K X.mg nm C fI) (hr : Room k X.A) (ha : PA X [a] ta) (hg : Gl X nm := by rfl) (hdb : (nm == ("__debug__" : Str)) = false := by decide)
    (he : starEach (a :: []) X.env = (false, eval a X.env) :: starEach [] X.env := by rfl) (hpl : (backTo pos (starEach [] X.env)).any (·.1) = false := by rfl) :
    PMk X (.Call (.Name nm p) [a] [] pos) (tMkSrc C ta) := by
  intro pins s σ H Q I h
  refine wpAny_Call_Name_kw (ld_glob I hg T.gC ?_ hdb)
  refine PySem.W.callWith_K (h₀ := X.base) I.ok.mod.kin T.kC (thn (ha.run pos pins s σ H _ I h) fun us s1 hh => ?_) he hpl
  obtain ⟨vs, H1, I1, r1, v, ev, hv, q1⟩ := hh
  subst ev
  refine ⟨I1.kIn, ?_⟩
  cases r1 with
  | cons rv rn =>
    rename_i v' us'
    cases rn
    obtain ⟨tv, rfl⟩ := rv
    show wpAny _ _ (call (.ref C) [.int v tv]) _ _ _
    have hlim := I1.nolimit
    obtain ⟨mb, hb, hmb⟩ := I1.mod.blt
    have hb1 := hb.keeps I1.bk
    have hg1 := I1.mod.glob.keeps I1.bk
    have hsup : mb "super" = some (.type "super") := (hmb _ (by decide)).trans (by decide +kernel)
    obtain ⟨hp, g, dr, tk, os⟩ := s1
    refine wpAny_call (PySem.SrcX.src_made T hv I1.kIn hlim hg1 hb1 hsup (by have := hr.dp; omega) fun h' tk' e d M => ?_)
    show MkP X pins σ Q (.ref e) ⟨h', g, dr, tk', os⟩
    obtain ⟨oe, fv, hoe, hc, hd, hdat, h1⟩ := M.obj
    have hns := M.ns
    obtain ⟨G', g1, g2⟩ := restrict h' fun b => decide (b ≠ e)
    have gk : ∀ b, b ≠ e → G'.get? b = h'.get? b := fun b hb => g1 b (decide_eq_true hb)
    have ge : G'.get? e = none := g2 e (by simp)
    have old : ∀ b o, hp.get? b = some o → G'.get? b = some o := fun b o q => (gk b (Nat.ne_of_lt (Nat.lt_of_lt_of_le (Heap.lt_size q) M.new))).trans (M.keep b o q)
    have ob : ObjOk X.prog X.w (upd H1 d (.xd [(("at" : Str), .int v)])) G' d (.xd [(("at" : Str), .int v)]) :=
      ⟨_, hns.at (fun o q => (gk d M.dne).trans q), fun f => relO_src (v := .int v) (v' := .int v tv) ⟨tv, rfl⟩ f⟩
    have J : Inv X pins σ (upd H1 d (.xd [(("at" : Str), .int v)])) ⟨G', g, dr, tk', os⟩ := I1.laid (t' := tk') old M.dbig ob
    refine ⟨e, oe, fv, ⟨G', g, dr, tk', os⟩, _, .ref C, some d, rfl, J, fun b o q => ?_, ge, hoe, ⟨hc, hd⟩, hdat, h1, ?_, rfl, I1.bare, raises_own T.exC T.tyC, q1 d (I1.hok.fresh M.dbig)⟩
    · by_cases hb : b = e
      · have q' : G'.get? b = some o := q
        rw [hb, ge] at q'; cases q'
      · exact (gk b hb).symm.trans q
    · rw [upd_ne (Ne.symm M.dne)]
      exact I1.hok.fresh M.new
/-- raise C(e) -/
def tRaiseSrc (C : Addr) (W : WX) (ta : TA) : TS := fun _ σ H => tMkSrc C ta σ H fun cls d H' => W cls d σ H'
theorem ps_raiseSrc {a : Expr} {ta : TA} {W : WX} {p pos pos2 : Pos} {k : Nat} (hc : X.calm = true) (T : PySem.SrcX.SrcTxt X.prog X.K X.mg nm C fI) (hr : Room k X.A) (tk : Takes X W) (ha : PA X [a] ta) (hg : Gl X nm := by rfl) (hdb : (nm == ("__debug__" : Str)) = false := by decide)
    (he : starEach (a :: []) X.env = (false, eval a X.env) :: starEach [] X.env := by rfl) (hpl : (backTo pos (starEach [] X.env)).any (·.1) = false := by rfl) :
    PS X (.Raise (some (.Call (.Name nm p) [a] [] pos)) none pos2) (tRaiseSrc C W ta) := ps_raise hc tk (pmk_src T hr ha hg hdb he hpl)
/-- err.at, err the exception that the suite holds (at a; its class cls, its dict d) -/
def tBySrc (C : Addr) (a : Addr) (cls : Value) (d : Option Addr) (te : TE) : TE := fun σ H Q => te σ H fun x H1 => x = .ref a ∧ cls = .ref C ∧ ∃ (dd : Addr) (v : V), d = some dd ∧ H1 dd = some (.xd [(("at" : Str), v)]) ∧ Q v H1
theorem pe_bySrc {a : Addr} {oe : Obj} {cls : Value} {d : Option Addr} {pn : List (Addr × Obj)} {e : Expr} {te : TE} {pos : Pos} (T : PySem.SrcX.SrcTxt X.prog X.K X.mg nm C fI) (hz : Zc cls d oe) (hf : ∃ vs, oe.data = .fields vs) (he : PE (X.suite a ((a, oe) :: pn)) e te)
    (hb : attributeBase e "at" X.env (eval e X.env) = eval e X.env := by rfl) :
    PE (X.suite a ((a, oe) :: pn)) (.Attribute e "at" pos) (tBySrc C a cls d te) := by
  refine ⟨fun pins s σ H Q I h => ?_⟩
  refine attr_of hb (thn (he.run pins s σ H _ I h) fun u s1 hh => ?_)
  obtain ⟨x, H1, I1, rx, ex, ec, dd, v, ed, ea, q⟩ := hh
  subst ex
  obtain rfl : u = Value.ref a := rx
  subst ec
  subst ed
  obtain ⟨ha, _⟩ := I1.pin (a, oe) (List.mem_append_left _ List.mem_cons_self)
  obtain ⟨vs, hd⟩ := hf
  have hx : ObjOk X.prog X.w H1 s1.heap dd (.xd [(("at" : Str), v)]) := I1.hok dd _ ea
  obtain ⟨mA, hns, hr⟩ := hx
  obtain ⟨od, ho, hl⟩ := lookIn_ns hns
  have l : List.lookup ("at" : Str) [(("at" : Str), v)] = some v := by simp [List.lookup]
  obtain ⟨u, hu, ru⟩ := RelO.some_of (v := v) (o := mA "at") (by rw [← l]; exact hr "at")
  have J : PySem.W.InstAt s1.heap a oe C (some od) := ⟨ha, hz.1, by unfold PySem.W.notCls; rw [hd] <;> rfl, by rw [hz.2]; exact ho⟩
  exact HandSPX.exc_get I1.kIn J T.ga T.gg T.exC (PySem.W.findObj_own T.hdC T.noN rfl (by rw [hl, hu])) (handed_of ru) ⟨v, H1, I1.tok _, ru, q⟩
end
end L2
/-! Defs that may raise, over the same layer; texts searched. -/
namespace Lv
open PySem PySem.Spec PyProof.Rows L2

section
variable {P : Program} {w : World} {K : PySem.W.Frag} {mg : Str → Option Value} {base : Heap} {N : List Str} {q : Str} {sc : Scope} {f : Addr} {cd : Value} {A : Around} {outer : List Env} {s : Shared} {H : Hp} {E : XK}
theorem tk_of : Takes (cxOf (L2.CX P w) P w K mg base N q sc f cd A outer s H E) (fun cls d _ H => E cls d H) := takes_of rfl rfl rfl rfl
theorem px_of : Passes (L2.CX P w) (cxOf (L2.CX P w) P w K mg base N q sc f cd A outer s H E) E := passes_call tk_of (fun _ _ _ _ h => h)
theorem po_of : PassesOwn (model (cxOf (L2.CX P w) P w K mg base N q sc f cd A outer s H E).prog (cxOf (L2.CX P w) P w K mg base N q sc f cd A outer s H E).w) (cxOf (L2.CX P w) P w K mg base N q sc f cd A outer s H E).A (cxOf (L2.CX P w) P w K mg base N q sc f cd A outer s H E).env (cxOf (L2.CX P w) P w K mg base N q sc f cd A outer s H E).xe := passes_of rfl
end
/-- a def that may raise, by its module's name -/
structure CalX (P : Program) (w : World) (K : PySem.W.Frag) (mg : Str → Option Value) (base : Heap) (k : Nat) (x : Str) (sp : Sp) : Prop where
  ex : ∃ (f : Addr) (fd : FuncData) (ps : List Str), FnOk P w K mg base (L2.CX P w) k f fd ps sp ∧ mg x = some (.ref f) ∧ PySem.W.keepIn K (.ref f) = true ∧ Binds K fd ps []
section
variable {X : Cx} {k j : Nat} {x : Str} {sp : Sp} {E : XK} {p pos : Pos} {e : Expr} {es : List Expr} {t : TA}
theorem pe_cx (c : CalX X.prog X.w X.K X.mg X.base k x sp) (hr : Room j X.A) (hk : k ≤ j) (hg : Gl X x) (hx : Passes (L2.CX X.prog X.w) X E) (ha : PA X (e :: es) t)
    (hdb : (x == ("__debug__" : Str)) = false := by decide) (he : starEach (e :: es) X.env = (false, eval e X.env) :: starEach es X.env := by rfl) (hpl : (backTo pos (starEach es X.env)).any (·.1) = false := by rfl) :
    PE X (.Call (.Name x p) (e :: es) [] pos) (tCall sp [] E t) := by
  obtain ⟨f, fd, ps, F, hm, kp, b⟩ := c.ex
  exact pe_call F (hr.mono hk) hg hm kp b .nil hx ha hdb he hpl
end
/-- the way out with an error of the class at C whose field is i -/
def Err (C : Addr) (E : XK) (H : Hp) (i : Nat) : Prop := ∀ d H', H d = none → Same H H' → H' d = some (.xd [(("at" : Str), .int (i : Int))]) → E (.ref C) (some d) H'
theorem Err.mono {C : Addr} {E : XK} {H H1 : Hp} {i : Nat} (e : Err C E H i) (s : Same H H1) : Err C E H1 i := fun d H' hd s' h => e d H' (s.free hd) (s.trans s') h
section
variable {σ : L2.St} {H : Hp} {D : Ends} {C : Addr} {E : XK} {ta : TA}
def RaiseI (C : Addr) (E : XK) (vs : List V) (H : Hp) : Prop := ∃ v : Int, vs = [.int v] ∧ v.natAbs.log2 < 1920 ∧ ∀ d, H d = none → E (.ref C) (some d) (upd H d (.xd [(("at" : Str), .int v)]))
theorem w_raise (k : ta σ H fun vs H1 => RaiseI C E vs H1) : tRaiseSrc C (fun cls d _ H => E cls d H) ta D σ H := k
theorem raise_I {i : Nat} (hi : i ≤ 1000000) (h : Err C E H i) : RaiseI C E [.int (i : Int)] H := by
  refine ⟨(i : Int), rfl, ?_, fun d hd => h d _ hd (same_new0 hd) upd_same⟩
  rw [Int.natAbs_natCast]
  by_cases h0 : i = 0
  · subst h0; decide
  · exact Nat.lt_trans ((Nat.log2_lt h0).mpr (show i < 2 ^ 31 by omega)) (by decide)
end

/-! ### texts: order, search -/
def rLeS : R2 := fun x y H Q => ∃ i j, x = .str i ∧ y = .str j ∧ Q (.bl (!decide (j.cps.toList < i.cps.toList))) H
theorem op_leS {X : Cx} : OpR X (compareOp .LtE) rLeS := op_le_str
theorem lt_one (a b : Nat) : (([a] : List Nat) < [b]) ↔ a < b := by
  constructor
  · intro h
    cases h with
    | rel h => exact h
    | cons h => cases h
  · intro h
    exact .rel h
theorem w_leC {Q : VK} {H : Hp} {a b : Nat} (k : Q (.bl (decide (a ≤ b))) H) : rLeS (T [a]) (T [b]) H Q := by
  refine ⟨_, _, rfl, rfl, ?_⟩
  have e : (!decide (([b] : List Nat) < [a])) = decide (a ≤ b) := by
    by_cases h : a ≤ b
    · rw [decide_eq_true h, decide_eq_false (fun z => by have := (lt_one b a).mp z; omega)]; rfl
    · rw [decide_eq_false h, decide_eq_true ((lt_one b a).mpr (by omega))]; rfl
  show Q (.bl (!decide (([b] : List Nat) < [a]))) H
  rw [e]
  exact k
def rFind3 : V → List V → Hp → VK → Prop := fun x xs H Q => ∃ (a b : Str) (i : Int), x = .str a ∧ xs = [.str b, .int i] ∧ Q (.int (Txt.find3 a b i)) H
theorem mt_findS {X : Cx} : MtR X "str.find" rFind3 := mt_find3
def rStarts3 : V → List V → Hp → VK → Prop := fun x xs H Q => ∃ (a b : Str) (i : Int), x = .str a ∧ xs = [.str b, .int i] ∧ Q (.bl (Txt.startswith3 a b i)) H
theorem mt_startsS {X : Cx} : MtR X "str.startswith" rStarts3 := mt_startswith3
def rIsdigit : V → List V → Hp → VK → Prop := fun x xs H Q => ∃ a, x = .str a ∧ xs = [] ∧ True ∧ Q (.bl (Txt.isdigit a)) H
theorem mt_isdigitS {X : Cx} : MtR X "str.isdigit" rIsdigit := mt_isdigit
/-- where the first c from i on stands; -1 -/
def findC (cs : List Nat) (c i : Nat) : Int := if i + ((cs.drop i).takeWhile (fun x => x != c)).length < cs.length then ((i + ((cs.drop i).takeWhile (fun x => x != c)).length : Nat) : Int) else -1
theorem tw_get {p : Nat → Bool} : ∀ {l : List Nat} {j : Nat} {x : Nat}, j < (l.takeWhile p).length → l[j]? = some x → p x = true
  | [], _, _, h, _ => by simp at h
  | a :: l, j, x, h, e => by
    rw [List.takeWhile_cons] at h
    by_cases ha : p a = true
    · rw [if_pos ha] at h
      cases j with
      | zero => rw [List.getElem?_cons_zero] at e; cases e; exact ha
      | succ j => exact tw_get (l := l) (j := j) (by simpa using h) (by simpa using e)
    · rw [if_neg ha] at h; simp at h
theorem tw_end {p : Nat → Bool} : ∀ {l : List Nat}, (l.takeWhile p).length < l.length → ∃ x, l[(l.takeWhile p).length]? = some x ∧ p x = false
  | [], h => by simp at h
  | a :: l, h => by
    rw [List.takeWhile_cons] at h ⊢
    by_cases ha : p a = true
    · rw [if_pos ha] at h ⊢
      obtain ⟨x, e, hx⟩ := tw_end (l := l) (by simpa using h)
      exact ⟨x, by simpa using e, hx⟩
    · rw [if_neg ha]
      exact ⟨a, by simp, by simpa using ha⟩
theorem tw_le {p : Nat → Bool} (l : List Nat) : (l.takeWhile p).length ≤ l.length := (List.takeWhile_prefix p).length_le
/-- the first place of a c is told by takeWhile -/
theorem tw_first {c : Nat} {l : List Nat} {k : Nat} (h1 : l[k]? = some c) (h2 : ∀ j, j < k → l[j]? ≠ some c) : (l.takeWhile (fun x => x != c)).length = k := by
  rcases Nat.lt_trichotomy (l.takeWhile (fun x => x != c)).length k with h | h | h
  · obtain ⟨hk, _⟩ := List.getElem?_eq_some_iff.mp h1
    obtain ⟨x, e, hx⟩ := tw_end (p := fun x => x != c) (l := l) (by omega)
    have : x = c := by simpa using hx
    exact absurd (this ▸ e) (h2 _ h)
  · exact h
  · have := tw_get h h1
    simp at this
theorem find_T {cs : List Nat} {c i : Nat} (hi : i ≤ cs.length) : Txt.find3 ⟨cs.toArray⟩ ⟨#[c]⟩ (i : Int) = findC cs c i := by
  have hf : PySem.fromIndex (⟨cs.toArray⟩ : Str).length (i : Int) = i := by
    rw [len_T]
    unfold PySem.fromIndex
    first
      | (simp; omega)
      | (simp; done)
      | omega
  have gd : ∀ v, v < cs.length → (⟨cs.toArray⟩ : Str).cps.getD v 0 = cs.getD v 0 := fun v hv => by simp [Array.getD, hv, List.getD]
  unfold findC
  rcases StrLaws.find3_spec ⟨cs.toArray⟩ c (i : Int) with ⟨e, hn⟩ | ⟨k, e, h1, h2, h3, h4⟩
  · rw [hf] at hn
    rw [len_T] at hn
    rw [e, if_neg]
    intro hlt
    have hl2 : ((cs.drop i).takeWhile (fun x => x != c)).length < (cs.drop i).length := by rw [List.length_drop]; omega
    obtain ⟨x, ex, hx⟩ := tw_end hl2
    have : x = c := by simpa using hx
    subst this
    rw [List.getElem?_drop] at ex
    obtain ⟨hv, ev⟩ := List.getElem?_eq_some_iff.mp ex
    refine hn _ (Nat.le_add_right _ _) hv ?_
    rw [gd _ hv, List.getD_eq_getElem?_getD, ex]
    rfl
  · rw [hf] at h1 h4
    rw [len_T] at h2
    have hk : (cs.drop i)[k - i]? = some c := by
      rw [List.getElem?_drop, show i + (k - i) = k by omega, List.getElem?_eq_getElem h2]
      rw [gd _ h2, List.getD_eq_getElem?_getD, List.getElem?_eq_getElem h2] at h3
      exact congrArg some h3
    have hb : ∀ j, j < k - i → (cs.drop i)[j]? ≠ some c := fun j hj z => by
      rw [List.getElem?_drop] at z
      obtain ⟨hv, ev⟩ := List.getElem?_eq_some_iff.mp z
      refine h4 (i + j) (Nat.le_add_right _ _) (by omega) ?_
      rw [gd _ hv, List.getD_eq_getElem?_getD, z]
      rfl
    have hl := tw_first hk hb
    rw [e, hl, if_pos (by omega)]
    congr 1
    omega
theorem w_find {Q : VK} {H : Hp} {cs : List Nat} {c i : Nat} (hi : i ≤ cs.length) (k : Q (.int (findC cs c i)) H) : rFind3 (T cs) [T [c], .int (i : Int)] H Q :=
  ⟨_, ⟨#[c]⟩, _, rfl, rfl, by rw [find_T hi]; exact k⟩
theorem starts_T {cs b : List Nat} {i : Nat} (hi : i ≤ cs.length) : Txt.startswith3 ⟨cs.toArray⟩ ⟨b.toArray⟩ (i : Int) = b.isPrefixOf (cs.drop i) := by
  have hf : PySem.fromIndex (⟨cs.toArray⟩ : Str).length (i : Int) = i := by
    rw [len_T]
    unfold PySem.fromIndex
    first
      | (simp; omega)
      | (simp; done)
      | omega
  unfold Txt.startswith3
  rw [hf, len_T, len_T]
  have e : Builtin.Str.subAt ⟨cs.toArray⟩ ⟨b.toArray⟩ i = decide ((cs.drop i).take b.length = b) := by
    unfold Builtin.Str.subAt
    rw [len_T]
    have : (⟨cs.toArray⟩ : Str).cps.extract i (i + b.length) = ((cs.drop i).take b.length).toArray := by
      apply Array.ext'
      simp [List.extract_eq_drop_take, List.take_drop]
    rw [this]
    by_cases h : (cs.drop i).take b.length = b
    · rw [decide_eq_true h, h]; simp
    · rw [decide_eq_false h]
      refine beq_eq_false_iff_ne.mpr fun z => h ?_
      have := congrArg Array.toList z
      simpa using this
  rw [e, Bool.eq_iff_iff, List.isPrefixOf_iff_prefix, Bool.and_eq_true, decide_eq_true_iff, decide_eq_true_iff]
  constructor
  · rintro ⟨_, h⟩
    rw [← h]
    exact List.take_prefix _ _
  · intro h
    have hl := h.length_le
    rw [List.length_drop] at hl
    refine ⟨by have : b.length = 0 ∨ 0 < b.length := by omega
               omega, (List.prefix_iff_eq_take.mp h).symm⟩
theorem w_starts {Q : VK} {H : Hp} {cs b : List Nat} {i : Nat} (hi : i ≤ cs.length) (k : Q (.bl (b.isPrefixOf (cs.drop i))) H) : rStarts3 (T cs) [T b, .int (i : Int)] H Q :=
  ⟨_, ⟨b.toArray⟩, _, rfl, rfl, by rw [starts_T hi]; exact k⟩
theorem dig_ascii : ∀ c, c < 128 → Unicode.isDigit c = (decide (48 ≤ c) && decide (c ≤ 57)) := by decide +kernel
theorem w_isdigit {Q : VK} {H : Hp} {cs : List Nat} (hne : cs ≠ []) (ha : ∀ c ∈ cs, c < 128) (k : Q (.bl (cs.all fun c => decide (48 ≤ c) && decide (c ≤ 57))) H) : rIsdigit (T cs) [] H Q := by
  refine ⟨_, rfl, rfl, trivial, ?_⟩
  have e : Txt.isdigit ⟨cs.toArray⟩ = cs.all fun c => decide (48 ≤ c) && decide (c ≤ 57) := by
    unfold Txt.isdigit
    rw [len_T]
    have h0 : 0 < cs.length := by
      cases cs with
      | nil => exact absurd rfl hne
      | cons _ _ => simp
    have h1 : cs.toArray.all Unicode.isDigit = cs.all fun c => decide (48 ≤ c) && decide (c ≤ 57) := by
      rw [List.all_toArray]
      rw [Bool.eq_iff_iff, List.all_eq_true, List.all_eq_true]
      exact ⟨fun h c hc => by rw [← dig_ascii c (ha c hc)]; exact h c hc, fun h c hc => by rw [dig_ascii c (ha c hc)]; exact h c hc⟩
    show (decide (cs.length > 0) && cs.toArray.all Unicode.isDigit) = _
    rw [h1, decide_eq_true h0, Bool.true_and]
  rw [e]
  exact k
end Lv
/-! Trees of tuples, texts, numbers, truths and None; two of one shape are told the same. -/
namespace Lv
open PySem PySem.Spec PyProof.Rows L2
inductive Tr where
  | s (a : List Nat)
  | i (x : Int)
  | b (x : Bool)
  | n
  | t (l : List Tr)
mutual
inductive TrAt (K : PySem.W.Frag) (H : Hp) : V → Tr → Prop
  | s {a : List Nat} : TrAt K H (T a) (.s a)
  | i {x : Int} : TrAt K H (.int x) (.i x)
  | b {x : Bool} : TrAt K H (.bl x) (.b x)
  | n : TrAt K H .non .n
  | t {p : Addr} {vs : List V} {l : List Tr} : SqT K H p vs → TrsAt K H vs l → TrAt K H (.ref p) (.t l)
inductive TrsAt (K : PySem.W.Frag) (H : Hp) : List V → List Tr → Prop
  | nil : TrsAt K H [] []
  | cons {v : V} {t : Tr} {vs : List V} {l : List Tr} : TrAt K H v t → TrsAt K H vs l → TrsAt K H (v :: vs) (t :: l)
end
mutual
theorem TrAt.imp {K : PySem.W.Frag} {H H' : Hp} (f : ∀ p vs, SqT K H p vs → SqT K H' p vs) : ∀ {v : V} {t : Tr}, TrAt K H v t → TrAt K H' v t
  | _, _, .s => .s
  | _, _, .i => .i
  | _, _, .b => .b
  | _, _, .n => .n
  | _, _, .t h r => .t (f _ _ h) (TrsAt.imp f r)
theorem TrsAt.imp {K : PySem.W.Frag} {H H' : Hp} (f : ∀ p vs, SqT K H p vs → SqT K H' p vs) : ∀ {vs : List V} {l : List Tr}, TrsAt K H vs l → TrsAt K H' vs l
  | _, _, .nil => .nil
  | _, _, .cons h r => .cons (TrAt.imp f h) (TrsAt.imp f r)
end
theorem TrAt.same {K : PySem.W.Frag} {H H1 : Hp} {v : V} {t : Tr} (h : TrAt K H v t) (s : Same H H1) : TrAt K H1 v t := h.imp fun p vs q => Same.sqT s q
theorem TrsAt.same {K : PySem.W.Frag} {H H1 : Hp} {vs : List V} {l : List Tr} (h : TrsAt K H vs l) (s : Same H H1) : TrsAt K H1 vs l := h.imp fun p vs q => Same.sqT s q
theorem sqT_but {K : PySem.W.Frag} {D p : Addr} {H H1 : Hp} {xs vs : List V} (q : SqT K H p vs) (hD : H D = some (.lst xs)) (k : ∀ b o, b ≠ D → H b = some o → H1 b = some o) : SqT K H1 p vs := by
  rcases q with (h | ⟨o, h⟩) | h
  · exact .inl (.inl (k _ _ (fun e => by rw [e, hD] at h; cases h) h))
  · exact .inl (.inr ⟨o, k _ _ (fun e => by rw [e, hD] at h; cases h) h⟩)
  · exact .inr h
theorem TrAt.but {K : PySem.W.Frag} {D : Addr} {H H1 : Hp} {xs : List V} {v : V} {t : Tr} (h : TrAt K H v t) (hD : H D = some (.lst xs)) (k : ∀ b o, b ≠ D → H b = some o → H1 b = some o) : TrAt K H1 v t := h.imp fun _ _ q => sqT_but q hD k
theorem TrsAt.but {K : PySem.W.Frag} {D : Addr} {H H1 : Hp} {xs : List V} {vs : List V} {l : List Tr} (h : TrsAt K H vs l) (hD : H D = some (.lst xs)) (k : ∀ b o, b ≠ D → H b = some o → H1 b = some o) : TrsAt K H1 vs l := h.imp fun _ _ q => sqT_but q hD k
theorem TrsAt.snoc {K : PySem.W.Frag} {H : Hp} {v : V} {t : Tr} (h : TrAt K H v t) : ∀ {vs : List V} {l : List Tr}, TrsAt K H vs l → TrsAt K H (vs ++ [v]) (l ++ [t])
  | _, _, .nil => .cons h .nil
  | _, _, .cons a r => .cons a (TrsAt.snoc h r)
theorem TrsAt.length {K : PySem.W.Frag} {H : Hp} : ∀ {vs : List V} {l : List Tr}, TrsAt K H vs l → vs.length = l.length
  | _, _, .nil => rfl
  | _, _, .cons _ r => by rw [List.length_cons, List.length_cons, TrsAt.length r]
theorem TrsAt.get {K : PySem.W.Frag} {H : Hp} : ∀ {vs : List V} {l : List Tr} {i : Nat}, TrsAt K H vs l → i < l.length → ∃ v t, vs[i]? = some v ∧ l[i]? = some t ∧ TrAt K H v t
  | _, _, _, .nil, h => absurd h (Nat.not_lt_zero _)
  | _, _, 0, .cons h _, _ => ⟨_, _, rfl, rfl, h⟩
  | _, _, i + 1, .cons _ r, h => by
    obtain ⟨v, t, h1, h2, h3⟩ := TrsAt.get r (i := i) (by simpa using h)
    exact ⟨v, t, by simpa using h1, by simpa using h2, h3⟩
theorem trs_texts {K : PySem.W.Frag} {H : Hp} : ∀ l : List (List Nat), TrsAt K H (l.map T) (l.map Tr.s)
  | [] => .nil
  | _ :: l => .cons .s (trs_texts l)
/-- no tree is nested deeper than so -/
def TrD : Nat → Tr → Prop
  | 0, _ => False
  | n + 1, .t l => l.length < 1000000 ∧ ∀ t ∈ l, TrD n t
  | _ + 1, _ => True
/-! isinstance -/
section
variable {K : PySem.W.Frag} {H : Hp} {Q : VK}
theorem w_isi {x : V} {a ty : String} {r : Bool} (hx : TyX K H x (.type a)) (k : Q (.bl r) H) (hk : kitB a ty = some r := by decide +kernel) : rIsi K [x, .ty ty] H Q := ⟨_, _, _, _, _, rfl, .ty _, hx, kit_ty hk, k⟩
theorem tyx_tup {p : Addr} {vs : List V} (h : SqT K H p vs) : TyX K H (.ref p) (.type "tuple") := by
  rcases h with (h | ⟨o, h⟩) | ⟨o, its, n, h, e1, e2, _⟩
  · exact .base (.tup h)
  · exact .fTuple h
  · exact .kTuple h e1
theorem tyx_s {a : List Nat} : TyX K H (T a) (.type "str") := .base (.str _)
theorem tyx_i {i : Int} : TyX K H (.int i) (.type "int") := .base (.int _)
theorem tyx_b {b : Bool} : TyX K H (.bl b) (.type "bool") := .base (.bl _)
theorem tyx_n : TyX K H .non (.type "NoneType") := .base .non
theorem isi_s_tuple {a : List Nat} (k : Q (.bl false) H) : rIsi K [T a, .ty "tuple"] H Q := w_isi (r := false) tyx_s k
instance {a : List Nat} : Wk1 (rIsi K [T a, .ty "tuple"] H Q) (Q (.bl false) H) := ⟨isi_s_tuple⟩
theorem isi_s_bool {a : List Nat} (k : Q (.bl false) H) : rIsi K [T a, .ty "bool"] H Q := w_isi (r := false) tyx_s k
instance {a : List Nat} : Wk1 (rIsi K [T a, .ty "bool"] H Q) (Q (.bl false) H) := ⟨isi_s_bool⟩
theorem isi_s_int {a : List Nat} (k : Q (.bl false) H) : rIsi K [T a, .ty "int"] H Q := w_isi (r := false) tyx_s k
instance {a : List Nat} : Wk1 (rIsi K [T a, .ty "int"] H Q) (Q (.bl false) H) := ⟨isi_s_int⟩
theorem isi_s_str {a : List Nat} (k : Q (.bl true) H) : rIsi K [T a, .ty "str"] H Q := w_isi (r := true) tyx_s k
instance {a : List Nat} : Wk1 (rIsi K [T a, .ty "str"] H Q) (Q (.bl true) H) := ⟨isi_s_str⟩
theorem isi_i_tuple {i : Int} (k : Q (.bl false) H) : rIsi K [.int i, .ty "tuple"] H Q := w_isi (r := false) tyx_i k
instance {i : Int} : Wk1 (rIsi K [.int i, .ty "tuple"] H Q) (Q (.bl false) H) := ⟨isi_i_tuple⟩
theorem isi_i_bool {i : Int} (k : Q (.bl false) H) : rIsi K [.int i, .ty "bool"] H Q := w_isi (r := false) tyx_i k
instance {i : Int} : Wk1 (rIsi K [.int i, .ty "bool"] H Q) (Q (.bl false) H) := ⟨isi_i_bool⟩
theorem isi_i_int {i : Int} (k : Q (.bl true) H) : rIsi K [.int i, .ty "int"] H Q := w_isi (r := true) tyx_i k
instance {i : Int} : Wk1 (rIsi K [.int i, .ty "int"] H Q) (Q (.bl true) H) := ⟨isi_i_int⟩
theorem isi_i_str {i : Int} (k : Q (.bl false) H) : rIsi K [.int i, .ty "str"] H Q := w_isi (r := false) tyx_i k
instance {i : Int} : Wk1 (rIsi K [.int i, .ty "str"] H Q) (Q (.bl false) H) := ⟨isi_i_str⟩
theorem isi_b_tuple {b : Bool} (k : Q (.bl false) H) : rIsi K [.bl b, .ty "tuple"] H Q := w_isi (r := false) tyx_b k
instance {b : Bool} : Wk1 (rIsi K [.bl b, .ty "tuple"] H Q) (Q (.bl false) H) := ⟨isi_b_tuple⟩
theorem isi_b_bool {b : Bool} (k : Q (.bl true) H) : rIsi K [.bl b, .ty "bool"] H Q := w_isi (r := true) tyx_b k
instance {b : Bool} : Wk1 (rIsi K [.bl b, .ty "bool"] H Q) (Q (.bl true) H) := ⟨isi_b_bool⟩
theorem isi_b_int {b : Bool} (k : Q (.bl true) H) : rIsi K [.bl b, .ty "int"] H Q := w_isi (r := true) tyx_b k
instance {b : Bool} : Wk1 (rIsi K [.bl b, .ty "int"] H Q) (Q (.bl true) H) := ⟨isi_b_int⟩
theorem isi_b_str {b : Bool} (k : Q (.bl false) H) : rIsi K [.bl b, .ty "str"] H Q := w_isi (r := false) tyx_b k
instance {b : Bool} : Wk1 (rIsi K [.bl b, .ty "str"] H Q) (Q (.bl false) H) := ⟨isi_b_str⟩
theorem isi_n_tuple  (k : Q (.bl false) H) : rIsi K [.non, .ty "tuple"] H Q := w_isi (r := false) tyx_n k
instance  : Wk1 (rIsi K [.non, .ty "tuple"] H Q) (Q (.bl false) H) := ⟨isi_n_tuple⟩
theorem isi_n_bool  (k : Q (.bl false) H) : rIsi K [.non, .ty "bool"] H Q := w_isi (r := false) tyx_n k
instance  : Wk1 (rIsi K [.non, .ty "bool"] H Q) (Q (.bl false) H) := ⟨isi_n_bool⟩
theorem isi_n_int  (k : Q (.bl false) H) : rIsi K [.non, .ty "int"] H Q := w_isi (r := false) tyx_n k
instance  : Wk1 (rIsi K [.non, .ty "int"] H Q) (Q (.bl false) H) := ⟨isi_n_int⟩
theorem isi_n_str  (k : Q (.bl false) H) : rIsi K [.non, .ty "str"] H Q := w_isi (r := false) tyx_n k
instance  : Wk1 (rIsi K [.non, .ty "str"] H Q) (Q (.bl false) H) := ⟨isi_n_str⟩
theorem isi_t_tuple {p : Addr} (h : ∃ vs, SqT K H p vs) (k : Q (.bl true) H) : rIsi K [.ref p, .ty "tuple"] H Q := w_isi (r := true) (h.elim fun _ h => tyx_tup h) k
theorem isi_t_bool {p : Addr} (h : ∃ vs, SqT K H p vs) (k : Q (.bl false) H) : rIsi K [.ref p, .ty "bool"] H Q := w_isi (r := false) (h.elim fun _ h => tyx_tup h) k
theorem isi_t_int {p : Addr} (h : ∃ vs, SqT K H p vs) (k : Q (.bl false) H) : rIsi K [.ref p, .ty "int"] H Q := w_isi (r := false) (h.elim fun _ h => tyx_tup h) k
theorem isi_t_str {p : Addr} (h : ∃ vs, SqT K H p vs) (k : Q (.bl false) H) : rIsi K [.ref p, .ty "str"] H Q := w_isi (r := false) (h.elim fun _ h => tyx_tup h) k
end

/-! is it None -/
theorem ifN_s {a : List Nat} {A B : Prop} (k : B) : if decide (T a = V.non) = true then A else B := by rw [if_neg (by simp)]; exact k
instance {a : List Nat} {A B : Prop} : Wk1 (if decide (T a = V.non) = true then A else B) (B) := ⟨ifN_s⟩
theorem ifN_i {a : Int} {A B : Prop} (k : B) : if decide (V.int a = V.non) = true then A else B := by rw [if_neg (by simp)]; exact k
instance {a : Int} {A B : Prop} : Wk1 (if decide (V.int a = V.non) = true then A else B) (B) := ⟨ifN_i⟩
theorem ifN_b {a : Bool} {A B : Prop} (k : B) : if decide (V.bl a = V.non) = true then A else B := by rw [if_neg (by simp)]; exact k
instance {a : Bool} {A B : Prop} : Wk1 (if decide (V.bl a = V.non) = true then A else B) (B) := ⟨ifN_b⟩
theorem ifN_r {a : Addr} {A B : Prop} (k : B) : if decide (V.ref a = V.non) = true then A else B := by rw [if_neg (by simp)]; exact k
instance {a : Addr} {A B : Prop} : Wk1 (if decide (V.ref a = V.non) = true then A else B) (B) := ⟨ifN_r⟩
theorem ifN_n {A B : Prop} (k : A) : if decide (V.non = V.non) = true then A else B := by rw [if_pos (by simp)]; exact k
instance {A B : Prop} : Wk1 (if decide (V.non = V.non) = true then A else B) (A) := ⟨ifN_n⟩
theorem ifM_s {a : List Nat} {A B : Prop} (k : A) : if (!decide (T a = V.non)) = true then A else B := by rw [if_pos (by simp)]; exact k
instance {a : List Nat} {A B : Prop} : Wk1 (if (!decide (T a = V.non)) = true then A else B) (A) := ⟨ifM_s⟩
theorem ifM_i {a : Int} {A B : Prop} (k : A) : if (!decide (V.int a = V.non)) = true then A else B := by rw [if_pos (by simp)]; exact k
instance {a : Int} {A B : Prop} : Wk1 (if (!decide (V.int a = V.non)) = true then A else B) (A) := ⟨ifM_i⟩
theorem ifM_b {a : Bool} {A B : Prop} (k : A) : if (!decide (V.bl a = V.non)) = true then A else B := by rw [if_pos (by simp)]; exact k
instance {a : Bool} {A B : Prop} : Wk1 (if (!decide (V.bl a = V.non)) = true then A else B) (A) := ⟨ifM_b⟩
theorem ifM_r {a : Addr} {A B : Prop} (k : A) : if (!decide (V.ref a = V.non)) = true then A else B := by rw [if_pos (by simp)]; exact k
instance {a : Addr} {A B : Prop} : Wk1 (if (!decide (V.ref a = V.non)) = true then A else B) (A) := ⟨ifM_r⟩
theorem ifM_n {A B : Prop} (k : B) : if (!decide (V.non = V.non)) = true then A else B := by rw [if_neg (by simp)]; exact k
instance {A B : Prop} : Wk1 (if (!decide (V.non = V.non)) = true then A else B) (B) := ⟨ifM_n⟩
theorem ifB_tt {A B : Prop} (k : A) : if decide (V.bl true = V.bl true) = true then A else B := by rw [if_pos (by simp)]; exact k
instance {A B : Prop} : Wk1 (if decide (V.bl true = V.bl true) = true then A else B) (A) := ⟨ifB_tt⟩
theorem ifB_ff {A B : Prop} (k : A) : if decide (V.bl false = V.bl false) = true then A else B := by rw [if_pos (by simp)]; exact k
instance {A B : Prop} : Wk1 (if decide (V.bl false = V.bl false) = true then A else B) (A) := ⟨ifB_ff⟩
theorem ifB_tf {A B : Prop} (k : B) : if decide (V.bl true = V.bl false) = true then A else B := by rw [if_neg (by simp)]; exact k
instance {A B : Prop} : Wk1 (if decide (V.bl true = V.bl false) = true then A else B) (B) := ⟨ifB_tf⟩
theorem ifB_ft {A B : Prop} (k : B) : if decide (V.bl false = V.bl true) = true then A else B := by rw [if_neg (by simp)]; exact k
instance {A B : Prop} : Wk1 (if decide (V.bl false = V.bl true) = true then A else B) (B) := ⟨ifB_ft⟩
theorem at_self {x : V} {H : Hp} {Q : VK} (k : Q (.bl true) H) : Q (.bl (decide (x = x))) H := by rw [decide_eq_true rfl]; exact k
theorem ifE_self {x : V} {A B : Prop} (k : A) : if decide (x = x) = true then A else B := by rw [if_pos (by simp)]; exact k
theorem ifD_self {x : V} {A B : Prop} (k : B) : if (!decide (x = x)) = true then A else B := by rw [if_neg (by simp)]; exact k
end Lv
/-! More steps: a comprehension over a range or a list, the heap a letter; enumerate over a list; a tuple's index; not in. -/
namespace Lv
open PySem PySem.Spec PyProof.Rows L2
/-- all but the list at D is as it was -/
def But (D : Addr) (H H1 : Hp) : Prop := ∀ b o, b ≠ D → H b = some o → H1 b = some o
theorem same_of_but {D : Addr} {H H1 H2 : Hp} (hD : H D = none) (s : Same H H1) (k : But D H1 H2) : Same H H2 := fun b o h => k b o (fun e => by rw [e, hD] at h; cases h) (s b o h)
section
variable {σ : L2.St} {H : Hp} {Q : VK} {K : PySem.W.Frag}
/-- what a comprehension over a range asks -/
def LcR (g : TG) (tt : TT) (te : TE) (vs : List Nat) (ws : List V) (σ : L2.St) (H : Hp) (Q : VK) : Prop := ∃ j : Int, ws = [.int j] ∧ -(2 ^ 62) ≤ j ∧ j < 2 ^ 62 ∧ ∀ D, H D = none → ∃ W : Nat → Nat → Hp → Prop, (∃ m, W 0 m (upd H D (.lst []))) ∧ ∀ i m H, W i m H →
  ((Itr 0 j.toNat).stop i H ∧ Q (.ref D) H) ∨ ((Itr 0 j.toNat).go i H ∧ ∃ Nx : Hp → Prop, (∀ H', Nx H' → ∃ m', m' < m ∧ W (i + 1) m' H') ∧ ∀ x H', (Itr 0 j.toNat).yld i H x H' → g x (wipe σ vs) H' fun σ2 H2 => wipe σ2 vs = wipe σ vs ∧ tt σ2 H2 fun b H3 =>
    if b = true then te σ2 H3 fun y H4 => ∃ acc, H4 D = some (.lst acc) ∧ acc.length < sizeLine ∧ Nx (upd H4 D (.lst (acc ++ [y]))) else Nx H3)
theorem w_lcR {ta : TA} {g : TG} {tt : TT} {te : TE} {vs : List Nat} (k : ta σ H fun ws H1 => LcR g tt te vs ws σ H1 Q) : tLc (iRng1 ta) g tt te vs σ H Q := k
instance {ta : TA} {g : TG} {tt : TT} {te : TE} {vs : List Nat} : Wk1 (tLc (iRng1 ta) g tt te vs σ H Q) (ta σ H fun ws H1 => LcR g tt te vs ws σ H1 Q) := ⟨w_lcR⟩
/-- what holds between two turns: of the list at D, and what is made so far -/
def LcN (Pv : Addr → Nat → List V → Hp → Prop) (D : Addr) (i : Nat) (H1 : Hp) : Prop := ∃ acc, acc.length ≤ i ∧ H1 D = some (.lst acc) ∧ Pv D i acc H1
theorem lc_skip {Pv : Addr → Nat → List V → Hp → Prop} {D : Addr} {i : Nat} {acc : List V} {H1 : Hp} (hl : acc.length ≤ i) (h : H1 D = some (.lst acc)) (p : Pv D (i + 1) acc H1) : LcN Pv D (i + 1) H1 := ⟨acc, by omega, h, p⟩
theorem lc_keep {Pv : Addr → Nat → List V → Hp → Prop} {D : Addr} {i : Nat} {acc : List V} {y : V} {H1 : Hp} (hl : acc.length ≤ i) (hi : i < 1000000) (h : H1 D = some (.lst acc)) (p : ∀ H5, H5 D = some (.lst (acc ++ [y])) → But D H1 H5 → Pv D (i + 1) (acc ++ [y]) H5) :
    ∃ acc, H1 D = some (.lst acc) ∧ acc.length < sizeLine ∧ LcN Pv D (i + 1) (upd H1 D (.lst (acc ++ [y]))) :=
  ⟨acc, h, Nat.lt_of_le_of_lt hl (Nat.lt_trans hi (by decide)), acc ++ [y], by rw [List.length_append]; show acc.length + 1 ≤ i + 1; omega, upd_same, p _ upd_same fun b o n e => by rw [upd_ne n]; exact e⟩
/-- over range(n) -/
theorem lc_R {g : TG} {tt : TT} {te : TE} {vs : List Nat} {j : Int} (Pv : Addr → Nat → List V → Hp → Prop) (hj : 0 ≤ j) (hn : j < 1000000)
    (h0 : ∀ D H1, H D = none → Same H H1 → H1 D = some (.lst []) → Pv D 0 [] H1)
    (hs : ∀ D (i : Nat) acc H1, (i : Int) < j → acc.length ≤ i → H1 D = some (.lst acc) → Pv D i acc H1 → g (.int (0 + (i : Int))) (wipe σ vs) H1 fun σ2 H2 => wipe σ2 vs = wipe σ vs ∧ tt σ2 H2 fun b H3 =>
      if b = true then te σ2 H3 fun y H4 => ∃ acc, H4 D = some (.lst acc) ∧ acc.length < sizeLine ∧ LcN Pv D (i + 1) (upd H4 D (.lst (acc ++ [y]))) else LcN Pv D (i + 1) H3)
    (hd : ∀ D acc H1, acc.length ≤ j.toNat → H1 D = some (.lst acc) → Pv D j.toNat acc H1 → Q (.ref D) H1) : LcR g tt te vs [.int j] σ H Q := by
  refine ⟨j, rfl, by omega, by omega, fun D hD => ?_⟩
  refine ⟨fun i m H1 => m = j.toNat - i ∧ i ≤ j.toNat ∧ LcN Pv D i H1, ⟨j.toNat, by simp, Nat.zero_le _, [], Nat.le_refl _, upd_same, h0 D _ hD (same_new0 hD) upd_same⟩, ?_⟩
  rintro i m H1 ⟨rfl, hi, acc, ha, hD1, p⟩
  by_cases hlt : i < j.toNat
  · refine .inr ⟨hlt, LcN Pv D (i + 1), fun H' p' => ⟨j.toNat - (i + 1), by omega, rfl, hlt, p'⟩, fun x H' y => ?_⟩
    obtain ⟨e, y⟩ := y
    subst e y
    exact hs D i acc _ (by omega) ha hD1 p
  · have e : i = j.toNat := by omega
    subst e
    exact .inl ⟨Nat.le_refl _, hd D acc _ ha hD1 p⟩
/-- over a list -/
def LcL (K : PySem.W.Frag) (g : TG) (tt : TT) (te : TE) (vs : List Nat) (x : V) (σ : L2.St) (H : Hp) (Q : VK) : Prop := ∃ a, x = .ref a ∧ (∃ xs, SqL K H a xs) ∧ ∀ D, H D = none → ∃ W : Nat → Nat → Hp → Prop, (∃ m, W 0 m (upd H D (.lst []))) ∧ ∀ i m H, W i m H →
  ((Itl K a).stop i H ∧ Q (.ref D) H) ∨ ((Itl K a).go i H ∧ ∃ Nx : Hp → Prop, (∀ H', Nx H' → ∃ m', m' < m ∧ W (i + 1) m' H') ∧ ∀ x H', (Itl K a).yld i H x H' → g x (wipe σ vs) H' fun σ2 H2 => wipe σ2 vs = wipe σ vs ∧ tt σ2 H2 fun b H3 =>
    if b = true then te σ2 H3 fun y H4 => ∃ acc, H4 D = some (.lst acc) ∧ acc.length < sizeLine ∧ Nx (upd H4 D (.lst (acc ++ [y]))) else Nx H3)
theorem w_lcL {te0 : TE} {g : TG} {tt : TT} {te : TE} {vs : List Nat} (k : te0 σ H fun x H1 => LcL K g tt te vs x σ H1 Q) : tLc (iList K te0) g tt te vs σ H Q := k
instance {te0 : TE} {g : TG} {tt : TT} {te : TE} {vs : List Nat} : Wk1 (tLc (iList K te0) g tt te vs σ H Q) (te0 σ H fun x H1 => LcL K g tt te vs x σ H1 Q) := ⟨w_lcL⟩
theorem lc_L {g : TG} {tt : TT} {te : TE} {vs : List Nat} {a : Addr} {xs : List V} (Pv : Addr → Nat → List V → Hp → Prop) (ha : SqL K H a xs)
    (h0 : ∀ D H1, H D = none → Same H H1 → H1 D = some (.lst []) → Pv D 0 [] H1)
    (hl : ∀ D i acc H1, i ≤ xs.length → Pv D i acc H1 → SqL K H1 a xs)
    (hs : ∀ D (i : Nat) x acc H1, xs[i]? = some x → acc.length ≤ i → H1 D = some (.lst acc) → Pv D i acc H1 → g x (wipe σ vs) H1 fun σ2 H2 => wipe σ2 vs = wipe σ vs ∧ tt σ2 H2 fun b H3 =>
      if b = true then te σ2 H3 fun y H4 => ∃ acc, H4 D = some (.lst acc) ∧ acc.length < sizeLine ∧ LcN Pv D (i + 1) (upd H4 D (.lst (acc ++ [y]))) else LcN Pv D (i + 1) H3)
    (hd : ∀ D acc H1, acc.length ≤ xs.length → H1 D = some (.lst acc) → Pv D xs.length acc H1 → Q (.ref D) H1) : LcL K g tt te vs (.ref a) σ H Q := by
  refine ⟨a, rfl, ⟨xs, ha⟩, fun D hD => ?_⟩
  refine ⟨fun i m H1 => m = xs.length - i ∧ i ≤ xs.length ∧ LcN Pv D i H1, ⟨xs.length, by simp, Nat.zero_le _, [], Nat.le_refl _, upd_same, h0 D _ hD (same_new0 hD) upd_same⟩, ?_⟩
  rintro i m H1 ⟨rfl, hi, acc, hac, hD1, p⟩
  have q := hl D i acc H1 hi p
  by_cases hlt : i < xs.length
  · refine .inr ⟨⟨xs, xs[i], q, List.getElem?_eq_getElem hlt⟩, LcN Pv D (i + 1), fun H' p' => ⟨xs.length - (i + 1), by omega, rfl, hlt, p'⟩, fun x H' y => ?_⟩
    obtain ⟨e, y⟩ := y
    subst e
    exact hs D i x acc _ (y xs q) hac hD1 p
  · have e : i = xs.length := by omega
    subst e
    exact .inl ⟨⟨xs, q, Nat.le_refl _⟩, hd D acc _ hac hD1 p⟩
/-- a comprehension without a test -/
theorem w_yes {G : Bool → Hp → Prop} (k : G true H) : tYes σ H G := k
instance {G : Bool → Hp → Prop} : Wk1 (tYes σ H G) (G true H) := ⟨w_yes⟩
/-! truth of a value -/
def rTru (K : PySem.W.Frag) (x : V) (H : Hp) (Q : Bool → Hp → Prop) : Prop := ∃ k, TruV K x H k ∧ Q k H
def tTruV (K : PySem.W.Frag) (ta : TE) : TT := fun σ H Q => ta σ H fun x H' => rTru K x H' Q
theorem pt_tru {X : Cx} {a : Expr} {ta : TE} (ha : PE X a ta) (he : ∀ whole, isTrue a X.env whole = (do let v ← whole; standAt a.pos; holding [v] (truthy v)) := by intro _; rfl) : PT X a (tTruV X.K ta) := pt_truth ha he
theorem w_tru {ta : TE} {G : Bool → Hp → Prop} (k : ta σ H fun x H' => rTru K x H' G) : tTruV K ta σ H G := k
instance {ta : TE} {G : Bool → Hp → Prop} : Wk1 (tTruV K ta σ H G) (ta σ H fun x H' => rTru K x H' G) := ⟨w_tru⟩
theorem w_truL {p : Addr} {xs : List V} {G : Bool → Hp → Prop} (h : SqL K H p xs) (k1 : xs ≠ [] → G true H) (k2 : xs = [] → G false H) : rTru K (.ref p) H G := by
  refine ⟨!xs.isEmpty, .inl ⟨xs, h, rfl⟩, ?_⟩
  cases xs with
  | nil => exact k2 rfl
  | cons x xs => exact k1 (List.cons_ne_nil _ _)
theorem w_truT {p : Addr} {xs : List V} {G : Bool → Hp → Prop} (h : SqT K H p xs) (k1 : xs ≠ [] → G true H) (k2 : xs = [] → G false H) : rTru K (.ref p) H G := by
  refine ⟨!xs.isEmpty, .inr (.inl ⟨xs, h, rfl⟩), ?_⟩
  cases xs with
  | nil => exact k2 rfl
  | cons x xs => exact k1 (List.cons_ne_nil _ _)
/-! is None -/
def rIsN : R2 := fun x y H Q => y = .non ∧ Q (.bl (decide (x = .non))) H
theorem op_isN {X : Cx} : OpR X (compareOp .Is) rIsN := L2.op_isN
theorem w_isN {x : V} (k : Q (.bl (decide (x = .non))) H) : rIsN x .non H Q := ⟨rfl, k⟩
instance {x : V} : Wk1 (rIsN x .non H Q) (Q (.bl (decide (x = .non))) H) := ⟨w_isN⟩
def rNotN : R2 := fun x y H Q => y = .non ∧ Q (.bl (!decide (x = .non))) H
theorem op_notN {X : Cx} : OpR X (compareOp .IsNot) rNotN := L2.op_notN
theorem w_notN {x : V} (k : Q (.bl (!decide (x = .non))) H) : rNotN x .non H Q := ⟨rfl, k⟩
instance {x : V} : Wk1 (rNotN x .non H Q) (Q (.bl (!decide (x = .non))) H) := ⟨w_notN⟩
/-! not in -/
theorem w_ninL {a : List Nat} {p : Addr} {l : List (List Nat)} (h : SqL K H p (l.map T)) (k : Q (.bl (!decide (a ∈ l))) H) : rIn K true (T a) (.ref p) H Q :=
  ⟨p, _, rfl, .inl h, rfl, flat_T l, by rw [if_pos rfl, inV_T]; exact k⟩
theorem w_ninT {a : List Nat} {p : Addr} {l : List (List Nat)} (h : SqT K H p (l.map T)) (k : Q (.bl (!decide (a ∈ l))) H) : rIn K true (T a) (.ref p) H Q :=
  ⟨p, _, rfl, .inr h, rfl, flat_T l, by rw [if_pos rfl, inV_T]; exact k⟩
/-! tuple(list): the new tuple's object is known (it has no dict) -/
def FT (H : Hp) (p : Addr) (xs : List V) : Prop := ∃ o : Obj, o.dict = none ∧ H p = some (.frz o (.tup xs))
theorem FT.sq {p : Addr} {xs : List V} (h : FT H p xs) : SqT K H p xs := by
  obtain ⟨o, _, h⟩ := h
  exact .inl (.inr ⟨o, h⟩)
theorem FT.same {p : Addr} {xs : List V} {H1 : Hp} (h : FT H p xs) (s : Same H H1) : FT H1 p xs := by
  obtain ⟨o, e, h⟩ := h
  exact ⟨o, e, s _ _ h⟩
theorem FT.but {p D : Addr} {xs ys : List V} {H1 : Hp} (h : FT H p xs) (hD : H D = some (.lst ys)) (k : ∀ b o, b ≠ D → H b = some o → H1 b = some o) : FT H1 p xs := by
  obtain ⟨o, e, h⟩ := h
  exact ⟨o, e, k _ _ (fun z => by rw [z, hD] at h; cases h) h⟩
def rTupOf (K : PySem.W.Frag) : List V → Hp → VK → Prop := fun xs H Q => ∃ p ys, xs = [.ref p] ∧ SqL K H p ys ∧ ∀ l o, H l = none → o.dict = none → Q (.ref l) (upd H l (.frz o (.tup ys)))
theorem call_tupleOf {X : Cx} : CallR X (.type "tuple") (rTupOf X.K) := by
  intro pins s σ H xs us Q I r h
  obtain ⟨p, ys, rfl, hq, q⟩ := h
  obtain ⟨u, rfl, rx⟩ := vals1 r
  cases rx
  obtain ⟨its, r', pl, hz⟩ := I.list hq
  have hlen := r'.length
  refine call_tuple_list pl.isList (fun h' kp => ?_) (by simp only [List.size_toArray] <;> omega)
  have I1 : Inv X pins σ H { s with heap := h' } := I.kept (t' := s.toks) kp
  have I2 : Inv X pins σ (upd H h'.objs.size (.frz { cls := .type "tuple", data := .seq its.toArray } (.tup ys))) { s with heap := h'.push { cls := .type "tuple", data := .seq its.toArray } } :=
    I1.laid (t' := s.toks) (fun b o e => Heap.get?_push_of_some _ e) (Nat.le_refl _) (show ObjOk X.prog X.w _ _ _ (.frz _ (.tup ys)) from ⟨Heap.get?_push_size _ rfl, hz, its, r', IsTup.new _ _⟩)
  exact ⟨.ref h'.objs.size, _, I2, rfl, q _ _ (I1.hok.fresh (Nat.le_refl _)) rfl⟩
theorem w_tupOf {p : Addr} {ys : List V} (h : SqL K H p ys) (k : ∀ l H1, H l = none → Same H H1 → FT H1 l ys → Q (.ref l) H1) : rTupOf K [.ref p] H Q :=
  ⟨p, ys, rfl, h, fun l o hl e => k l _ hl (same_new0 hl) ⟨o, e, upd_same⟩⟩
/-! a tuple's own method -/
def tBMT (r : V → List V → Hp → VK → Prop) (to : TE) (t : TA) : TE := fun σ H Q => to σ H fun x H1 => (∃ p xs, x = .ref p ∧ FT H1 p xs) ∧ t σ H1 fun xs H2 => r x xs H2 Q
theorem pe_bmT {X : Cx} {o e : Expr} {es : List Expr} {name : Str} {id : String} {r : V → List V → Hp → VK → Prop} {to : TE} {t : TA} {apos cpos : Pos} (pa : PlainAttrs "tuple") (slot : Slot "tuple" name id) (hty : typeOf (.builtin id) = pure (.type "method_descriptor")) (hm : MtR X id r) (ho : PE X o to) (ha : PA X (e :: es) t)
    (hbase : attributeBase o name X.env (eval o X.env) = eval o X.env := by rfl)
    (hfew : ((backTo cpos (starEach (e :: es) X.env)).all (fun x => !x.1) && (backToKw cpos (keywordEach [] X.env)).all (fun x => x.1.isSome)
      && decide ((e :: es).length + ([] : List Keyword).length + (if ([] : List Keyword).isEmpty then 0 else 1) < 30)) = true := by rfl)
    (hline : (apos.endLine == cpos.line) = true := by rfl) (hs : starEach (e :: es) X.env = (false, eval e X.env) :: starEach es X.env := by rfl) (hplain : (backTo cpos (starEach es X.env)).any (·.1) = false := by rfl) :
    PE X (.Call (.Attribute o name apos) (e :: es) [] cpos) (tBMT r to t) := by
  refine ⟨fun pins s σ H Q I h => ?_⟩
  refine wpAny_Call_method_late hbase hfew hline rfl (thn (ho.run pins s σ H _ I h) fun v s1 ⟨x, H1, I1, r1, ty, q1⟩ => ?_)
  obtain ⟨p, ys, rfl, o, hd, hp⟩ := ty
  cases r1
  obtain ⟨g, hz, its, rv, o2, g2, hc, n, hda⟩ := (show ObjOk X.prog X.w H1 s1.heap p (.frz o (.tup ys)) from I1.hok p _ hp)
  have eo : o2 = o := Option.some.inj (g2.symm.trans g)
  subst eo
  have h1 : s1.TypeIs (.ref p) "tuple" := ⟨o2, g, hc⟩
  have h2 : ∀ a, Value.ref p = .ref a → ∃ ob, s1.heap.get? a = some ob ∧ ob.dict = none := fun a e => by cases e; exact ⟨o2, g, hd⟩
  refine ⟨"tuple", id, pa, slot, hty, h1, h2, ?_⟩
  have hA := ha.run cpos pins s1 σ H1 _ I1 q1
  rw [hs] at hA ⊢
  refine Calls.callWith_builtin (by show (false || (backTo cpos (starEach es X.env)).any (·.1)) = false; rw [hplain] <;> rfl) (Calls.evalArgs_plain ?_)
  exact thn hA fun us s2 ⟨vs, H2, I2, r2, q2⟩ => hm pins s2 σ H2 (V.ref p) vs (.ref p) us Q I2 rfl r2 q2
theorem w_bmT {r : V → List V → Hp → VK → Prop} {to : TE} {t : TA} {σ : L2.St} (k : to σ H fun x H1 => (∃ p xs, x = .ref p ∧ FT H1 p xs) ∧ t σ H1 fun xs H2 => r x xs H2 Q) : tBMT r to t σ H Q := k
instance {r : V → List V → Hp → VK → Prop} {to : TE} {t : TA} {σ : L2.St} : Wk1 (tBMT r to t σ H Q) (to σ H fun x H1 => (∃ p xs, x = .ref p ∧ FT H1 p xs) ∧ t σ H1 fun xs H2 => r x xs H2 Q) := ⟨w_bmT⟩
/-! t.index(x) -/
def rTupIx (K : PySem.W.Frag) : V → List V → Hp → VK → Prop := fun x xs H Q => ∃ p, ∃ ys : List Str, ∃ z j, x = .ref p ∧ xs = [.str z] ∧ SqT K H p (ys.map V.str) ∧ ys[j]? = some z ∧ (∀ m, m < j → ys[m]? ≠ some z) ∧ Q (.int (j : Nat)) H
theorem mt_tupIx {X : Cx} : MtR X "tuple.index" (rTupIx X.K) := L2.mt_tup_index
def S (a : List Nat) : Str := ⟨a.toArray⟩
theorem S_inj {a b : List Nat} (h : S a = S b) : a = b := T_inj (congrArg V.str h)
theorem map_T_S (l : List (List Nat)) : l.map T = (l.map S).map V.str := by rw [List.map_map]; rfl
theorem w_tupIx {a : List Nat} {p : Addr} {l : List (List Nat)} (h : SqT K H p (l.map T)) (ha : a ∈ l) (k : Q (.int ((l.idxOf a : Nat) : Int)) H) : rTupIx K (.ref p) [T a] H Q := by
  have hlt : l.idxOf a < l.length := List.idxOf_lt_length_of_mem ha
  refine ⟨p, l.map S, S a, l.idxOf a, rfl, rfl, by rw [← map_T_S]; exact h, ?_, fun m hm e => ?_, k⟩
  · rw [List.getElem?_map, List.getElem?_eq_getElem hlt, List.getElem_idxOf hlt]; rfl
  · have hm2 : m < l.length := Nat.lt_trans hm hlt
    rw [List.getElem?_map, List.getElem?_eq_getElem hm2] at e
    have e2 : l[m] = a := S_inj (Option.some.inj e)
    have z := List.not_of_lt_findIdx (p := (· == a)) (xs := l) (i := m) hm
    rw [e2] at z
    simp at z
def rAbs : List V → Hp → VK → Prop := fun xs H Q => ∃ i, xs = [.int i] ∧ Q (.int (if i < 0 then -i else i)) H
theorem call_absI {X : Cx} : CallR X (.builtin "abs") rAbs := L2.call_abs
theorem w_abs {a : Int} (k : Q (.int (if a < 0 then -a else a)) H) : rAbs [.int a] H Q := ⟨a, rfl, k⟩
instance {a : Int} : Wk1 (rAbs [.int a] H Q) (Q (.int (if a < 0 then -a else a)) H) := ⟨w_abs⟩
theorem w_neg {f : Int → V} {a : Int} (k : Q (f a) H) : rU f (.int a) H Q := ⟨a, rfl, k⟩
instance {f : Int → V} {a : Int} : Wk1 (rU f (.int a) H Q) (Q (f a) H) := ⟨w_neg⟩
def rLtS : R2 := fun x y H Q => ∃ i j, x = .str i ∧ y = .str j ∧ Q (.bl (decide (i.cps.toList < j.cps.toList))) H
theorem op_ltS {X : Cx} : OpR X (compareOp .Lt) rLtS := L2.op_lt_str
theorem w_ltS {a b : List Nat} (k : Q (.bl (decide (a < b))) H) : rLtS (T a) (T b) H Q := ⟨_, _, rfl, rfl, k⟩
instance {a b : List Nat} : Wk1 (rLtS (T a) (T b) H Q) (Q (.bl (decide (a < b))) H) := ⟨w_ltS⟩
def rLeT : R2 := fun x y H Q => ∃ i j, x = .str i ∧ y = .str j ∧ Q (.bl (!decide (j.cps.toList < i.cps.toList))) H
theorem op_leT {X : Cx} : OpR X (compareOp .LtE) rLeT := L2.op_le_str
theorem w_leS {a b : List Nat} (k : Q (.bl (!decide (b < a))) H) : rLeT (T a) (T b) H Q := ⟨_, _, rfl, rfl, k⟩
instance {a b : List Nat} : Wk1 (rLeT (T a) (T b) H Q) (Q (.bl (!decide (b < a))) H) := ⟨w_leS⟩
theorem w_all {p : Addr} {bs : List Bool} (h : SqL K H p (bs.map V.bl)) (k : Q (.bl (bs.all id)) H) : L2.rAll K [.ref p] H Q := ⟨p, bs, rfl, h, k⟩
end
/-! for i, x in enumerate(xs), a list -/
section
variable {K : PySem.W.Frag} {ta : TA} {g : TG} {tb : TS} {D : Ends} {σ : L2.St} {H : Hp}
def ForEl (K : PySem.W.Frag) (g : TG) (tb : TS) (vs : List V) (D : Ends) (σ : L2.St) (H : Hp) : Prop := ∃ a xs, vs = [.ref a] ∧ SqL K H a xs ∧ ∃ W : Nat → Nat → L2.St → Hp → Prop, (∃ m, W 0 m σ H) ∧ ∀ i m σ H, W i m σ H →
  ((Ite K a).stop i H ∧ D.nx σ H) ∨ ((Ite K a).go i H ∧ ∃ N : L2.St → Hp → Prop, (∀ σ' H', N σ' H' → ∃ m', m' < m ∧ W (i + 1) m' σ' H') ∧ ∀ x H', (Ite K a).yld i H x H' → g x σ H' fun σ2 H2 => tb { D with nx := N, ct := N, bk := D.nx } σ2 H2)
theorem w_forEl (k : ta σ H fun vs H1 => ForEl K g tb vs D σ H1) : tFor (iEnum K ta) g tb D σ H := k
instance  : Wk1 (tFor (iEnum K ta) g tb D σ H) (ta σ H fun vs H1 => ForEl K g tb vs D σ H1) := ⟨w_forEl⟩
theorem for_El {a : Addr} {xs : List V} (Pv : Nat → L2.St → Hp → Prop) (h0 : Pv 0 σ H) (hl : ∀ i σ H, i ≤ xs.length → Pv i σ H → SqL K H a xs)
    (hs : ∀ i x σ H p H', xs[i]? = some x → Pv i σ H → H p = none → Same H H' → H' p = some (.tup [.int (i : Int), x]) → g (.ref p) σ H' fun σ2 H2 => tb { D with nx := Pv (i + 1), ct := Pv (i + 1), bk := D.nx } σ2 H2)
    (hd : ∀ σ H, Pv xs.length σ H → D.nx σ H) : ForEl K g tb [.ref a] D σ H := by
  refine ⟨a, xs, rfl, hl 0 σ H (Nat.zero_le _) h0, fun i m σ H => m = xs.length - i ∧ i ≤ xs.length ∧ Pv i σ H, ⟨xs.length, by simp, Nat.zero_le _, h0⟩, ?_⟩
  rintro i m σ H ⟨rfl, hi, p⟩
  by_cases hlt : i < xs.length
  · refine .inr ⟨⟨xs, xs[i], hl i σ H hi p, List.getElem?_eq_getElem hlt⟩, Pv (i + 1), fun σ' H' p' => ⟨xs.length - (i + 1), by omega, rfl, hlt, p'⟩, fun x H' y => ?_⟩
    obtain ⟨q, z, rfl, hq, rfl, hz⟩ := y
    exact hs i z σ H q _ (hz xs (hl i σ H hi p)) p hq (same_new hq) upd_same
  · have e : i = xs.length := by omega
    subst e
    exact .inl ⟨⟨xs, hl _ σ H hi p, Nat.le_refl _⟩, hd σ H p⟩
end
end Lv
/-! An own error whose __init__ tells its text to its base and keeps one field. -/
namespace PySem
namespace NamX
open PySem.W PySem.Calls PyProof.Rows PySem.HandSPX
/-! ### the text of __init__: the parameter's name is a letter (at, name) -/
def msg : Str := "the name "
def msg2 : Str := " occurs twice"
def eA : Arguments := { posonlyargs := [], args := [{ arg := "self", annotation := none, pos := ⟨44, 17, 44, 21⟩ }, { arg := "name", annotation := none, pos := ⟨44, 23, 44, 27⟩ }], vararg := none, kwonlyargs := [], kw_defaults := [], kwarg := none, defaults := [] }
def eB : List Stmt :=
  [.Expr (.Call (.Attribute (.Call (.Name "super" ⟨45, 8, 45, 13⟩) [] [] ⟨45, 8, 45, 15⟩) "__init__" ⟨45, 8, 45, 24⟩) [.JoinedStr [.Constant (.str msg) 0 ⟨45, 27, 45, 36⟩, .FormattedValue (.Name "name" ⟨45, 37, 45, 41⟩) (-1) none ⟨45, 36, 45, 42⟩, .Constant (.str msg2) 0 ⟨45, 42, 45, 55⟩] ⟨45, 25, 45, 56⟩] [] ⟨45, 8, 45, 57⟩) ⟨45, 8, 45, 57⟩,
   .Assign [.Attribute (.Name "self" ⟨46, 8, 46, 12⟩) "name" ⟨46, 8, 46, 17⟩] (.Name "name" ⟨46, 20, 46, 24⟩) ⟨46, 8, 46, 24⟩]
def eS : Scope := { kind := .function, names := [(PySem.Str.ofString "self", .local), (PySem.Str.ofString "name", .local), (PySem.Str.ofString "__class__", .free), (PySem.Str.ofString "super", .globalImplicit)], isGenerator := false, isCoroutine := false, more := [] }
/-- what the written part says of the class at C, and of its __init__, at fI; x: the field -/
structure NamTxt (P : Program) (K : Frag) (mg : Str → Option Value) (nm : Str) (C fI : Addr) : Prop where
  gC : mg nm = some (.ref C)
  cls : ∃ nm q N bs bm sn sub ab col dd k0 k1 k2 k3 k5, K.lookup C = some (excClassObj nm q C N bs bm true sn sub ab col dd k0 k1 k2 k3 k5 "ValueError.__new__") ∧ refsVE bm = true
  sa : findIn K (.ref C) "__setattr__" = some (some (.builtin "object.__setattr__"))
  ga : findIn K (.ref C) "__getattribute__" = some (some (.builtin "BaseException.__getattribute__"))
  gg : findIn K (.ref C) "__getattr__" = some none
  noN : findIn K (.ref C) "name" = some none
  iC : findIn K (.ref C) "__init__" = some (some (.ref fI))
  tC : typeIn K (.ref fI) = some (.type "function")
  kC : keepIn K (.ref C) = true
  exC : subIn K (.ref C) (.type "BaseException") = some true
  veC : subIn K (.ref C) (.type "ValueError") = some true
  tyC : typeIn K (.ref C) = some (.type "type")
  hdC : hasDictIn K C = true
  te : exmOne K (.ref C) (.ref C) = some true
  op : nsIn K cStatics "thirdparty.any" = some none
  up : ks_superIn K C C "__init__" = some (some (.builtin "ValueError.__init__"))
  mr : mroIn K C (.ref C) = some true
  su : mg "super" = none
  top : (P.main.scope.names.lookup ("super" : Str)).isSome = false
  fn : ∃ (oc : Value) (od : Option Addr) (doc pm : Value) (an : Option Addr) (cda cc : Addr) (ct : Value) (osl : Array (Option Value)) (qual : Str) (ccl cl : Value) (cdd cld : Option Addr) (ccs csl : Array (Option Value)) (vs : Array Value) (file : Str) (tf : Tok),
    K.lookup fI = some ⟨oc, od, .func (fnX "__init__" qual eA eB eS [("__class__", cc)] .none .none doc pm an (.ref cda) ct), osl⟩ ∧ codeIn K (.ref cda) qual = true ∧
    K.lookup cda = some ⟨ccl, cdd, .fields vs, ccs⟩ ∧ vs[2]? = some (.str file tf) ∧ ((P.main.file : Str) == file) = true ∧ K.lookup cc = some ⟨cl, cld, .cell (some (.ref C)), csl⟩
/-- what __init__ leaves of a fresh exception at x -/
structure InitEnd (h h' : Heap) (e C dx t1 : Addr) (v : Value) : Prop where
  keep : ∀ b o, b ≠ e → h.get? b = some o → h'.get? b = some o
  obj : h'.get? e = some { cls := .ref C, dict := some dx, data := .fields #[.ref t1, .none, .none, .none, .bool false, .none] }
  dbig : h.objs.size ≤ dx
  dne : dx ≠ e
  ns : h'.Ns1 dx (fun y => if y = "name" then some v else none)
structure OwnMade (h h' : Heap) (e C d : Addr) (v : Value) : Prop where
  keep : ∀ b o, h.get? b = some o → h'.get? b = some o
  new : h.objs.size ≤ e
  obj : ∃ oe vs, h'.get? e = some oe ∧ oe.cls = .ref C ∧ oe.dict = some d ∧ oe.data = .fields vs ∧ vs[1]? = some .none
  dbig : h.objs.size ≤ d
  dne : d ≠ e
  ns : h'.Ns1 d (fun y => if y = "name" then some v else none)
theorem one_size (v : Value) : [v].length ≤ sizeLine := by
  rw [sizeLine_eq]
  exact (by decide : 1 ≤ 16777216)
section
variable {prog : Program} {w : World} {A : Around} {E : Value → Shared → Prop} {R : Result → Shared → Prop} {s : Shared} {K : Frag} {mg mb : Str → Option Value} {nm : Str} {C fI : Addr}
/-- the base's __init__, bound, called with one value: the args are laid anew -/
theorem call_mw {h : Heap} {g : Array GenState} {d : Drawn} {t : Nat} {os : OsState} {u e t0 : Addr} {rest : List Value} {Q : Value → Shared → Prop} {nm q : Str} {N : Addr} {bs bm : List Value} {hdct : Bool} {sn : List Str} {sub : List Value} {ab : Bool} {col : Option Bool} {dd : Option Addr} {k0 k1 k2 k3 k5 : Option Value}
    (hC : h.get? C = some (excClassObj nm q C N bs bm hdct sn sub ab col dd k0 k1 k2 k3 k5 "ValueError.__new__")) (he : h.get? e = some (excO C t0)) (hu : h.get? u = some (kxs_mw "ValueError.__init__" e)) (hrest : rest.length ≤ sizeLine)
    (hq : ∀ h' t1, (∀ b o, b ≠ e → h.get? b = some o → h'.get? b = some o) → h'.get? e = some (excO C t1) → Q .none ⟨h', g, d, t, os⟩) :
    wpAny (model prog w) A (call (.ref u) rest) Q E ⟨h, g, d, t, os⟩ := by
  refine wpAny_call (codeAny_of_tree ?_)
  show wpAny _ A.in1 (callAny (.ref u) ⟨rest, []⟩) _ _ _
  simp only [callAny]
  refine wpAny_bind (wpAny_load hu ?_)
  simp only [kxs_mw, show (Value.type "method-wrapper" == Value.type "method" || Value.type "method-wrapper" == Value.type "builtin_function_or_method" || Value.type "method-wrapper" == Value.type "method-wrapper") = true by decide, if_true]
  refine KFB.if_so (by decide) ?_
  refine wpAny_bind (check_bound_init F.excBase_ValueError.toExcCallFacts hC he rfl ?_)
  refine wpAny_bind (wpAny_pure (wpAny_pure ?_))
  refine ⟨plainId_quiet F.excBase_ValueError.init.plain _, codeAny_builtin F.excBase_ValueError.initEntry ?_⟩
  exact exc_init_tree (cls := .ref C) (t0 := t0) (dv := none) (c2 := .none) (c3 := .none) (b4 := .bool false) he hrest fun h' k e' _ => hq h' _ k e'
theorem ldN {M : Model} {env : Env} {m : Str → Option Value} {x : Str} {pos : Pos} {v : Value} {Q : Value → Shared → Prop} (hn : s.heap.Ns env.locals m) (hv : m x = some v) (h : Q v s)
    (hk : env.scope.kind = .function := by rfl) (hl : env.kindOf x = some .local := by rfl) (hd : (x == ("__debug__" : Str)) = false := by decide) :
    wpAny M A (eval (.Name x pos) env) Q E s := wpAny_Name (wpAny_loadName_local hk hl hn hv h) hd
theorem nam_init (T : NamTxt prog K mg nm C fI) {e t0 : Addr} {v : Str} {tv : Tok} (hv : v.length ≤ 100000) (X : K.In s.heap) (hlim : s.heap.NoLimit) (hg : s.heap.Ns mainGlobals mg) (hb : s.heap.Ns builtinsNs mb) (hmb : mb "super" = some (.type "super"))
    (hx : s.heap.get? e = some (excO C t0)) (hnx : K.lookup e = none) (hroom : A.depth < recursionLimit)
    (hq : ∀ h' tk dx t1, InitEnd s.heap h' e C dx t1 (.str v tv) → R (.ok (.ret .none)) { s with heap := h', toks := tk }) :
    codeAny (model prog w) A (.call (.ref fI) ⟨[.ref e, .str v tv], []⟩) R s := by
  obtain ⟨oc, od, doc, pm, an, cda, cc, ct, osl, qual, ccl, cl, cdd, cld, ccs, csl, vs, file, tf, ho, hcd, hcode, hvs, hfile, hcell⟩ := T.fn
  obtain ⟨nm', q, N, bs, bm, sn, sub, ab, col, dd, k0, k1, k2, k3, k5, hC, hbm⟩ := T.cls
  have hcl : clsIn K C = some { name := nm', bases := bs, mro := .ref C :: bm, ns := N, qualname := q, hasDict := true, slotNames := sn, subclasses := sub, abstract := ab, collection := col, hasDel := false } := by unfold clsIn; rw [hC] <;> rfl
  refine ks_codeAny_call_defAt (binds := [("self", .ref e), ("name", .str v tv)]) hroom (X _ _ ho) rfl hlim (codeRec_of X hcd) rfl (BindsTo.of_eq ?b1) (show ∀ y ∈ eS.names, y.2 ≠ .cell by decide +kernel) (locs rfl) (fun h₁ hns k => ?_) rfl rfl rfl
  case b1 => first | rfl | with_unfolding_all rfl
  have I1 : InstAt s.heap e (excO C t0) C none := ⟨hx, rfl, rfl, trivial⟩
  have hne : e ≠ C := ks_ne X I1 hcl
  obtain ⟨hp, g, d, t, os⟩ := s
  have X₁ : K.In h₁ := X.keeps k
  have hx₁ := k _ _ hx
  -- super().__init__(f'..')
  refine ks_wpAt_execs_cons (ks_wpAt_Expr_any (ks_wpAt_MethodCall ?_ (by with_unfolding_all rfl)))
  have hoH := X₁ _ _ ho
  have hcodeH := X₁ _ _ hcode
  refine' ks_wpAt_super_base (attr := "__init__") (body := eB) (f := fI) (cc := cda) ?a1 ?a2 ?a3 ?a4 ?a5 ?a6 ?a7 ?a8 ?a9 ?a10 hvs hfile T.top ?_
  case a5 => exact hoH
  case a9 => exact hcodeH
  case a1 => rfl
  case a2 => rfl
  case a3 => decide
  case a4 => rfl
  case a6 => rfl
  case a7 => rfl
  case a8 => rfl
  case a10 => rfl
  have hG : h₁.Ns mainGlobals mg := hg.keeps k
  have hB : h₁.Ns builtinsNs mb := hb.keeps k
  refine ks_loadName_global rfl rfl (loadGlobal_builtin hG T.su hB hmb ⟨rfl, ?_⟩)
  refine wpAny_loadName_free rfl rfl rfl ⟨_, X₁ _ _ hcell, rfl⟩ ?_
  refine wpAny_loadName_local rfl rfl hns rfl ?_
  have hCC := X₁ _ _ hC
  refine ks_wpAny_isType_cls hCC rfl ⟨rfl, ?_⟩
  refine ks_wpAny_call_super hCC rfl hx₁ rfl (fun c z => by cases z) (looks_mroIn X₁ T.mr) (fun h₂ hso k₂ => ?_)
  have X₂ : K.In h₂ := X₁.keeps k₂
  have hx₂ := k₂ _ _ hx₁
  have I2 : InstAt h₂ e (excO C t0) C none := ⟨hx₂, rfl, rfl, trivial⟩
  have hI : Looks (model prog w) h₂ (isInstance (.ref e) (.type "ValueError")) true := I2.type.andThen (looks_subIn X₂ T.veC)
  have hup : alongIn K "__init__" (((.ref C :: bm : List Value).dropWhile (· != .ref C)).drop 1) = some (some (.builtin "ValueError.__init__")) := by
    have := T.up
    unfold ks_superIn at this
    rw [hcl] at this
    exact this
  refine kxs_getMethod kxs_ValueError hso (looks_opaque X₂ T.op) (l₀ := .ref C :: bm) ?lk rfl X₂ hup hI hne (by decide) ?_
  case lk => exact fun A Q E s k q => wpAny_bind ((looks_clsIn X₂ hcl) A _ E s k (wpAny_pure q))
  refine kxs_callWith (i := "ValueError.__init__") (x := e) rfl (evalArgs_plain ?_)
  refine Calls.spliced_cons ?_
  -- the text
  have hn₂ : h₂.Ns hp.objs.size _ := hns.keeps k₂
  have hn₃ : (h₂.push (kxs_mw "ValueError.__init__" e)).Ns hp.objs.size _ := hn₂.keeps fun b o z => Heap.get?_push_of_some _ z
  refine wpAny_JoinedStr (pos := ⟨45, 25, 45, 56⟩) ?_
  refine Calls.Constant_str (x := msg) (k := 0) (pos := ⟨45, 27, 45, 36⟩) ?_
  refine ⟨_, _, rfl, by decide +kernel, ?_⟩
  have hs1 : ((Str.empty ++ msg) ++ v).length ≤ sizeLine := by
    rw [strLen_append, show (Str.empty ++ msg).length = 9 by decide +kernel, sizeLine_eq]
    omega
  have hs2 : (((Str.empty ++ msg) ++ v) ++ msg2).length ≤ sizeLine := by
    rw [strLen_append, strLen_append, show (Str.empty ++ msg).length = 9 by decide +kernel, show msg2.length = 13 by decide +kernel, sizeLine_eq]
    omega
  refine wpAny_FormattedValue_plain (value := .Name "name" ⟨45, 37, 45, 41⟩) (pos := ⟨45, 36, 45, 42⟩) (ldN (env := callEnv (fnX "__init__" qual eA eB eS [("__class__", cc)] .none .none doc pm an (.ref cda) ct) hp.objs.size fI) hn₃ rfl (wpAny_formatField_str ?_ ?_))
  all_goals
    refine ⟨_, _, rfl, hs1, ?_⟩
    refine Calls.Constant_str (x := msg2) (k := 0) (pos := ⟨45, 42, 45, 55⟩) ?_
    refine ⟨_, _, rfl, hs2, ?_⟩
    refine ⟨hs2, ?_⟩
    refine Calls.spliced_nil ?_
    have hu₃ : (h₂.push (kxs_mw "ValueError.__init__" e)).get? h₂.objs.size = some (kxs_mw "ValueError.__init__" e) := Heap.get?_push_at rfl rfl
    refine ⟨hu₃, ?_⟩
    have k₃ : ∀ b o, h₂.get? b = some o → (h₂.push (kxs_mw "ValueError.__init__" e)).get? b = some o := fun b o z => Heap.get?_push_of_some _ z
    have X₃ : K.In (h₂.push (kxs_mw "ValueError.__init__" e)) := X₂.keeps k₃
    refine call_mw (X₃ _ _ hC) (k₃ _ _ hx₂) hu₃ (one_size _) fun h₄ t1 k₄ hx₄ => ?_
    have X₄ : K.In h₄ := fun a o z => by
      by_cases ha : a = e
      · subst ha
        have := X₃ _ _ z
        have y := k₃ _ _ hx₂
        rw [this] at y
        have nK : K.lookup a = none := hnx
        rw [nK] at z
        cases z
      · exact k₄ _ _ ha (X₃ _ _ z)
    have hn₄ : h₄.Ns hp.objs.size _ := hn₃.at fun o z => k₄ _ _ (Nat.ne_of_gt (Heap.lt_size hx)) z
    -- self.at = at
    refine wpAt_of_wpAny ?_
    refine wpAny_execs_cons (plainObj_wpAny_Assign_Attribute ?_)
    refine ldN (v := .str v tv) hn₄ rfl (ldN (v := .ref e) hn₄ rfl ?_)
    refine set_plain X₄ (ox := excO C t1) (od := none) ⟨hx₄, rfl, rfl, trivial⟩ T.sa ?_
    refine exc_osa X₄ hx₄ hcl (show refsVE (.ref C :: bm) = true from hbm) rfl T.noN (fun h₅ tk₅ dx k₅ dn dne hx₅ hn₅ => ?_)
    refine wpAny_execs_nil ?_
    have keepAll : ∀ b o, b ≠ e → hp.get? b = some o → h₅.get? b = some o := fun b o hb z => k₅ b o hb (k₄ b o hb (k₃ _ _ (k₂ _ _ (k _ _ z))))
    refine hq h₅ tk₅ dx t1 ⟨keepAll, hx₅, ?_, dne, hn₅⟩
    exact Nat.le_trans (Nat.le_of_lt hn₄.lt) dn
theorem nam_made (T : NamTxt prog K mg nm C fI) {v : Str} {tv : Tok} (hv : v.length ≤ 100000) (X : K.In s.heap) (hlim : s.heap.NoLimit) (hg : s.heap.Ns mainGlobals mg) (hb : s.heap.Ns builtinsNs mb) (hmb : mb "super" = some (.type "super")) (hroom : A.depth + 1 < recursionLimit)
    (hq : ∀ h' tk e d, OwnMade s.heap h' e C d (.str v tv) → R (.ok (.ret (.ref e))) { s with heap := h', toks := tk }) :
    codeAny (model prog w) A (.call (.ref C) ⟨[.str v tv], []⟩) R s := by
  obtain ⟨nm, q, N, bs, bm, sn, sub, ab, col, dd, k0, k1, k2, k3, k5, hC, hbm⟩ := T.cls
  obtain ⟨hp, g, dr, tk, os⟩ := s
  have k : ∀ b o, hp.get? b = some o → ((hp.push (kdv_tup [.str v tv])).push (excO C hp.objs.size)).get? b = some o := fun b o e => Heap.get?_push_of_some _ (Heap.get?_push_of_some _ e)
  have hget : ((hp.push (kdv_tup [.str v tv])).push (excO C hp.objs.size)).get? (hp.objs.size + 1) = some (excO C hp.objs.size) := by heap_get
  have hnx : K.lookup (hp.objs.size + 1) = none := by
    cases e : K.lookup (hp.objs.size + 1) with
    | none => rfl
    | some o =>
      have z : hp.get? (hp.objs.size + 1) = some o := X _ _ e
      exact absurd (Nat.lt_of_succ_lt (Heap.lt_size z)) (Nat.lt_irrefl _)
  refine call_own F.excBase_ValueError (fun X => refsVE_contains X bm hbm) (X _ _ hC) (looks_findIn X T.iC) (fun self => bind_fn X self T.tC) (one_size _) ?_
  refine nam_init (s := ⟨(hp.push (kdv_tup [.str v tv])).push (excO C hp.objs.size), g, dr, tk, os⟩) T hv (X.keeps k) (hlim.keeps k) (hg.keeps k) (hb.keeps k) hmb hget hnx ?_ fun h' tk' dx t1 ⟨k', hx, dn, dne, hns⟩ => ?_
  · show A.depth + 1 < recursionLimit
    exact hroom
  · have old : ∀ b o, hp.get? b = some o → h'.get? b = some o := fun b o e => k' b o (Nat.ne_of_lt (Nat.lt_succ_of_lt (Heap.lt_size e))) (k b o e)
    have z : hp.objs.size + 1 + 1 ≤ dx := by
      first
        | (simpa only [Heap.size_push] using dn)
        | exact dn
        | (have q := dn; rw [Heap.size_push, Heap.size_push] at q; exact q)
    exact ⟨rfl, hq h' tk' (hp.objs.size + 1) dx ⟨old, Nat.le_succ _, ⟨_, _, hx, rfl, rfl, rfl, rfl⟩, Nat.le_trans (Nat.le_trans (Nat.le_succ _) (Nat.le_succ _)) z, dne, hns⟩⟩
end
end NamX
end PySem
namespace L2
open PySem PySem.Spec PyProof.Rows
theorem relO_nam {v : V} {v' : Value} (r : RelV v v') (f : Str) : RelO (List.lookup f [(("name" : Str), v)]) (if f = "name" then some v' else none) := by
  by_cases hw : f = "name"
  · subst hw
    rw [if_pos rfl]
    have q : List.lookup ("name" : Str) [(("name" : Str), v)] = some v := by simp [List.lookup]
    rw [q]
    exact r
  · rw [if_neg hw]
    have qw : (f == ("name" : Str)) = false := by simpa using hw
    have q2 : List.lookup f [(("name" : Str), v)] = none := by simp [List.lookup, qw]
    rw [q2]
    trivial
section
variable {X : Cx} {C fI : Addr} {nm : Str}
/-- C(e), e an int -/
def tMkNam (C : Addr) (ta : TA) : St → Hp → XK → Prop := fun σ H Q => ta σ H fun vs H1 => ∃ v : Str, vs = [.str v] ∧ v.length ≤ 100000 ∧ ∀ d, H1 d = none → Q (.ref C) (some d) (upd H1 d (.xd [(("name" : Str), .str v)]))
theorem pmk_nam {a : Expr} {ta : TA} {p pos : Pos} {k : Nat} (T : PySem.NamX.NamTxt X.prog X.K X.mg nm C fI) (hr : Room k X.A) (ha : PA X [a] ta) (hg : Gl X nm := by rfl) (hdb : (nm == ("__debug__" : Str)) = false := by decide)
    (he : starEach (a :: []) X.env = (false, eval a X.env) :: starEach [] X.env := by rfl) (hpl : (backTo pos (starEach [] X.env)).any (·.1) = false := by rfl) :
    PMk X (.Call (.Name nm p) [a] [] pos) (tMkNam C ta) := by
  intro pins s σ H Q I h
  refine wpAny_Call_Name_kw (ld_glob I hg T.gC ?_ hdb)
  refine PySem.W.callWith_K (h₀ := X.base) I.ok.mod.kin T.kC (thn (ha.run pos pins s σ H _ I h) fun us s1 hh => ?_) he hpl
  obtain ⟨vs, H1, I1, r1, v, ev, hv, q1⟩ := hh
  subst ev
  refine ⟨I1.kIn, ?_⟩
  cases r1 with
  | cons rv rn =>
    rename_i v' us'
    cases rn
    obtain ⟨tv, rfl⟩ := rv
    show wpAny _ _ (call (.ref C) [.str v tv]) _ _ _
    have hlim := I1.nolimit
    obtain ⟨mb, hb, hmb⟩ := I1.mod.blt
    have hb1 := hb.keeps I1.bk
    have hg1 := I1.mod.glob.keeps I1.bk
    have hsup : mb "super" = some (.type "super") := (hmb _ (by decide)).trans (by decide +kernel)
    obtain ⟨hp, g, dr, tk, os⟩ := s1
    refine wpAny_call (PySem.NamX.nam_made T hv I1.kIn hlim hg1 hb1 hsup (by have := hr.dp; omega) fun h' tk' e d M => ?_)
    show MkP X pins σ Q (.ref e) ⟨h', g, dr, tk', os⟩
    obtain ⟨oe, fv, hoe, hc, hd, hdat, h1⟩ := M.obj
    have hns := M.ns
    obtain ⟨G', g1, g2⟩ := restrict h' fun b => decide (b ≠ e)
    have gk : ∀ b, b ≠ e → G'.get? b = h'.get? b := fun b hb => g1 b (decide_eq_true hb)
    have ge : G'.get? e = none := g2 e (by simp)
    have old : ∀ b o, hp.get? b = some o → G'.get? b = some o := fun b o q => (gk b (Nat.ne_of_lt (Nat.lt_of_lt_of_le (Heap.lt_size q) M.new))).trans (M.keep b o q)
    have ob : ObjOk X.prog X.w (upd H1 d (.xd [(("name" : Str), .str v)])) G' d (.xd [(("name" : Str), .str v)]) :=
      ⟨_, hns.at (fun o q => (gk d M.dne).trans q), fun f => relO_nam (v := .str v) (v' := .str v tv) ⟨tv, rfl⟩ f⟩
    have J : Inv X pins σ (upd H1 d (.xd [(("name" : Str), .str v)])) ⟨G', g, dr, tk', os⟩ := I1.laid (t' := tk') old M.dbig ob
    refine ⟨e, oe, fv, ⟨G', g, dr, tk', os⟩, _, .ref C, some d, rfl, J, fun b o q => ?_, ge, hoe, ⟨hc, hd⟩, hdat, h1, ?_, rfl, I1.bare, raises_own T.exC T.tyC, q1 d (I1.hok.fresh M.dbig)⟩
    · by_cases hb : b = e
      · have q' : G'.get? b = some o := q
        rw [hb, ge] at q'; cases q'
      · exact (gk b hb).symm.trans q
    · rw [upd_ne (Ne.symm M.dne)]
      exact I1.hok.fresh M.new
/-- raise C(e) -/
def tRaiseNam (C : Addr) (W : WX) (ta : TA) : TS := fun _ σ H => tMkNam C ta σ H fun cls d H' => W cls d σ H'
theorem ps_raiseNam {a : Expr} {ta : TA} {W : WX} {p pos pos2 : Pos} {k : Nat} (hc : X.calm = true) (T : PySem.NamX.NamTxt X.prog X.K X.mg nm C fI) (hr : Room k X.A) (tk : Takes X W) (ha : PA X [a] ta) (hg : Gl X nm := by rfl) (hdb : (nm == ("__debug__" : Str)) = false := by decide)
    (he : starEach (a :: []) X.env = (false, eval a X.env) :: starEach [] X.env := by rfl) (hpl : (backTo pos (starEach [] X.env)).any (·.1) = false := by rfl) :
    PS X (.Raise (some (.Call (.Name nm p) [a] [] pos)) none pos2) (tRaiseNam C W ta) := ps_raise hc tk (pmk_nam T hr ha hg hdb he hpl)
/-- err.at, err the exception that the suite holds (at a; its class cls, its dict d) -/
def tByNam (C : Addr) (a : Addr) (cls : Value) (d : Option Addr) (te : TE) : TE := fun σ H Q => te σ H fun x H1 => x = .ref a ∧ cls = .ref C ∧ ∃ (dd : Addr) (v : V), d = some dd ∧ H1 dd = some (.xd [(("name" : Str), v)]) ∧ Q v H1
theorem pe_byNam {a : Addr} {oe : Obj} {cls : Value} {d : Option Addr} {pn : List (Addr × Obj)} {e : Expr} {te : TE} {pos : Pos} (T : PySem.NamX.NamTxt X.prog X.K X.mg nm C fI) (hz : Zc cls d oe) (hf : ∃ vs, oe.data = .fields vs) (he : PE (X.suite a ((a, oe) :: pn)) e te)
    (hb : attributeBase e "name" X.env (eval e X.env) = eval e X.env := by rfl) :
    PE (X.suite a ((a, oe) :: pn)) (.Attribute e "name" pos) (tByNam C a cls d te) := by
  refine ⟨fun pins s σ H Q I h => ?_⟩
  refine attr_of hb (thn (he.run pins s σ H _ I h) fun u s1 hh => ?_)
  obtain ⟨x, H1, I1, rx, ex, ec, dd, v, ed, ea, q⟩ := hh
  subst ex
  obtain rfl : u = Value.ref a := rx
  subst ec
  subst ed
  obtain ⟨ha, _⟩ := I1.pin (a, oe) (List.mem_append_left _ List.mem_cons_self)
  obtain ⟨vs, hd⟩ := hf
  have hx : ObjOk X.prog X.w H1 s1.heap dd (.xd [(("name" : Str), v)]) := I1.hok dd _ ea
  obtain ⟨mA, hns, hr⟩ := hx
  obtain ⟨od, ho, hl⟩ := lookIn_ns hns
  have l : List.lookup ("name" : Str) [(("name" : Str), v)] = some v := by simp [List.lookup]
  obtain ⟨u, hu, ru⟩ := RelO.some_of (v := v) (o := mA "name") (by rw [← l]; exact hr "name")
  have J : PySem.W.InstAt s1.heap a oe C (some od) := ⟨ha, hz.1, by unfold PySem.W.notCls; rw [hd] <;> rfl, by rw [hz.2]; exact ho⟩
  exact HandSPX.exc_get I1.kIn J T.ga T.gg T.exC (PySem.W.findObj_own T.hdC T.noN rfl (by rw [hl, hu])) (handed_of ru) ⟨v, H1, I1.tok _, ru, q⟩
end
end L2
/-! isinstance of a caught error that has a dict of its own; a call in a try. -/
namespace L2
open PySem PySem.Spec PyProof.Rows
/-- isinstance(e, c), e the exception that the suite holds, at a, of the class cls, its dict d -/
def rIsG (K : PySem.W.Frag) (a : Addr) (cls : Value) (d : Option Addr) : List V → Hp → VK → Prop := fun xs H Q => ∃ (D dd : Addr) (fs : List (Str × V)) (c : V) (cv : Value) (b : Bool), xs = [.ref a, c] ∧ cls = .ref D ∧ d = some dd ∧ H dd = some (.xd fs) ∧ ExcC K D ∧
  (∀ u, RelV c u → u = cv) ∧ PySem.W.kitOne K (.ref D) cv = some b ∧ Q (.bl b) H
theorem call_isG {X : Cx} {a : Addr} {cls : Value} {d : Option Addr} {oe : Obj} {pn : List (Addr × Obj)} (hz : Zc cls d oe) (hf : ∃ vs, oe.data = .fields vs) : CallR (X.suite a ((a, oe) :: pn)) (.builtin "isinstance") (rIsG X.K a cls d) := by
  intro pins s σ H xs us Q I r h
  obtain ⟨D, dd, fs, c, cv, b, rfl, rfl, rfl, hdd, C, hcv, e, q⟩ := h
  cases r with
  | cons rx rr =>
    cases rr with
    | cons rt rr =>
      cases rr
      cases rx
      have ec := hcv _ rt
      subst ec
      obtain ⟨hget, _⟩ := I.pin (a, oe) (List.mem_append.mpr (.inl List.mem_cons_self))
      obtain ⟨vs, hv⟩ := hf
      have hx : ObjOk X.prog X.w H s.heap dd (.xd fs) := I.hok dd _ hdd
      obtain ⟨mA, hns, _⟩ := hx
      obtain ⟨od, es, ep, hod, _⟩ := hns
      have J : PySem.W.InstAt s.heap a oe D (some od) := by
        obtain ⟨oc, od', oda, osl⟩ := oe
        obtain ⟨h1, h2⟩ := hz
        dsimp only at h1 h2 hv
        subst h1 h2 hv
        exact ⟨hget, rfl, rfl, hod⟩
      have hcl : (PySem.W.clsIn X.K D).isSome = true := by
        obtain ⟨cd, hc, _⟩ := PySem.W.any_some C.hd
        rw [hc]; rfl
      exact PySem.W.kia_one (PySem.W.kitx_exc hcl C.hg C.hk C.hs C.ha C.hn C.ht C.hm) I.kIn J e (fun z => nomatch z) fun tk => ⟨.bl b, H, I.kept (t' := tk) fun _ _ z => z, rfl, q⟩
end L2
namespace Lv
open PySem PySem.Spec PyProof.Rows L2
section
variable {X : Cx} {k j : Nat} {x : Str} {sp : Sp} {W : WX} {p pos : Pos} {e : Expr} {es : List Expr} {t : TA}
theorem pe_cxs (c : CalX X.prog X.w X.K X.mg X.base k x sp) (hr : Room j X.A) (hk : k ≤ j) (hg : Gl X x) (tk : Takes X W) (ha : PA X (e :: es) t)
    (hdb : (x == ("__debug__" : Str)) = false := by decide) (he : starEach (e :: es) X.env = (false, eval e X.env) :: starEach es X.env := by rfl) (hpl : (backTo pos (starEach es X.env)).any (·.1) = false := by rfl) :
    PE X (.Call (.Name x p) (e :: es) [] pos) (tCallS sp (WE W) t) := by
  obtain ⟨f, fd, ps, F, hm, kp, b⟩ := c.ex
  exact pe_callS F (hr.mono hk) hg hm kp b (fun σ => passAt tk σ) ha hdb he hpl
end
end Lv
/-! An own error whose __init__ tells its text to its base and keeps one field. -/
namespace PySem
namespace ChgX
open PySem.W PySem.Calls PyProof.Rows PySem.HandSPX
/-! ### the text of __init__: the parameter's name is a letter (at, name) -/
def msg : Str := "refused at change "
def eA : Arguments := { posonlyargs := [], args := [{ arg := "self", annotation := none, pos := ⟨49, 17, 49, 21⟩ }, { arg := "at", annotation := none, pos := ⟨49, 23, 49, 25⟩ }], vararg := none, kwonlyargs := [], kw_defaults := [], kwarg := none, defaults := [] }
def eB : List Stmt :=
  [.Expr (.Call (.Attribute (.Call (.Name "super" ⟨50, 8, 50, 13⟩) [] [] ⟨50, 8, 50, 15⟩) "__init__" ⟨50, 8, 50, 24⟩) [.JoinedStr [.Constant (.str msg) 0 ⟨50, 27, 50, 45⟩, .FormattedValue (.Name "at" ⟨50, 46, 50, 48⟩) (-1) none ⟨50, 45, 50, 49⟩] ⟨50, 25, 50, 50⟩] [] ⟨50, 8, 50, 51⟩) ⟨50, 8, 50, 51⟩,
   .Assign [.Attribute (.Name "self" ⟨51, 8, 51, 12⟩) "at" ⟨51, 8, 51, 15⟩] (.Name "at" ⟨51, 18, 51, 20⟩) ⟨51, 8, 51, 20⟩]
def eS : Scope := { kind := .function, names := [(PySem.Str.ofString "self", .local), (PySem.Str.ofString "at", .local), (PySem.Str.ofString "__class__", .free), (PySem.Str.ofString "super", .globalImplicit)], isGenerator := false, isCoroutine := false, more := [] }
/-- what the written part says of the class at C, and of its __init__, at fI; x: the field -/
structure ChgTxt (P : Program) (K : Frag) (mg : Str → Option Value) (nm : Str) (C fI : Addr) : Prop where
  gC : mg nm = some (.ref C)
  cls : ∃ nm q N bs bm sn sub ab col dd k0 k1 k2 k3 k5, K.lookup C = some (excClassObj nm q C N bs bm true sn sub ab col dd k0 k1 k2 k3 k5 "ValueError.__new__") ∧ refsVE bm = true
  sa : findIn K (.ref C) "__setattr__" = some (some (.builtin "object.__setattr__"))
  ga : findIn K (.ref C) "__getattribute__" = some (some (.builtin "BaseException.__getattribute__"))
  gg : findIn K (.ref C) "__getattr__" = some none
  noN : findIn K (.ref C) "at" = some none
  iC : findIn K (.ref C) "__init__" = some (some (.ref fI))
  tC : typeIn K (.ref fI) = some (.type "function")
  kC : keepIn K (.ref C) = true
  exC : subIn K (.ref C) (.type "BaseException") = some true
  veC : subIn K (.ref C) (.type "ValueError") = some true
  tyC : typeIn K (.ref C) = some (.type "type")
  hdC : hasDictIn K C = true
  te : exmOne K (.ref C) (.ref C) = some true
  op : nsIn K cStatics "thirdparty.any" = some none
  up : ks_superIn K C C "__init__" = some (some (.builtin "ValueError.__init__"))
  mr : mroIn K C (.ref C) = some true
  su : mg "super" = none
  top : (P.main.scope.names.lookup ("super" : Str)).isSome = false
  fn : ∃ (oc : Value) (od : Option Addr) (doc pm : Value) (an : Option Addr) (cda cc : Addr) (ct : Value) (osl : Array (Option Value)) (qual : Str) (ccl cl : Value) (cdd cld : Option Addr) (ccs csl : Array (Option Value)) (vs : Array Value) (file : Str) (tf : Tok),
    K.lookup fI = some ⟨oc, od, .func (fnX "__init__" qual eA eB eS [("__class__", cc)] .none .none doc pm an (.ref cda) ct), osl⟩ ∧ codeIn K (.ref cda) qual = true ∧
    K.lookup cda = some ⟨ccl, cdd, .fields vs, ccs⟩ ∧ vs[2]? = some (.str file tf) ∧ ((P.main.file : Str) == file) = true ∧ K.lookup cc = some ⟨cl, cld, .cell (some (.ref C)), csl⟩
/-- what __init__ leaves of a fresh exception at x -/
structure InitEnd (h h' : Heap) (e C dx t1 : Addr) (v : Value) : Prop where
  keep : ∀ b o, b ≠ e → h.get? b = some o → h'.get? b = some o
  obj : h'.get? e = some { cls := .ref C, dict := some dx, data := .fields #[.ref t1, .none, .none, .none, .bool false, .none] }
  dbig : h.objs.size ≤ dx
  dne : dx ≠ e
  ns : h'.Ns1 dx (fun y => if y = "at" then some v else none)
structure OwnMade (h h' : Heap) (e C d : Addr) (v : Value) : Prop where
  keep : ∀ b o, h.get? b = some o → h'.get? b = some o
  new : h.objs.size ≤ e
  obj : ∃ oe vs, h'.get? e = some oe ∧ oe.cls = .ref C ∧ oe.dict = some d ∧ oe.data = .fields vs ∧ vs[1]? = some .none
  dbig : h.objs.size ≤ d
  dne : d ≠ e
  ns : h'.Ns1 d (fun y => if y = "at" then some v else none)
theorem one_size (v : Value) : [v].length ≤ sizeLine := by
  rw [sizeLine_eq]
  exact (by decide : 1 ≤ 16777216)
section
variable {prog : Program} {w : World} {A : Around} {E : Value → Shared → Prop} {R : Result → Shared → Prop} {s : Shared} {K : Frag} {mg mb : Str → Option Value} {nm : Str} {C fI : Addr}
/-- the base's __init__, bound, called with one value: the args are laid anew -/
theorem call_mw {h : Heap} {g : Array GenState} {d : Drawn} {t : Nat} {os : OsState} {u e t0 : Addr} {rest : List Value} {Q : Value → Shared → Prop} {nm q : Str} {N : Addr} {bs bm : List Value} {hdct : Bool} {sn : List Str} {sub : List Value} {ab : Bool} {col : Option Bool} {dd : Option Addr} {k0 k1 k2 k3 k5 : Option Value}
    (hC : h.get? C = some (excClassObj nm q C N bs bm hdct sn sub ab col dd k0 k1 k2 k3 k5 "ValueError.__new__")) (he : h.get? e = some (excO C t0)) (hu : h.get? u = some (kxs_mw "ValueError.__init__" e)) (hrest : rest.length ≤ sizeLine)
    (hq : ∀ h' t1, (∀ b o, b ≠ e → h.get? b = some o → h'.get? b = some o) → h'.get? e = some (excO C t1) → Q .none ⟨h', g, d, t, os⟩) :
    wpAny (model prog w) A (call (.ref u) rest) Q E ⟨h, g, d, t, os⟩ := by
  refine wpAny_call (codeAny_of_tree ?_)
  show wpAny _ A.in1 (callAny (.ref u) ⟨rest, []⟩) _ _ _
  simp only [callAny]
  refine wpAny_bind (wpAny_load hu ?_)
  simp only [kxs_mw, show (Value.type "method-wrapper" == Value.type "method" || Value.type "method-wrapper" == Value.type "builtin_function_or_method" || Value.type "method-wrapper" == Value.type "method-wrapper") = true by decide, if_true]
  refine KFB.if_so (by decide) ?_
  refine wpAny_bind (check_bound_init F.excBase_ValueError.toExcCallFacts hC he rfl ?_)
  refine wpAny_bind (wpAny_pure (wpAny_pure ?_))
  refine ⟨plainId_quiet F.excBase_ValueError.init.plain _, codeAny_builtin F.excBase_ValueError.initEntry ?_⟩
  exact exc_init_tree (cls := .ref C) (t0 := t0) (dv := none) (c2 := .none) (c3 := .none) (b4 := .bool false) he hrest fun h' k e' _ => hq h' _ k e'
theorem ldN {M : Model} {env : Env} {m : Str → Option Value} {x : Str} {pos : Pos} {v : Value} {Q : Value → Shared → Prop} (hn : s.heap.Ns env.locals m) (hv : m x = some v) (h : Q v s)
    (hk : env.scope.kind = .function := by rfl) (hl : env.kindOf x = some .local := by rfl) (hd : (x == ("__debug__" : Str)) = false := by decide) :
    wpAny M A (eval (.Name x pos) env) Q E s := wpAny_Name (wpAny_loadName_local hk hl hn hv h) hd
theorem src_init (T : ChgTxt prog K mg nm C fI) {e t0 : Addr} {v : Int} {tv : Tok} (hv : v.natAbs.log2 < 1920) (X : K.In s.heap) (hlim : s.heap.NoLimit) (hg : s.heap.Ns mainGlobals mg) (hb : s.heap.Ns builtinsNs mb) (hmb : mb "super" = some (.type "super"))
    (hx : s.heap.get? e = some (excO C t0)) (hnx : K.lookup e = none) (hroom : A.depth < recursionLimit)
    (hq : ∀ h' tk dx t1, InitEnd s.heap h' e C dx t1 (.int v tv) → R (.ok (.ret .none)) { s with heap := h', toks := tk }) :
    codeAny (model prog w) A (.call (.ref fI) ⟨[.ref e, .int v tv], []⟩) R s := by
  obtain ⟨oc, od, doc, pm, an, cda, cc, ct, osl, qual, ccl, cl, cdd, cld, ccs, csl, vs, file, tf, ho, hcd, hcode, hvs, hfile, hcell⟩ := T.fn
  obtain ⟨nm', q, N, bs, bm, sn, sub, ab, col, dd, k0, k1, k2, k3, k5, hC, hbm⟩ := T.cls
  have hcl : clsIn K C = some { name := nm', bases := bs, mro := .ref C :: bm, ns := N, qualname := q, hasDict := true, slotNames := sn, subclasses := sub, abstract := ab, collection := col, hasDel := false } := by unfold clsIn; rw [hC] <;> rfl
  refine ks_codeAny_call_defAt (binds := [("self", .ref e), ("at", .int v tv)]) hroom (X _ _ ho) rfl hlim (codeRec_of X hcd) rfl (BindsTo.of_eq ?b1) (show ∀ y ∈ eS.names, y.2 ≠ .cell by decide +kernel) (locs rfl) (fun h₁ hns k => ?_) rfl rfl rfl
  case b1 => first | rfl | with_unfolding_all rfl
  have I1 : InstAt s.heap e (excO C t0) C none := ⟨hx, rfl, rfl, trivial⟩
  have hne : e ≠ C := ks_ne X I1 hcl
  obtain ⟨hp, g, d, t, os⟩ := s
  have X₁ : K.In h₁ := X.keeps k
  have hx₁ := k _ _ hx
  -- super().__init__(f'..')
  refine ks_wpAt_execs_cons (ks_wpAt_Expr_any (ks_wpAt_MethodCall ?_ (by with_unfolding_all rfl)))
  have hoH := X₁ _ _ ho
  have hcodeH := X₁ _ _ hcode
  refine' ks_wpAt_super_base (attr := "__init__") (body := eB) (f := fI) (cc := cda) ?a1 ?a2 ?a3 ?a4 ?a5 ?a6 ?a7 ?a8 ?a9 ?a10 hvs hfile T.top ?_
  case a5 => exact hoH
  case a9 => exact hcodeH
  case a1 => rfl
  case a2 => rfl
  case a3 => decide
  case a4 => rfl
  case a6 => rfl
  case a7 => rfl
  case a8 => rfl
  case a10 => rfl
  have hG : h₁.Ns mainGlobals mg := hg.keeps k
  have hB : h₁.Ns builtinsNs mb := hb.keeps k
  refine ks_loadName_global rfl rfl (loadGlobal_builtin hG T.su hB hmb ⟨rfl, ?_⟩)
  refine wpAny_loadName_free rfl rfl rfl ⟨_, X₁ _ _ hcell, rfl⟩ ?_
  refine wpAny_loadName_local rfl rfl hns rfl ?_
  have hCC := X₁ _ _ hC
  refine ks_wpAny_isType_cls hCC rfl ⟨rfl, ?_⟩
  refine ks_wpAny_call_super hCC rfl hx₁ rfl (fun c z => by cases z) (looks_mroIn X₁ T.mr) (fun h₂ hso k₂ => ?_)
  have X₂ : K.In h₂ := X₁.keeps k₂
  have hx₂ := k₂ _ _ hx₁
  have I2 : InstAt h₂ e (excO C t0) C none := ⟨hx₂, rfl, rfl, trivial⟩
  have hI : Looks (model prog w) h₂ (isInstance (.ref e) (.type "ValueError")) true := I2.type.andThen (looks_subIn X₂ T.veC)
  have hup : alongIn K "__init__" (((.ref C :: bm : List Value).dropWhile (· != .ref C)).drop 1) = some (some (.builtin "ValueError.__init__")) := by
    have := T.up
    unfold ks_superIn at this
    rw [hcl] at this
    exact this
  refine kxs_getMethod kxs_ValueError hso (looks_opaque X₂ T.op) (l₀ := .ref C :: bm) ?lk rfl X₂ hup hI hne (by decide) ?_
  case lk => exact fun A Q E s k q => wpAny_bind ((looks_clsIn X₂ hcl) A _ E s k (wpAny_pure q))
  refine kxs_callWith (i := "ValueError.__init__") (x := e) rfl (evalArgs_plain ?_)
  refine Calls.spliced_cons ?_
  -- the text
  have hn₂ : h₂.Ns hp.objs.size _ := hns.keeps k₂
  have hn₃ : (h₂.push (kxs_mw "ValueError.__init__" e)).Ns hp.objs.size _ := hn₂.keeps fun b o z => Heap.get?_push_of_some _ z
  refine wpAny_JoinedStr (pos := ⟨50, 25, 50, 50⟩) ?_
  refine Calls.Constant_str (x := msg) (k := 0) (pos := ⟨50, 27, 50, 45⟩) ?_
  refine ⟨_, _, rfl, by decide +kernel, ?_⟩
  refine wpAny_FormattedValue_plain (value := .Name "at" ⟨50, 46, 50, 48⟩) (pos := ⟨50, 45, 50, 49⟩) (ldN (env := callEnv (fnX "__init__" qual eA eB eS [("__class__", cc)] .none .none doc pm an (.ref cda) ct) hp.objs.size fI) hn₃ rfl (wpAny_formatField_int hv ?_))
  have hsz : ((Str.empty ++ msg) ++ Str.ofString (toString v)).length ≤ sizeLine := by
    rw [strLen_append, PySem.ofString_length, show (Str.empty ++ msg).length = 18 by decide +kernel, sizeLine_eq]
    have := int_text_length_le (k := 1920) (by decide) hv
    omega
  refine ⟨_, _, rfl, hsz, ?_⟩
  refine ⟨hsz, ?_⟩
  refine Calls.spliced_nil ?_
  have hu₃ : (h₂.push (kxs_mw "ValueError.__init__" e)).get? h₂.objs.size = some (kxs_mw "ValueError.__init__" e) := Heap.get?_push_at rfl rfl
  refine ⟨hu₃, ?_⟩
  have k₃ : ∀ b o, h₂.get? b = some o → (h₂.push (kxs_mw "ValueError.__init__" e)).get? b = some o := fun b o z => Heap.get?_push_of_some _ z
  have X₃ : K.In (h₂.push (kxs_mw "ValueError.__init__" e)) := X₂.keeps k₃
  refine call_mw (X₃ _ _ hC) (k₃ _ _ hx₂) hu₃ (one_size _) fun h₄ t1 k₄ hx₄ => ?_
  have X₄ : K.In h₄ := fun a o z => by
    by_cases ha : a = e
    · subst ha
      have := X₃ _ _ z
      have y := k₃ _ _ hx₂
      rw [this] at y
      have nK : K.lookup a = none := hnx
      rw [nK] at z
      cases z
    · exact k₄ _ _ ha (X₃ _ _ z)
  have hn₄ : h₄.Ns hp.objs.size _ := hn₃.at fun o z => k₄ _ _ (Nat.ne_of_gt (Heap.lt_size hx)) z
  -- self.at = at
  refine wpAt_of_wpAny ?_
  refine wpAny_execs_cons (plainObj_wpAny_Assign_Attribute ?_)
  refine ldN (v := .int v tv) hn₄ rfl (ldN (v := .ref e) hn₄ rfl ?_)
  refine set_plain X₄ (ox := excO C t1) (od := none) ⟨hx₄, rfl, rfl, trivial⟩ T.sa ?_
  refine exc_osa X₄ hx₄ hcl (show refsVE (.ref C :: bm) = true from hbm) rfl T.noN (fun h₅ tk₅ dx k₅ dn dne hx₅ hn₅ => ?_)
  refine wpAny_execs_nil ?_
  have keepAll : ∀ b o, b ≠ e → hp.get? b = some o → h₅.get? b = some o := fun b o hb z => k₅ b o hb (k₄ b o hb (k₃ _ _ (k₂ _ _ (k _ _ z))))
  refine hq h₅ tk₅ dx t1 ⟨keepAll, hx₅, ?_, dne, hn₅⟩
  exact Nat.le_trans (Nat.le_of_lt hn₄.lt) dn
theorem src_made (T : ChgTxt prog K mg nm C fI) {v : Int} {tv : Tok} (hv : v.natAbs.log2 < 1920) (X : K.In s.heap) (hlim : s.heap.NoLimit) (hg : s.heap.Ns mainGlobals mg) (hb : s.heap.Ns builtinsNs mb) (hmb : mb "super" = some (.type "super")) (hroom : A.depth + 1 < recursionLimit)
    (hq : ∀ h' tk e d, OwnMade s.heap h' e C d (.int v tv) → R (.ok (.ret (.ref e))) { s with heap := h', toks := tk }) :
    codeAny (model prog w) A (.call (.ref C) ⟨[.int v tv], []⟩) R s := by
  obtain ⟨nm, q, N, bs, bm, sn, sub, ab, col, dd, k0, k1, k2, k3, k5, hC, hbm⟩ := T.cls
  obtain ⟨hp, g, dr, tk, os⟩ := s
  have k : ∀ b o, hp.get? b = some o → ((hp.push (kdv_tup [.int v tv])).push (excO C hp.objs.size)).get? b = some o := fun b o e => Heap.get?_push_of_some _ (Heap.get?_push_of_some _ e)
  have hget : ((hp.push (kdv_tup [.int v tv])).push (excO C hp.objs.size)).get? (hp.objs.size + 1) = some (excO C hp.objs.size) := by heap_get
  have hnx : K.lookup (hp.objs.size + 1) = none := by
    cases e : K.lookup (hp.objs.size + 1) with
    | none => rfl
    | some o =>
      have z : hp.get? (hp.objs.size + 1) = some o := X _ _ e
      exact absurd (Nat.lt_of_succ_lt (Heap.lt_size z)) (Nat.lt_irrefl _)
  refine call_own F.excBase_ValueError (fun X => refsVE_contains X bm hbm) (X _ _ hC) (looks_findIn X T.iC) (fun self => bind_fn X self T.tC) (one_size _) ?_
  refine src_init (s := ⟨(hp.push (kdv_tup [.int v tv])).push (excO C hp.objs.size), g, dr, tk, os⟩) T hv (X.keeps k) (hlim.keeps k) (hg.keeps k) (hb.keeps k) hmb hget hnx ?_ fun h' tk' dx t1 ⟨k', hx, dn, dne, hns⟩ => ?_
  · show A.depth + 1 < recursionLimit
    exact hroom
  · have old : ∀ b o, hp.get? b = some o → h'.get? b = some o := fun b o e => k' b o (Nat.ne_of_lt (Nat.lt_succ_of_lt (Heap.lt_size e))) (k b o e)
    have z : hp.objs.size + 1 + 1 ≤ dx := by
      first
        | (simpa only [Heap.size_push] using dn)
        | exact dn
        | (have q := dn; rw [Heap.size_push, Heap.size_push] at q; exact q)
    exact ⟨rfl, hq h' tk' (hp.objs.size + 1) dx ⟨old, Nat.le_succ _, ⟨_, _, hx, rfl, rfl, rfl, rfl⟩, Nat.le_trans (Nat.le_trans (Nat.le_succ _) (Nat.le_succ _)) z, dne, hns⟩⟩
end
end ChgX
end PySem
namespace L2
open PySem PySem.Spec PyProof.Rows
theorem relO_chg {v : V} {v' : Value} (r : RelV v v') (f : Str) : RelO (List.lookup f [(("at" : Str), v)]) (if f = "at" then some v' else none) := by
  by_cases hw : f = "at"
  · subst hw
    rw [if_pos rfl]
    have q : List.lookup ("at" : Str) [(("at" : Str), v)] = some v := by simp [List.lookup]
    rw [q]
    exact r
  · rw [if_neg hw]
    have qw : (f == ("at" : Str)) = false := by simpa using hw
    have q2 : List.lookup f [(("at" : Str), v)] = none := by simp [List.lookup, qw]
    rw [q2]
    trivial
section
variable {X : Cx} {C fI : Addr} {nm : Str}
/-- C(e), e an int -/
def tMkChg (C : Addr) (ta : TA) : St → Hp → XK → Prop := fun σ H Q => ta σ H fun vs H1 => ∃ v : Int, vs = [.int v] ∧ v.natAbs.log2 < 1920 ∧ ∀ d, H1 d = none → Q (.ref C) (some d) (upd H1 d (.xd [(("at" : Str), .int v)]))
theorem pmk_chg {a : Expr} {ta : TA} {p pos : Pos} {k : Nat} (T : PySem.ChgX.ChgTxt X.prog X.K X.mg nm C fI) (hr : Room k X.A) (ha : PA X [a] ta) (hg : Gl X nm := by rfl) (hdb : (nm == ("__debug__" : Str)) = false := by decide)
    (he : starEach (a :: []) X.env = (false, eval a X.env) :: starEach [] X.env := by rfl) (hpl : (backTo pos (starEach [] X.env)).any (·.1) = false := by rfl) :
    PMk X (.Call (.Name nm p) [a] [] pos) (tMkChg C ta) := by
  intro pins s σ H Q I h
  refine wpAny_Call_Name_kw (ld_glob I hg T.gC ?_ hdb)
  refine PySem.W.callWith_K (h₀ := X.base) I.ok.mod.kin T.kC (thn (ha.run pos pins s σ H _ I h) fun us s1 hh => ?_) he hpl
  obtain ⟨vs, H1, I1, r1, v, ev, hv, q1⟩ := hh
  subst ev
  refine ⟨I1.kIn, ?_⟩
  cases r1 with
  | cons rv rn =>
    rename_i v' us'
    cases rn
    obtain ⟨tv, rfl⟩ := rv
    show wpAny _ _ (call (.ref C) [.int v tv]) _ _ _
    have hlim := I1.nolimit
    obtain ⟨mb, hb, hmb⟩ := I1.mod.blt
    have hb1 := hb.keeps I1.bk
    have hg1 := I1.mod.glob.keeps I1.bk
    have hsup : mb "super" = some (.type "super") := (hmb _ (by decide)).trans (by decide +kernel)
    obtain ⟨hp, g, dr, tk, os⟩ := s1
    refine wpAny_call (PySem.ChgX.src_made T hv I1.kIn hlim hg1 hb1 hsup (by have := hr.dp; omega) fun h' tk' e d M => ?_)
    show MkP X pins σ Q (.ref e) ⟨h', g, dr, tk', os⟩
    obtain ⟨oe, fv, hoe, hc, hd, hdat, h1⟩ := M.obj
    have hns := M.ns
    obtain ⟨G', g1, g2⟩ := restrict h' fun b => decide (b ≠ e)
    have gk : ∀ b, b ≠ e → G'.get? b = h'.get? b := fun b hb => g1 b (decide_eq_true hb)
    have ge : G'.get? e = none := g2 e (by simp)
    have old : ∀ b o, hp.get? b = some o → G'.get? b = some o := fun b o q => (gk b (Nat.ne_of_lt (Nat.lt_of_lt_of_le (Heap.lt_size q) M.new))).trans (M.keep b o q)
    have ob : ObjOk X.prog X.w (upd H1 d (.xd [(("at" : Str), .int v)])) G' d (.xd [(("at" : Str), .int v)]) :=
      ⟨_, hns.at (fun o q => (gk d M.dne).trans q), fun f => relO_chg (v := .int v) (v' := .int v tv) ⟨tv, rfl⟩ f⟩
    have J : Inv X pins σ (upd H1 d (.xd [(("at" : Str), .int v)])) ⟨G', g, dr, tk', os⟩ := I1.laid (t' := tk') old M.dbig ob
    refine ⟨e, oe, fv, ⟨G', g, dr, tk', os⟩, _, .ref C, some d, rfl, J, fun b o q => ?_, ge, hoe, ⟨hc, hd⟩, hdat, h1, ?_, rfl, I1.bare, raises_own T.exC T.tyC, q1 d (I1.hok.fresh M.dbig)⟩
    · by_cases hb : b = e
      · have q' : G'.get? b = some o := q
        rw [hb, ge] at q'; cases q'
      · exact (gk b hb).symm.trans q
    · rw [upd_ne (Ne.symm M.dne)]
      exact I1.hok.fresh M.new
/-- raise C(e) -/
def tRaiseChg (C : Addr) (W : WX) (ta : TA) : TS := fun _ σ H => tMkChg C ta σ H fun cls d H' => W cls d σ H'
theorem ps_raiseChg {a : Expr} {ta : TA} {W : WX} {p pos pos2 : Pos} {k : Nat} (hc : X.calm = true) (T : PySem.ChgX.ChgTxt X.prog X.K X.mg nm C fI) (hr : Room k X.A) (tk : Takes X W) (ha : PA X [a] ta) (hg : Gl X nm := by rfl) (hdb : (nm == ("__debug__" : Str)) = false := by decide)
    (he : starEach (a :: []) X.env = (false, eval a X.env) :: starEach [] X.env := by rfl) (hpl : (backTo pos (starEach [] X.env)).any (·.1) = false := by rfl) :
    PS X (.Raise (some (.Call (.Name nm p) [a] [] pos)) none pos2) (tRaiseChg C W ta) := ps_raise hc tk (pmk_chg T hr ha hg hdb he hpl)
/-- err.at, err the exception that the suite holds (at a; its class cls, its dict d) -/
def tByChg (C : Addr) (a : Addr) (cls : Value) (d : Option Addr) (te : TE) : TE := fun σ H Q => te σ H fun x H1 => x = .ref a ∧ cls = .ref C ∧ ∃ (dd : Addr) (v : V), d = some dd ∧ H1 dd = some (.xd [(("at" : Str), v)]) ∧ Q v H1
theorem pe_byChg {a : Addr} {oe : Obj} {cls : Value} {d : Option Addr} {pn : List (Addr × Obj)} {e : Expr} {te : TE} {pos : Pos} (T : PySem.ChgX.ChgTxt X.prog X.K X.mg nm C fI) (hz : Zc cls d oe) (hf : ∃ vs, oe.data = .fields vs) (he : PE (X.suite a ((a, oe) :: pn)) e te)
    (hb : attributeBase e "at" X.env (eval e X.env) = eval e X.env := by rfl) :
    PE (X.suite a ((a, oe) :: pn)) (.Attribute e "at" pos) (tByChg C a cls d te) := by
  refine ⟨fun pins s σ H Q I h => ?_⟩
  refine attr_of hb (thn (he.run pins s σ H _ I h) fun u s1 hh => ?_)
  obtain ⟨x, H1, I1, rx, ex, ec, dd, v, ed, ea, q⟩ := hh
  subst ex
  obtain rfl : u = Value.ref a := rx
  subst ec
  subst ed
  obtain ⟨ha, _⟩ := I1.pin (a, oe) (List.mem_append_left _ List.mem_cons_self)
  obtain ⟨vs, hd⟩ := hf
  have hx : ObjOk X.prog X.w H1 s1.heap dd (.xd [(("at" : Str), v)]) := I1.hok dd _ ea
  obtain ⟨mA, hns, hr⟩ := hx
  obtain ⟨od, ho, hl⟩ := lookIn_ns hns
  have l : List.lookup ("at" : Str) [(("at" : Str), v)] = some v := by simp [List.lookup]
  obtain ⟨u, hu, ru⟩ := RelO.some_of (v := v) (o := mA "at") (by rw [← l]; exact hr "at")
  have J : PySem.W.InstAt s1.heap a oe C (some od) := ⟨ha, hz.1, by unfold PySem.W.notCls; rw [hd] <;> rfl, by rw [hz.2]; exact ho⟩
  exact HandSPX.exc_get I1.kIn J T.ga T.gg T.exC (PySem.W.findObj_own T.hdC T.noN rfl (by rw [hl, hu])) (handed_of ru) ⟨v, H1, I1.tok _, ru, q⟩
end
end L2
namespace Lv
open PySem PySem.Spec PyProof.Rows L2
/-- texts of a tuple that the top has made -/
def valsT : List (List Nat) → List Value → Bool
  | [], [] => true
  | c :: l, .str x _ :: us => decide (x.cps.toList = c) && valsT l us
  | _, _ => false
theorem valsT_ok : ∀ {l : List (List Nat)} {us : List Value}, valsT l us = true → Vals (l.map T) us
  | [], [], _ => .nil
  | [], _ :: _, h => by cases h
  | _ :: _, [], h => by cases h
  | c :: l, u :: us, h => by
    cases u with
    | str x t =>
      have h' : (decide (x.cps.toList = c) && valsT l us) = true := h
      rw [Bool.and_eq_true, decide_eq_true_iff] at h'
      refine .cons ⟨t, ?_⟩ (valsT_ok h'.2)
      rw [← h'.1]
    | _ => cases h
theorem sqT_top {K : PySem.W.Frag} {a : Addr} {o : Option Addr} {its : Array Value} {n : Nat} {sl : Array (Option Value)} {l : List (List Nat)} (h : K.lookup a = some ⟨.type "tuple", o, .seq its n, sl⟩) (e : valsT l its.toList = true) (hl : l.length ≤ 1000) (H : Hp) : SqT K H a (l.map T) := by
  have v := valsT_ok e
  refine .inr ⟨_, its, n, h, rfl, rfl, ?_, v⟩
  have z : its.size = l.length := by
    have z := v.length
    rw [List.length_map] at z
    rw [z]
    exact Array.length_toList.symm
  rw [z]
  exact Nat.le_trans hl (by decide)
end Lv
namespace Lv
open PySem PySem.Spec PyProof.Rows L2
open TL (numL tl_num numL_digits numL_ne numL_val numL_len numL_lt numL_step)
/-! ### codes -/
def cds (s : String) : List Nat := (Str.ofString s).cps.toList
abbrev aJ : List Nat := cds "abcdefghijklmnopqrstuvwxyzABCDEFGHIJKLMNOPQRSTUVWXYZ0123456789"
abbrev aLow : List Nat := cds "abcdefghijklmnopqrstuvwxyz"
abbrev aUp : List Nat := cds "ABCDEFGHIJKLMNOPQRSTUVWXYZ"
abbrev aDig : List Nat := cds "0123456789"
def WL : List (List Nat) := ["method", "var", "end", "give", "fail", "if", "then", "else", "while", "do", "try", "catch", "keep", "always", "none", "true", "false", "self", "super", "new", "not", "and", "or"].map cds
theorem len_aJ : aJ.length = 62 := by decide +kernel
theorem len_aLow : aLow.length = 26 := by decide +kernel
theorem len_aUp : aUp.length = 26 := by decide +kernel
theorem WL_len : ∀ x ∈ WL, x.length ≤ 6 := by decide +kernel
theorem WL_one : ∀ x ∈ WL, ¬ (x ++ [49]) ∈ WL := by decide +kernel
theorem WL_form : ∀ x ∈ WL, ∃ c r, x = c :: r ∧ c ∈ aLow ∧ (∀ d ∈ r, d ∈ aJ) := by
  have h : ∀ x ∈ WL, x.headD 0 ∈ aLow ∧ (∀ d ∈ x.tail, d ∈ aJ) ∧ x ≠ [] := by decide +kernel
  intro x hx
  obtain ⟨h1, h2, h3⟩ := h x hx
  cases x with
  | nil => exact absurd rfl h3
  | cons c r => exact ⟨c, r, rfl, h1, h2⟩
theorem at_mod {l : List Nat} {n : Nat} (hl : l.length = n) (h0 : 0 < n) (x : Int) : ∃ c, c ∈ l ∧ atI l (x.fmod (n : Int)) = some c := by
  have b0 := Int.fmod_nonneg_of_pos x (show (0 : Int) < n by omega)
  have b1 := Int.fmod_lt_of_pos x (show (0 : Int) < n by omega)
  obtain ⟨j, e⟩ : ∃ j : Nat, x.fmod (n : Int) = (j : Int) := ⟨(x.fmod (n : Int)).toNat, by omega⟩
  have hj : j < l.length := by omega
  refine ⟨l[j], List.getElem_mem hj, ?_⟩
  rw [e]
  exact atI_nat (List.getElem?_eq_getElem hj)
theorem at_lt {l : List Nat} {x : Int} (h0 : 0 ≤ x) (h1 : x < l.length) : ∃ c, c ∈ l ∧ atI l x = some c := by
  obtain ⟨j, rfl⟩ : ∃ j : Nat, x = (j : Int) := ⟨x.toNat, by omega⟩
  have hj : j < l.length := by omega
  exact ⟨l[j], List.getElem_mem hj, atI_nat (List.getElem?_eq_getElem hj)⟩
theorem cut_mem {a : List Nat} {lo hi : Option Int} {c : Nat} (h : c ∈ cut a lo hi) : c ∈ a := List.mem_of_mem_drop (List.mem_of_mem_take h)
theorem cut_len (a : List Nat) (lo hi : Option Int) : (cut a lo hi).length ≤ a.length := by
  unfold cut
  rw [List.length_take, List.length_drop]
  omega
theorem cut_to (a : List Nat) (k : Nat) : cut a none (some (k : Int)) = a.take k := by
  unfold cut
  rw [HT.sIx_none, HT.sIx_nat, List.drop_zero, Nat.sub_zero]
  by_cases h : k ≤ a.length
  · rw [Nat.min_eq_left h]
  · rw [Nat.min_eq_right (by omega), List.take_of_length_le (Nat.le_refl _), List.take_of_length_le (by omega)]
theorem cut_mid (a : List Nat) {i j : Nat} (hj : j ≤ a.length) : cut a (some (i : Int)) (some (j : Int)) = (a.drop i).take (j - i) := by
  unfold cut
  rw [HT.sIx_nat, HT.sIx_nat, Nat.min_eq_left hj]
  by_cases h : i ≤ a.length
  · rw [Nat.min_eq_left h]
  · rw [Nat.min_eq_right (by omega)]
    have e1 : j - a.length = 0 := by omega
    have e2 : j - i = 0 := by omega
    rw [e1, e2]; rfl
theorem mem_rep {n : Nat} {a : List Nat} {c : Nat} (h : c ∈ (List.replicate n a).flatten) : c ∈ a := by
  obtain ⟨l, h1, h2⟩ := List.mem_flatten.mp h
  rw [(List.mem_replicate.mp h1).2] at h2
  exact h2
theorem len_rep (n : Nat) (a : List Nat) : (List.replicate n a).flatten.length = n * a.length := by simp
theorem rep_one (n c : Nat) : (List.replicate n [c]).flatten = List.replicate n c := by
  induction n with
  | zero => rfl
  | succ n ih => rw [List.replicate_succ, List.flatten_cons, ih, List.replicate_succ]; rfl

/-! ### the tokens of a text, as a function of its codes -/
def MLs : List (List Nat) := [":=", "<=", "(", ")", "{", "}", ",", ";", ".", "|", "=", "<", "+", "-", "*", "/"].map cds
theorem len_MLs : MLs.length = 16 := by decide +kernel
theorem len_WL : WL.length = 23 := by decide +kernel
def letC (c : Nat) : Bool := decide (c ∈ aJ)
def digC (c : Nat) : Bool := decide (48 ≤ c) && decide (c ≤ 57)
def srcC (c : Nat) : Bool := decide (32 ≤ c) && decide (c ≤ 126) && !decide (c = 37)
theorem aJ_split : aJ = aLow ++ aUp ++ aDig := by decide +kernel
theorem let_or (c : Nat) : letC c = (decide (c ∈ aLow) || (decide (c ∈ aUp) || decide (c ∈ aDig))) := by
  unfold letC
  rw [aJ_split]
  simp only [List.mem_append, Bool.decide_or, Bool.or_assoc]
theorem aJ_ascii : ∀ c ∈ aJ, c < 128 := by decide +kernel
theorem dig_iff (c : Nat) : decide (c ∈ aDig) = digC c := by
  have e : aDig = [48, 49, 50, 51, 52, 53, 54, 55, 56, 57] := by decide +kernel
  unfold digC
  rw [e, Bool.eq_iff_iff, Bool.and_eq_true, decide_eq_true_iff, decide_eq_true_iff, decide_eq_true_iff]
  simp only [List.mem_cons, List.not_mem_nil, or_false]
  omega
theorem dig_let {c : Nat} (h : digC c = true) : letC c = true := by
  rw [let_or, dig_iff, h]; simp
/-- kind, value, length -/
def numRun (a : List Nat) : Option Nat := if (a.all digC && !(decide (a.headD 0 = 48) && decide (1 < a.length)) && decide (a.length ≤ 10) && decide (NumText.digitsVal a ≤ 1000000000)) = true then some (NumText.digitsVal a) else none
def ofRun (a : List Nat) : Option (List Nat × V) :=
  if digC (a.headD 0) = true then (numRun a).map fun n => (cds "number", .int (n : Int))
  else if 20 < a.length then none
  else if a.headD 0 ∈ aUp then some (cds "class", T a)
  else if a ∈ WL then some (cds "word", T a)
  else some (cds "name", T a)
def upQ (r : List Nat) : List Nat := r.takeWhile (fun x => x != 39)
def endTx (r : List Nat) : Option (List Nat) := if (decide ((upQ r).length < r.length) && decide ((upQ r).length ≤ 200) && (upQ r).all srcC) = true then some (upQ r) else none
def one : List Nat → Option (List Nat × V × Nat)
  | [] => none
  | c :: r => if c = 39 then (endTx r).map fun b => (cds "text", T b, b.length + 2)
    else if letC c = true then (ofRun ((c :: r).takeWhile letC)).map fun p => (p.1, p.2, ((c :: r).takeWhile letC).length)
    else (MLs.find? fun m => m.isPrefixOf (c :: r)).map fun m => (cds "mark", T m, m.length)
theorem one_cons (c : Nat) (r : List Nat) : one (c :: r) = if c = 39 then (endTx r).map fun b => (cds "text", T b, b.length + 2)
    else if letC c = true then (ofRun ((c :: r).takeWhile letC)).map fun p => (p.1, p.2, ((c :: r).takeWhile letC).length)
    else (MLs.find? fun m => m.isPrefixOf (c :: r)).map fun m => (cds "mark", T m, m.length) := rfl
abbrev Tk := List Nat × V × Nat
def lex (pos : Nat) : List Nat → List Tk × Option Nat
  | [] => ([], none)
  | c :: r => if c = 32 then lex (pos + 1) r
    else match one (c :: r) with
      | none => ([], some pos)
      | some t => let q := lex (pos + t.2.2) (r.drop (t.2.2 - 1)); ((t.1, t.2.1, pos) :: q.1, q.2)
termination_by l => l.length
decreasing_by
  · simp
  · simp only [List.length_drop, List.length_cons]; omega
theorem lex_nil (pos : Nat) : lex pos [] = ([], none) := by rw [lex]
theorem lex_sp (pos : Nat) (r : List Nat) : lex pos (32 :: r) = lex (pos + 1) r := by rw [lex, if_pos rfl]
theorem lex_wrong {pos c : Nat} {r : List Nat} (h : c ≠ 32) (e : one (c :: r) = none) : lex pos (c :: r) = ([], some pos) := by rw [lex, if_neg h, e]
theorem lex_tok {pos c n : Nat} {r k : List Nat} {v : V} (h : c ≠ 32) (e : one (c :: r) = some (k, v, n)) : lex pos (c :: r) = ((k, v, pos) :: (lex (pos + n) (r.drop (n - 1))).1, (lex (pos + n) (r.drop (n - 1))).2) := by rw [lex, if_neg h, e]
theorem MLs_pos : ∀ m ∈ MLs, 1 ≤ m.length := by decide +kernel
theorem one_pos {l k : List Nat} {v : V} {n : Nat} (h : one l = some (k, v, n)) : 1 ≤ n ∧ n ≤ l.length := by
  cases l with
  | nil => cases h
  | cons c r =>
    rw [one_cons] at h
    by_cases hc : c = 39
    · rw [if_pos hc] at h
      cases e : endTx r with
      | none => rw [e] at h; cases h
      | some b =>
        rw [e] at h
        injection h with h
        injection h with _ h
        injection h with _ h
        unfold endTx at e
        split at e
        · rename_i hb
          cases e
          rw [Bool.and_eq_true, Bool.and_eq_true, decide_eq_true_iff] at hb
          have := hb.1.1
          rw [List.length_cons]
          omega
        · cases e
    · rw [if_neg hc] at h
      by_cases hl : letC c = true
      · rw [if_pos hl] at h
        cases e : ofRun ((c :: r).takeWhile letC) with
        | none => rw [e] at h; cases h
        | some p =>
          rw [e] at h
          injection h with h
          injection h with _ h
          injection h with _ h
          subst h
          refine ⟨?_, tw_le _⟩
          rw [List.takeWhile_cons, if_pos hl]
          simp
      · rw [if_neg hl] at h
        cases e : MLs.find? fun m => m.isPrefixOf (c :: r) with
        | none => rw [e] at h; cases h
        | some m =>
          rw [e] at h
          injection h with h
          injection h with _ h
          injection h with _ h
          subst h
          refine ⟨MLs_pos m (List.mem_of_find?_eq_some e), ?_⟩
          have := List.find?_some e
          exact (List.isPrefixOf_iff_prefix.mp this).length_le
end Lv
/-! The reader as plain functions over its tokens. -/
namespace Lv
open PySem PySem.Spec PyProof.Rows L2
/-! ### what a reader does, as a function -/
/-- done, with what came out and where it stands; or wrong at a place; or nothing is said of it (beyond the end, too long, no turns left) -/
inductive Res (S α : Type) where
  | ok (a : α) (s : S)
  | bad (i : Nat)
  | stuck
def Res.bind {S α β : Type} (x : Res S α) (k : α → S → Res S β) : Res S β := match x with | .ok a s => k a s | .bad i => .bad i | .stuck => .stuck
def Out {S α : Type} (x : Res S α) (A : α → S → Prop) (B : Nat → Prop) : Prop := match x with | .ok a s => A a s | .bad i => B i | .stuck => False
theorem Out.mono {S α : Type} {x : Res S α} {A A' : α → S → Prop} {B B' : Nat → Prop} (h : Out x A B) (f : ∀ a s, A a s → A' a s) (g : ∀ i, B i → B' i) : Out x A' B' := by
  cases x with
  | ok a s => exact f a s h
  | bad i => exact g i h
  | stuck => exact h.elim
theorem Out.bind {S α β : Type} {x : Res S α} {k : α → S → Res S β} {A : β → S → Prop} {B : Nat → Prop} (h : Out (x.bind k) A B) : Out x (fun a s => Out (k a s) A B) B := by
  cases x with
  | ok a s => exact h
  | bad i => exact h
  | stuck => exact h
theorem Res.bind_assoc {S α β γ : Type} (x : Res S α) (k : α → S → Res S β) (l : β → S → Res S γ) : (x.bind k).bind l = x.bind fun a s => (k a s).bind l := by
  cases x <;> rfl
theorem Out.here {S α : Type} {x : Res S α} {A : α → S → Prop} {B : Nat → Prop} (a : α) (s : S) (h : Out x A B) (e : x = .ok a s) : A a s := by rw [e] at h; exact h
theorem Out.there {S α : Type} {x : Res S α} {A : α → S → Prop} {B : Nat → Prop} (i : Nat) (h : Out x A B) (e : x = .bad i) : B i := by rw [e] at h; exact h

/-- a reader's state: the token that stands next, the depths noted, the name that occurs twice -/
structure RS where
  n : Nat
  ds : List Nat
  tw : Option (List Nat)
/-- the text of a word or mark -/
def txtV : V → List Nat
  | .str x => x.cps.toList
  | _ => []
theorem txtV_T (a : List Nat) : txtV (T a) = a := by
  show (⟨a.toArray⟩ : Str).cps.toList = a
  simp
def fixT (t : Tk) : List Nat := if t.1 = cds "word" ∨ t.1 = cds "mark" then txtV t.2.1 else []
def tokN (ts : List Tk) (i : Nat) : Tk := ts.getD i ([], .non, 0)
def posN (ts : List Tk) (i : Nat) : Nat := (tokN ts i).2.2
theorem tokN_get {ts : List Tk} {i : Nat} (h : i < ts.length) : ts[i]? = some (tokN ts i) := by
  unfold tokN
  rw [List.getD_eq_getElem?_getD, List.getElem?_eq_getElem h]
  rfl
/-! the small readings -/
def rFixed (ts : List Tk) (k : Nat) (S : RS) : Res RS (List Nat) := if S.n + k < ts.length then .ok (fixT (tokN ts (S.n + k))) S else .stuck
def rAccept (ts : List Tk) (a : List Nat) (S : RS) : Res RS Bool := (rFixed ts 0 S).bind fun b S => if b = a then .ok true { S with n := S.n + 1 } else .ok false S
def rRefuse {α : Type} (ts : List Tk) (S : RS) : Res RS α := if S.n < ts.length then .bad (posN ts S.n) else .stuck
def rExpect (ts : List Tk) (a : List Nat) (S : RS) : Res RS Unit := (rAccept ts a S).bind fun b S1 => if b = true then .ok () S1 else rRefuse ts S1
def rTake (ts : List Tk) (a : List Nat) (S : RS) : Res RS V := if S.n < ts.length then (if (tokN ts S.n).1 = a then .ok (tokN ts S.n).2.1 { S with n := S.n + 1 } else rRefuse ts S) else .stuck
def rName (ts : List Tk) (S : RS) : Res RS (List Nat) := (rTake ts (cds "name") S).bind fun v S => .ok (txtV v) S
def rNamesGo (ts : List Tk) (most : Nat) : Nat → List (List Nat) → RS → Res RS (List (List Nat))
  | 0, _, _ => .stuck
  | k + 1, l, S => (rAccept ts (cds ",") S).bind fun b S => if b = true then (if l.length = most then rRefuse ts S else (rName ts S).bind fun x S => rNamesGo ts most k (l ++ [x]) S) else .ok l S
def rNames (ts : List Tk) (most : Nat) (S : RS) : Res RS (List (List Nat)) := (rName ts S).bind fun x S => rNamesGo ts most (most + 1) [x] S
def rBegin (ts : List Tk) (d : Nat) (S : RS) : Res RS Unit := if 12 < d then rRefuse ts S else if S.ds.length < 400000 then .ok () { S with ds := S.ds ++ [d] } else .stuck
def maxN : List Nat → Nat
  | [] => 0
  | a :: l => max a (maxN l)
def rDeepen (ts : List Tk) (f : Nat) (S : RS) : Res RS Unit := if S.ds.length ≤ f then .stuck else if 12 < maxN ((S.ds.drop f).map (· + 1)) then rRefuse ts S else .ok () { S with ds := S.ds.take f ++ (S.ds.drop f).map (· + 1) }
/-- whether a name stands next, and one of some marks behind it -/
def rBefore (ts : List Tk) (ms : List (List Nat)) (S : RS) : Res RS Bool := if S.n < ts.length then (if (tokN ts S.n).1 = cds "name" then (rFixed ts 1 S).bind fun b S => .ok (decide (b ∈ ms)) S else .ok false S) else .stuck
/-- the name that is noted behind i names -/
def twGo (l : List (List Nat)) (t : Option (List Nat)) : Nat → Option (List Nat)
  | 0 => t
  | i + 1 => if twGo l t i = none ∧ l.getD i [] ∈ l.take i then some (l.getD i []) else twGo l t i
def rNote (l : List (List Nat)) (S : RS) : Res RS Unit := .ok () { S with tw := twGo l S.tw l.length }
/-! ### the grammar -/
section
variable (ts : List Tk) (ex : Nat → Nat → RS → Res RS Tr) (bo : List (List Nat) → Nat → RS → Res RS (List Tr))
def str (x : String) : Tr := .s (cds x)
def gArgsGo (d : Nat) : Nat → List Tr → RS → Res RS (List Tr)
  | 0, _, _ => .stuck
  | k + 1, l, S => (rAccept ts (cds ",") S).bind fun b S => if b = true then (if l.length = 8 then rRefuse ts S else (ex 1 d S).bind fun t S => gArgsGo d k (l ++ [t]) S) else .ok l S
def gArgs (d : Nat) (S : RS) : Res RS (List Tr) := (rExpect ts (cds "(") S).bind fun _ S => (rAccept ts (cds ")") S).bind fun b S => if b = true then .ok [] S else
  (ex 1 d S).bind fun t S => (gArgsGo ts ex d 9 [t] S).bind fun l S => (rExpect ts (cds ")") S).bind fun _ S => .ok l S
def gBlock (d : Nat) (S : RS) : Res RS Tr := (rExpect ts (cds "{") S).bind fun _ S => (rBefore ts [cds ",", cds "|"] S).bind fun b S =>
  if b = true then (rNames ts 4 S).bind fun ns S => (rExpect ts (cds "|") S).bind fun _ S => (rNote ns S).bind fun _ S => (bo [cds "}"] (d + 1) S).bind fun l S => (rExpect ts (cds "}") S).bind fun _ S => .ok (.t [str "block", .t (ns.map Tr.s), .t l]) S
  else (bo [cds "}"] (d + 1) S).bind fun l S => (rExpect ts (cds "}") S).bind fun _ S => .ok (.t [str "block", .t [], .t l]) S
def gSuper (d : Nat) (S : RS) : Res RS Tr := (rExpect ts (cds "super") S).bind fun _ S => (rExpect ts (cds ".") S).bind fun _ S => (rName ts S).bind fun a S => (gArgs ts ex (d + 1) S).bind fun l S => .ok (.t [str "super", .s a, .t l]) S
end

def plainL : List (List Nat × V) := [(cds "none", .non), (cds "true", .bl true), (cds "false", .bl false)]
def plainTr : V → Tr
  | .int x => .i x
  | .bl b => .b b
  | .str x => .s x.cps.toList
  | _ => .n
section
variable (ts : List Tk) (ex : Nat → Nat → RS → Res RS Tr) (bo : List (List Nat) → Nat → RS → Res RS (List Tr))
def gPrimary (d : Nat) (S : RS) : Res RS Tr := if S.n < ts.length then
    (if (tokN ts S.n).1 = cds "number" ∨ (tokN ts S.n).1 = cds "text" then (rTake ts (tokN ts S.n).1 S).bind fun v S => .ok (.t [str "plain", plainTr v]) S
    else if (tokN ts S.n).1 = cds "name" then (rTake ts (tokN ts S.n).1 S).bind fun v S => .ok (.t [str "name", plainTr v]) S
    else (rFixed ts 0 S).bind fun w S => if w = cds "{" then gBlock ts bo d S else if w = cds "super" then gSuper ts ex d S else
      (rAccept ts (cds "(") S).bind fun b S => if b = true then (ex 1 (d + 1) S).bind fun t S => (rExpect ts (cds ")") S).bind fun _ S => .ok t S else
      (rAccept ts (cds "new") S).bind fun b S => if b = true then (rTake ts (cds "class") S).bind fun v S => .ok (.t [str "new", plainTr v]) S else
      (rAccept ts (cds "self") S).bind fun b S => if b = true then .ok (.t [str "self"]) S else
      match plainL.lookup w with
      | none => rRefuse ts S
      | some v => (rExpect ts w S).bind fun _ S => .ok (.t [str "plain", plainTr v]) S)
  else .stuck
end
def aheadN : List (List Nat × Nat) := [(cds "not", 3), (cds "-", 7)]
def treesN : List (List Nat × List Nat) := [(cds "not", cds "not"), (cds "-", cds "neg")]
section
variable (ts : List Tk) (ex : Nat → Nat → RS → Res RS Tr) (bo : List (List Nat) → Nat → RS → Res RS (List Tr))
def gOpening (p d : Nat) (S : RS) : Res RS (Tr × Nat) := (rFixed ts 0 S).bind fun w S => if (aheadN.lookup w).getD 0 < p then (gPrimary ts ex bo d S).bind fun t S => .ok (t, 9) S else
  (rExpect ts w S).bind fun _ S => match treesN.lookup w with
    | none => .stuck
    | some nm => (ex ((aheadN.lookup w).getD 0) (d + 1) S).bind fun t S => .ok (.t [.s nm, t], (aheadN.lookup w).getD 0) S
end
def behN : List (List Nat × Nat) := [(cds "or", 1), (cds "and", 2), (cds "=", 4), (cds "<", 4), (cds "<=", 4), (cds "+", 5), (cds "-", 5), (cds "*", 6), (cds "/", 6), (cds ".", 8)]
def levB (w : List Nat) : Nat := (behN.lookup w).getD 0
def goOn (w : List Nat) (p lev : Nat) : Bool := decide (p ≤ levB w) && (!decide (levB w = 4) || decide (4 < lev))
section
variable (ts : List Tk) (ex : Nat → Nat → RS → Res RS Tr) (bo : List (List Nat) → Nat → RS → Res RS (List Tr))
/-- what a sign makes of what stands left of it -/
def gSign (w : List Nat) (lv d : Nat) (tr : Tr) (S : RS) : Res RS Tr :=
  if w = cds "." then (rName ts S).bind fun a S => (gArgs ts ex (d + 1) S).bind fun l S => .ok (.t [str "send", tr, .s a, .t l]) S
  else if w = cds "and" ∨ w = cds "or" then (ex (lv + 1) (d + 1) S).bind fun t S => .ok (.t [.s w, tr, t]) S
  else (ex (lv + 1) (d + 1) S).bind fun t S => .ok (.t [str "op", .s w, tr, t]) S
def gExprGo (p d first : Nat) : Nat → Tr → Nat → List Nat → RS → Res RS Tr
  | 0, _, _, _, _ => .stuck
  | k + 1, tr, lev, w, S => if goOn w p lev = true then (rDeepen ts first S).bind fun _ S => (rExpect ts w S).bind fun _ S => match behN.lookup w with
      | none => .stuck
      | some lv => (gSign ts ex w lv d tr S).bind fun tr S => (rFixed ts 0 S).bind fun w' S => gExprGo p d first k tr lv w' S
    else .ok tr S
def gExpr (p d : Nat) (S : RS) : Res RS Tr := (rBegin ts d S).bind fun _ S1 => (gOpening ts ex bo p d S1).bind fun o S2 => (rFixed ts 0 S2).bind fun w S3 => gExprGo ts ex p d S.ds.length (ts.length + 1) o.1 o.2 w S3
end
section
variable (ts : List Tk) (ex : Nat → Nat → RS → Res RS Tr) (bo : List (List Nat) → Nat → RS → Res RS (List Tr)) (st : Nat → RS → Res RS Tr)
def gBodyGo (d : Nat) : Nat → List Tr → RS → Res RS (List Tr)
  | 0, _, _ => .stuck
  | k + 1, l, S => (rAccept ts (cds ";") S).bind fun b S => if b = true then (st d S).bind fun t S => gBodyGo d k (l ++ [t]) S else .ok l S
def gBody (ms : List (List Nat)) (d : Nat) (S : RS) : Res RS (List Tr) := (rFixed ts 0 S).bind fun w S => if w ∈ ms then .ok [] S else (st d S).bind fun t S => gBodyGo ts st d (ts.length + 1) [t] S
def gSet (d : Nat) (S : RS) : Res RS Tr := (rName ts S).bind fun a S => (rExpect ts (cds ":=") S).bind fun _ S => (ex 1 (d + 1) S).bind fun t S => .ok (.t [str "set", .s a, t]) S
def gWhile (d : Nat) (S : RS) : Res RS Tr := (rExpect ts (cds "while") S).bind fun _ S => (ex 1 (d + 1) S).bind fun t S => (rExpect ts (cds "do") S).bind fun _ S => (bo [cds "end"] (d + 1) S).bind fun l S => (rExpect ts (cds "end") S).bind fun _ S => .ok (.t [str "while", t, .t l]) S
end
section
variable (ts : List Tk) (ex : Nat → Nat → RS → Res RS Tr) (bo : List (List Nat) → Nat → RS → Res RS (List Tr))
def gTry (d : Nat) (S : RS) : Res RS Tr := (rExpect ts (cds "try") S).bind fun _ S => (bo [cds "catch"] (d + 1) S).bind fun l S => (rExpect ts (cds "catch") S).bind fun _ S => (rName ts S).bind fun a S => (rExpect ts (cds "then") S).bind fun _ S =>
  (bo [cds "end"] (d + 1) S).bind fun l2 S => (rExpect ts (cds "end") S).bind fun _ S => .ok (.t [str "try", .t l, .s a, .t l2]) S
def gKeep (d : Nat) (S : RS) : Res RS Tr := (rExpect ts (cds "keep") S).bind fun _ S => (bo [cds "always"] (d + 1) S).bind fun l S => (rExpect ts (cds "always") S).bind fun _ S =>
  (bo [cds "end"] (d + 1) S).bind fun l2 S => (rExpect ts (cds "end") S).bind fun _ S => .ok (.t [str "keep", .t l, .t l2]) S
def gIf (d : Nat) (S : RS) : Res RS Tr := (rExpect ts (cds "if") S).bind fun _ S => (ex 1 (d + 1) S).bind fun t S => (rExpect ts (cds "then") S).bind fun _ S => (bo [cds "else", cds "end"] (d + 1) S).bind fun l S => (rAccept ts (cds "else") S).bind fun b S =>
  if b = true then (bo [cds "end"] (d + 1) S).bind fun l2 S => (rExpect ts (cds "end") S).bind fun _ S => .ok (.t [str "if", t, .t l, .t l2]) S else (rExpect ts (cds "end") S).bind fun _ S => .ok (.t [str "if", t, .t l, .t []]) S
end
section
variable (ts : List Tk) (ex : Nat → Nat → RS → Res RS Tr) (bo : List (List Nat) → Nat → RS → Res RS (List Tr))
def gSt (d : Nat) (S : RS) : Res RS Tr := (rBegin ts d S).bind fun _ S => (rFixed ts 0 S).bind fun w S =>
  if w = cds "give" ∨ w = cds "fail" then (rExpect ts w S).bind fun _ S => (ex 1 (d + 1) S).bind fun t S => .ok (.t [.s w, t]) S
  else if w = cds "while" then gWhile ts ex bo d S
  else if w = cds "if" then gIf ts ex bo d S
  else if w = cds "try" then gTry ts bo d S
  else if w = cds "keep" then gKeep ts bo d S
  else (rBefore ts [cds ":="] S).bind fun b S => if b = true then gSet ts ex d S else (ex 1 (d + 1) S).bind fun t S => .ok (.t [str "eval", t]) S
end
/-- expressions and bodies, n deep -/
def exN (ts : List Tk) : Nat → (Nat → Nat → RS → Res RS Tr) × (List (List Nat) → Nat → RS → Res RS (List Tr))
  | 0 => (fun _ _ _ => .stuck, fun _ _ _ => .stuck)
  | n + 1 => (gExpr ts (exN ts n).1 (exN ts n).2, gBody ts (gSt ts (exN ts n).1 (exN ts n).2))
section
variable (ts : List Tk) (bo : List (List Nat) → Nat → RS → Res RS (List Tr))
/-- behind the variables -/
def gMethod3 (a : List Nat) (ps vs : List (List Nat)) (S : RS) : Res RS Tr := (rNote (ps ++ vs) S).bind fun _ S => (bo [cds "end"] 1 S).bind fun l S => (rExpect ts (cds "end") S).bind fun _ S => .ok (.t [str "method", .s a, .t (ps.map Tr.s), .t (vs.map Tr.s), .t l]) S
/-- behind the parameters -/
def gMethod2 (a : List Nat) (ps : List (List Nat)) (S : RS) : Res RS Tr := (rExpect ts (cds ")") S).bind fun _ S => (rAccept ts (cds "var") S).bind fun b S => if b = true then (rNames ts 8 S).bind fun vs S => (rExpect ts (cds ";") S).bind fun _ S => gMethod3 ts bo a ps vs S else gMethod3 ts bo a ps [] S
def gMethod (S : RS) : Res RS Tr := (rExpect ts (cds "method") S).bind fun _ S => (rName ts S).bind fun a S => (rExpect ts (cds "(") S).bind fun _ S => (rFixed ts 0 S).bind fun w S => if w = cds ")" then gMethod2 ts bo a [] S else (rNames ts 8 S).bind fun ps S => gMethod2 ts bo a ps S
end
/-- the tokens and the end of the text -/
def endTks (cs : List Nat) (ts : List Tk) : List Tk := ts ++ [(cds "nothing", T [], cs.length)]
end Lv
namespace Lv
open PySem PySem.Spec PyProof.Rows L2
/-- the entries of a written dict are these -/
def entB : List DictEntry → List (List Nat × V) → Bool
  | [], [] => true
  | e :: r, p :: q => (match e.key with
    | .str x _ => decide (x = ⟨p.1.toArray⟩)
    | _ => false) && (He.relB p.2 e.val && entB r q)
  | _, _ => false
theorem ent_any : ∀ {l : List DictEntry} {kvs : List (List Nat × V)}, entB l kvs = true → l.any (·.refKey) = false
  | [], [], _ => rfl
  | [], _ :: _, h => by cases h
  | _ :: _, [], h => by cases h
  | e :: r, p :: q, h => by
    obtain ⟨hs, k, v⟩ := e
    unfold entB at h
    rw [Bool.and_eq_true, Bool.and_eq_true] at h
    obtain ⟨h1, _, h3⟩ := h
    rw [List.any_cons, ent_any h3, Bool.or_false]
    cases k with
    | str x t => rfl
    | _ => cases h1
theorem ent_find : ∀ {l : List DictEntry} {kvs : List (List Nat × V)}, entB l kvs = true → ∀ a : List Nat, match kvs.lookup a with
    | some v => ∃ e, l.find? (·.key.isStr ⟨a.toArray⟩) = some e ∧ RelV v e.val
    | none => l.find? (·.key.isStr ⟨a.toArray⟩) = none
  | [], [], _, a => rfl
  | [], _ :: _, h, _ => by cases h
  | _ :: _, [], h, _ => by cases h
  | e :: r, p :: q, h, a => by
    obtain ⟨hs, k, v⟩ := e
    obtain ⟨pk, pv⟩ := p
    unfold entB at h
    rw [Bool.and_eq_true, Bool.and_eq_true] at h
    obtain ⟨h1, h2, h3⟩ := h
    have ih := ent_find h3 a
    cases k with
    | str x t =>
      have ex : x = ⟨pk.toArray⟩ := of_decide_eq_true h1
      subst ex
      by_cases ha : a = pk
      · subst ha
        have e1 : (a == a) = true := by simp
        rw [List.lookup_cons, e1]
        refine ⟨⟨hs, .str ⟨a.toArray⟩ t, v⟩, ?_, He.relB_ok h2⟩
        rw [List.find?_cons]
        have : (Value.str ⟨a.toArray⟩ t).isStr ⟨a.toArray⟩ = true := by simp [Value.isStr]
        rw [this]
      · have e1 : (a == pk) = false := by simp [ha]
        rw [List.lookup_cons, e1]
        have : (Value.str ⟨pk.toArray⟩ t).isStr ⟨a.toArray⟩ = false := by
          have hne : (⟨pk.toArray⟩ : Str) ≠ ⟨a.toArray⟩ := fun h => ha (by
            have h4 : pk.toArray = a.toArray := congrArg Str.cps h
            have h5 := congrArg Array.toList h4
            exact h5.symm)
          simp [Value.isStr, hne]
        rw [List.find?_cons, this]
        exact ih
    | _ => cases h1
theorem nsIn_ent {K : PySem.W.Frag} {d : Addr} {c : Value} {o : Option Addr} {es : Array DictEntry} {n : Nat} {sl : Array (Option Value)} {kvs : List (List Nat × V)} (l : K.lookup d = some ⟨c, o, .dict es n, sl⟩) (h : entB es.toList kvs = true) (a : List Nat) : match kvs.lookup a with
  | some v => ∃ u, PySem.W.nsIn K d ⟨a.toArray⟩ = some (some u) ∧ RelV v u
  | none => PySem.W.nsIn K d ⟨a.toArray⟩ = some none := by
  have g := ent_find h a
  have g2 := ent_any h
  have e0 : PySem.W.nsIn K d ⟨a.toArray⟩ = (match es.toList.find? (·.key.isStr ⟨a.toArray⟩) with
      | some e => some (some e.val)
      | none => if es.toList.any (·.refKey) then none else some none) := by
    unfold PySem.W.nsIn
    rw [l]
    rfl
  rw [e0]
  cases q : kvs.lookup a with
  | some v =>
    rw [q] at g
    obtain ⟨e, h1, h2⟩ := g
    rw [h1]
    exact ⟨e.val, rfl, h2⟩
  | none =>
    rw [q] at g
    have g3 : es.toList.find? (·.key.isStr ⟨a.toArray⟩) = none := g
    rw [g3, g2]
    rfl
theorem kd_mk {K : PySem.W.Frag} {w : World} {d : Addr} {es : Array DictEntry} {n : Nat} {ks : List Str} (l : K.lookup d = some ⟨.type "dict", none, .dict es n, #[]⟩) (h : es.toList.map He.keyOf = He.keysIn w.params ks) (lo : (d == sysModules) = false) : KDict K w d es n := ⟨l, He.keysLit_of h, lo⟩
end Lv
/-! The top by one kernel run; what it leaves is looked at in places that are named by their numbers. -/
namespace HkX
open PySem PySem.Spec PyProof.Rows L2 He
def mkD (at_ : Str × Option Str) (name qual : Str) (st : Stmt) : FnD := ⟨at_, name, qual, defArgs st, defBody st, defScope st⟩
def obsX (fa : List Fa) (fb : List (PySem.W.Frag → Bool)) (fn : List FnD) (K : PySem.W.Frag) : Al :=
  (((fa.all fun f => f.ok K) && fb.all fun f => f K) && fn.all fun d => (Fa.code d.at_ d.qual).ok K && PySem.W.keepIn K (.ref (fAd K d.at_)), fn.map fun d => fnObs K d.at_)
def SaysX (fa : List Fa) (fb : List (PySem.W.Frag → Bool)) (fn : List FnD) (K : PySem.W.Frag) : Prop := obsX fa fb fn K = valE fn
def obsXG (as : List Addr) (fa : List Fa) (fb : List (PySem.W.Frag → Bool)) (fn : List FnD) (g : Addr → Option Obj) : Al := obsX fa fb fn (frG g as)
def hookX (as : List Addr) (fa : List Fa) (fb : List (PySem.W.Frag → Bool)) (fn : List FnD) : PySem.W.Hook where
  α := Al
  obs := fun s => obsXG as fa fb fn s.heap.get?
  val := fun _ => valE fn
  says := fun _ h => ∃ K : PySem.W.Frag, K.In h ∧ SaysX fa fb fn K
  of := fun _ _ e => ⟨_, frG_in, e⟩
  keeps := fun _ _ _ ⟨K, hK, c⟩ k => ⟨K, PySem.W.Frag.In.keeps hK k, c⟩
theorem obsXG_eq {as : List Addr} {fa : List Fa} {fb : List (PySem.W.Frag → Bool)} {fn : List FnD} {g : Addr → Option Obj} {s : Shared} (h : ∀ a, g a = s.heap.get? a) : obsXG as fa fb fn g = (hookX as fa fb fn).obs s := by
  have e : g = s.heap.get? := funext h
  rw [e] <;> rfl
section
variable {fa : List Fa} {fb : List (PySem.W.Frag → Bool)} {fn : List FnD} {K : PySem.W.Frag}
theorem SaysX.parts (c : SaysX fa fb fn K) : (((fa.all fun f => f.ok K) && fb.all fun f => f K) && fn.all fun d => (Fa.code d.at_ d.qual).ok K && PySem.W.keepIn K (.ref (fAd K d.at_))) = true := congrArg (fun z : Al => z.1) c
theorem SaysX.fact (c : SaysX fa fb fn K) (i : Nat) {f : Fa} (h : fa[i]? = some f := by rfl) : f.ok K = true :=
  List.all_eq_true.mp (ba (ba c.parts).1).1 f (List.mem_of_getElem? h)
theorem SaysX.own (c : SaysX fa fb fn K) (i : Nat) {f : PySem.W.Frag → Bool} (h : fb[i]? = some f := by rfl) : f K = true :=
  List.all_eq_true.mp (ba (ba c.parts).1).2 f (List.mem_of_getElem? h)
theorem SaysX.fun_ (c : SaysX fa fb fn K) (i : Nat) {d : FnD} {st : Stmt} (h : fn[i]? = some d := by rfl) (e1 : d.params = defArgs st := by rfl) (e2 : d.body = defBody st := by rfl) (e3 : d.scope = defScope st := by rfl) :
    ∃ fd, Fun K d.name d.qual st (fAd K d.at_) fd := by
  have c2 := (ba c.parts).2
  have e : fn.map (fun d => fnObs K d.at_) = fn.map FnD.val := congrArg (fun z : Al => z.2) c
  have e5 : (fn.map fun d => fnObs K d.at_)[i]? = (fn.map FnD.val)[i]? := by rw [e]
  rw [List.getElem?_map, List.getElem?_map, h] at e5
  obtain ⟨c3, c4⟩ := ba (List.all_eq_true.mp c2 d (List.mem_of_getElem? h))
  obtain ⟨oc, od, osl, kV, doc, pm, an, cdv, ct, l, cd⟩ := fn_ok (Option.some.inj e5) c3
  rw [e1, e2, e3] at l
  exact ⟨_, fun_mk (st := st) l cd c4⟩
end
end HkX
/-! Exception classes of the program: what the written part says of them, as a test. -/
namespace HkX
open PySem PySem.Spec PyProof.Rows L2 He
abbrev FnE : Type := Option (Str × Arguments × FuncBody × Scope × Addr × List Str × Addr)
/-- a def with a cell: what it is, without the cell's place -/
def fnE (K : PySem.W.Frag) (p : Str × Option Str) : FnE := match K.lookup (fAd K p) with
  | some ⟨_, _, .func fd, _⟩ => some (fd.name, fd.params, fd.body, fd.scope, fd.globals, fd.closure.map (·.1), fd.builtins)
  | _ => none
def clsE (K : PySem.W.Frag) (C : Addr) : Bool := match K.lookup C with
  | some ⟨.type t, _, .cls cd, sl⟩ => (decide (t = "type") && (cd.hasDict && !cd.hasDel)) && ((match cd.mro with
    | .ref C' :: bm => decide (C' = C) && PySem.HandSPX.refsVE bm
    | _ => false) && (match sl with
    | ⟨[_, _, _, _, some (.builtin n), _]⟩ => decide (n = "ValueError.__new__")
    | _ => false))
  | _ => false
def iniE (K : PySem.W.Frag) (f : Str) (C fI : Addr) : Bool := match K.lookup fI with
  | some ⟨_, _, .func fd, _⟩ => (match fd.defaults, fd.kwdefaults, fd.code, fd.closure with
    | .none, .none, .ref cda, [(_, cc)] => PySem.W.codeIn K (.ref cda) fd.qualname && ((match K.lookup cda with
      | some ⟨_, _, .fields vs, _⟩ => (match (vs[2]? : Option Value) with
        | some (.str file _) => f == file
        | _ => false)
      | _ => false) && (match K.lookup cc with
      | some ⟨_, _, .cell (some (.ref C')), _⟩ => decide (C' = C)
      | _ => false))
    | _, _, _, _ => false)
  | _ => false
def excB (f x fld : Str) (K : PySem.W.Frag) : Bool :=
  (eqO (PySem.W.nsIn K mainGlobals x) (some (some (.ref (ga K x)))) && clsE K (ga K x)) &&
  ((eqO (PySem.W.findIn K (.ref (ga K x)) "__setattr__") (some (some (.builtin "object.__setattr__"))) && eqO (PySem.W.findIn K (.ref (ga K x)) "__getattribute__") (some (some (.builtin "BaseException.__getattribute__")))) &&
  ((eqO (PySem.W.findIn K (.ref (ga K x)) "__getattr__") (some none) && eqO (PySem.W.findIn K (.ref (ga K x)) fld) (some none)) &&
  ((eqO (PySem.W.findIn K (.ref (ga K x)) "__init__") (some (some (.ref (ma K (ga K x) "__init__")))) && decide (PySem.W.typeIn K (.ref (ma K (ga K x) "__init__")) = some (.type "function"))) &&
  ((PySem.W.keepIn K (.ref (ga K x)) && (decide (PySem.W.subIn K (.ref (ga K x)) (.type "BaseException") = some true) && decide (PySem.W.subIn K (.ref (ga K x)) (.type "ValueError") = some true))) &&
  ((decide (PySem.W.typeIn K (.ref (ga K x)) = some (.type "type")) && PySem.W.hasDictIn K (ga K x)) &&
  ((decide (PySem.W.exmOne K (.ref (ga K x)) (.ref (ga K x)) = some true) && eqO (PySem.W.nsIn K cStatics "thirdparty.any") (some none)) &&
  ((eqO (PySem.W.ks_superIn K (ga K x) (ga K x) "__init__") (some (some (.builtin "ValueError.__init__"))) && decide (PySem.W.mroIn K (ga K x) (.ref (ga K x)) = some true)) &&
  (eqO (PySem.W.nsIn K mainGlobals "super") (some none) && iniE K f (ga K x) (ma K (ga K x) "__init__")))))))))
theorem clsE_ok {K : PySem.W.Frag} {C : Addr} (h : clsE K C = true) : ∃ nm q N bs bm sn sub ab col dd k0 k1 k2 k3 k5, K.lookup C = some (excClassObj nm q C N bs bm true sn sub ab col dd k0 k1 k2 k3 k5 "ValueError.__new__") ∧ PySem.HandSPX.refsVE bm = true := by
  unfold clsE at h
  split at h
  · next t dd cd sl e =>
    obtain ⟨h1, h2⟩ := ba h
    obtain ⟨h1, h3⟩ := ba h1
    obtain ⟨h3, h4⟩ := ba h3
    obtain ⟨h5, h6⟩ := ba h2
    have h1 := of_decide_eq_true h1
    subst h1
    obtain ⟨nm, bs, mro, N, q, hd, sn, sub, ab, col, hdel⟩ := cd
    have hh : hd = true := h3
    have hk : hdel = false := by
      cases hdel with
      | false => rfl
      | true => cases h4
    clear h3 h4
    cases hh
    cases hk
    split at h5
    · next C' bm e2 =>
      have e2 : mro = .ref C' :: bm := e2
      subst e2
      obtain ⟨h5, h7⟩ := ba h5
      have h5 := of_decide_eq_true h5
      subst h5
      split at h6
      · next k0 k1 k2 k3 n k5 =>
        have h6 := of_decide_eq_true h6
        subst h6
        exact ⟨_, _, _, _, _, _, _, _, _, _, _, _, _, _, _, e, h7⟩
      · cases h6
    · cases h5
  · cases h
/-- what iniE tells -/
theorem iniE_ok {K : PySem.W.Frag} {f : Str} {C fI : Addr} (h : iniE K f C fI = true) : ∃ (oc : Value) (od : Option Addr) (fd : FuncData) (osl : Array (Option Value)) (cda cc : Addr) (z : Str) (ccl cl : Value) (cdd cld : Option Addr) (ccs csl : Array (Option Value)) (vs : Array Value) (file : Str) (tf : Tok),
    K.lookup fI = some ⟨oc, od, .func fd, osl⟩ ∧ fd.defaults = .none ∧ fd.kwdefaults = .none ∧ fd.code = .ref cda ∧ fd.closure = [(z, cc)] ∧ PySem.W.codeIn K (.ref cda) fd.qualname = true ∧ K.lookup cda = some ⟨ccl, cdd, .fields vs, ccs⟩ ∧ vs[2]? = some (.str file tf) ∧ (f == file) = true ∧ K.lookup cc = some ⟨cl, cld, .cell (some (.ref C)), csl⟩ := by
  unfold iniE at h
  split at h
  · next oc od fd osl e =>
    split at h
    · next cda z cc e1 e2 e3 e4 =>
      obtain ⟨h1, hr⟩ := ba h
      obtain ⟨hf, hc⟩ := ba hr
      clear h hr
      split at hf
      · next ccl cdd vs ccs e5 =>
        split at hf
        · next file tf e6 =>
          split at hc
          · next cl cld C' csl e7 =>
            have hc := of_decide_eq_true hc
            subst hc
            exact ⟨oc, od, fd, osl, cda, cc, z, ccl, cl, cdd, cld, ccs, csl, vs, file, tf, e, e1, e2, e3, e4, h1, e5, e6, hf, e7⟩
          · cases hc
        · cases hf
      · cases hf
    · cases h
  · cases h
theorem fnE_ok {K : PySem.W.Frag} {p : Str × Option Str} {oc : Value} {od : Option Addr} {fd : FuncData} {osl : Array (Option Value)} {n : Str} {A : Arguments} {B : List Stmt} {Sc : Scope} {zs : List Str} {cda cc : Addr} {z : Str} (e : fnE K p = some (n, A, .stmts B, Sc, mainGlobals, zs, builtinsNs)) (l : K.lookup (fAd K p) = some ⟨oc, od, .func fd, osl⟩)
    (h1 : fd.defaults = .none) (h2 : fd.kwdefaults = .none) (h3 : fd.code = .ref cda) (h4 : fd.closure = [(z, cc)]) : zs = [z] ∧ ∃ qual doc pm an ct, fd.qualname = qual ∧ K.lookup (fAd K p) = some ⟨oc, od, .func (PySem.W.fnX n qual A B Sc [(z, cc)] .none .none doc pm an (.ref cda) ct), osl⟩ := by
  unfold fnE at e
  rw [l] at e
  obtain ⟨fn, fq, fp, fb, fs, fg, fc, fdv, fk, fdoc, fpm, fan, fcode, fct, fbl⟩ := fd
  have h1 : fdv = .none := h1
  have h2 : fk = .none := h2
  have h3 : fcode = .ref cda := h3
  have h4 : fc = [(z, cc)] := h4
  subst h1 h2 h3 h4
  have e : some (fn, fp, fb, fs, fg, [z], fbl) = some (n, A, FuncBody.stmts B, Sc, mainGlobals, zs, builtinsNs) := e
  cases e
  exact ⟨rfl, _, _, _, _, _, rfl, l⟩
section
variable {P : Program} {K : PySem.W.Frag} {h : Heap} {mg : Str → Option Value} {x fld : Str}
/-- all that excB tells, but for the text of __init__ -/
structure ExcS (P : Program) (K : PySem.W.Frag) (mg : Str → Option Value) (x fld : Str) (C fI : Addr) : Prop where
  gC : mg x = some (.ref C)
  cls : ∃ nm q N bs bm sn sub ab col dd k0 k1 k2 k3 k5, K.lookup C = some (excClassObj nm q C N bs bm true sn sub ab col dd k0 k1 k2 k3 k5 "ValueError.__new__") ∧ PySem.HandSPX.refsVE bm = true
  sa : PySem.W.findIn K (.ref C) "__setattr__" = some (some (.builtin "object.__setattr__"))
  ga : PySem.W.findIn K (.ref C) "__getattribute__" = some (some (.builtin "BaseException.__getattribute__"))
  gg : PySem.W.findIn K (.ref C) "__getattr__" = some none
  noN : PySem.W.findIn K (.ref C) fld = some none
  iC : PySem.W.findIn K (.ref C) "__init__" = some (some (.ref fI))
  tC : PySem.W.typeIn K (.ref fI) = some (.type "function")
  kC : PySem.W.keepIn K (.ref C) = true
  exC : PySem.W.subIn K (.ref C) (.type "BaseException") = some true
  veC : PySem.W.subIn K (.ref C) (.type "ValueError") = some true
  tyC : PySem.W.typeIn K (.ref C) = some (.type "type")
  hdC : PySem.W.hasDictIn K C = true
  te : PySem.W.exmOne K (.ref C) (.ref C) = some true
  op : PySem.W.nsIn K cStatics "thirdparty.any" = some none
  up : PySem.W.ks_superIn K C C "__init__" = some (some (.builtin "ValueError.__init__"))
  mr : PySem.W.mroIn K C (.ref C) = some true
  su : mg "super" = none
  ini : iniE K P.main.file C fI = true
theorem excB_ok (X : K.In h) (G : h.Ns mainGlobals mg) (c : excB P.main.file x fld K = true) : ExcS P K mg x fld (He.ga K x) (ma K (He.ga K x) "__init__") := by
  unfold excB at c
  obtain ⟨c1, c⟩ := ba c
  obtain ⟨c2, c⟩ := ba c
  obtain ⟨c3, c⟩ := ba c
  obtain ⟨c4, c⟩ := ba c
  obtain ⟨c5, c⟩ := ba c
  obtain ⟨c6, c⟩ := ba c
  obtain ⟨c7, c⟩ := ba c
  obtain ⟨c8, c9⟩ := ba c
  exact ⟨PySem.W.mg_of X G (eqO_ok (ba c1).1), clsE_ok (ba c1).2, eqO_ok (ba c2).1, eqO_ok (ba c2).2, eqO_ok (ba c3).1, eqO_ok (ba c3).2, eqO_ok (ba c4).1, of_decide_eq_true (ba c4).2, (ba c5).1, of_decide_eq_true (ba (ba c5).2).1, of_decide_eq_true (ba (ba c5).2).2,
    of_decide_eq_true (ba c6).1, (ba c6).2, of_decide_eq_true (ba c7).1, eqO_ok (ba c7).2, eqO_ok (ba c8).1, of_decide_eq_true (ba c8).2, PySem.W.mg_none_of X G (eqO_ok (ba c9).1), (ba c9).2⟩
def valOf (A : Arguments) (B : List Stmt) (Sc : Scope) : FnE := some ("__init__", A, .stmts B, Sc, mainGlobals, ["__class__"], builtinsNs)
theorem src_of {C fI : Addr} (s : ExcS P K mg x "at" C fI) (hI : fI = fAd K (x, some "__init__")) (e : fnE K (x, some "__init__") = valOf PySem.SrcX.eA PySem.SrcX.eB PySem.SrcX.eS) (top : (P.main.scope.names.lookup ("super" : Str)).isSome = false) : PySem.SrcX.SrcTxt P K mg x C fI := by
  subst hI
  obtain ⟨oc, od, fd, osl, cda, cc, z, ccl, cl, cdd, cld, ccs, csl, vs, file, tf, l, e1, e2, e3, e4, e5, e6, e7, e8, e9⟩ := iniE_ok s.ini
  obtain ⟨ez, qual, doc, pm, an, ct, eq, l2⟩ := fnE_ok e l e1 e2 e3 e4
  cases ez
  exact ⟨s.gC, s.cls, s.sa, s.ga, s.gg, s.noN, s.iC, s.tC, s.kC, s.exC, s.veC, s.tyC, s.hdC, s.te, s.op, s.up, s.mr, s.su, top, oc, od, doc, pm, an, cda, cc, ct, osl, qual, ccl, cl, cdd, cld, ccs, csl, vs, file, tf, l2, by rw [← eq]; exact e5, e6, e7, e8, e9⟩
theorem nam_of {C fI : Addr} (s : ExcS P K mg x "name" C fI) (hI : fI = fAd K (x, some "__init__")) (e : fnE K (x, some "__init__") = valOf PySem.NamX.eA PySem.NamX.eB PySem.NamX.eS) (top : (P.main.scope.names.lookup ("super" : Str)).isSome = false) : PySem.NamX.NamTxt P K mg x C fI := by
  subst hI
  obtain ⟨oc, od, fd, osl, cda, cc, z, ccl, cl, cdd, cld, ccs, csl, vs, file, tf, l, e1, e2, e3, e4, e5, e6, e7, e8, e9⟩ := iniE_ok s.ini
  obtain ⟨ez, qual, doc, pm, an, ct, eq, l2⟩ := fnE_ok e l e1 e2 e3 e4
  cases ez
  exact ⟨s.gC, s.cls, s.sa, s.ga, s.gg, s.noN, s.iC, s.tC, s.kC, s.exC, s.veC, s.tyC, s.hdC, s.te, s.op, s.up, s.mr, s.su, top, oc, od, doc, pm, an, cda, cc, ct, osl, qual, ccl, cl, cdd, cld, ccs, csl, vs, file, tf, l2, by rw [← eq]; exact e5, e6, e7, e8, e9⟩
theorem chg_of {C fI : Addr} (s : ExcS P K mg x "at" C fI) (hI : fI = fAd K (x, some "__init__")) (e : fnE K (x, some "__init__") = valOf PySem.ChgX.eA PySem.ChgX.eB PySem.ChgX.eS) (top : (P.main.scope.names.lookup ("super" : Str)).isSome = false) : PySem.ChgX.ChgTxt P K mg x C fI := by
  subst hI
  obtain ⟨oc, od, fd, osl, cda, cc, z, ccl, cl, cdd, cld, ccs, csl, vs, file, tf, l, e1, e2, e3, e4, e5, e6, e7, e8, e9⟩ := iniE_ok s.ini
  obtain ⟨ez, qual, doc, pm, an, ct, eq, l2⟩ := fnE_ok e l e1 e2 e3 e4
  cases ez
  exact ⟨s.gC, s.cls, s.sa, s.ga, s.gg, s.noN, s.iC, s.tC, s.kC, s.exC, s.veC, s.tyC, s.hdC, s.te, s.op, s.up, s.mr, s.su, top, oc, od, doc, pm, an, cda, cc, ct, osl, qual, ccl, cl, cdd, cld, ccs, csl, vs, file, tf, l2, by rw [← eq]; exact e5, e6, e7, e8, e9⟩
end
end HkX
/-! The hook with all kinds of facts: names, own tests, defs with defaults, tables, defs with a cell; places by number. -/
namespace HkX
open PySem PySem.Spec PyProof.Rows L2 He
abbrev AlY : Type := ((Bool × List FnW) × List (Option (List (Option (Str × Int))))) × List FnE
structure SpY where
  pl : List Addr
  fa : List Fa
  fb : List (PySem.W.Frag → Bool)
  fn : List DefD
  ts : List Tab
  fe : List ((Str × Option Str) × FnE)
def obsY (z : SpY) (K : PySem.W.Frag) : AlY := (((((z.fa.all fun f => f.ok K) && z.fb.all fun f => f K) && z.fn.all fun d => d.ok K, z.fn.map fun d => fnW K d.at_), z.ts.map fun t => dicW K (t.1 K)), z.fe.map fun e => fnE K e.1)
def valY (z : SpY) (w : World) : AlY := (((true, z.fn.map DefD.val), z.ts.map fun t => some (keysIn w.params t.2)), z.fe.map (·.2))
def SaysY (z : SpY) (w : World) (K : PySem.W.Frag) : Prop := obsY z K = valY z w
def obsYG (z : SpY) (g : Addr → Option Obj) : AlY := obsY z (frG g z.pl)
def hookY (z : SpY) : PySem.W.Hook where
  α := AlY
  obs := fun s => obsYG z s.heap.get?
  val := fun w => valY z w
  says := fun w h => ∃ K : PySem.W.Frag, K.In h ∧ SaysY z w K
  of := fun _ _ e => ⟨_, frG_in, e⟩
  keeps := fun _ _ _ ⟨K, hK, c⟩ k => ⟨K, PySem.W.Frag.In.keeps hK k, c⟩
theorem obsYG_eq {z : SpY} {g : Addr → Option Obj} {s : Shared} (h : ∀ a, g a = s.heap.get? a) : obsYG z g = (hookY z).obs s := by
  have e : g = s.heap.get? := funext h
  rw [e] <;> rfl
section
variable {z : SpY} {w : World} {K : PySem.W.Frag}
theorem SaysY.b1 (c : SaysY z w K) : (((z.fa.all fun f => f.ok K) && z.fb.all fun f => f K) && z.fn.all fun d => d.ok K) = true := congrArg (fun x : AlY => x.1.1.1) c
theorem SaysY.fact (c : SaysY z w K) (i : Nat) {f : Fa} (h : z.fa[i]? = some f := by rfl) : f.ok K = true := List.all_eq_true.mp (ba (ba c.b1).1).1 f (List.mem_of_getElem? h)
theorem SaysY.own (c : SaysY z w K) (i : Nat) {f : PySem.W.Frag → Bool} (h : z.fb[i]? = some f := by rfl) : f K = true := List.all_eq_true.mp (ba (ba c.b1).1).2 f (List.mem_of_getElem? h)
theorem at_of {α β : Type} {l : List α} {f g : α → β} (e : l.map f = l.map g) {i : Nat} {d : α} (h : l[i]? = some d) : f d = g d := by
  have e5 : (l.map f)[i]? = (l.map g)[i]? := by rw [e]
  rw [List.getElem?_map, List.getElem?_map, h] at e5
  exact Option.some.inj e5
theorem SaysY.def_ (c : SaysY z w K) (i : Nat) {d : DefD} (h : z.fn[i]? = some d := by rfl) : ∃ fd, FunD K d.name d.qual d.params d.body d.scope (d.dvs K) (d.kws K) (fAd K d.at_) fd :=
  DefD.funD (at_of (congrArg (fun x : AlY => x.1.1.2) c) h) (List.all_eq_true.mp (ba c.b1).2 d (List.mem_of_getElem? h))
theorem SaysY.tab (c : SaysY z w K) (i : Nat) {t : Tab} (h : z.ts[i]? = some t := by rfl) : ∃ es n, KDict K w (t.1 K) es n := dicW_ok (at_of (congrArg (fun x : AlY => x.1.2) c) h)
theorem SaysY.ini (c : SaysY z w K) (i : Nat) {e : (Str × Option Str) × FnE} (h : z.fe[i]? = some e := by rfl) : fnE K e.1 = e.2 := at_of (congrArg (fun x : AlY => x.2) c) h
end
/-! ### tuples of texts, tables by their entries -/
def tupT (x : Str) (l : List (List Nat)) (K : PySem.W.Frag) : Bool := match K.lookup (ga K x) with
  | some ⟨.type c, _, .seq its _, _⟩ => decide (c = "tuple") && Lv.valsT l its.toList
  | _ => false
theorem tupT_ok {x : Str} {l : List (List Nat)} {K : PySem.W.Frag} (h : tupT x l K = true) (hl : l.length ≤ 1000) : ∀ H : Hp, SqT K H (ga K x) (l.map Lv.T) := by
  have g : ∃ o its n sl, K.lookup (ga K x) = some ⟨.type "tuple", o, .seq its n, sl⟩ ∧ Lv.valsT l its.toList = true := by
    unfold tupT at h
    split at h
    · next c o its n sl e =>
      obtain ⟨h1, h2⟩ := ba h
      have h1 := of_decide_eq_true h1
      subst h1
      exact ⟨_, _, _, _, e, h2⟩
    · cases h
  obtain ⟨o, its, n, sl, e, h2⟩ := g
  exact Lv.sqT_top e h2 hl
def entO (x : Str) (kvs : List (List Nat × V)) (K : PySem.W.Frag) : Bool := match K.lookup (ga K x) with
  | some ⟨_, _, .dict es _, _⟩ => Lv.entB es.toList kvs
  | _ => false
theorem entO_ok {x : Str} {kvs : List (List Nat × V)} {K : PySem.W.Frag} {w : World} {es : Array DictEntry} {n : Nat} (k : KDict K w (ga K x) es n) (h : entO x kvs K = true) : K.lookup (ga K x) = some ⟨.type "dict", none, .dict es n, #[]⟩ ∧ Lv.entB es.toList kvs = true := by
  have l := k.1
  unfold entO at h
  rw [l] at h
  exact ⟨l, h⟩
end HkX
/-! Ends of iterators while an exception is handled. -/
namespace Hz
open PySem PySem.Spec PyProof.Rows HotX
theorem hot_to {A : Around} {x1 : Addr} {h h2 : Heap} (c : HotAt A x1 h) (k : ∀ o, h.get? x1 = some o → h2.get? x1 = some o) : HotAt A x1 h2 :=
  ⟨c.1, c.2.elim fun o r => r.elim fun vs q => ⟨o, vs, k o q.1, q.2⟩⟩
theorem hot_ne {A : Around} {x1 b : Addr} {h : Heap} {o : Obj} {vs : Array Value} (c : HotAt A x1 h) (e : h.get? b = some o) (d : o.data = .fields vs) (n : vs[2]? ≠ some .none) : x1 ≠ b := fun z => by
  obtain ⟨_, o2, ws, q1, q2, q3⟩ := c
  subst z
  rw [e] at q1
  cases q1
  rw [d] at q2
  cases q2
  exact n q3
theorem hot_nes {A : Around} {x1 b : Addr} {h : Heap} {o : Obj} {vs : Array Value} {n : Nat} (c : HotAt A x1 h) (e : h.get? b = some o) (d : o.data = .seq vs n) : x1 ≠ b := fun z => by
  obtain ⟨_, o2, ws, q1, q2, q3⟩ := c
  subst z
  rw [e] at q1
  cases q1
  rw [d] at q2
  cases q2
section
variable {prog : Program} {w : World} {A : Around} {E : Value → Shared → Prop} {s : Shared}
/-- the end is told by a new exception, its context the handled one -/
theorem stop_hot {α : Type} {x1 : Addr} {Q : α → Shared → Prop} (c : HotAt A x1 s.heap)
    (k : ∀ h2 e, (∀ b o, s.heap.get? b = some o → h2.get? b = some o) → (∃ o, h2.get? e = some o ∧ o.cls = .type "StopIteration") → E (.ref e) { s with heap := h2 }) :
    wpAny (model prog w) A (newExc (.type "StopIteration") [] >>= fun e => (raiseNew e : Sem α)) Q E s := by
  obtain ⟨hh, o1, vs1, q1, d1, c1⟩ := c
  refine wpAny_bind ?_
  simp only [newExc, newTuple]
  refine wpAny_bind (wpAny_newObj_type ?_ (by size_fits))
  refine wpAny_bind (m := firstArgMember _ _) (wpAny_of_eq (a := Value.none) (by first | rfl | (simp only [firstArgMember]; rfl)) ?_)
  refine wpAny_newObj_type ?_ (by size_fits)
  have q2 := Heap.get?_push_of_some { cls := .type "tuple", data := .seq (#[] : Array Value) } q1
  refine raiseNew_hot ⟨hh, o1, vs1, Heap.get?_push_of_some _ q2, d1, c1⟩ (Nat.ne_of_lt (Heap.lt_size q2)) (Heap.get?_push_size _ rfl) rfl (by first | (simp; done) | (simp; omega) | (simp only [Array.size_append]; simp; omega)) ?_
  refine k _ _ (fun b o q => ?_) ⟨_, Heap.get?_update_self _ (Heap.get?_push_size _ rfl) rfl, rfl⟩
  have q3 := Heap.get?_push_of_some { cls := .type "tuple", data := .seq (#[] : Array Value) } q
  rw [Heap.get?_update_other _ _ (Nat.ne_of_gt (Heap.lt_size q3))]
  exact Heap.get?_push_of_some _ q3
theorem list_out_hot {it l x1 : Addr} {i : Nat} {items : Array Value} {Q : Value → Shared → Prop} (c : HotAt A x1 s.heap) (hit : s.heap.IsListIter it l i) (hl : s.heap.IsList l items) (hx : items[i]? = none)
    (k : ∀ h2 e, Heap.ExtBut it s.heap h2 → (∃ o, h2.get? e = some o ∧ o.cls = .type "StopIteration") → E (.ref e) { s with heap := h2 }) :
    wpAny (model prog w) A (Builtin.SmallTypes.nextOf (.ref it)) Q E s := by
  obtain ⟨o, ho, hc, hd⟩ := id hit
  obtain ⟨ol, hol, _, nl, hdl⟩ := hl
  have ne : x1 ≠ it := hot_ne c ho hd (by simp)
  unfold Builtin.SmallTypes.nextOf
  refine wpAny_bind (wpAny_callSpecial?_slot (name := Str.ofString "__next__") hit.typeIs slot_listiter_next (wpAny_call_entry slot_listiter_next hit.typeIs entry_listiter_next ?_ (args_listiter_next _)))
  show wpAny _ _ (field (.ref it) 0 >>= _) _ _ s
  refine wpAny_bind (wpAny_field ho hd (x := .ref l) rfl ?_)
  show wpAny _ _ (if (Value.ref l == Value.none) = true then _ else _) _ _ s
  rw [if_neg (show ¬ ((Value.ref l == Value.none) = true) from Bool.false_ne_true)]
  show wpAny _ _ (field (.ref it) 1 >>= _) _ _ s
  refine wpAny_bind (wpAny_field ho hd (x := .int i 0) rfl ?_)
  show wpAny _ _ (seqItems? (.ref l) >>= _) _ _ s
  refine wpAny_bind (wpAny_seqItems hol hdl ?_)
  simp only [Int.toNat_natCast, hx]
  refine wpAny_bind (wpAny_rule (wpAny_bind (wpAny_setField ho hd (by simp) ?_)))
  refine stop_hot (A := A.in1) (x1 := x1) ⟨c.1, (hot_to c fun u q => ?_).2⟩ fun h2 e k2 he => k h2 e (fun b u hb q => k2 b u ?_) he
  · rw [Heap.get?_update_other _ _ ne.symm]; exact q
  · rw [Heap.get?_update_other _ _ (Ne.symm hb)]; exact q
theorem tup_out_hot {it t x1 : Addr} {i : Nat} {items : Array Value} {Q : Option Value → Shared → Prop} (c : HotAt A x1 s.heap) (hit : IsTupIter s.heap it t i) (ht : IsTup s.heap t items) (hx : items[i]? = none)
    (k : ∀ h2, Heap.ExtBut it s.heap h2 → Q none { s with heap := h2 }) : wpAny (model prog w) A (pyNext (.ref it)) Q E s := by
  obtain ⟨o, ho, hc, hd⟩ := id hit
  obtain ⟨ol, hol, _, nl, hdl⟩ := ht
  have ne : x1 ≠ it := hot_ne c ho hd (by simp)
  unfold pyNext
  refine wpAny_bind (wpAny_attempt (wpAny_callSpecial?_slot (name := Str.ofString "__next__") hit.typeIs slot_tupleiter_next (wpAny_call_entry slot_tupleiter_next hit.typeIs entry_tupleiter_next ?_ (args_tupleiter_next _))))
  show wpAny _ _ (field (.ref it) 0 >>= _) _ _ s
  refine wpAny_bind (wpAny_field ho hd (x := .ref t) rfl ?_)
  show wpAny _ _ (if (Value.ref t == Value.none) = true then _ else _) _ _ s
  rw [if_neg (show ¬ ((Value.ref t == Value.none) = true) from Bool.false_ne_true)]
  show wpAny _ _ (field (.ref it) 1 >>= _) _ _ s
  refine wpAny_bind (wpAny_field ho hd (x := .int i 0) rfl ?_)
  show wpAny _ _ (seqItems? (.ref t) >>= _) _ _ s
  refine wpAny_bind (wpAny_seqItems hol hdl ?_)
  simp only [Int.toNat_natCast, hx]
  refine wpAny_bind (wpAny_rule (wpAny_bind (wpAny_setField ho hd (by simp) ?_)))
  refine stop_hot (A := A.in1) (x1 := x1) ⟨c.1, (hot_to c fun u q => ?_).2⟩ fun h2 e k2 he => ?_
  · rw [Heap.get?_update_other _ _ ne.symm]; exact q
  · obtain ⟨oe, q1, q2⟩ := he
    refine wpAny_bind (wpAny_isInstance (T := "StopIteration") (b := true) ⟨oe, q1, q2⟩ isSubtype_stop (wpAny_pure (k _ fun b u hb q => k2 b u ?_)))
    rw [Heap.get?_update_other _ _ (Ne.symm hb)]; exact q
/-- a tuple of as many items taken apart -/
theorem tup_apart_hot {env : Env} {elts : List Expr} {kk} {pos : Pos} {t x1 : Addr} {items : Array Value} {Q : Unit → Shared → Prop} (c : HotAt A x1 s.heap) (ht : IsTup s.heap t items)
    (hn : (assignEach elts env).length = items.size) (hst : (assignEach elts env).findIdx? (·.1) = none)
    (k : ∀ h2, Heap.ExtBut s.heap.objs.size s.heap h2 → wpAny (model prog w) A (assignInOrder ((assignEach elts env).map (·.2)) items.toList) Q E { s with heap := h2 }) :
    wpAny (model prog w) A (assign (.Tuple elts kk pos) env (.ref t)) Q E s := by
  have ne : t ≠ s.heap.objs.size := ht.elim fun o q => Nat.ne_of_lt (Heap.lt_size q.1)
  obtain ⟨o1, _, q1, _, _⟩ := id c.2
  have nx : x1 ≠ s.heap.objs.size := Nat.ne_of_lt (Heap.lt_size q1)
  rw [assign_Tuple]
  refine wpAny_bind (wpAny_standAt ?_)
  unfold unpack
  rw [hn, hst]
  refine wpAny_bind (wpAny_holding ?_)
  unfold unpackItems
  refine wpAny_bind ?_
  unfold notIterableAtAll
  refine wpAny_bind (wpAny_specialOf ht.typeIs slot_tuple_iter.lookup (wpAny_pure ?_))
  simp only [Bool.false_eq_true, if_false]
  refine wpAny_bind (wpAny_holding (iter_tuple ht (wpAny_bind (wpAny_holding (draw_tuple ne items.size 0 _ _ ⟨_, Heap.get?_push_size _ rfl, rfl, rfl⟩ (ht.push _) (by omega) fun h3 it3 s3 => ?_)))))
  rw [show List.take items.size (List.drop 0 items.toList) = items.toList from by rw [List.drop_zero]; exact List.take_of_length_le (by simp)]
  rw [if_neg (by simp)]
  refine wpAny_bind (wpAny_holding (tup_out_hot (x1 := x1) (hot_to c fun u q => s3.extBut _ _ nx (Heap.get?_push_of_some _ q)) it3 ((ht.push _).extBut s3.extBut ne) (by simp) fun h4 k4 => ?_))
  simp only [Option.isSome_none, Bool.false_eq_true, if_false]
  exact wpAny_pure (k h4 fun b u hb q => k4 b u hb (s3.extBut b u hb (Heap.get?_push_of_some _ q)))
/-- zip's end -/
theorem zip_out_hot {z TI TO i1 i2 l1 l2 x1 : Addr} {k1 k2 : Nat} {xs ys : Array Value} {a b : Value} {Q : Fin → Shared → Prop} (c : HotAt A x1 s.heap) (D : ZipApart z TI TO i1 i2 l1 l2)
    (hz : IsZip s.heap z TI TO .none) (hTI : IsPair s.heap TI (.ref i1) (.ref i2)) (hTO : IsPair s.heap TO a b)
    (h1 : s.heap.IsListIter i1 l1 k1) (h2 : s.heap.IsListIter i2 l2 k2) (hl1 : s.heap.IsList l1 xs) (hl2 : s.heap.IsList l2 ys) (hend : xs[k1]? = none ∨ ys[k2]? = none)
    (hE : ∀ g e, (∀ y o, y ≠ z → y ≠ TO → y ≠ i1 → y ≠ i2 → s.heap.get? y = some o → g.get? y = some o) → (∃ o, g.get? e = some o ∧ o.cls = .type "StopIteration") → E (.ref e) { s with heap := g }) :
    wpAny (model prog w) A (Builtin.«zip.__next__» ⟨[.ref z], []⟩) Q E s := by
  have nz : x1 ≠ z := hot_ne c hz rfl (by simp)
  have nTO : x1 ≠ TO := hot_nes c hTO rfl
  have n1 : x1 ≠ i1 := h1.elim fun o q => hot_ne c q.1 q.2.2 (by simp)
  show wpAny _ _ (field (.ref z) 2 >>= _) _ _ _
  refine wpAny_bind (wpAny_field hz rfl (x := .bool false) rfl ?_)
  show wpAny _ _ (field (.ref z) 3 >>= _) _ _ _
  refine wpAny_bind (wpAny_field hz rfl (x := .ref TI) rfl (wpAny_bind (wpAny_seqItems hTI rfl ?_)))
  show wpAny _ _ (Builtin.SmallTypes.ownedTupleIsFree (.ref z) >>= _) _ _ _
  refine wpAny_bind ?_
  unfold Builtin.SmallTypes.ownedTupleIsFree
  refine wpAny_bind (wpAny_field hz rfl (x := .none) rfl (wpAny_pure ?_))
  simp only [if_true]
  refine wpAny_bind (wpAny_rule (wpAny_bind (wpAny_field hz rfl (x := .ref TO) rfl (wpAny_bind (wpAny_setField_rec hz (by simp) fun g1 z1 s1 => ?_)))))
  replace z1 : IsZip g1 z TI TO .ellipsis := z1
  have c1 : HotAt A x1 g1 := hot_to c fun u q => s1.extBut _ _ nz q
  refine wpAny_bind ?_
  simp only [List.zipIdx_cons, List.zipIdx_nil, List.forIn_cons, List.forIn_nil]
  refine wpAny_bind (wpAny_bind (wpAny_onRaise ?_))
  show wpAny _ _ (Builtin.SmallTypes.nextOf (.ref i1) >>= _) _ _ _
  -- the way out: the flag is taken back, the exception stands
  have out : ∀ {g2 : Heap} {e : Addr} {F : Value → Shared → Prop}, IsZip g2 z TI TO .ellipsis → (∃ o, g2.get? e = some o ∧ o.cls = .type "StopIteration") → (∀ g3, Heap.SameBut z g2 g3 → (∃ o, g3.get? e = some o ∧ o.cls = .type "StopIteration") → F (.ref e) { s with heap := g3 }) →
      wpAny (model prog w) A (setField (.ref z) 0 .none) (fun _ s' => F (.ref e) s') F { s with heap := g2 } := fun {g2 e F} z2 he hF => by
    obtain ⟨oe, e1, e2⟩ := he
    have hez : e ≠ z := fun x => by subst x; rw [z2] at e1; cases e1; simp at e2
    exact wpAny_setField_rec z2 (by simp) fun g3 _ s3 => hF g3 s3 ⟨oe, s3.extBut _ _ hez e1, e2⟩
  cases hx : xs[k1]? with
  | none =>
    refine wpAny_bind (list_out_hot c1 (h1.extBut s1.extBut D.i1z) (hl1.extBut s1.extBut D.l1z) hx fun g2 e k2 he => ?_)
    have z2 : IsZip g2 z TI TO .ellipsis := k2 _ _ D.i1z.symm z1
    refine out z2 he fun g3 s3 he3 => hE g3 e (fun y o y1 _ y3 _ q => s3.extBut _ _ y1 (k2 _ _ y3 (s1.extBut _ _ y1 q))) he3
  | some x =>
    have hy : ys[k2]? = none := hend.resolve_left fun q => by rw [hx] at q; cases q
    refine wpAny_bind (wpAny_nextOf_list_item (h1.extBut s1.extBut D.i1z) (hl1.extBut s1.extBut D.l1z) hx fun g2 i2' s2 => wpAny_pure ?_)
    have tO : IsPair g2 TO a b := s2.extBut _ _ D.TOi1 (s1.extBut _ _ D.TOz hTO)
    refine wpAny_bind (wpAny_seqItems tO rfl (wpAny_bind (wpAny_updateSeq_pair tO fun g3 _ s3 => wpAny_bind (wpAny_letGo (wpAny_pure ?_)))))
    refine wpAny_bind (wpAny_bind (wpAny_onRaise ?_))
    show wpAny _ _ (Builtin.SmallTypes.nextOf (.ref i2) >>= _) _ _ _
    have c3 : HotAt A x1 g3 := hot_to c1 fun u q => s3.extBut _ _ nTO (s2.extBut _ _ n1 q)
    refine wpAny_bind (list_out_hot c3 (((h2.extBut s1.extBut D.i2z).extBut s2.extBut D.i12.symm).extBut s3.extBut D.TOi2.symm) (((hl2.extBut s1.extBut D.l2z).extBut s2.extBut D.l2i1).extBut s3.extBut D.l2TO) hy fun g4 e k4 he => ?_)
    have z4 : IsZip g4 z TI TO .ellipsis := k4 _ _ D.i2z.symm (s3.extBut _ _ D.TOz.symm (s2.extBut _ _ D.i1z.symm z1))
    refine out z4 he fun g5 s5 he5 => hE g5 e (fun y o y1 y2 y3 y4 q => s5.extBut _ _ y1 (k4 _ _ y4 (s3.extBut _ _ y2 (s2.extBut _ _ y3 (s1.extBut _ _ y1 q))))) he5
theorem zip_done_hot {z TI TO i1 i2 l1 l2 x1 : Addr} {k1 k2 : Nat} {xs ys : Array Value} {a b : Value} {Q : Option Value → Shared → Prop} (c : HotAt A x1 s.heap) (D : ZipApart z TI TO i1 i2 l1 l2)
    (hz : IsZip s.heap z TI TO .none) (hTI : IsPair s.heap TI (.ref i1) (.ref i2)) (hTO : IsPair s.heap TO a b)
    (h1 : s.heap.IsListIter i1 l1 k1) (h2 : s.heap.IsListIter i2 l2 k2) (hl1 : s.heap.IsList l1 xs) (hl2 : s.heap.IsList l2 ys) (hend : xs[k1]? = none ∨ ys[k2]? = none)
    (k : ∀ g, (∀ y o, y ≠ z → y ≠ TO → y ≠ i1 → y ≠ i2 → s.heap.get? y = some o → g.get? y = some o) → Q none { s with heap := g }) : wpAny (model prog w) A (pyNext (.ref z)) Q E s := by
  have hT : s.TypeIs (.ref z) "zip" := ⟨_, hz, rfl⟩
  unfold pyNext
  refine wpAny_bind (wpAny_attempt (wpAny_callSpecial?_slot (name := Str.ofString "__next__") hT F.slot_zip_next (wpAny_call_entry F.slot_zip_next hT F.entry_zip_next (zip_out_hot (x1 := x1) ⟨c.1, c.2⟩ D hz hTI hTO h1 h2 hl1 hl2 hend fun g e kk he => ?_) (F.args_zip_next_1 _))))
  obtain ⟨o, e1, e2⟩ := he
  exact wpAny_bind (wpAny_isInstance (T := "StopIteration") (b := true) ⟨o, e1, e2⟩ isSubtype_stop (wpAny_pure (k _ kk)))
end
end Hz
/-! Comprehensions over zip, tuples taken apart: while an exception is handled. -/
namespace Hz
open PySem PySem.Spec PyProof.Rows L2 L2H HotX
theorem turn_zipHot {P : Program} {w : World} {K : PySem.W.Frag} {elts : List Expr} {kk : Nat} {tpos : Pos} {a b z TI TO i1 i2 : Addr} (D : ZipApart z TI TO i1 i2 a b) :
    TurnH P w K (.Tuple elts kk tpos) (Itz K a b) [z, TI, TO, i1, i2] z (fun i h => IsZip h z TI TO .none ∧ IsPair h TI (.ref i1) (.ref i2) ∧ (∃ x y, IsPair h TO x y) ∧ h.IsListIter i1 a i ∧ h.IsListIter i2 b i) where
  mem := (turn_zip (P := P) (w := w) (K := K) (elts := elts) (kk := kk) (tpos := tpos) D).mem
  obj := (turn_zip (P := P) (w := w) (K := K) (elts := elts) (kk := kk) (tpos := tpos) D).obj
  keep := (turn_zip (P := P) (w := w) (K := K) (elts := elts) (kk := kk) (tpos := tpos) D).keep
  self := (turn_zip (P := P) (w := w) (K := K) (elts := elts) (kk := kk) (tpos := tpos) D).self
  item := by
    intro X hP hw hK _ i pins s σ H E I fo st go
    subst hP hw hK
    obtain ⟨hz, hTI, ⟨_, _, hTO⟩, m1, m2⟩ := st
    obtain ⟨xs, ys, x, y, gx, gy, ex, ey⟩ := go
    obtain ⟨us, rx, px, _⟩ := I.list gx
    obtain ⟨ws, ry, py, _⟩ := I.list gy
    obtain ⟨u, eu, ru⟩ := rx.get ex
    obtain ⟨v, ev, rv⟩ := ry.get ey
    have zl : z < s.heap.objs.size := Heap.lt_size hz
    refine wpAny_pyNext_zip_item D hz hTI hTO m1 m2 px.isList py.isList (x := u) (y := v) (by simpa using eu) (by simpa using ev) fun g1 z1 t1 n1 n2 tu sz kp => ?_
    refine ⟨_, rfl, wpAny_letOwnedTupleGo_zip (s := { s with heap := g1 }) z1 fun g2 z2 sb => ?_⟩
    have tu2 : g2.get? s.heap.objs.size = some { cls := .type "tuple", data := .seq #[u, v] } := (sb.2 _ (Nat.ne_of_gt zl)).trans tu
    have all : ∀ y o, y ∉ [z, TI, TO, i1, i2] → s.heap.get? y = some o → g2.get? y = some o := fun y o nb q => by
      simp only [List.mem_cons, List.not_mem_nil, or_false, not_or] at nb
      exact (sb.2 y nb.1).trans (kp y o nb.1 nb.2.2.1 nb.2.2.2.1 nb.2.2.2.2 q)
    have J : Inv X pins σ (upd H s.heap.objs.size (.tup [x, y])) { s with heap := g2 } :=
      I.turnedNew (t' := s.toks) (ch := [z, TI, TO, i1, i2]) all fo (Nat.le_refl _) ⟨by show 2 ≤ sizeLine; decide, [u, v], .cons ru (.cons rv .nil), ⟨_, tu2, rfl, _, rfl⟩⟩
    refine ⟨.ref s.heap.objs.size, _, J, rfl, ⟨_, x, y, rfl, I.hok.fresh (Nat.le_refl _), rfl, fun l hl => by rw [I.list_inj hl gx]; exact ex, fun l hl => by rw [I.list_inj hl gy]; exact ey⟩,
      ⟨z2, (sb.2 _ D.TIz).trans (kp _ _ D.TIz D.TITO D.TIi1 D.TIi2 hTI), ⟨u, v, (sb.2 _ D.TOz).trans t1⟩, n1.at fun o q => (sb.2 _ D.i1z).trans q, n2.at fun o q => (sb.2 _ D.i2z).trans q⟩, fun y hy => ?_⟩
    have yl : y < s.heap.objs.size := by
      simp only [List.mem_cons, List.not_mem_nil, or_false] at hy
      rcases hy with q | q | q | q | q <;> rw [q]
      · exact zl
      · exact Heap.lt_size hTI
      · exact Heap.lt_size hTO
      · exact m1.elim fun _ q => Heap.lt_size q.1
      · exact m2.elim fun _ q => Heap.lt_size q.1
    rw [upd_ne (Nat.ne_of_lt yl)]
    exact (fo y hy).1
  done := by
    intro X hP hw hK hc i pins s σ H E I fo st go
    subst hP hw hK
    obtain ⟨hz, hTI, ⟨_, _, hTO⟩, m1, m2⟩ := st
    obtain ⟨xs, ys, gx, gy, en⟩ := go
    obtain ⟨us, rx, px, _⟩ := I.list gx
    obtain ⟨ws, ry, py, _⟩ := I.list gy
    obtain ⟨x1, hot⟩ := hc.at I
    have e1 := rx.length
    have e2 := ry.length
    refine zip_done_hot hot D hz hTI hTO m1 m2 px.isList py.isList (en.imp (fun q => by simp; omega) fun q => by simp; omega) fun g kp => ⟨rfl, ?_⟩
    refine I.turnedL (t' := s.toks) (ch := [z, TI, TO, i1, i2]) (fun y o nb q => ?_) fo
    simp only [List.mem_cons, List.not_mem_nil, or_false, not_or] at nb
    exact kp y o nb.1 nb.2.2.1 nb.2.2.2.1 nb.2.2.2.2 q
theorem pi_zipHot {X : Cx} {e e2 : Expr} {ta : TA} {p pos tpos : Pos} {elts : List Expr} {kk : Nat} (hg : Gl X "zip") (hm : X.mg "zip" = none) (ha : PA X [e, e2] ta)
    (hs : starEach [e, e2] X.env = (false, eval e X.env) :: starEach [e2] X.env := by rfl) (hpl : (backTo pos (starEach [e2] X.env)).any (·.1) = false := by rfl) :
    PIH X (.Tuple elts kk tpos) (.Call (.Name "zip" p) [e, e2] [] pos) (iZip X.K ta) := by
  refine ⟨fun pins s σ H R I h => ?_⟩
  refine Call_ (ld_blt I hg hm PyProof.Rows.boot_zip (PyProof.Rows.callWith_type1 (thn (ha.run pos pins s σ H _ I h) fun us s1 ⟨vs, H1, I1, r1, q1⟩ => ?_) hs hpl))
  obtain ⟨a, b, xs, ys, rfl, gx, gy, q⟩ := q1
  obtain ⟨ua, ub, rfl, ra, rb⟩ : ∃ ua ub, us = [ua, ub] ∧ RelV (.ref a) ua ∧ RelV (.ref b) ub := by
    cases r1 with
    | cons r rr => cases rr with
      | cons r' rr => cases rr; exact ⟨_, _, rfl, r, r'⟩
  cases ra
  cases rb
  obtain ⟨_, _, px, _⟩ := I1.list gx
  obtain ⟨_, _, py, _⟩ := I1.list gy
  refine call_zip_2 px.isList py.isList fun g hz hTI hTO m1 m2 sz kp => wpAny_pyIter_zip hz ?_
  refine ⟨s1.heap.objs.size + 4, [s1.heap.objs.size + 4, s1.heap.objs.size + 2, s1.heap.objs.size + 3, s1.heap.objs.size, s1.heap.objs.size + 1], _, _, H1, rfl, I1.kept (t' := s1.toks) kp, turn_zipHot (PySem.W.ktu_apart s1.heap.objs.size a b px.lt py.lt), ⟨hz, hTI, ⟨_, _, hTO⟩, m1, m2⟩, fun y hy => ?_, q⟩
  have le : s1.heap.objs.size ≤ y := by
    simp only [List.mem_cons, List.not_mem_nil, or_false] at hy
    rcases hy with q | q | q | q | q <;> rw [q] <;> omega
  exact I1.fpOk le (I1.hok.fresh le)
theorem pg_tupHot {X : Cx} {es : List Expr} {k : Nat} {pos : Pos} {t : TGs} {n : Nat} (hc : HotC X) (h : PGs X es t) (hn : (assignEach es X.env).length = n := by rfl) (hst : (assignEach es X.env).findIdx? (·.1) = none := by rfl) :
    PG X (.Tuple es k pos) (gTup X.K n t) := by
  refine ⟨fun pins s σ H v u Q I r hw => ?_⟩
  obtain ⟨a, xs, rfl, q, hl, hw⟩ := hw
  cases r
  obtain ⟨us, rv, ht, _⟩ := I.tuple q
  obtain ⟨x1, hot⟩ := hc.at I
  refine tup_apart_hot hot ht (by simp [hn, ← hl, rv.length]) hst fun g kp => ?_
  exact h.run pins _ σ H xs _ Q (I.kept (t' := s.toks) fun y o e => kp y o (Nat.ne_of_lt (Heap.lt_size e)) e) (by simpa using rv) hw
/-- a comprehension's block that bears the pin of the handled exception -/
abbrev blkH (X : Cx) (p : Addr × Obj) (s : Shared) (H : Hp) (scope : Scope) (cenv : Env) (fp : List Addr) : Cx := { X.blk s H scope cenv fp with pn := [p] }
theorem hot_blk {X : Cx} {p : Addr × Obj} {s : Shared} {H : Hp} {scope : Scope} {cenv : Env} {fp : List Addr} (h : Hot1 X.A p) : HotC (blkH X p s H scope cenv fp) := ⟨p, h, List.mem_cons_self⟩
theorem blk_startH {X : Cx} {pins : List (Addr × Obj)} {σ : L2.St} {H : Hp} {s : Shared} {scope : Scope} {own : List (Str × Nat)} {fp : List Addr} {p : Addr × Obj} (hp : p ∈ X.pn) (I : Inv X pins σ H s) (ok : BlkOk X.N X.env.scope scope own) (hN : X.N.Nodup)
    (hfp : ∀ b ∈ fp, FpOk X pins H b ∧ b < s.heap.objs.size) :
    Inv (blkH X p s H scope (compEnvC scope (cellsFrom (s.heap.objs.size + 1) scope.names (cloFrom X.env.cells scope.names [])) s.heap.objs.size X.env) fp) [] (wipe σ (own.map (·.2))) H { s with heap := pushCells (s.heap.push { cls := .type "dict", data := .dict #[] }) scope.names } := by
  have J := block_start I ok hN hfp
  have k := J.ok
  refine ⟨⟨k.mod, k.kind, k.glob, k.blt, k.above, k.inj, k.has, k.cab, k.hd, k.frames, k.stk, k.exf, k.bs, k.bsz, k.noex, k.exfs, k.funs, k.frf⟩, J.os, J.bare, J.base, J.loc, J.cell, J.free, J.freeC, fun q hq => ?_, J.hok, J.len⟩
  have eq : q = p := by simpa using (show q ∈ [p] ++ ([] : List (Addr × Obj)) from hq)
  rw [eq]
  have pk := I.pin p (List.mem_append_left _ hp)
  exact ⟨pushCells_keeps _ _ _ _ (Heap.get?_push_of_some _ pk.1), pk.2.1, Nat.ne_of_lt (Heap.lt_size pk.1), fun hm => (List.mem_cons.mp (I.stkSub p.1 hm)).elim pk.2.2.1 pk.2.2.2.1, pk.2.2.2.2⟩
theorem pe_lcHot {X : Cx} {elt tg iter : Expr} {ifs : List Expr} {scope : Scope} {own : List (Str × Nat)} {pos : Pos} {wi : TI} {g : TG} {tt : TT} {te : TE} (hc : HotC X) (hN : X.N.Nodup) (hi : PIH X tg iter wi) (ok : BlkOk X.N X.env.scope scope own)
    (hg : ∀ (p : Addr × Obj) (s : Shared) (H : Hp) (C : Addr) (cl : List (Str × Addr)) (fp : List Addr), Hot1 X.A p → PG (blkH X p s H scope (compEnvC scope cl C X.env) fp) tg g)
    (ht : ∀ (p : Addr × Obj) (s : Shared) (H : Hp) (C : Addr) (cl : List (Str × Addr)) (fp : List Addr), Hot1 X.A p → PTs (blkH X p s H scope (compEnvC scope cl C X.env) fp) ifs tt)
    (he : ∀ (p : Addr × Obj) (s : Shared) (H : Hp) (C : Addr) (cl : List (Str × Addr)) (fp : List Addr), Hot1 X.A p → PE (blkH X p s H scope (compEnvC scope cl C X.env) fp) elt te) (hs : ∀ x, foldedSetIterable iter X.env x = pure x := by intro _; rfl) :
    PE X (.ListComp elt [⟨tg, iter, ifs, 0⟩] scope pos) (tLc wi g tt te (own.map (·.2))) := by
  refine ⟨fun pins s σ H Q I h => ?_⟩
  obtain ⟨p, hot, hp⟩ := id hc
  rw [eval_ListComp]
  have free : ∀ y ∈ scope.names, y.2 = .free → ∃ c, X.env.cells.lookup y.1 = some c := fun y hy e => I.ok.has _ (ok.free y hy e)
  refine wpAny_comprehension_free rfl hs (closure_ok free) ok.kind (fun y hy e => by rw [ok.uniq y hy, e]) (thn (hi.run pins s σ H _ I h) fun xv s1 hx => thn hx fun itv s2 hh => ?_)
  obtain ⟨it, fp, tn, J, H2, rfl, I2, T, st2, f2, q⟩ := hh
  refine wpAny_newObj_type (newEnv_comp ?_) (by show 0 ≤ sizeLine; decide)
  generalize hD : s2.heap.objs.size = D
  obtain ⟨W, ⟨m0, w0⟩, turn⟩ := q D (I2.hok.fresh (Nat.le_of_eq hD))
  generalize hs3 : ({ s2 with heap := s2.heap.push { cls := .type "list", data := .seq ([] : List Value).toArray } } : Shared) = s3
  have h3 : s3.heap = s2.heap.push { cls := .type "list", data := .seq ([] : List Value).toArray } := by rw [← hs3]
  have I3 : Inv X pins σ (upd H2 D (.lst [])) s3 := by
    rw [← hs3]
    refine I2.laid (t' := s2.toks) (fun b o e => Heap.get?_push_of_some _ e) (Nat.le_of_eq hD) ⟨Nat.zero_le _, [], 0, .nil, ?_⟩
    rw [← hD]
    exact Heap.get?_push_size _ rfl
  have f3 : ∀ b ∈ fp, FpOk X pins (upd H2 D (.lst [])) b ∧ b < s3.heap.objs.size := fun b hb => by
    obtain ⟨o, e, _⟩ := T.obj _ _ st2 b hb
    have hl := Heap.lt_size e
    refine ⟨⟨?_, (f2 b hb).2⟩, by rw [h3, Heap.size_push]; exact Nat.lt_succ_of_lt hl⟩
    rw [upd_ne (by rw [← hD]; exact Nat.ne_of_lt hl)]
    exact (f2 b hb).1
  have st3 : tn 0 s3.heap := T.keep _ _ _ st2 fun b _ o e => by rw [h3]; exact Heap.get?_push_of_some _ e
  have I4 := blk_startH hp I3 ok hN f3
  have pg := hg p s3 (upd H2 D (.lst [])) s3.heap.objs.size (cellsFrom (s3.heap.objs.size + 1) scope.names (cloFrom X.env.cells scope.names [])) fp hot
  have pt := ht p s3 (upd H2 D (.lst [])) s3.heap.objs.size (cellsFrom (s3.heap.objs.size + 1) scope.names (cloFrom X.env.cells scope.names [])) fp hot
  have pe := he p s3 (upd H2 D (.lst [])) s3.heap.objs.size (cellsFrom (s3.heap.objs.size + 1) scope.names (cloFrom X.env.cells scope.names [])) fp hot
  generalize hce : compEnvC scope (cellsFrom (s3.heap.objs.size + 1) scope.names (cloFrom X.env.cells scope.names [])) s3.heap.objs.size X.env = ce at I4 pg pt pe
  have cL : ce.locals = s3.heap.objs.size := by subst hce; rfl
  have key : codeAny (model X.prog X.w) X.A (.compStart (.ListComp elt [⟨tg, iter, ifs, 0⟩] scope pos) 0 (.ref it) (.ref D) ce) (compPost (model X.prog X.w) X.A X.xe none (EP X pins σ Q) (.ref D) s3.heap.objs.size) { s3 with heap := pushCells (s3.heap.push { cls := .type "dict", data := .dict #[] }) scope.names } := by
    have nfp : ∀ b ∈ fp, (upd H2 D (.lst [])) b = none := fun b hb => (f3 b hb).1.1
    generalize hH3 : upd H2 D (.lst []) = H3 at I3 I4 pg pt pe w0 nfp f3
    generalize hs4 : ({ s3 with heap := pushCells (s3.heap.push { cls := .type "dict", data := .dict #[] }) scope.names } : Shared) = s4 at I4 ⊢
    have st4 : tn 0 s4.heap := T.keep _ _ _ st3 fun b _ o e => by rw [← hs4]; exact pushCells_keeps _ _ _ _ (Heap.get?_push_of_some _ e)
    have hB : HotC (blkH X p s3 H3 scope ce fp) := hot_blk hot
    have stat : ∀ {σ' : L2.St} {H' : Hp} {s' : Shared}, Inv (blkH X p s3 H3 scope ce fp) [] σ' H' s' → (∀ b ∈ fp, H' b = none) → ∀ b ∈ fp, FpOk (blkH X p s3 H3 scope ce fp) [] H' b := fun {σ' H' s'} J' hn b hb =>
      ⟨hn b hb, (J'.ok.exf b hb).1, J'.ok.exfs b hb, .inl hb, fun x c e => (J'.ok.exf b hb).2 x c e, fun q hq => by
        have eq : q = p := by simpa using (show q ∈ [p] ++ ([] : List (Addr × Obj)) from hq)
        rw [eq]
        exact (f3 b hb).1.2.2.2.2.2 p (List.mem_append_left _ hp)⟩
    have loop : codeAny (model X.prog X.w) X.A (.compLoop (.ListComp elt [⟨tg, iter, ifs, 0⟩] scope pos) 0 (.ref it) (.ref D) ce) (compPost (model X.prog X.w) X.A X.xe none (EP X pins σ Q) (.ref D) s3.heap.objs.size) s4 := by
      refine compLoop_any (fun n s' => ∃ i H', Inv (blkH X p s3 H3 scope ce fp) [] (wipe σ (own.map (·.2))) H' s' ∧ tn i s'.heap ∧ (∀ b ∈ fp, H' b = none) ∧ W i n H') ?_ m0 ⟨0, H3, I4, st4, nfp, w0⟩
      rintro n s5 ⟨i, H5, I5, st5, n5, w5⟩
      rcases turn i n H5 w5 with ⟨stop, qq⟩ | ⟨go, Nx, hNx, step⟩
      · refine thnF (T.done (blkH X p s3 H3 scope ce fp) rfl rfl rfl hB i [] s5 _ H5 (fun _ _ => False) I5 (stat I5 n5) st5 stop) fun r s6 ⟨hr, I6⟩ => ?_
        subst hr
        have I7 : Inv X pins σ H5 s6 := I3.call' (ch := fp) I6.os I6.base I6.hok I6.bare fun b hb => ⟨(f3 b hb).1.2.2.2.1, (f3 b hb).1.2.1, (f3 b hb).1.2.2.2.2.1, (f3 b hb).1.2.2.2.2.2⟩
        have nC : H5 s3.heap.objs.size = none := by rw [← cL]; exact I6.free
        obtain ⟨m, hn, _⟩ := I6.loc
        have hn : s6.heap.Ns ce.locals m := hn
        rw [cL] at hn
        refine ⟨m, hn, fun g6 sb => ?_⟩
        obtain ⟨a0, a1, a2, a3, a4, a5⟩ := I3.fpOk (Nat.le_refl _) nC
        exact ⟨.ref D, H5, I7.turned (t' := s6.toks) (fun b o hb e => (sb.2 b hb).trans e) a0 a1 a3 a4 a5, rfl, qq⟩
      · refine thnF (T.item (blkH X p s3 H3 scope ce fp) rfl rfl rfl hB i [] s5 _ H5 (fun _ _ => False) I5 (stat I5 n5) st5 go) fun r s6 ⟨u, hr, h6⟩ => ?_
        subst hr
        refine thnF h6 fun _ s7 ⟨x, H7, I7, r7, y7, st7, n7⟩ => ?_
        refine thnF (pg.run _ s7 _ H7 x u _ (I7.pinned (stat I7 n7) (T.obj _ _ st7)) r7 (step x H7 y7)) fun _ s8 ⟨σ8, H8, I8, hw8, q8⟩ => ?_
        refine thnF (pt.run _ s8 σ8 H8 _ I8 q8) fun b s9 ⟨H9, I9, q9⟩ => ?_
        have fin : ∀ {s' : Shared} {H' : Hp}, Inv (blkH X p s3 H3 scope ce fp) ([] ++ pinsAt fp s7.heap) σ8 H' s' → Nx H' → ∃ m, m < n ∧ ∃ i H', Inv (blkH X p s3 H3 scope ce fp) [] (wipe σ (own.map (·.2))) H' s' ∧ tn i s'.heap ∧ (∀ b ∈ fp, H' b = none) ∧ W i m H' := fun {s' H'} J' nx => by
          obtain ⟨m', hm, w'⟩ := hNx H' nx
          have hl : (wipe σ (own.map (·.2))).length = σ8.length := by rw [← hw8, wipe_length]
          have at7 : ∀ b ∈ fp, ∀ o, s7.heap.get? b = some o → s'.heap.get? b = some o ∧ H' b = none := fun b hb o e =>
            let z := J'.pin (b, o) (List.mem_append_right _ (List.mem_append_right _ (mem_pinsAt hb e)))
            ⟨z.1, z.2.1⟩
          refine ⟨m', hm, i + 1, H', (J'.unpinned (pins := [])).weak hl (fun j v e => ?_), T.keep _ _ _ st7 fun b hb o e => (at7 b hb o e).1, fun b hb => ?_, w'⟩
          · rw [← hw8] at e
            exact (wipe_some e).1
          · obtain ⟨o, e, _⟩ := T.obj _ _ st7 b hb
            exact (at7 b hb o e).2
        cases b with
        | false =>
          simp only [Bool.false_eq_true, if_false] at q9 ⊢
          exact fin I9 q9
        | true =>
          simp only [if_true] at q9 ⊢
          refine thnF (pe.run _ s9 σ8 H9 _ I9 q9) fun z s10 ⟨yv, H10, I10, r10, acc, hD10, hz10, nx⟩ => ?_
          exact app_ok (X := blkH X p s3 H3 scope ce fp) I10 hD10 hz10 r10 fun s11 I11 => fin I11 nx
    exact codeAny_compStart_list loop (T.self X.A 0 _ _ _ st4 loop)
  subst hce
  exact key
end Hz
/-! An own error raised, its context None. -/
namespace PySem
namespace ChgX
open PySem.W PySem.Calls PyProof.Rows PySem.HandSPX
section
variable {prog : Program} {w : World} {A : Around} {E : Value → Shared → Prop} {R : Result → Shared → Prop} {s : Shared} {K : Frag} {mg mb : Str → Option Value} {nm : Str} {C fI : Addr}
theorem src_madeN (T : ChgTxt prog K mg nm C fI) {v : Int} {tv : Tok} (hv : v.natAbs.log2 < 1920) (X : K.In s.heap) (hlim : s.heap.NoLimit) (hg : s.heap.Ns mainGlobals mg) (hb : s.heap.Ns builtinsNs mb) (hmb : mb "super" = some (.type "super")) (hroom : A.depth + 1 < recursionLimit)
    (hq : ∀ h' tk e d, OwnMade s.heap h' e C d (.int v tv) → (∀ oe, h'.get? e = some oe → PySem.PXN.CtxN oe) → R (.ok (.ret (.ref e))) { s with heap := h', toks := tk }) :
    codeAny (model prog w) A (.call (.ref C) ⟨[.int v tv], []⟩) R s := by
  obtain ⟨nm, q, N, bs, bm, sn, sub, ab, col, dd, k0, k1, k2, k3, k5, hC, hbm⟩ := T.cls
  obtain ⟨hp, g, dr, tk, os⟩ := s
  have k : ∀ b o, hp.get? b = some o → ((hp.push (kdv_tup [.int v tv])).push (excO C hp.objs.size)).get? b = some o := fun b o e => Heap.get?_push_of_some _ (Heap.get?_push_of_some _ e)
  have hget : ((hp.push (kdv_tup [.int v tv])).push (excO C hp.objs.size)).get? (hp.objs.size + 1) = some (excO C hp.objs.size) := by heap_get
  have hnx : K.lookup (hp.objs.size + 1) = none := by
    cases e : K.lookup (hp.objs.size + 1) with
    | none => rfl
    | some o =>
      have z : hp.get? (hp.objs.size + 1) = some o := X _ _ e
      exact absurd (Nat.lt_of_succ_lt (Heap.lt_size z)) (Nat.lt_irrefl _)
  refine call_own F.excBase_ValueError (fun X => refsVE_contains X bm hbm) (X _ _ hC) (looks_findIn X T.iC) (fun self => bind_fn X self T.tC) (one_size _) ?_
  refine src_init (s := ⟨(hp.push (kdv_tup [.int v tv])).push (excO C hp.objs.size), g, dr, tk, os⟩) T hv (X.keeps k) (hlim.keeps k) (hg.keeps k) (hb.keeps k) hmb hget hnx ?_ fun h' tk' dx t1 ⟨k', hx, dn, dne, hns⟩ => ?_
  · show A.depth + 1 < recursionLimit
    exact hroom
  · have old : ∀ b o, hp.get? b = some o → h'.get? b = some o := fun b o e => k' b o (Nat.ne_of_lt (Nat.lt_succ_of_lt (Heap.lt_size e))) (k b o e)
    have z : hp.objs.size + 1 + 1 ≤ dx := by
      first
        | (simpa only [Heap.size_push] using dn)
        | exact dn
        | (have q := dn; rw [Heap.size_push, Heap.size_push] at q; exact q)
    exact ⟨rfl, hq h' tk' (hp.objs.size + 1) dx ⟨old, Nat.le_succ _, ⟨_, _, hx, rfl, rfl, rfl, rfl⟩, Nat.le_trans (Nat.le_trans (Nat.le_succ _) (Nat.le_succ _)) z, dne, hns⟩ fun oe q => by rw [hx] at q; cases q; intro vs e; cases e; rfl⟩
end
end ChgX
end PySem
namespace L2
open PySem PySem.Spec PyProof.Rows
section
variable {X : Cx} {C fI : Addr} {nm : Str}
theorem pmk_chgN {a : Expr} {ta : TA} {p pos : Pos} {k : Nat} (T : PySem.ChgX.ChgTxt X.prog X.K X.mg nm C fI) (hr : Room k X.A) (ha : PA X [a] ta) (hg : Gl X nm := by rfl) (hdb : (nm == ("__debug__" : Str)) = false := by decide)
    (he : starEach (a :: []) X.env = (false, eval a X.env) :: starEach [] X.env := by rfl) (hpl : (backTo pos (starEach [] X.env)).any (·.1) = false := by rfl) :
    L2N.PMk X (.Call (.Name nm p) [a] [] pos) (tMkChg C ta) := by
  intro pins s σ H Q I h
  refine wpAny_Call_Name_kw (ld_glob I hg T.gC ?_ hdb)
  refine PySem.W.callWith_K (h₀ := X.base) I.ok.mod.kin T.kC (thn (ha.run pos pins s σ H _ I h) fun us s1 hh => ?_) he hpl
  obtain ⟨vs, H1, I1, r1, v, ev, hv, q1⟩ := hh
  subst ev
  refine ⟨I1.kIn, ?_⟩
  cases r1 with
  | cons rv rn =>
    rename_i v' us'
    cases rn
    obtain ⟨tv, rfl⟩ := rv
    show wpAny _ _ (call (.ref C) [.int v tv]) _ _ _
    have hlim := I1.nolimit
    obtain ⟨mb, hb, hmb⟩ := I1.mod.blt
    have hb1 := hb.keeps I1.bk
    have hg1 := I1.mod.glob.keeps I1.bk
    have hsup : mb "super" = some (.type "super") := (hmb _ (by decide)).trans (by decide +kernel)
    obtain ⟨hp, g, dr, tk, os⟩ := s1
    refine wpAny_call (PySem.ChgX.src_madeN T hv I1.kIn hlim hg1 hb1 hsup (by have := hr.dp; omega) fun h' tk' e d M hN => ?_)
    show L2N.MkP X pins σ Q (.ref e) ⟨h', g, dr, tk', os⟩
    obtain ⟨oe, fv, hoe, hc, hd, hdat, h1⟩ := M.obj
    have hns := M.ns
    obtain ⟨G', g1, g2⟩ := restrict h' fun b => decide (b ≠ e)
    have gk : ∀ b, b ≠ e → G'.get? b = h'.get? b := fun b hb => g1 b (decide_eq_true hb)
    have ge : G'.get? e = none := g2 e (by simp)
    have old : ∀ b o, hp.get? b = some o → G'.get? b = some o := fun b o q => (gk b (Nat.ne_of_lt (Nat.lt_of_lt_of_le (Heap.lt_size q) M.new))).trans (M.keep b o q)
    have ob : ObjOk X.prog X.w (upd H1 d (.xd [(("at" : Str), .int v)])) G' d (.xd [(("at" : Str), .int v)]) :=
      ⟨_, hns.at (fun o q => (gk d M.dne).trans q), fun f => relO_chg (v := .int v) (v' := .int v tv) ⟨tv, rfl⟩ f⟩
    have J : Inv X pins σ (upd H1 d (.xd [(("at" : Str), .int v)])) ⟨G', g, dr, tk', os⟩ := I1.laid (t' := tk') old M.dbig ob
    refine ⟨e, oe, fv, ⟨G', g, dr, tk', os⟩, _, .ref C, some d, rfl, J, fun b o q => ?_, ge, hoe, ⟨hc, hd, hN oe hoe⟩, hdat, h1, ?_, rfl, I1.bare, raises_own T.exC T.tyC, q1 d (I1.hok.fresh M.dbig)⟩
    · by_cases hb : b = e
      · have q' : G'.get? b = some o := q
        rw [hb, ge] at q'; cases q'
      · exact (gk b hb).symm.trans q
    · rw [upd_ne (Ne.symm M.dne)]
      exact I1.hok.fresh M.new
theorem ps_raiseChgN {a : Expr} {ta : TA} {W : WX} {p pos pos2 : Pos} {k : Nat} (hc : X.calm = true) (T : PySem.ChgX.ChgTxt X.prog X.K X.mg nm C fI) (hr : Room k X.A) (tk : L2N.Takes X W) (ha : PA X [a] ta) (hg : Gl X nm := by rfl) (hdb : (nm == ("__debug__" : Str)) = false := by decide)
    (he : starEach (a :: []) X.env = (false, eval a X.env) :: starEach [] X.env := by rfl) (hpl : (backTo pos (starEach [] X.env)).any (·.1) = false := by rfl) :
    PS X (.Raise (some (.Call (.Name nm p) [a] [] pos)) none pos2) (tRaiseChg C W ta) := L2N.ps_raise hc tk (pmk_chgN T hr ha hg hdb he hpl)
end
end L2
namespace HdU
open PySem PySem.W PySem.Calls PySem.Spec PyProof.Rows L2
def nm0 : List Str := ["_wall", "__name__", "Places", "Instance", "Block", "NOT_A_TRUTH", "WRONG_KIND", "BY_NOTHING", "TOO_LARGE", "NO_GLOBAL", "NO_SLOT", "LivesteadError", "SourceError", "NameTwice", "ChangeRefused", "TaskError", "WORDS", "MARKS", "SMALL", "CAPITAL", "DIGITS", "QUOTE", "PERCENT", "LONGEST_NAME", "LONGEST_TEXT", "GREATEST_NUMBER", "MOST_DIGITS", "tokenize", "_token_at", "_end_of_text"]
def nm1 : List Str := ["_is_source_character", "_is_letter_or_digit", "_end_of_run", "_token_of_run", "_number_of", "_mark_at", "operate", "change_sign", "turn_round", "is_truth", "is_object", "_are_equal", "_is_number", "_with_numbers", "_calculated", "_with_texts", "place_of", "compile_method", "Coder", "DEEPEST", "MOST_PARAMETERS", "MOST_VARIABLES", "MOST_BLOCK_PARAMETERS", "MOST_ARGUMENTS", "LOOSEST", "COMPARING", "TIGHTEST", "LEVELS_BEHIND", "LEVELS_AHEAD", "TREES_AHEAD"]
def nm2 : List Str := ["PLAIN", "read_method", "_can_go_on", "Reader", "THING", "MOST_SLOTS", "MOST_CLASSES", "selector_of", "entry_of", "change_of", "Definition", "Definitions", "LEADING", "FINAL", "SILENT", "optimize", "_settled", "_chosen", "_moved", "_straight", "_reached", "_needed", "_targets", "_folded", "_operands", "_result", "_shortened", "_without", "_thrown_away", "Part"]
def nm3 : List Str := ["program_of", "source_of_body", "RUNNING", "Frame", "Task", "begin", "_enter_method", "MOST_CHANGES", "NO_CHANGE", "Journal", "World", "Image", "_law_state", "_law_draw", "_law_words", "_law_run", "_law_name", "_law_class", "_law_made", "_law_of_slots", "_law_of_classes", "_law_of_changes"]
def nms : List Str := nm0 ++ nm1 ++ nm2 ++ nm3
abbrev R : PySem.W.OpenRow := PySem.W.OpenLaw.row PySem.Challenge.rw_livestead_k43_bounds_of_definitions
def top (i : Nat) : Stmt := PySem.Challenge.pw_livestead_k43_bounds_of_definitions.main.body.getD i (.Pass ⟨0, 0, 0, 0⟩)
def pls0 : List Addr := [3, 2, 713, 712, 720, 719, 1447, 1446, 1454, 1453, 1461, 1460, 1468, 1467, 1475, 1474, 1482, 1481, 1489, 1488, 1494, 1493, 1501, 1500, 1508, 1507, 1515, 1514, 737, 736, 822, 821, 1148, 1147, 1260, 1259, 1436, 1435, 165, 164]
def pls1 : List Addr := [101, 100, 734, 733, 755, 754, 762, 761, 769, 768, 776, 775, 790, 789, 795, 794, 802, 801, 807, 806, 812, 811, 819, 818, 1086, 1085, 1093, 1092, 1098, 1097, 1131, 1130, 1124, 1123, 1103, 1102, 1166, 1165, 1278, 1277]
def pls2 : List Addr := [1285, 1284, 1292, 1291, 1313, 1312, 1320, 1319, 1334, 1333, 1433, 1432, 162, 161, 150]
def pls : List Addr := pls0 ++ pls1 ++ pls2
def fas0 : List He.Fa := [.glo "entry_of", .glo "change_of", .glo "_law_state", .glo "_law_draw", .glo "_law_words", .glo "_law_run", .glo "_law_name", .glo "_law_class", .glo "_law_made", .glo "_law_of_slots", .glo "_law_of_classes", .glo "_law_of_changes", .glo "law", .glo "Definition", .glo "Definitions", .glo "Journal", .glo "World", .glo "Image", .free "len", .free "int"]
def fas1 : List He.Fa := [.free "list", .free "range", .free "max", .free "str", .free "isinstance", .free "bool", .free "ord", .free "tuple", .free "enumerate", .free "min", .free "abs", .free "all", .free "any", .free "sorted", .free "sum", .free "zip", .free "set", .int "MOST_SLOTS" (8), .int "MOST_CLASSES" (20), .int "MOST_CHANGES" (60)]
def fas2 : List He.Fa := [.int "NO_CHANGE" (-1), .str "THING" "Thing", .cls "Definition", .keep "Definition", .noat "Definition" "base", .noat "Definition" "slots", .noat "Definition" "texts", .mkr "Definition", .cls "Definitions", .keep "Definitions", .noat "Definitions" "known", .mkr "Definitions", .meth "Definitions" "line", .meth "Definitions" "all_slots", .meth "Definitions" "has_slot", .meth "Definitions" "refuses", .meth "Definitions" "refuses_class", .meth "Definitions" "refuses_slot", .meth "Definitions" "has_class_below", .meth "Definitions" "is_slot_below"]
def fas3 : List He.Fa := [.meth "Definitions" "carry_out", .cls "Journal", .keep "Journal", .noat "Journal" "entries", .noat "Journal" "in_force", .noat "Journal" "undone", .noat "Journal" "definitions", .mkr "Journal", .meth "Journal" "make", .meth "Journal" "told", .meth "Journal" "made_of", .meth "Journal" "switch", .meth "Journal" "undo", .cls "World", .keep "World", .noat "World" "journal", .noat "World" "things", .noat "World" "made", .noat "World" "calls", .noat "World" "named"]
def fas4 : List He.Fa := [.noat "World" "held", .noat "World" "task", .noat "World" "programs", .mkr "World", .cls "Image", .keep "Image", .noat "Image" "_world", .mkr "Image", .meth "Image" "make", .meth "Image" "undo", .meth "Image" "changes", .meth "Image" "classes", .meth "Image" "slots_of", .meth "Image" "_known"]
def fas : List He.Fa := fas0 ++ fas1 ++ fas2 ++ fas3 ++ fas4
def fns0 : List He.DefD := [⟨("entry_of", none), "entry_of", "entry_of", defArgs (top 75), defBody (top 75), defScope (top 75), [], []⟩, ⟨("change_of", none), "change_of", "change_of", defArgs (top 76), defBody (top 76), defScope (top 76), [], []⟩, ⟨("_law_state", none), "_law_state", "_law_state", defArgs (top 117), defBody (top 117), defScope (top 117), [], []⟩, ⟨("_law_draw", none), "_law_draw", "_law_draw", defArgs (top 118), defBody (top 118), defScope (top 118), [], []⟩, ⟨("_law_words", none), "_law_words", "_law_words", defArgs (top 119), defBody (top 119), defScope (top 119), [], []⟩, ⟨("_law_run", none), "_law_run", "_law_run", defArgs (top 120), defBody (top 120), defScope (top 120), [], []⟩, ⟨("_law_name", none), "_law_name", "_law_name", defArgs (top 121), defBody (top 121), defScope (top 121), [], []⟩, ⟨("_law_class", none), "_law_class", "_law_class", defArgs (top 122), defBody (top 122), defScope (top 122), [], []⟩, ⟨("_law_made", none), "_law_made", "_law_made", defArgs (top 123), defBody (top 123), defScope (top 123), [], []⟩, ⟨("_law_of_slots", none), "_law_of_slots", "_law_of_slots", defArgs (top 124), defBody (top 124), defScope (top 124), [], []⟩, ⟨("_law_of_classes", none), "_law_of_classes", "_law_of_classes", defArgs (top 125), defBody (top 125), defScope (top 125), [], []⟩, ⟨("_law_of_changes", none), "_law_of_changes", "_law_of_changes", defArgs (top 126), defBody (top 126), defScope (top 126), [], []⟩, ⟨("law", none), "law", "law", defArgs (top 127), defBody (top 127), defScope (top 127), [], []⟩, ⟨("Definition", some "__init__"), "__init__", "Definition.__init__", defArgs (inClass (top 77) 0), defBody (inClass (top 77) 0), defScope (inClass (top 77) 0), [], []⟩, ⟨("Definitions", some "__init__"), "__init__", "Definitions.__init__", defArgs (inClass (top 78) 0), defBody (inClass (top 78) 0), defScope (inClass (top 78) 0), [], []⟩, ⟨("Definitions", some "line"), "line", "Definitions.line", defArgs (inClass (top 78) 1), defBody (inClass (top 78) 1), defScope (inClass (top 78) 1), [], []⟩, ⟨("Definitions", some "all_slots"), "all_slots", "Definitions.all_slots", defArgs (inClass (top 78) 2), defBody (inClass (top 78) 2), defScope (inClass (top 78) 2), [], []⟩, ⟨("Definitions", some "has_slot"), "has_slot", "Definitions.has_slot", defArgs (inClass (top 78) 3), defBody (inClass (top 78) 3), defScope (inClass (top 78) 3), [], []⟩, ⟨("Definitions", some "refuses"), "refuses", "Definitions.refuses", defArgs (inClass (top 78) 5), defBody (inClass (top 78) 5), defScope (inClass (top 78) 5), [], []⟩, ⟨("Definitions", some "refuses_class"), "refuses_class", "Definitions.refuses_class", defArgs (inClass (top 78) 6), defBody (inClass (top 78) 6), defScope (inClass (top 78) 6), [], []⟩]
def fns1 : List He.DefD := [⟨("Definitions", some "refuses_slot"), "refuses_slot", "Definitions.refuses_slot", defArgs (inClass (top 78) 7), defBody (inClass (top 78) 7), defScope (inClass (top 78) 7), [], []⟩, ⟨("Definitions", some "has_class_below"), "has_class_below", "Definitions.has_class_below", defArgs (inClass (top 78) 8), defBody (inClass (top 78) 8), defScope (inClass (top 78) 8), [], []⟩, ⟨("Definitions", some "is_slot_below"), "is_slot_below", "Definitions.is_slot_below", defArgs (inClass (top 78) 9), defBody (inClass (top 78) 9), defScope (inClass (top 78) 9), [], []⟩, ⟨("Definitions", some "carry_out"), "carry_out", "Definitions.carry_out", defArgs (inClass (top 78) 10), defBody (inClass (top 78) 10), defScope (inClass (top 78) 10), [], []⟩, ⟨("Journal", some "__init__"), "__init__", "Journal.__init__", defArgs (inClass (top 111) 0), defBody (inClass (top 111) 0), defScope (inClass (top 111) 0), [], []⟩, ⟨("Journal", some "make"), "make", "Journal.make", defArgs (inClass (top 111) 1), defBody (inClass (top 111) 1), defScope (inClass (top 111) 1), [], []⟩, ⟨("Journal", some "told"), "told", "Journal.told", defArgs (inClass (top 111) 2), defBody (inClass (top 111) 2), defScope (inClass (top 111) 2), [], []⟩, ⟨("Journal", some "made_of"), "made_of", "Journal.made_of", defArgs (inClass (top 111) 7), defBody (inClass (top 111) 7), defScope (inClass (top 111) 7), [], []⟩, ⟨("Journal", some "switch"), "switch", "Journal.switch", defArgs (inClass (top 111) 6), defBody (inClass (top 111) 6), defScope (inClass (top 111) 6), [], []⟩, ⟨("Journal", some "undo"), "undo", "Journal.undo", defArgs (inClass (top 111) 3), defBody (inClass (top 111) 3), defScope (inClass (top 111) 3), [], []⟩, ⟨("World", some "__init__"), "__init__", "World.__init__", defArgs (inClass (top 113) 0), defBody (inClass (top 113) 0), defScope (inClass (top 113) 0), [], []⟩, ⟨("Image", some "__init__"), "__init__", "Image.__init__", defArgs (inClass (top 115) 0), defBody (inClass (top 115) 0), defScope (inClass (top 115) 0), [], []⟩, ⟨("Image", some "make"), "make", "Image.make", defArgs (inClass (top 115) 1), defBody (inClass (top 115) 1), defScope (inClass (top 115) 1), [], []⟩, ⟨("Image", some "undo"), "undo", "Image.undo", defArgs (inClass (top 115) 2), defBody (inClass (top 115) 2), defScope (inClass (top 115) 2), [], []⟩, ⟨("Image", some "changes"), "changes", "Image.changes", defArgs (inClass (top 115) 5), defBody (inClass (top 115) 5), defScope (inClass (top 115) 5), [], []⟩, ⟨("Image", some "classes"), "classes", "Image.classes", defArgs (inClass (top 115) 6), defBody (inClass (top 115) 6), defScope (inClass (top 115) 6), [], []⟩, ⟨("Image", some "slots_of"), "slots_of", "Image.slots_of", defArgs (inClass (top 115) 8), defBody (inClass (top 115) 8), defScope (inClass (top 115) 8), [], []⟩, ⟨("Image", some "_known"), "_known", "Image._known", defArgs (inClass (top 115) 22), defBody (inClass (top 115) 22), defScope (inClass (top 115) 22), [], []⟩]
def fns : List He.DefD := fns0 ++ fns1
def fbs : List (PySem.W.Frag → Bool) := [HkX.excB PySem.Challenge.rw_livestead_k43_bounds_of_definitions.prog.main.file "ChangeRefused" "at"]
def tss : List He.Tab := []
def fes : List ((Str × Option Str) × HkX.FnE) := [(("ChangeRefused", some "__init__"), HkX.valOf PySem.ChgX.eA PySem.ChgX.eB PySem.ChgX.eS)]
def zs : HkX.SpY := ⟨pls, fas, fbs, fns, tss, fes⟩
abbrev hk : PySem.W.Hook := HkX.hookY zs
def ob (s : PySem.W.SharedT) : HkX.AlY := HkX.obsYG zs (HandSHeadRun.getT s)
theorem ob_eq (s : PySem.W.SharedT) : ob s = hk.obs s.abs := HkX.obsYG_eq (HandSHeadRun.getT_eq s)
abbrev qv : Program := PySem.W.view R.prog [127]
@[reducible] noncomputable def ends (w : World) (os : OsState) : Option PySem.W.SharedT := HandSHeadRun.endF (HandSHeadRun.stepQ (HandSHeadRun.denQ HandSHeadRun.tabQ) R.prog w) 12000 R.prog w os
/-- the places that are looked at -/
def frag (s : PySem.W.SharedT) : PySem.W.Frag := He.frG (HandSHeadRun.getT s) zs.pl
theorem five {α β γ δ : Type} {o : Option α} {fa fn fb : α → Bool} {g : α → β} {t : α → γ} {e : α → δ} {v : β} {x : γ} {y : δ} (h1 : o.map fa = some true) (h2 : o.map (fun s => (fn s, g s)) = some (true, v)) (h3 : o.map (fun s => (fb s, t s, e s)) = some (true, x, y)) : o.map (fun s => (((((fa s && fb s) && fn s), g s), t s), e s)) = some (((true, v), x), y) := by
  cases o with
  | none => cases h1
  | some s =>
    have e1 : fa s = true := Option.some.inj h1
    obtain ⟨e2, e3⟩ := Prod.mk.inj (Option.some.inj h2)
    obtain ⟨e4, e5⟩ := Prod.mk.inj (Option.some.inj h3)
    obtain ⟨e6, e7⟩ := Prod.mk.inj e5
    show some (((((fa s && fb s) && fn s), g s), t s), e s) = _
    rw [e1, e2, e3, e4, e6, e7]
    rfl
theorem oa0 (w : World) (os : OsState) : (ends (w.withFollow "special-get-raises" false) os).map (fun s => zs.fa.all fun f => f.ok (frag s)) = some true := by
  kernel_rfl
theorem oc0 (w : World) (os : OsState) : (ends (w.withFollow "special-get-raises" false) os).map (fun s => (zs.fn.all fun d => d.ok (frag s), zs.fn.map fun d => He.fnW (frag s) d.at_)) = some (true, zs.fn.map He.DefD.val) := by
  kernel_rfl
theorem od0 (w : World) (os : OsState) : (ends (w.withFollow "special-get-raises" false) os).map (fun s => (zs.fb.all fun f => f (frag s), zs.ts.map fun t => He.dicW (frag s) (t.1 (frag s)), zs.fe.map fun e => HkX.fnE (frag s) e.1)) = some (true, (zs.ts.map fun t => some (He.keysIn ((w.withFollow "special-get-raises" false)).params t.2)), zs.fe.map (·.2)) := by
  kernel_rfl
theorem ob0 (w : World) (os : OsState) : (ends (w.withFollow "special-get-raises" false) os).map ob = some (hk.val (w.withFollow "special-get-raises" false)) := five (oa0 w os) (oc0 w os) (od0 w os)
theorem lk0 (w : World) (os : OsState) : (ends (w.withFollow "special-get-raises" false) os).map (fun s => HandSHeadRun.looksF R.prog (boot_heap ((w.withFollow "special-get-raises" false)).params) s.abs) = some true := by
  kernel_rfl
theorem sn0 (w : World) (os : OsState) : (ends (w.withFollow "special-get-raises" false) os).map (fun s => HandSHeadRun.seenQ qv nms (importedModules R.prog.main.body) (fun s => xlAt qv [] s && recOk R.toRowW.records s) s.abs) = some (openGood qv nms) := by
  kernel_rfl
theorem oa1 (w : World) (os : OsState) : (ends (w.withFollow "special-get-raises" true) os).map (fun s => zs.fa.all fun f => f.ok (frag s)) = some true := by
  kernel_rfl
theorem oc1 (w : World) (os : OsState) : (ends (w.withFollow "special-get-raises" true) os).map (fun s => (zs.fn.all fun d => d.ok (frag s), zs.fn.map fun d => He.fnW (frag s) d.at_)) = some (true, zs.fn.map He.DefD.val) := by
  kernel_rfl
theorem od1 (w : World) (os : OsState) : (ends (w.withFollow "special-get-raises" true) os).map (fun s => (zs.fb.all fun f => f (frag s), zs.ts.map fun t => He.dicW (frag s) (t.1 (frag s)), zs.fe.map fun e => HkX.fnE (frag s) e.1)) = some (true, (zs.ts.map fun t => some (He.keysIn ((w.withFollow "special-get-raises" true)).params t.2)), zs.fe.map (·.2)) := by
  kernel_rfl
theorem ob1 (w : World) (os : OsState) : (ends (w.withFollow "special-get-raises" true) os).map ob = some (hk.val (w.withFollow "special-get-raises" true)) := five (oa1 w os) (oc1 w os) (od1 w os)
theorem lk1 (w : World) (os : OsState) : (ends (w.withFollow "special-get-raises" true) os).map (fun s => HandSHeadRun.looksF R.prog (boot_heap ((w.withFollow "special-get-raises" true)).params) s.abs) = some true := by
  kernel_rfl
theorem sn1 (w : World) (os : OsState) : (ends (w.withFollow "special-get-raises" true) os).map (fun s => HandSHeadRun.seenQ qv nms (importedModules R.prog.main.body) (fun s => xlAt qv [] s && recOk R.toRowW.records s) s.abs) = some (openGood qv nms) := by
  kernel_rfl
theorem three {α β γ δ : Type} {o : Option α} {f : α → β} {g : α → γ} {h : α → δ} {a : β} {b : γ} {c : δ} (e1 : o.map f = some a) (e2 : o.map g = some b) (e3 : o.map h = some c) : o.map (fun s => (f s, g s, h s)) = some (a, b, c) := by
  cases o with
  | none => cases e1
  | some x =>
    cases e1
    cases e2
    cases e3
    rfl
theorem run (w : World) : HandSHeadRun.RunEq R qv hk ob 12000 nms w := PySem.W.byRow2 "special-get-raises" (P := fun w => HandSHeadRun.RunEq R qv hk ob 12000 nms w) (fun w os => three (lk0 w os) (sn0 w os) (ob0 w os)) (fun w os => three (lk1 w os) (sn1 w os) (ob1 w os)) w
end HdU
/-! What the law promises. -/
namespace Lv
open PySem PySem.Spec PyProof.Rows L2
def spLaw (K : PySem.W.Frag) : Sp := fun vs H Q _ => ∃ (a : Addr) (ns : List Int), vs = [.ref a] ∧ SqL K H a (ns.map V.int) ∧ ∀ H', Q (.bl true) H'
end Lv
open PySem PySem.W PySem.Calls PyProof.Rows
/-! The law's end, what the program's defs promise given. -/
set_option maxRecDepth 100000 in
set_option maxHeartbeats 0 in
theorem HdU.early (facts : ∀ {w : World} {K : PySem.W.Frag} {h : Heap} {mg : PySem.Str → Option Value} {fa : Addr}, K.In h → h.Ns mainGlobals mg → mg ("law" : PySem.Str) = some (.ref fa) → HkX.SaysY HdU.zs w K →
    ∃ fd : FuncData, (∀ (s : Shared) (v : Value), BindsTo s fd ⟨[v], []⟩ [("script", v)]) ∧ ∀ base : Heap, K.In base → base.Ns mainGlobals mg → L2.FnOk (PySem.Challenge.rw_livestead_k43_bounds_of_definitions.prog) w K mg base L2.CX0 11 fa fd ["script"] (Lv.spLaw K)) : PySem.Challenge.rw_livestead_k43_bounds_of_definitions.Holds := by
  w_on; o_law
  refine HandSHeadRun.head_any (r := OpenLaw.row PySem.Challenge.rw_livestead_k43_bounds_of_definitions) (q := HdU.qv) (H := HdU.hk) (ob := HdU.ob) (M := 12000) (loose := HdU.nms) (d := HandSHeadRun.topDef (OpenLaw.row PySem.Challenge.rw_livestead_k43_bounds_of_definitions).prog 127) (kwd := []) HdU.ob_eq
    (by kernel_rfl) (fun s => by kernel_rfl) HdU.run (by kernel_rfl) (by kernel_rfl) (by kernel_rfl) (by rfl) (by first | assumption | decide +kernel) (by decide +kernel) ⟨rfl, rfl, rfl, rfl, rfl, by decide +kernel⟩ ?hw ?hc
  case hw => w_witness2
  case hc =>
    refine L2.walk_ofE (l := PySem.Challenge.rw_livestead_k43_bounds_of_definitions) (n := 63) (k := 11) (x := "script") (CX := L2.CX0) rfl (by decide) (by kernel_rfl) ⟨rfl, by decide, by decide⟩ ?F (fun _ _ _ _ z => z)
    intro w mg fa h Y G hmg0
    obtain ⟨K, KX, c⟩ := Y
    have hmg : mg ("law" : PySem.Str) = some (.ref fa) := by
      have e : (HandSHeadRun.topDef (OpenLaw.row PySem.Challenge.rw_livestead_k43_bounds_of_definitions).prog 127).name = ("law" : PySem.Str) := by kernel_rfl
      rw [← e]
      exact hmg0
    obtain ⟨fd, hb, hF⟩ := facts (w := w) KX G hmg c
    exact ⟨K, fd, Lv.spLaw K, KX, hb, fun H a ns hl _ hS => ⟨a, ns, rfl, hS, fun _ => rfl⟩, hF⟩
namespace Lv
open PySem PySem.Spec PyProof.Rows L2
theorem ite_g {c : Prop} [Decidable c] {a b : Prop} (h : if c then a else b) : if c then a else b := h
section
open PySem PySem.Spec PyProof.Rows L2
def topS (i : Nat) : Stmt := PySem.Challenge.pw_livestead_k43_bounds_of_definitions.main.body.getD i (.Pass ⟨0, 0, 0, 0⟩)
structure Bn (mg : Str → Option Value) : Prop where
  n_len : mg "len" = none
  n_int : mg "int" = none
  n_list : mg "list" = none
  n_range : mg "range" = none
  n_max : mg "max" = none
  n_str : mg "str" = none
  n_isinstance : mg "isinstance" = none
  n_bool : mg "bool" = none
  n_ord : mg "ord" = none
  n_tuple : mg "tuple" = none
  n_enumerate : mg "enumerate" = none
  n_min : mg "min" = none
  n_abs : mg "abs" = none
  n_all : mg "all" = none
  n_any : mg "any" = none
  n_sorted : mg "sorted" = none
  n_sum : mg "sum" = none

end
section
open PySem PySem.Spec PyProof.Rows L2
open C8 (Cal cal0 pe_c pe_gc pss_cut tCut)

end
local macro_rules | `(tactic| walk_at "r1o") => `(tactic| first
  | refine Wk0.go ?_
  | with_reducible refine w_var (by with_unfolding_all exact rfl) ?_
  | with_reducible refine w_var (by with_unfolding_all exact rfl) ?_
  | with_reducible refine w_eq (by with_unfolding_all exact rfl) ?_
  | with_reducible refine w_ne (by with_unfolding_all exact rfl) ?_
  | with_reducible refine L2.iteF ?_
  | with_reducible refine L2.iteT ?_)
local macro_rules | `(tactic| walk_at "rdo") => `(tactic| repeat walk_at "r1o")
section
open PySem PySem.Spec PyProof.Rows L2
open C8 (Cal cal0 pe_c pe_gc pss_cut tCut)

/-- the draws' state: a list of the ints, a place in it, the cell, what is left of it, a flag, what is left of the text -/
def StL (L : Addr) (i c k : Int) (b : Bool) (r : Int) : List V := [.ref L, .int i, .int c, .int k, .bl b, .int r]
def StAt (H : Hp) (S L : Addr) : Prop := ∃ (ns : List Int) (i c k : Int) (b : Bool) (r : Int), L ≠ S ∧ H L = some (.lst (ns.map V.int)) ∧ 0 ≤ i ∧ H S = some (.lst (StL L i c k b r))
theorem StAt.mono {H H' : Hp} {S L : Addr} (h : StAt H S L) (f : Same H H') : StAt H' S L := by
  obtain ⟨ns, i, c, k, b, r, h1, h2, h3, h4⟩ := h
  exact ⟨ns, i, c, k, b, r, h1, f _ _ h2, h3, f _ _ h4⟩
theorem stl_set1 {L : Addr} {i c k : Int} {b : Bool} {r z : Int} : (StL L i c k b r).set 1 (.int z) = StL L z c k b r := rfl
theorem stl_set2 {L : Addr} {i c k : Int} {b : Bool} {r z : Int} : (StL L i c k b r).set 2 (.int z) = StL L i z k b r := rfl
theorem stl_set3 {L : Addr} {i c k : Int} {b : Bool} {r z : Int} : (StL L i c k b r).set 3 (.int z) = StL L i c z b r := rfl
theorem stl_set4 {L : Addr} {i c k : Int} {b z : Bool} {r : Int} : (StL L i c k b r).set 4 (.bl z) = StL L i c k z r := rfl
theorem stl_set5 {L : Addr} {i c k : Int} {b : Bool} {r z : Int} : (StL L i c k b r).set 5 (.int z) = StL L i c k b z := rfl

theorem w_stset {H : Hp} {S : Addr} {xs : List V} {j : Int} {n : Nat} {v : V} {G : Hp → Prop} (hS : H S = some (.lst xs)) (e : ixN xs.length j = some n)
    (k : ∀ H2, H2 S = some (.lst (xs.set n v)) → Fr S H H2 → G H2) : rSetL (.ref S) (.int j) v H G := w_setL hS e (k _ upd_same Fr.own)
theorem at_ints {ns : List Int} {i : Int} (h0 : 0 ≤ i) (h1 : ¬ (ns.map V.int).length ≤ i) : ∃ z, atI (ns.map V.int) i = some (V.int z) := by
  have h2 : i.toNat < ns.length := by rw [List.length_map] at h1; omega
  obtain ⟨j, rfl⟩ : ∃ j : Nat, i = (j : Int) := ⟨i.toNat, by omega⟩
  rw [Int.toNat_natCast] at h2
  refine ⟨ns[j], atI_nat ?_⟩
  rw [List.getElem?_map, List.getElem?_eq_getElem h2]
  rfl

section
variable {P : Program} {w : World} {K : PySem.W.Frag} {mg : Str → Option Value} {base : Heap}

abbrev s_law_state : Stmt := topS 117
abbrev N_law_state : List Str := ["script"]
theorem sc_law_state : FnScope N_law_state ["script"] (defScope s_law_state) := ⟨rfl, rfl, rfl, by decide +kernel, rfl, by decide +kernel, by decide +kernel⟩
def spState (K : PySem.W.Frag) : Sp := fun vs H Q _ => ∃ (a : Addr) (ns : List Int), vs = [.ref a] ∧ SqL K H a (ns.map V.int) ∧ ∀ S L H', StAt H' S L → Same H H' → H S = none → H L = none → Q (.ref S) H'
theorem ok_law_state {f : Addr} {fd : FuncData} (F : Fun K "_law_state" "_law_state" s_law_state f fd) (Y : Bn mg) : FnOk P w K mg base CX0 1 f fd ["script"] (spState K) := by
  refine F.ok sc_law_state (fun vs H Q E h => ?_) (fun cdv A outer s H vs Q E hr h => ?_)
  · obtain ⟨a, ns, rfl, _⟩ := h
    rfl
  · obtain ⟨a, ns, rfl, hS, kQ⟩ := h
    have nd := sc_law_state.nd
    refine ⟨_, (pss_one (ps_ret (pe_lst (pa_cons (pe_callTy call_listOf (by rfl) Y.n_list (by decide +kernel) (pa_cons (pv 0) pa_nil)) (pa_cons pe_int (pa_cons pe_int (pa_cons pe_int (pa_cons pe_bl (pa_cons pe_int pa_nil))))))))), ?_⟩
    rw [show L2.start N_law_state [.ref a] = [some (.ref a)] from rfl]
    walk_at "rdo"
    refine w_listOf hS fun l hl => ?_
    walk_at "rdo"
    refine ⟨by show 6 ≤ sizeLine; decide, fun p hp => ?_⟩
    have nlp : l ≠ p := fun e => by rw [← e, upd_same] at hp; cases hp
    refine kQ p l _ ⟨ns, 0, 0, 0, false, 500, nlp, ?_, by decide, upd_same⟩ ((same_new hl).trans (same_new hp)) ((same_new hl).free hp) hl
    rw [upd_ne nlp, upd_same]

abbrev s_law_draw : Stmt := topS 118
abbrev N_law_draw : List Str := ["state", "limit", "cell", "digit", "mixed"]
theorem sc_law_draw : FnScope N_law_draw ["state", "limit"] (defScope s_law_draw) := ⟨rfl, rfl, rfl, by decide +kernel, rfl, by decide +kernel, by decide +kernel⟩
def spDraw : Sp := fun vs H Q _ => ∃ (S L : Addr) (m : Int), vs = [.ref S, .int m] ∧ StAt H S L ∧ 0 < m ∧ m < 1073741824 ∧ ∀ r H', 0 ≤ r → r < m → StAt H' S L → Fr S H H' → Q (.int r) H'
theorem ok_law_draw {f : Addr} {fd : FuncData} (F : Fun K "_law_draw" "_law_draw" s_law_draw f fd) (Y : Bn mg) : FnOk P w K mg base CX0 1 f fd ["state", "limit"] spDraw := by
  refine F.ok sc_law_draw (fun vs H Q E h => ?_) (fun cdv A outer s H vs Q E hr h => ?_)
  · obtain ⟨S, L, m, rfl, _⟩ := h
    rfl
  · obtain ⟨S, L, m, rfl, ⟨ns, i, c, k, b, r, hLS, hL, hi, hS⟩, hm, hm2, kQ⟩ := h
    have nd := sc_law_draw.nd
    refine ⟨_, (pss_cut (ps_if (pt_cmpR op_eq (pe_ix ix_list (pv 0) pe_int (fun _ _ => rfl)) pe_int (nomark _)) (pss_cons (ps_if (pt_cmpR op_ge (pe_ix ix_list (pv 0) pe_int (fun _ _ => rfl)) (pe_callB call_lenL (by rfl) Y.n_len (by decide +kernel) (pa_cons (pe_ix ix_list (pv 0) pe_int (fun _ _ => rfl)) pa_nil)) (nomark _)) (pss_one (ps_ret pe_int)) pss_nil)
      (pss_cons (ps_set (i := 2) nd rfl (Or.inl rfl) (pe_ix ix_list (pe_ix ix_list (pv 0) pe_int (fun _ _ => rfl)) (pe_ix ix_list (pv 0) pe_int (fun _ _ => rfl)) (fun _ _ => rfl)))
      (pss_cut (ps_if (pt_cmpR op_lt (pv 2) pe_int (nomark _)) (pss_one (ps_set (i := 2) nd rfl (Or.inl rfl) (pe_op op_sub (pe_un un_neg pe_int) (pv 2)))) pss_nil)
      (pss_cons (ps_asg (pe_op op_add (pe_ix ix_list (pv 0) pe_int (fun _ _ => rfl)) pe_int) (pg_sub (pv 0) pe_int set_list))
      (pss_cons (ps_asg (pv 2) (pg_sub (pv 0) pe_int set_list))
      (pss_cons (ps_asg (pe_cmpR op_ge (pv 2) (pe_op op_pow pe_int pe_int) (nomark _)) (pg_sub (pv 0) pe_int set_list))
      (pss_cons (ps_asg pe_int (pg_sub (pv 0) pe_int set_list))
      (pss_one (ps_if (pt_val (pe_ix ix_list (pv 0) pe_int (fun _ _ => rfl))) (pss_one (ps_asg pe_int (pg_sub (pv 0) pe_int set_list))) pss_nil))))))))) pss_nil)
      (pss_cons (ps_asg (pe_op op_sub (pe_ix ix_list (pv 0) pe_int (fun _ _ => rfl)) pe_int) (pg_sub (pv 0) pe_int set_list))
      (pss_cons (ps_if (pt_val (pe_ix ix_list (pv 0) pe_int (fun _ _ => rfl))) (pss_cons (ps_set (i := 3) nd rfl (Or.inl rfl) (pe_op op_modN (pe_callTy call_intI (by rfl) Y.n_int (by decide +kernel) (pa_cons (pe_ix ix_list (pv 0) pe_int (fun _ _ => rfl)) pa_nil)) (pv 1)))
      (pss_cons (ps_asg (pe_op op_fdivN (pe_ix ix_list (pv 0) pe_int (fun _ _ => rfl)) (pv 1)) (pg_sub (pv 0) pe_int set_list))
      (pss_cons (ps_if (pt_cmpR op_eq (pe_ix ix_list (pv 0) pe_int (fun _ _ => rfl)) pe_int (nomark _)) (pss_one (ps_asg pe_int (pg_sub (pv 0) pe_int set_list))) pss_nil)
      (pss_one (ps_ret (pv 3)))))) pss_nil)
      (pss_cons (ps_set (i := 4) nd rfl (Or.inl rfl) (pe_op op_modN (pe_callTy call_intI (by rfl) Y.n_int (by decide +kernel) (pa_cons (pe_op op_add (pe_op op_add (pe_op op_mul (pe_ix ix_list (pv 0) pe_int (fun _ _ => rfl)) pe_int) (pe_op op_mul (pe_ix ix_list (pv 0) pe_int (fun _ _ => rfl)) pe_int)) pe_int) pa_nil)) pe_int))
      (pss_cons (ps_set (i := 4) nd rfl (Or.inl rfl) (pe_op op_modN (pe_callTy call_intI (by rfl) Y.n_int (by decide +kernel) (pa_cons (pe_op op_add (pe_op op_add (pe_op op_mul (pv 4) (pv 4)) (pe_op op_mul (pe_ix ix_list (pv 0) pe_int (fun _ _ => rfl)) pe_int)) (pe_ix ix_list (pv 0) pe_int (fun _ _ => rfl))) pa_nil)) pe_int))
      (pss_one (ps_ret (pe_op op_modN (pe_callTy call_intI (by rfl) Y.n_int (by decide +kernel) (pa_cons (pv 4) pa_nil)) (pv 1))))))))), ?_⟩
    rw [show L2.start N_law_draw [.ref S, .int m] = [some (.ref S), some (.int m), none, none, none] from rfl]
    refine ⟨fun σ' H' => ∃ x, σ' = [some (.ref S), some (.int m), x, none, none] ∧ (∃ (i c k : Int) (b : Bool) (r : Int), 0 ≤ i ∧ H' L = some (.lst (ns.map V.int)) ∧ H' S = some (.lst (StL L i c k b r))) ∧ Fr S H H', ?_, ?_⟩
    · walk_at "rdo"
      refine w_ixL (SqL.of hS) rfl ?_
      walk_at "rdo"
      refine w_ifI (fun hk => ?_) (fun hk => ?_)
      · walk_at "rdo"
        refine w_ixL (SqL.of hS) rfl ?_
        walk_at "rdo"
        refine w_ixL (SqL.of hS) rfl ?_
        walk_at "rdo"
        refine w_lenL (SqL.of hL) ?_
        walk_at "rdo"
        refine w_if (fun hl => ?_) (fun hl => ?_)
        · walk_at "rdo"
          exact kQ 0 H (by decide) hm ⟨ns, i, c, k, b, r, hLS, hL, hi, hS⟩ (Fr.refl S H)
        · walk_at "rdo"
          refine w_ixL (SqL.of hS) rfl ?_
          walk_at "rdo"
          refine w_ixL (SqL.of hS) rfl ?_
          obtain ⟨z, hz⟩ := at_ints hi hl
          refine w_ixL (SqL.of hL) hz ?_
          walk_at "rdo"
          refine ⟨fun σ' H' => H' = H ∧ ∃ z, σ' = [some (.ref S), some (.int m), some (.int z), none, none], ?_, ?_⟩
          · walk_at "rdo"
            refine w_if (fun _ => ?_) (fun _ => ?_)
            · walk_at "rdo"
              refine ⟨_, rfl, ?_⟩
              walk_at "rdo"
              exact ⟨rfl, _, rfl⟩
            · exact ⟨rfl, _, rfl⟩
          · rintro σ' H' ⟨rfl, z, rfl⟩
            walk_at "rdo"
            refine w_ixL (SqL.of hS) rfl ?_
            walk_at "rdo"
            refine w_stset hS rfl fun H1 hS1 f1 => ?_
            walk_at "rdo"
            refine w_stset hS1 rfl fun H2 hS2 f2 => ?_
            walk_at "rdo"
            refine w_i ⟨by decide, by decide, by decide⟩ ?_
            walk_at "rdo"
            refine w_stset hS2 rfl fun H3 hS3 f3 => ?_
            walk_at "rdo"
            refine w_stset hS3 rfl fun H4 hS4 f4 => ?_
            walk_at "rdo"
            refine w_ixL (SqL.of hS4) rfl ?_
            have f := ((f1.trans f2).trans f3).trans f4
            walk_at "rdo"
            refine w_if (fun _ => ?_) (fun _ => ?_)
            · walk_at "rdo"
              refine w_stset hS4 rfl fun H5 hS5 f5 => ?_
              exact ⟨_, rfl, ⟨_, _, _, _, _, Int.add_nonneg hi (by decide), (f.trans f5) _ _ hLS hL, hS5⟩, f.trans f5⟩
            · exact ⟨_, rfl, ⟨_, _, _, _, _, Int.add_nonneg hi (by decide), f _ _ hLS hL, hS4⟩, f⟩
      · exact ⟨_, rfl, ⟨i, c, k, b, r, hi, hL, hS⟩, Fr.refl S H⟩
    · rintro σ' H0 ⟨x, rfl, ⟨i, c, k, b, r, hi, hL, hS⟩, fr⟩
      walk_at "rdo"
      refine w_ixL (SqL.of hS) rfl ?_
      walk_at "rdo"
      refine w_stset hS rfl fun H1 hS1 f1 => ?_
      walk_at "rdo"
      refine w_ixL (SqL.of hS1) rfl ?_
      walk_at "rdo"
      refine w_ifb (fun _ => ?_) (fun _ => ?_)
      · walk_at "rdo"
        refine w_ixL (SqL.of hS1) rfl ?_
        walk_at "rdo"
        refine w_i (by omega) ?_
        walk_at "rdo"
        refine w_ixL (SqL.of hS1) rfl ?_
        walk_at "rdo"
        refine w_i ⟨by omega, by omega⟩ ?_
        walk_at "rdo"
        refine w_stset hS1 rfl fun H2 hS2 f2 => ?_
        walk_at "rdo"
        refine w_ixL (SqL.of hS2) rfl ?_
        walk_at "rdo"
        have b0 := Int.fmod_nonneg_of_pos c hm
        have b1 := Int.fmod_lt_of_pos c hm
        refine w_ifI (fun _ => ?_) (fun _ => ?_)
        · walk_at "rdo"
          refine w_stset hS2 rfl fun H3 hS3 f3 => ?_
          walk_at "rdo"
          have f := ((fr.trans f1).trans f2).trans f3
          exact kQ _ H3 b0 b1 ⟨ns, _, _, _, _, _, hLS, ((f1.trans f2).trans f3) _ _ hLS hL, hi, hS3⟩ f
        · walk_at "rdo"
          exact kQ _ H2 b0 b1 ⟨ns, _, _, _, _, _, hLS, (f1.trans f2) _ _ hLS hL, hi, hS2⟩ ((fr.trans f1).trans f2)
      · walk_at "rdo"
        refine w_ixL (SqL.of hS1) rfl ?_
        walk_at "rdo"
        refine w_mulR (by decide) ?_
        walk_at "rdo"
        refine w_ixL (SqL.of hS1) rfl ?_
        walk_at "rdo"
        refine w_mulR (by decide) ?_
        walk_at "rdo"
        refine w_i (by decide) ?_
        walk_at "rdo"
        refine w_mulR ?_ ?_
        · have b0 := Int.fmod_nonneg_of_pos (c * 48271 + (k - 1) * 69621 + 7) (show (0 : Int) < 2147483647 by decide)
          have b1 := Int.fmod_lt_of_pos (c * 48271 + (k - 1) * 69621 + 7) (show (0 : Int) < 2147483647 by decide)
          omega
        walk_at "rdo"
        refine w_ixL (SqL.of hS1) rfl ?_
        walk_at "rdo"
        refine w_mulR (by decide) ?_
        walk_at "rdo"
        refine w_ixL (SqL.of hS1) rfl ?_
        walk_at "rdo"
        refine w_i (by decide) ?_
        walk_at "rdo"
        refine w_i (by omega) ?_
        exact kQ _ H1 (Int.fmod_nonneg_of_pos _ hm) (Int.fmod_lt_of_pos _ hm) ⟨ns, _, _, _, _, _, hLS, f1 _ _ hLS hL, hi, hS1⟩ (fr.trans f1)
end
end
section
/-! Tokens as they are written, and their reading. -/
open PySem PySem.Spec PyProof.Rows L2
open TL (numL tl_num numL_digits numL_ne numL_val numL_len numL_lt numL_step)
/-- first letter of these, then letters and digits, 20 signs at most -/
def RunOf (fs a : List Nat) : Prop := ∃ c r, a = c :: r ∧ c ∈ fs ∧ (∀ d ∈ r, d ∈ aJ) ∧ r.length ≤ 19
/-- a name, a class name -/
def IsName (a : List Nat) : Prop := RunOf aLow a ∧ a ∉ WL
def IsClass (a : List Nat) : Prop := RunOf aUp a
/-- the signs of a text between quotes -/
abbrev aTxt : List Nat := cds " !\"#$&()*+,-./0123456789:;<=>?@ABCDEFGHIJKLMNOPQRSTUVWXYZ[\\]^_`abcdefghijklmnopqrstuvwxyz{|}~"
theorem len_aTxt : aTxt.length = 93 := by decide +kernel
def IsText (a : List Nat) : Prop := (∀ d ∈ a, d ∈ aTxt) ∧ a.length ≤ 200
theorem word_name {a : List Nat} (h : a ∈ WL) : IsName (a ++ [49]) := by
  refine ⟨?_, WL_one a h⟩
  obtain ⟨c, r, rfl, hc, hr⟩ := WL_form a h
  refine ⟨c, r ++ [49], rfl, hc, fun d hd => ?_, ?_⟩
  · rcases List.mem_append.mp hd with hd | hd
    · exact hr d hd
    · rw [List.mem_singleton.mp hd]
      decide +kernel
  · have := WL_len _ h
    rw [List.length_cons] at this
    rw [List.length_append]
    simp
    omega
theorem RunOf.len {fs a : List Nat} (h : RunOf fs a) : a.length ≤ 20 := by
  obtain ⟨c, r, rfl, _, _, h⟩ := h
  rw [List.length_cons]
  omega

/-- two tokens that would be read as one -/
def touch (b t : List Nat) : Bool := if b = [] then false else if b = [60] then decide (t.head? = some 61) else (match b.getLast?, t.head? with | some c, some d => decide (c ∈ aJ) && decide (d ∈ aJ) | _, _ => false)
theorem at_zero {c : Nat} {r : List Nat} : atI (c :: r) 0 = some c := atI_nat (xs := c :: r) (j := 0) rfl

inductive Drawn : List Nat → V → List Nat → Prop
  | mark {m : List Nat} : m ∈ MLs → Drawn (cds "mark") (T m) m
  | number {n : Nat} : n ≤ 1000000000 → Drawn (cds "number") (.int n) (numL n)
  | word {a : List Nat} : a ∈ WL → Drawn (cds "word") (T a) a
  | cls {a : List Nat} : IsClass a → Drawn (cds "class") (T a) a
  | text {a : List Nat} : IsText a → Drawn (cds "text") (T a) (39 :: (a ++ [39]))
  | name {a : List Nat} : IsName a → Drawn (cds "name") (T a) a
theorem endTx_some' {r : List Nat} (h1 : (upQ r).length < r.length) (h2 : (upQ r).length ≤ 200) (h3 : (upQ r).all srcC = true) : endTx r = some (upQ r) := by
  unfold endTx
  rw [if_pos]
  rw [Bool.and_eq_true, Bool.and_eq_true, decide_eq_true_iff, decide_eq_true_iff]
  exact ⟨⟨h1, h2⟩, h3⟩

/-! ### a drawn token is read as itself -/
theorem MLs_eq : MLs = [[58, 61], [60, 61], [40], [41], [123], [125], [44], [59], [46], [124], [61], [60], [43], [45], [42], [47]] := by decide +kernel
/-- where the token may end -/
def Apart (t rest : List Nat) : Prop := rest = [] ∨ touch t rest = false
theorem touch_head (b : List Nat) (d : Nat) (r r' : List Nat) : touch b (d :: r) = touch b (d :: r') := by
  unfold touch
  rfl
theorem touch_space (b r : List Nat) : touch b (32 :: r) = false := by
  unfold touch
  by_cases h : b = []
  · rw [if_pos h]
  · rw [if_neg h]
    by_cases h2 : b = [60]
    · rw [if_pos h2]; exact (by decide : decide (some (32 : Nat) = some 61) = false)
    · rw [if_neg h2, List.head?_cons]
      cases hb : b.getLast? with
      | none => rfl
      | some c =>
        have : decide (32 ∈ aJ) = false := by decide +kernel
        show (decide (c ∈ aJ) && decide (32 ∈ aJ)) = false
        rw [this, Bool.and_false]
/-- letters and digits, nothing of them behind -/
theorem tw_run {t rest : List Nat} (hne : t ≠ []) (hJ : ∀ c ∈ t, c ∈ aJ) (h : Apart t rest) : (t ++ rest).takeWhile letC = t := by
  have hall : ∀ c ∈ t, letC c = true := fun c hc => decide_eq_true (hJ c hc)
  rw [List.takeWhile_append_of_pos hall]
  have : rest.takeWhile letC = [] := by
    cases rest with
    | nil => rfl
    | cons d r =>
      rcases h with h | h
      · cases h
      · rw [List.takeWhile_cons, if_neg]
        intro hd
        unfold touch at h
        rw [if_neg hne] at h
        have h60 : ¬ t = [60] := fun e => by
          have := hJ 60 (by rw [e]; simp)
          exact absurd this (by decide +kernel)
        rw [if_neg h60, List.head?_cons, List.getLast?_eq_some_getLast hne] at h
        have h1 : decide (t.getLast hne ∈ aJ) = true := decide_eq_true (hJ _ (List.getLast_mem hne))
        have h2 : (decide (t.getLast hne ∈ aJ) && decide (d ∈ aJ)) = false := h
        rw [h1, Bool.true_and] at h2
        have h3 : decide (d ∈ aJ) = true := hd
        rw [h2] at h3; cases h3
  rw [this, List.append_nil]
theorem low_facts : ∀ c ∈ aLow, digC c = false ∧ c ∉ aUp ∧ c ∈ aJ ∧ c ≠ 39 ∧ c ≠ 32 := by decide +kernel
theorem up_facts : ∀ c ∈ aUp, digC c = false ∧ c ∈ aJ ∧ c ≠ 39 ∧ c ≠ 32 := by decide +kernel
theorem txt_facts : ∀ c ∈ aTxt, srcC c = true ∧ c ≠ 39 := by decide +kernel
theorem numL_head {n : Nat} (h : 0 < n) : (numL n).headD 0 ≠ 48 := by
  induction n using Nat.strongRecOn with
  | _ n ih =>
    by_cases hn : n < 10
    · rw [numL_lt hn]
      show 48 + n ≠ 48
      omega
    · rw [numL_step (by omega)]
      have := ih (n / 10) (by omega) (by omega)
      cases e : numL (n / 10) with
      | nil => exact absurd e (numL_ne _)
      | cons c r =>
        rw [e] at this
        exact this
theorem numRun_num {n : Nat} (h : n ≤ 1000000000) : numRun (numL n) = some n := by
  unfold numRun
  rw [numL_val, if_pos]
  have hd : (numL n).all digC = true := List.all_eq_true.mpr fun c hc => by
    have := numL_digits n c hc
    unfold digC
    rw [Bool.and_eq_true, decide_eq_true_iff, decide_eq_true_iff]
    exact this
  have hlen : (numL n).length ≤ 10 := numL_len (by decide) (by omega)
  rw [Bool.and_eq_true, Bool.and_eq_true, Bool.and_eq_true, decide_eq_true_iff, decide_eq_true_iff]
  refine ⟨⟨⟨hd, ?_⟩, hlen⟩, h⟩
  by_cases h0 : 0 < n
  · rw [decide_eq_false (numL_head h0)]; rfl
  · have : n = 0 := by omega
    subst this
    rw [numL_lt (by decide)]; rfl
theorem runOne {t rest : List Nat} {k : List Nat} {v : V} (hne : t ≠ []) (hJ : ∀ c ∈ t, c ∈ aJ) (h : Apart t rest) (e : ofRun t = some (k, v)) (h39 : t.headD 0 ≠ 39) : one (t ++ rest) = some (k, v, t.length) := by
  obtain ⟨c, r, rfl⟩ : ∃ c r, t = c :: r := by
    cases t with
    | nil => exact absurd rfl hne
    | cons c r => exact ⟨c, r, rfl⟩
  have htw := tw_run hne hJ h
  rw [List.cons_append] at htw ⊢
  have hc : letC c = true := decide_eq_true (hJ c (List.mem_cons_self))
  rw [one_cons, if_neg (show ¬ c = 39 from h39), if_pos hc, htw, e]
  rfl
theorem drawn_one {k t rest : List Nat} {v : V} (d : Drawn k v t) (h : Apart t rest) : one (t ++ rest) = some (k, v, t.length) ∧ ∃ c r, t = c :: r ∧ c ≠ 32 := by
  cases d with
  | mark hm =>
    have two : ∀ c : Nat, c ≠ 39 → letC c = false → ∀ r m, (MLs.find? fun m => m.isPrefixOf (c :: r)) = some m → one (c :: r) = some (cds "mark", T m, m.length) := fun c h1 h2 r m h3 => by
      rw [one_cons, if_neg h1, if_neg (by rw [h2]; exact Bool.false_ne_true), h3]
      rfl
    have hL : ∀ c ∈ [58, 60, 40, 41, 123, 125, 44, 59, 46, 124, 61, 43, 45, 42, 47], c ≠ 39 ∧ letC c = false ∧ c ≠ 32 := by decide +kernel
    rw [MLs_eq] at hm
    simp only [List.mem_cons, List.not_mem_nil, or_false] at hm
    rcases hm with rfl | rfl | rfl | rfl | rfl | rfl | rfl | rfl | rfl | rfl | rfl | rfl | rfl | rfl | rfl | rfl
    all_goals
      refine ⟨?_, _, _, rfl, by decide⟩
      refine two _ (by decide) (by decide +kernel) _ _ ?_
      rw [MLs_eq]
    case inr.inr.inr.inr.inr.inr.inr.inr.inr.inr.inr.inl =>
      cases rest with
      | nil => simp [List.find?, List.isPrefixOf]
      | cons d r =>
        have : ¬ d = 61 := fun e => by
          rcases h with h | h
          · cases h
          · rw [e] at h
            unfold touch at h
            rw [if_neg (by simp), if_pos rfl] at h
            simp at h
        have h2 : ((61 : Nat) == d) = false := by
          refine beq_eq_false_iff_ne.mpr fun e => this e.symm
        simp [List.find?, List.isPrefixOf, h2]
    all_goals simp [List.find?, List.isPrefixOf]
  | @number n hn =>
    have hJ : ∀ c ∈ numL n, c ∈ aJ := fun c hc => by
      have := numL_digits n c hc
      have hd : digC c = true := by unfold digC; rw [Bool.and_eq_true, decide_eq_true_iff, decide_eq_true_iff]; exact this
      exact of_decide_eq_true (dig_let hd)
    obtain ⟨c, r, e⟩ : ∃ c r, numL n = c :: r := by
      cases e : numL n with
      | nil => exact absurd e (numL_ne n)
      | cons c r => exact ⟨c, r, rfl⟩
    have hc := numL_digits n c (by rw [e]; exact List.mem_cons_self)
    refine ⟨runOne (numL_ne n) hJ h ?_ (by rw [e]; show c ≠ 39; omega), c, r, e, by omega⟩
    unfold ofRun
    rw [if_pos (by rw [e]; show digC c = true; unfold digC; rw [Bool.and_eq_true, decide_eq_true_iff, decide_eq_true_iff]; exact hc), numRun_num hn]
    rfl
  | word ha =>
    obtain ⟨c, r, rfl, hc, hr⟩ := WL_form _ ha
    obtain ⟨f1, f2, f3, f4, f5⟩ := low_facts c hc
    refine ⟨runOne (List.cons_ne_nil _ _) (fun d hd => by rcases List.mem_cons.mp hd with rfl | hd; exact f3; exact hr d hd) h ?_ f4, c, r, rfl, f5⟩
    have := WL_len _ ha
    unfold ofRun
    rw [List.headD_cons, if_neg (by rw [f1]; exact Bool.false_ne_true), if_neg (by omega), if_neg f2, if_pos ha]
  | cls ha =>
    have hl := RunOf.len ha
    obtain ⟨c, r, rfl, hc, hr, _⟩ := ha
    obtain ⟨f1, f3, f4, f5⟩ := up_facts c hc
    refine ⟨runOne (List.cons_ne_nil _ _) (fun d hd => by rcases List.mem_cons.mp hd with rfl | hd; exact f3; exact hr d hd) h ?_ f4, c, r, rfl, f5⟩
    unfold ofRun
    rw [List.headD_cons, if_neg (by rw [f1]; exact Bool.false_ne_true), if_neg (by omega), if_pos hc]
  | name ha =>
    have hl := RunOf.len ha.1
    have hw := ha.2
    obtain ⟨c, r, rfl, hc, hr, _⟩ := ha.1
    obtain ⟨f1, f2, f3, f4, f5⟩ := low_facts c hc
    refine ⟨runOne (List.cons_ne_nil _ _) (fun d hd => by rcases List.mem_cons.mp hd with rfl | hd; exact f3; exact hr d hd) h ?_ f4, c, r, rfl, f5⟩
    unfold ofRun
    rw [List.headD_cons, if_neg (by rw [f1]; exact Bool.false_ne_true), if_neg (by omega), if_neg f2, if_neg hw]
  | @text a ha =>
    refine ⟨?_, 39, a ++ [39], rfl, by decide⟩
    have hu : upQ (a ++ 39 :: rest) = a := by
      unfold upQ
      rw [List.takeWhile_append_of_pos (fun c hc => by have := (txt_facts c (ha.1 c hc)).2; simpa using this)]
      simp
    have e1 : 39 :: (a ++ [39]) ++ rest = 39 :: (a ++ 39 :: rest) := by simp
    rw [e1, one_cons, if_pos rfl, endTx_some' (by rw [hu]; simp) (by rw [hu]; exact ha.2) (by rw [hu]; exact List.all_eq_true.mpr fun c hc => (txt_facts c (ha.1 c hc)).1), hu]
    simp

/-! ### the text as it grows -/
def Grown (cs : List Nat) (due : List Tk) (b : List Nat) : Prop := ∀ rest, Apart b rest → lex 0 (cs ++ rest) = (due ++ (lex cs.length rest).1, (lex cs.length rest).2)
theorem lex_spaces : ∀ (n pos : Nat) (r : List Nat), lex pos (List.replicate n 32 ++ r) = lex (pos + n) r
  | 0, _, _ => rfl
  | n + 1, pos, r => by
    rw [List.replicate_succ, List.cons_append, lex_sp, lex_spaces n (pos + 1) r]
    congr 1
    omega
theorem grown_start (n : Nat) : Grown (List.replicate n 32) [] [] := fun rest _ => by
  rw [lex_spaces, List.length_replicate, Nat.zero_add]
  rfl
theorem apart_gap {b t rest : List Nat} {n : Nat} {c : Nat} {r : List Nat} (ht : t = c :: r) (hg : touch b t = true → 1 ≤ n) : Apart b (List.replicate n 32 ++ t ++ rest) := by
  subst ht
  cases n with
  | zero =>
    refine .inr ?_
    show touch b (c :: (r ++ rest)) = false
    rw [touch_head b c _ r]
    cases h : touch b (c :: r) with
    | false => rfl
    | true => exact absurd (hg h) (by decide)
  | succ n => exact .inr (touch_space _ _)
theorem grown_step {cs : List Nat} {due : List Tk} {b k t : List Nat} {v : V} {n : Nat} (g : Grown cs due b) (d : Drawn k v t) (hg : touch b t = true → 1 ≤ n) :
    Grown (cs ++ List.replicate n 32 ++ t) (due ++ [(k, v, cs.length + n)]) t := fun rest hr => by
  obtain ⟨e1, c, r, ht, hc⟩ := drawn_one d hr
  have ha : Apart b (List.replicate n 32 ++ t ++ rest) := apart_gap ht hg
  have e2 := g _ ha
  have e3 : cs ++ List.replicate n 32 ++ t ++ rest = cs ++ (List.replicate n 32 ++ t ++ rest) := by simp
  rw [e3, e2, List.append_assoc (List.replicate n 32), lex_spaces]
  subst ht
  rw [List.cons_append] at e1 ⊢
  rw [lex_tok hc e1]
  have e4 : (r ++ rest).drop ((c :: r).length - 1) = rest := by
    rw [List.length_cons, Nat.add_sub_cancel, List.drop_left]
  have e5 : (cs ++ List.replicate n 32 ++ c :: r).length = cs.length + n + (c :: r).length := by
    rw [List.length_append, List.length_append, List.length_replicate]
  rw [e4, e5, List.append_assoc]
  rfl
theorem grown_end {cs : List Nat} {due : List Tk} {b : List Nat} (g : Grown cs due b) (n : Nat) : lex 0 (cs ++ List.replicate n 32) = (due, none) := by
  have ha : Apart b (List.replicate n 32) := by
    cases n with
    | zero => exact .inl rfl
    | succ n => exact .inr (touch_space _ _)
  have := lex_spaces n cs.length []
  rw [List.append_nil, lex_nil] at this
  rw [g _ ha, this, List.append_nil]
theorem Drawn.len {k t : List Nat} {v : V} (d : Drawn k v t) : t.length ≤ 202 ∧ k.length ≤ 10 ∧ ((∃ a : List Nat, v = T a ∧ (∀ c ∈ a, c < 128)) ∨ ∃ i : Int, v = .int i) ∧ (∀ c ∈ k, c < 128) := by
  cases d with
  | mark hm =>
    have h1 : ∀ m ∈ MLs, m.length ≤ 2 ∧ ∀ c ∈ m, c < 128 := by decide +kernel
    have := h1 _ hm
    exact ⟨by omega, by decide +kernel, .inl ⟨_, rfl, this.2⟩, by decide +kernel⟩
  | @number n hn =>
    have hlen : (numL n).length ≤ 10 := numL_len (by decide) (by omega)
    exact ⟨by omega, by decide +kernel, .inr ⟨_, rfl⟩, by decide +kernel⟩
  | word ha =>
    have := WL_len _ ha
    have h1 : ∀ m ∈ WL, ∀ c ∈ m, c < 128 := by decide +kernel
    exact ⟨by omega, by decide +kernel, .inl ⟨_, rfl, h1 _ ha⟩, by decide +kernel⟩
  | cls ha =>
    have := RunOf.len ha
    obtain ⟨c, r, rfl, hc, hr, _⟩ := ha
    refine ⟨by omega, by decide +kernel, .inl ⟨_, rfl, fun d hd => aJ_ascii d ?_⟩, by decide +kernel⟩
    rcases List.mem_cons.mp hd with rfl | hd
    · exact (up_facts _ hc).2.1
    · exact hr d hd
  | name ha =>
    have := RunOf.len ha.1
    obtain ⟨c, r, rfl, hc, hr, _⟩ := ha.1
    refine ⟨by omega, by decide +kernel, .inl ⟨_, rfl, fun d hd => aJ_ascii d ?_⟩, by decide +kernel⟩
    rcases List.mem_cons.mp hd with rfl | hd
    · exact (low_facts _ hc).2.2.1
    · exact hr d hd
  | text ha =>
    have := ha.2
    have h1 : ∀ c ∈ aTxt, c < 128 := by decide +kernel
    refine ⟨?_, by decide +kernel, .inl ⟨_, rfl, fun d hd => h1 d (ha.1 d hd)⟩, by decide +kernel⟩
    rw [List.length_cons, List.length_append]
    simp
    omega

end
section
open PySem PySem.Spec PyProof.Rows L2
open C8 (Cal cal0 pe_c pe_gc pss_cut tCut)

section
variable {P : Program} {w : World} {K : PySem.W.Frag} {mg : Str → Option Value} {base : Heap}

abbrev s_law_words : Stmt := topS 119
abbrev N_law_words : List Str := ["words"]
theorem sc_law_words : FnScope N_law_words [] (defScope s_law_words) := ⟨rfl, rfl, rfl, by decide +kernel, rfl, by decide +kernel, by decide +kernel⟩
def spWords : Sp := fun vs H Q _ => vs = [] ∧ ∀ p H', Same H H' → H p = none → H' p = some (.lst (WL.map T)) → Q (.ref p) H'
theorem ok_law_words {f : Addr} {fd : FuncData} (F : Fun K "_law_words" "_law_words" s_law_words f fd) : FnOk P w K mg base CX0 1 f fd [] spWords := by
  refine F.ok sc_law_words (fun vs H Q E h => ?_) (fun cdv A outer s H vs Q E hr h => ?_)
  · obtain ⟨rfl, _⟩ := h
    rfl
  · obtain ⟨rfl, kQ⟩ := h
    have nd := sc_law_words.nd
    refine ⟨_, (pss_cons (ps_set (i := 0) nd rfl (Or.inl rfl) (pe_lst (pa_cons pe_str (pa_cons pe_str (pa_cons pe_str (pa_cons pe_str (pa_cons pe_str (pa_cons pe_str (pa_cons pe_str (pa_cons pe_str (pa_cons pe_str (pa_cons pe_str (pa_cons pe_str (pa_cons pe_str (pa_cons pe_str pa_nil)))))))))))))))
      (pss_one (ps_ret (pe_op op_cat (pv 0) (pe_lst (pa_cons pe_str (pa_cons pe_str (pa_cons pe_str (pa_cons pe_str (pa_cons pe_str (pa_cons pe_str (pa_cons pe_str (pa_cons pe_str (pa_cons pe_str (pa_cons pe_str pa_nil))))))))))))))), ?_⟩
    rw [show L2.start N_law_words [] = [none] from rfl]
    walk_at "rdo"
    refine w_newL (by show 13 ≤ 1000000; decide) fun p H1 _ s1 hp => ?_
    walk_at "rdo"
    refine w_newL (by show 10 ≤ 1000000; decide) fun q H2 _ s2 hq => ?_
    refine w_cat2 (s2 _ _ hp) hq (by show 13 + 10 ≤ 1000000; decide) fun a H3 ha s3 h3 => ?_
    exact kQ a _ ((s1.trans s2).trans s3) ((s1.trans s2).free ha) h3

abbrev s_law_run : Stmt := topS 120
abbrev N_law_run : List Str := ["state", "first", "other", "number", "run", "tail"]
theorem sc_law_run : FnScope N_law_run ["state", "first"] (defScope s_law_run) := ⟨rfl, rfl, rfl, by decide +kernel, rfl, by decide +kernel, by decide +kernel⟩
def spRun : Sp := fun vs H Q _ => ∃ (S L : Addr) (fs : List Nat), vs = [.ref S, T fs] ∧ StAt H S L ∧ fs.length = 26 ∧ ∀ a H', RunOf fs a → StAt H' S L → Fr S H H' → Q (T a) H'
theorem use_draw {S L : Addr} {m : Int} {H : Hp} {Q : VK} {E : XK} (h : StAt H S L) (h0 : 0 < m) (h1 : m < 1073741824) (k : ∀ r H', 0 ≤ r → r < m → StAt H' S L → Fr S H H' → Q (.int r) H') : spDraw ([.ref S, .int m] ++ []) H Q E :=
  ⟨S, L, m, rfl, h, h0, h1, k⟩
theorem StAt.obj {H : Hp} {S L : Addr} (h : StAt H S L) : ∃ (i c k : Int) (b : Bool) (r : Int), H S = some (.lst (StL L i c k b r)) := by
  obtain ⟨_, i, c, k, b, r, _, _, _, h⟩ := h
  exact ⟨i, c, k, b, r, h⟩
theorem StAt.put5 {H H' : Hp} {S L : Addr} {i c k : Int} {b : Bool} {r z : Int} (h : StAt H S L) (hS : H S = some (.lst (StL L i c k b r))) (h2 : H' S = some (.lst ((StL L i c k b r).set 5 (.int z)))) (f : Fr S H H') : StAt H' S L := by
  obtain ⟨ns, i', c', k', b', r', h1, h3, h4, h5⟩ := h
  rw [hS] at h5
  injection h5 with h5
  injection h5 with h5
  injection h5 with _ h5
  injection h5 with e1 h5
  injection e1 with e1
  subst e1
  exact ⟨ns, i, c, k, b, z, h1, f _ _ h1 h3, h4, h2⟩
theorem ok_law_run {f : Addr} {fd : FuncData} (F : Fun K "_law_run" "_law_run" s_law_run f fd) (Y : Bn mg) (c_law_draw : Cal P w K mg base 1 "_law_draw" spDraw []) : FnOk P w K mg base CX0 2 f fd ["state", "first"] spRun := by
  refine F.ok sc_law_run (fun vs H Q E h => ?_) (fun cdv A outer s H vs Q E hr h => ?_)
  · obtain ⟨S, L, fs, rfl, _⟩ := h
    rfl
  · obtain ⟨S, L, fs, rfl, hSt, hfs, kQ⟩ := h
    have nd := sc_law_run.nd
    refine ⟨_, (pss_cons (ps_set (i := 2) nd rfl (Or.inl rfl) pe_str)
      (pss_cons (ps_set (i := 3) nd rfl (Or.inl rfl) (pe_c c_law_draw hr (by decide) rfl (pa_cons (pv 0) (pa_cons pe_int pa_nil))))
      (pss_cons (ps_set (i := 4) nd rfl (Or.inl rfl) (pe_ix ix_str (pv 1) (pe_op op_modN (pe_callTy call_intI (by rfl) Y.n_int (by decide +kernel) (pa_cons (pe_op op_fdivN (pv 3) pe_int) pa_nil)) pe_int) (fun _ _ => rfl)))
      (pss_cons (ps_set (i := 5) nd rfl (Or.inl rfl) (pe_op op_addS (pe_op op_addS (pe_ix ix_str (pv 2) (pe_op op_modN (pe_callTy call_intI (by rfl) Y.n_int (by decide +kernel) (pa_cons (pe_op op_fdivN (pv 3) pe_int) pa_nil)) pe_int) (fun _ _ => rfl)) (pe_ix ix_str (pv 2) (pe_op op_modN (pe_callTy call_intI (by rfl) Y.n_int (by decide +kernel) (pa_cons (pe_op op_fdivN (pv 3) pe_int) pa_nil)) pe_int) (fun _ _ => rfl))) (pe_ix ix_str (pv 2) (pe_op op_modN (pe_callTy call_intI (by rfl) Y.n_int (by decide +kernel) (pa_cons (pv 3) pa_nil)) pe_int) (fun _ _ => rfl))))
      (pss_cut (ps_if (pt_cmpR op_eq (pe_c c_law_draw hr (by decide) rfl (pa_cons (pv 0) (pa_cons pe_int pa_nil))) pe_int (nomark _)) (pss_one (ps_set (i := 4) nd rfl (Or.inl rfl) (pe_slice sl_str (pe_op op_addS (pv 4) (pe_op op_mulS (pv 5) pe_int)) po_none (po_some (pe_op op_add pe_int (pe_c c_law_draw hr (by decide) rfl (pa_cons (pv 0) (pa_cons pe_int pa_nil)))))))) (pss_one (ps_set (i := 4) nd rfl (Or.inl rfl) (pe_op op_addS (pv 4) (pe_slice sl_str (pv 5) po_none (po_some (pe_op op_modN (pe_callTy call_intI (by rfl) Y.n_int (by decide +kernel) (pa_cons (pv 3) pa_nil)) pe_int)))))))
      (pss_cons (ps_asg (pe_op op_sub (pe_ix ix_list (pv 0) pe_int (fun _ _ => rfl)) (pe_callB call_lenS (by rfl) Y.n_len (by decide +kernel) (pa_cons (pv 4) pa_nil))) (pg_sub (pv 0) pe_int set_list))
      (pss_one (ps_ret (pv 4))))))))), ?_⟩
    rw [show L2.start N_law_run [.ref S, T fs] = [some (.ref S), some (T fs), none, none, none, none] from rfl]
    walk_at "rdo"
    refine use_draw hSt (by decide) (by decide) fun n H1 n0 n1 hSt1 f1 => ?_
    walk_at "rdo"
    refine w_i ⟨by decide, by decide⟩ ?_
    walk_at "rdo"
    refine w_i (by decide) ?_
    obtain ⟨c, hc, ec⟩ := at_mod hfs (by decide) (n.fdiv 4)
    refine w_ixS (by omega) ec ?_
    walk_at "rdo"
    refine w_i ⟨by decide, by decide⟩ ?_
    walk_at "rdo"
    refine w_i (by decide) ?_
    obtain ⟨d1, hd1, e1⟩ := at_mod len_aJ (by decide) (n.fdiv 104)
    refine w_ixS (by decide +kernel) e1 ?_
    walk_at "rdo"
    refine w_i ⟨by decide, by decide⟩ ?_
    walk_at "rdo"
    refine w_i (by decide) ?_
    obtain ⟨d2, hd2, e2⟩ := at_mod len_aJ (by decide) (n.fdiv 6448)
    refine w_ixS (by decide +kernel) e2 ?_
    refine w_addS (by show 1 + 1 ≤ 1000000; decide) ?_
    walk_at "rdo"
    refine w_i (by decide) ?_
    obtain ⟨d3, hd3, e3⟩ := at_lt (l := aJ) (Int.fmod_nonneg_of_pos n (show (0 : Int) < 61 by decide)) (Int.lt_trans (Int.fmod_lt_of_pos n (show (0 : Int) < 61 by decide)) (by decide +kernel))
    refine w_ixS (by decide +kernel) e3 ?_
    refine w_addS (by show 2 + 1 ≤ 1000000; decide) ?_
    have hm : ∀ d, d ∈ ([d1] ++ [d2] ++ [d3] : List Nat) → d ∈ aJ := by
      intro d hd
      rcases List.mem_append.mp hd with hd | hd
      · rcases List.mem_append.mp hd with hd | hd
        · rw [List.mem_singleton.mp hd]; exact hd1
        · rw [List.mem_singleton.mp hd]; exact hd2
      · rw [List.mem_singleton.mp hd]; exact hd3
    walk_at "rdo"
    generalize hT : ([d1] ++ [d2] ++ [d3] : List Nat) = tl at hm ⊢
    have hl : tl.length = 3 := by rw [← hT]; rfl
    refine ⟨fun σ' H' => ∃ a, σ' = [some (.ref S), some (T fs), some (T aJ), some (.int n), some (T a), some (T tl)] ∧ RunOf fs a ∧ StAt H' S L ∧ Fr S H H', ?_, ?_⟩
    · walk_at "rdo"
      refine use_draw hSt1 (by decide) (by decide) fun b H2 b0 b1 hSt2 f2 => ?_
      walk_at "rdo"
      refine w_ifI (fun _ => ?_) (fun _ => ?_)
      · walk_at "rdo"
        refine w_mulS (by decide) (by decide) (by rw [hl]; decide) ?_
        refine w_addS (by rw [len_rep, hl]; show 1 + 21 ≤ 1000000; decide) ?_
        walk_at "rdo"
        refine use_draw hSt2 (by decide) (by decide) fun e H3 e0 e1 hSt3 f3 => ?_
        walk_at "rdo"
        refine w_slS (by rw [List.length_append, len_rep, hl]; show 1 + 21 ≤ 1000000; decide) ?_
        refine ⟨_, rfl, ⟨c, ((List.replicate (Int.toNat 7) tl).flatten).take (4 + e.toNat), ?_, hc, fun d hd => hm d (mem_rep (List.mem_of_mem_take hd)), ?_⟩, hSt3, (f1.trans f2).trans f3⟩
        · have e2 : (5 + e : Int) = ((5 + e.toNat : Nat) : Int) := by omega
          rw [e2, cut_to]
          show List.take (5 + e.toNat) (c :: _) = _
          rw [show 5 + e.toNat = (4 + e.toNat) + 1 by omega, List.take_succ_cons]
          rfl
        · rw [List.length_take]
          omega
      · walk_at "rdo"
        refine w_i (by decide) ?_
        walk_at "rdo"
        refine w_slS (by omega) ?_
        refine w_addS ?_ ?_
        · have := cut_len tl none (some (n.fmod 4))
          rw [hl] at this
          show 1 + _ ≤ 1000000
          omega
        · refine ⟨_, rfl, ⟨c, cut tl none (some (n.fmod 4)), rfl, hc, fun d hd => hm d (cut_mem hd), ?_⟩, hSt2, f1.trans f2⟩
          have := cut_len tl none (some (n.fmod 4))
          omega
    · rintro σ' H2 ⟨a, rfl, ha, hSt2, f2⟩
      have hal : a.length ≤ 20 := by
        obtain ⟨c, r, rfl, _, _, h⟩ := ha
        rw [List.length_cons]
        omega
      obtain ⟨i, c', k, b, r, hS⟩ := hSt2.obj
      walk_at "rdo"
      refine w_ixL (SqL.of hS) rfl ?_
      walk_at "rdo"
      refine w_lenS (by omega) ?_
      walk_at "rdo"
      refine w_stset hS rfl fun H3 h3 f3 => ?_
      walk_at "rdo"
      exact kQ a _ ha (hSt2.put5 hS h3 f3) (f2.trans f3)
end
end
section
open PySem PySem.Spec PyProof.Rows L2
open C8 (Cal cal0 pe_c pe_gc pss_cut tCut)

section
variable {P : Program} {w : World} {K : PySem.W.Frag} {mg : Str → Option Value} {base : Heap}
theorem use_run {S L : Addr} {fs : List Nat} {H : Hp} {Q : VK} {E : XK} (h : StAt H S L) (hf : fs.length = 26) (k : ∀ a H', RunOf fs a → StAt H' S L → Fr S H H' → Q (T a) H') : spRun ([.ref S, T fs] ++ []) H Q E :=
  ⟨S, L, fs, rfl, h, hf, k⟩
/-- one promise for all that draws a text -/
def spTx (Ok : List Nat → Prop) : Sp := fun vs H Q _ => ∃ (S L : Addr), vs = [.ref S] ∧ StAt H S L ∧ ∀ a H', Ok a → StAt H' S L → Fr S H H' → Q (T a) H'
theorem use_tx {Ok : List Nat → Prop} {S L : Addr} {H : Hp} {Q : VK} {E : XK} (h : StAt H S L) (k : ∀ a H', Ok a → StAt H' S L → Fr S H H' → Q (T a) H') : spTx Ok ([.ref S] ++ []) H Q E := ⟨S, L, rfl, h, k⟩

abbrev s_law_name : Stmt := topS 121
abbrev N_law_name : List Str := ["state", "name"]
theorem sc_law_name : FnScope N_law_name ["state"] (defScope s_law_name) := ⟨rfl, rfl, rfl, by decide +kernel, rfl, by decide +kernel, by decide +kernel⟩
theorem ok_law_name {f : Addr} {fd : FuncData} (F : Fun K "_law_name" "_law_name" s_law_name f fd) (c_law_run : Cal P w K mg base 2 "_law_run" spRun []) (c_law_words : Cal P w K mg base 1 "_law_words" spWords []) : FnOk P w K mg base CX0 3 f fd ["state"] (spTx IsName) := by
  refine F.ok sc_law_name (fun vs H Q E h => ?_) (fun cdv A outer s H vs Q E hr h => ?_)
  · obtain ⟨S, L, rfl, _⟩ := h
    rfl
  · obtain ⟨S, L, rfl, hSt, kQ⟩ := h
    have nd := sc_law_name.nd
    refine ⟨_, (pss_cons (ps_set (i := 1) nd rfl (Or.inl rfl) (pe_c c_law_run hr (by decide) rfl (pa_cons (pv 0) (pa_cons pe_str pa_nil))))
      (pss_cons (ps_if (pt_cmpR op_in_seq (pv 1) (pe_c0 c_law_words hr (by decide) rfl) (by rfl)) (pss_one (ps_ret (pe_op op_addS (pv 1) pe_str))) pss_nil)
      (pss_one (ps_ret (pv 1))))), ?_⟩
    rw [show L2.start N_law_name [.ref S] = [some (.ref S), none] from rfl]
    walk_at "rdo"
    refine use_run hSt len_aLow fun a H1 ha hSt1 f1 => ?_
    walk_at "rdo"
    refine ⟨rfl, fun p H2 s2 _ hp => ?_⟩
    refine w_inL (SqL.of hp) ?_
    walk_at "rdo"
    refine w_if (fun h => ?_) (fun h => ?_)
    · walk_at "rdo"
      refine w_addS (by have := ha.len; show a.length + 1 ≤ 1000000; omega) ?_
      exact kQ _ _ (word_name h) (hSt1.mono s2) (f1.to s2)
    · walk_at "rdo"
      exact kQ _ _ ⟨ha, h⟩ (hSt1.mono s2) (f1.to s2)

end
end
section
/-! Definitions of classes, in plain Lean. -/
/-- a class: its name, the one above it, its own slots, its own methods (selector, text) -/
structure Cl where
  nm : List Nat
  base : Option (List Nat)
  slots : List (List Nat)
  texts : List (List Nat × List Nat)
def thing : Cl := ⟨cds "Thing", none, [], []⟩
def nms (ds : List Cl) : List (List Nat) := ds.map (·.nm)
/-- newest first: each class stands above (behind) a class that is there -/
inductive Dv : List Cl → Prop
  | top : Dv [thing]
  | more {c : Cl} {r : List Cl} {b : List Nat} : Dv r → c.base = some b → b ∈ nms r → c.nm ∉ nms r → Dv (c :: r)
def upL (f : List Nat → List (List Nat)) : Option (List Nat) → List (List Nat)
  | none => []
  | some b => f b
/-- the names of a class and of all above it -/
def lineR : List Cl → List Nat → List (List Nat)
  | [], _ => []
  | c :: r, n => if c.nm = n then n :: upL (lineR r) c.base else lineR r n
def lineD (ds : List Cl) (n : List Nat) : List (List Nat) := lineR ds.reverse n
def DsOk (ds : List Cl) : Prop := Dv ds.reverse
def getC (ds : List Cl) (n : List Nat) : Option Cl := ds.find? fun c => decide (c.nm = n)
def slotsD (ds : List Cl) (n : List Nat) : List (List Nat) := match getC ds n with
  | some c => c.slots
  | none => []
def textsD (ds : List Cl) (n : List Nat) : List (List Nat × List Nat) := match getC ds n with
  | some c => c.texts
  | none => []
def allS (ds : List Cl) (n : List Nat) : List (List Nat) := (lineD ds n).foldl (fun a m => slotsD ds m ++ a) []
def hasS (ds : List Cl) (n s : List Nat) : Bool := decide (n ∈ nms ds) && decide (s ∈ allS ds n)
/-- a change as the definitions take it -/
inductive Ch where
  | cls (n b : List Nat) (ss : List (List Nat))
  | nocls (n : List Nat)
  | slot (n s : List Nat)
  | noslot (n s : List Nat)
  | meth (n sel txt : List Nat)
  | nometh (n sel : List Nat)
def Ch.nm : Ch → List Nat
  | .cls n _ _ => n
  | .nocls n => n
  | .slot n _ => n
  | .noslot n _ => n
  | .meth n _ _ => n
  | .nometh n _ => n
/-- as an entry -/
def Ch.tr : Ch → Tr
  | .cls n b ss => .t [.s (cds "class"), .s n, .s b, .t (ss.map .s)]
  | .nocls n => .t [.s (cds "no class"), .s n]
  | .slot n s => .t [.s (cds "slot"), .s n, .s s]
  | .noslot n s => .t [.s (cds "no slot"), .s n, .s s]
  | .meth n sel txt => .t [.s (cds "method"), .s n, .s sel, .s txt]
  | .nometh n sel => .t [.s (cds "no method"), .s n, .s sel]
/-- as a change -/
def Ch.ch : Ch → Tr
  | .meth n _ txt => .t [.s (cds "method"), .s n, .s txt]
  | c => c.tr
def below (ds : List Cl) (n : List Nat) : List Cl := ds.filter fun c => decide (n ∈ lineD ds c.nm)
def slotBelow (ds : List Cl) (n s : List Nat) : Bool := (below ds n).any fun c => decide (s ∈ c.slots)
def clsBelow (ds : List Cl) (n : List Nat) : Bool := ds.any fun c => decide (c.base = some n)
def refC (ds : List Cl) (n b : List Nat) (ss : List (List Nat)) : Bool :=
  if n ∈ nms ds ∨ b ∉ nms ds then true else if ds.length = 20 ∨ 8 < ss.length then true else !decide ss.Nodup || ss.any (hasS ds b)
def refS (ds : List Cl) (n s : List Nat) : Bool :=
  if n = cds "Thing" ∨ (slotsD ds n).length = 8 then true else hasS ds n s || slotBelow ds n s
/-- whether a change is refused -/
def refM (ds : List Cl) : Ch → Bool
  | .cls n b ss => refC ds n b ss
  | .nocls n => if n ∉ nms ds then true else decide (n = cds "Thing") || clsBelow ds n
  | .slot n s => if n ∉ nms ds then true else refS ds n s
  | .noslot n s => if n ∉ nms ds then true else decide (s ∉ slotsD ds n)
  | .meth n _ _ => if n ∉ nms ds then true else decide (n = cds "Thing")
  | .nometh n sel => if n ∉ nms ds then true else decide (sel ∉ (textsD ds n).map (·.1))
def onC (n : List Nat) (f : Cl → Cl) (ds : List Cl) : List Cl := ds.map fun c => if c.nm = n then f c else c
def putT (l : List (List Nat × List Nat)) (k v : List Nat) : List (List Nat × List Nat) := if k ∈ l.map (·.1) then l.map fun p => if p.1 = k then (p.1, v) else p else l ++ [(k, v)]
def dropT (l : List (List Nat × List Nat)) (k : List Nat) : List (List Nat × List Nat) := l.filter fun p => decide (p.1 ≠ k)
/-- what a change that is not refused makes -/
def carM (ds : List Cl) : Ch → List Cl
  | .cls n b ss => ds ++ [⟨n, some b, ss, []⟩]
  | .nocls n => ds.filter fun c => decide (c.nm ≠ n)
  | .slot n s => onC n (fun c => { c with slots := c.slots ++ [s] }) ds
  | .noslot n s => onC n (fun c => { c with slots := c.slots.erase s }) ds
  | .meth n sel txt => onC n (fun c => { c with texts := putT c.texts sel txt }) ds
  | .nometh n sel => onC n (fun c => { c with texts := dropT c.texts sel }) ds
/-! ### facts -/
theorem nms_app (a b : List Cl) : nms (a ++ b) = nms a ++ nms b := List.map_append
theorem nms_rev (a : List Cl) : nms a.reverse = (nms a).reverse := List.map_reverse
theorem Dv.nd : ∀ {r : List Cl}, Dv r → (nms r).Nodup
  | _, .top => by simp [nms]
  | _, .more h _ _ hn => List.nodup_cons.mpr ⟨hn, h.nd⟩
theorem Dv.pos : ∀ {r : List Cl}, Dv r → thing ∈ r
  | _, .top => List.mem_singleton.mpr rfl
  | _, .more h _ _ _ => List.mem_cons_of_mem _ h.pos
theorem DsOk.nd {ds : List Cl} (h : DsOk ds) : (nms ds).Nodup := by
  have := Dv.nd h
  rw [nms_rev] at this
  exact (List.reverse_perm _).nodup_iff.mp this
theorem DsOk.top {ds : List Cl} (h : DsOk ds) : thing ∈ ds := List.mem_reverse.mp (Dv.pos h)
theorem DsOk.new : DsOk [thing] := Dv.top
/-- one step up -/
theorem line_go : ∀ {q : List Cl} {n : List Nat}, Dv q → n ∈ nms q → ∃ c q', c ∈ q ∧ c.nm = n ∧ q' <:+ q ∧ q'.length < q.length ∧ lineR q n = n :: upL (lineR q') c.base ∧ ∀ b, c.base = some b → b ∈ nms q' ∧ Dv q'
  | _, n, .top, hn => by
    have hn : n = cds "Thing" := by simpa [nms, thing] using hn
    subst hn
    refine ⟨thing, [], List.mem_singleton.mpr rfl, rfl, List.nil_suffix, by decide, ?_, fun b hb => by cases hb⟩
    unfold lineR
    exact if_pos (show thing.nm = cds "Thing" from rfl)
  | c :: r, n, .more h hb hm hn', hn => by
    by_cases e : c.nm = n
    · refine ⟨c, r, List.mem_cons_self, e, List.suffix_cons c r, by simp, ?_, fun b h2 => ?_⟩
      · conv => lhs; unfold lineR
        rw [if_pos e]
      · rw [hb] at h2; cases h2; exact ⟨hm, h⟩
    · have hn2 : n ∈ nms r := by
        have : n ∈ c.nm :: nms r := hn
        rcases List.mem_cons.mp this with k | k
        · exact absurd k.symm e
        · exact k
      obtain ⟨c', q', h1, h2, h3, h4, h5, h6⟩ := line_go h hn2
      refine ⟨c', q', List.mem_cons_of_mem _ h1, h2, h3.trans (List.suffix_cons c r), by simp; omega, ?_, h6⟩
      conv => lhs; unfold lineR
      rw [if_neg e]
      exact h5
theorem lineR_mem : ∀ {q : List Cl} {n m : List Nat}, m ∈ lineR q n → m ∈ nms q
  | [], _, _, h => by simp [lineR] at h
  | c :: r, n, m, h => by
    unfold lineR at h
    by_cases e : c.nm = n
    · rw [if_pos e] at h
      rcases List.mem_cons.mp h with k | k
      · rw [k, ← e]; exact List.mem_cons_self
      · cases hb : c.base with
        | none => rw [hb] at k; simp [upL] at k
        | some b => rw [hb] at k; exact List.mem_cons_of_mem _ (lineR_mem k)
    · rw [if_neg e] at h
      exact List.mem_cons_of_mem _ (lineR_mem h)
theorem lineR_len : ∀ (q : List Cl) (n : List Nat), (lineR q n).length ≤ q.length
  | [], _ => Nat.zero_le _
  | c :: r, n => by
    unfold lineR
    by_cases e : c.nm = n
    · rw [if_pos e]
      cases hb : c.base with
      | none => simp [upL]
      | some b => have := lineR_len r b; simp [upL]; omega
    · rw [if_neg e]
      have := lineR_len r n
      simp; omega
theorem line_mem {ds : List Cl} {n m : List Nat} (h : m ∈ lineD ds n) : m ∈ nms ds := by
  have := lineR_mem h
  rw [nms_rev] at this
  exact List.mem_reverse.mp this
theorem line_len (ds : List Cl) (n : List Nat) : (lineD ds n).length ≤ ds.length := by
  have := lineR_len ds.reverse n
  rw [List.length_reverse] at this
  exact this
theorem getC_mem {ds : List Cl} {n : List Nat} (h : n ∈ nms ds) : ∃ c, c ∈ ds ∧ c.nm = n ∧ getC ds n = some c := by
  cases e : getC ds n with
  | some c =>
    have h1 := List.find?_some e
    exact ⟨c, List.mem_of_find?_eq_some e, of_decide_eq_true h1, rfl⟩
  | none =>
    obtain ⟨c, hc, e2⟩ := List.mem_map.mp h
    have := List.find?_eq_none.mp e c hc
    exact absurd (decide_eq_true e2) this
theorem getC_of {ds : List Cl} (hnd : (nms ds).Nodup) {c : Cl} (h : c ∈ ds) : getC ds c.nm = some c := by
  obtain ⟨c', h1, h2, h3⟩ := getC_mem (List.mem_map.mpr ⟨c, h, rfl⟩ : c.nm ∈ nms ds)
  have : c' = c := by
    induction ds with
    | nil => simp at h
    | cons x r ih =>
      have hnd2 := List.nodup_cons.mp (show (x.nm :: nms r).Nodup from hnd)
      rcases List.mem_cons.mp h with k | k
      · rcases List.mem_cons.mp h1 with k1 | k1
        · rw [k, k1]
        · exact absurd (List.mem_map.mpr ⟨c', k1, by rw [h2, k]⟩) hnd2.1
      · rcases List.mem_cons.mp h1 with k1 | k1
        · exact absurd (List.mem_map.mpr ⟨c, k, by rw [← h2, k1]⟩) hnd2.1
        · refine ih hnd2.2 k k1 ?_
          unfold getC at h3 ⊢
          rw [List.find?_cons] at h3
          by_cases e : x.nm = c.nm
          · exact absurd (List.mem_map.mpr ⟨c, k, e.symm⟩) hnd2.1
          · simpa [e] using h3
  rw [h3, this]
/-! ### what changes keep -/
theorem Dv.filter {n : List Nat} (hn : n ≠ cds "Thing") : ∀ {r : List Cl}, Dv r → (∀ c ∈ r, c.base ≠ some n) → Dv (r.filter fun c => decide (c.nm ≠ n))
  | _, .top, _ => by
    have e : [thing].filter (fun c => decide (c.nm ≠ n)) = [thing] := by
      have : ¬ thing.nm = n := fun e => hn e.symm
      simp [this]
    rw [e]
    exact .top
  | c :: r, .more h hb hm hn', hc => by
    have ih := h.filter hn fun c' h' => hc c' (List.mem_cons_of_mem _ h')
    by_cases e : c.nm = n
    · rw [show (c :: r).filter (fun c => decide (c.nm ≠ n)) = r.filter (fun c => decide (c.nm ≠ n)) by simp [e]]
      exact ih
    · rw [show (c :: r).filter (fun c => decide (c.nm ≠ n)) = c :: r.filter (fun c => decide (c.nm ≠ n)) by simp [e]]
      refine .more ih hb ?_ fun z => hn' ?_
      · obtain ⟨x, hx, ex⟩ := List.mem_map.mp hm
        refine List.mem_map.mpr ⟨x, List.mem_filter.mpr ⟨hx, decide_eq_true fun e2 => ?_⟩, ex⟩
        refine hc c List.mem_cons_self ?_
        rw [hb, ← ex, e2]
      · obtain ⟨x, hx, ex⟩ := List.mem_map.mp z
        exact List.mem_map.mpr ⟨x, (List.mem_filter.mp hx).1, ex⟩
theorem nms_onC {n : List Nat} {f : Cl → Cl} (hf : ∀ c, (f c).nm = c.nm) (ds : List Cl) : nms (onC n f ds) = nms ds := by
  unfold nms onC
  rw [List.map_map]
  refine List.map_congr_left fun c _ => ?_
  show (if c.nm = n then f c else c).nm = c.nm
  split
  · exact hf c
  · rfl
theorem Dv.onC {n : List Nat} {f : Cl → Cl} (hn : n ≠ cds "Thing") (hf : ∀ c, (f c).nm = c.nm) (hb : ∀ c, (f c).base = c.base) : ∀ {r : List Cl}, Dv r → Dv (onC n f r)
  | _, .top => by
    show Dv [if thing.nm = n then f thing else thing]
    rw [if_neg (fun e => hn (show n = cds "Thing" from e.symm))]
    exact .top
  | c :: r, .more h h1 h2 h3 => by
    have e1 : (if c.nm = n then f c else c).base = c.base := by split; exact hb c; rfl
    have e2 : (if c.nm = n then f c else c).nm = c.nm := by split; exact hf c; rfl
    have e3 := nms_onC (n := n) hf r
    exact Dv.more (h.onC hn hf hb) (e1.trans h1) (e3.symm ▸ h2 : _ ∈ nms (Lv.onC n f r)) (show (if c.nm = n then f c else c).nm ∉ nms (Lv.onC n f r) by rw [e3, e2]; exact h3)
theorem onC_rev (n : List Nat) (f : Cl → Cl) (ds : List Cl) : (Lv.onC n f ds).reverse = Lv.onC n f ds.reverse := by
  unfold Lv.onC
  rw [List.map_reverse]
/-- a change that is not refused keeps the order -/
theorem DsOk.car {ds : List Cl} (h : DsOk ds) {c : Ch} (r : refM ds c = false) : DsOk (carM ds c) := by
  cases c with
  | cls n b ss =>
    have r : refC ds n b ss = false := r
    unfold refC at r
    by_cases k : n ∈ nms ds ∨ b ∉ nms ds
    · rw [if_pos k] at r; cases r
    · unfold DsOk carM
      rw [List.reverse_append]
      have h1 : b ∈ nms ds.reverse := by rw [nms_rev]; exact List.mem_reverse.mpr (Classical.byContradiction fun z => k (.inr z))
      have h2 : n ∉ nms ds.reverse := by rw [nms_rev]; exact fun z => k (.inl (List.mem_reverse.mp z))
      exact Dv.more (c := ⟨n, some b, ss, []⟩) h rfl h1 h2
  | nocls n =>
    have r : (if n ∉ nms ds then true else decide (n = cds "Thing") || clsBelow ds n) = false := r
    by_cases k : n ∉ nms ds
    · rw [if_pos k] at r; cases r
    · rw [if_neg k, Bool.or_eq_false_iff, decide_eq_false_iff_not] at r
      show Dv (ds.filter _).reverse
      rw [← List.filter_reverse]
      refine Dv.filter r.1 h fun c hc e => ?_
      have := r.2
      unfold clsBelow at this
      rw [List.any_eq_false] at this
      exact this c (List.mem_reverse.mp hc) (decide_eq_true e)
  | slot n s =>
    have r : (if n ∉ nms ds then true else refS ds n s) = false := r
    by_cases k : n ∉ nms ds
    · rw [if_pos k] at r; cases r
    · rw [if_neg k] at r
      unfold refS at r
      by_cases k2 : n = cds "Thing" ∨ (slotsD ds n).length = 8
      · rw [if_pos k2] at r; cases r
      · unfold DsOk carM
        rw [onC_rev]
        refine Dv.onC (fun e => k2 (.inl e)) (fun c => ?_) (fun c => ?_) h
        · rfl
        · rfl
  | noslot n s =>
    have r : (if n ∉ nms ds then true else decide (s ∉ slotsD ds n)) = false := r
    by_cases k : n ∉ nms ds
    · rw [if_pos k] at r; cases r
    · rw [if_neg k, decide_eq_false_iff_not, Classical.not_not] at r
      show Dv (onC _ _ ds).reverse
      rw [onC_rev]
      refine Dv.onC (fun e => ?_) (fun c => by rfl) (fun c => by rfl) h
      have g := getC_of h.nd h.top
      unfold slotsD at r
      rw [e, show cds "Thing" = thing.nm from rfl, g] at r
      cases r
  | meth n sel txt =>
    have r : (if n ∉ nms ds then true else decide (n = cds "Thing")) = false := r
    by_cases k : n ∉ nms ds
    · rw [if_pos k] at r; cases r
    · rw [if_neg k, decide_eq_false_iff_not] at r
      show Dv (onC _ _ ds).reverse
      rw [onC_rev]
      refine Dv.onC r (fun c => by rfl) (fun c => by rfl) h
  | nometh n sel =>
    have r : (if n ∉ nms ds then true else decide (sel ∉ (textsD ds n).map (·.1))) = false := r
    by_cases k : n ∉ nms ds
    · rw [if_pos k] at r; cases r
    · rw [if_neg k, decide_eq_false_iff_not, Classical.not_not] at r
      show Dv (onC _ _ ds).reverse
      rw [onC_rev]
      refine Dv.onC (fun e => ?_) (fun c => by rfl) (fun c => by rfl) h
      have g := getC_of h.nd h.top
      unfold textsD at r
      rw [e, show cds "Thing" = thing.nm from rfl, g] at r
      cases r
end
section
/-! Derivations of expressions and statements: their tokens are read back. -/
open PySem PySem.Spec PyProof.Rows L2
abbrev Ws := List (List Nat)
/-- kind and value of a token's text -/
def tk (a : List Nat) : List Nat × V := match one a with
  | some (k, v, _) => (k, v)
  | none => ([], .non)
def fx (a : List Nat) : List Nat := fixT ((tk a).1, (tk a).2, 0)
def isNm (a : List Nat) : Prop := tk a = (cds "name", T a)
def commas : Ws → Ws
  | [] => []
  | [a] => [a]
  | a :: b :: l => a :: cds "," :: commas (b :: l)
def binT (s : List Nat) (a b : Tr) : Tr := if s = cds "and" ∨ s = cds "or" then .t [.s s, a, b] else .t [str "op", .s s, a, b]
mutual
/-- an expression: its level, a bound of its height, its tree, its tokens, its blocks' parameters -/
inductive Ex : Nat → Nat → Tr → Ws → List Ws → Prop
  | num {h : Nat} {a : List Nat} {x : Int} : tk a = (cds "number", .int x) → Ex 9 (h + 1) (.t [str "plain", .i x]) [a] []
  | text {h : Nat} {a b : List Nat} : tk a = (cds "text", T b) → Ex 9 (h + 1) (.t [str "plain", .s b]) [a] []
  | word {h : Nat} {a : List Nat} {v : V} : plainL.lookup a = some v → Ex 9 (h + 1) (.t [str "plain", plainTr v]) [a] []
  | self {h : Nat} : Ex 9 (h + 1) (.t [str "self"]) [cds "self"] []
  | new {h : Nat} {a : List Nat} : tk a = (cds "class", T a) → Ex 9 (h + 1) (.t [str "new", .s a]) [cds "new", a] []
  | name {h : Nat} {a : List Nat} : isNm a → Ex 9 (h + 1) (.t [str "name", .s a]) [a] []
  | par {lv h : Nat} {t : Tr} {w : Ws} {ns : List Ws} : 1 ≤ lv → Ex lv h t w ns → Ex 9 (h + 1) t (cds "(" :: (w ++ [cds ")"])) ns
  | neg {lv h : Nat} {t : Tr} {w : Ws} {ns : List Ws} : 7 ≤ lv → Ex lv h t w ns → Ex 7 (h + 1) (.t [str "neg", t]) (cds "-" :: w) ns
  | not {lv h : Nat} {t : Tr} {w : Ws} {ns : List Ws} : 3 ≤ lv → Ex lv h t w ns → Ex 3 (h + 1) (.t [str "not", t]) (cds "not" :: w) ns
  | bin {l lv1 lv2 h : Nat} {s : List Nat} {t1 t2 : Tr} {w1 w2 : Ws} {n1 n2 : List Ws} : behN.lookup s = some l → s ≠ cds "." → (if l = 4 then 5 else l) ≤ lv1 → Ex lv1 h t1 w1 n1 → l + 1 ≤ lv2 → Ex lv2 h t2 w2 n2 → Ex l (h + 1) (binT s t1 t2) (w1 ++ s :: w2) (n1 ++ n2)
  | send {lv h : Nat} {t : Tr} {w : Ws} {ns : List Ws} {x : List Nat} {l : List Tr} {w2 : Ws} {n2 : List Ws} : 8 ≤ lv → Ex lv h t w ns → isNm x → Ar h l w2 n2 → Ex 8 (h + 1) (.t [str "send", t, .s x, .t l]) (w ++ cds "." :: x :: cds "(" :: (w2 ++ [cds ")"])) (ns ++ n2)
  | sup {h : Nat} {x : List Nat} {l : List Tr} {w2 : Ws} {n2 : List Ws} : isNm x → Ar h l w2 n2 → Ex 9 (h + 1) (.t [str "super", .s x, .t l]) (cds "super" :: cds "." :: x :: cds "(" :: (w2 ++ [cds ")"])) n2
  | blk0 {h : Nat} {l : List Tr} {w : Ws} {ns : List Ws} : Bd h l w ns → Ex 9 (h + 1) (.t [str "block", .t [], .t l]) (cds "{" :: (w ++ [cds "}"])) ns
  | blk {h : Nat} {ps : Ws} {l : List Tr} {w : Ws} {ns : List Ws} : ps ≠ [] → ps.length ≤ 4 → (∀ x ∈ ps, isNm x) → Bd h l w ns → Ex 9 (h + 1) (.t [str "block", .t (ps.map Tr.s), .t l]) (cds "{" :: (commas ps ++ cds "|" :: (w ++ [cds "}"]))) (ps :: ns)
/-- arguments behind the first -/
inductive Al : Nat → List Tr → Ws → List Ws → Prop
  | nil {h : Nat} : Al h [] [] []
  | cons {lv h : Nat} {t : Tr} {w : Ws} {ns : List Ws} {l : List Tr} {w2 : Ws} {n2 : List Ws} : 1 ≤ lv → Ex lv h t w ns → Al h l w2 n2 → Al h (t :: l) (cds "," :: (w ++ w2)) (ns ++ n2)
inductive Ar : Nat → List Tr → Ws → List Ws → Prop
  | nil {h : Nat} : Ar h [] [] []
  | cons {lv h : Nat} {t : Tr} {w : Ws} {ns : List Ws} {l : List Tr} {w2 : Ws} {n2 : List Ws} : 1 ≤ lv → Ex lv h t w ns → Al h l w2 n2 → l.length ≤ 7 → Ar h (t :: l) (w ++ w2) (ns ++ n2)
inductive St : Nat → Tr → Ws → List Ws → Prop
  | eval {lv h : Nat} {t : Tr} {w : Ws} {ns : List Ws} : 1 ≤ lv → Ex lv h t w ns → St (h + 1) (.t [str "eval", t]) w ns
  | set {lv h : Nat} {t : Tr} {w : Ws} {ns : List Ws} {x : List Nat} : isNm x → 1 ≤ lv → Ex lv h t w ns → St (h + 1) (.t [str "set", .s x, t]) (x :: cds ":=" :: w) ns
  | gf {lv h : Nat} {t : Tr} {w : Ws} {ns : List Ws} {g : List Nat} : g = cds "give" ∨ g = cds "fail" → 1 ≤ lv → Ex lv h t w ns → St (h + 1) (.t [.s g, t]) (g :: w) ns
  | whl {lv h : Nat} {t : Tr} {w : Ws} {ns : List Ws} {l : List Tr} {w2 : Ws} {n2 : List Ws} : 1 ≤ lv → Ex lv h t w ns → Bd h l w2 n2 → St (h + 1) (.t [str "while", t, .t l]) (cds "while" :: (w ++ cds "do" :: (w2 ++ [cds "end"]))) (ns ++ n2)
  | if0 {lv h : Nat} {t : Tr} {w : Ws} {ns : List Ws} {l : List Tr} {w2 : Ws} {n2 : List Ws} : 1 ≤ lv → Ex lv h t w ns → Bd h l w2 n2 → St (h + 1) (.t [str "if", t, .t l, .t []]) (cds "if" :: (w ++ cds "then" :: (w2 ++ [cds "end"]))) (ns ++ n2)
  | if1 {lv h : Nat} {t : Tr} {w : Ws} {ns : List Ws} {l : List Tr} {w2 : Ws} {n2 : List Ws} {l3 : List Tr} {w3 : Ws} {n3 : List Ws} : 1 ≤ lv → Ex lv h t w ns → Bd h l w2 n2 → Bd h l3 w3 n3 → St (h + 1) (.t [str "if", t, .t l, .t l3]) (cds "if" :: (w ++ cds "then" :: (w2 ++ cds "else" :: (w3 ++ [cds "end"])))) (ns ++ (n2 ++ n3))
  | try_ {h : Nat} {l : List Tr} {w : Ws} {ns : List Ws} {x : List Nat} {l2 : List Tr} {w2 : Ws} {n2 : List Ws} : Bd h l w ns → isNm x → Bd h l2 w2 n2 → St (h + 1) (.t [str "try", .t l, .s x, .t l2]) (cds "try" :: (w ++ cds "catch" :: x :: cds "then" :: (w2 ++ [cds "end"]))) (ns ++ n2)
  | keep {h : Nat} {l : List Tr} {w : Ws} {ns : List Ws} {l2 : List Tr} {w2 : Ws} {n2 : List Ws} : Bd h l w ns → Bd h l2 w2 n2 → St (h + 1) (.t [str "keep", .t l, .t l2]) (cds "keep" :: (w ++ cds "always" :: (w2 ++ [cds "end"]))) (ns ++ n2)
inductive Bl : Nat → List Tr → Ws → List Ws → Prop
  | nil {h : Nat} : Bl h [] [] []
  | cons {h : Nat} {t : Tr} {w : Ws} {ns : List Ws} {l : List Tr} {w2 : Ws} {n2 : List Ws} : St h t w ns → Bl h l w2 n2 → Bl h (t :: l) (cds ";" :: (w ++ w2)) (ns ++ n2)
inductive Bd : Nat → List Tr → Ws → List Ws → Prop
  | nil {h : Nat} : Bd h [] [] []
  | cons {h : Nat} {t : Tr} {w : Ws} {ns : List Ws} {l : List Tr} {w2 : Ws} {n2 : List Ws} : St h t w ns → Bl h l w2 n2 → Bd h (t :: l) (w ++ w2) (ns ++ n2)
end
/-- the name noted behind these lists of names -/
def noteAll : List Ws → Option (List Nat) → Option (List Nat)
  | [], t => t
  | l :: ls, t => noteAll ls (twGo l t l.length)
theorem noteAll_append (a b : List Ws) (t : Option (List Nat)) : noteAll (a ++ b) t = noteAll b (noteAll a t) := by
  induction a generalizing t with
  | nil => rfl
  | cons l a ih => exact ih _
/-! ### tokens that stand -/
def Seg (ts : List Tk) : Nat → Ws → Prop
  | _, [] => True
  | i, a :: w => (∃ p, ts[i]? = some ((tk a).1, (tk a).2, p)) ∧ Seg ts (i + 1) w
theorem seg_append {ts : List Tk} : ∀ {u v : Ws} {i : Nat}, Seg ts i (u ++ v) ↔ Seg ts i u ∧ Seg ts (i + u.length) v
  | [], v, i => by show Seg ts i v ↔ True ∧ Seg ts (i + 0) v; simp
  | a :: u, v, i => by
    show (_ ∧ Seg ts (i + 1) (u ++ v)) ↔ (_ ∧ Seg ts (i + 1) u) ∧ Seg ts (i + (u.length + 1)) v
    rw [seg_append (u := u), show i + (u.length + 1) = i + 1 + u.length by omega, and_assoc]
/-- the text of the word or mark that stands at a place -/
def Nx (ts : List Tk) (i : Nat) (z : List Nat) : Prop := ∃ t, ts[i]? = some t ∧ fixT t = z
theorem Seg.nx {ts : List Tk} {i : Nat} {a : List Nat} {w : Ws} (h : Seg ts i (a :: w)) : Nx ts i (fx a) := by
  obtain ⟨⟨p, h⟩, _⟩ := h
  exact ⟨_, h, rfl⟩
section
variable {ts : List Tk} {i : Nat} {ds : List Nat} {tw : Option (List Nat)} {z : List Nat}
theorem ok_bind {S α β : Type} {a : α} {s : S} {k : α → S → Res S β} : (Res.ok a s).bind k = k a s := rfl
theorem tokN_of {t : Tk} (h : ts[i]? = some t) : tokN ts i = t ∧ i < ts.length := by
  obtain ⟨hl, e⟩ := List.getElem?_eq_some_iff.mp h
  refine ⟨?_, hl⟩
  unfold tokN
  rw [List.getD_eq_getElem?_getD, h]
  rfl
theorem fixed0 (h : Nx ts i z) : rFixed ts 0 ⟨i, ds, tw⟩ = .ok z ⟨i, ds, tw⟩ := by
  obtain ⟨t, h, rfl⟩ := h
  obtain ⟨e, hl⟩ := tokN_of h
  show (if i + 0 < ts.length then Res.ok (fixT (tokN ts (i + 0))) _ else _) = _
  rw [Nat.add_zero, if_pos hl, e]
theorem fixed1 (h : Nx ts (i + 1) z) : rFixed ts 1 ⟨i, ds, tw⟩ = .ok z ⟨i, ds, tw⟩ := by
  obtain ⟨t, h, rfl⟩ := h
  obtain ⟨e, hl⟩ := tokN_of h
  show (if i + 1 < ts.length then Res.ok (fixT (tokN ts (i + 1))) _ else _) = _
  rw [if_pos hl, e]
theorem accept_yes (h : Nx ts i z) : rAccept ts z ⟨i, ds, tw⟩ = .ok true ⟨i + 1, ds, tw⟩ := by
  unfold rAccept
  rw [fixed0 h, ok_bind, if_pos rfl]
theorem accept_no {a : List Nat} (h : Nx ts i z) (n : z ≠ a) : rAccept ts a ⟨i, ds, tw⟩ = .ok false ⟨i, ds, tw⟩ := by
  unfold rAccept
  rw [fixed0 h, ok_bind, if_neg n]
theorem expect_ok (h : Nx ts i z) : rExpect ts z ⟨i, ds, tw⟩ = .ok () ⟨i + 1, ds, tw⟩ := by
  unfold rExpect
  rw [accept_yes h, ok_bind, if_pos rfl]
theorem take_ok {k : List Nat} {v : V} {p : Nat} (h : ts[i]? = some (k, v, p)) : rTake ts k ⟨i, ds, tw⟩ = .ok v ⟨i + 1, ds, tw⟩ := by
  obtain ⟨e, hl⟩ := tokN_of h
  unfold rTake
  show (if i < ts.length then (if (tokN ts i).1 = k then Res.ok (tokN ts i).2.1 _ else _) else _) = _
  rw [if_pos hl, e, if_pos rfl]
theorem txtV_T' (a : List Nat) : txtV (T a) = a := by
  show (⟨a.toArray⟩ : Str).cps.toList = a
  simp
theorem name_ok {a : List Nat} {w : Ws} (h : Seg ts i (a :: w)) (n : isNm a) : rName ts ⟨i, ds, tw⟩ = .ok a ⟨i + 1, ds, tw⟩ := by
  obtain ⟨⟨p, h⟩, _⟩ := h
  unfold isNm at n
  rw [n] at h
  unfold rName
  rw [take_ok h, ok_bind, txtV_T']
theorem begin_ok {d : Nat} (h : d ≤ 12) (hl : ds.length < 400000) : rBegin ts d ⟨i, ds, tw⟩ = .ok () ⟨i, ds ++ [d], tw⟩ := by
  unfold rBegin
  rw [if_neg (by omega), if_pos hl]
theorem maxN_le {l : List Nat} {m : Nat} (h : ∀ x ∈ l, x ≤ m) : maxN l ≤ m := by
  induction l with
  | nil => exact Nat.zero_le _
  | cons a l ih =>
    show max a (maxN l) ≤ m
    have h1 := h a List.mem_cons_self
    have h2 := ih fun x hx => h x (List.mem_cons_of_mem _ hx)
    omega
theorem deepen_ok {sg : List Nat} (hs : sg ≠ []) (h : ∀ x ∈ sg, x + 1 ≤ 12) : rDeepen ts ds.length ⟨i, ds ++ sg, tw⟩ = .ok () ⟨i, ds ++ sg.map (· + 1), tw⟩ := by
  have hp : 0 < sg.length := List.length_pos_iff.mpr hs
  unfold rDeepen
  show (if (ds ++ sg).length ≤ ds.length then _ else if 12 < maxN (((ds ++ sg).drop ds.length).map (· + 1)) then _ else Res.ok () _) = _
  rw [if_neg (by rw [List.length_append]; omega), List.drop_left, List.take_left, if_neg]
  have : maxN (sg.map (· + 1)) ≤ 12 := maxN_le fun x hx => by
    obtain ⟨y, hy, rfl⟩ := List.mem_map.mp hx
    exact h y hy
  omega
end
end
section
open PySem PySem.Spec PyProof.Rows L2
/-! ### words and marks -/
def WM : Ws := ["method", "var", "end", "give", "fail", "if", "then", "else", "while", "do", "try", "catch", "keep", "always", "none", "true", "false", "self", "super", "new", "not", "and", "or", ":=", "<=", "(", ")", "{", "}", ",", ";", ".", "|", "=", "<", "+", "-", "*", "/"].map cds
theorem wm_fx : ∀ a ∈ WM, fx a = a := by decide +kernel
theorem wm_kind : ∀ a ∈ WM, (tk a).1 ≠ cds "number" ∧ (tk a).1 ≠ cds "text" ∧ (tk a).1 ≠ cds "name" := by decide +kernel
theorem beh_wm {s : List Nat} {l : Nat} (h : behN.lookup s = some l) : s ∈ WM ∧ levB s = l ∧ 1 ≤ l ∧ l ≤ 8 ∧ l ≠ 3 ∧ l ≠ 7 ∧ s ≠ cds ":=" ∧ s ≠ cds "," ∧ s ≠ cds "|" := by
  have key : ∀ p ∈ behN, p.1 ∈ WM ∧ 1 ≤ p.2 ∧ p.2 ≤ 8 ∧ p.2 ≠ 3 ∧ p.2 ≠ 7 ∧ p.1 ≠ cds ":=" ∧ p.1 ≠ cds "," ∧ p.1 ≠ cds "|" := by decide +kernel
  have mem : (s, l) ∈ behN := by
    have : ∀ (m : List (List Nat × Nat)), m.lookup s = some l → (s, l) ∈ m := by
      intro m
      induction m with
      | nil => intro h; cases h
      | cons q m ih =>
        intro h
        obtain ⟨a, b⟩ := q
        rw [List.lookup_cons] at h
        cases e : s == a with
        | true => rw [e] at h; cases h; rw [beq_iff_eq.mp e]; exact List.mem_cons_self
        | false => rw [e] at h; exact List.mem_cons_of_mem _ (ih h)
    exact this behN h
  obtain ⟨h1, h2, h3, h4, h5, h6, h7, h8⟩ := key _ mem
  refine ⟨h1, ?_, h2, h3, h4, h5, h6, h7, h8⟩
  unfold levB
  rw [h]
  rfl
theorem levB_cases (z : List Nat) : levB z = 0 ∨ behN.lookup z = some (levB z) := by
  unfold levB
  cases behN.lookup z with
  | none => exact .inl rfl
  | some l => exact .inr rfl
theorem levB_ne (z : List Nat) : levB z ≠ 3 ∧ levB z ≠ 7 := by
  rcases levB_cases z with h | h
  · rw [h]; decide
  · obtain ⟨_, _, _, _, h3, h7, _⟩ := beh_wm h
    exact ⟨h3, h7⟩
theorem fx_kind {a k : List Nat} {v : V} (h : tk a = (k, v)) (h1 : k ≠ cds "word") (h2 : k ≠ cds "mark") : fx a = [] := by
  unfold fx fixT
  rw [h]
  exact if_neg (fun z => z.elim h1 h2)
theorem nm_fx {a : List Nat} (h : isNm a) : fx a = [] := fx_kind h (by decide +kernel) (by decide +kernel)
theorem plain_cases {a : List Nat} {v : V} (h : plainL.lookup a = some v) : (a = cds "none" ∨ a = cds "true" ∨ a = cds "false") := by
  unfold plainL at h
  simp only [List.lookup] at h
  split at h
  · rename_i e; exact .inl (by simpa using e)
  · split at h
    · rename_i e; exact .inr (.inl (by simpa using e))
    · split at h
      · rename_i e; exact .inr (.inr (by simpa using e))
      · cases h
/-! ### how an expression begins -/
/-- words that begin statements, or end bodies -/
def EN : Ws := ["end", "else", "catch", "always", "}"].map cds
def SW : Ws := ["give", "fail", "while", "if", "try", "keep", "end", "else", "catch", "always", "}", ")"].map cds
def Hd (w : Ws) : Prop := ∃ a r, w = a :: r ∧ fx a ∉ SW ∧ ((tk a).1 = cds "name" → r = [] ∨ ∃ b r', r = b :: r' ∧ ∃ l, behN.lookup b = some l)
theorem Hd.append {w v : Ws} (h : Hd w) (hv : ∃ b r', v = b :: r' ∧ ∃ l, behN.lookup b = some l) : Hd (w ++ v) := by
  obtain ⟨a, r, rfl, h1, h2⟩ := h
  refine ⟨a, r ++ v, rfl, h1, fun n => .inr ?_⟩
  rcases h2 n with rfl | ⟨b, r', rfl, hb⟩
  · exact hv
  · exact ⟨b, r' ++ v, rfl, hb⟩
theorem Hd.one {a : List Nat} {r : Ws} (h : fx a ∉ SW) (n : (tk a).1 ≠ cds "name") : Hd (a :: r) := ⟨a, r, rfl, h, fun z => absurd z n⟩
theorem hd_wm {a : List Nat} {r : Ws} (h : a ∈ WM) (hs : a ∉ SW) : Hd (a :: r) := Hd.one (by rw [wm_fx a h]; exact hs) (wm_kind a h).2.2
theorem beh_dot : behN.lookup (cds ".") = some 8 := by decide +kernel
theorem ex_hd : ∀ {h lv : Nat} {t : Tr} {w : Ws} {ns : List Ws}, Ex lv h t w ns → Hd w := by
  intro h
  induction h with
  | zero => intro lv t w ns e; cases e
  | succ h ih =>
    intro lv t w ns e
    cases e with
    | num e => exact Hd.one (by rw [fx_kind e (by decide +kernel) (by decide +kernel)]; decide +kernel) (by rw [e]; show cds "number" ≠ cds "name"; decide +kernel)
    | text e => exact Hd.one (by rw [fx_kind e (by decide +kernel) (by decide +kernel)]; decide +kernel) (by rw [e]; show cds "text" ≠ cds "name"; decide +kernel)
    | word e =>
      rcases plain_cases e with rfl | rfl | rfl
      · exact hd_wm (by decide +kernel) (by decide +kernel)
      · exact hd_wm (by decide +kernel) (by decide +kernel)
      · exact hd_wm (by decide +kernel) (by decide +kernel)
    | self => exact hd_wm (by decide +kernel) (by decide +kernel)
    | new e => exact hd_wm (by decide +kernel) (by decide +kernel)
    | name e => exact ⟨_, [], rfl, by rw [nm_fx e]; decide +kernel, fun _ => .inl rfl⟩
    | par _ e => exact hd_wm (by decide +kernel) (by decide +kernel)
    | neg _ e => exact hd_wm (by decide +kernel) (by decide +kernel)
    | not _ e => exact hd_wm (by decide +kernel) (by decide +kernel)
    | bin hl _ _ e1 _ e2 => exact (ih e1).append ⟨_, _, rfl, _, hl⟩
    | send _ e _ _ => exact (ih e).append ⟨_, _, rfl, _, beh_dot⟩
    | sup _ _ => exact hd_wm (by decide +kernel) (by decide +kernel)
    | blk0 _ => exact hd_wm (by decide +kernel) (by decide +kernel)
    | blk _ _ _ _ => exact hd_wm (by decide +kernel) (by decide +kernel)
/-- how a statement begins -/
def SHd (w : Ws) : Prop := ∃ a r, w = a :: r ∧ fx a ∉ EN ∧ ((tk a).1 = cds "name" → r = [] ∨ ∃ b r', r = b :: r' ∧ fx b ∉ [cds ",", cds "|"])
theorem shd_wm {a : List Nat} {r : Ws} (h : a ∈ WM) (hs : a ∉ EN) : SHd (a :: r) := ⟨a, r, rfl, by rw [wm_fx a h]; exact hs, fun z => absurd z (wm_kind a h).2.2⟩
theorem en_sw : ∀ a ∈ EN, a ∈ SW := by decide +kernel
theorem st_hd {h : Nat} {t : Tr} {w : Ws} {ns : List Ws} (e : St h t w ns) : SHd w := by
  cases e with
  | eval _ e =>
    obtain ⟨a, r, rfl, h1, h2⟩ := ex_hd e
    refine ⟨a, r, rfl, fun z => h1 (en_sw _ z), fun n => ?_⟩
    rcases h2 n with h | ⟨b, r', h, l, hb⟩
    · exact .inl h
    · obtain ⟨hw, _, _, _, _, _, _, h1, h2⟩ := beh_wm hb
      refine .inr ⟨b, r', h, ?_⟩
      rw [wm_fx b hw]
      intro z
      rcases List.mem_cons.mp z with z | z
      · exact h1 z
      · exact h2 (List.mem_singleton.mp z)
  | set n _ e => exact ⟨_, _, rfl, by rw [nm_fx n]; decide +kernel, fun _ => .inr ⟨_, _, rfl, by rw [wm_fx _ (by decide +kernel)]; decide +kernel⟩⟩
  | gf g _ e => rcases g with rfl | rfl <;> exact shd_wm (by decide +kernel) (by decide +kernel)
  | whl _ _ _ => exact shd_wm (by decide +kernel) (by decide +kernel)
  | if0 _ _ _ => exact shd_wm (by decide +kernel) (by decide +kernel)
  | if1 _ _ _ _ => exact shd_wm (by decide +kernel) (by decide +kernel)
  | try_ _ _ _ => exact shd_wm (by decide +kernel) (by decide +kernel)
  | keep _ _ => exact shd_wm (by decide +kernel) (by decide +kernel)
/-! ### the ends of the loop -/
section
variable {ts : List Tk} {ex : Nat → Nat → RS → Res RS Tr} {bo : List (List Nat) → Nat → RS → Res RS (List Tr)} {i d p : Nat} {ds : List Nat} {tw : Option (List Nat)} {z : List Nat}
theorem goOn_lt {lv : Nat} (h : levB z < p) : goOn z p lv = false := by
  unfold goOn
  rw [decide_eq_false (by omega)]
  rfl
theorem go_end {f k lv : Nat} {t : Tr} {S : RS} (h : goOn z p lv = false) (hk : 1 ≤ k) : gExprGo ts ex p d f k t lv z S = .ok t S := by
  cases k with
  | zero => omega
  | succ k =>
    unfold gExprGo
    rw [h]
    exact if_neg Bool.false_ne_true
theorem of_opening {j lv : Nat} {t : Tr} {sg : List Nat} {tw' : Option (List Nat)} (h : gOpening ts ex bo p d ⟨i, ds ++ [d], tw⟩ = .ok (t, lv) ⟨j, ds ++ sg, tw'⟩) (n : Nx ts j z) (hd : d ≤ 12) (hl : ds.length < 400000) :
    gExpr ts ex bo p d ⟨i, ds, tw⟩ = gExprGo ts ex p d ds.length (ts.length + 1) t lv z ⟨j, ds ++ sg, tw'⟩ := by
  unfold gExpr
  rw [begin_ok hd hl, ok_bind, h, ok_bind, fixed0 n, ok_bind]
theorem opening_prim {t : Tr} {S' : RS} (n : Nx ts i z) (h0 : (aheadN.lookup z).getD 0 < p) (h : gPrimary ts ex bo d ⟨i, ds, tw⟩ = .ok t S') : gOpening ts ex bo p d ⟨i, ds, tw⟩ = .ok (t, 9) S' := by
  unfold gOpening
  rw [fixed0 n, ok_bind, if_pos h0, h, ok_bind]
theorem opening_ahead {t : Tr} {S' : RS} {nm : List Nat} (n : Nx ts i z) (h0 : ¬ (aheadN.lookup z).getD 0 < p) (hn : treesN.lookup z = some nm) (h : ex ((aheadN.lookup z).getD 0) (d + 1) ⟨i + 1, ds, tw⟩ = .ok t S') : gOpening ts ex bo p d ⟨i, ds, tw⟩ = .ok (.t [.s nm, t], (aheadN.lookup z).getD 0) S' := by
  unfold gOpening
  rw [fixed0 n, ok_bind, if_neg h0, expect_ok n, ok_bind, hn]
  show (ex _ _ _).bind _ = _
  rw [h, ok_bind]
theorem prim_plain {k : List Nat} {v : V} {q : Nat} (h : ts[i]? = some (k, v, q)) (hk : k = cds "number" ∨ k = cds "text") : gPrimary ts ex bo d ⟨i, ds, tw⟩ = .ok (.t [str "plain", plainTr v]) ⟨i + 1, ds, tw⟩ := by
  obtain ⟨e, hl⟩ := tokN_of h
  unfold gPrimary
  show (if i < ts.length then (if (tokN ts i).1 = _ ∨ (tokN ts i).1 = _ then (rTake ts (tokN ts i).1 _).bind _ else _) else _) = _
  rw [if_pos hl, e]
  show (if k = _ ∨ k = _ then (rTake ts k _).bind _ else _) = _
  rw [if_pos hk, take_ok h, ok_bind]
theorem prim_name {v : V} {q : Nat} (h : ts[i]? = some (cds "name", v, q)) : gPrimary ts ex bo d ⟨i, ds, tw⟩ = .ok (.t [str "name", plainTr v]) ⟨i + 1, ds, tw⟩ := by
  obtain ⟨e, hl⟩ := tokN_of h
  unfold gPrimary
  show (if i < ts.length then (if (tokN ts i).1 = _ ∨ (tokN ts i).1 = _ then _ else if (tokN ts i).1 = cds "name" then (rTake ts (tokN ts i).1 _).bind _ else _) else _) = _
  rw [if_pos hl, e]
  show (if cds "name" = cds "number" ∨ cds "name" = cds "text" then _ else if cds "name" = cds "name" then (rTake ts (cds "name") _).bind _ else _) = _
  rw [if_neg (by decide +kernel), if_pos rfl, take_ok h, ok_bind]
/-- what stands behind the first word -/
def gRest (ts : List Tk) (ex : Nat → Nat → RS → Res RS Tr) (bo : List (List Nat) → Nat → RS → Res RS (List Tr)) (d : Nat) (w : List Nat) (S : RS) : Res RS Tr :=
  if w = cds "{" then gBlock ts bo d S else if w = cds "super" then gSuper ts ex d S else
      (rAccept ts (cds "(") S).bind fun b S => if b = true then (ex 1 (d + 1) S).bind fun t S => (rExpect ts (cds ")") S).bind fun _ S => .ok t S else
      (rAccept ts (cds "new") S).bind fun b S => if b = true then (rTake ts (cds "class") S).bind fun v S => .ok (.t [str "new", plainTr v]) S else
      (rAccept ts (cds "self") S).bind fun b S => if b = true then .ok (.t [str "self"]) S else
      match plainL.lookup w with
      | none => rRefuse ts S
      | some v => (rExpect ts w S).bind fun _ S => .ok (.t [str "plain", plainTr v]) S
theorem prim_rest {a : List Nat} {w : Ws} (h : Seg ts i (a :: w)) (ha : a ∈ WM) : gPrimary ts ex bo d ⟨i, ds, tw⟩ = gRest ts ex bo d a ⟨i, ds, tw⟩ := by
  have n := h.nx
  rw [wm_fx a ha] at n
  obtain ⟨⟨q, h⟩, _⟩ := h
  obtain ⟨e, hl⟩ := tokN_of h
  obtain ⟨k1, k2, k3⟩ := wm_kind a ha
  unfold gPrimary
  show (if i < ts.length then (if (tokN ts i).1 = _ ∨ (tokN ts i).1 = _ then _ else if (tokN ts i).1 = cds "name" then _ else (rFixed ts 0 ⟨i, ds, tw⟩).bind _) else _) = _
  rw [if_pos hl, e]
  show (if (tk a).1 = _ ∨ (tk a).1 = _ then _ else if (tk a).1 = cds "name" then _ else (rFixed ts 0 ⟨i, ds, tw⟩).bind _) = _
  rw [if_neg (fun z => z.elim k1 k2), if_neg k3, fixed0 n, ok_bind]
  rfl
end
end
section
open PySem PySem.Spec PyProof.Rows L2
/-- an expression's tokens, read at a place as loose as it: what the loop over the signs goes on with -/
def EGood (ts : List Tk) (h : Nat) : Prop := ∀ {lv : Nat} {t : Tr} {w : Ws} {ns : List Ws}, Ex lv h t w ns → ∀ {n p d i : Nat} {ds : List Nat} {tw : Option (List Nat)} {z : List Nat}, h ≤ n → 1 ≤ p → p ≤ lv → d + h ≤ 13 → Seg ts i w → Nx ts (i + w.length) z → levB z ≤ lv → ds.length + 2 * w.length ≤ 400001 →
  ∃ (sg : List Nat) (k : Nat), sg ≠ [] ∧ (∀ x ∈ sg, x + 1 ≤ d + h) ∧ sg.length + 1 ≤ 2 * w.length ∧ ts.length + 1 ≤ k + w.length ∧
    gExpr ts (exN ts n).1 (exN ts n).2 p d ⟨i, ds, tw⟩ = gExprGo ts (exN ts n).1 p d ds.length k t lv z ⟨i + w.length, ds ++ sg, noteAll ns tw⟩
/-- .. up to its end -/
def EDone (ts : List Tk) (h : Nat) : Prop := ∀ {lv : Nat} {t : Tr} {w : Ws} {ns : List Ws}, Ex lv h t w ns → ∀ {n p d i : Nat} {ds : List Nat} {tw : Option (List Nat)} {z : List Nat}, h + 1 ≤ n → 1 ≤ p → p ≤ lv → d + h ≤ 13 → Seg ts i w → Nx ts (i + w.length) z → levB z < p → ds.length + 2 * w.length ≤ 400001 →
  ∃ sg : List Nat, sg ≠ [] ∧ (∀ x ∈ sg, x + 1 ≤ d + h) ∧ sg.length + 1 ≤ 2 * w.length ∧ (exN ts n).1 p d ⟨i, ds, tw⟩ = .ok t ⟨i + w.length, ds ++ sg, noteAll ns tw⟩
def SDone (ts : List Tk) (h : Nat) : Prop := ∀ {t : Tr} {w : Ws} {ns : List Ws}, St h t w ns → ∀ {n d i : Nat} {ds : List Nat} {tw : Option (List Nat)} {z : List Nat}, h ≤ n → d + h ≤ 13 → Seg ts i w → Nx ts (i + w.length) z → z ∈ cds ";" :: EN → ds.length + 2 * w.length ≤ 400000 →
  ∃ sg : List Nat, (∀ x ∈ sg, x + 1 ≤ d + h) ∧ sg.length ≤ 2 * w.length ∧ gSt ts (exN ts n).1 (exN ts n).2 d ⟨i, ds, tw⟩ = .ok t ⟨i + w.length, ds ++ sg, noteAll ns tw⟩
def BDone (ts : List Tk) (h : Nat) : Prop := ∀ {l : List Tr} {w : Ws} {ns : List Ws}, Bd h l w ns → ∀ {n d i : Nat} {ms : Ws} {ds : List Nat} {tw : Option (List Nat)} {z : List Nat}, h + 1 ≤ n → (∀ m ∈ ms, m ∈ EN) → z ∈ ms → d + h ≤ 13 → Seg ts i w → Nx ts (i + w.length) z → ds.length + 2 * w.length ≤ 400000 →
  ∃ sg : List Nat, (∀ x ∈ sg, x + 1 ≤ d + h) ∧ sg.length ≤ 2 * w.length ∧ (exN ts n).2 ms d ⟨i, ds, tw⟩ = .ok l ⟨i + w.length, ds ++ sg, noteAll ns tw⟩
theorem seg_len {ts : List Tk} {i : Nat} {w : Ws} {z : List Nat} (h : Nx ts (i + w.length) z) : w.length + 1 ≤ ts.length := by
  obtain ⟨t, h, _⟩ := h
  have := (List.getElem?_eq_some_iff.mp h).1
  omega
theorem EGood.done {ts : List Tk} {h : Nat} (g : EGood ts h) : EDone ts h := by
  intro lv t w ns e n p d i ds tw z hn hp hpl hd hs hx hz hl
  obtain ⟨m, rfl⟩ : ∃ m, n = m + 1 := ⟨n - 1, by omega⟩
  obtain ⟨sg, k, h1, h2, h3, h4, h5⟩ := g e (n := m) (p := p) (d := d) (i := i) (ds := ds) (tw := tw) (z := z) (by omega) hp hpl hd hs hx (by omega) hl
  refine ⟨sg, h1, h2, h3, ?_⟩
  show gExpr ts (exN ts m).1 (exN ts m).2 p d ⟨i, ds, tw⟩ = _
  have := seg_len hx
  rw [h5, go_end (goOn_lt hz) (by omega)]
section
variable {ts : List Tk} {n d i : Nat} {ds : List Nat} {tw : Option (List Nat)} {z : List Nat}
theorem app3 {a b c : List Nat} : a ++ b ++ c = a ++ (b ++ c) := List.append_assoc ..
/-- arguments behind the first -/
theorem al_done {h : Nat} (E : EDone ts h) : ∀ {l : List Tr} {w : Ws} {ns : List Ws}, Al h l w ns → ∀ {l0 : List Tr} {i k : Nat} {ds : List Nat} {tw : Option (List Nat)}, h + 1 ≤ n → d + h ≤ 13 → Seg ts i w → Nx ts (i + w.length) (cds ")") → l0.length + l.length ≤ 8 → l.length + 1 ≤ k → ds.length + 2 * w.length ≤ 400000 →
    ∃ sg : List Nat, (∀ x ∈ sg, x + 1 ≤ d + h) ∧ sg.length ≤ 2 * w.length ∧ gArgsGo ts (exN ts n).1 d k l0 ⟨i, ds, tw⟩ = .ok (l0 ++ l) ⟨i + w.length, ds ++ sg, noteAll ns tw⟩
  | [], w, ns, e, l0, i, k, ds, tw, hn, hd, hs, hx, hc, hk, hl => by
    cases e
    obtain ⟨k, rfl⟩ : ∃ m, k = m + 1 := ⟨k - 1, by omega⟩
    refine ⟨[], fun x hx => absurd hx List.not_mem_nil, Nat.zero_le _, ?_⟩
    unfold gArgsGo
    rw [accept_no (show Nx ts i (cds ")") from hx) (by decide +kernel), ok_bind, if_neg Bool.false_ne_true, List.append_nil, List.append_nil]
    rfl
  | t :: l, w, ns, e, l0, i, k, ds, tw, hn, hd, hs, hx, hc, hk, hl => by
    cases e with
    | @cons lv _ _ w1 n1 _ w2 n2 hlv e1 e2 =>
      obtain ⟨k, rfl⟩ : ∃ m, k = m + 1 := ⟨k - 1, by omega⟩
      rw [List.length_cons] at hc hk hx hl
      rw [List.length_append] at hx hl
      have nc := hs.nx
      rw [wm_fx _ (by decide +kernel)] at nc
      obtain ⟨_, hs2⟩ := hs
      obtain ⟨s1, s2⟩ := seg_append.mp hs2
      have hx1 : Nx ts (i + 1 + w1.length) (if l = [] then cds ")" else cds ",") := by
        cases e2 with
        | nil =>
          have : i + (w1.length + ([] : Ws).length + 1) = i + 1 + w1.length := by show i + (w1.length + 0 + 1) = _; omega
          rw [if_pos rfl, ← this]
          exact hx
        | cons _ _ _ =>
          have q := s2.nx
          rw [wm_fx _ (by decide +kernel)] at q
          rw [if_neg (List.cons_ne_nil _ _)]
          exact q
      have hlev : levB (if l = [] then cds ")" else cds ",") < 1 := by split <;> decide +kernel
      obtain ⟨sg1, g1, g2, g3, g4⟩ := E e1 (n := n) (p := 1) (d := d) (i := i + 1) (ds := ds) (tw := tw) hn (Nat.le_refl _) hlv hd s1 hx1 hlev (by omega)
      obtain ⟨sg2, q1, q2, q3⟩ := al_done E e2 (l0 := l0 ++ [t]) (i := i + 1 + w1.length) (k := k) (ds := ds ++ sg1) (tw := noteAll n1 tw) hn hd s2 (by rw [show i + 1 + w1.length + w2.length = i + (w1.length + w2.length + 1) by omega]; exact hx) (by rw [List.length_append]; show l0.length + 1 + l.length ≤ 8; omega) (by omega) (by rw [List.length_append]; omega)
      refine ⟨sg1 ++ sg2, fun x hx => (List.mem_append.mp hx).elim (g2 x) (q1 x), by rw [List.length_append, List.length_cons, List.length_append]; omega, ?_⟩
      unfold gArgsGo
      rw [accept_yes nc, ok_bind, if_pos rfl, if_neg (by omega), g4, ok_bind, q3, noteAll_append, List.append_assoc, List.append_assoc]
      show Res.ok _ (RS.mk _ _ _) = Res.ok _ (RS.mk _ _ _)
      rw [List.length_cons, List.length_append, show i + 1 + w1.length + w2.length = i + (w1.length + w2.length + 1) by omega]
      rfl
/-- arguments in their brackets -/
theorem ar_done {h : Nat} (E : EDone ts h) {l : List Tr} {w : Ws} {ns : List Ws} (e : Ar h l w ns) (hn : h + 1 ≤ n) (hd : d + h ≤ 13) (hs : Seg ts i (cds "(" :: (w ++ [cds ")"]))) (hl : ds.length + 2 * w.length ≤ 400000) :
    ∃ sg : List Nat, (∀ x ∈ sg, x + 1 ≤ d + h) ∧ sg.length ≤ 2 * w.length ∧ gArgs ts (exN ts n).1 d ⟨i, ds, tw⟩ = .ok l ⟨i + (w.length + 2), ds ++ sg, noteAll ns tw⟩ := by
  have nc := hs.nx
  rw [wm_fx _ (by decide +kernel)] at nc
  obtain ⟨_, hs2⟩ := hs
  obtain ⟨s1, s2⟩ := seg_append.mp hs2
  have nz := s2.nx
  rw [wm_fx _ (by decide +kernel)] at nz
  unfold gArgs
  rw [expect_ok nc, ok_bind]
  cases e with
  | nil =>
    refine ⟨[], fun x hx => absurd hx List.not_mem_nil, Nat.zero_le _, ?_⟩
    rw [accept_yes (show Nx ts (i + 1) (cds ")") from nz), ok_bind, if_pos rfl, List.append_nil]
    rfl
  | @cons lv _ t w1 n1 l w2 n2 hlv e1 e2 hc =>
    rw [List.length_append] at nz hl
    obtain ⟨q1, q2⟩ := seg_append.mp s1
    obtain ⟨a, r, ew, hf, _⟩ := ex_hd e1
    have nf : Nx ts (i + 1) (fx a) := by rw [ew] at q1; exact q1.nx
    have nf2 : fx a ≠ cds ")" := fun z => hf (by rw [z]; decide +kernel)
    rw [accept_no nf nf2, ok_bind, if_neg Bool.false_ne_true]
    have hx1 : Nx ts (i + 1 + w1.length) (if l = [] then cds ")" else cds ",") := by
      cases e2 with
      | nil => rw [if_pos rfl]; exact nz
      | cons _ _ _ =>
        have q := q2.nx
        rw [wm_fx _ (by decide +kernel)] at q
        rw [if_neg (List.cons_ne_nil _ _)]
        exact q
    have hlev : levB (if l = [] then cds ")" else cds ",") < 1 := by split <;> decide +kernel
    obtain ⟨sg1, g1, g2, g3, g4⟩ := E e1 (n := n) (p := 1) (d := d) (i := i + 1) (ds := ds) (tw := tw) hn (Nat.le_refl _) hlv hd q1 hx1 hlev (by omega)
    obtain ⟨sg2, z1, z2, z3⟩ := al_done E e2 (l0 := [t]) (i := i + 1 + w1.length) (k := 9) (ds := ds ++ sg1) (tw := noteAll n1 tw) hn hd q2 (by rw [show i + 1 + w1.length + w2.length = i + 1 + (w1.length + w2.length) by omega]; exact nz) (by show 1 + l.length ≤ 8; omega) (by omega) (by rw [List.length_append]; omega)
    refine ⟨sg1 ++ sg2, fun x hx => (List.mem_append.mp hx).elim (g2 x) (z1 x), by rw [List.length_append, List.length_append]; omega, ?_⟩
    rw [g4, ok_bind, z3, ok_bind, show i + 1 + w1.length + w2.length = i + 1 + (w1.length + w2.length) by omega, expect_ok nz, ok_bind, noteAll_append, List.append_assoc, List.length_append]
    show Res.ok _ (RS.mk _ _ _) = Res.ok _ (RS.mk _ _ _)
    rw [show i + 1 + (w1.length + w2.length) + 1 = i + (w1.length + w2.length + 2) by omega]
    rfl
/-! ### names with commas -/
theorem commas_cons (a : List Nat) : ∀ l : Ws, commas (a :: l) = a :: (l.flatMap fun b => [cds ",", b])
  | [] => rfl
  | b :: l => by
    show a :: cds "," :: commas (b :: l) = _
    rw [commas_cons b l]
    rfl
theorem names_go {most : Nat} : ∀ {l l0 : Ws} {i k : Nat}, (∀ x ∈ l, isNm x) → Seg ts i (l.flatMap fun b => [cds ",", b]) → Nx ts (i + 2 * l.length) z → z ≠ cds "," → l0.length + l.length ≤ most → l.length + 1 ≤ k → rNamesGo ts most k l0 ⟨i, ds, tw⟩ = .ok (l0 ++ l) ⟨i + 2 * l.length, ds, tw⟩
  | [], l0, i, k, hn, hs, hx, hz, hc, hk => by
    obtain ⟨k, rfl⟩ : ∃ m, k = m + 1 := ⟨k - 1, by omega⟩
    unfold rNamesGo
    rw [accept_no (show Nx ts i z from hx) hz, ok_bind, if_neg Bool.false_ne_true, List.append_nil]
    rfl
  | a :: l, l0, i, k, hn, hs, hx, hz, hc, hk => by
    rw [List.length_cons] at hc hk hx
    obtain ⟨k, rfl⟩ : ∃ m, k = m + 1 := ⟨k - 1, by omega⟩
    have hs' : Seg ts i (cds "," :: a :: (l.flatMap fun b => [cds ",", b])) := hs
    have nc := hs'.nx
    rw [wm_fx _ (by decide +kernel)] at nc
    unfold rNamesGo
    rw [accept_yes nc, ok_bind, if_pos rfl, if_neg (by omega), name_ok hs'.2 (hn a List.mem_cons_self), ok_bind,
      names_go (l := l) (l0 := l0 ++ [a]) (i := i + 1 + 1) (k := k) (fun x hx => hn x (List.mem_cons_of_mem _ hx)) hs'.2.2 (by rw [show i + 1 + 1 + 2 * l.length = i + 2 * (l.length + 1) by omega]; exact hx) hz (by rw [List.length_append]; show l0.length + 1 + l.length ≤ most; omega) (by omega), List.append_assoc]
    show Res.ok _ (RS.mk _ _ _) = Res.ok _ (RS.mk _ _ _)
    rw [List.length_cons, show i + 1 + 1 + 2 * l.length = i + 2 * (l.length + 1) by omega]
    rfl
theorem commas_len : ∀ {l : Ws}, l ≠ [] → (commas l).length + 1 = 2 * l.length
  | [], h => absurd rfl h
  | a :: l, _ => by
    rw [commas_cons, List.length_cons, List.length_cons]
    have : ∀ l : Ws, (l.flatMap fun b => [cds ",", b]).length = 2 * l.length := fun l => by
      induction l with
      | nil => rfl
      | cons b l ih => rw [List.flatMap_cons, List.length_append, ih]; simp only [List.length_cons, List.length_nil]; omega
    rw [this]
    omega
theorem names_done {most : Nat} {l : Ws} (h0 : l ≠ []) (hn : ∀ x ∈ l, isNm x) (hs : Seg ts i (commas l)) (hx : Nx ts (i + (commas l).length) z) (hz : z ≠ cds ",") (hc : l.length ≤ most) : rNames ts most ⟨i, ds, tw⟩ = .ok l ⟨i + (commas l).length, ds, tw⟩ := by
  have cl := commas_len h0
  cases l with
  | nil => exact absurd rfl h0
  | cons a l =>
    rw [commas_cons] at hs
    rw [List.length_cons] at cl hc
    have e : i + (commas (a :: l)).length = i + 1 + 2 * l.length := by omega
    rw [e] at hx ⊢
    unfold rNames
    rw [name_ok hs (hn a List.mem_cons_self), ok_bind, names_go (l0 := [a]) (fun x hx => hn x (List.mem_cons_of_mem _ hx)) hs.2 hx hz (by show 1 + l.length ≤ most; omega) (by omega)]
    rfl
theorem before_no {ms : Ws} {a : List Nat} {w : Ws} (hs : Seg ts i (a :: w)) (h : (tk a).1 ≠ cds "name") : rBefore ts ms ⟨i, ds, tw⟩ = .ok false ⟨i, ds, tw⟩ := by
  obtain ⟨⟨q, h1⟩, _⟩ := hs
  obtain ⟨e, hl⟩ := tokN_of h1
  unfold rBefore
  show (if i < ts.length then (if (tokN ts i).1 = _ then _ else Res.ok false _) else _) = _
  rw [if_pos hl, e, if_neg h]
theorem before_is {ms : Ws} {a : List Nat} {w : Ws} (hs : Seg ts i (a :: w)) (h : (tk a).1 = cds "name") (n : Nx ts (i + 1) z) : rBefore ts ms ⟨i, ds, tw⟩ = .ok (decide (z ∈ ms)) ⟨i, ds, tw⟩ := by
  obtain ⟨⟨q, h1⟩, _⟩ := hs
  obtain ⟨e, hl⟩ := tokN_of h1
  unfold rBefore
  show (if i < ts.length then (if (tokN ts i).1 = _ then (rFixed ts 1 ⟨i, ds, tw⟩).bind _ else _) else _) = _
  rw [if_pos hl, e, if_pos h, fixed1 n, ok_bind]
end
end
section
open PySem PySem.Spec PyProof.Rows L2
section
variable {ts : List Tk} {n d i : Nat} {ds : List Nat} {tw : Option (List Nat)} {z : List Nat}
theorem en_wm : ∀ a ∈ cds ";" :: EN, a ∈ WM ∧ levB a = 0 ∧ a ≠ cds ":=" ∧ a ≠ cds "," ∧ a ≠ cds "|" := by decide +kernel
/-- statements behind the first -/
theorem bl_done {h : Nat} (E : SDone ts h) : ∀ {l : List Tr} {w : Ws} {ns : List Ws}, Bl h l w ns → ∀ {l0 : List Tr} {i k : Nat} {ds : List Nat} {tw : Option (List Nat)}, h ≤ n → d + h ≤ 13 → Seg ts i w → Nx ts (i + w.length) z → z ∈ EN → l.length + 1 ≤ k → ds.length + 2 * w.length ≤ 400000 →
    ∃ sg : List Nat, (∀ x ∈ sg, x + 1 ≤ d + h) ∧ sg.length ≤ 2 * w.length ∧ gBodyGo ts (gSt ts (exN ts n).1 (exN ts n).2) d k l0 ⟨i, ds, tw⟩ = .ok (l0 ++ l) ⟨i + w.length, ds ++ sg, noteAll ns tw⟩
  | [], w, ns, e, l0, i, k, ds, tw, hn, hd, hs, hx, hz, hk, hl => by
    cases e
    obtain ⟨k, rfl⟩ : ∃ m, k = m + 1 := ⟨k - 1, by omega⟩
    refine ⟨[], fun x hx => absurd hx List.not_mem_nil, Nat.zero_le _, ?_⟩
    have hz2 : z ≠ cds ";" := fun e => by
      have : ∀ a ∈ EN, a ≠ cds ";" := by decide +kernel
      exact this z hz e
    unfold gBodyGo
    rw [accept_no (show Nx ts i z from hx) hz2, ok_bind, if_neg Bool.false_ne_true, List.append_nil, List.append_nil]
    rfl
  | t :: l, w, ns, e, l0, i, k, ds, tw, hn, hd, hs, hx, hz, hk, hl => by
    cases e with
    | @cons _ _ w1 n1 _ w2 n2 e1 e2 =>
      obtain ⟨k, rfl⟩ : ∃ m, k = m + 1 := ⟨k - 1, by omega⟩
      rw [List.length_cons] at hk hx hl
      rw [List.length_append] at hx hl
      have nc := hs.nx
      rw [wm_fx _ (by decide +kernel)] at nc
      obtain ⟨_, hs2⟩ := hs
      obtain ⟨s1, s2⟩ := seg_append.mp hs2
      have hx1 : Nx ts (i + 1 + w1.length) (if l = [] then z else cds ";") := by
        cases e2 with
        | nil =>
          have : i + (w1.length + ([] : Ws).length + 1) = i + 1 + w1.length := by show i + (w1.length + 0 + 1) = _; omega
          rw [if_pos rfl, ← this]
          exact hx
        | cons _ _ =>
          have q := s2.nx
          rw [wm_fx _ (by decide +kernel)] at q
          rw [if_neg (List.cons_ne_nil _ _)]
          exact q
      have hlev : (if l = [] then z else cds ";") ∈ cds ";" :: EN := by split; exact List.mem_cons_of_mem _ hz; exact List.mem_cons_self
      obtain ⟨sg1, g2, g3, g4⟩ := E e1 (n := n) (d := d) (i := i + 1) (ds := ds) (tw := tw) hn hd s1 hx1 hlev (by omega)
      obtain ⟨sg2, q1, q2, q3⟩ := bl_done E e2 (l0 := l0 ++ [t]) (i := i + 1 + w1.length) (k := k) (ds := ds ++ sg1) (tw := noteAll n1 tw) hn hd s2 (by rw [show i + 1 + w1.length + w2.length = i + (w1.length + w2.length + 1) by omega]; exact hx) hz (by omega) (by rw [List.length_append]; omega)
      refine ⟨sg1 ++ sg2, fun x hx => (List.mem_append.mp hx).elim (g2 x) (q1 x), by rw [List.length_append, List.length_cons, List.length_append]; omega, ?_⟩
      unfold gBodyGo
      rw [accept_yes nc, ok_bind, if_pos rfl, g4, ok_bind, q3, noteAll_append, List.append_assoc, List.append_assoc]
      show Res.ok _ (RS.mk _ _ _) = Res.ok _ (RS.mk _ _ _)
      rw [List.length_cons, List.length_append, show i + 1 + w1.length + w2.length = i + (w1.length + w2.length + 1) by omega]
      rfl
theorem bl_len {h : Nat} : ∀ {l : List Tr} {w : Ws} {ns : List Ws}, Bl h l w ns → l.length ≤ w.length
  | [], _, _, _ => Nat.zero_le _
  | t :: l, _, _, .cons _ r => by
    have := bl_len r
    rw [List.length_cons, List.length_cons, List.length_append]
    omega
/-- a body -/
theorem SDone.body {h : Nat} (E : SDone ts h) : BDone ts h := by
  intro l w ns e n d i ms ds tw z hn hms hz hd hs hx hl
  obtain ⟨n, rfl⟩ : ∃ m, n = m + 1 := ⟨n - 1, by omega⟩
  have hlen := seg_len hx
  show ∃ sg : List Nat, _ ∧ _ ∧ gBody ts (gSt ts (exN ts n).1 (exN ts n).2) ms d ⟨i, ds, tw⟩ = _
  unfold gBody
  cases e with
  | nil =>
    refine ⟨[], fun x hx => absurd hx List.not_mem_nil, Nat.zero_le _, ?_⟩
    rw [fixed0 (show Nx ts i z from hx), ok_bind, if_pos hz, List.append_nil]
    rfl
  | @cons _ t w1 n1 l w2 n2 e1 e2 =>
    rw [List.length_append] at hx hl hlen
    obtain ⟨s1, s2⟩ := seg_append.mp hs
    obtain ⟨a, r, ew, hf, _⟩ := st_hd e1
    have nf : Nx ts i (fx a) := by rw [ew] at s1; exact s1.nx
    have hx1 : Nx ts (i + w1.length) (if l = [] then z else cds ";") := by
      cases e2 with
      | nil => rw [if_pos rfl]; exact hx
      | cons _ _ =>
        have q := s2.nx
        rw [wm_fx _ (by decide +kernel)] at q
        rw [if_neg (List.cons_ne_nil _ _)]
        exact q
    have hlev : (if l = [] then z else cds ";") ∈ cds ";" :: EN := by split; exact List.mem_cons_of_mem _ (hms z hz); exact List.mem_cons_self
    obtain ⟨sg1, g2, g3, g4⟩ := E e1 (n := n) (d := d) (i := i) (ds := ds) (tw := tw) (by omega) hd s1 hx1 hlev (by omega)
    have bl := bl_len e2
    obtain ⟨sg2, z1, z2, z3⟩ := bl_done E e2 (l0 := [t]) (i := i + w1.length) (k := ts.length + 1) (ds := ds ++ sg1) (tw := noteAll n1 tw) (n := n) (by omega) hd s2 (by rw [Nat.add_assoc]; exact hx) (hms z hz) (by omega) (by rw [List.length_append]; omega)
    refine ⟨sg1 ++ sg2, fun x hx => (List.mem_append.mp hx).elim (g2 x) (z1 x), by rw [List.length_append, List.length_append]; omega, ?_⟩
    rw [fixed0 nf, ok_bind, if_neg (fun h => hf (hms _ h)), g4, ok_bind, z3, noteAll_append, List.append_assoc, List.length_append, Nat.add_assoc]
    rfl
/-! ### statements -/
theorem st_next {z : List Nat} (h : z ∈ cds ";" :: EN) : levB z < 1 := by rw [(en_wm z h).2.1]; decide
theorem gst_else {w : List Nat} {ex : Nat → Nat → RS → Res RS Tr} {bo : List (List Nat) → Nat → RS → Res RS (List Tr)} (hd : d ≤ 12) (hl : ds.length < 400000) (n0 : Nx ts i w) (h : w ∉ SW) :
    gSt ts ex bo d ⟨i, ds, tw⟩ = (rBefore ts [cds ":="] ⟨i, ds ++ [d], tw⟩).bind fun b S => if b = true then gSet ts ex d S else (ex 1 (d + 1) S).bind fun t S => .ok (.t [str "eval", t]) S := by
  have k : ∀ a ∈ SW, w ≠ a := fun a ha e => h (by rw [e]; exact ha)
  unfold gSt
  rw [begin_ok hd hl, ok_bind, fixed0 n0, ok_bind, if_neg (fun e => e.elim (k _ (by decide +kernel)) (k _ (by decide +kernel))), if_neg (k _ (by decide +kernel)), if_neg (k _ (by decide +kernel)), if_neg (k _ (by decide +kernel)), if_neg (k _ (by decide +kernel))]
theorem sd_step {h : Nat} (E : EDone ts h) (B : BDone ts h) : SDone ts (h + 1) := by
  intro t w ns e n d i ds tw z hn hd hs hx hz hl
  have hz1 := st_next hz
  cases e with
  | @eval lv _ t _ _ hlv e =>
    obtain ⟨a, r, ew, hf, hnm⟩ := ex_hd e
    have hw1 : 1 ≤ w.length := by rw [ew, List.length_cons]; omega
    have nf : Nx ts i (fx a) := by rw [ew] at hs; exact hs.nx
    obtain ⟨sg, g1, g2, g3, g4⟩ := E e (n := n) (p := 1) (d := d + 1) (i := i) (ds := ds ++ [d]) (tw := tw) hn (Nat.le_refl _) hlv (by omega) hs hx hz1 (by rw [List.length_append]; show ds.length + 1 + _ ≤ _; omega)
    refine ⟨d :: sg, fun x hx => ?_, by rw [List.length_cons]; omega, ?_⟩
    · rcases List.mem_cons.mp hx with rfl | hx
      · omega
      · have := g2 x hx; omega
    · rw [gst_else (by omega) (by omega) nf hf]
      have hb : rBefore ts [cds ":="] ⟨i, ds ++ [d], tw⟩ = .ok false ⟨i, ds ++ [d], tw⟩ := by
        by_cases hk : (tk a).1 = cds "name"
        · rcases hnm hk with rfl | ⟨b, r', rfl, l, hb⟩
          · rw [ew] at hx hs
            have e : decide (z ∈ [cds ":="]) = false := decide_eq_false fun m => (en_wm z hz).2.2.1 (List.mem_singleton.mp m)
            rw [before_is hs hk (show Nx ts (i + 1) z from hx), e]
          · rw [ew] at hs
            have q := hs.2.nx
            obtain ⟨bw, _, _, _, _, _, bn, _⟩ := beh_wm hb
            rw [wm_fx b bw] at q
            have e : decide (b ∈ [cds ":="]) = false := decide_eq_false fun m => bn (List.mem_singleton.mp m)
            rw [before_is hs hk q, e]
        · rw [ew] at hs
          exact before_no hs hk
      rw [hb, ok_bind, if_neg Bool.false_ne_true, g4, ok_bind, List.append_assoc]
      rfl
  | @set lv _ t w ns x hx0 hlv e =>
    rw [List.length_cons, List.length_cons] at hx hl
    obtain ⟨sg, g1, g2, g3, g4⟩ := E e (n := n) (p := 1) (d := d + 1) (i := i + 1 + 1) (ds := ds ++ [d]) (tw := tw) hn (Nat.le_refl _) hlv (by omega) hs.2.2 (by rw [show i + 1 + 1 + w.length = i + (w.length + 1 + 1) by omega]; exact hx) hz1 (by rw [List.length_append]; show ds.length + 1 + _ ≤ _; omega)
    refine ⟨d :: sg, fun x hx => ?_, by rw [List.length_cons, List.length_cons, List.length_cons]; omega, ?_⟩
    · rcases List.mem_cons.mp hx with rfl | hx
      · omega
      · have := g2 x hx; omega
    · have nf := hs.nx
      rw [nm_fx hx0] at nf
      have q := hs.2.nx
      rw [wm_fx _ (by decide +kernel)] at q
      have hk : (tk x).1 = cds "name" := by rw [hx0]
      have e : decide (cds ":=" ∈ [cds ":="]) = true := by decide +kernel
      rw [gst_else (by omega) (by omega) nf (by decide +kernel), before_is hs hk q, e, ok_bind, if_pos rfl]
      unfold gSet
      rw [name_ok hs hx0, ok_bind, expect_ok q, ok_bind, g4, ok_bind, List.append_assoc, List.length_cons, List.length_cons, show i + 1 + 1 + w.length = i + (w.length + 1 + 1) by omega]
      rfl
  | @gf lv _ t w ns g hg hlv e =>
    rw [List.length_cons] at hx hl
    have gw : g ∈ WM := by rcases hg with rfl | rfl <;> decide +kernel
    obtain ⟨sg, g1, g2, g3, g4⟩ := E e (n := n) (p := 1) (d := d + 1) (i := i + 1) (ds := ds ++ [d]) (tw := tw) hn (Nat.le_refl _) hlv (by omega) hs.2 (by rw [show i + 1 + w.length = i + (w.length + 1) by omega]; exact hx) hz1 (by rw [List.length_append]; show ds.length + 1 + _ ≤ _; omega)
    refine ⟨d :: sg, fun x hx => ?_, by rw [List.length_cons, List.length_cons]; omega, ?_⟩
    · rcases List.mem_cons.mp hx with rfl | hx
      · omega
      · have := g2 x hx; omega
    · have nf := hs.nx
      rw [wm_fx g gw] at nf
      unfold gSt
      rw [begin_ok (by omega) (by omega), ok_bind, fixed0 nf, ok_bind, if_pos hg, expect_ok nf, ok_bind, g4, ok_bind, List.append_assoc, List.length_cons, show i + 1 + w.length = i + (w.length + 1) by omega]
      rfl
  | @whl lv _ t w ns l w2 n2 hlv e b =>
    simp only [List.length_cons, List.length_append, List.length_nil] at hx hl
    have nf := hs.nx
    rw [wm_fx _ (by decide +kernel)] at nf
    obtain ⟨s1, s2⟩ := seg_append.mp hs.2
    have q := s2.nx
    rw [wm_fx _ (by decide +kernel)] at q
    obtain ⟨s3, s4⟩ := seg_append.mp s2.2
    have r := s4.nx
    rw [wm_fx _ (by decide +kernel)] at r
    obtain ⟨sg, g1, g2, g3, g4⟩ := E e (n := n) (p := 1) (d := d + 1) (i := i + 1) (ds := ds ++ [d]) (tw := tw) hn (Nat.le_refl _) hlv (by omega) s1 q (by decide +kernel) (by rw [List.length_append]; show ds.length + 1 + _ ≤ _; omega)
    obtain ⟨sg2, b2, b3, b4⟩ := B b (n := n) (d := d + 1) (i := i + 1 + w.length + 1) (ms := [cds "end"]) (ds := ds ++ [d] ++ sg) (tw := noteAll ns tw) (z := cds "end") hn (by decide +kernel) (by decide +kernel) (by omega) s3 r (by rw [List.length_append, List.length_append]; show ds.length + 1 + _ + _ ≤ _; omega)
    refine ⟨d :: (sg ++ sg2), fun x hx => ?_, by simp only [List.length_cons, List.length_append, List.length_nil]; omega, ?_⟩
    · rcases List.mem_cons.mp hx with rfl | hx
      · omega
      · rcases List.mem_append.mp hx with hx | hx
        · have := g2 x hx; omega
        · have := b2 x hx; omega
    · unfold gSt
      rw [begin_ok (by omega) (by omega), ok_bind, fixed0 nf, ok_bind, if_neg (by decide +kernel), if_pos rfl]
      unfold gWhile
      rw [expect_ok nf, ok_bind, g4, ok_bind, expect_ok q, ok_bind, b4, ok_bind, expect_ok r, ok_bind, noteAll_append]
      simp only [List.length_cons, List.length_append, List.length_nil, List.append_assoc, List.cons_append, List.nil_append]
      rw [show i + 1 + w.length + 1 + w2.length + 1 = i + (w.length + (w2.length + (0 + 1) + 1) + 1) by omega]
  | @if0 lv _ t w ns l w2 n2 hlv e b =>
    simp only [List.length_cons, List.length_append, List.length_nil] at hx hl
    have nf := hs.nx
    rw [wm_fx _ (by decide +kernel)] at nf
    obtain ⟨s1, s2⟩ := seg_append.mp hs.2
    have q := s2.nx
    rw [wm_fx _ (by decide +kernel)] at q
    obtain ⟨s3, s4⟩ := seg_append.mp s2.2
    have r := s4.nx
    rw [wm_fx _ (by decide +kernel)] at r
    obtain ⟨sg, g1, g2, g3, g4⟩ := E e (n := n) (p := 1) (d := d + 1) (i := i + 1) (ds := ds ++ [d]) (tw := tw) hn (Nat.le_refl _) hlv (by omega) s1 q (by decide +kernel) (by rw [List.length_append]; show ds.length + 1 + _ ≤ _; omega)
    obtain ⟨sg2, b2, b3, b4⟩ := B b (n := n) (d := d + 1) (i := i + 1 + w.length + 1) (ms := [cds "else", cds "end"]) (ds := ds ++ [d] ++ sg) (tw := noteAll ns tw) (z := cds "end") hn (by decide +kernel) (by decide +kernel) (by omega) s3 r (by rw [List.length_append, List.length_append]; show ds.length + 1 + _ + _ ≤ _; omega)
    refine ⟨d :: (sg ++ sg2), fun x hx => ?_, by simp only [List.length_cons, List.length_append, List.length_nil]; omega, ?_⟩
    · rcases List.mem_cons.mp hx with rfl | hx
      · omega
      · rcases List.mem_append.mp hx with hx | hx
        · have := g2 x hx; omega
        · have := b2 x hx; omega
    · unfold gSt
      rw [begin_ok (by omega) (by omega), ok_bind, fixed0 nf, ok_bind, if_neg (by decide +kernel), if_neg (by decide +kernel), if_pos rfl]
      unfold gIf
      rw [expect_ok nf, ok_bind, g4, ok_bind, expect_ok q, ok_bind, b4, ok_bind, accept_no r (by decide +kernel), ok_bind, if_neg Bool.false_ne_true, expect_ok r, ok_bind, noteAll_append]
      simp only [List.length_cons, List.length_append, List.length_nil, List.append_assoc, List.cons_append, List.nil_append]
      rw [show i + 1 + w.length + 1 + w2.length + 1 = i + (w.length + (w2.length + (0 + 1) + 1) + 1) by omega]
  | @if1 lv _ t w ns l w2 n2 l3 w3 n3 hlv e b c =>
    simp only [List.length_cons, List.length_append, List.length_nil] at hx hl
    have nf := hs.nx
    rw [wm_fx _ (by decide +kernel)] at nf
    obtain ⟨s1, s2⟩ := seg_append.mp hs.2
    have q := s2.nx
    rw [wm_fx _ (by decide +kernel)] at q
    obtain ⟨s3, s4⟩ := seg_append.mp s2.2
    have r := s4.nx
    rw [wm_fx _ (by decide +kernel)] at r
    obtain ⟨s5, s6⟩ := seg_append.mp s4.2
    have u := s6.nx
    rw [wm_fx _ (by decide +kernel)] at u
    obtain ⟨sg, g1, g2, g3, g4⟩ := E e (n := n) (p := 1) (d := d + 1) (i := i + 1) (ds := ds ++ [d]) (tw := tw) hn (Nat.le_refl _) hlv (by omega) s1 q (by decide +kernel) (by rw [List.length_append]; show ds.length + 1 + _ ≤ _; omega)
    obtain ⟨sg2, b2, b3, b4⟩ := B b (n := n) (d := d + 1) (i := i + 1 + w.length + 1) (ms := [cds "else", cds "end"]) (ds := ds ++ [d] ++ sg) (tw := noteAll ns tw) (z := cds "else") hn (by decide +kernel) (by decide +kernel) (by omega) s3 r (by rw [List.length_append, List.length_append]; show ds.length + 1 + _ + _ ≤ _; omega)
    obtain ⟨sg3, c2, c3, c4⟩ := B c (n := n) (d := d + 1) (i := i + 1 + w.length + 1 + w2.length + 1) (ms := [cds "end"]) (ds := ds ++ [d] ++ sg ++ sg2) (tw := noteAll n2 (noteAll ns tw)) (z := cds "end") hn (by decide +kernel) (by decide +kernel) (by omega) s5 u (by rw [List.length_append, List.length_append, List.length_append]; show ds.length + 1 + _ + _ + _ ≤ _; omega)
    refine ⟨d :: (sg ++ (sg2 ++ sg3)), fun x hx => ?_, by simp only [List.length_cons, List.length_append, List.length_nil]; omega, ?_⟩
    · rcases List.mem_cons.mp hx with rfl | hx
      · omega
      · rcases List.mem_append.mp hx with hx | hx
        · have := g2 x hx; omega
        · rcases List.mem_append.mp hx with hx | hx
          · have := b2 x hx; omega
          · have := c2 x hx; omega
    · unfold gSt
      rw [begin_ok (by omega) (by omega), ok_bind, fixed0 nf, ok_bind, if_neg (by decide +kernel), if_neg (by decide +kernel), if_pos rfl]
      unfold gIf
      rw [expect_ok nf, ok_bind, g4, ok_bind, expect_ok q, ok_bind, b4, ok_bind, accept_yes r, ok_bind, if_pos rfl, c4, ok_bind, expect_ok u, ok_bind, noteAll_append, noteAll_append]
      simp only [List.length_cons, List.length_append, List.length_nil, List.append_assoc, List.cons_append, List.nil_append]
      rw [show i + 1 + w.length + 1 + w2.length + 1 + w3.length + 1 = i + (w.length + (w2.length + (w3.length + (0 + 1) + 1) + 1) + 1) by omega]
  | @try_ _ l w ns x l2 w2 n2 b hx0 c =>
    simp only [List.length_cons, List.length_append, List.length_nil] at hx hl
    have nf := hs.nx
    rw [wm_fx _ (by decide +kernel)] at nf
    obtain ⟨s1, s2⟩ := seg_append.mp hs.2
    have q := s2.nx
    rw [wm_fx _ (by decide +kernel)] at q
    have qt := s2.2.2.nx
    rw [wm_fx _ (by decide +kernel)] at qt
    obtain ⟨s3, s4⟩ := seg_append.mp s2.2.2.2
    have r := s4.nx
    rw [wm_fx _ (by decide +kernel)] at r
    obtain ⟨sg, g2, g3, g4⟩ := B b (n := n) (d := d + 1) (i := i + 1) (ms := [cds "catch"]) (ds := ds ++ [d]) (tw := tw) (z := cds "catch") hn (by decide +kernel) (by decide +kernel) (by omega) s1 q (by rw [List.length_append]; show ds.length + 1 + _ ≤ _; omega)
    obtain ⟨sg2, b2, b3, b4⟩ := B c (n := n) (d := d + 1) (i := i + 1 + w.length + 1 + 1 + 1) (ms := [cds "end"]) (ds := ds ++ [d] ++ sg) (tw := noteAll ns tw) (z := cds "end") hn (by decide +kernel) (by decide +kernel) (by omega) s3 r (by rw [List.length_append, List.length_append]; show ds.length + 1 + _ + _ ≤ _; omega)
    refine ⟨d :: (sg ++ sg2), fun x hx => ?_, by simp only [List.length_cons, List.length_append, List.length_nil]; omega, ?_⟩
    · rcases List.mem_cons.mp hx with rfl | hx
      · omega
      · rcases List.mem_append.mp hx with hx | hx
        · have := g2 x hx; omega
        · have := b2 x hx; omega
    · unfold gSt
      rw [begin_ok (by omega) (by omega), ok_bind, fixed0 nf, ok_bind, if_neg (by decide +kernel), if_neg (by decide +kernel), if_neg (by decide +kernel), if_pos rfl]
      unfold gTry
      rw [expect_ok nf, ok_bind, g4, ok_bind, expect_ok q, ok_bind, name_ok s2.2 hx0, ok_bind, expect_ok qt, ok_bind, b4, ok_bind, expect_ok r, ok_bind, noteAll_append]
      simp only [List.length_cons, List.length_append, List.length_nil, List.append_assoc, List.cons_append, List.nil_append]
      rw [show i + 1 + w.length + 1 + 1 + 1 + w2.length + 1 = i + (w.length + (w2.length + (0 + 1) + 1 + 1 + 1) + 1) by omega]
  | @keep _ l w ns l2 w2 n2 b c =>
    simp only [List.length_cons, List.length_append, List.length_nil] at hx hl
    have nf := hs.nx
    rw [wm_fx _ (by decide +kernel)] at nf
    obtain ⟨s1, s2⟩ := seg_append.mp hs.2
    have q := s2.nx
    rw [wm_fx _ (by decide +kernel)] at q
    obtain ⟨s3, s4⟩ := seg_append.mp s2.2
    have r := s4.nx
    rw [wm_fx _ (by decide +kernel)] at r
    obtain ⟨sg, g2, g3, g4⟩ := B b (n := n) (d := d + 1) (i := i + 1) (ms := [cds "always"]) (ds := ds ++ [d]) (tw := tw) (z := cds "always") hn (by decide +kernel) (by decide +kernel) (by omega) s1 q (by rw [List.length_append]; show ds.length + 1 + _ ≤ _; omega)
    obtain ⟨sg2, b2, b3, b4⟩ := B c (n := n) (d := d + 1) (i := i + 1 + w.length + 1) (ms := [cds "end"]) (ds := ds ++ [d] ++ sg) (tw := noteAll ns tw) (z := cds "end") hn (by decide +kernel) (by decide +kernel) (by omega) s3 r (by rw [List.length_append, List.length_append]; show ds.length + 1 + _ + _ ≤ _; omega)
    refine ⟨d :: (sg ++ sg2), fun x hx => ?_, by simp only [List.length_cons, List.length_append, List.length_nil]; omega, ?_⟩
    · rcases List.mem_cons.mp hx with rfl | hx
      · omega
      · rcases List.mem_append.mp hx with hx | hx
        · have := g2 x hx; omega
        · have := b2 x hx; omega
    · unfold gSt
      rw [begin_ok (by omega) (by omega), ok_bind, fixed0 nf, ok_bind, if_neg (by decide +kernel), if_neg (by decide +kernel), if_neg (by decide +kernel), if_neg (by decide +kernel), if_pos rfl]
      unfold gKeep
      rw [expect_ok nf, ok_bind, g4, ok_bind, expect_ok q, ok_bind, b4, ok_bind, expect_ok r, ok_bind, noteAll_append]
      simp only [List.length_cons, List.length_append, List.length_nil, List.append_assoc, List.cons_append, List.nil_append]
      rw [show i + 1 + w.length + 1 + w2.length + 1 = i + (w.length + (w2.length + (0 + 1) + 1) + 1) by omega]
end
end
section
open PySem PySem.Spec PyProof.Rows L2
section
variable {ts : List Tk} {n d i p : Nat} {ds : List Nat} {tw : Option (List Nat)} {z : List Nat}
/-- what begins with a word or mark and is tight -/
theorem tight {h : Nat} {t : Tr} {w r : Ws} {ns : List Ws} {a : List Nat} {sg : List Nat} (ew : w = a :: r) (ha : a ∈ WM) (h0 : (aheadN.lookup a).getD 0 = 0) (hp : 1 ≤ p) (hd : d + h ≤ 13) (hh : 1 ≤ h) (hs : Seg ts i w) (hx : Nx ts (i + w.length) z) (hl : ds.length < 400000)
    (h1 : ∀ x ∈ sg, x + 1 ≤ d + h) (h2 : sg.length + 2 ≤ 2 * w.length) (g : gRest ts (exN ts n).1 (exN ts n).2 d a ⟨i, ds ++ [d], tw⟩ = .ok t ⟨i + w.length, ds ++ [d] ++ sg, noteAll ns tw⟩) :
    ∃ (sg : List Nat) (k : Nat), sg ≠ [] ∧ (∀ x ∈ sg, x + 1 ≤ d + h) ∧ sg.length + 1 ≤ 2 * w.length ∧ ts.length + 1 ≤ k + w.length ∧
      gExpr ts (exN ts n).1 (exN ts n).2 p d ⟨i, ds, tw⟩ = gExprGo ts (exN ts n).1 p d ds.length k t 9 z ⟨i + w.length, ds ++ sg, noteAll ns tw⟩ := by
  have hs' := hs
  rw [ew] at hs'
  have nf := hs'.nx
  rw [wm_fx a ha] at nf
  refine ⟨d :: sg, ts.length + 1, List.cons_ne_nil _ _, fun x hx => ?_, by rw [List.length_cons]; omega, by omega, ?_⟩
  · rcases List.mem_cons.mp hx with rfl | hx
    · omega
    · exact h1 x hx
  · refine of_opening ?_ hx (by omega) hl
    refine opening_prim nf (by omega) ?_
    rw [prim_rest hs' ha, g, List.append_assoc]
    rfl
/-- one token that is no word or mark -/
theorem leaf {h : Nat} {t : Tr} {a : List Nat} (hp : 1 ≤ p) (hd : d + (h + 1) ≤ 13) (hs : Seg ts i [a]) (hx : Nx ts (i + 1) z) (hl : ds.length < 400000) (hf : fx a = []) (g : ∀ q ds, ts[i]? = some ((tk a).1, (tk a).2, q) → gPrimary ts (exN ts n).1 (exN ts n).2 d ⟨i, ds, tw⟩ = .ok t ⟨i + 1, ds, tw⟩) :
    ∃ (sg : List Nat) (k : Nat), sg ≠ [] ∧ (∀ x ∈ sg, x + 1 ≤ d + (h + 1)) ∧ sg.length + 1 ≤ 2 * [a].length ∧ ts.length + 1 ≤ k + [a].length ∧
      gExpr ts (exN ts n).1 (exN ts n).2 p d ⟨i, ds, tw⟩ = gExprGo ts (exN ts n).1 p d ds.length k t 9 z ⟨i + [a].length, ds ++ sg, noteAll [] tw⟩ := by
  have nf := hs.nx
  rw [hf] at nf
  obtain ⟨⟨q, h1⟩, _⟩ := hs
  refine ⟨[d], ts.length + 1, List.cons_ne_nil _ _, fun x hx => by rw [List.mem_singleton.mp hx]; omega, Nat.le_refl _, by omega, ?_⟩
  exact of_opening (opening_prim nf (show 0 < p by omega) (g q _ h1)) hx (by omega) hl
theorem eg_step {h : Nat} (G : EGood ts h) (E : EDone ts h) (B : BDone ts h) : EGood ts (h + 1) := by
  intro lv t w ns e n p d i ds tw z hn hp hpl hd hs hx hz hl
  cases e with
  | @num _ a x e =>
    exact leaf hp hd hs hx (by simp at hl; omega) (fx_kind e (by decide +kernel) (by decide +kernel)) fun q ds hq => by
      rw [e] at hq
      exact prim_plain hq (.inl rfl)
  | @text _ a b e =>
    exact leaf hp hd hs hx (by simp at hl; omega) (fx_kind e (by decide +kernel) (by decide +kernel)) fun q ds hq => by
      rw [e] at hq
      rw [prim_plain hq (.inr rfl)]
      show Res.ok (Tr.t [str "plain", .s (⟨b.toArray⟩ : Str).cps.toList]) _ = _
      rw [show (⟨b.toArray⟩ : Str).cps.toList = b from txtV_T' b]
  | @name _ a e =>
    exact leaf hp hd hs hx (by simp at hl; omega) (nm_fx e) fun q ds hq => by
      rw [e] at hq
      rw [prim_name hq]
      show Res.ok (Tr.t [str "name", .s (⟨a.toArray⟩ : Str).cps.toList]) _ = _
      rw [show (⟨a.toArray⟩ : Str).cps.toList = a from txtV_T' a]
  | @word _ a v e =>
    have nf := hs.nx
    have key : ∀ b ∈ [cds "none", cds "true", cds "false"], b ∈ WM ∧ (aheadN.lookup b).getD 0 = 0 ∧ b ≠ cds "{" ∧ b ≠ cds "super" ∧ b ≠ cds "(" ∧ b ≠ cds "new" ∧ b ≠ cds "self" := by decide +kernel
    have ha : a ∈ [cds "none", cds "true", cds "false"] := by
      rcases plain_cases e with rfl | rfl | rfl <;> decide +kernel
    obtain ⟨k1, k2, k3, k4, k5, k6, k7⟩ := key a ha
    rw [wm_fx a k1] at nf
    refine tight (sg := []) (h := h + 1) rfl k1 k2 hp hd (by omega) hs hx (by simp at hl; omega) (fun x hx => absurd hx List.not_mem_nil) (by simp) ?_
    unfold gRest
    rw [if_neg k3, if_neg k4, accept_no nf k5, ok_bind, if_neg Bool.false_ne_true, accept_no nf k6, ok_bind, if_neg Bool.false_ne_true, accept_no nf k7, ok_bind, if_neg Bool.false_ne_true, e]
    show (rExpect ts a _).bind _ = _
    rw [expect_ok nf, ok_bind, List.append_nil]
    rfl
  | self =>
    have nf := hs.nx
    rw [wm_fx _ (by decide +kernel)] at nf
    refine tight (sg := []) (h := h + 1) rfl (by decide +kernel) (by decide +kernel) hp hd (by omega) hs hx (by simp at hl; omega) (fun x hx => absurd hx List.not_mem_nil) (by simp) ?_
    unfold gRest
    rw [if_neg (by decide +kernel), if_neg (by decide +kernel), accept_no nf (by decide +kernel), ok_bind, if_neg Bool.false_ne_true, accept_no nf (by decide +kernel), ok_bind, if_neg Bool.false_ne_true, accept_yes nf, ok_bind, if_pos rfl, List.append_nil]
    rfl
  | @new _ a e =>
    have nf := hs.nx
    rw [wm_fx _ (by decide +kernel)] at nf
    obtain ⟨⟨q, hq⟩, _⟩ := hs.2
    rw [e] at hq
    refine tight (sg := []) (h := h + 1) rfl (by decide +kernel) (by decide +kernel) hp hd (by omega) hs hx (by simp at hl; omega) (fun x hx => absurd hx List.not_mem_nil) (by simp) ?_
    unfold gRest
    rw [if_neg (by decide +kernel), if_neg (by decide +kernel), accept_no nf (by decide +kernel), ok_bind, if_neg Bool.false_ne_true, accept_yes nf, ok_bind, if_pos rfl, take_ok hq, ok_bind, List.append_nil]
    show Res.ok (Tr.t [str "new", .s (⟨a.toArray⟩ : Str).cps.toList]) _ = _
    rw [show (⟨a.toArray⟩ : Str).cps.toList = a from txtV_T' a]
    rfl
  | @par lv1 _ t w ns h1 e =>
    simp only [List.length_cons, List.length_append, List.length_nil] at hl
    have nf := hs.nx
    rw [wm_fx _ (by decide +kernel)] at nf
    obtain ⟨s1, s2⟩ := seg_append.mp hs.2
    have q := s2.nx
    rw [wm_fx _ (by decide +kernel)] at q
    obtain ⟨sg, g1, g2, g3, g4⟩ := E e (n := n) (p := 1) (d := d + 1) (i := i + 1) (ds := ds ++ [d]) (tw := tw) hn (Nat.le_refl _) h1 (by omega) s1 q (by decide +kernel) (by rw [List.length_append]; show ds.length + 1 + _ ≤ _; omega)
    refine tight (sg := sg) (h := h + 1) rfl (by decide +kernel) (by decide +kernel) hp hd (by omega) hs hx (by omega) (fun x hx => by have := g2 x hx; omega) (by simp only [List.length_cons, List.length_append, List.length_nil]; omega) ?_
    unfold gRest
    rw [if_neg (by decide +kernel), if_neg (by decide +kernel), accept_yes nf, ok_bind, if_pos rfl, g4, ok_bind, expect_ok q, ok_bind]
    simp only [List.length_cons, List.length_append, List.length_nil]
    rw [show i + 1 + w.length + 1 = i + (w.length + (0 + 1) + 1) by omega]
  | @neg lv1 _ t w ns h1 e =>
    rw [List.length_cons] at hl hx
    have nf := hs.nx
    rw [wm_fx _ (by decide +kernel)] at nf
    have hz7 : levB z < 7 := by have := (levB_ne z).2; omega
    obtain ⟨sg, g1, g2, g3, g4⟩ := E e (n := n) (p := 7) (d := d + 1) (i := i + 1) (ds := ds ++ [d]) (tw := tw) hn (by decide) h1 (by omega) hs.2 (by rw [show i + 1 + w.length = i + (w.length + 1) by omega]; exact hx) hz7 (by rw [List.length_append]; show ds.length + 1 + _ ≤ _; omega)
    refine ⟨d :: sg, ts.length + 1, List.cons_ne_nil _ _, fun x hx => ?_, by rw [List.length_cons, List.length_cons]; omega, by omega, ?_⟩
    · rcases List.mem_cons.mp hx with rfl | hx
      · omega
      · have := g2 x hx; omega
    · have la : (aheadN.lookup (cds "-")).getD 0 = 7 := by decide +kernel
      refine of_opening ?_ hx (by omega) (by omega)
      have := opening_ahead (ts := ts) (ex := (exN ts n).1) (bo := (exN ts n).2) (p := p) (d := d) (i := i) (ds := ds ++ [d]) (tw := tw) (nm := cds "neg") nf (by rw [la]; omega) (by decide +kernel) (by rw [la]; exact g4)
      rw [this, la, List.append_assoc, List.length_cons, show i + 1 + w.length = i + (w.length + 1) by omega]
      rfl
  | @not lv1 _ t w ns h1 e =>
    rw [List.length_cons] at hl hx
    have nf := hs.nx
    rw [wm_fx _ (by decide +kernel)] at nf
    have hz7 : levB z < 3 := by have := (levB_ne z).1; omega
    obtain ⟨sg, g1, g2, g3, g4⟩ := E e (n := n) (p := 3) (d := d + 1) (i := i + 1) (ds := ds ++ [d]) (tw := tw) hn (by decide) h1 (by omega) hs.2 (by rw [show i + 1 + w.length = i + (w.length + 1) by omega]; exact hx) hz7 (by rw [List.length_append]; show ds.length + 1 + _ ≤ _; omega)
    refine ⟨d :: sg, ts.length + 1, List.cons_ne_nil _ _, fun x hx => ?_, by rw [List.length_cons, List.length_cons]; omega, by omega, ?_⟩
    · rcases List.mem_cons.mp hx with rfl | hx
      · omega
      · have := g2 x hx; omega
    · have la : (aheadN.lookup (cds "not")).getD 0 = 3 := by decide +kernel
      refine of_opening ?_ hx (by omega) (by omega)
      have := opening_ahead (ts := ts) (ex := (exN ts n).1) (bo := (exN ts n).2) (p := p) (d := d) (i := i) (ds := ds ++ [d]) (tw := tw) (nm := cds "not") nf (by rw [la]; omega) (by decide +kernel) (by rw [la]; exact g4)
      rw [this, la, List.append_assoc, List.length_cons, show i + 1 + w.length = i + (w.length + 1) by omega]
      rfl
  | @bin l lv1 lv2 _ s t1 t2 w1 w2 n1 n2 hb hdot h1 e1 h2 e2 =>
    simp only [List.length_cons, List.length_append] at hl hx
    obtain ⟨sw, sl, l1, l8, l3, l7, _, _, _⟩ := beh_wm hb
    obtain ⟨s1, s2⟩ := seg_append.mp hs
    have q := s2.nx
    rw [wm_fx s sw] at q
    have hll : lv ≤ lv1 := by split at h1 <;> omega
    obtain ⟨sg, k, g1, g2, g3, g4, g5⟩ := G e1 (n := n) (p := p) (d := d) (i := i) (ds := ds) (tw := tw) (z := s) (by omega) hp (by omega) (by omega) s1 q (by omega) (by omega)
    have hw1 : 1 ≤ w1.length := by
      obtain ⟨a, r, ew, _⟩ := ex_hd e1
      rw [ew, List.length_cons]; omega
    have hx2 : Nx ts (i + w1.length + 1 + w2.length) z := by rw [show i + w1.length + 1 + w2.length = i + (w1.length + (w2.length + 1)) by omega]; exact hx
    obtain ⟨sg2, b1, b2, b3, b4⟩ := E e2 (n := n) (p := lv + 1) (d := d + 1) (i := i + w1.length + 1) (ds := ds ++ sg.map (· + 1)) (tw := noteAll n1 tw) hn (by omega) h2 (by omega) s2.2 hx2 (by omega) (by rw [List.length_append, List.length_map]; omega)
    have hk : 1 ≤ k := by
      have := seg_len (w := w1) (i := i) q
      omega
    obtain ⟨k, rfl⟩ : ∃ m, k = m + 1 := ⟨k - 1, by omega⟩
    refine ⟨sg.map (· + 1) ++ sg2, k, by simp [g1], fun x hx => ?_, by simp only [List.length_append, List.length_map, List.length_cons]; omega, by simp only [List.length_append, List.length_cons]; omega, ?_⟩
    · rcases List.mem_append.mp hx with hx | hx
      · obtain ⟨y, hy, rfl⟩ := List.mem_map.mp hx
        have := g2 y hy; omega
      · have := b2 x hx; omega
    · have hgo : goOn s p lv1 = true := by
        unfold goOn
        rw [sl, decide_eq_true hpl]
        by_cases h4 : lv = 4
        · rw [if_pos h4] at h1
          rw [decide_eq_true (show 4 < lv1 by omega)]
          simp
        · simp [h4]
      have hsign : gSign ts (exN ts n).1 s lv d t1 ⟨i + w1.length + 1, ds ++ sg.map (· + 1), noteAll n1 tw⟩ = .ok (binT s t1 t2) ⟨i + w1.length + 1 + w2.length, ds ++ sg.map (· + 1) ++ sg2, noteAll n2 (noteAll n1 tw)⟩ := by
        unfold gSign binT
        rw [if_neg hdot]
        by_cases ha : s = cds "and" ∨ s = cds "or"
        · rw [if_pos ha, if_pos ha, b4, ok_bind]
        · rw [if_neg ha, if_neg ha, b4, ok_bind]
      rw [g5]
      show (if goOn s p lv1 = true then _ else _) = _
      rw [if_pos hgo, deepen_ok g1 (fun x hx => by have := g2 x hx; omega), ok_bind, expect_ok q, ok_bind, hb]
      show (gSign ts (exN ts n).1 s lv d t1 _).bind _ = _
      rw [hsign, ok_bind, fixed0 hx2, ok_bind, noteAll_append, List.append_assoc]
      simp only [List.length_append, List.length_cons]
      rw [show i + w1.length + 1 + w2.length = i + (w1.length + (w2.length + 1)) by omega]
  | @send lv1 _ t w ns x l w2 n2 h8 e hx0 a =>
    simp only [List.length_cons, List.length_append, List.length_nil] at hl hx
    obtain ⟨s1, s2⟩ := seg_append.mp hs
    have q := s2.nx
    rw [wm_fx _ (by decide +kernel)] at q
    have ld : levB (cds ".") = 8 := by decide +kernel
    obtain ⟨sg, k, g1, g2, g3, g4, g5⟩ := G e (n := n) (p := p) (d := d) (i := i) (ds := ds) (tw := tw) (z := cds ".") (by omega) hp (by omega) (by omega) s1 q (by omega) (by omega)
    have hx2 : Nx ts (i + w.length + 1 + 1 + (w2.length + 2)) z := by rw [show i + w.length + 1 + 1 + (w2.length + 2) = i + (w.length + (w2.length + (0 + 1) + 1 + 1 + 1)) by omega]; exact hx
    obtain ⟨sg2, b2, b3, b4⟩ := ar_done (n := n) (d := d + 1) (i := i + w.length + 1 + 1) (ds := ds ++ sg.map (· + 1)) (tw := noteAll ns tw) E a hn (by omega) s2.2.2 (by rw [List.length_append, List.length_map]; omega)
    have hk : 1 ≤ k := by
      have := seg_len (w := w) (i := i) q
      omega
    obtain ⟨k, rfl⟩ : ∃ m, k = m + 1 := ⟨k - 1, by omega⟩
    refine ⟨sg.map (· + 1) ++ sg2, k, by simp [g1], fun x hx => ?_, by simp only [List.length_append, List.length_map, List.length_cons, List.length_nil]; omega, by simp only [List.length_append, List.length_cons, List.length_nil]; omega, ?_⟩
    · rcases List.mem_append.mp hx with hx | hx
      · obtain ⟨y, hy, rfl⟩ := List.mem_map.mp hx
        have := g2 y hy; omega
      · have := b2 x hx; omega
    · have hgo : goOn (cds ".") p lv1 = true := by
        unfold goOn
        rw [ld, decide_eq_true hpl]
        simp
      have hsign : gSign ts (exN ts n).1 (cds ".") 8 d t ⟨i + w.length + 1, ds ++ sg.map (· + 1), noteAll ns tw⟩ = .ok (.t [str "send", t, .s x, .t l]) ⟨i + w.length + 1 + 1 + (w2.length + 2), ds ++ sg.map (· + 1) ++ sg2, noteAll n2 (noteAll ns tw)⟩ := by
        unfold gSign
        rw [if_pos rfl, name_ok s2.2 hx0, ok_bind, b4, ok_bind]
      rw [g5]
      show (if goOn (cds ".") p lv1 = true then _ else _) = _
      rw [if_pos hgo, deepen_ok g1 (fun x hx => by have := g2 x hx; omega), ok_bind, expect_ok q, ok_bind, beh_dot]
      show (gSign ts (exN ts n).1 (cds ".") 8 d t _).bind _ = _
      rw [hsign, ok_bind, fixed0 hx2, ok_bind, noteAll_append, List.append_assoc]
      simp only [List.length_append, List.length_cons, List.length_nil]
      rw [show i + w.length + 1 + 1 + (w2.length + 2) = i + (w.length + (w2.length + (0 + 1) + 1 + 1 + 1)) by omega]
  | @sup _ x l w2 n2 hx0 a =>
    simp only [List.length_cons, List.length_append, List.length_nil] at hl
    have nf := hs.nx
    rw [wm_fx _ (by decide +kernel)] at nf
    have q := hs.2.nx
    rw [wm_fx _ (by decide +kernel)] at q
    obtain ⟨sg2, b2, b3, b4⟩ := ar_done (n := n) (d := d + 1) (i := i + 1 + 1 + 1) (ds := ds ++ [d]) (tw := tw) E a hn (by omega) hs.2.2.2 (by rw [List.length_append]; show ds.length + 1 + _ ≤ _; omega)
    refine tight (sg := sg2) (h := h + 1) rfl (by decide +kernel) (by decide +kernel) hp hd (by omega) hs hx (by omega) (fun x hx => by have := b2 x hx; omega) (by simp only [List.length_cons, List.length_append, List.length_nil]; omega) ?_
    unfold gRest
    rw [if_neg (by decide +kernel), if_pos rfl]
    unfold gSuper
    rw [expect_ok nf, ok_bind, expect_ok q, ok_bind, name_ok hs.2.2 hx0, ok_bind, b4, ok_bind]
    simp only [List.length_cons, List.length_append, List.length_nil]
    rw [show i + 1 + 1 + 1 + (w2.length + 2) = i + (w2.length + (0 + 1) + 1 + 1 + 1 + 1) by omega]
  | @blk0 _ l w ns b =>
    simp only [List.length_cons, List.length_append, List.length_nil] at hl
    have nf := hs.nx
    rw [wm_fx _ (by decide +kernel)] at nf
    obtain ⟨s1, s2⟩ := seg_append.mp hs.2
    have q := s2.nx
    rw [wm_fx _ (by decide +kernel)] at q
    obtain ⟨sg, b2, b3, b4⟩ := B b (n := n) (d := d + 1) (i := i + 1) (ms := [cds "}"]) (ds := ds ++ [d]) (tw := tw) (z := cds "}") hn (by decide +kernel) (by decide +kernel) (by omega) s1 q (by rw [List.length_append]; show ds.length + 1 + _ ≤ _; omega)
    have hbef : rBefore ts [cds ",", cds "|"] ⟨i + 1, ds ++ [d], tw⟩ = .ok false ⟨i + 1, ds ++ [d], tw⟩ := by
      cases b with
      | nil => exact before_no hs.2 (wm_kind _ (by decide +kernel)).2.2
      | @cons _ t w1 n1 l w2 n2 e1 e2 =>
        obtain ⟨a, r, ew, hf, hnm⟩ := st_hd e1
        by_cases hk : (tk a).1 = cds "name"
        · have s1' := s1
          rw [ew] at s1'
          rcases hnm hk with rfl | ⟨b, r', rfl, hb⟩
          · have n2x : Nx ts (i + 1 + 1) (if l = [] then cds "}" else cds ";") := by
              cases e2 with
              | nil =>
                rw [if_pos rfl]
                rw [ew] at q
                exact q
              | cons _ _ =>
                rw [if_neg (List.cons_ne_nil _ _)]
                have := s1'.2.nx
                rw [wm_fx _ (by decide +kernel)] at this
                exact this
            rw [before_is s1' hk n2x]
            have : decide ((if l = [] then cds "}" else cds ";") ∈ [cds ",", cds "|"]) = false := by split <;> decide +kernel
            rw [this]
          · rw [before_is s1' hk s1'.2.nx, decide_eq_false hb]
        · rw [ew] at s1
          exact before_no s1 hk
    refine tight (sg := sg) (h := h + 1) rfl (by decide +kernel) (by decide +kernel) hp hd (by omega) hs hx (by omega) (fun x hx => by have := b2 x hx; omega) (by simp only [List.length_cons, List.length_append, List.length_nil]; omega) ?_
    unfold gRest
    rw [if_pos rfl]
    unfold gBlock
    rw [expect_ok nf, ok_bind, hbef, ok_bind, if_neg Bool.false_ne_true, b4, ok_bind, expect_ok q, ok_bind]
    simp only [List.length_cons, List.length_append, List.length_nil]
    rw [show i + 1 + w.length + 1 = i + (w.length + (0 + 1) + 1) by omega]
  | @blk _ ps l w ns hps h4 hnm b =>
    simp only [List.length_cons, List.length_append, List.length_nil] at hl
    have nf := hs.nx
    rw [wm_fx _ (by decide +kernel)] at nf
    obtain ⟨s1, s2⟩ := seg_append.mp hs.2
    have q := s2.nx
    rw [wm_fx _ (by decide +kernel)] at q
    obtain ⟨s3, s4⟩ := seg_append.mp s2.2
    have r := s4.nx
    rw [wm_fx _ (by decide +kernel)] at r
    have cl := commas_len hps
    obtain ⟨sg, b2, b3, b4⟩ := B b (n := n) (d := d + 1) (i := i + 1 + (commas ps).length + 1) (ms := [cds "}"]) (ds := ds ++ [d]) (tw := twGo ps tw ps.length) (z := cds "}") hn (by decide +kernel) (by decide +kernel) (by omega) s3 r (by rw [List.length_append]; show ds.length + 1 + _ ≤ _; omega)
    have hbef : rBefore ts [cds ",", cds "|"] ⟨i + 1, ds ++ [d], tw⟩ = .ok true ⟨i + 1, ds ++ [d], tw⟩ := by
      cases ps with
      | nil => exact absurd rfl hps
      | cons a ps =>
        have hk : (tk a).1 = cds "name" := by rw [hnm a List.mem_cons_self]
        cases ps with
        | nil =>
          have e : decide (cds "|" ∈ [cds ",", cds "|"]) = true := by decide +kernel
          rw [before_is s1 hk (show Nx ts (i + 1 + 1) (cds "|") from q), e]
        | cons c ps =>
          have e : decide (cds "," ∈ [cds ",", cds "|"]) = true := by decide +kernel
          have s1' : Seg ts (i + 1) (a :: cds "," :: commas (c :: ps)) := s1
          have q2 := s1'.2.nx
          rw [wm_fx _ (by decide +kernel)] at q2
          rw [before_is s1' hk q2, e]
    refine tight (sg := sg) (h := h + 1) rfl (by decide +kernel) (by decide +kernel) hp hd (by omega) hs hx (by omega) (fun x hx => by have := b2 x hx; omega) (by simp only [List.length_cons, List.length_append, List.length_nil]; omega) ?_
    unfold gRest
    rw [if_pos rfl]
    unfold gBlock
    rw [expect_ok nf, ok_bind, hbef, ok_bind, if_pos rfl, names_done hps hnm s1 q (by decide +kernel) h4, ok_bind, expect_ok q, ok_bind]
    show (rNote ps _).bind _ = _
    unfold rNote
    rw [ok_bind, b4, ok_bind, expect_ok r, ok_bind]
    simp only [List.length_cons, List.length_append, List.length_nil]
    rw [show i + 1 + (commas ps).length + 1 + w.length + 1 = i + ((commas ps).length + (w.length + (0 + 1) + 1) + 1) by omega]
    rfl
theorem all_good (ts : List Tk) : ∀ h, EGood ts h ∧ SDone ts h
  | 0 => by
    refine ⟨?_, ?_⟩
    · intro lv t w ns e; cases e
    · intro t w ns e; cases e
  | h + 1 => by
    obtain ⟨g, s⟩ := all_good ts h
    exact ⟨eg_step g g.done s.body, sd_step g.done s.body⟩
end
end
section
/-! Written rows of tokens, and their reading. -/
open PySem PySem.Spec PyProof.Rows L2
open TL (numL tl_num numL_digits numL_ne numL_val numL_len numL_lt numL_step)
theorem drawn_tk {k a : List Nat} {v : V} (d : Drawn k v a) : tk a = (k, v) := by
  have h := (drawn_one (rest := []) d (.inl rfl)).1
  rw [List.append_nil] at h
  unfold tk
  rw [h]
/-- a token as it is written -/
def Tok (a : List Nat) : Prop := ∃ k v, Drawn k v a
theorem Tok.ne {a : List Nat} (h : Tok a) : a ≠ [] ∧ a.length ≤ 202 := by
  obtain ⟨k, v, d⟩ := h
  obtain ⟨_, c, r, e, _⟩ := drawn_one (rest := []) d (.inl rfl)
  exact ⟨by rw [e]; exact List.cons_ne_nil _ _, d.len.1⟩
theorem name_nm {a : List Nat} (h : IsName a) : isNm a := drawn_tk (.name h)
theorem name_tok {a : List Nat} (h : IsName a) : Tok a := ⟨_, _, .name h⟩
theorem wm_tok : ∀ a ∈ WM, Tok a := by
  have key : ∀ a ∈ WM, a ∈ WL ∨ a ∈ MLs := by decide +kernel
  intro a ha
  rcases key a ha with h | h
  · exact ⟨_, _, .word h⟩
  · exact ⟨_, _, .mark h⟩
/-- what is written of a row: three signs more for each token -/
def wt : Ws → Nat
  | [] => 0
  | a :: w => a.length + 3 + wt w
theorem wt_append : ∀ u v : Ws, wt (u ++ v) = wt u + wt v
  | [], v => by rw [List.nil_append]; show _ = 0 + _; omega
  | a :: u, v => by show a.length + 3 + wt (u ++ v) = a.length + 3 + wt u + wt v; rw [wt_append u v]; omega
theorem wt_len : ∀ w : Ws, 3 * w.length ≤ wt w
  | [] => Nat.le_refl _
  | a :: w => by have := wt_len w; rw [List.length_cons]; show _ ≤ a.length + 3 + wt w; omega
def dueOf (w : Ws) (ps : List Nat) : List Tk := List.zipWith (fun a p => ((tk a).1, (tk a).2, p)) w ps
theorem due_len {w : Ws} {ps : List Nat} (h : ps.length = w.length) : (dueOf w ps).length = w.length := by
  unfold dueOf
  rw [List.length_zipWith, h, Nat.min_self]
theorem seg_due : ∀ {w : Ws} {ps : List Nat} {pre post : List Tk}, ps.length = w.length → Seg (pre ++ dueOf w ps ++ post) pre.length w
  | [], _, _, _, _ => True.intro
  | a :: w, [], _, _, h => by cases h
  | a :: w, p :: ps, pre, post, h => by
    refine ⟨⟨p, ?_⟩, ?_⟩
    · rw [List.append_assoc, List.getElem?_append_right (Nat.le_refl _), Nat.sub_self]
      rfl
    · have := seg_due (w := w) (ps := ps) (pre := pre ++ [((tk a).1, (tk a).2, p)]) (post := post) (Nat.succ.inj h)
      rw [List.length_append] at this
      have e : pre ++ [((tk a).1, (tk a).2, p)] ++ dueOf w ps ++ post = pre ++ dueOf (a :: w) (p :: ps) ++ post := by
        rw [List.append_assoc pre]
        rfl
      rw [e] at this
      exact this
theorem seg_end {w : Ws} {ps : List Nat} {cs : List Nat} (h : ps.length = w.length) : Seg (endTks cs (dueOf w ps)) 0 w := by
  have := seg_due (w := w) (ps := ps) (pre := []) (post := [(cds "nothing", T [], cs.length)]) h
  exact this
theorem nx_end {w : Ws} {ps : List Nat} {cs : List Nat} (h : ps.length = w.length) : (endTks cs (dueOf w ps))[w.length]? = some (cds "nothing", T [], cs.length) := by
  unfold endTks
  rw [List.getElem?_append_right (by rw [due_len h]; exact Nat.le_refl _), due_len h, Nat.sub_self]
  rfl
theorem nx_end' {w : Ws} {ps : List Nat} {cs : List Nat} (h : ps.length = w.length) : Nx (endTks cs (dueOf w ps)) (0 + w.length) [] := by
  refine ⟨_, by rw [Nat.zero_add]; exact nx_end h, ?_⟩
  unfold fixT
  exact if_neg (show ¬ (cds "nothing" = cds "word" ∨ cds "nothing" = cds "mark") by decide +kernel)
/-- the whole text is an expression -/
theorem read_ex {lv : Nat} {t : Tr} {w : Ws} {ns : List Ws} {ps cs : List Nat} (e : Ex lv 11 t w ns) (hlv : 1 ≤ lv) (hp : ps.length = w.length) (hw : w.length ≤ 100000) :
    ∃ ds, ((exN (endTks cs (dueOf w ps)) 14).1 1 2 ⟨0, [], none⟩).bind (fun t S => (rTake (endTks cs (dueOf w ps)) (cds "nothing") S).bind fun _ S => .ok t S) = .ok t ⟨w.length + 1, ds, noteAll ns none⟩ := by
  obtain ⟨sg, _, _, _, h⟩ := EGood.done (all_good (endTks cs (dueOf w ps)) 11).1 e (n := 14) (p := 1) (d := 2) (i := 0) (ds := []) (tw := none) (z := []) (by decide) (Nat.le_refl _) hlv (by decide) (seg_end hp) (nx_end' hp) (by decide) (by show 0 + _ ≤ _; omega)
  refine ⟨[] ++ sg, ?_⟩
  have q := nx_end (cs := cs) hp
  rw [h, ok_bind, Nat.zero_add, take_ok q, ok_bind]
theorem note_nodup {l : Ws} (h : l.Nodup) : ∀ {t : Option (List Nat)} {i : Nat}, i ≤ l.length → twGo l t i = t
  | t, 0, _ => rfl
  | t, i + 1, hi => by
    show (if twGo l t i = none ∧ l.getD i [] ∈ l.take i then some (l.getD i []) else twGo l t i) = t
    rw [note_nodup h (t := t) (i := i) (by omega), if_neg]
    intro z
    have hlt : i < l.length := by omega
    have e : l.getD i [] = l[i] := by rw [List.getD_eq_getElem?_getD, List.getElem?_eq_getElem hlt]; rfl
    rw [e] at z
    obtain ⟨j, hj, ej⟩ := List.getElem_of_mem z.2
    rw [List.length_take] at hj
    rw [List.getElem_take] at ej
    have e1 := h.idxOf_getElem j (by omega)
    have e2 := h.idxOf_getElem i hlt
    rw [ej, e2] at e1
    omega
theorem noteAll_nodup : ∀ {ns : List Ws} {t : Option (List Nat)}, (∀ l ∈ ns, l.Nodup) → noteAll ns t = t
  | [], _, _ => rfl
  | l :: ns, t, h => by
    show noteAll ns (twGo l t l.length) = t
    rw [note_nodup (h l List.mem_cons_self) (Nat.le_refl _), noteAll_nodup fun x hx => h x (List.mem_cons_of_mem _ hx)]
end
section
open PySem PySem.Spec PyProof.Rows L2
mutual
theorem trd_mono : ∀ {t : Tr} {n m : Nat}, TrD n t → n ≤ m → TrD m t
  | .t l, n + 1, m, h, hm => by
    obtain ⟨m, rfl⟩ : ∃ k, m = k + 1 := ⟨m - 1, by omega⟩
    exact ⟨h.1, trds_mono h.2 (by omega)⟩
  | .t _, 0, _, h, _ => False.elim h
  | .s _, n, m, h, hm => by
    cases m with
    | zero => cases n with
      | zero => exact h
      | succ n => omega
    | succ m => exact True.intro
  | .i _, n, m, h, hm => by
    cases m with
    | zero => cases n with
      | zero => exact h
      | succ n => omega
    | succ m => exact True.intro
  | .b _, n, m, h, hm => by
    cases m with
    | zero => cases n with
      | zero => exact h
      | succ n => omega
    | succ m => exact True.intro
  | .n, n, m, h, hm => by
    cases m with
    | zero => cases n with
      | zero => exact h
      | succ n => omega
    | succ m => exact True.intro
theorem trds_mono : ∀ {l : List Tr} {n m : Nat}, (∀ t ∈ l, TrD n t) → n ≤ m → ∀ t ∈ l, TrD m t
  | [], _, _, _, _ => fun t ht => absurd ht List.not_mem_nil
  | x :: l, n, m, h, hm => fun t ht => by
    rcases List.mem_cons.mp ht with e | ht
    · rw [e]; exact trd_mono (h x List.mem_cons_self) hm
    · exact trds_mono (fun t ht => h t (List.mem_cons_of_mem _ ht)) hm t ht
end
/-- a tuple of few -/
theorem trd_t {n : Nat} {l : List Tr} (hl : l.length < 1000000) (h : ∀ t ∈ l, TrD n t) : TrD (n + 1) (.t l) := ⟨hl, h⟩
theorem trd_cons {n : Nat} {x : Tr} {l : List Tr} (h : TrD n x) (r : ∀ t ∈ l, TrD n t) : ∀ t ∈ x :: l, TrD n t := fun t ht => by
  rcases List.mem_cons.mp ht with e | ht
  · rw [e]; exact h
  · exact r t ht
theorem trd_nil {n : Nat} : ∀ t ∈ ([] : List Tr), TrD n t := fun t ht => absurd ht List.not_mem_nil
theorem trd_s {n : Nat} {a : List Nat} : TrD (n + 1) (.s a) := True.intro
theorem trd_plain {n : Nat} (v : V) : TrD (n + 1) (plainTr v) := by cases v <;> exact True.intro
theorem trd_names {n : Nat} {ps : Ws} (h : ps.length ≤ 900000) : TrD (n + 2) (.t (ps.map Tr.s)) := ⟨by rw [List.length_map]; omega, fun t ht => by
  obtain ⟨a, _, rfl⟩ := List.mem_map.mp ht
  exact True.intro⟩
def EDp (h : Nat) : Prop := ∀ {lv : Nat} {t : Tr} {w : Ws} {ns : List Ws}, Ex lv h t w ns → w.length ≤ 900000 → TrD (2 * h + 1) t
def SDp (h : Nat) : Prop := ∀ {t : Tr} {w : Ws} {ns : List Ws}, St h t w ns → w.length ≤ 900000 → TrD (2 * h + 1) t
theorem al_dep {h : Nat} (E : EDp h) : ∀ {l : List Tr} {w : Ws} {ns : List Ws}, Al h l w ns → w.length ≤ 900000 → ∀ t ∈ l, TrD (2 * h + 1) t
  | _, _, _, .nil, _ => trd_nil
  | _, _, _, .cons _ e r, hw => by
    rw [List.length_cons, List.length_append] at hw
    exact trd_cons (E e (by omega)) (al_dep E r (by omega))
theorem ar_dep {h : Nat} (E : EDp h) {l : List Tr} {w : Ws} {ns : List Ws} (a : Ar h l w ns) (hw : w.length ≤ 900000) : TrD (2 * h + 2) (.t l) := by
  cases a with
  | nil => exact trd_t (by show 0 < 1000000; decide) trd_nil
  | cons _ e r h7 =>
    rw [List.length_append] at hw
    exact trd_t (by rw [List.length_cons]; omega) (trd_cons (E e (by omega)) (al_dep E r (by omega)))
theorem bl_dep {h : Nat} (S : SDp h) : ∀ {l : List Tr} {w : Ws} {ns : List Ws}, Bl h l w ns → w.length ≤ 900000 → ∀ t ∈ l, TrD (2 * h + 1) t
  | _, _, _, .nil, _ => trd_nil
  | _, _, _, .cons e r, hw => by
    rw [List.length_cons, List.length_append] at hw
    exact trd_cons (S e (by omega)) (bl_dep S r (by omega))
theorem bd_dep {h : Nat} (S : SDp h) {l : List Tr} {w : Ws} {ns : List Ws} (a : Bd h l w ns) (hw : w.length ≤ 900000) : TrD (2 * h + 2) (.t l) := by
  cases a with
  | nil => exact trd_t (by show 0 < 1000000; decide) trd_nil
  | cons e r =>
    have := bl_len r
    rw [List.length_append] at hw
    exact trd_t (by rw [List.length_cons]; omega) (trd_cons (S e (by omega)) (bl_dep S r (by omega)))
theorem dep_step {h : Nat} (E : EDp h) (S : SDp h) : EDp (h + 1) ∧ SDp (h + 1) := by
  have two : 2 * (h + 1) + 1 = 2 * h + 2 + 1 := by omega
  refine ⟨?_, ?_⟩
  · intro lv t w ns e hw
    rw [two]
    cases e with
    | num _ => exact trd_t (by show 2 < 1000000; decide) (trd_cons trd_s (trd_cons True.intro trd_nil))
    | text _ => exact trd_t (by show 2 < 1000000; decide) (trd_cons trd_s (trd_cons True.intro trd_nil))
    | word _ => exact trd_t (by show 2 < 1000000; decide) (trd_cons trd_s (trd_cons (trd_plain _) trd_nil))
    | self => exact trd_t (by show 1 < 1000000; decide) (trd_cons trd_s trd_nil)
    | new _ => exact trd_t (by show 2 < 1000000; decide) (trd_cons trd_s (trd_cons True.intro trd_nil))
    | name _ => exact trd_t (by show 2 < 1000000; decide) (trd_cons trd_s (trd_cons True.intro trd_nil))
    | par _ e =>
      simp only [List.length_cons, List.length_append, List.length_nil] at hw
      exact trd_mono (E e (by omega)) (by omega)
    | neg _ e =>
      simp only [List.length_cons] at hw
      exact trd_t (by show 2 < 1000000; decide) (trd_cons trd_s (trd_cons (trd_mono (E e (by omega)) (by omega)) trd_nil))
    | not _ e =>
      simp only [List.length_cons] at hw
      exact trd_t (by show 2 < 1000000; decide) (trd_cons trd_s (trd_cons (trd_mono (E e (by omega)) (by omega)) trd_nil))
    | bin _ _ _ e1 _ e2 =>
      simp only [List.length_cons, List.length_append] at hw
      have d1 := trd_mono (E e1 (by omega)) (show 2 * h + 1 ≤ 2 * h + 2 by omega)
      have d2 := trd_mono (E e2 (by omega)) (show 2 * h + 1 ≤ 2 * h + 2 by omega)
      unfold binT
      split
      · exact trd_t (by show 3 < 1000000; decide) (trd_cons trd_s (trd_cons d1 (trd_cons d2 trd_nil)))
      · exact trd_t (by show 4 < 1000000; decide) (trd_cons trd_s (trd_cons trd_s (trd_cons d1 (trd_cons d2 trd_nil))))
    | send _ e _ a =>
      simp only [List.length_cons, List.length_append, List.length_nil] at hw
      exact trd_t (by show 4 < 1000000; decide) (trd_cons trd_s (trd_cons (trd_mono (E e (by omega)) (by omega)) (trd_cons trd_s (trd_cons (ar_dep E a (by omega)) trd_nil))))
    | sup _ a =>
      simp only [List.length_cons, List.length_append, List.length_nil] at hw
      exact trd_t (by show 3 < 1000000; decide) (trd_cons trd_s (trd_cons trd_s (trd_cons (ar_dep E a (by omega)) trd_nil)))
    | blk0 b =>
      simp only [List.length_cons, List.length_append, List.length_nil] at hw
      exact trd_t (by show 3 < 1000000; decide) (trd_cons trd_s (trd_cons (trd_mono (n := 1) (trd_t (by show 0 < 1000000; decide) trd_nil) (by omega)) (trd_cons (bd_dep S b (by omega)) trd_nil)))
    | blk _ h4 _ b =>
      simp only [List.length_cons, List.length_append, List.length_nil] at hw
      exact trd_t (by show 3 < 1000000; decide) (trd_cons trd_s (trd_cons (trd_mono (n := 2) (trd_names (n := 0) (by omega)) (by omega)) (trd_cons (bd_dep S b (by omega)) trd_nil)))
  · intro t w ns e hw
    rw [two]
    cases e with
    | eval _ e => exact trd_t (by show 2 < 1000000; decide) (trd_cons trd_s (trd_cons (trd_mono (E e hw) (by omega)) trd_nil))
    | set _ _ e =>
      simp only [List.length_cons] at hw
      exact trd_t (by show 3 < 1000000; decide) (trd_cons trd_s (trd_cons trd_s (trd_cons (trd_mono (E e (by omega)) (by omega)) trd_nil)))
    | gf _ _ e =>
      simp only [List.length_cons] at hw
      exact trd_t (by show 2 < 1000000; decide) (trd_cons trd_s (trd_cons (trd_mono (E e (by omega)) (by omega)) trd_nil))
    | whl _ e b =>
      simp only [List.length_cons, List.length_append, List.length_nil] at hw
      exact trd_t (by show 3 < 1000000; decide) (trd_cons trd_s (trd_cons (trd_mono (E e (by omega)) (by omega)) (trd_cons (bd_dep S b (by omega)) trd_nil)))
    | if0 _ e b =>
      simp only [List.length_cons, List.length_append, List.length_nil] at hw
      exact trd_t (by show 4 < 1000000; decide) (trd_cons trd_s (trd_cons (trd_mono (E e (by omega)) (by omega)) (trd_cons (bd_dep S b (by omega)) (trd_cons (trd_mono (n := 1) (trd_t (by show 0 < 1000000; decide) trd_nil) (by omega)) trd_nil))))
    | if1 _ e b c =>
      simp only [List.length_cons, List.length_append, List.length_nil] at hw
      exact trd_t (by show 4 < 1000000; decide) (trd_cons trd_s (trd_cons (trd_mono (E e (by omega)) (by omega)) (trd_cons (bd_dep S b (by omega)) (trd_cons (bd_dep S c (by omega)) trd_nil))))
    | try_ b _ c =>
      simp only [List.length_cons, List.length_append, List.length_nil] at hw
      exact trd_t (by show 4 < 1000000; decide) (trd_cons trd_s (trd_cons (bd_dep S b (by omega)) (trd_cons trd_s (trd_cons (bd_dep S c (by omega)) trd_nil))))
    | keep b c =>
      simp only [List.length_cons, List.length_append, List.length_nil] at hw
      exact trd_t (by show 3 < 1000000; decide) (trd_cons trd_s (trd_cons (bd_dep S b (by omega)) (trd_cons (bd_dep S c (by omega)) trd_nil)))
theorem all_dep : ∀ h, EDp h ∧ SDp h
  | 0 => by
    refine ⟨?_, ?_⟩
    · intro lv t w ns e _
      cases e
    · intro t w ns e _
      cases e
  | h + 1 => dep_step (all_dep h).1 (all_dep h).2
end
section
open PySem PySem.Spec PyProof.Rows L2
/-- no expression and no statement begins with the word var -/
def NV (w : Ws) : Prop := ∃ a r, w = a :: r ∧ fx a ≠ cds "var"
theorem NV.append {w v : Ws} (h : NV w) : NV (w ++ v) := by
  obtain ⟨a, r, rfl, h⟩ := h
  exact ⟨a, r ++ v, rfl, h⟩
theorem nv_wm {a : List Nat} {r : Ws} (h : a ∈ WM) (n : a ≠ cds "var") : NV (a :: r) := ⟨a, r, rfl, by rw [wm_fx a h]; exact n⟩
theorem nv_e {a : List Nat} {r : Ws} (h : fx a = []) : NV (a :: r) := ⟨a, r, rfl, by rw [h]; decide +kernel⟩
theorem ex_nv : ∀ {h lv : Nat} {t : Tr} {w : Ws} {ns : List Ws}, Ex lv h t w ns → NV w := by
  intro h
  induction h with
  | zero => intro lv t w ns e; cases e
  | succ h ih =>
    intro lv t w ns e
    cases e with
    | num q => exact nv_e (fx_kind q (by decide +kernel) (by decide +kernel))
    | text q => exact nv_e (fx_kind q (by decide +kernel) (by decide +kernel))
    | word q => rcases plain_cases q with rfl | rfl | rfl <;> exact nv_wm (by decide +kernel) (by decide +kernel)
    | self => exact nv_wm (by decide +kernel) (by decide +kernel)
    | new _ => exact nv_wm (by decide +kernel) (by decide +kernel)
    | name n => exact nv_e (nm_fx n)
    | par _ _ => exact nv_wm (by decide +kernel) (by decide +kernel)
    | neg _ _ => exact nv_wm (by decide +kernel) (by decide +kernel)
    | not _ _ => exact nv_wm (by decide +kernel) (by decide +kernel)
    | bin _ _ _ e1 _ _ => exact (ih e1).append
    | send _ e1 _ _ => exact (ih e1).append
    | sup _ _ => exact nv_wm (by decide +kernel) (by decide +kernel)
    | blk0 _ => exact nv_wm (by decide +kernel) (by decide +kernel)
    | blk _ _ _ _ => exact nv_wm (by decide +kernel) (by decide +kernel)
theorem st_nv {h : Nat} {t : Tr} {w : Ws} {ns : List Ws} (e : St h t w ns) : NV w := by
  cases e with
  | eval _ e => exact ex_nv e
  | set n _ e => exact nv_e (nm_fx n)
  | gf g _ e => rcases g with rfl | rfl <;> exact nv_wm (by decide +kernel) (by decide +kernel)
  | whl _ _ _ => exact nv_wm (by decide +kernel) (by decide +kernel)
  | if0 _ _ _ => exact nv_wm (by decide +kernel) (by decide +kernel)
  | if1 _ _ _ _ => exact nv_wm (by decide +kernel) (by decide +kernel)
  | try_ _ _ _ => exact nv_wm (by decide +kernel) (by decide +kernel)
  | keep _ _ => exact nv_wm (by decide +kernel) (by decide +kernel)
theorem bd_nv {h : Nat} {l : List Tr} {w : Ws} {ns : List Ws} (b : Bd h l w ns) : NV (w ++ [cds "end"]) := by
  cases b with
  | nil => exact nv_wm (by decide +kernel) (by decide +kernel)
  | cons e _ => exact (st_nv e).append.append
/-- a method's tokens and tree -/
def vWs (v : Ws) : Ws := if v = [] then [] else cds "var" :: (commas v ++ [cds ";"])
def mWs (a : List Nat) (p v w : Ws) : Ws := cds "method" :: a :: cds "(" :: (commas p ++ cds ")" :: (vWs v ++ (w ++ [cds "end"])))
def mTr (a : List Nat) (p v : Ws) (l : List Tr) : Tr := .t [str "method", .s a, .t (p.map Tr.s), .t (v.map Tr.s), .t l]
theorem meth3 {ts : List Tk} {a : List Nat} {p v w : Ws} {l : List Tr} {ns : List Ws} {i : Nat} {tw : Option (List Nat)} (b : Bd 12 l w ns) (hs : Seg ts i (w ++ [cds "end"])) (hl : w.length ≤ 199000) :
    ∃ sg, gMethod3 ts (exN ts 14).2 a p v ⟨i, [], tw⟩ = .ok (mTr a p v l) ⟨i + w.length + 1, sg, noteAll ((p ++ v) :: ns) tw⟩ := by
  obtain ⟨s1, s2⟩ := seg_append.mp hs
  have q := s2.nx
  rw [wm_fx _ (by decide +kernel)] at q
  obtain ⟨sg, _, _, h⟩ := SDone.body (all_good ts 12).2 b (n := 14) (d := 1) (i := i) (ms := [cds "end"]) (ds := []) (tw := twGo (p ++ v) tw (p ++ v).length) (z := cds "end") (by decide) (by decide +kernel) (by decide +kernel) (by decide) s1 q (by show 0 + _ ≤ _; omega)
  refine ⟨[] ++ sg, ?_⟩
  unfold gMethod3
  show (rNote (p ++ v) _).bind _ = _
  unfold rNote
  rw [ok_bind, h, ok_bind, expect_ok q, ok_bind]
  rfl
theorem meth2 {ts : List Tk} {a : List Nat} {p v w : Ws} {l : List Tr} {ns : List Ws} {i : Nat} {tw : Option (List Nat)} (hv : ∀ x ∈ v, isNm x) (hv8 : v.length ≤ 8) (b : Bd 12 l w ns) (hs : Seg ts i (cds ")" :: (vWs v ++ (w ++ [cds "end"])))) (hl : w.length ≤ 199000) :
    ∃ sg, gMethod2 ts (exN ts 14).2 a p ⟨i, [], tw⟩ = .ok (mTr a p v l) ⟨i + 1 + (vWs v).length + w.length + 1, sg, noteAll ((p ++ v) :: ns) tw⟩ := by
  have q := hs.nx
  rw [wm_fx _ (by decide +kernel)] at q
  unfold gMethod2
  rw [expect_ok q, ok_bind]
  have s := hs.2
  by_cases h0 : v = []
  · subst h0
    have s' : Seg ts (i + 1) (w ++ [cds "end"]) := s
    obtain ⟨c, r, ec, hc⟩ := bd_nv b
    have n0 : Nx ts (i + 1) (fx c) := by
      rw [ec] at s'
      exact s'.nx
    obtain ⟨sg, h⟩ := meth3 (a := a) (p := p) (v := []) (tw := tw) b s' hl
    refine ⟨sg, ?_⟩
    rw [accept_no n0 hc, ok_bind, if_neg Bool.false_ne_true, h]
    rfl
  · have ev : vWs v = cds "var" :: (commas v ++ [cds ";"]) := if_neg h0
    rw [ev] at s ⊢
    rw [show (cds "var" :: (commas v ++ [cds ";"])) ++ (w ++ [cds "end"]) = cds "var" :: (commas v ++ (cds ";" :: (w ++ [cds "end"]))) by rw [List.cons_append, List.append_assoc]; rfl] at s
    have q2 := s.nx
    rw [wm_fx _ (by decide +kernel)] at q2
    obtain ⟨s1, s2⟩ := seg_append.mp s.2
    have q3 := s2.nx
    rw [wm_fx _ (by decide +kernel)] at q3
    obtain ⟨sg, h⟩ := meth3 (a := a) (p := p) (v := v) (tw := tw) b s2.2 hl
    refine ⟨sg, ?_⟩
    rw [accept_yes q2, ok_bind, if_pos rfl, names_done h0 hv s1 q3 (by decide +kernel) hv8, ok_bind, expect_ok q3, ok_bind, h]
    simp only [List.length_cons, List.length_append, List.length_nil]
    rw [show i + 1 + 1 + (commas v).length + 1 + w.length + 1 = i + 1 + ((commas v).length + (0 + 1) + 1) + w.length + 1 by omega]
theorem meth_done {ts : List Tk} {a : List Nat} {p v w : Ws} {l : List Tr} {ns : List Ws} {tw : Option (List Nat)} (na : isNm a) (hp : ∀ x ∈ p, isNm x) (hp8 : p.length ≤ 8) (hv : ∀ x ∈ v, isNm x) (hv8 : v.length ≤ 8) (b : Bd 12 l w ns) (hs : Seg ts 0 (mWs a p v w)) (hl : w.length ≤ 199000) :
    ∃ sg, gMethod ts (exN ts 14).2 ⟨0, [], tw⟩ = .ok (mTr a p v l) ⟨(mWs a p v w).length, sg, noteAll ((p ++ v) :: ns) tw⟩ := by
  unfold mWs at hs
  have q1 := hs.nx
  rw [wm_fx _ (by decide +kernel)] at q1
  have q2 := hs.2.2.nx
  rw [wm_fx _ (by decide +kernel)] at q2
  obtain ⟨s1, s2⟩ := seg_append.mp hs.2.2.2
  have q3 := s2.nx
  rw [wm_fx _ (by decide +kernel)] at q3
  obtain ⟨sg, h⟩ := meth2 (a := a) (p := p) (tw := tw) hv hv8 b s2 hl
  refine ⟨sg, ?_⟩
  unfold gMethod
  rw [expect_ok q1, ok_bind, name_ok hs.2 na, ok_bind, expect_ok q2, ok_bind]
  have elen : 0 + 1 + 1 + 1 + (commas p).length + 1 + (vWs v).length + w.length + 1 = (mWs a p v w).length := by
    unfold mWs
    simp only [List.length_cons, List.length_append, List.length_nil]
    omega
  cases p with
  | nil =>
    have q4 : Nx ts (0 + 1 + 1 + 1) (cds ")") := q3
    rw [fixed0 q4, ok_bind, if_pos rfl, ← elen]
    exact h
  | cons c p =>
    have q4 : Nx ts (0 + 1 + 1 + 1) (fx c) := by
      rw [commas_cons] at s1
      exact s1.nx
    rw [nm_fx (hp c List.mem_cons_self)] at q4
    rw [fixed0 q4, ok_bind, if_neg (by decide +kernel), names_done (List.cons_ne_nil _ _) hp s1 q3 (by decide +kernel) hp8, ok_bind, h, elen]
/-- the whole text is a method -/
theorem read_meth {a : List Nat} {p v w : Ws} {l : List Tr} {ns : List Ws} {ps cs : List Nat} (na : isNm a) (hp : ∀ x ∈ p, isNm x) (hp8 : p.length ≤ 8) (hv : ∀ x ∈ v, isNm x) (hv8 : v.length ≤ 8) (b : Bd 12 l w ns) (hpl : ps.length = (mWs a p v w).length) (hl : w.length ≤ 199000) :
    ∃ ds, (gMethod (endTks cs (dueOf (mWs a p v w) ps)) (exN (endTks cs (dueOf (mWs a p v w) ps)) 14).2 ⟨0, [], none⟩).bind (fun t S => (rTake (endTks cs (dueOf (mWs a p v w) ps)) (cds "nothing") S).bind fun _ S => .ok t S) = .ok (mTr a p v l) ⟨(mWs a p v w).length + 1, ds, noteAll ((p ++ v) :: ns) none⟩ := by
  obtain ⟨sg, h⟩ := meth_done (ts := endTks cs (dueOf (mWs a p v w) ps)) (tw := none) na hp hp8 hv hv8 b (seg_end hpl) hl
  refine ⟨sg, ?_⟩
  have q := nx_end (cs := cs) hpl
  rw [h, ok_bind, take_ok q, ok_bind]
theorem meth_dep {a : List Nat} {p v w : Ws} {l : List Tr} {ns : List Ws} (hp8 : p.length ≤ 8) (hv8 : v.length ≤ 8) (b : Bd 12 l w ns) (hl : w.length ≤ 199000) : TrD 30 (mTr a p v l) := by
  have := bd_dep (all_dep 12).2 b (by omega)
  exact trd_mono (n := 27) (trd_t (by show 5 < 1000000; decide) (trd_cons trd_s (trd_cons trd_s (trd_cons (trd_mono (n := 2) (trd_names (n := 0) (by omega)) (by omega)) (trd_cons (trd_mono (n := 2) (trd_names (n := 0) (by omega)) (by omega)) (trd_cons this trd_nil)))))) (by decide)
end
section
/-! The compiler as a plain function: instructions and codes of blocks, as trees. -/
open PySem PySem.Spec PyProof.Rows L2
/-- instructions, blocks -/
abbrev CS := List Tr × List Tr
def cput (i : Tr) (S : CS) : CS := (S.1 ++ [i], S.2)
/-- an instruction that leads to the next one -/
def cled (k : Nat) (S : CS) : CS := (S.1.set k (match S.1[k]? with | some (.t (w :: _)) => .t [w, .i (S.1.length : Int)] | _ => .n), S.2)
def cpl (w : String) (S : CS) : CS := cput (.t [str w, .n]) S
/-- a place of a name: number of the scope and in it, a slot, a global name -/
def plcT (a : List Nat) (sl : Ws) : Nat → List Ws → Tr
  | _, [] => if a ∈ sl then .t [str "slot", .s a] else .t [str "global", .s a]
  | up, s :: ss => if a ∈ s then .t [str "local", .i (up : Int), .i ((s.idxOf a : Nat) : Int)] else plcT a sl (up + 1) ss
def nmsT (l : List Tr) : Ws := l.map fun | .s a => a | _ => []
theorem nmsT_map (ps : Ws) : nmsT (ps.map Tr.s) = ps := by
  unfold nmsT
  rw [List.map_map]
  exact List.map_id' _
def isEval : Tr → Bool
  | .t (.s k :: _) => decide (k = cds "eval")
  | _ => false
def cfold (c : Tr → CS → CS) : List Tr → CS → CS
  | [], S => S
  | t :: l, S => cfold c l (c t S)
theorem cfold_append (c : Tr → CS → CS) : ∀ (a b : List Tr) (S : CS), cfold c (a ++ b) S = cfold c b (cfold c a S)
  | [], _, _ => rfl
  | t :: a, b, S => cfold_append c a b (c t S)
def cend (S : CS) : CS := cput (.t [str "end"]) (cput (.t [str "push", .n]) S)
/-- what a block's body comes to -/
def cblk (c : Tr → CS → CS) (l : List Tr) : CS :=
  let S := cfold c l ([], [])
  match l.getLast? with
  | some t => if isEval t = true then (S.1.set (S.1.length - 1) (.t [str "end"]), S.2) else cend S
  | none => cend S
def ctruth (wrong : List Nat) (S : CS) : CS :=
  let S1 := cput (.t [str "push", .b true]) S
  let leave := S1.1.length
  let S2 := cpl "jump" S1
  let S3 := wrong.foldl (fun S k => cled k S) S2
  cled leave (cput (.t [str "push", .b false]) S3)
section
variable (c : List Ws → Tr → CS → CS) (sl : Ws) (sc : List Ws)
def cAnd (a b : Tr) (S : CS) : CS :=
  let S1 := c sc a S
  let S2 := c sc b (cpl "unless" S1)
  ctruth [S1.1.length, S2.1.length] (cpl "unless" S2)
def cOr (a b : Tr) (S : CS) : CS :=
  let S1 := c sc a S
  let S2 := cput (.t [str "push", .b true]) (cpl "unless" S1)
  let S3 := cled S1.1.length (cpl "jump" S2)
  let S4 := c sc b S3
  cled S2.1.length (ctruth [S4.1.length] (cpl "unless" S4))
def cBlk (ps l : List Tr) (S : CS) : CS :=
  let B := cblk (c (nmsT ps :: sc)) l
  ((cput (.t [str "block", .i (S.2.length : Int)]) S).1, S.2 ++ [.t [str "code", .i (ps.length : Int), .t B.1, .t B.2]])
def cWhl (t : Tr) (l : List Tr) (S : CS) : CS :=
  let S1 := c sc t S
  let S2 := cfold (c sc) l (cpl "unless" S1)
  cled S1.1.length (cput (.t [str "jump", .i (S.1.length : Int)]) S2)
def cIf0 (t : Tr) (l : List Tr) (S : CS) : CS :=
  let S1 := c sc t S
  cled S1.1.length (cfold (c sc) l (cpl "unless" S1))
def cIf1 (t : Tr) (l m : List Tr) (S : CS) : CS :=
  let S1 := c sc t S
  let S2 := cfold (c sc) l (cpl "unless" S1)
  let S3 := cled S1.1.length (cpl "jump" S2)
  cled S2.1.length (cfold (c sc) m S3)
def cTry (l : List Tr) (a : List Nat) (m : List Tr) (S : CS) : CS :=
  let S2 := cput (.t [str "done"]) (cfold (c sc) l (cpl "try" S))
  let S3 := cled S.1.length (cpl "jump" S2)
  let S4 := cput (.t [str "set", plcT a sl 0 sc]) S3
  cled S2.1.length (cfold (c sc) m S4)
def cKeep (l m : List Tr) (S : CS) : CS :=
  let S2 := cput (.t [str "always"]) (cfold (c sc) l (cpl "keep" S))
  cput (.t [str "resume"]) (cfold (c sc) m (cled S.1.length S2))
/-- one part, its kind told; c compiles its parts -/
def cKd (ow : List Nat) (k : List Nat) (r : List Tr) (S : CS) : CS :=
  if k = cds "plain" then (match r with | [v] => cput (.t [str "push", v]) S | _ => S)
  else if k = cds "name" then (match r with | [.s a] => cput (plcT a sl 0 sc) S | _ => S)
  else if k = cds "neg" ∨ k = cds "not" then (match r with | [t] => cput (.t [.s k]) (c sc t S) | _ => S)
  else if k = cds "op" then (match r with | [s, a, b] => cput (.t [str "op", s]) (c sc b (c sc a S)) | _ => S)
  else if k = cds "and" then (match r with | [a, b] => cAnd c sc a b S | _ => S)
  else if k = cds "or" then (match r with | [a, b] => cOr c sc a b S | _ => S)
  else if k = cds "send" then (match r with | [t, a, .t l] => cput (.t [str "send", a, .i (l.length : Int)]) (cfold (c sc) l (c sc t S)) | _ => S)
  else if k = cds "super" then (match r with | [a, .t l] => cput (.t [str "super", .s ow, a, .i (l.length : Int)]) (cfold (c sc) l S) | _ => S)
  else if k = cds "block" then (match r with | [.t ps, .t l] => cBlk c sc ps l S | _ => S)
  else if k = cds "while" then (match r with | [t, .t l] => cWhl c sc t l S | _ => S)
  else if k = cds "if" then (match r with | [t, .t l, .t m] => (if m.isEmpty = true then cIf0 c sc t l S else cIf1 c sc t l m S) | _ => S)
  else if k = cds "try" then (match r with | [.t l, .s a, .t m] => cTry c sl sc l a m S | _ => S)
  else if k = cds "keep" then (match r with | [.t l, .t m] => cKeep c sc l m S | _ => S)
  else if k = cds "set" then (match r with | [.s a, t] => cput (.t [str "set", plcT a sl 0 sc]) (c sc t S) | _ => S)
  else if k = cds "eval" then (match r with | [t] => cput (.t [str "pop"]) (c sc t S) | _ => S)
  else if k = cds "give" ∨ k = cds "fail" then (match r with | [t] => cput (.t [.s k]) (c sc t S) | _ => S)
  else cput (.t (.s k :: r)) S
end
/-- a part of a method, compiled -/
def cX (sl : Ws) (ow : List Nat) : Nat → List Ws → Tr → CS → CS
  | 0, _, _, S => S
  | f + 1, sc, .t (.s k :: r), S => cKd (cX sl ow f) sl sc ow k r S
  | _ + 1, _, _, S => S
local macro_rules | `(tactic| walk_at "cd") => `(tactic| (unfold cKd; repeat (first | rw [if_pos (by decide +kernel)] | rw [if_neg (by decide +kernel)])))
section
variable (c : List Ws → Tr → CS → CS) (sl : Ws) (ow : List Nat) (sc : List Ws) (S : CS)
theorem cd_plain (v : Tr) : cKd c sl sc ow (cds "plain") [v] S = cput (.t [str "push", v]) S := by walk_at "cd"
theorem cd_name (a : List Nat) : cKd c sl sc ow (cds "name") [.s a] S = cput (plcT a sl 0 sc) S := by walk_at "cd"
theorem cd_neg (t : Tr) : cKd c sl sc ow (cds "neg") [t] S = cput (.t [str "neg"]) (c sc t S) := by walk_at "cd"; rfl
theorem cd_not (t : Tr) : cKd c sl sc ow (cds "not") [t] S = cput (.t [str "not"]) (c sc t S) := by walk_at "cd"; rfl
theorem cd_op (s a b : Tr) : cKd c sl sc ow (cds "op") [s, a, b] S = cput (.t [str "op", s]) (c sc b (c sc a S)) := by walk_at "cd"
theorem cd_send (t a : Tr) (l : List Tr) : cKd c sl sc ow (cds "send") [t, a, .t l] S = cput (.t [str "send", a, .i (l.length : Int)]) (cfold (c sc) l (c sc t S)) := by walk_at "cd"
theorem cd_super (a : Tr) (l : List Tr) : cKd c sl sc ow (cds "super") [a, .t l] S = cput (.t [str "super", .s ow, a, .i (l.length : Int)]) (cfold (c sc) l S) := by walk_at "cd"
theorem cd_set (a : List Nat) (t : Tr) : cKd c sl sc ow (cds "set") [.s a, t] S = cput (.t [str "set", plcT a sl 0 sc]) (c sc t S) := by walk_at "cd"
theorem cd_eval (t : Tr) : cKd c sl sc ow (cds "eval") [t] S = cput (.t [str "pop"]) (c sc t S) := by walk_at "cd"
theorem cd_give (t : Tr) : cKd c sl sc ow (cds "give") [t] S = cput (.t [str "give"]) (c sc t S) := by walk_at "cd"; rfl
theorem cd_fail (t : Tr) : cKd c sl sc ow (cds "fail") [t] S = cput (.t [str "fail"]) (c sc t S) := by walk_at "cd"; rfl
theorem cd_self : cKd c sl sc ow (cds "self") [] S = cput (.t [str "self"]) S := by walk_at "cd"; rfl
theorem cd_new (a : Tr) : cKd c sl sc ow (cds "new") [a] S = cput (.t [str "new", a]) S := by walk_at "cd"; rfl
theorem cd_and (a b : Tr) : cKd c sl sc ow (cds "and") [a, b] S = cAnd c sc a b S := by walk_at "cd"
theorem cd_or (a b : Tr) : cKd c sl sc ow (cds "or") [a, b] S = cOr c sc a b S := by walk_at "cd"
theorem cd_block (ps l : List Tr) : cKd c sl sc ow (cds "block") [.t ps, .t l] S = cBlk c sc ps l S := by walk_at "cd"
theorem cd_while (t : Tr) (l : List Tr) : cKd c sl sc ow (cds "while") [t, .t l] S = cWhl c sc t l S := by walk_at "cd"
theorem cd_if0 (t : Tr) (l : List Tr) : cKd c sl sc ow (cds "if") [t, .t l, .t []] S = cIf0 c sc t l S := by walk_at "cd"; rfl
theorem cd_if1 (t : Tr) (l m : List Tr) (h : m ≠ []) : cKd c sl sc ow (cds "if") [t, .t l, .t m] S = cIf1 c sc t l m S := by
  have e : m.isEmpty = false := by cases m with
    | nil => exact absurd rfl h
    | cons a m => rfl
  walk_at "cd"
  show (if m.isEmpty = true then _ else _) = _
  rw [e]; rfl
theorem cd_try (l : List Tr) (a : List Nat) (m : List Tr) : cKd c sl sc ow (cds "try") [.t l, .s a, .t m] S = cTry c sl sc l a m S := by walk_at "cd"
theorem cd_keep (l m : List Tr) : cKd c sl sc ow (cds "keep") [.t l, .t m] S = cKeep c sc l m S := by walk_at "cd"
end
end
section
/-! Bodies without blocks and sends: what they come to, statement by statement. -/
open PySem PySem.Spec PyProof.Rows L2
inductive Va where
  | n
  | b (x : Bool)
  | i (x : Int)
  | s (a : List Nat)
  deriving DecidableEq
def Va.v : Va → V
  | .n => .non
  | .b x => .bl x
  | .i x => .int x
  | .s a => T a
def Va.t : Va → Tr
  | .n => .n
  | .b x => .b x
  | .i x => .i x
  | .s a => .s a
/-- within the bounds of values -/
def Va.ok : Va → Prop
  | .i x => -1000000000 ≤ x ∧ x ≤ 1000000000
  | .s a => a.length ≤ 200
  | _ => True
theorem Va.at {K : PySem.W.Frag} {H : Hp} : ∀ v : Va, TrAt K H v.v v.t
  | .n => .n
  | .b _ => .b
  | .i _ => .i
  | .s _ => .s
theorem Va.v_inj : ∀ {a b : Va}, a.v = b.v → a = b
  | .n, .n, _ => rfl
  | .b _, .b _, h => by cases h; rfl
  | .i _, .i _, h => by cases h; rfl
  | .s _, .s _, h => by rw [T_inj h]
  | .n, .b _, h => by cases h
  | .n, .i _, h => by cases h
  | .n, .s _, h => by cases h
  | .b _, .n, h => by cases h
  | .b _, .i _, h => by cases h
  | .b _, .s _, h => by cases h
  | .i _, .n, h => by cases h
  | .i _, .b _, h => by cases h
  | .i _, .s _, h => by cases h
  | .s _, .n, h => by cases h
  | .s _, .b _, h => by cases h
  | .s _, .i _, h => by cases h
/-- what a part comes to -/
inductive Oc where
  | val (v : Va)
  | fl (v : Va)
  | gv (v : Va)
  | well
  | long
  deriving DecidableEq
def Oc.tag : Oc → List Nat
  | .val _ => cds "value"
  | .fl _ => cds "failure"
  | .gv _ => cds "giving"
  | .well => cds "well"
  | .long => cds "long"
def Oc.v : Oc → Va
  | .val v => v
  | .fl v => v
  | .gv v => v
  | _ => .n
def Oc.ok (o : Oc) : Prop := o.v.ok
abbrev ftx (x : String) : Oc := .fl (.s (cds x))
/-! operators -/
def rRes : Va → Oc
  | .s a => if 200 < a.length then ftx "too large" else .val (.s a)
  | .i x => if 1000000000 < x ∨ x < -1000000000 then ftx "too large" else .val (.i x)
  | v => .val v
/-- minus, or not -/
def oAlone : Bool → Va → Oc
  | true, .i x => .val (.i (0 - x))
  | true, _ => ftx "wrong kind"
  | false, .b x => .val (.b (!x))
  | false, _ => ftx "not a truth"
def oNum (s : List Nat) (a b : Int) : Oc :=
  if s = cds "+" then rRes (.i (a + b)) else if s = cds "<" then .val (.b (decide (a < b))) else if s = cds "<=" then .val (.b (decide (a ≤ b)))
  else if s = cds "-" then rRes (.i (a - b)) else if s = cds "*" then rRes (.i (a * b)) else if b = 0 then ftx "by nothing" else rRes (.i (a.fdiv b))
def oTxt (s : List Nat) (a b : List Nat) : Oc :=
  if s = cds "+" then rRes (.s (a ++ b)) else if s = cds "<" then .val (.b (decide (a < b))) else if s = cds "<=" then .val (.b (!decide (b < a))) else ftx "wrong kind"
def oOp (s : List Nat) (x y : Va) : Oc :=
  if s = cds "=" then .val (.b (decide (x = y)))
  else match x, y with
    | .i a, .i b => oNum s a b
    | .s a, .s b => oTxt s a b
    | _, _ => ftx "wrong kind"
theorem ftx_ok {x : String} (h : (cds x).length ≤ 200 := by decide +kernel) : (ftx x).ok := h
theorem rRes_ok (v : Va) : (rRes v).ok := by
  cases v with
  | s a =>
    show (if 200 < a.length then ftx "too large" else .val (.s a)).ok
    by_cases h : 200 < a.length
    · rw [if_pos h]; exact ftx_ok
    · rw [if_neg h]; exact Nat.le_of_not_lt h
  | i x =>
    show (if 1000000000 < x ∨ x < -1000000000 then ftx "too large" else .val (.i x)).ok
    by_cases h : 1000000000 < x ∨ x < -1000000000
    · rw [if_pos h]; exact ftx_ok
    · rw [if_neg h]; show _ ∧ _; omega
  | n => exact True.intro
  | b x => exact True.intro
theorem oAlone_ok (g : Bool) (v : Va) (h : v.ok) : (oAlone g v).ok := by
  cases g <;> cases v <;> first | exact ftx_ok | exact True.intro | skip
  have h : _ ∧ _ := h
  show _ ∧ _
  omega
theorem oOp_ok (s : List Nat) (x y : Va) : (oOp s x y).ok := by
  unfold oOp
  split
  · exact True.intro
  · split
    · unfold oNum
      repeat' split
      all_goals first | exact rRes_ok _ | exact ftx_ok | exact True.intro
    · unfold oTxt
      repeat' split
      all_goals first | exact rRes_ok _ | exact ftx_ok | exact True.intro
    · exact ftx_ok
/-! tables of names -/
abbrev Sto := List (List Nat × Va)
def sget (a : List Nat) : Sto → Option Va
  | [] => none
  | (b, v) :: l => if b = a then some v else sget a l
def shas (a : List Nat) (l : Sto) : Bool := l.any fun p => decide (p.1 = a)
def sput (a : List Nat) (v : Va) (l : Sto) : Sto := if shas a l = true then l.map (fun p => if p.1 = a then (p.1, v) else p) else l ++ [(a, v)]
theorem shas_iff {a : List Nat} : ∀ {l : Sto}, shas a l = (sget a l).isSome
  | [] => rfl
  | (b, v) :: l => by
    have ih := shas_iff (a := a) (l := l)
    show (decide (b = a) || shas a l) = (if b = a then some v else sget a l).isSome
    rw [ih]
    by_cases h : b = a
    · rw [if_pos h, decide_eq_true h]; rfl
    · rw [if_neg h, decide_eq_false h]; rfl
theorem shas_mem {a : List Nat} {l : Sto} : shas a l = true ↔ a ∈ l.map (·.1) := by
  unfold shas
  rw [List.any_eq_true, List.mem_map]
  exact ⟨fun ⟨p, h1, h2⟩ => ⟨p, h1, of_decide_eq_true h2⟩, fun ⟨p, h1, h2⟩ => ⟨p, h1, decide_eq_true h2⟩⟩
theorem sget_app {a : List Nat} : ∀ {l m : Sto}, sget a (l ++ m) = (sget a l).or (sget a m)
  | [], m => rfl
  | (b, v) :: l, m => by
    show (if b = a then some v else sget a (l ++ m)) = (if b = a then some v else sget a l).or _
    by_cases h : b = a
    · rw [if_pos h, if_pos h]; rfl
    · rw [if_neg h, if_neg h, sget_app]
theorem sget_map {a b : List Nat} {v : Va} : ∀ {l : Sto}, sget b (l.map fun p => if p.1 = a then (p.1, v) else p) = if b = a ∧ (sget a l).isSome = true then some v else sget b l
  | [] => by
    show none = _
    rw [if_neg (fun h => by cases h.2)]; rfl
  | (c, w) :: l => by
    rw [List.map_cons]
    by_cases h : c = a
    · subst h
      rw [if_pos rfl]
      show (if c = b then some v else _) = _
      by_cases e : c = b
      · subst e
        rw [if_pos rfl, if_pos ⟨rfl, by unfold sget; rw [if_pos rfl]; rfl⟩]
      · rw [if_neg e, sget_map, if_neg (fun q => e q.1.symm), if_neg (fun q => e q.1.symm)]
        unfold sget
        rw [if_neg e]
        cases l <;> rfl
    · rw [if_neg h]
      show (if c = b then some w else _) = _
      by_cases e : c = b
      · subst e
        rw [if_pos rfl, if_neg (fun q => h q.1)]
        unfold sget
        rw [if_pos rfl]
      · rw [if_neg e, sget_map]
        have e1 : sget a ((c, w) :: l) = sget a l := by
          show (if c = a then _ else _) = _
          rw [if_neg h]
        have e2 : sget b ((c, w) :: l) = sget b l := by
          show (if c = b then _ else _) = _
          rw [if_neg e]
        rw [e1, e2]
theorem sget_sput {a b : List Nat} {v : Va} {l : Sto} : sget b (sput a v l) = if b = a then some v else sget b l := by
  unfold sput
  by_cases h : shas a l = true
  · rw [if_pos h, sget_map, ← shas_iff]
    by_cases e : b = a
    · rw [if_pos ⟨e, h⟩, if_pos e]
    · rw [if_neg (fun q => e q.1), if_neg e]
  · rw [if_neg h, sget_app]
    have h0 : sget a l = none := by
      rw [shas_iff] at h
      cases e : sget a l with
      | none => rfl
      | some x => rw [e] at h; exact absurd rfl h
    show (sget b l).or (if a = b then some v else none) = _
    by_cases e : b = a
    · subst e
      rw [if_pos rfl, if_pos rfl, h0]; rfl
    · rw [if_neg (fun q => e q.symm), if_neg e]
      cases sget b l <;> rfl
theorem sput_keys {a : List Nat} {v : Va} {l : Sto} : (sput a v l).map (·.1) = if shas a l = true then l.map (·.1) else l.map (·.1) ++ [a] := by
  unfold sput
  by_cases h : shas a l = true
  · rw [if_pos h, if_pos h, List.map_map]
    refine List.map_congr_left fun p _ => ?_
    show (if p.1 = a then (p.1, v) else p).1 = p.1
    split <;> rfl
  · rw [if_neg h, if_neg h, List.map_append]; rfl
theorem sput_nodup {a : List Nat} {v : Va} {l : Sto} (h : (l.map (·.1)).Nodup) : ((sput a v l).map (·.1)).Nodup := by
  rw [sput_keys]
  by_cases e : shas a l = true
  · rw [if_pos e]; exact h
  · rw [if_neg e]
    rw [shas_mem] at e
    rw [List.nodup_append]
    refine ⟨h, by simp, fun x hx y hy => ?_⟩
    rw [List.mem_singleton.mp hy]
    exact fun z => e (z ▸ hx)
theorem sput_len {a : List Nat} {v : Va} {l : Sto} : (sput a v l).length ≤ l.length + 1 := by
  have h := congrArg List.length (sput_keys (a := a) (v := v) (l := l))
  rw [List.length_map] at h
  rw [h]
  split
  · rw [List.length_map]; omega
  · rw [List.length_append, List.length_map]; exact Nat.le_refl _
def Sok (l : Sto) : Prop := ∀ p ∈ l, p.2.ok
theorem sput_ok {a : List Nat} {v : Va} {l : Sto} (h : Sok l) (hv : v.ok) : Sok (sput a v l) := by
  intro p hp
  unfold sput at hp
  split at hp
  · obtain ⟨q, hq, e⟩ := List.mem_map.mp hp
    split at e
    · rw [← e]; exact hv
    · rw [← e]; exact h q hq
  · rcases List.mem_append.mp hp with hp | hp
    · exact h p hp
    · rw [List.mem_singleton.mp hp]; exact hv
theorem sget_ok {a : List Nat} {v : Va} : ∀ {l : Sto}, Sok l → sget a l = some v → v.ok
  | (b, w) :: l, h, e => by
    unfold sget at e
    by_cases q : b = a
    · rw [if_pos q] at e
      cases e
      exact h _ List.mem_cons_self
    · rw [if_neg q] at e
      exact sget_ok (fun p hp => h p (List.mem_cons_of_mem _ hp)) e
/-- as a dict -/
def DS (l : Sto) : List (Key × V) := l.map fun p => (Sum.inr (⟨p.1.toArray⟩ : Str), p.2.v)
theorem key_iff {a b : List Nat} : (Sum.inr (⟨a.toArray⟩ : Str) : Key) = Sum.inr (⟨b.toArray⟩ : Str) ↔ a = b :=
  ⟨fun h => by
    have h1 : (⟨a.toArray⟩ : Str) = ⟨b.toArray⟩ := Sum.inr.inj h
    have h2 : a.toArray = b.toArray := Str.mk.inj h1
    exact congrArg Array.toList h2, fun h => by rw [h]⟩
theorem DS_get {a : List Nat} : ∀ {l : Sto}, valV (DS l) (Sum.inr (⟨a.toArray⟩ : Str)) = (sget a l).map Va.v
  | [] => rfl
  | (b, v) :: l => by
    show valV ((Sum.inr (⟨b.toArray⟩ : Str), v.v) :: DS l) _ = (if b = a then some v else sget a l).map _
    by_cases h : b = a
    · rw [valV_pos (key_iff.mpr h), if_pos h]; rfl
    · rw [valV_neg (fun e => h (key_iff.mp e)), if_neg h, DS_get]
theorem DS_any {a : List Nat} : ∀ {l : Sto}, ((DS l).any fun kv => decide (kv.1 = (Sum.inr (⟨a.toArray⟩ : Str) : Key))) = shas a l
  | [] => rfl
  | (b, v) :: l => by
    have ih := DS_any (a := a) (l := l)
    show (decide ((Sum.inr (⟨b.toArray⟩ : Str) : Key) = _) || ((DS l).any fun kv => decide (kv.1 = (Sum.inr (⟨a.toArray⟩ : Str) : Key)))) = (decide (b = a) || shas a l)
    rw [ih]
    by_cases h : b = a
    · rw [decide_eq_true (key_iff.mpr h), decide_eq_true h]
    · rw [decide_eq_false (fun e => h (key_iff.mp e)), decide_eq_false h]
theorem DS_put {a : List Nat} {v : Va} {l : Sto} : putK (DS l) (Sum.inr (⟨a.toArray⟩ : Str)) v.v = DS (sput a v l) := by
  unfold putK sput
  rw [DS_any]
  by_cases h : shas a l = true
  · rw [if_pos h, if_pos h]
    unfold DS
    rw [List.map_map, List.map_map]
    refine List.map_congr_left fun p _ => ?_
    show (if (Sum.inr (⟨p.1.toArray⟩ : Str) : Key) = Sum.inr (⟨a.toArray⟩ : Str) then ((Sum.inr (⟨p.1.toArray⟩ : Str) : Key), v.v) else _) = (fun q : List Nat × Va => ((Sum.inr (⟨q.1.toArray⟩ : Str) : Key), q.2.v)) (if p.1 = a then (p.1, v) else p)
    by_cases e : p.1 = a
    · rw [if_pos (key_iff.mpr e), if_pos e]
    · rw [if_neg (fun q => e (key_iff.mp q)), if_neg e]
  · rw [if_neg h, if_neg h]
    unfold DS
    rw [List.map_append]; rfl
theorem DS_len {l : Sto} : (DS l).length = l.length := List.length_map _
/-! trees -/
inductive Ee where
  | pl (v : Va)
  | self
  | nm (a : List Nat)
  | un (g : Bool) (e : Ee)
  | lg (o : Bool) (a b : Ee)
  | op (s : List Nat) (a b : Ee)
mutual
inductive Se where
  | set (a : List Nat) (e : Ee)
  | ev (e : Ee)
  | gv (e : Ee)
  | fl (e : Ee)
  | if_ (e : Ee) (l m : Sl)
  | wh (e : Ee) (l : Sl)
  | ty (l : Sl) (a : List Nat) (m : Sl)
  | kp (l m : Sl)
inductive Sl where
  | nil
  | cons (s : Se) (l : Sl)
end
def unW (g : Bool) : String := if g then "neg" else "not"
def lgW (o : Bool) : String := if o then "or" else "and"
def Ee.tr : Ee → Tr
  | .pl v => .t [str "plain", v.t]
  | .self => .t [str "self"]
  | .nm a => .t [str "name", .s a]
  | .un g e => .t [str (unW g), e.tr]
  | .lg o a b => .t [str (lgW o), a.tr, b.tr]
  | .op s a b => .t [str "op", .s s, a.tr, b.tr]
mutual
def Se.tr : Se → Tr
  | .set a e => .t [str "set", .s a, e.tr]
  | .ev e => .t [str "eval", e.tr]
  | .gv e => .t [str "give", e.tr]
  | .fl e => .t [str "fail", e.tr]
  | .if_ e l m => .t [str "if", e.tr, .t l.tr, .t m.tr]
  | .wh e l => .t [str "while", e.tr, .t l.tr]
  | .ty l a m => .t [str "try", .t l.tr, .s a, .t m.tr]
  | .kp l m => .t [str "keep", .t l.tr, .t m.tr]
def Sl.tr : Sl → List Tr
  | .nil => []
  | .cons s l => s.tr :: l.tr
end
/-! what they come to -/
def tkE (n : Nat) (f : Nat → Oc × Nat) : Oc × Nat := match n with
  | 0 => (.long, 0)
  | n + 1 => f n
def mE : Ee → Sto → Nat → Oc × Nat
  | .pl v, _, n => tkE n fun n => (.val v, n)
  | .self, _, n => tkE n fun n => (.val .n, n)
  | .nm a, st, n => tkE n fun n => (match sget a st with | some v => .val v | none => ftx "no global", n)
  | .un g e, st, n => tkE n fun n => match mE e st n with
    | (.val v, n) => (oAlone g v, n)
    | r => r
  | .lg o a b, st, n => tkE n fun n => match mE a st n with
    | (.val (.b x), n) => if x = o then (.val (.b x), n) else match mE b st n with
      | (.val (.b y), n) => (.val (.b y), n)
      | (.val _, n) => (ftx "not a truth", n)
      | r => r
    | (.val _, n) => (ftx "not a truth", n)
    | r => r
  | .op s a b, st, n => tkE n fun n => match mE a st n with
    | (.val x, n) => (match mE b st n with
      | (.val y, n) => (oOp s x y, n)
      | r => r)
    | r => r
def mT (e : Ee) (st : Sto) (n : Nat) : Oc × Nat := match mE e st n with
  | (.val (.b x), n) => (.val (.b x), n)
  | (.val _, n) => (ftx "not a truth", n)
  | r => r
abbrev Rs := Oc × Sto × Nat
def tk3 (st : Sto) (n : Nat) (f : Nat → Rs) : Rs := match n with
  | 0 => (.long, st, 0)
  | n + 1 => f n
def mLoop (t : Sto → Nat → Oc × Nat) (b : Sto → Nat → Rs) : Nat → Sto → Nat → Rs
  | 0, st, n => (.long, st, n)
  | k + 1, st, n => match t st n with
    | (.val (.b false), n) => (.well, st, n)
    | (.val _, n) => (match b st n with
      | (.well, st, n) => mLoop t b k st n
      | r => r)
    | (o, n) => (o, st, n)
mutual
def mS : Se → Sto → Nat → Rs
  | .set a e, st, n => tk3 st n fun n => match mE e st n with
    | (.val v, n) => (.well, sput a v st, n)
    | (o, n) => (o, st, n)
  | .ev e, st, n => tk3 st n fun n => match mE e st n with
    | (.val _, n) => (.well, st, n)
    | (o, n) => (o, st, n)
  | .gv e, st, n => tk3 st n fun n => match mE e st n with
    | (.val v, n) => (.gv v, st, n)
    | (o, n) => (o, st, n)
  | .fl e, st, n => tk3 st n fun n => match mE e st n with
    | (.val v, n) => (.fl v, st, n)
    | (o, n) => (o, st, n)
  | .if_ e l m, st, n => tk3 st n fun n => match mT e st n with
    | (.val (.b true), n) => mB l st n
    | (.val _, n) => mB m st n
    | (o, n) => (o, st, n)
  | .wh e l, st, n => tk3 st n fun n => mLoop (mT e) (mB l) 1000 st n
  | .ty l a m, st, n => tk3 st n fun n => match mB l st n with
    | (.fl v, st, n) => mB m (sput a v st) n
    | r => r
  | .kp l m, st, n => tk3 st n fun n => match mB l st n with
    | (.long, st, n) => (.long, st, n)
    | (o, st, n) => match mB m st n with
      | (.well, st, n) => (o, st, n)
      | r => r
def mB : Sl → Sto → Nat → Rs
  | .nil, st, n => (.well, st, n)
  | .cons s l, st, n => match mS s st n with
    | (.well, st, n) => mB l st n
    | r => r
end
end
section
/-! Dicts with texts as keys: read, asked, written, walked; a store into a list or a dict; range of two; pop. -/
open PySem PySem.Spec PyProof.Rows L2
def rDGet : R2 := fun x y H Q => ∃ a v, x = .ref a ∧ DGet H a y (some v) ∧ Q v H
def rDIn : R2 := fun y x H Q => ∃ a o, x = .ref a ∧ DGet H a y o ∧ Q (.bl o.isSome) H
def rDNin : R2 := fun y x H Q => ∃ a o, x = .ref a ∧ DGet H a y o ∧ Q (.bl (!o.isSome)) H
def rLenDk : List V → Hp → VK → Prop := fun xs H Q => ∃ a kvs, xs = [V.ref a] ∧ H a = some (.dK kvs) ∧ Q (.int kvs.length) H
theorem call_lenDk {X : Cx} : CallR X (.builtin "len") rLenDk := call_lenD
def rDPut (x y v : V) (H : Hp) (G : Hp → Prop) : Prop := ∃ a H4, x = .ref a ∧ DPut H a y v H4 ∧ G H4
section
variable {σ : L2.St} {H : Hp} {Q : VK} {D : Ends} {td ty tv : TE} {K : PySem.W.Frag} {d : Addr} {a : List Nat} {st : Sto} {v : Va}
theorem w_dget (k : td σ H fun x H1 => ty σ H1 fun y H2 => rDGet x y H2 Q) : tDGet td ty σ H Q := k
theorem w_din (k : ty σ H fun y H1 => td σ H1 fun x H2 => rDIn y x H2 Q) : tDIn ty td σ H Q := k
theorem w_dnin (k : ty σ H fun y H1 => td σ H1 fun x H2 => rDNin y x H2 Q) : tDNotIn ty td σ H Q := k
theorem w_dput (k : tv σ H fun v H1 => td σ H1 fun x H2 => ty σ H2 fun y H3 => rDPut x y v H3 fun H4 => D.nx σ H4) : sDPut td ty tv D σ H := k
theorem w_dnew (k : ∀ p H1, H p = none → Same H H1 → H1 p = some (.dK (DS [])) → Q (.ref p) H1) : tDNewK σ H Q := fun p hp => k p _ hp (same_new0 hp) upd_same
theorem d_get (h : H d = some (.dK (DS st))) (e : sget a st = some v) (k : Q v.v H) : rDGet (.ref d) (T a) H Q :=
  ⟨d, v.v, rfl, by
    have g := DGet.k (k := Sum.inr (⟨a.toArray⟩ : Str)) h
    rw [DS_get, e] at g
    exact g, k⟩
theorem d_in (h : H d = some (.dK (DS st))) (k : Q (.bl (sget a st).isSome) H) : rDIn (T a) (.ref d) H Q :=
  ⟨d, _, rfl, DGet.k (k := Sum.inr (⟨a.toArray⟩ : Str)) h, by
    rw [DS_get, Option.isSome_map]; exact k⟩
theorem d_nin (h : H d = some (.dK (DS st))) (k : Q (.bl (!(sget a st).isSome)) H) : rDNin (T a) (.ref d) H Q :=
  ⟨d, _, rfl, DGet.k (k := Sum.inr (⟨a.toArray⟩ : Str)) h, by
    rw [DS_get, Option.isSome_map]; exact k⟩
theorem d_put {G : Hp → Prop} (h : H d = some (.dK (DS st))) (z : st.length ≤ 1000000) (k : ∀ H1, H1 d = some (.dK (DS (sput a v st))) → (∀ b o, b ≠ d → H b = some o → H1 b = some o) → G H1) : rDPut (.ref d) (T a) v.v H G := by
  refine ⟨d, _, rfl, DPut.k (k := Sum.inr (⟨a.toArray⟩ : Str)) h (by rw [DS_len]; exact Nat.lt_of_le_of_lt z (by decide)), k _ ?_ fun b o n e => by rw [upd_ne n]; exact e⟩
  rw [DS_put]; exact upd_same
theorem w_lenD (h : H d = some (.dK (DS st))) (k : Q (.int (st.length : Int)) H) : rLenDk [.ref d] H Q := ⟨d, _, rfl, h, by rw [DS_len]; exact k⟩
/-! a store into either -/
def rSetA : TSet := fun o i v H G => rSetL o i v H G ∨ rSetD o i v H G
theorem set_any {X : Cx} (hu : X.A.units + 1 < cLine) : PSet X rSetA := by
  intro pins s σ H o i v ov iv u Q I ro ri rv h
  rcases h with h | h
  · exact set_list pins s σ H o i v ov iv u Q I ro ri rv h
  · exact set_dict hu pins s σ H o i v ov iv u Q I ro ri rv h
theorem sa_put {G : Hp → Prop} (h : H d = some (.dK (DS st))) (z : st.length ≤ 1000000) (k : ∀ H1, H1 d = some (.dK (DS (sput a v st))) → (∀ b o, b ≠ d → H b = some o → H1 b = some o) → G H1) : rSetA (.ref d) (T a) v.v H G := .inr (d_put h z k)
theorem sa_set {G : Hp → Prop} {xs : List V} {j : Int} {n : Nat} {x : V} (h : H d = some (.lst xs)) (e : ixN xs.length j = some n) (k : ∀ H1, H1 d = some (.lst (xs.set n x)) → (∀ b o, b ≠ d → H b = some o → H1 b = some o) → G H1) : rSetA (.ref d) (.int j) x H G :=
  .inl (w_setL h e (k _ upd_same fun b o n e => by rw [upd_ne n]; exact e))
theorem w_gsubA {to ti : TE} {v : V} {G : L2.St → Hp → Prop} (k : to σ H fun o H1 => ti σ H1 fun i H2 => rSetA o i v H2 fun H3 => G σ H3) : gSub to ti rSetA v σ H G := k
/-! for k in d -/
theorem for_keys {te : TE} {g : TG} {tb : TS} {kvs : List (Key × V)} {σ : L2.St} {H : Hp} {D : Ends} (Pv : Nat → L2.St → Hp → Prop) (hd : H d = some (.dK kvs)) (ht : ∀ o Q, Q (.ref d) (upd H d (.frz o (.dK kvs))) → te σ (upd H d (.frz o (.dK kvs))) Q)
    (h0 : ∀ H1, (∃ o, H1 d = some (.frz o (.dK kvs))) → (∀ b, b ≠ d → H1 b = H b) → Pv 0 σ H1)
    (hl : ∀ i σ H1, Pv i σ H1 → True)
    (hs : ∀ o D2 i k v σ H1, kvs[i]? = some (k, v) → H1 d = some (.frz o (.dK kvs)) → Pv i σ H1 → (∀ σ2 H2, H2 d = some (.frz o (.dK kvs)) → Pv (i + 1) σ2 H2 → D2.nx σ2 H2) → (∀ v H2, H2 d = some (.frz o (.dK kvs)) → D.rt v (upd H2 d (.dK kvs)) → D2.rt v H2) → g (kV k) σ H1 fun σ2 H2 => tb D2 σ2 H2)
    (he : ∀ o σ H1, H1 d = some (.frz o (.dK kvs)) → Pv kvs.length σ H1 → D.nx σ (upd H1 d (.dK kvs))) : tLock (tFor (iKeys te) g tb) D σ H := by
  refine ⟨d, .dK kvs, hd, True.intro, fun od => ht od _ ⟨d, od, rfl, .inl ⟨kvs, upd_same, ?_⟩⟩⟩
  refine ⟨fun i m σ H1 => m = kvs.length - i ∧ i ≤ kvs.length ∧ H1 d = some (.frz od (.dK kvs)) ∧ Pv i σ H1, ⟨kvs.length, by simp, Nat.zero_le _, upd_same, h0 _ ⟨od, upd_same⟩ fun b n => upd_ne n⟩, ?_⟩
  rintro i m σ H1 ⟨rfl, hi, hd1, p⟩
  by_cases hlt : i < kvs.length
  · refine .inr ⟨⟨hd1, hlt⟩, fun σ' H' => H' d = some (.frz od (.dK kvs)) ∧ Pv (i + 1) σ' H', fun σ' H' p' => ⟨kvs.length - (i + 1), by omega, rfl, hlt, p'⟩, fun x H' y => ?_⟩
    obtain ⟨rfl, k, v, hk, rfl⟩ := y
    exact hs od _ i k v σ _ hk hd1 p (fun σ2 H2 h1 h2 => ⟨h1, h2⟩) fun v H2 h1 h2 => ⟨h1, h2⟩
  · have e : i = kvs.length := by omega
    subst e
    exact .inl ⟨⟨hd1, Nat.le_refl _⟩, hd1, he od σ H1 hd1 p⟩
/-! range(a, b) -/
def ForR2 (g : TG) (tb : TS) (vs : List V) (D : Ends) (σ : L2.St) (H : Hp) : Prop := ∃ i j : Int, vs = [.int i, .int j] ∧ (-(2 ^ 62) ≤ i ∧ i < 2 ^ 62 ∧ -(2 ^ 62) ≤ j ∧ j < 2 ^ 62) ∧ ∃ W : Nat → Nat → L2.St → Hp → Prop, (∃ m, W 0 m σ H) ∧ ∀ k m σ H, W k m σ H →
  ((Itr i (j - i).toNat).stop k H ∧ D.nx σ H) ∨ ((Itr i (j - i).toNat).go k H ∧ ∃ N : L2.St → Hp → Prop, (∀ σ' H', N σ' H' → ∃ m', m' < m ∧ W (k + 1) m' σ' H') ∧ ∀ x H', (Itr i (j - i).toNat).yld k H x H' → g x σ H' fun σ2 H2 => tb { D with nx := N, ct := N, bk := D.nx } σ2 H2)
theorem w_forR2 {ta : TA} {g : TG} {tb : TS} (k : ta σ H fun vs H1 => ForR2 g tb vs D σ H1) : tFor (iRng2 ta) g tb D σ H := k
theorem for_R2 {g : TG} {tb : TS} {lo hi : Nat} (Pv : Nat → L2.St → Hp → Prop) (b : hi < 1000000) (b2 : lo < 1000000) (h0 : Pv 0 σ H) (hs : ∀ (i : Nat) σ H, lo + i < hi → Pv i σ H → g (.int ((lo + i : Nat) : Int)) σ H fun σ2 H2 => tb { D with nx := Pv (i + 1), ct := Pv (i + 1), bk := D.nx } σ2 H2)
    (hd : ∀ σ H, Pv (hi - lo) σ H → D.nx σ H) : ForR2 g tb [.int (lo : Int), .int (hi : Int)] D σ H := by
  refine ⟨lo, hi, rfl, by omega, ?_⟩
  have e : ((hi : Int) - (lo : Int)).toNat = hi - lo := by omega
  rw [e]
  exact for_range (lo := (lo : Int)) (n := hi - lo) Pv h0 (fun i σ H hi p => by
    have := hs i σ H (by omega) p
    rw [show ((lo + i : Nat) : Int) = (lo : Int) + (i : Int) by omega] at this
    exact this) hd
/-! a < b < c -/
theorem w_chain {r r' : R2} {ta tb tc : TE} (k : ta σ H fun x H1 => tb σ H1 fun y H2 => r x y H2 fun z H3 => ∃ k, z = .bl k ∧ if k = true then tc σ H3 fun w' H4 => r' y w' H4 Q else Q (.bl false) H3) : tChain r r' ta tb tc σ H Q := k
theorem d_getF {o : Obj} (h : H d = some (.frz o (.dK (DS st)))) (e : sget a st = some v) (k : Q v.v H) : rDGet (.ref d) (T a) H Q :=
  ⟨d, v.v, rfl, .inl ⟨DS st, Sum.inr (⟨a.toArray⟩ : Str), .inr ⟨o, h⟩, rfl, by rw [DS_get, e]; rfl⟩, k⟩
theorem sget_at {a : List Nat} {v : Va} : ∀ {l : Sto} {i : Nat}, (l.map (·.1)).Nodup → l[i]? = some (a, v) → sget a l = some v
  | (b, w) :: l, 0, h, e => by
    cases e
    show (if a = a then some v else _) = _
    rw [if_pos rfl]
  | (b, w) :: l, i + 1, h, e => by
    rw [List.map_cons, List.nodup_cons] at h
    have e : l[i]? = some (a, v) := by simpa using e
    show (if b = a then some w else sget a l) = _
    have hm : a ∈ l.map (·.1) := List.mem_map_of_mem (f := Prod.fst) (List.mem_of_getElem? e)
    rw [if_neg (fun q => h.1 (by rw [show ((b, w) : List Nat × Va).1 = a from q]; exact hm))]
    exact sget_at h.2 e
theorem DS_at {l : Sto} {i : Nat} {k : Key} {x : V} (h : (DS l)[i]? = some (k, x)) : ∃ a v, l[i]? = some (a, v) ∧ kV k = T a ∧ x = v.v := by
  unfold DS at h
  rw [List.getElem?_map] at h
  cases e : l[i]? with
  | none => rw [e] at h; cases h
  | some p => rw [e] at h; cases h; exact ⟨p.1, p.2, rfl, rfl, rfl⟩
/-! pop -/
def rPopL : V → List V → Hp → VK → Prop := fun x vs H Q => ∃ l xs y, x = .ref l ∧ vs = [] ∧ H l = some (.lst xs) ∧ xs[xs.length - 1]? = some y ∧ Q y (upd H l (.lst xs.dropLast))
theorem mt_popL {X : Cx} : MtR X "list.pop" rPopL := mt_pop
theorem w_pop {p : Addr} {xs : List V} {y : V} (h : H p = some (.lst (xs ++ [y]))) (k : ∀ H1, H1 p = some (.lst xs) → (∀ b o, b ≠ p → H b = some o → H1 b = some o) → Q y H1) : rPopL (.ref p) [] H Q := by
  refine ⟨p, xs ++ [y], y, rfl, rfl, h, by simp, k _ ?_ fun b o n e => by rw [upd_ne n]; exact e⟩
  rw [List.dropLast_concat]; exact upd_same
/-! xs[:n], xs[a:b] -/
theorem cut_to' (xs : List V) (n : Nat) : cutV xs none (some (n : Int)) = xs.take n := by
  unfold cutV
  have e1 : HT.sIx xs.length 0 none = 0 := rfl
  have e2 : HT.sIx xs.length xs.length (some (n : Int)) = min n xs.length := by
    show (if (n : Int) < 0 then ((n : Int) + (xs.length : Int)).toNat else min (n : Int).toNat xs.length) = _
    rw [if_neg (by omega), Int.toNat_natCast]
  rw [e1, e2]
  simp
theorem cut_ab (xs : List V) (m n : Nat) : cutV xs (some (m : Int)) (some (n : Int)) = (xs.take n).drop m := by
  unfold cutV
  have e1 : HT.sIx xs.length 0 (some (m : Int)) = min m xs.length := by
    show (if (m : Int) < 0 then ((m : Int) + (xs.length : Int)).toNat else min (m : Int).toNat xs.length) = _
    rw [if_neg (by omega), Int.toNat_natCast]
  have e2 : HT.sIx xs.length xs.length (some (n : Int)) = min n xs.length := by
    show (if (n : Int) < 0 then ((n : Int) + (xs.length : Int)).toNat else min (n : Int).toNat xs.length) = _
    rw [if_neg (by omega), Int.toNat_natCast]
  rw [e1, e2]
  apply List.ext_getElem?
  intro i
  simp only [List.getElem?_take, List.getElem?_drop]
  by_cases h : m ≤ xs.length
  · rw [show min m xs.length = m by omega]
    by_cases h2 : m + i < n
    · rw [if_pos h2]
      by_cases h3 : i < min n xs.length - m
      · rw [if_pos h3]
      · rw [if_neg h3]
        exact (List.getElem?_eq_none (by omega)).symm
    · rw [if_neg h2, if_neg (by omega)]
  · rw [show min m xs.length = xs.length by omega, if_neg (by omega)]
    by_cases h2 : m + i < n
    · rw [if_pos h2]; exact (List.getElem?_eq_none (by omega)).symm
    · rw [if_neg h2]
theorem w_slTo {p : Addr} {xs : List V} {n : Nat} (h : SqL K H p xs) (k : ∀ q H1, H q = none → Same H H1 → H1 q = some (.lst (xs.take n)) → Q (.ref q) H1) : rSlL K (.ref p) none (some (n : Int)) H Q :=
  ⟨p, xs, rfl, h, fun q hq => k q _ hq (same_new0 hq) (by rw [upd_same, cut_to'])⟩
theorem w_slAb {p : Addr} {xs : List V} {m n : Nat} (h : SqL K H p xs) (k : ∀ q H1, H q = none → Same H H1 → H1 q = some (.lst ((xs.take n).drop m)) → Q (.ref q) H1) : rSlL K (.ref p) (some (m : Int)) (some (n : Int)) H Q :=
  ⟨p, xs, rfl, h, fun q hq => k q _ hq (same_new0 hq) (by rw [upd_same, cut_ab])⟩
end
end
section
/-! Objects of the program's own classes, where nothing is raised: fields, methods, new ones. -/
open PySem PySem.Spec PyProof.Rows L2
open C8 (Cal Met Mak cal0 pe_c pe_gc pss_cut tCut)
def OFld (K : PySem.W.Frag) (f : Str) (x : V) (H : Hp) (Q : VK) : Prop := ∃ a C dx fs v, x = .ref a ∧ H a = some (.ins C dx fs) ∧ Cls K C ∧ NoAttr K C f ∧ fs.lookup f = some v ∧ Q v H
def OMeth (C : Addr) (m : Str) (sp : Sp) (dvs : List V) (E : XK) (t : TA) (σ : L2.St) (x : V) (H : Hp) (Q : VK) : Prop := ∃ a dx fs, x = .ref a ∧ H a = some (.ins C dx fs) ∧ fs.lookup m = none ∧ t σ H fun vs H2 => sp (x :: (vs ++ dvs)) H2 Q E
def OSet (K : PySem.W.Frag) (f : Str) (y x : V) (H : Hp) (G : Hp → Prop) : Prop := ∃ a C dx fs, x = .ref a ∧ H a = some (.ins C dx fs) ∧ Cls K C ∧ NoAttr K C f ∧ fs.length < 1000 ∧ G (upd H a (.ins C dx (putF f y fs)))
def OMake (C : Addr) (sp : Sp) (dvs : List V) (E : XK) (vs : List V) (H1 : Hp) (Q : VK) : Prop := ∀ x dx, H1 x = none → H1 dx = none → dx ≠ x → sp (.ref x :: (vs ++ dvs)) (upd (upd H1 dx (.own x)) x (.ins C dx [])) (fun v H2 => v = .non ∧ Q (.ref x) H2) E
section
variable {σ : L2.St} {H : Hp} {Q : VK} {D : Ends} {v x y : V} {ta tv : TE} {t : TA} {K : PySem.W.Frag} {f m : Str} {C r dx : Addr} {fs : List (Str × V)} {sp : Sp} {dvs : List V} {E : XK} {rd : V → V → Hp → VK → Prop} {G : Hp → Prop}
theorem o_fld (k : ta σ H fun x H1 => OFld K f x H1 Q) : tFld K ta f σ H Q := k
theorem o_meth (k : ta σ H fun x H1 => OMeth C m sp dvs E t σ x H1 Q) : tMeth C m sp dvs E ta t σ H Q := k
theorem o_fldS (k : tv σ H fun y H1 => ta σ H1 fun x H2 => OSet K f y x H2 fun H3 => D.nx σ H3) : sFld K ta tv f D σ H := k
theorem o_make (k : t σ H fun vs H1 => OMake C sp dvs E vs H1 Q) : tMake C sp dvs E t σ H Q := k
theorem o_fat (h : H r = some (.ins C dx fs)) (c : Cls K C) (n : NoAttr K C f) (l : fs.lookup f = some v) (k : Q v H) : OFld K f (.ref r) H Q := ⟨r, C, dx, fs, v, rfl, h, c, n, l, k⟩
theorem o_mat (h : H r = some (.ins C dx fs)) (l : fs.lookup m = none) (k : t σ H fun vs H2 => sp (.ref r :: (vs ++ dvs)) H2 Q E) : OMeth C m sp dvs E t σ (.ref r) H Q := ⟨r, dx, fs, rfl, h, l, k⟩
theorem o_set (h : H r = some (.ins C dx fs)) (c : Cls K C) (n : NoAttr K C f) (l : fs.length < 1000) (k : ∀ H3, H3 r = some (.ins C dx (putF f y fs)) → (∀ b o, b ≠ r → H b = some o → H3 b = some o) → (∀ b, H3 b = none → H b = none) → G H3) : OSet K f y (.ref r) H G :=
  ⟨r, C, dx, fs, rfl, h, c, n, l, k _ upd_same (fun b o n e => by rw [upd_ne n]; exact e) fun b e => by
    by_cases z : b = r
    · rw [z, upd_same] at e; cases e
    · rw [upd_ne z] at e; exact e⟩
end
/-- all but two objects is as it was -/
def Fq (il bl : Addr) (H H' : Hp) : Prop := (∀ b o, b ≠ il → b ≠ bl → H b = some o → H' b = some o) ∧ ∀ b, H' b = none → H b = none
section
variable {il bl : Addr} {H H1 H2 : Hp}
theorem Fq.refl : Fq il bl H H := ⟨fun _ _ _ _ h => h, fun _ h => h⟩
theorem Fq.trans (a : Fq il bl H H1) (b : Fq il bl H1 H2) : Fq il bl H H2 := ⟨fun c o n m h => b.1 c o n m (a.1 c o n m h), fun c h => a.2 c (b.2 c h)⟩
theorem Fq.same (s : Same H H1) : Fq il bl H H1 := ⟨fun b o _ _ h => s b o h, fun b h => s.free h⟩
theorem Fq.l (h : H il = some (.lst xs)) (h1 : H1 il = some o) (k : ∀ b o, b ≠ il → H b = some o → H1 b = some o) : Fq il bl H H1 := ⟨fun b o n _ e => k b o n e, fun b e => by
  by_cases z : b = il
  · rw [z, h1] at e; cases e
  · cases q : H b with
    | none => rfl
    | some o => rw [k b o z q] at e; cases e⟩
theorem Fq.r (h1 : H1 bl = some o) (k : ∀ b o, b ≠ bl → H b = some o → H1 b = some o) : Fq il bl H H1 := ⟨fun b o _ n e => k b o n e, fun b e => by
  by_cases z : b = bl
  · rw [z, h1] at e; cases e
  · cases q : H b with
    | none => rfl
    | some o => rw [k b o z q] at e; cases e⟩
end
end
section
/-! Definitions as they stand in memory. -/
open PySem PySem.Spec PyProof.Rows L2
def kT (a : List Nat) : Key := .inr ⟨a.toArray⟩
theorem kV_kT (a : List Nat) : kV (kT a) = T a := rfl
theorem kT_inj {a b : List Nat} (h : kT a = kT b) : a = b := T_inj (congrArg V.str (Sum.inr.inj h))
theorem kT_iff {a b : List Nat} : kT a = kT b ↔ a = b := ⟨kT_inj, fun h => by rw [h]⟩
def optN : Option (List Nat) → V
  | none => .non
  | some a => T a
/-- where a class stands: its object, its slots, its texts -/
structure CA where
  c : Addr
  sl : Addr
  tx : Addr
abbrev Row := Cl × CA
def entD (p : Row) : Key × V := (kT p.1.nm, .ref p.2.c)
def entX (p : List Nat × List Nat) : Key × V := (kT p.1, T p.2)
abbrev fldsD (b : Option (List Nat)) (sl tx : Addr) : List (Str × V) := [("base", optN b), ("slots", .ref sl), ("texts", .ref tx)]
def ClAt (CD : Addr) (H : Hp) (p : Row) : Prop := ∃ dx, H p.2.c = some (.ins CD dx (fldsD p.1.base p.2.sl p.2.tx)) ∧ H p.2.sl = some (.lst (p.1.slots.map T)) ∧ H p.2.tx = some (.dK (p.1.texts.map entX))
def cells (p : Row) : List Addr := [p.2.c, p.2.sl, p.2.tx]
def dsOf (R : List Row) : List Cl := R.map (·.1)
/-- what can be read: the definitions at D, their dict at d -/
structure DfR (CS CD D d : Addr) (R : List Row) (H : Hp) : Prop where
  obj : ∃ dx, H D = some (.ins CS dx [("known", .ref d)])
  tab : Rd H d (.dK (R.map entD))
  row : ∀ p ∈ R, ClAt CD H p
/-- the definitions, their footprint -/
def foot (D d : Addr) (R : List Row) : List Addr := D :: d :: R.flatMap cells
structure DfW (CS CD D d : Addr) (R : List Row) (H : Hp) : Prop where
  obj : ∃ dx, H D = some (.ins CS dx [("known", .ref d)])
  tab : H d = some (.dK (R.map entD))
  row : ∀ p ∈ R, ClAt CD H p
  nd : (foot D d R).Nodup
theorem DfW.r {CS CD D d : Addr} {R : List Row} {H : Hp} (h : DfW CS CD D d R H) : DfR CS CD D d R H := ⟨h.obj, .inl h.tab, h.row⟩
theorem DfR.same {CS CD D d : Addr} {R : List Row} {H H1 : Hp} (h : DfR CS CD D d R H) (s : Same H H1) : DfR CS CD D d R H1 := by
  obtain ⟨⟨dx, ho⟩, ht, hr⟩ := h
  refine ⟨⟨dx, s _ _ ho⟩, ht.elim (fun q => .inl (s _ _ q)) fun ⟨o, q⟩ => .inr ⟨o, s _ _ q⟩, fun p hp => ?_⟩
  obtain ⟨dx, h1, h2, h3⟩ := hr p hp
  exact ⟨dx, s _ _ h1, s _ _ h2, s _ _ h3⟩
theorem DfW.keep {CS CD D d : Addr} {R : List Row} {H H1 : Hp} (h : DfW CS CD D d R H) (s : ∀ b ∈ foot D d R, ∀ o, H b = some o → H1 b = some o) : DfW CS CD D d R H1 := by
  obtain ⟨⟨dx, ho⟩, ht, hr, nd⟩ := h
  have m : ∀ p ∈ R, ∀ x ∈ cells p, x ∈ foot D d R := fun p hp x hx => List.mem_cons_of_mem _ (List.mem_cons_of_mem _ (List.mem_flatMap.mpr ⟨p, hp, hx⟩))
  refine ⟨⟨dx, s _ List.mem_cons_self _ ho⟩, s _ (List.mem_cons_of_mem _ List.mem_cons_self) _ ht, fun p hp => ?_, nd⟩
  obtain ⟨dx, h1, h2, h3⟩ := hr p hp
  exact ⟨dx, s _ (m p hp _ (by simp [cells])) _ h1, s _ (m p hp _ (by simp [cells])) _ h2, s _ (m p hp _ (by simp [cells])) _ h3⟩
/-- the footprint is taken, by things that are no tuples -/
def NoTup (H : Hp) (b : Addr) : Prop := ∃ o, H b = some o ∧ (∀ xs, o ≠ .tup xs) ∧ ∀ q u, o ≠ .frz q u
theorem nt_ins {H : Hp} {b C dx : Addr} {fs : List (Str × V)} (h : H b = some (.ins C dx fs)) : NoTup H b := ⟨_, h, (fun _ e => nomatch e), (fun _ _ e => nomatch e)⟩
theorem nt_lst {H : Hp} {b : Addr} {xs : List V} (h : H b = some (.lst xs)) : NoTup H b := ⟨_, h, (fun _ e => nomatch e), (fun _ _ e => nomatch e)⟩
theorem nt_dK {H : Hp} {b : Addr} {xs : List (Key × V)} (h : H b = some (.dK xs)) : NoTup H b := ⟨_, h, (fun _ e => nomatch e), (fun _ _ e => nomatch e)⟩
theorem DfW.no {CS CD D d : Addr} {R : List Row} {H : Hp} (h : DfW CS CD D d R H) : ∀ b ∈ foot D d R, NoTup H b := by
  obtain ⟨⟨dx, ho⟩, ht, hr, nd⟩ := h
  intro b hb
  rcases List.mem_cons.mp hb with rfl | hb
  · exact nt_ins ho
  rcases List.mem_cons.mp hb with rfl | hb
  · exact nt_dK ht
  obtain ⟨p, hp, hb⟩ := List.mem_flatMap.mp hb
  obtain ⟨dx, h1, h2, h3⟩ := hr p hp
  have hb : b ∈ [p.2.c, p.2.sl, p.2.tx] := hb
  rcases List.mem_cons.mp hb with rfl | hb
  · exact nt_ins h1
  rcases List.mem_cons.mp hb with rfl | hb
  · exact nt_lst h2
  · rw [List.mem_singleton.mp hb]
    exact nt_dK h3
/-! ### frames -/
def FrL (F : List Addr) (H H' : Hp) : Prop := (∀ b o, b ∉ F → H b = some o → H' b = some o) ∧ ∀ b, H' b = none → H b = none
theorem FrL.refl {F : List Addr} {H : Hp} : FrL F H H := ⟨fun _ _ _ h => h, fun _ h => h⟩
theorem FrL.same {F : List Addr} {H H1 : Hp} (s : Same H H1) : FrL F H H1 := ⟨fun b o _ h => s b o h, fun b h => s.free h⟩
theorem FrL.trans {F : List Addr} {H H1 H2 : Hp} (a : FrL F H H1) (b : FrL F H1 H2) : FrL F H H2 := ⟨fun c o n h => b.1 c o n (a.1 c o n h), fun c h => a.2 c (b.2 c h)⟩
theorem FrL.mono {F G : List Addr} {H H1 : Hp} (a : FrL F H H1) (s : ∀ x ∈ F, x ∈ G) : FrL G H H1 := ⟨fun c o n h => a.1 c o (fun z => n (s c z)) h, a.2⟩
/-- from a footprint to the next one -/
structure Go (F F' : List Addr) (H H' : Hp) : Prop where
  fr : FrL F H H'
  nw : ∀ b ∈ F', b ∈ F ∨ H b = none
theorem Go.refl {F : List Addr} {H : Hp} : Go F F H H := ⟨.refl, fun _ h => .inl h⟩
theorem Go.same {F : List Addr} {H H1 : Hp} (s : Same H H1) : Go F F H H1 := ⟨.same s, fun _ h => .inl h⟩
theorem Go.trans {F F1 F2 : List Addr} {H H1 H2 : Hp} (a : Go F F1 H H1) (b : Go F1 F2 H1 H2) : Go F F2 H H2 := by
  refine ⟨⟨fun c o n h => b.fr.1 c o (fun z => (a.nw c z).elim n fun e => by rw [e] at h; cases h) (a.fr.1 c o n h), fun c h => a.fr.2 c (b.fr.2 c h)⟩, fun c h => ?_⟩
  rcases b.nw c h with k | k
  · exact a.nw c k
  · exact .inr (a.fr.2 c k)
theorem sqT_frL {K : PySem.W.Frag} {F : List Addr} {H H1 : Hp} (f : FrL F H H1) (nt : ∀ b ∈ F, NoTup H b) {p : Addr} {vs : List V} (q : SqT K H p vs) : SqT K H1 p vs := by
  have ne : ∀ o, H p = some o → ((∃ xs, o = .tup xs) ∨ ∃ q u, o = .frz q u) → p ∉ F := fun o e z m => by
    obtain ⟨o', e', n1, n2⟩ := nt p m
    rw [e] at e'; cases e'
    rcases z with ⟨xs, z⟩ | ⟨q, u, z⟩
    · exact n1 _ z
    · exact n2 _ _ z
  rcases q with (h | ⟨o, h⟩) | h
  · exact .inl (.inl (f.1 _ _ (ne _ h (.inl ⟨_, rfl⟩)) h))
  · exact .inl (.inr ⟨o, f.1 _ _ (ne _ h (.inr ⟨_, _, rfl⟩)) h⟩)
  · exact .inr h
theorem TrAt.frL {K : PySem.W.Frag} {F : List Addr} {H H1 : Hp} {v : V} {t : Tr} (h : TrAt K H v t) (f : FrL F H H1) (nt : ∀ b ∈ F, NoTup H b) : TrAt K H1 v t := h.imp fun _ _ q => sqT_frL f nt q
theorem TrsAt.frL {K : PySem.W.Frag} {F : List Addr} {H H1 : Hp} {v : List V} {t : List Tr} (h : TrsAt K H v t) (f : FrL F H H1) (nt : ∀ b ∈ F, NoTup H b) : TrsAt K H1 v t := h.imp fun _ _ q => sqT_frL f nt q
theorem sqT_ins {K : PySem.W.Frag} {x C dx p : Addr} {fs : List (Str × V)} {H H1 : Hp} {vs : List V} (q : SqT K H p vs) (hx : H x = some (.ins C dx fs)) (k : ∀ b o, b ≠ x → H b = some o → H1 b = some o) : SqT K H1 p vs := by
  rcases q with (h | ⟨o, h⟩) | h
  · exact .inl (.inl (k _ _ (fun e => by rw [e, hx] at h; cases h) h))
  · exact .inl (.inr ⟨o, k _ _ (fun e => by rw [e, hx] at h; cases h) h⟩)
  · exact .inr h
/-! ### the dict of classes -/
theorem val_row : ∀ {R : List Row} {n : List Nat}, valV (R.map entD) (kT n) = (R.find? fun p => decide (p.1.nm = n)).map fun p => V.ref p.2.c
  | [], n => rfl
  | p :: r, n => by
    rw [List.map_cons, List.find?_cons]
    by_cases e : p.1.nm = n
    · rw [decide_eq_true e, valV_pos (show (entD p).1 = kT n by rw [← e]; rfl)]
      rfl
    · rw [decide_eq_false e, valV_neg (fun z => e (kT_inj z))]
      exact val_row
theorem get_row : ∀ {R : List Row} {n : List Nat}, getC (dsOf R) n = (R.find? fun p => decide (p.1.nm = n)).map (·.1)
  | [], n => rfl
  | p :: r, n => by
    unfold getC dsOf
    rw [List.map_cons, List.find?_cons, List.find?_cons]
    by_cases e : p.1.nm = n
    · rw [decide_eq_true e]; rfl
    · rw [decide_eq_false e]; exact get_row
theorem row_of {R : List Row} {n : List Nat} (h : n ∈ nms (dsOf R)) : ∃ p ∈ R, p.1.nm = n ∧ valV (R.map entD) (kT n) = some (.ref p.2.c) ∧ getC (dsOf R) n = some p.1 ∧ R.find? (fun p => decide (p.1.nm = n)) = some p := by
  obtain ⟨c, h1, h2, h3⟩ := getC_mem h
  rw [get_row] at h3
  cases e : R.find? fun p => decide (p.1.nm = n) with
  | none => rw [e] at h3; cases h3
  | some p =>
    have h4 := List.find?_some e
    exact ⟨p, List.mem_of_find?_eq_some e, of_decide_eq_true h4, by rw [val_row, e]; rfl, by rw [get_row, e]; rfl, rfl⟩
theorem val_some {R : List Row} {n : List Nat} : (valV (R.map entD) (kT n)).isSome = decide (n ∈ nms (dsOf R)) := by
  by_cases h : n ∈ nms (dsOf R)
  · obtain ⟨p, _, _, e, _⟩ := row_of h
    rw [e, decide_eq_true h]; rfl
  · rw [decide_eq_false h, val_row]
    cases e : R.find? fun p => decide (p.1.nm = n) with
    | none => rfl
    | some p =>
      have h4 := List.find?_some e
      exact absurd (List.mem_map.mpr ⟨p.1, List.mem_map.mpr ⟨p, List.mem_of_find?_eq_some e, rfl⟩, of_decide_eq_true h4⟩) h
section
variable {CS CD D d : Addr} {R : List Row} {H : Hp} {Q : VK} {n : List Nat}
theorem k_get (h : DfR CS CD D d R H) (hn : n ∈ nms (dsOf R)) (k : ∀ p ∈ R, p.1.nm = n → getC (dsOf R) n = some p.1 → ClAt CD H p → Q (.ref p.2.c) H) : rDGet (.ref d) (T n) H Q := by
  obtain ⟨p, hp, e1, e2, e3, _⟩ := row_of hn
  exact ⟨d, _, rfl, .inl ⟨_, kT n, h.tab, rfl, e2.symm⟩, k p hp e1 e3 (h.row p hp)⟩
theorem k_in (h : DfR CS CD D d R H) (k : Q (.bl (decide (n ∈ nms (dsOf R)))) H) : rDIn (T n) (.ref d) H Q :=
  ⟨d, _, rfl, .inl ⟨_, kT n, h.tab, rfl, rfl⟩, by rw [val_some]; exact k⟩
theorem k_nin (h : DfR CS CD D d R H) (k : Q (.bl (!decide (n ∈ nms (dsOf R)))) H) : rDNin (T n) (.ref d) H Q :=
  ⟨d, _, rfl, .inl ⟨_, kT n, h.tab, rfl, rfl⟩, by rw [val_some]; exact k⟩
end
/-! ### the dict of texts -/
theorem val_tx : ∀ {l : List (List Nat × List Nat)} {n : List Nat}, valV (l.map entX) (kT n) = (l.find? fun p => decide (p.1 = n)).map fun p => T p.2
  | [], n => rfl
  | p :: r, n => by
    rw [List.map_cons, List.find?_cons]
    by_cases e : p.1 = n
    · rw [decide_eq_true e, valV_pos (show (entX p).1 = kT n by rw [← e]; rfl)]
      rfl
    · rw [decide_eq_false e, valV_neg (fun z => e (kT_inj z))]
      exact val_tx
theorem some_tx {l : List (List Nat × List Nat)} {n : List Nat} : (valV (l.map entX) (kT n)).isSome = decide (n ∈ l.map (·.1)) := by
  rw [val_tx, Option.isSome_map]
  by_cases h : n ∈ l.map (·.1)
  · rw [decide_eq_true h, List.find?_isSome]
    obtain ⟨p, hp, e⟩ := List.mem_map.mp h
    exact ⟨p, hp, decide_eq_true e⟩
  · rw [decide_eq_false h, Option.isSome_eq_false_iff, Option.isNone_iff_eq_none, List.find?_eq_none]
    intro p hp e
    exact h (List.mem_map.mpr ⟨p, hp, of_decide_eq_true e⟩)
theorem put_tx {l : List (List Nat × List Nat)} {k v : List Nat} : putK (l.map entX) (kT k) (T v) = (putT l k v).map entX := by
  have e : ((l.map entX).any fun kv => decide (kv.1 = kT k)) = decide (k ∈ l.map (·.1)) := by rw [valV_any, some_tx]
  unfold putK putT
  rw [e]
  by_cases h : k ∈ l.map (·.1)
  · rw [if_pos (decide_eq_true h), if_pos h, List.map_map, List.map_map]
    refine List.map_congr_left fun p _ => ?_
    show (if kT p.1 = kT k then (kT p.1, T v) else entX p) = entX (if p.1 = k then (p.1, v) else p)
    by_cases z : p.1 = k
    · rw [if_pos (by rw [z]), if_pos z]; rfl
    · rw [if_neg (fun y => z (kT_inj y)), if_neg z]
  · rw [if_neg (by simp [h]), if_neg h, List.map_append]
    rfl
theorem drop_tx {l : List (List Nat × List Nat)} {k : List Nat} : dropK (l.map entX) (kT k) = (dropT l k).map entX := by
  unfold dropK dropT
  rw [List.filter_map]
  congr 1
  refine List.filter_congr fun p _ => ?_
  show decide (kT p.1 ≠ kT k) = decide (p.1 ≠ k)
  refine decide_eq_decide.mpr ?_
  rw [Ne, Ne, kT_iff]
/-! ### rows changed -/
theorem cells_apart : ∀ {R : List Row}, (R.flatMap cells).Nodup → ∀ p ∈ R, ∀ q ∈ R, p.1.nm ≠ q.1.nm → ∀ x ∈ cells p, ∀ y ∈ cells q, x ≠ y
  | [], _, p, hp, _, _, _, _, _, _, _ => by cases hp
  | a :: r, nd, p, hp, q, hq, ne, x, hx, y, hy => by
    rw [List.flatMap_cons] at nd
    obtain ⟨_, n2, n3⟩ := List.nodup_append.mp nd
    rcases List.mem_cons.mp hp with rfl | hp'
    · rcases List.mem_cons.mp hq with rfl | hq'
      · exact absurd rfl ne
      · exact n3 x hx y (List.mem_flatMap.mpr ⟨q, hq', hy⟩)
    · rcases List.mem_cons.mp hq with rfl | hq'
      · exact fun e => n3 y hy x (List.mem_flatMap.mpr ⟨p, hp', hx⟩) e.symm
      · exact cells_apart n2 p hp' q hq' ne x hx y hy
/-- one row with another content at the same places -/
def onR (n : List Nat) (f : Cl → Cl) (R : List Row) : List Row := R.map fun p => if p.1.nm = n then (f p.1, p.2) else p
theorem onR_ds (n : List Nat) (f : Cl → Cl) (R : List Row) : dsOf (onR n f R) = onC n f (dsOf R) := by
  unfold dsOf onR onC
  rw [List.map_map, List.map_map]
  refine List.map_congr_left fun p _ => ?_
  show (if p.1.nm = n then (f p.1, p.2) else p).1 = if p.1.nm = n then f p.1 else p.1
  split <;> rfl
theorem onR_foot {n : List Nat} {f : Cl → Cl} {D d : Addr} : ∀ {R : List Row}, foot D d (onR n f R) = foot D d R := by
  intro R
  unfold foot onR
  congr 2
  rw [List.flatMap_map]
  congr 1
  funext p
  show cells (if p.1.nm = n then (f p.1, p.2) else p) = cells p
  split <;> rfl
theorem onR_ent {n : List Nat} {f : Cl → Cl} (hf : ∀ c, (f c).nm = c.nm) {R : List Row} : (onR n f R).map entD = R.map entD := by
  unfold onR
  rw [List.map_map]
  refine List.map_congr_left fun p _ => ?_
  show entD (if p.1.nm = n then (f p.1, p.2) else p) = entD p
  split
  · show (kT (f p.1).nm, V.ref p.2.c) = (kT p.1.nm, V.ref p.2.c)
    rw [hf]
  · rfl
/-- a store into one cell of the class n -/
theorem DfW.put {CS CD D d : Addr} {R : List Row} {H H1 : Hp} {n : List Nat} {f : Cl → Cl} {x : Addr} {p : Row} (h : DfW CS CD D d R H) (nd : (nms (dsOf R)).Nodup) (hp : p ∈ R) (hn : p.1.nm = n) (hx : x ∈ cells p) (hf : ∀ c, (f c).nm = c.nm)
    (k : ∀ b o, b ≠ x → H b = some o → H1 b = some o) (new : ClAt CD H1 (f p.1, p.2)) : DfW CS CD D d (onR n f R) H1 := by
  obtain ⟨⟨dx, ho⟩, ht, hr, hnd⟩ := h
  have hxf : x ∈ R.flatMap cells := List.mem_flatMap.mpr ⟨p, hp, hx⟩
  have nd' : (D :: d :: R.flatMap cells).Nodup := hnd
  obtain ⟨n1, n2⟩ := List.nodup_cons.mp nd'
  obtain ⟨n3, n4⟩ := List.nodup_cons.mp n2
  have one : ∀ q ∈ R, q.1.nm = n → q = p := fun q hq e => by
    have : ∀ {R : List Row}, (nms (dsOf R)).Nodup → p ∈ R → q ∈ R → q = p := by
      intro R
      induction R with
      | nil => intro _ h; cases h
      | cons a r ih =>
        intro z hp hq
        obtain ⟨z1, z2⟩ := List.nodup_cons.mp (show (a.1.nm :: nms (dsOf r)).Nodup from z)
        rcases List.mem_cons.mp hp with e1 | hp'
        · rcases List.mem_cons.mp hq with e2 | hq'
          · rw [e1, e2]
          · exact absurd (List.mem_map.mpr ⟨q.1, List.mem_map.mpr ⟨q, hq', rfl⟩, by rw [e, ← hn, e1]⟩) z1
        · rcases List.mem_cons.mp hq with e2 | hq'
          · exact absurd (List.mem_map.mpr ⟨p.1, List.mem_map.mpr ⟨p, hp', rfl⟩, by rw [hn, ← e, e2]⟩) z1
          · exact ih z2 hp' hq'
    exact this nd hp hq
  refine ⟨⟨dx, k _ _ (fun e => n1 (by rw [e]; exact List.mem_cons_of_mem _ hxf)) ho⟩, ?_, fun q hq => ?_, by rw [onR_foot]; exact hnd⟩
  · rw [onR_ent hf]
    exact k _ _ (fun e => n3 (by rw [e]; exact hxf)) ht
  · obtain ⟨q0, hq0, rfl⟩ := List.mem_map.mp hq
    by_cases e : q0.1.nm = n
    · rw [if_pos e, one q0 hq0 e]
      exact new
    · rw [if_neg e]
      obtain ⟨dx, h1, h2, h3⟩ := hr q0 hq0
      have ap := fun y hy => cells_apart n4 q0 hq0 p hp (fun z => e (z.trans hn)) y hy x hx
      exact ⟨dx, k _ _ (ap _ (by simp [cells])) h1, k _ _ (ap _ (by simp [cells])) h2, k _ _ (ap _ (by simp [cells])) h3⟩
/-- a class more -/
theorem put_new {R : List Row} {n : List Nat} {c : Addr} (h : n ∉ nms (dsOf R)) : putK (R.map entD) (kT n) (.ref c) = R.map entD ++ [(kT n, .ref c)] := by
  refine putK_new _ ?_
  have := val_some (R := R) (n := n)
  rw [decide_eq_false h, Option.isSome_eq_false_iff, Option.isNone_iff_eq_none] at this
  exact this
theorem drop_row {R : List Row} {n : List Nat} : dropK (R.map entD) (kT n) = (R.filter fun p => decide (p.1.nm ≠ n)).map entD := by
  unfold dropK
  rw [List.filter_map]
  congr 1
  refine List.filter_congr fun p _ => ?_
  show decide (kT p.1.nm ≠ kT n) = decide (p.1.nm ≠ n)
  refine decide_eq_decide.mpr ?_
  rw [Ne, Ne, kT_iff]
theorem ds_filter (R : List Row) (n : List Nat) : dsOf (R.filter fun p => decide (p.1.nm ≠ n)) = (dsOf R).filter fun c => decide (c.nm ≠ n) := by
  unfold dsOf
  rw [List.filter_map]
  rfl
end
section
/-! list.remove of a text. -/
open PySem PySem.Spec PyProof.Rows L2
/-- is it the text -/
def eqs (k : Str) (v : Value) : Bool := match v with
  | .str x _ => x.cps.toList == k.cps.toList
  | _ => false
theorem vals_str : ∀ {l : List (List Nat)} {us : List Value}, Vals (l.map T) us → ∀ (i : Nat) (a : List Nat), l[i]? = some a → ∃ t, us[i]? = some (.str ⟨a.toArray⟩ t) := fun {l us} h i a e => by
  obtain ⟨u, hu, r⟩ := h.get (i := i) (x := T a) (by rw [List.getElem?_map, e]; rfl)
  obtain ⟨t, rfl⟩ := r
  exact ⟨t, hu⟩
theorem erase_mapT : ∀ (l : List (List Nat)) (j : Nat), (l.map T).eraseIdx j = (l.eraseIdx j).map T
  | [], j => by simp
  | a :: r, 0 => by simp
  | a :: r, j + 1 => by
    have ih := erase_mapT r j
    simp [ih]
section
variable {X : Cx}
def rRemS : V → List V → Hp → VK → Prop := fun x xs H Q => ∃ (l : Addr) (ns : List (List Nat)) (k : List Nat) (j : Nat), x = .ref l ∧ xs = [T k] ∧ H l = some (.lst (ns.map T)) ∧ ns[j]? = some k ∧ (∀ m : Nat, m < j → ns[m]? ≠ some k) ∧ Q .non (upd H l (.lst ((ns.eraseIdx j).map T)))
theorem mt_removeS : MtM X "list.remove" rRemS := by
  intro pins s σ H x xs v us Q I rx rxs h
  obtain ⟨l, ns, k, j, rfl, rfl, hH, hj, hno, q⟩ := h
  cases rx
  obtain ⟨u, rfl, ru⟩ := rxs.one
  obtain ⟨t, rfl⟩ := ru
  obtain ⟨z, its, n, r, hl, e⟩ := I.lstM hH
  rw [List.length_map] at hl z
  have hjn : j < ns.length := (List.getElem?_eq_some_iff.mp hj).1
  have hjl : j < its.toArray.size := by rw [List.size_toArray]; omega
  have row : ∀ m : Nat, m < its.length → ∃ a t, ns[m]? = some a ∧ its[m]? = some (.str ⟨a.toArray⟩ t) := fun m hm => by
    have e1 : ns[m]? = some (ns[m]'(by omega)) := List.getElem?_eq_getElem _
    obtain ⟨t, ht⟩ := vals_str r m _ e1
    exact ⟨_, t, e1, ht⟩
  have giv : ∀ y ∈ its, MeetsSeq.EqGives y (.str ⟨k.toArray⟩ t) (eqs ⟨k.toArray⟩ y) := fun y hy => by
    obtain ⟨i, hi⟩ := List.mem_iff_getElem?.mp hy
    obtain ⟨a, t2, _, h2⟩ := row i (List.getElem?_eq_some_iff.mp hi).1
    rw [hi] at h2
    cases h2
    exact SeqRoads2.EqGives.str _ _ t2 t
  refine call_meets PySem.F.slot_list_remove ⟨_, e, rfl⟩ PySem.F.entry_list_remove (PySem.F.args_list_remove_2 _ _)
    (MeetsSeq.list_remove l its.toArray n (.str ⟨k.toArray⟩ t) (eqs ⟨k.toArray⟩) (fun y hy => giv y (by simpa using hy)) j hjl ?_ ?_ (by rw [List.size_toArray]; omega)) ⟨e, ?_⟩
  · obtain ⟨tj, hjt⟩ := vals_str r j k hj
    obtain ⟨h1, h2⟩ := List.getElem?_eq_some_iff.mp hjt
    have e1 : its.toArray[j] = .str ⟨k.toArray⟩ tj := by simpa using h2
    rw [e1]
    exact beq_self_eq_true _
  · intro m hm hmj
    obtain ⟨a, tm, h0, hmt⟩ := row m (by simpa using hm)
    obtain ⟨h1, h2⟩ := List.getElem?_eq_some_iff.mp hmt
    have e1 : its.toArray[m] = .str ⟨a.toArray⟩ tm := by simpa using h2
    rw [e1]
    refine beq_eq_false_iff_ne.mpr fun e2 => hno m hmj ?_
    have e2 : a = k := e2
    rw [h0, e2]
  · have rr := r.eraseIdx j
    rw [erase_mapT] at rr
    refine ⟨.non, _, I.lset (its' := its.eraseIdx j) (t' := s.toks) hH e ?_ rr ?_, rfl, q⟩
    · show its.toArray.eraseIdxIfInBounds j = (its.eraseIdx j).toArray
      rw [List.eraseIdxIfInBounds_toArray]
    · have z2 : (ns.eraseIdx j).length ≤ ns.length := List.length_eraseIdx_le ..
      rw [List.length_map]
      omega
end
end
section
/-! Comprehensions over any walk; dicts locked, sorted, deleted from; len of a set. -/
open PySem PySem.Spec PyProof.Rows L2
section
variable {σ : L2.St} {H : Hp} {Q : VK} {D : Ends} {K : PySem.W.Frag} {J : It} {n : Nat} {G : Hp → Prop} {Y : Nat → Hp → V → Hp → Prop} {g : TG} {tt : TT} {te : TE} {vs : List Nat} {td ty : TE}
/-- what a comprehension asks, its walk J at hand -/
def LcJ (J : It) (g : TG) (tt : TT) (te : TE) (vs : List Nat) (σ : L2.St) (H : Hp) (Q : VK) : Prop := ∀ D, H D = none → ∃ W : Nat → Nat → Hp → Prop, (∃ m, W 0 m (upd H D (.lst []))) ∧ ∀ i m H, W i m H →
  (J.stop i H ∧ Q (.ref D) H) ∨ (J.go i H ∧ ∃ Nx : Hp → Prop, (∀ H', Nx H' → ∃ m', m' < m ∧ W (i + 1) m' H') ∧ ∀ x H', J.yld i H x H' → g x (wipe σ vs) H' fun σ2 H2 => wipe σ2 vs = wipe σ vs ∧ tt σ2 H2 fun b H3 =>
    if b = true then te σ2 H3 fun y H4 => ∃ acc, H4 D = some (.lst acc) ∧ acc.length < sizeLine ∧ Nx (upd H4 D (.lst (acc ++ [y]))) else Nx H3)
theorem lc_W (wk : Walk J n G Y) (Pv : Addr → Nat → List V → Hp → Prop) (h0 : ∀ D H1, H D = none → Same H H1 → H1 D = some (.lst []) → Pv D 0 [] H1) (hl : ∀ D i acc H1, i ≤ n → Pv D i acc H1 → G H1)
    (hs : ∀ D (i : Nat) x acc H1 H2, i < n → acc.length ≤ i → H1 D = some (.lst acc) → Pv D i acc H1 → Y i H1 x H2 → g x (wipe σ vs) H2 fun σ2 H3 => wipe σ2 vs = wipe σ vs ∧ tt σ2 H3 fun b H4 =>
      if b = true then te σ2 H4 fun y H5 => ∃ acc, H5 D = some (.lst acc) ∧ acc.length < sizeLine ∧ LcN Pv D (i + 1) (upd H5 D (.lst (acc ++ [y]))) else LcN Pv D (i + 1) H4)
    (hd : ∀ D acc H1, acc.length ≤ n → H1 D = some (.lst acc) → Pv D n acc H1 → Q (.ref D) H1) : LcJ J g tt te vs σ H Q := fun D hD =>
  lc_it wk (fun i H1 => LcN Pv D i H1) ⟨[], Nat.le_refl _, upd_same, h0 D _ hD (same_new0 hD) upd_same⟩ (fun i H1 hi ⟨acc, _, _, p⟩ => hl D i acc H1 hi p)
    (fun i x H1 H2 hi ⟨acc, h1, h2, p⟩ y => hs D i x acc H1 H2 hi h1 h2 p y) fun H1 ⟨acc, h1, h2, p⟩ => hd D acc H1 h1 h2 p
theorem w_ddel (k : td σ H fun x H1 => ty σ H1 fun y H2 => ∃ a kvs k, x = .ref a ∧ H2 a = some (.dK kvs) ∧ y = kV k ∧ (valV kvs k).isSome = true ∧ D.nx σ (upd H2 a (.dK (dropK kvs k)))) : sDDel td ty D σ H := k
theorem w_lock {t : TE} {d : Addr} {kvs : List (Key × V)} (h : H d = some (.dK kvs)) (k : ∀ od, t σ (upd H d (.frz od (.dK kvs))) fun v H' => H' d = some (.frz od (.dK kvs)) ∧ Q v (upd H' d (.dK kvs))) : tLockE t σ H Q := ⟨d, _, h, True.intro, k⟩
theorem w_lockS {t : TS} {d : Addr} {kvs : List (Key × V)} (h : H d = some (.dK kvs)) (k : ∀ od, t ⟨fun σ' H' => H' d = some (.frz od (.dK kvs)) ∧ D.nx σ' (upd H' d (.dK kvs)), fun v H' => H' d = some (.frz od (.dK kvs)) ∧ D.rt v (upd H' d (.dK kvs)), fun σ' H' => H' d = some (.frz od (.dK kvs)) ∧ D.bk σ' (upd H' d (.dK kvs)), fun σ' H' => H' d = some (.frz od (.dK kvs)) ∧ D.ct σ' (upd H' d (.dK kvs))⟩ σ (upd H d (.frz od (.dK kvs)))) : tLock t D σ H := ⟨d, _, h, True.intro, k⟩
/-- sorted(d) -/
def rSortD : List V → Hp → VK → Prop := fun xs H Q => ∃ (a : Addr) (kvs : List (Key × V)) (ks : List Str), xs = [.ref a] ∧ Rd H a (.dK kvs) ∧ kvs.map (·.1) = ks.map Sum.inr ∧ ks.length < 64 ∧ ∀ ys p, ys.Perm ks → sortedS ys = true → H p = none → Q (.ref p) (upd H p (.lst (ys.map V.str)))
theorem call_sortedDS {X : Cx} (hc : X.calm = true) : CallR X (.builtin "sorted") rSortD := call_sortedD hc
theorem w_listT {p : Addr} {ys : List V} (h : SqT K H p ys) (k : ∀ l H1, H l = none → Same H H1 → H1 l = some (.lst ys) → Q (.ref l) H1) : rListOf K [.ref p] H Q := ⟨p, ys, rfl, .inr h, fun l hl => k l _ hl (same_new0 hl) upd_same⟩
theorem w_rem {p : Addr} {ns : List (List Nat)} {a : List Nat} (h : H p = some (.lst (ns.map T))) (ha : a ∈ ns) (k : ∀ H1, H1 p = some (.lst ((ns.erase a).map T)) → (∀ b o, b ≠ p → H b = some o → H1 b = some o) → Q .non H1) : rRemS (.ref p) [T a] H Q := by
  have hlt := List.idxOf_lt_length_of_mem ha
  have he : ns.eraseIdx (ns.idxOf a) = ns.erase a := by rw [List.erase_eq_eraseIdx_of_idxOf rfl]
  refine ⟨p, ns, a, ns.idxOf a, rfl, rfl, h, ?_, fun m hm e => ?_, ?_⟩
  · rw [List.getElem?_eq_getElem hlt, List.getElem_idxOf hlt]
  · obtain ⟨h2, h3⟩ := List.getElem?_eq_some_iff.mp e
    have h1 := List.not_of_lt_findIdx (p := (· == a)) (xs := ns) (i := m) hm
    have h4 : (ns[m] == a) = true := by rw [h3]; exact beq_self_eq_true a
    rw [h4] at h1
    cases h1
  · rw [he]
    exact k _ upd_same fun b o n e => by rw [upd_ne n]; exact e
theorem w_lcV (k : td σ H fun x H1 => ∃ d o kvs, x = .ref d ∧ H1 d = some (.frz o (.dK kvs)) ∧ LcJ (Itd d o kvs) g tt te vs σ H1 Q) : tLc (iVals td) g tt te vs σ H Q := k
theorem w_lcKk (k : td σ H fun x H1 => ∃ d o, x = .ref d ∧ ((∃ kvs, H1 d = some (.frz o (.dK kvs)) ∧ LcJ (Itk d o kvs) g tt te vs σ H1 Q) ∨ ∃ kvs, H1 d = some (.frz o (.dT kvs)) ∧ LcJ (Itkt d o kvs) g tt te vs σ H1 Q)) : tLc (iKeys td) g tt te vs σ H Q := k
theorem w_lcZ {ta : TA} (k : ta σ H fun us H1 => ∃ a b xs ys, us = [.ref a, .ref b] ∧ SqL K H1 a xs ∧ SqL K H1 b ys ∧ LcJ (Itz K a b) g tt te vs σ H1 Q) : tLc (iZip K ta) g tt te vs σ H Q := k
theorem w_lcE {ta : TA} (k : ta σ H fun us H1 => ∃ a xs, us = [.ref a] ∧ SqL K H1 a xs ∧ LcJ (Ite K a) g tt te vs σ H1 Q) : tLc (iEnum K ta) g tt te vs σ H Q := k
theorem w_lcTt {te0 : TE} (k : te0 σ H fun x H1 => ∃ a, x = .ref a ∧ (∃ xs, SqT K H1 a xs) ∧ LcJ (Itt K a) g tt te vs σ H1 Q) : tLc (iTup K te0) g tt te vs σ H Q := k
theorem cTe {a b : List Nat} {A B : Prop} (e : a = b) (k : A) : if decide (T a = T b) = true then A else B := by
  rw [if_pos (decide_eq_true (by rw [e]))]; exact k
theorem cTn {a b : List Nat} {A B : Prop} (e : a ≠ b) (k : B) : if decide (T a = T b) = true then A else B := by
  rw [if_neg (by rw [decide_eq_false (fun z => e (T_inj z))]; exact Bool.false_ne_true)]; exact k
theorem cNe {a b : List Nat} {A B : Prop} (e : a = b) (k : B) : if (!decide (T a = T b)) = true then A else B := by
  rw [if_neg (by rw [decide_eq_true (by rw [e])]; exact Bool.false_ne_true)]; exact k
theorem cNn {a b : List Nat} {A B : Prop} (e : a ≠ b) (k : A) : if (!decide (T a = T b)) = true then A else B := by
  rw [if_pos (by rw [decide_eq_false (fun z => e (T_inj z))]; rfl)]; exact k
theorem w_par {i j : Nat} {ta : TA} (k : ta σ H fun us H1 => ∃ v x, us = [v, x] ∧ D.nx ((σ.set i (some v)).set j (some x)) H1) : tPar i j ta D σ H := k
theorem w_any {p : Addr} {bs : List Bool} (h : SqL K H p (bs.map V.bl)) (k : Q (.bl (bs.any id)) H) : L2.rAny K [.ref p] H Q := ⟨p, bs, rfl, h, k⟩
theorem same_unlock {d : Addr} {u x : HO} {H1 : Hp} (h : H d = some u) (s : Same (upd H d x) H1) : Same H (upd H1 d u) := fun b o e => by
  by_cases z : b = d
  · rw [z, h] at e; cases e; rw [z, upd_same]
  · rw [upd_ne z]; exact s b o (by rw [upd_ne z]; exact e)
theorem catA_new {a b : Addr} {xs ys : List V} (ha : SqT K H a xs) (hb : SqT K H b ys) (z : xs.length + ys.length ≤ 1000000) (k : ∀ p H1, Same H H1 → SqT K H1 p (xs ++ ys) → Q (.ref p) H1) : rCatA K (.ref a) (.ref b) H Q :=
  ⟨a, b, xs, ys, rfl, rfl, ha, hb, Nat.le_trans z (by decide), fun e => k b H (fun _ _ h => h) (by rw [e]; exact hb), fun _ e => k a H (fun _ _ h => h) (by rw [e, List.append_nil]; exact ha), fun _ _ p hp => k p _ (same_new0 hp) (.inl (.inl upd_same))⟩
end
section
open C8 (Mak)
variable {X : Cx} {k j : Nat} {x : Str} {C : Addr} {sp : Sp} {dvs : List V} {p pos : Pos}
theorem pe_mk0 (c : Mak X.prog X.w X.K X.mg X.base k x C sp dvs) (hr : Room j X.A) (hk : k + 1 ≤ j) (hg : Gl X x) (hdb : (x == ("__debug__" : Str)) = false := by decide) :
    PE X (.Call (.Name x p) [] [] pos) (tMake C sp dvs C8.E0 tNil) := by
  obtain ⟨f, fd, ps, ds, M, F, hm, b, d⟩ := c.ex
  exact pe_make0 M F (hr.mono hk) hg hm b d pass0 hdb
end
end
section
/-! len(set(xs)), xs a tuple of texts: as many as there are different ones. -/
namespace SSn
open PySem PySem.Spec PyProof.Rows
/-- of the first i texts there are m different ones -/
def Dif (zs : List Str) (i m : Nat) : Prop := m ≤ i ∧ (m = i ↔ (zs.take i).Nodup)
theorem dif0 (zs : List Str) : Dif zs 0 0 := ⟨Nat.le_refl _, by simp⟩
theorem dif_next {zs : List Str} {i m : Nat} {x : Str} (h : Dif zs i m) (e : zs[i]? = some x) : Dif zs (i + 1) (if (zs.take i).any (· == x) = true then m else m + 1) := by
  obtain ⟨hlt, ex⟩ := List.getElem?_eq_some_iff.mp e
  have et : zs.take (i + 1) = zs.take i ++ [x] := by rw [List.take_succ_eq_append_getElem hlt, ex]
  have hm : (zs.take i).any (· == x) = true ↔ x ∈ zs.take i := by
    rw [List.any_eq_true]
    exact ⟨fun ⟨y, hy, k⟩ => by rw [← beq_iff_eq.mp k]; exact hy, fun k => ⟨x, k, beq_self_eq_true _⟩⟩
  have hnd : (zs.take i ++ [x]).Nodup ↔ (zs.take i).Nodup ∧ x ∉ zs.take i := by
    rw [List.nodup_append]
    constructor
    · rintro ⟨a, _, c⟩
      exact ⟨a, fun z => c x z x (List.mem_singleton.mpr rfl) rfl⟩
    · rintro ⟨a, c⟩
      exact ⟨a, by simp, fun y hy z hz q => c (by rw [← List.mem_singleton.mp hz, ← q]; exact hy)⟩
  unfold Dif
  rw [et, hnd]
  by_cases k : x ∈ zs.take i
  · rw [if_pos (hm.mpr k)]
    exact ⟨by have := h.1; omega, ⟨fun q => by have := h.1; omega, fun q => absurd k q.2⟩⟩
  · rw [if_neg (fun q => k (hm.mp q))]
    refine ⟨by have := h.1; omega, ⟨fun q => ⟨h.2.mp (by omega), k⟩, fun q => by rw [h.2.mpr q.1]⟩⟩
theorem str_get : ∀ {us : List Value} {zs : List Str}, StrsAre us zs → ∀ (i : Nat) (v : Value), us[i]? = some v → ∃ t x, v = .str x t ∧ zs[i]? = some x
  | _, _, .nil, i, v, h => by simp at h
  | _, _, .cons n t hr, 0, v, h => by
    simp at h
    exact ⟨t, n, h.symm, rfl⟩
  | _, _, .cons n t hr, i + 1, v, h => by
    obtain ⟨t', x, e1, e2⟩ := str_get hr i v (by simpa using h)
    exact ⟨t', x, e1, by simpa using e2⟩
section
variable {pg : Program} {wd : World} {ar : Around} {Rs : Result → Shared → Prop} {It : Addr} {fp wr : List Addr} {Gn : Array GenState → Array GenState → Prop} {sz : Nat} {Pw : Nat → Value → Prop} {Stt : Nat → Shared → Prop}
abbrev hasW (zs : List Str) (i : Nat) : Str → Bool := fun k' => (zs.take i).any (· == k')
theorem loop_all (Wk : WalksS pg wd ar.in1 It fp wr Gn sz Pw Stt) (D : Addr) (hDf : D ∉ fp) (zs : List Str) (hz : zs.length = sz) (hb : sz < 1000)
    (hv : ∀ i v, Pw i v → ∃ t x, v = .str x t ∧ zs[i]? = some x) :
    ∀ (k i m : Nat) (st : Shared), sz - i = k → i ≤ sz → Dif zs i m → Stt i st → st.heap.SetOf (PySem.strKind pg wd) D (hasW zs i) m →
      (∀ st' m', Moved (D :: wr) Gn st st' → Dif zs sz m' → st'.heap.SetOf (PySem.strKind pg wd) D (hasW zs sz) m' → Rs (.ok (.ret .none)) st') →
      codeAny (model pg wd) ar (.builtin "set.update.loop" ⟨[.ref D, .ref It], []⟩) Rs st := by
  have hDw : D ∉ wr := fun h => hDf (Wk.sub _ h)
  have inc : ∀ b ∈ wr, b ∈ D :: wr := fun b hb => List.mem_cons_of_mem _ hb
  intro k
  induction k with
  | zero =>
    intro i m st hk hi hd hst hS hR
    obtain rfl : i = sz := by omega
    refine codeAny_builtin F.entry_set_update_loop ?_
    rw [Around.under_plainId F.plain_set_update_loop _]
    show wpAny _ ar.in1 (pyNext (.ref It) >>= _) _ _ st
    refine wpAny_bind (Wk.done st _ _ hst fun st' hm => wpAny_pure (hR st' m (hm.mono inc) hd ?_))
    obtain ⟨o, es, ep, t, ho, rest⟩ := hS
    exact ⟨o, es, ep, t, hm.heap D _ hDw ho, rest⟩
  | succ k ih =>
    intro i m st hk hi hd hst hS hR
    have hlt : i < sz := by omega
    refine codeAny_builtin F.entry_set_update_loop ?_
    rw [Around.under_plainId F.plain_set_update_loop _]
    show wpAny _ ar.in1 (pyNext (.ref It) >>= _) _ _ st
    refine wpAny_bind (Wk.item i st _ _ hlt hst fun v st' hP hst' hm => ?_)
    obtain ⟨t, x, rfl, hx⟩ := hv i v hP
    have hS' : st'.heap.SetOf (PySem.strKind pg wd) D (hasW zs i) m := by
      obtain ⟨o, es, ep, tb, ho, rest⟩ := hS
      exact ⟨o, es, ep, tb, hm.heap D _ hDw ho, rest⟩
    show wpAny _ ar.in1 (holding [Value.str x t] (setAdd D (.str x t)) >>= _) _ _ st'
    refine wpAny_bind (wpAny_holding ?_)
    unfold setAdd
    refine wpAny_holding (wpAny_bind ((PySem.strKind pg wd).pyHash (k := x) (strKind_is _ _ _ _) ?_))
    refine wpAny_setAddHashed_of (knd := PySem.strKind pg wd) (s := { st' with toks := st'.toks + 1 }) (strKind_is _ _ _ _) rfl hS' (by have := hd.1; unfold scanBound; omega) fun h' hsb hS2 => ?_
    have hSi : h'.SetOf (PySem.strKind pg wd) D (hasW zs (i + 1)) (if (zs.take i).any (· == x) = true then m else m + 1) := by
      obtain ⟨hl2, ex⟩ := List.getElem?_eq_some_iff.mp hx
      refine SetOf_congr hS2 (fun k' => ?_) rfl
      show ((zs.take i).any (· == k') || decide (k' = x)) = (zs.take (i + 1)).any (· == k')
      rw [List.take_succ_eq_append_getElem hl2, ex, List.any_append, List.any_cons, List.any_nil, Bool.or_false]
      congr 1
      rw [Bool.eq_iff_iff, decide_eq_true_iff, beq_iff_eq]
      exact ⟨fun q => q.symm, fun q => q.symm⟩
    refine wpAny_pure ⟨plainId_quiet F.plain_set_update_loop _, ih (i + 1) _ _ (by omega) hlt (dif_next hd hx) (Wk.frame _ st' _ _ hst' (Nat.le_succ _) fun b hb o e => ?_) hSi fun st2 m2 hm2 hd2 hS3 => ?_⟩
    · rw [hsb.2 b (fun q : b = D => hDf (by rw [← q]; exact hb))]; exact e
    · refine hR st2 m2 (Moved.trans Wk.gtrans ((hm.mono inc).then_heap (Nat.le_succ _) fun b o hb e => ?_) hm2) hd2 hS3
      rw [hsb.2 b (fun q : b = D => hb (by rw [q]; exact List.mem_cons_self))]; exact e
end
section
variable {pg : Program} {wd : World} {ar : Around} {Er : Value → Shared → Prop} {st : Shared}
abbrev freshS (led : Bool) : Obj := { cls := .type "set", dict := none, data := .set #[] 0 (.fresh 0 0 led) }
set_option maxHeartbeats 6400000 in
theorem set_tup {l : Addr} {items : Array Value} {zs : List Str} {Q : Value → Shared → Prop} (hh : ar.handled = none) (hl : st.heap.IsTuple l items) (hi : StrsAre items.toList zs) (hb : zs.length < 1000)
    (h : ∀ (h' : Heap) (tk m : Nat), Dif zs items.size m → h'.SetOf (PySem.strKind pg wd) st.heap.objs.size (hasW zs items.size) m → (∀ b o, b < st.heap.objs.size → st.heap.get? b = some o → h'.get? b = some o) → Q (.ref st.heap.objs.size) { st with heap := h', toks := tk }) :
    wpAny (model pg wd) ar (call (.type "set") [.ref l]) Q Er st := by
  obtain ⟨c, tl, hmro⟩ := PySem.F.called_set.mro
  have a1 := PySem.F.called_set.made
  have a2 := PySem.F.called_set.sub
  refine wpAny_call (codeAny_of_tree ?_)
  show wpAny _ _ (callAny (.type "set") _) _ _ _
  refine wpAny_pure ⟨Code.quiet_builtin _ (by decide +kernel), codeAny_builtin PySem.F.entry_type_call ?_⟩
  rw [Around.under_plain (weight_type_call_type "set" [.ref l] []) rfl]
  have a3 := PySem.F.called_set.notType
  have a4 := PySem.F.called_set.canCreate
  have a5 := F.typeCall_set_1 (.ref l)
  repeat (any_goals (first | assumption | wp_step))
  refine codeAny_mono (code_set_new_1 (.ref l) (E := Er) (Q₁ := fun obj s₁ => ∃ led : Bool, obj = .ref st.heap.objs.size ∧ s₁ = { st with heap := st.heap.push (freshS led) }) fun led => ⟨led, rfl, rfl⟩) fun r s₁ hr => ?_
  cases r with
  | error e => exact hr
  | ok fl =>
    cases fl with
    | ret obj =>
      obtain ⟨led, rfl, rfl⟩ := hr
      have hS : (st.heap.push (freshS led)).get? st.heap.objs.size = some (freshS led) := Heap.get?_push_size _ rfl
      have hT : Shared.TypeIs { st with heap := st.heap.push (freshS led) } (.ref st.heap.objs.size) "set" := ⟨_, hS, rfl⟩
      have a6 := PySem.F.called_set.init.lookup
      have a7 := PySem.F.called_set.init.bind (.ref st.heap.objs.size)
      repeat (any_goals (first | assumption | wp_step))
      refine codeAny_mono (codeAny_call_builtin (R := wants (fun r s₂ => r = .none ∧ ∃ h' tk m, s₂ = { st with heap := h', toks := tk } ∧ Dif zs items.size m ∧ h'.SetOf (PySem.strKind pg wd) st.heap.objs.size (hasW zs items.size) m ∧
          (∀ b o, b < st.heap.objs.size → st.heap.get? b = some o → h'.get? b = some o)) Er) PySem.F.called_set.init.plain PySem.F.entry_set_init (check_set_init_1 hT ?_)) fun r₂ s₂ hr₂ => ?_
      · obtain ⟨ol, hol, hcl, nl, hdl⟩ := hl
        obtain ⟨ocls, odict, odata, oslots⟩ := ol
        simp only at hcl hdl
        subst hcl; subst hdl
        have hol' : (st.heap.push (freshS led)).get? l = some { cls := .type "tuple", dict := odict, data := .seq items nl, slots := oslots } := Heap.get?_push_of_some _ hol
        have a8 := PySem.F.sub_tuple_set
        have a9 := PySem.F.sub_tuple_frozenset
        have b1 : (Value.type "tuple" == Value.type "dict") = false := by decide
        have hl1 : (st.heap.push (freshS led)).IsTuple l items := ⟨_, hol', rfl, nl, rfl⟩
        unfold Builtin.«set.__init__» noKeywords Builtin.Frozenset.updateFrom
        generalize hPI : pyIter = PI
        wp_walk
        subst hPI
        refine wpAny_pyIter_tuple hl1 (wpAny_bind (wpAny_runValue ?_))
        have hlS : l < st.heap.objs.size := Heap.lt_size hol
        have hh3 : ar.in1.in1.in1.handled = none := by simp [hh]
        have hneI : l ≠ (st.heap.push (freshS led)).objs.size := by
          rw [Heap.size_push]
          exact Nat.ne_of_lt (Nat.lt_succ_of_lt hlS)
        have hSf : st.heap.objs.size ∉ [(st.heap.push (freshS led)).objs.size, l] := by
          rw [Heap.size_push]
          simp only [List.mem_cons, List.mem_singleton, List.not_mem_nil, or_false, not_or]
          exact ⟨Nat.ne_of_lt (Nat.lt_succ_self _), Nat.ne_of_gt hlS⟩
        have hsz : zs.length = items.size := by rw [← StrsAre.len_eq hi, Array.length_toList]
        have hval : ∀ (i : Nat) (v : Value), items[i]? = some v → ∃ t x, v = .str x t ∧ zs[i]? = some x := fun i v hv => str_get hi i v (by rw [Array.getElem?_toList]; exact hv)
        refine loop_all ((Walks.tuple hh3 _ l hneI items).toS) st.heap.objs.size hSf zs hsz (by rw [← hsz]; exact hb) hval (items.size - 0) 0 0 _ (by omega) (Nat.zero_le _) (dif0 zs) ⟨⟨_, Heap.get?_push_size _ rfl, rfl, rfl⟩, (hl1.push _)⟩ ?hS0 ?hR
        case hS0 =>
          have hget : ((st.heap.push (freshS led)).push { cls := .type "tuple_iterator", data := .fields #[.ref l, .int 0 0] }).get? st.heap.objs.size = some (freshS led) := Heap.get?_push_of_some _ hS
          exact SetOf_congr ((setObjOf_fresh (knd := PySem.strKind pg wd) led).setOf hget (by unfold scanBound; omega)) (fun _ => rfl) rfl
        case hR =>
          intro s' m' hm hd' hS'
          obtain ⟨h', g', d', tk', os'⟩ := s'
          have eg : g' = st.gens := hm.gens
          have ed : d' = st.drawn := hm.drawn
          have eo : os' = st.os := hm.os
          subst eg; subst ed; subst eo
          show wpAny _ _ _ _ _ _
          refine wpAny_pure ?_
          show wpAny _ _ (ret Value.none) _ _ _
          refine wpAny_pure ⟨rfl, h', tk', m', rfl, hd', hS', fun b o hb e => ?_⟩
          have c1 : b ≠ st.heap.objs.size := Nat.ne_of_lt hb
          have c2 : b ≠ (st.heap.push (freshS led)).objs.size := by
            rw [Heap.size_push]
            exact Nat.ne_of_lt (Nat.lt_succ_of_lt hb)
          exact hm.heap b o (by simp only [List.mem_cons, List.mem_singleton, List.not_mem_nil, or_false, not_or]; exact ⟨c1, c2⟩) (Heap.get?_push_of_some _ (Heap.get?_push_of_some _ e))
      · cases r₂ with
        | error e => exact hr₂
        | ok fl₂ =>
          cases fl₂ with
          | ret r =>
            obtain ⟨rfl, h', tk, m, rfl, hd', hS', hk'⟩ := hr₂
            repeat (any_goals (first | assumption | wp_step))
            exact h _ _ m hd' hS' hk'
          | _ => exact hr₂.elim
    | _ => exact hr.elim
end
end SSn
open PySem PySem.Spec PyProof.Rows L2
/-- len(set(xs)) -/
def rLenSetS (K : PySem.W.Frag) (x : V) (H1 : Hp) (Q : VK) : Prop := ∃ (l : Addr) (zs : List (List Nat)), x = .ref l ∧ SqT K H1 l (zs.map T) ∧ zs.length < 1000 ∧ ∀ m : Nat, m ≤ zs.length → (m = zs.length ↔ zs.Nodup) → Q (.int (m : Int)) H1
def tLenSetS (K : PySem.W.Frag) (ta : TE) : TE := fun σ H Q => ta σ H fun x H1 => rLenSetS K x H1 Q
theorem w_lenSet {K : PySem.W.Frag} {ta : TE} {σ : L2.St} {H : Hp} {Q : VK} (k : ta σ H fun x H1 => rLenSetS K x H1 Q) : tLenSetS K ta σ H Q := k
theorem nodup_S {zs : List (List Nat)} : (zs.map S).Nodup ↔ zs.Nodup := by
  unfold List.Nodup
  rw [List.pairwise_map]
  exact ⟨fun h => h.imp fun n e => n (by rw [e]), fun h => h.imp fun n e => n (S_inj e)⟩
theorem pe_lenSetS {X : Cx} {a : Expr} {ta : TE} {p p2 q pos : Pos} (hc : X.calm = true) (hg : Gl X "len") (hm : X.mg "len" = none) (hg2 : Gl X "set") (hm2 : X.mg "set" = none) (ha : PE X a ta)
    (na : starEach [a] X.env = (false, eval a X.env) :: starEach [] X.env := by rfl) : PE X (.Call (.Name "len" p) [.Call (.Name "set" p2) [a] [] q] [] pos) (tLenSetS X.K ta) := by
  refine ⟨fun pins s σ H Q I h => Call_ (ld_blt I hg hm boot_len (PyProof.Rows.callWith_builtin1 (PyProof.Rows.args_cons ?_ rfl) rfl rfl))⟩
  refine Call_ (ld_blt I hg2 hm2 boot_set (PyProof.Rows.callWith_type1 (PyProof.Rows.args_cons (thn (ha.run pins s σ H _ I h) fun v s1 ⟨x, H1, I1, r1, q1⟩ => PyProof.Rows.args_nil ?_) na) na rfl))
  obtain ⟨l, zs, rfl, hq, h1, q1⟩ := q1
  cases r1
  rw [map_T_S] at hq
  obtain ⟨its, r, pl, hz⟩ := I1.tuple hq
  refine SSn.set_tup (I1.ok.hd hc) pl (by simpa using strsAre_of r) (by rw [List.length_map]; exact h1) fun h' tk m hd hS hk => PyProof.Rows.args_nil ?_
  have hl : its.toArray.size = (zs.map S).length := by rw [List.size_toArray, ← r.length, List.length_map]
  rw [hl] at hd
  obtain ⟨o, es, ep, t, ho, hex, hdt, _, _, _, hf, hn⟩ := hS
  have I2 : Inv X pins σ H1 { s1 with heap := h', toks := tk } := I1.kept fun b o e => hk b o (Heap.lt_size e) e
  have hd1 := hd.1
  rw [List.length_map] at hd1
  refine call_len_set ho hex hdt hf (by rw [hn]; omega) ⟨.int m, H1, I2.tok _, ⟨_, by rw [hn]⟩, q1 m hd1 ?_⟩
  have hd2 := hd.2
  rw [List.take_length, nodup_S, List.length_map] at hd2
  exact hd2
end
section
/-! Classes as objects: made new, read. -/
open PySem PySem.Spec PyProof.Rows L2
open C8 (Cal Met Mak cal0 pe_c pe_gc pss_cut tCut pe_mt pe_mt0 pe_mk)

end
local macro_rules | `(tactic| walk_at "r1c") => `(tactic| first
  | refine Wk0.go ?_
  | refine Wk1.go ?_
  | with_reducible refine w_var (by with_unfolding_all exact rfl) ?_
  | with_reducible refine w_var (by with_unfolding_all exact rfl) ?_
  | with_reducible refine o_fld ?_
  | with_reducible refine o_meth ?_
  | with_reducible refine o_fldS ?_
  | with_reducible refine o_make ?_
  | ((with_reducible refine isi_t_tuple ?hSq ?_); (case hSq => exact ⟨_, by assumption⟩))
  | ((with_reducible refine isi_t_bool ?hSq ?_); (case hSq => exact ⟨_, by assumption⟩))
  | ((with_reducible refine isi_t_int ?hSq ?_); (case hSq => exact ⟨_, by assumption⟩))
  | ((with_reducible refine isi_t_str ?hSq ?_); (case hSq => exact ⟨_, by assumption⟩))
  | ((with_reducible show rLenL _ [V.ref _] _ _); first | refine w_lenL (SqL.of (by assumption)) ?_ | refine w_lenL (by assumption) ?_ | refine w_lenT (by assumption) ?_)
  | ((with_reducible show rIxL _ (V.ref _) (V.int _) _ _); refine w_ixL (SqL.of (by assumption)) (by with_unfolding_all exact rfl) ?_)
  | ((with_reducible show rIxT _ (V.ref _) (V.int _) _ _); refine w_ixT (by assumption) (by with_unfolding_all exact rfl) ?_)
  | with_reducible refine w_eq (by with_unfolding_all exact rfl) ?_
  | with_reducible refine w_ne (by with_unfolding_all exact rfl) ?_
  | with_reducible refine L2.iteF ?_
  | with_reducible refine L2.iteT ?_)
local macro_rules | `(tactic| walk_at "rdc") => `(tactic| repeat walk_at "r1c")
local macro_rules | `(tactic| walk_at "upc") => `(tactic| (refine ⟨_, _, rfl, .inl (.inl (by assumption)), (by rfl), ?_⟩; refine ⟨_, _, rfl, ?_⟩; walk_at "rdc"; refine ⟨_, _, rfl, ?_⟩; walk_at "rdc"; refine ⟨rfl, ?_⟩; walk_at "rdc"))
section
open PySem PySem.Spec PyProof.Rows L2
open C8 (Cal Met Mak cal0 pe_c pe_gc pss_cut tCut pe_mt pe_mt0 pe_mk)

local macro_rules | `(tactic| walk_at "dd") => `(tactic| repeat (first
  | walk_at "r1c"
  | with_reducible refine w_dget ?_
  | with_reducible refine w_din ?_
  | with_reducible refine w_dnin ?_
  | with_reducible refine w_dput ?_
  | with_reducible refine w_ddel ?_
  | with_reducible refine w_lenSet ?_
  | with_reducible refine w_lcTt ?_
  | with_reducible refine cTe (by with_unfolding_all decide +kernel) ?_
  | with_reducible refine cTn (by with_unfolding_all decide +kernel) ?_
  | with_reducible refine cNe (by with_unfolding_all decide +kernel) ?_
  | with_reducible refine cNn (by with_unfolding_all decide +kernel) ?_
  | with_reducible refine w_par ?_
  | with_reducible refine w_raiseC ?_
  | with_reducible refine w_lcV ?_
  | with_reducible refine w_lcKk ?_
  | with_reducible refine w_lcZ ?_
  | with_reducible refine w_lcE ?_))

/-- the module's names and the two classes -/
structure DfTx (K : PySem.W.Frag) (mg : Str → Option Value) (CS CD : Addr) : Prop where
  cs : Cls K CS
  cd : Cls K CD
  n_known : NoAttr K CS "known"
  n_base : NoAttr K CD "base"
  n_slots : NoAttr K CD "slots"
  n_texts : NoAttr K CD "texts"
  c_THING : ∃ u, mg "THING" = some u ∧ RelV (T (cds "Thing")) u
  c_MOST_SLOTS : ∃ u, mg "MOST_SLOTS" = some u ∧ RelV (.int 8) u
  c_MOST_CLASSES : ∃ u, mg "MOST_CLASSES" = some u ∧ RelV (.int 20) u
structure BnD (mg : Str → Option Value) : Prop where
  n_set : mg "set" = none
  n_zip : mg "zip" = none
section
variable {P : Program} {w : World} {K : PySem.W.Frag} {mg : Str → Option Value} {base : Heap} {CS CD : Addr} {k : Nat}
abbrev s_Definition___init__ : Stmt := inClass (topS 77) 0
abbrev N_Definition___init__ : List Str := ["self", "base", "slots"]
theorem sc_Definition___init__ : FnScope N_Definition___init__ ["self", "base", "slots"] (defScope s_Definition___init__) := ⟨rfl, rfl, rfl, by decide +kernel, rfl, by decide +kernel, by decide +kernel⟩
def spDefI (K : PySem.W.Frag) (CD : Addr) : Sp := fun vs H Q _ => ∃ (x dx t : Addr) (b : Option (List Nat)) (ss : List (List Nat)), vs = [.ref x, optN b, .ref t] ∧ H x = some (.ins CD dx []) ∧ SqT K H t (ss.map T) ∧
  ∀ sl tx H', H' x = some (.ins CD dx (fldsD b sl tx)) → H' sl = some (.lst (ss.map T)) → H' tx = some (.dK []) → H sl = none → H tx = none → sl ≠ tx → (∀ b o, b ≠ x → H b = some o → H' b = some o) → (∀ b, H' b = none → H b = none) → Q .non H'
theorem ok_defI {f : Addr} {fd : FuncData} (F : Fun K "__init__" "Definition.__init__" s_Definition___init__ f fd) (Y : Bn mg) (Z : DfTx K mg CS CD) : FnOk P w K mg base CX0 1 f fd ["self", "base", "slots"] (spDefI K CD) := by
  refine F.ok sc_Definition___init__ (fun vs H Q E h => ?_) (fun cdv A outer s H vs Q E hr h => ?_)
  · obtain ⟨x, dx, t, b, ss, rfl, _⟩ := h
    rfl
  · obtain ⟨x, dx, t, b, ss, rfl, hx, ht, kQ⟩ := h
    have nd := sc_Definition___init__.nd
    refine ⟨_, (pss_cons (ps_fld (pv 0) (pv 1) rfl)
      (pss_cons (ps_fld (pv 0) (pe_callTy call_listOf (by rfl) Y.n_list (by decide +kernel) (pa_cons (pv 2) pa_nil)) rfl)
      (pss_one (ps_fld (pv 0) pe_dnewK rfl)))), ?_⟩
    rw [show L2.start N_Definition___init__ [.ref x, optN b, .ref t] = [some (.ref x), some (optN b), some (.ref t)] from rfl]
    walk_at "dd"
    refine o_set hx Z.cd Z.n_base (show (0 : Nat) < 1000 from by decide) fun H1 h1 k1 g1 => ?_
    walk_at "dd"
    refine w_listT (sqT_ins ht hx k1) fun sl H2 e2 s2 h2 => ?_
    walk_at "dd"
    refine o_set (s2 _ _ h1) Z.cd Z.n_slots (show (1 : Nat) < 1000 from by decide) fun H3 h3 k3 g3 => ?_
    walk_at "dd"
    refine w_dnew fun tx H4 e4 s4 h4 => ?_
    walk_at "dd"
    refine o_set (s4 _ _ h3) Z.cd Z.n_texts (show (2 : Nat) < 1000 from by decide) fun H5 h5 k5 g5 => ?_
    have nx : sl ≠ x := fun e => by rw [e, h1] at e2; cases e2
    have ntx : tx ≠ x := fun e => by rw [e, h3] at e4; cases e4
    have hsl : H4 sl = some (.lst (ss.map T)) := s4 _ _ (k3 _ _ nx h2)
    have ne : sl ≠ tx := fun e => by
      have := k3 _ _ nx h2
      rw [e, e4] at this; cases this
    refine kQ sl tx H5 h5 (k5 _ _ nx hsl) (k5 _ _ ntx h4) (g1 _ e2) (g1 _ (s2.free (g3 _ e4))) ne (fun b o n e => ?_) fun b e => g1 _ (s2.free (g3 _ (s4.free (g5 _ e))))
    exact k5 _ _ n (s4 _ _ (k3 _ _ n (s2 _ _ (k1 _ _ n e))))
abbrev s_Definitions___init__ : Stmt := inClass (topS 78) 0
abbrev N_Definitions___init__ : List Str := ["self"]
theorem sc_Definitions___init__ : FnScope N_Definitions___init__ ["self"] (defScope s_Definitions___init__) := ⟨rfl, rfl, rfl, by decide +kernel, rfl, by decide +kernel, by decide +kernel⟩
def rThing (a : CA) : List Row := [(thing, a)]
def spDfsI (K : PySem.W.Frag) (CS CD : Addr) : Sp := fun vs H Q _ => ∃ (x dx : Addr), vs = [.ref x] ∧ H x = some (.ins CS dx []) ∧
  ∀ d R H', dsOf R = [thing] → DfW CS CD x d R H' → (∀ b ∈ foot x d R, b = x ∨ H b = none) → (∀ b o, b ≠ x → H b = some o → H' b = some o) → (∀ b, H' b = none → H b = none) → Q .non H'
theorem ok_dfsI {f : Addr} {fd : FuncData} (F : Fun K "__init__" "Definitions.__init__" s_Definitions___init__ f fd) (Y : Bn mg) (Z : DfTx K mg CS CD) (c_Definition : Mak P w K mg base 1 "Definition" CD (spDefI K CD) []) : FnOk P w K mg base CX0 3 f fd ["self"] (spDfsI K CS CD) := by
  refine F.ok sc_Definitions___init__ (fun vs H Q E h => ?_) (fun cdv A outer s H vs Q E hr h => ?_)
  · obtain ⟨x, dx, rfl, _⟩ := h
    rfl
  · obtain ⟨x, dx, rfl, hx, kQ⟩ := h
    have nd := sc_Definitions___init__.nd
    refine ⟨_, (pss_one (ps_fld (pv 0) (pe_disp (pps_cons (pe_gc rfl Z.c_THING) (pe_mk c_Definition hr (by decide) rfl (pa_cons pe_non (pa_cons (pe_tup pa_nil) pa_nil))) pps_nil) rfl rfl (by decide) (by decide)) rfl)), ?_⟩
    rw [show L2.start N_Definitions___init__ [.ref x] = [some (.ref x)] from rfl]
    walk_at "dd"
    intro d hd
    have nxd : d ≠ x := fun e => by rw [e, hx] at hd; cases hd
    show tC _ _ _ _
    walk_at "dd"
    refine w_newT (by show 0 ≤ 1000000; decide) fun t H1 ht s1 h1 => ?_
    walk_at "dd"
    intro c dc hc hdc ncd
    have h0x : H1 x = some (.ins CS dx []) := s1 _ _ (by rw [upd_ne nxd.symm]; exact hx)
    have h0d : H1 d = some (.dK []) := s1 _ _ upd_same
    refine ⟨c, dc, t, none, [], rfl, upd_same, .inl (.inl ?_), fun sl tx H2 h2 h3 h4 e3 e4 ne k2 g2 => ⟨rfl, ?_⟩⟩
    · rw [upd_ne (fun e => by rw [e, hc] at h1; cases h1), upd_ne (fun e => by rw [e, hdc] at h1; cases h1)]
      exact h1
    have up : ∀ b o, b ≠ c → H1 b = some o → H2 b = some o := fun b o n e => k2 b o n (by
      rw [upd_ne n, upd_ne (fun z => by rw [z, hdc] at e; cases e)]; exact e)
    have ncx : x ≠ c := fun e => by rw [e, hc] at h0x; cases h0x
    have ncd' : d ≠ c := fun e => by rw [e, hc] at h0d; cases h0d
    refine ⟨up _ _ ncd' h0d, [(kT (cds "Thing"), .ref c)], rfl, Nat.le_of_ble_eq_true rfl, ?_⟩
    walk_at "dd"
    have e5 : upd H2 d (.dK (mergeK [] [(kT (cds "Thing"), .ref c)])) = upd H2 d (.dK ((rThing ⟨c, sl, tx⟩).map entD)) := rfl
    rw [e5]
    have h6x : upd H2 d (.dK ((rThing ⟨c, sl, tx⟩).map entD)) x = some (.ins CS dx []) := by rw [upd_ne nxd.symm]; exact up _ _ ncx h0x
    refine o_set h6x Z.cs Z.n_known (show (0 : Nat) < 1000 from by decide) fun H3 h7 k7 g7 => ?_
    have below : ∀ b, (upd (upd H1 dc (.own c)) c (.ins CD dc [])) b = none → b ≠ c ∧ H1 b = none := fun b e => by
      by_cases z : b = c
      · rw [z, upd_same] at e; cases e
      · rw [upd_ne z] at e
        by_cases z2 : b = dc
        · rw [z2, upd_same] at e; cases e
        · rw [upd_ne z2] at e; exact ⟨z, e⟩
    have fr1 : ∀ b, H1 b = none → b ≠ d ∧ H b = none := fun b e => by
      have e4 := s1.free e
      by_cases z : b = d
      · rw [z, upd_same] at e4; cases e4
      · rw [upd_ne z] at e4; exact ⟨z, e4⟩
    obtain ⟨nsc, esl⟩ := below sl e3
    obtain ⟨ntc, etx⟩ := below tx e4
    obtain ⟨nsd, hsl⟩ := fr1 sl esl
    obtain ⟨ntd, htx⟩ := fr1 tx etx
    obtain ⟨_, hcc⟩ := fr1 c hc
    have nsx : sl ≠ x := fun e => by rw [e, hx] at hsl; cases hsl
    have ntx : tx ≠ x := fun e => by rw [e, hx] at htx; cases htx
    have new : DfW CS CD x d (rThing ⟨c, sl, tx⟩) H3 := by
      refine ⟨⟨dx, h7⟩, k7 _ _ nxd upd_same, fun p hp => ?_, ?_⟩
      · rw [List.mem_singleton.mp hp]
        exact ⟨dc, k7 _ _ ncx.symm (by rw [upd_ne ncd'.symm]; exact h2), k7 _ _ nsx (by rw [upd_ne nsd]; exact h3), k7 _ _ ntx (by rw [upd_ne ntd]; exact h4)⟩
      · show [x, d, c, sl, tx].Nodup
        simp [nxd.symm, ncx, nsx.symm, ntx.symm, ncd', nsd.symm, ntd.symm, nsc.symm, ntc.symm, ne]
    refine kQ d (rThing ⟨c, sl, tx⟩) H3 rfl new (fun b hb => ?_) (fun b o n e => ?_) fun b e => ?_
    · have hb : b ∈ [x, d, c, sl, tx] := hb
      simp only [List.mem_cons, List.not_mem_nil, or_false] at hb
      rcases hb with rfl | rfl | rfl | rfl | rfl
      · exact .inl rfl
      · exact .inr hd
      · exact .inr hcc
      · exact .inr hsl
      · exact .inr htx
    · have e1 : upd H d (.dK []) b = some o := by rw [upd_ne (fun z => by rw [z, hd] at e; cases e)]; exact e
      have e2 : H1 b = some o := s1 _ _ e1
      have e6 : H2 b = some o := up _ _ (fun z => by rw [z, hc] at e2; cases e2) e2
      exact k7 _ _ n (by rw [upd_ne (fun z => by rw [z, hd] at e; cases e)]; exact e6)
    · have e1 := g7 b e
      have e2 : H2 b = none := by
        by_cases z : b = d
        · rw [z, upd_same] at e1; cases e1
        · rw [upd_ne z] at e1; exact e1
      exact (fr1 b (below b (g2 b e2)).2).2
end
end
section
/-! The classes above one, their slots. -/
open PySem PySem.Spec PyProof.Rows L2
open C8 (Cal Met Mak cal0 pe_c pe_gc pss_cut tCut pe_mt pe_mt0 pe_mk)

local macro_rules | `(tactic| walk_at "dd") => `(tactic| repeat (first
  | walk_at "r1c"
  | with_reducible refine w_dget ?_
  | with_reducible refine w_din ?_
  | with_reducible refine w_dnin ?_
  | with_reducible refine w_dput ?_
  | with_reducible refine w_ddel ?_
  | with_reducible refine w_lenSet ?_
  | with_reducible refine w_lcTt ?_
  | with_reducible refine cTe (by with_unfolding_all decide +kernel) ?_
  | with_reducible refine cTn (by with_unfolding_all decide +kernel) ?_
  | with_reducible refine cNe (by with_unfolding_all decide +kernel) ?_
  | with_reducible refine cNn (by with_unfolding_all decide +kernel) ?_
  | with_reducible refine w_par ?_
  | with_reducible refine w_raiseC ?_
  | with_reducible refine w_lcV ?_
  | with_reducible refine w_lcKk ?_
  | with_reducible refine w_lcZ ?_
  | with_reducible refine w_lcE ?_))

section
variable {P : Program} {w : World} {K : PySem.W.Frag} {mg : Str → Option Value} {base : Heap} {CS CD : Addr} {k : Nat}
/-- where a list of classes stays short -/
def Sm (ds : List Cl) : Prop := DsOk ds ∧ ds.length ≤ 100 ∧ ∀ c ∈ ds, c.slots.length ≤ 100
theorem find_is {ds : List Cl} (hd : DsOk ds) {c p : Cl} {n : List Nat} (hc : c ∈ ds) (hn : c.nm = n) (hp : getC ds n = some p) : p = c := by
  have := getC_of hd.nd hc
  rw [hn, hp] at this
  exact Option.some.inj this
abbrev s_Definitions_line : Stmt := inClass (topS 78) 1
abbrev N_Definitions_line : List Str := ["self", "name", "found"]
theorem sc_Definitions_line : FnScope N_Definitions_line ["self", "name"] (defScope s_Definitions_line) := ⟨rfl, rfl, rfl, by decide +kernel, rfl, by decide +kernel, by decide +kernel⟩
def spLine (K : PySem.W.Frag) (CS CD : Addr) : Sp := fun vs H Q _ => ∃ (D d : Addr) (R : List Row) (n : List Nat), vs = [.ref D, T n] ∧ DfR CS CD D d R H ∧ Sm (dsOf R) ∧ n ∈ nms (dsOf R) ∧
  ∀ p H', Same H H' → H p = none → H' p = some (.lst ((lineD (dsOf R) n).map T)) → Q (.ref p) H'
theorem ok_line {f : Addr} {fd : FuncData} (F : Fun K "line" "Definitions.line" s_Definitions_line f fd) (Y : Bn mg) (Z : DfTx K mg CS CD) : FnOk P w K mg base CX0 1 f fd ["self", "name"] (spLine K CS CD) := by
  refine F.ok sc_Definitions_line (fun vs H Q E h => ?_) (fun cdv A outer s H vs Q E hr h => ?_)
  · obtain ⟨D, d, R, n, rfl, _⟩ := h
    rfl
  · obtain ⟨D, d, R, n, rfl, hR, hs, hn, kQ⟩ := h
    have nd := sc_Definitions_line.nd
    refine ⟨_, (pss_cons (ps_set (i := 2) nd rfl (Or.inl rfl) (pe_lst pa_nil))
      (pss_cons (ps_while PassesOwn.never (pt_cmpR op_notN (pv 1) pe_non (nomark _)) (pss_cons (ps_expr (pe_bm PySem.F.plainAttrs_list PySem.F.slot_list_append PySem.F.type_list_append mt_append (pv 2) (pa_cons (pv 1) pa_nil)))
      (pss_one (ps_set (i := 1) nd rfl (Or.inl rfl) (pe_fld (pe_dget (hu_of hr) (pe_fld (pv 0) rfl) (pv 1) (fun _ _ => rfl)) rfl)))))
      (pss_one (ps_ret (pv 2))))), ?_⟩
    rw [show L2.start N_Definitions_line [.ref D, T n] = [some (.ref D), some (T n), none] from rfl]
    walk_at "dd"
    refine w_newL (by show 0 ≤ 1000000; decide) fun p H1 hp s1 h1 => ?_
    walk_at "dd"
    have hn0 : n ∈ nms (dsOf R).reverse := by rw [nms_rev]; exact List.mem_reverse.mpr hn
    refine ⟨fun m σ' H' => ∃ (pos : Option (List Nat)) (q : List Cl) (acc : List (List Nat)), m = q.length ∧ σ' = [some (.ref D), some (optN pos), some (.ref p)] ∧ Same H H' ∧ H' p = some (.lst (acc.map T)) ∧ acc ++ upL (lineR q) pos = lineD (dsOf R) n ∧
      (∀ b, pos = some b → b ∈ nms q ∧ Dv q) ∧ q <:+ (dsOf R).reverse, ⟨_, some n, (dsOf R).reverse, [], rfl, rfl, s1, h1, rfl, fun b hb => ?_, List.suffix_rfl⟩, ?_⟩
    · cases hb; exact ⟨hn0, hs.1⟩
    · rintro m σ' H2 ⟨pos, q, acc, rfl, rfl, s2, h2, e1, hq, hsuf⟩
      have hlen : acc.length ≤ 100 := by
        have h3 := line_len (dsOf R) n
        rw [← e1, List.length_append] at h3
        have := hs.2.1
        omega
      walk_at "dd"
      cases pos with
      | none =>
        rw [show optN none = V.non from rfl]
        refine ifM_n ?_
        walk_at "dd"
        have e2 : acc = lineD (dsOf R) n := by rw [← e1]; exact (List.append_nil acc).symm
        exact kQ p H2 s2 hp (by rw [← e2]; exact h2)
      | some b =>
        obtain ⟨hb, hdv⟩ := hq b rfl
        obtain ⟨c, q', c1, c2, c3, c4, c5, c6⟩ := line_go hdv hb
        rw [show optN (some b) = T b from rfl]
        refine ifM_s ?_
        refine ⟨fun σ' H' => ∃ m', m' < q.length ∧ ∃ (pos : Option (List Nat)) (q : List Cl) (acc : List (List Nat)), m' = q.length ∧ σ' = [some (.ref D), some (optN pos), some (.ref p)] ∧ Same H H' ∧ H' p = some (.lst (acc.map T)) ∧ acc ++ upL (lineR q) pos = lineD (dsOf R) n ∧
          (∀ b, pos = some b → b ∈ nms q ∧ Dv q) ∧ q <:+ (dsOf R).reverse, fun _ _ h => h, ?_⟩
        walk_at "dd"
        refine ⟨tyL (SqL.of h2), ?_⟩
        walk_at "dd"
        refine w_app2 h2 (by rw [List.length_map]; omega) fun H3 h3 k3 => ?_
        have s3 : Same H H3 := same_of_but hp s2 k3
        have hR3 := hR.same s3
        obtain ⟨⟨dx, ho⟩, _⟩ := id hR3
        walk_at "dd"
        refine o_fat ho Z.cs Z.n_known rfl ?_
        walk_at "dd"
        have hcds : c ∈ dsOf R := List.mem_reverse.mp (hsuf.subset c1)
        refine k_get hR3 (List.mem_map.mpr ⟨c, hcds, c2⟩) fun r hr1 hr2 hr3 hr4 => ?_
        have er : r.1 = c := find_is hs.1 hcds c2 hr3
        obtain ⟨dxc, g1, g2, g3⟩ := hr4
        refine o_fat g1 Z.cd Z.n_base rfl ?_
        walk_at "dd"
        rw [er]
        refine ⟨_, c4, c.base, q', acc ++ [b], rfl, rfl, s3, ?_, ?_, fun b' hb' => c6 b' hb', c3.trans hsuf⟩
        · rw [List.map_append]; exact h3
        · rw [← e1, List.append_assoc]
          show acc ++ b :: upL (lineR q') c.base = acc ++ lineR q b
          rw [c5]
abbrev s_Definitions_all_slots : Stmt := inClass (topS 78) 2
abbrev N_Definitions_all_slots : List Str := ["self", "name", "found", "one"]
theorem sc_Definitions_all_slots : FnScope N_Definitions_all_slots ["self", "name"] (defScope s_Definitions_all_slots) := ⟨rfl, rfl, rfl, by decide +kernel, rfl, by decide +kernel, by decide +kernel⟩
def spAllS (K : PySem.W.Frag) (CS CD : Addr) : Sp := fun vs H Q _ => ∃ (D d : Addr) (R : List Row) (n : List Nat), vs = [.ref D, T n] ∧ DfR CS CD D d R H ∧ Sm (dsOf R) ∧ n ∈ nms (dsOf R) ∧
  ∀ p H', Same H H' → SqT K H' p ((allS (dsOf R) n).map T) → Q (.ref p) H'
theorem slots_le {ds : List Cl} (hs : Sm ds) (m : List Nat) : (slotsD ds m).length ≤ 100 := by
  unfold slotsD
  cases e : getC ds m with
  | none => exact Nat.zero_le _
  | some c => exact hs.2.2 c (List.mem_of_find?_eq_some e)
theorem fold_le {ds : List Cl} (hs : Sm ds) : ∀ (l acc : List (List Nat)), (l.foldl (fun a m => slotsD ds m ++ a) acc).length ≤ 100 * l.length + acc.length
  | [], acc => by simp
  | m :: l, acc => by
    have h1 := fold_le hs l (slotsD ds m ++ acc)
    have h2 := slots_le hs m
    rw [List.foldl_cons, List.length_cons]
    rw [List.length_append] at h1
    omega
theorem ok_all_slots {f : Addr} {fd : FuncData} (F : Fun K "all_slots" "Definitions.all_slots" s_Definitions_all_slots f fd) (Y : Bn mg) (Z : DfTx K mg CS CD) (m_line : Met P w K mg base 1 CS "line" (spLine K CS CD) []) : FnOk P w K mg base CX0 2 f fd ["self", "name"] (spAllS K CS CD) := by
  refine F.ok sc_Definitions_all_slots (fun vs H Q E h => ?_) (fun cdv A outer s H vs Q E hr h => ?_)
  · obtain ⟨D, d, R, n, rfl, _⟩ := h
    rfl
  · obtain ⟨D, d, R, n, rfl, hR, hs, hn, kQ⟩ := h
    have nd := sc_Definitions_all_slots.nd
    refine ⟨_, (pss_cons (ps_set (i := 2) nd rfl (Or.inl rfl) (pe_tup pa_nil))
      (pss_cons (ps_for PassesOwn.never rfl (pi_list (pe_mt m_line hr (by omega) (pv 0) (pa_cons (pv 1) pa_nil))) (pg_name (i := 3) nd rfl (Or.inl rfl)) (pss_one (ps_set (i := 2) nd rfl (Or.inl rfl) (pe_op op_catA (pe_callTy call_tupleOf (by rfl) Y.n_tuple (by decide +kernel) (pa_cons (pe_fld (pe_dget (hu_of hr) (pe_fld (pv 0) rfl) (pv 3) (fun _ _ => rfl)) rfl) pa_nil)) (pv 2)))))
      (pss_one (ps_ret (pv 2))))), ?_⟩
    rw [show L2.start N_Definitions_all_slots [.ref D, T n] = [some (.ref D), some (T n), none, none] from rfl]
    walk_at "dd"
    refine w_newT (by show 0 ≤ 1000000; decide) fun p0 H1 hp0 s1 h1 => ?_
    have hR1 := hR.same s1
    obtain ⟨⟨dx, ho⟩, _⟩ := id hR1
    walk_at "dd"
    refine o_mat ho rfl ?_
    walk_at "dd"
    refine ⟨D, d, R, n, rfl, hR1, hs, hn, fun p2 H2 s2 e2 h2 => ?_⟩
    have hll := line_len (dsOf R) n
    have hsl := hs.2.1
    refine for_L (xs := (lineD (dsOf R) n).map T) (fun i σ' H' => ∃ (pf : Addr) (y : Option V), σ' = [some (.ref D), some (T n), some (.ref pf), y] ∧ Same H H' ∧ H' p2 = some (.lst ((lineD (dsOf R) n).map T)) ∧
      SqT K H' pf ((((lineD (dsOf R) n).take i).foldl (fun a m => slotsD (dsOf R) m ++ a) []).map T)) ⟨p0, none, rfl, s1.trans s2, h2, .inl (.inl (s2 _ _ h1))⟩ (fun i σ' H' _ h => by obtain ⟨_, _, _, _, h, _⟩ := h; exact SqL.of h) ?_ ?_
    · rintro i x σ' H3 hx ⟨pf, y, rfl, s3, h3, hf⟩
      rw [List.getElem?_map] at hx
      obtain ⟨m, hm, rfl⟩ := Option.map_eq_some_iff.mp hx
      have hmn : m ∈ nms (dsOf R) := line_mem (List.mem_of_getElem? hm)
      have hR3 := hR.same s3
      obtain ⟨⟨dx3, ho3⟩, _⟩ := id hR3
      walk_at "dd"
      refine o_fat ho3 Z.cs Z.n_known rfl ?_
      walk_at "dd"
      refine k_get hR3 hmn fun r hr1 hr2 hr3 hr4 => ?_
      obtain ⟨dxc, g1, g2, g3⟩ := hr4
      refine o_fat g1 Z.cd Z.n_slots rfl ?_
      walk_at "dd"
      refine w_tupOf (SqL.of g2) fun l4 H4 e4 s4 h4 => ?_
      walk_at "dd"
      have e5 : r.1.slots = slotsD (dsOf R) m := by unfold slotsD; rw [hr3]
      rw [e5] at h4
      obtain ⟨hlt, em⟩ := List.getElem?_eq_some_iff.mp hm
      have f1 := fold_le hs ((lineD (dsOf R) n).take i) []
      have f2 := slots_le hs m
      have f3 : ((lineD (dsOf R) n).take i).length ≤ 100 := by rw [List.length_take]; omega
      simp only [List.length_nil] at f1
      refine catA_new h4.sq (Same.sqT s4 hf) (by rw [List.length_map, List.length_map]; omega) fun p5 H5 s5 h5 => ?_
      walk_at "dd"
      refine ⟨p5, _, rfl, (s3.trans s4).trans s5, s5 _ _ (s4 _ _ h3), ?_⟩
      rw [List.take_succ_eq_append_getElem hlt, em, List.foldl_append, List.foldl_cons, List.foldl_nil, List.map_append]
      exact h5
    · rintro σ' H3 ⟨pf, y, rfl, s3, h3, hf⟩
      walk_at "dd"
      rw [List.length_map, List.take_length] at hf
      exact kQ pf H3 s3 hf
abbrev s_Definitions_has_slot : Stmt := inClass (topS 78) 3
abbrev N_Definitions_has_slot : List Str := ["self", "name", "slot"]
theorem sc_Definitions_has_slot : FnScope N_Definitions_has_slot ["self", "name", "slot"] (defScope s_Definitions_has_slot) := ⟨rfl, rfl, rfl, by decide +kernel, rfl, by decide +kernel, by decide +kernel⟩
def spHasS (K : PySem.W.Frag) (CS CD : Addr) : Sp := fun vs H Q _ => ∃ (D d : Addr) (R : List Row) (n a : List Nat), vs = [.ref D, T n, T a] ∧ DfR CS CD D d R H ∧ Sm (dsOf R) ∧ ∀ H', Same H H' → Q (.bl (hasS (dsOf R) n a)) H'
theorem ok_has_slot {f : Addr} {fd : FuncData} (F : Fun K "has_slot" "Definitions.has_slot" s_Definitions_has_slot f fd) (Y : Bn mg) (Z : DfTx K mg CS CD) (m_all_slots : Met P w K mg base 2 CS "all_slots" (spAllS K CS CD) []) : FnOk P w K mg base CX0 3 f fd ["self", "name", "slot"] (spHasS K CS CD) := by
  refine F.ok sc_Definitions_has_slot (fun vs H Q E h => ?_) (fun cdv A outer s H vs Q E hr h => ?_)
  · obtain ⟨D, d, R, n, a, rfl, _⟩ := h
    rfl
  · obtain ⟨D, d, R, n, a, rfl, hR, hs, kQ⟩ := h
    have nd := sc_Definitions_has_slot.nd
    refine ⟨_, (pss_one (ps_ret (pe_and (pe_cmp (pc_din (hu_of hr) (pv 1) (pe_fld (pv 0) rfl))) (pe_one (pe_cmpR op_in_seq (pv 2) (pe_mt m_all_slots hr (by omega) (pv 0) (pa_cons (pv 1) pa_nil)) (by rfl)))))), ?_⟩
    rw [show L2.start N_Definitions_has_slot [.ref D, T n, T a] = [some (.ref D), some (T n), some (T a)] from rfl]
    obtain ⟨⟨dx, ho⟩, _⟩ := id hR
    walk_at "dd"
    refine o_fat ho Z.cs Z.n_known rfl ?_
    walk_at "dd"
    refine k_in hR ?_
    refine ⟨_, rfl, ?_⟩
    unfold hasS at kQ
    refine w_if (fun h => ?_) (fun h => ?_)
    · rw [decide_eq_true h, Bool.true_and] at kQ
      walk_at "dd"
      refine o_mat ho rfl ?_
      walk_at "dd"
      refine ⟨D, d, R, n, rfl, hR, hs, h, fun p H1 s1 h1 => ?_⟩
      refine w_inT h1 ?_
      exact kQ H1 s1
    · rw [decide_eq_false h, Bool.false_and] at kQ
      exact kQ H fun _ _ h => h
end
end
section
/-! Whether a change is refused. -/
open PySem PySem.Spec PyProof.Rows L2
open C8 (Cal Met Mak cal0 pe_c pe_gc pss_cut tCut pe_mt pe_mt0 pe_mk)

local macro_rules | `(tactic| walk_at "dd") => `(tactic| repeat (first
  | walk_at "r1c"
  | with_reducible refine w_dget ?_
  | with_reducible refine w_din ?_
  | with_reducible refine w_dnin ?_
  | with_reducible refine w_dput ?_
  | with_reducible refine w_ddel ?_
  | with_reducible refine w_lenSet ?_
  | with_reducible refine w_lcTt ?_
  | with_reducible refine cTe (by with_unfolding_all decide +kernel) ?_
  | with_reducible refine cTn (by with_unfolding_all decide +kernel) ?_
  | with_reducible refine cNe (by with_unfolding_all decide +kernel) ?_
  | with_reducible refine cNn (by with_unfolding_all decide +kernel) ?_
  | with_reducible refine w_par ?_
  | with_reducible refine w_raiseC ?_
  | with_reducible refine w_lcV ?_
  | with_reducible refine w_lcKk ?_
  | with_reducible refine w_lcZ ?_
  | with_reducible refine w_lcE ?_))

section
variable {P : Program} {w : World} {K : PySem.W.Frag} {mg : Str → Option Value} {base : Heap} {CS CD : Addr} {k : Nat}
theorem DfW.lock {D d : Addr} {R : List Row} {H : Hp} (h : DfW CS CD D d R H) (od : Obj) : DfR CS CD D d R (upd H d (.frz od (.dK (R.map entD)))) := by
  obtain ⟨⟨dx, ho⟩, ht, hr, hnd⟩ := h
  have ne : ∀ {b : Addr} {o : HO}, H b = some o → (∀ kvs, o ≠ .dK kvs) → upd H d (.frz od (.dK (R.map entD))) b = some o := fun {b o} e n => by
    rw [upd_ne (fun z => by rw [z, ht] at e; cases e; exact n _ rfl)]; exact e
  have nd' : (D :: d :: R.flatMap cells).Nodup := hnd
  obtain ⟨_, n2⟩ := List.nodup_cons.mp nd'
  obtain ⟨n3, _⟩ := List.nodup_cons.mp n2
  refine ⟨⟨dx, ne ho (fun _ z => nomatch z)⟩, .inr ⟨od, upd_same⟩, fun p hp => ?_⟩
  obtain ⟨dxc, g1, g2, g3⟩ := hr p hp
  refine ⟨dxc, ne g1 (fun _ z => nomatch z), ne g2 (fun _ z => nomatch z), ?_⟩
  rw [upd_ne (fun z => n3 (by rw [← z]; exact List.mem_flatMap.mpr ⟨p, hp, by simp [cells]⟩))]
  exact g3
theorem scal_opt (b : Option (List Nat)) (n : List Nat) : scal (optN b) (T n) = true := by cases b <;> rfl
theorem dec_opt (b : Option (List Nat)) (n : List Nat) : decide (optN b = T n) = decide (b = some n) := by
  refine decide_eq_decide.mpr ?_
  cases b with
  | none => exact ⟨(fun h => nomatch (show V.non = T n from h)), (fun h => nomatch h)⟩
  | some a => exact ⟨(fun h => by rw [T_inj (show T a = T n from h)]), (fun h => by rw [Option.some.inj h]; rfl)⟩
theorem any_map {α : Type} (f : α → Bool) (l : List α) : (l.map f).any id = l.any f := by rw [List.any_map]; rfl
abbrev s_Definitions_has_class_below : Stmt := inClass (topS 78) 8
abbrev N_Definitions_has_class_below : List Str := ["self", "name", "one"]
theorem sc_Definitions_has_class_below : FnScope N_Definitions_has_class_below ["self", "name"] (defScope s_Definitions_has_class_below) := ⟨rfl, rfl, rfl, by decide +kernel, rfl, by decide +kernel, by decide +kernel⟩
def spBelC (K : PySem.W.Frag) (CS CD : Addr) : Sp := fun vs H Q _ => ∃ (D d : Addr) (R : List Row) (n : List Nat), vs = [.ref D, T n] ∧ DfW CS CD D d R H ∧ Sm (dsOf R) ∧ ∀ H', Same H H' → Q (.bl (clsBelow (dsOf R) n)) H'
theorem ok_class_below {f : Addr} {fd : FuncData} (F : Fun K "has_class_below" "Definitions.has_class_below" s_Definitions_has_class_below f fd) (Y : Bn mg) (Z : DfTx K mg CS CD) : FnOk P w K mg base CX0 1 f fd ["self", "name"] (spBelC K CS CD) := by
  refine F.ok sc_Definitions_has_class_below (fun vs H Q E h => ?_) (fun cdv A outer s H vs Q E hr h => ?_)
  · obtain ⟨D, d, R, n, rfl, _⟩ := h
    rfl
  · obtain ⟨D, d, R, n, rfl, hW, hs, kQ⟩ := h
    have nd := sc_Definitions_has_class_below.nd
    refine ⟨_, (pss_one (ps_ret (pe_callB (cr_any rfl) (by rfl) Y.n_any (by decide +kernel) (pa_cons (pe_lock (pe_lc (own := [("one", 2)]) (g := gName 2) (tt := tYes) (te := tOp rEq (tFld K (tVar 2) "base") (tVar 1)) rfl nd (pi_values (pe_fld (pv 0) rfl)) (blkOk_by (own := [("one", 2)]) (N := N_Definitions_has_class_below) (sc := defScope s_Definitions_has_class_below) (by decide +kernel)) (fun _ _ _ _ _ => pg_name (i := 2) nd rfl (Or.inl rfl)) (fun _ _ _ _ _ => pts_nil) (fun _ _ _ _ _ => (pe_cmpR op_eq (pe_fld (pv 2) rfl) (pv 1) (nomark _))))) pa_nil)))), ?_⟩
    rw [show L2.start N_Definitions_has_class_below [.ref D, T n] = [some (.ref D), some (T n), none] from rfl]
    walk_at "dd"
    refine w_lock hW.tab fun od => ?_
    have hR := hW.lock od
    obtain ⟨⟨dx, ho⟩, _⟩ := id hR
    walk_at "dd"
    refine o_fat ho Z.cs Z.n_known rfl ?_
    refine ⟨d, od, R.map entD, rfl, upd_same, ?_⟩
    refine lc_W (walk_values (d := d) (o := od) (kvs := R.map entD)) (fun L i acc H1 => Same (upd H d (.frz od (.dK (R.map entD)))) H1 ∧ (upd H d (.frz od (.dK (R.map entD)))) L = none ∧ acc = ((R.take i).map fun p => decide (p.1.base = some n)).map V.bl) (fun L H1 e1 s1 h1 => ⟨s1, e1, rfl⟩) (fun L i acc H1 _ h => h.1 _ _ upd_same) ?_ ?_
    · rintro L i x acc H1 H2 hi hacc hL ⟨s1, eL, rfl⟩ ⟨rfl, k, hx⟩
      rw [List.getElem?_map] at hx
      obtain ⟨p, hp, ep⟩ := Option.map_eq_some_iff.mp hx
      cases ep
      obtain ⟨dxc, g1, g2, g3⟩ := (hR.same s1).row p (List.mem_of_getElem? hp)
      walk_at "dd"
      refine ⟨rfl, ?_⟩
      walk_at "dd"
      refine o_fat g1 Z.cd Z.n_base rfl ?_
      walk_at "dd"
      refine ⟨scal_opt _ _, ?_⟩
      rw [dec_opt]
      rw [List.length_map] at hi
      have hsl : (dsOf R).length ≤ 100 := hs.2.1
      have hsl2 : R.length ≤ 100 := by unfold dsOf at hsl; rw [List.length_map] at hsl; exact hsl
      refine lc_keep hacc (by omega) hL fun H5 h5 k5 => ⟨same_of_but eL s1 k5, eL, ?_⟩
      obtain ⟨hlt, em⟩ := List.getElem?_eq_some_iff.mp hp
      rw [List.take_succ_eq_append_getElem hlt, em, List.map_append, List.map_append]
      rfl
    · rintro L acc H1 hacc hL ⟨s1, eL, rfl⟩
      refine ⟨s1 _ _ upd_same, ?_⟩
      walk_at "dd"
      have nLd : L ≠ d := fun z => by rw [z, upd_same] at eL; cases eL
      rw [List.length_map, List.take_length] at hL
      refine w_any (SqL.of (by rw [upd_ne nLd]; exact hL)) ?_
      rw [any_map]
      have e3 : (R.any fun p => decide (p.1.base = some n)) = clsBelow (dsOf R) n := by
        unfold clsBelow dsOf
        rw [List.any_map]
        rfl
      rw [e3]
      exact kQ _ (same_unlock hW.tab s1)
abbrev s_Definitions_is_slot_below : Stmt := inClass (topS 78) 9
abbrev N_Definitions_is_slot_below : List Str := ["self", "name", "slot", "one", "below"]
theorem sc_Definitions_is_slot_below : FnScope N_Definitions_is_slot_below ["self", "name", "slot"] (defScope s_Definitions_is_slot_below) := ⟨rfl, rfl, rfl, by decide +kernel, rfl, by decide +kernel, by decide +kernel⟩
def spBelS (K : PySem.W.Frag) (CS CD : Addr) : Sp := fun vs H Q _ => ∃ (D d : Addr) (R : List Row) (n a : List Nat), vs = [.ref D, T n, T a] ∧ DfW CS CD D d R H ∧ Sm (dsOf R) ∧ ∀ H', Same H H' → Q (.bl (slotBelow (dsOf R) n a)) H'
theorem ok_slot_below {f : Addr} {fd : FuncData} (F : Fun K "is_slot_below" "Definitions.is_slot_below" s_Definitions_is_slot_below f fd) (Y : Bn mg) (Z : DfTx K mg CS CD) (m_line : Met P w K mg base 1 CS "line" (spLine K CS CD) []) : FnOk P w K mg base CX0 2 f fd ["self", "name", "slot"] (spBelS K CS CD) := by
  refine F.ok sc_Definitions_is_slot_below (fun vs H Q E h => ?_) (fun cdv A outer s H vs Q E hr h => ?_)
  · obtain ⟨D, d, R, n, a, rfl, _⟩ := h
    rfl
  · obtain ⟨D, d, R, n, a, rfl, hW, hs, kQ⟩ := h
    have nd := sc_Definitions_is_slot_below.nd
    have hsl : (dsOf R).length ≤ 100 := hs.2.1
    have hsl2 : R.length ≤ 100 := by unfold dsOf at hsl; rw [List.length_map] at hsl; exact hsl
    refine ⟨_, (pss_cons (ps_lock (ps_setLc (i := 4) (own := [("one", 3)]) (g := gName 3) (tt := tTest (tOp (rIn K false) (tVar 1) (tMeth CS "line" (spLine K CS CD) [] C8.E0 (tVar 0) (tCons (tVar 3) tNil)))) rfl nd rfl rfl (sw_true rfl rfl rfl (by decide +kernel)) (pi_keys (pe_fld (pv 0) rfl)) (blkOk_by (own := [("one", 3)]) (N := N_Definitions_is_slot_below) (sc := defScope s_Definitions_is_slot_below) (by decide +kernel)) (fun _ _ _ _ _ => pg_name (i := 3) nd rfl (Or.inl rfl)) (fun _ _ _ _ _ => pts_one (pt_cmpR op_in_seq (pv 1) (pe_mt m_line hr (by omega) (pv 0) (pa_cons (pv 3) pa_nil)) (by rfl))) (fun _ _ _ _ _ => (pv 3))))
      (pss_one (ps_ret (pe_callB (cr_any rfl) (by rfl) Y.n_any (by decide +kernel) (pa_cons (pe_lc (own := [("one", 3)]) (g := gName 3) (tt := tYes) (te := tOp (rIn K false) (tVar 2) (tFld K (tDGet (tFld K (tVar 0) "known") (tVar 3)) "slots")) rfl nd (pi_list (pv 4)) (blkOk_by (own := [("one", 3)]) (N := N_Definitions_is_slot_below) (sc := defScope s_Definitions_is_slot_below) (by decide +kernel)) (fun _ _ _ _ _ => pg_name (i := 3) nd rfl (Or.inl rfl)) (fun _ _ _ _ _ => pts_nil) (fun _ _ _ _ _ => (pe_cmpR op_in_seq (pv 2) (pe_fld (pe_dget (hu_of hr) (pe_fld (pv 0) rfl) (pv 3) (fun _ _ => rfl)) rfl) (by rfl)))) pa_nil))))), ?_⟩
    rw [show L2.start N_Definitions_is_slot_below [.ref D, T n, T a] = [some (.ref D), some (T n), some (T a), none, none] from rfl]
    walk_at "dd"
    refine w_lockS hW.tab fun od => ?_
    have hR := hW.lock od
    obtain ⟨⟨dx, ho⟩, _⟩ := id hR
    walk_at "dd"
    refine o_fat ho Z.cs Z.n_known rfl ?_
    refine ⟨d, od, rfl, .inl ⟨R.map entD, upd_same, ?_⟩⟩
    refine lc_W (walk_keys (d := d) (o := od) (kvs := R.map entD)) (fun L i acc H1 => Same (upd H d (.frz od (.dK (R.map entD)))) H1 ∧ (upd H d (.frz od (.dK (R.map entD)))) L = none ∧ acc = (((R.take i).filter fun p => decide (n ∈ lineD (dsOf R) p.1.nm)).map fun p => p.1.nm).map T) (fun L H1 e1 s1 h1 => ⟨s1, e1, rfl⟩) (fun L i acc H1 _ h => h.1 _ _ upd_same) ?_ ?_
    · rintro L i x acc H1 H2 hi hacc hL ⟨s1, eL, rfl⟩ ⟨rfl, k, v, hx, rfl⟩
      rw [List.getElem?_map] at hx
      obtain ⟨p, hp, ep⟩ := Option.map_eq_some_iff.mp hx
      cases ep
      obtain ⟨hlt, em⟩ := List.getElem?_eq_some_iff.mp hp
      have hR1 := hR.same s1
      obtain ⟨⟨dx1, ho1⟩, _⟩ := id hR1
      rw [show kV (kT p.1.nm) = T p.1.nm from rfl]
      walk_at "dd"
      refine ⟨rfl, ?_⟩
      walk_at "dd"
      refine o_mat ho1 rfl ?_
      walk_at "dd"
      refine ⟨D, d, R, p.1.nm, rfl, hR1, hs, List.mem_map.mpr ⟨p.1, List.mem_map.mpr ⟨p, List.mem_of_getElem? hp, rfl⟩, rfl⟩, fun q H3 s3 e3 h3 => ?_⟩
      refine w_inL (SqL.of h3) ?_
      refine ⟨_, rfl, ?_⟩
      have s13 := s1.trans s3
      have hL3 : H3 L = some (.lst ((((R.take i).filter fun p => decide (n ∈ lineD (dsOf R) p.1.nm)).map fun p => p.1.nm).map T)) := s3 _ _ hL
      have et : R.take (i + 1) = R.take i ++ [p] := by rw [List.take_succ_eq_append_getElem hlt, em]
      refine w_if (fun hin => ?_) (fun hin => ?_)
      · walk_at "dd"
        refine lc_keep hacc (by omega) hL3 fun H5 h5 k5 => ⟨same_of_but eL s13 k5, eL, ?_⟩
        rw [et, List.filter_append, List.map_append, List.map_append]
        rw [show [p].filter (fun p => decide (n ∈ lineD (dsOf R) p.1.nm)) = [p] by simp [hin]]
        rfl
      · refine lc_skip hacc hL3 ⟨s13, eL, ?_⟩
        rw [et, List.filter_append]
        rw [show [p].filter (fun p => decide (n ∈ lineD (dsOf R) p.1.nm)) = [] by simp [hin]]
        rw [List.append_nil]
    · rintro L acc H1 hacc hL ⟨s1, eL, rfl⟩
      refine ⟨s1 _ _ upd_same, ?_⟩
      have nLd : L ≠ d := fun z => by rw [z, upd_same] at eL; cases eL
      rw [List.length_map, List.take_length] at hL
      have sU := same_unlock hW.tab s1
      generalize hHU : upd H1 d (.dK (R.map entD)) = HU at sU
      have hLU : HU L = some (.lst (((R.filter fun p => decide (n ∈ lineD (dsOf R) p.1.nm)).map fun p => p.1.nm).map T)) := by rw [← hHU, upd_ne nLd]; exact hL
      have hRU := hW.r.same sU
      walk_at "dd"
      refine lc_L (xs := ((R.filter fun p => decide (n ∈ lineD (dsOf R) p.1.nm)).map fun p => p.1.nm).map T) (fun L2 i acc H2 => Same HU H2 ∧ HU L2 = none ∧ acc = (((R.filter fun p => decide (n ∈ lineD (dsOf R) p.1.nm)).take i).map fun p => decide (a ∈ p.1.slots)).map V.bl) (SqL.of hLU) (fun L2 H2 e2 s2 h2 => ⟨s2, e2, rfl⟩) (fun L2 i acc H2 _ h => SqL.of (h.1 _ _ hLU)) ?_ ?_
      · rintro L2 i x acc H2 hx hacc2 hL2 ⟨s2, eL2, rfl⟩
        rw [List.getElem?_map, List.getElem?_map] at hx
        obtain ⟨m, hm, rfl⟩ := Option.map_eq_some_iff.mp hx
        obtain ⟨p, hp, rfl⟩ := Option.map_eq_some_iff.mp hm
        obtain ⟨hlt, em⟩ := List.getElem?_eq_some_iff.mp hp
        have hpR : p ∈ R := (List.mem_filter.mp (List.mem_of_getElem? hp)).1
        have hR2 := hRU.same s2
        obtain ⟨⟨dx2, ho2⟩, _⟩ := id hR2
        walk_at "dd"
        refine ⟨rfl, ?_⟩
        walk_at "dd"
        refine o_fat ho2 Z.cs Z.n_known rfl ?_
        walk_at "dd"
        have hpc : p.1 ∈ dsOf R := List.mem_map.mpr ⟨p, hpR, rfl⟩
        refine k_get hR2 (List.mem_map.mpr ⟨p.1, hpc, rfl⟩) fun r hr1 hr2 hr3 hr4 => ?_
        have er : r.1 = p.1 := find_is hs.1 hpc rfl hr3
        obtain ⟨dxc, g1, g2, g3⟩ := hr4
        refine o_fat g1 Z.cd Z.n_slots rfl ?_
        refine w_inL (SqL.of g2) ?_
        rw [er]
        have hfl : (R.filter fun p => decide (n ∈ lineD (dsOf R) p.1.nm)).length ≤ 100 := Nat.le_trans (List.length_filter_le _ _) hsl2
        refine lc_keep hacc2 (by omega) hL2 fun H5 h5 k5 => ⟨same_of_but eL2 s2 k5, eL2, ?_⟩
        rw [List.take_succ_eq_append_getElem hlt, em, List.map_append, List.map_append]
        rfl
      · rintro L2 acc H2 hacc2 hL2 ⟨s2, eL2, rfl⟩
        walk_at "dd"
        rw [List.length_map, List.length_map, List.take_length] at hL2
        refine w_any (SqL.of hL2) ?_
        rw [any_map]
        have e3 : ((R.filter fun p => decide (n ∈ lineD (dsOf R) p.1.nm)).any fun p => decide (a ∈ p.1.slots)) = slotBelow (dsOf R) n a := by
          have e4 : ∀ (q : Cl → Bool) (l : List Row), (l.filter fun p => q p.1).any (fun p => decide (a ∈ p.1.slots)) = ((dsOf l).filter q).any fun c => decide (a ∈ c.slots) := fun q l => by
            unfold dsOf
            rw [List.any_filter, List.any_filter, List.any_map]
            rfl
          exact e4 (fun c => decide (n ∈ lineD (dsOf R) c.nm)) R
        rw [e3]
        exact kQ _ (sU.trans s2)
end
end
section
/-! Whether a change is refused, by its kind. -/
open PySem PySem.Spec PyProof.Rows L2
open C8 (Cal Met Mak cal0 pe_c pe_gc pss_cut tCut pe_mt pe_mt0 pe_mk)

local macro_rules | `(tactic| walk_at "dd") => `(tactic| repeat (first
  | walk_at "r1c"
  | with_reducible refine w_dget ?_
  | with_reducible refine w_din ?_
  | with_reducible refine w_dnin ?_
  | with_reducible refine w_dput ?_
  | with_reducible refine w_ddel ?_
  | with_reducible refine w_lenSet ?_
  | with_reducible refine w_lcTt ?_
  | with_reducible refine cTe (by with_unfolding_all decide +kernel) ?_
  | with_reducible refine cTn (by with_unfolding_all decide +kernel) ?_
  | with_reducible refine cNe (by with_unfolding_all decide +kernel) ?_
  | with_reducible refine cNn (by with_unfolding_all decide +kernel) ?_
  | with_reducible refine w_par ?_
  | with_reducible refine w_raiseC ?_
  | with_reducible refine w_lcV ?_
  | with_reducible refine w_lcKk ?_
  | with_reducible refine w_lcZ ?_
  | with_reducible refine w_lcE ?_))

section
variable {P : Program} {w : World} {K : PySem.W.Frag} {mg : Str → Option Value} {base : Heap} {CS CD : Addr} {k : Nat}
theorem w_lenDk {d : Addr} {kvs : List (Key × V)} {H : Hp} {Q : VK} (h : H d = some (.dK kvs)) (k : Q (.int (kvs.length : Int)) H) : rLenDk [.ref d] H Q := ⟨d, _, rfl, h, k⟩
theorem rows_len (R : List Row) : (R.map entD).length = (dsOf R).length := by unfold dsOf; rw [List.length_map, List.length_map]
theorem dec_int20 {n : Nat} : decide (V.int (n : Int) = V.int 20) = decide (n = 20) := decide_eq_decide.mpr ⟨fun h => by have := V.int.inj h; omega, fun h => by rw [h]; rfl⟩
theorem dec_int8 {n : Nat} : decide (V.int (n : Int) = V.int 8) = decide (n = 8) := decide_eq_decide.mpr ⟨fun h => by have := V.int.inj h; omega, fun h => by rw [h]; rfl⟩
abbrev s_Definitions_refuses_class : Stmt := inClass (topS 78) 6
abbrev N_Definitions_refuses_class : List Str := ["self", "name", "base", "slots", "slot"]
theorem sc_Definitions_refuses_class : FnScope N_Definitions_refuses_class ["self", "name", "base", "slots"] (defScope s_Definitions_refuses_class) := ⟨rfl, rfl, rfl, by decide +kernel, rfl, by decide +kernel, by decide +kernel⟩
def spRefC (K : PySem.W.Frag) (CS CD : Addr) : Sp := fun vs H Q _ => ∃ (D d t : Addr) (R : List Row) (n b : List Nat) (ss : List (List Nat)), vs = [.ref D, T n, T b, .ref t] ∧ DfW CS CD D d R H ∧ Sm (dsOf R) ∧ SqT K H t (ss.map T) ∧ ss.length ≤ 100 ∧ ∀ H', Same H H' → Q (.bl (refC (dsOf R) n b ss)) H'
theorem ok_refuses_class {f : Addr} {fd : FuncData} (F : Fun K "refuses_class" "Definitions.refuses_class" s_Definitions_refuses_class f fd) (Y : Bn mg) (Y2 : BnD mg) (Z : DfTx K mg CS CD) (m_has_slot : Met P w K mg base 3 CS "has_slot" (spHasS K CS CD) []) : FnOk P w K mg base CX0 4 f fd ["self", "name", "base", "slots"] (spRefC K CS CD) := by
  refine F.ok sc_Definitions_refuses_class (fun vs H Q E h => ?_) (fun cdv A outer s H vs Q E hr h => ?_)
  · obtain ⟨D, d, t, R, n, b, ss, rfl, _⟩ := h
    rfl
  · obtain ⟨D, d, t, R, n, b, ss, rfl, hW, hs, ht, hss, kQ⟩ := h
    have nd := sc_Definitions_refuses_class.nd
    have hR := hW.r
    refine ⟨_, (pss_cons (ps_if (PW.pt (pw_or (pt_cmp (pc_din (hu_of hr) (pv 1) (pe_fld (pv 0) rfl))) (pw_or1 (pt_cmp (pc_dnotin (hu_of hr) (pv 2) (pe_fld (pv 0) rfl)))))) (pss_one (ps_ret pe_bl)) pss_nil)
      (pss_cons (ps_if (PW.pt (pw_or (pt_cmpR op_eq (pe_callB call_lenDk (by rfl) Y.n_len (by decide +kernel) (pa_cons (pe_fld (pv 0) rfl) pa_nil)) (pe_gc rfl Z.c_MOST_CLASSES) (nomark _)) (pw_or1 (pt_cmpR op_gt (pe_callB call_lenL (by rfl) Y.n_len (by decide +kernel) (pa_cons (pv 3) pa_nil)) (pe_gc rfl Z.c_MOST_SLOTS) (nomark _))))) (pss_one (ps_ret pe_bl)) pss_nil)
      (pss_one (ps_ret (pe_or (pe_cmpR op_lt (pe_lenSetS rfl (by rfl) Y.n_len (by rfl) Y2.n_set (pv 3)) (pe_callB call_lenL (by rfl) Y.n_len (by decide +kernel) (pa_cons (pv 3) pa_nil)) (nomark _)) (pe_one (pe_callB (cr_any rfl) (by rfl) Y.n_any (by decide +kernel) (pa_cons (pe_lc (own := [("slot", 4)]) (g := gName 4) (tt := tYes) (te := tMeth CS "has_slot" (spHasS K CS CD) [] C8.E0 (tVar 0) (tCons (tVar 2) (tCons (tVar 4) tNil))) rfl nd (pi_tup (pv 3)) (blkOk_by (own := [("slot", 4)]) (N := N_Definitions_refuses_class) (sc := defScope s_Definitions_refuses_class) (by decide +kernel)) (fun _ _ _ _ _ => pg_name (i := 4) nd rfl (Or.inl rfl)) (fun _ _ _ _ _ => pts_nil) (fun _ _ _ _ _ => (pe_mt m_has_slot hr (by omega) (pv 0) (pa_cons (pv 2) (pa_cons (pv 4) pa_nil))))) pa_nil)))))))), ?_⟩
    rw [show L2.start N_Definitions_refuses_class [.ref D, T n, T b, .ref t] = [some (.ref D), some (T n), some (T b), some (.ref t), none] from rfl]
    obtain ⟨⟨dx, ho⟩, _⟩ := id hR
    have same0 : Same H H := fun _ _ h => h
    unfold refC at kQ
    walk_at "dd"
    refine o_fat ho Z.cs Z.n_known rfl ?_
    walk_at "dd"
    refine k_in hR ?_
    refine ⟨_, rfl, ?_⟩
    refine w_if (fun h1 => ?_) (fun h1 => ?_)
    · rw [if_pos (.inl h1)] at kQ
      walk_at "dd"
      exact kQ H same0
    walk_at "dd"
    refine o_fat ho Z.cs Z.n_known rfl ?_
    walk_at "dd"
    refine k_nin hR ?_
    refine ⟨_, rfl, ?_⟩
    refine w_ifn (fun h2 => ?_) (fun h2 => ?_)
    · rw [if_pos (.inr h2)] at kQ
      walk_at "dd"
      exact kQ H same0
    rw [if_neg (fun z => z.elim h1 fun z => z h2)] at kQ
    walk_at "dd"
    refine o_fat ho Z.cs Z.n_known rfl ?_
    walk_at "dd"
    refine w_lenDk hW.tab ?_
    walk_at "dd"
    rw [rows_len, dec_int20]
    refine w_if (fun h3 => ?_) (fun h3 => ?_)
    · rw [if_pos (.inl h3)] at kQ
      walk_at "dd"
      exact kQ H same0
    walk_at "dd"
    rw [List.length_map]
    refine w_if (fun h4 => ?_) (fun h4 => ?_)
    · rw [if_pos (.inr (by omega))] at kQ
      walk_at "dd"
      exact kQ H same0
    rw [if_neg (fun z => z.elim h3 fun z => h4 (by omega))] at kQ
    walk_at "dd"
    refine ⟨t, ss, rfl, ht, by omega, fun m hm1 hm2 => ?_⟩
    walk_at "dd"
    rw [List.length_map]
    refine w_if (fun h5 => ?_) (fun h5 => ?_)
    · have : ¬ ss.Nodup := fun z => by have := hm2.mpr z; omega
      rw [decide_eq_false this, Bool.not_false, Bool.true_or] at kQ
      exact kQ H same0
    · have : ss.Nodup := hm2.mp (by omega)
      rw [decide_eq_true this, Bool.not_true, Bool.false_or] at kQ
      walk_at "dd"
      refine ⟨t, rfl, ⟨_, ht⟩, ?_⟩
      refine lc_W (walk_tup (K := K) (a := t) (xs := ss.map T)) (fun L i acc H1 => Same H H1 ∧ H L = none ∧ acc = ((ss.take i).map (hasS (dsOf R) b)).map V.bl) (fun L H1 e1 s1 h1 => ⟨s1, e1, rfl⟩) (fun L i acc H1 _ h => Same.sqT h.1 ht) ?_ ?_
      · rintro L i x acc H1 H2 hi hacc hL ⟨s1, eL, rfl⟩ ⟨rfl, hx⟩
        rw [List.getElem?_map] at hx
        obtain ⟨a, ha, rfl⟩ := Option.map_eq_some_iff.mp hx
        obtain ⟨hlt, em⟩ := List.getElem?_eq_some_iff.mp ha
        have hR1 := hR.same s1
        obtain ⟨⟨dx1, ho1⟩, _⟩ := id hR1
        walk_at "dd"
        refine ⟨rfl, ?_⟩
        walk_at "dd"
        refine o_mat ho1 rfl ?_
        walk_at "dd"
        refine ⟨D, d, R, b, a, rfl, hR1, hs, fun H2 s2 => ?_⟩
        refine lc_keep hacc (by omega) (s2 _ _ hL) fun H5 h5 k5 => ⟨same_of_but eL (s1.trans s2) k5, eL, ?_⟩
        rw [List.take_succ_eq_append_getElem hlt, em, List.map_append, List.map_append]
        rfl
      · rintro L acc H1 hacc hL ⟨s1, eL, rfl⟩
        rw [List.length_map, List.take_length] at hL
        walk_at "dd"
        refine w_any (SqL.of hL) ?_
        rw [any_map]
        exact kQ H1 s1
abbrev s_Definitions_refuses_slot : Stmt := inClass (topS 78) 7
abbrev N_Definitions_refuses_slot : List Str := ["self", "name", "slot"]
theorem sc_Definitions_refuses_slot : FnScope N_Definitions_refuses_slot ["self", "name", "slot"] (defScope s_Definitions_refuses_slot) := ⟨rfl, rfl, rfl, by decide +kernel, rfl, by decide +kernel, by decide +kernel⟩
def spRefS (K : PySem.W.Frag) (CS CD : Addr) : Sp := fun vs H Q _ => ∃ (D d : Addr) (R : List Row) (n a : List Nat), vs = [.ref D, T n, T a] ∧ DfW CS CD D d R H ∧ Sm (dsOf R) ∧ n ∈ nms (dsOf R) ∧ ∀ H', Same H H' → Q (.bl (refS (dsOf R) n a)) H'
theorem ok_refuses_slot {f : Addr} {fd : FuncData} (F : Fun K "refuses_slot" "Definitions.refuses_slot" s_Definitions_refuses_slot f fd) (Y : Bn mg) (Z : DfTx K mg CS CD) (m_has_slot : Met P w K mg base 3 CS "has_slot" (spHasS K CS CD) []) (m_is_slot_below : Met P w K mg base 2 CS "is_slot_below" (spBelS K CS CD) []) : FnOk P w K mg base CX0 4 f fd ["self", "name", "slot"] (spRefS K CS CD) := by
  refine F.ok sc_Definitions_refuses_slot (fun vs H Q E h => ?_) (fun cdv A outer s H vs Q E hr h => ?_)
  · obtain ⟨D, d, R, n, a, rfl, _⟩ := h
    rfl
  · obtain ⟨D, d, R, n, a, rfl, hW, hs, hn, kQ⟩ := h
    have nd := sc_Definitions_refuses_slot.nd
    have hR := hW.r
    refine ⟨_, (pss_cons (ps_if (PW.pt (pw_or (pt_cmpR op_eq (pv 1) (pe_gc rfl Z.c_THING) (nomark _)) (pw_or1 (pt_cmpR op_eq (pe_callB call_lenL (by rfl) Y.n_len (by decide +kernel) (pa_cons (pe_fld (pe_dget (hu_of hr) (pe_fld (pv 0) rfl) (pv 1) (fun _ _ => rfl)) rfl) pa_nil)) (pe_gc rfl Z.c_MOST_SLOTS) (nomark _))))) (pss_one (ps_ret pe_bl)) pss_nil)
      (pss_one (ps_ret (pe_or (pe_mt m_has_slot hr (by omega) (pv 0) (pa_cons (pv 1) (pa_cons (pv 2) pa_nil))) (pe_one (pe_mt m_is_slot_below hr (by omega) (pv 0) (pa_cons (pv 1) (pa_cons (pv 2) pa_nil)))))))), ?_⟩
    rw [show L2.start N_Definitions_refuses_slot [.ref D, T n, T a] = [some (.ref D), some (T n), some (T a)] from rfl]
    obtain ⟨⟨dx, ho⟩, _⟩ := id hR
    have same0 : Same H H := fun _ _ h => h
    unfold refS at kQ
    walk_at "dd"
    refine w_ifT (fun h1 => ?_) (fun h1 => ?_)
    · rw [if_pos (.inl h1)] at kQ
      walk_at "dd"
      exact kQ H same0
    walk_at "dd"
    refine o_fat ho Z.cs Z.n_known rfl ?_
    walk_at "dd"
    refine k_get hR hn fun r hr1 hr2 hr3 hr4 => ?_
    obtain ⟨dxc, g1, g2, g3⟩ := hr4
    refine o_fat g1 Z.cd Z.n_slots rfl ?_
    walk_at "dd"
    have e5 : slotsD (dsOf R) n = r.1.slots := by unfold slotsD; rw [hr3]
    rw [e5] at kQ
    rw [List.length_map, dec_int8]
    refine w_if (fun h2 => ?_) (fun h2 => ?_)
    · rw [if_pos (.inr h2)] at kQ
      walk_at "dd"
      exact kQ H same0
    rw [if_neg (fun z => z.elim h1 h2)] at kQ
    walk_at "dd"
    refine o_mat ho rfl ?_
    walk_at "dd"
    refine ⟨D, d, R, n, a, rfl, hR, hs, fun H1 s1 => ?_⟩
    refine ⟨_, rfl, ?_⟩
    cases hb : hasS (dsOf R) n a with
    | true =>
      rw [hb, Bool.true_or] at kQ
      rw [if_pos rfl]
      exact kQ H1 s1
    | false =>
      rw [hb, Bool.false_or] at kQ
      rw [if_neg Bool.false_ne_true]
      walk_at "dd"
      refine o_mat (s1 _ _ ho) rfl ?_
      walk_at "dd"
      exact ⟨D, d, R, n, a, rfl, hW.keep (fun b _ o e => s1 b o e), hs, fun H2 s2 => kQ H2 (s1.trans s2)⟩
end
end
section
/-! Changes as entries: refused, carried out. -/
open PySem PySem.Spec PyProof.Rows L2
open C8 (Cal Met Mak cal0 pe_c pe_gc pss_cut tCut pe_mt pe_mt0 pe_mk)

local macro_rules | `(tactic| walk_at "dd") => `(tactic| repeat (first
  | walk_at "r1c"
  | with_reducible refine w_dget ?_
  | with_reducible refine w_din ?_
  | with_reducible refine w_dnin ?_
  | with_reducible refine w_dput ?_
  | with_reducible refine w_ddel ?_
  | with_reducible refine w_lenSet ?_
  | with_reducible refine w_lcTt ?_
  | with_reducible refine cTe (by with_unfolding_all decide +kernel) ?_
  | with_reducible refine cTn (by with_unfolding_all decide +kernel) ?_
  | with_reducible refine cNe (by with_unfolding_all decide +kernel) ?_
  | with_reducible refine cNn (by with_unfolding_all decide +kernel) ?_
  | with_reducible refine w_par ?_
  | with_reducible refine w_raiseC ?_
  | with_reducible refine w_lcV ?_
  | with_reducible refine w_lcKk ?_
  | with_reducible refine w_lcZ ?_
  | with_reducible refine w_lcE ?_))

section
variable {P : Program} {w : World} {K : PySem.W.Frag} {mg : Str → Option Value} {base : Heap} {CS CD : Addr} {k : Nat}
theorem trs_txt {H : Hp} : ∀ {us : List V} {l : List (List Nat)}, TrsAt K H us (l.map .s) → us = l.map T
  | _, [], .nil => rfl
  | _, a :: l, .cons h r => by
    cases h
    rw [trs_txt r]
    rfl
/-- the items of an entry -/
def EntAt (K : PySem.W.Frag) (H : Hp) (us : List V) : Ch → Prop
  | .cls n b ss => ∃ t, us = [T (cds "class"), T n, T b, .ref t] ∧ SqT K H t (ss.map T)
  | .nocls n => us = [T (cds "no class"), T n]
  | .slot n s => us = [T (cds "slot"), T n, T s]
  | .noslot n s => us = [T (cds "no slot"), T n, T s]
  | .meth n sel txt => us = [T (cds "method"), T n, T sel, T txt]
  | .nometh n sel => us = [T (cds "no method"), T n, T sel]
theorem ent_at {H : Hp} {v : V} {c : Ch} (h : TrAt K H v c.tr) : ∃ p us, v = .ref p ∧ SqT K H p us ∧ EntAt K H us c := by
  cases c with
  | cls n b ss =>
    cases h with | t hq ht =>
    cases ht with | cons h1 ht => cases ht with | cons h2 ht => cases ht with | cons h3 ht => cases ht with | cons h4 ht =>
    cases ht; cases h1; cases h2; cases h3
    cases h4 with | t hq4 ht4 =>
    exact ⟨_, _, rfl, hq, _, rfl, by rw [← trs_txt ht4]; exact hq4⟩
  | nocls n =>
    cases h with | t hq ht =>
    cases ht with | cons h1 ht => cases ht with | cons h2 ht =>
    cases ht; cases h1; cases h2
    exact ⟨_, _, rfl, hq, rfl⟩
  | slot n s =>
    cases h with | t hq ht =>
    cases ht with | cons h1 ht => cases ht with | cons h2 ht => cases ht with | cons h3 ht =>
    cases ht; cases h1; cases h2; cases h3
    exact ⟨_, _, rfl, hq, rfl⟩
  | noslot n s =>
    cases h with | t hq ht =>
    cases ht with | cons h1 ht => cases ht with | cons h2 ht => cases ht with | cons h3 ht =>
    cases ht; cases h1; cases h2; cases h3
    exact ⟨_, _, rfl, hq, rfl⟩
  | meth n sel txt =>
    cases h with | t hq ht =>
    cases ht with | cons h1 ht => cases ht with | cons h2 ht => cases ht with | cons h3 ht => cases ht with | cons h4 ht =>
    cases ht; cases h1; cases h2; cases h3; cases h4
    exact ⟨_, _, rfl, hq, rfl⟩
  | nometh n sel =>
    cases h with | t hq ht =>
    cases ht with | cons h1 ht => cases ht with | cons h2 ht => cases ht with | cons h3 ht =>
    cases ht; cases h1; cases h2; cases h3
    exact ⟨_, _, rfl, hq, rfl⟩
def ChSm : Ch → Prop
  | .cls _ _ ss => ss.length ≤ 100
  | _ => True
abbrev s_Definitions_refuses : Stmt := inClass (topS 78) 5
abbrev N_Definitions_refuses : List Str := ["self", "entry", "word", "name"]
theorem sc_Definitions_refuses : FnScope N_Definitions_refuses ["self", "entry"] (defScope s_Definitions_refuses) := ⟨rfl, rfl, rfl, by decide +kernel, rfl, by decide +kernel, by decide +kernel⟩
def spRefu (K : PySem.W.Frag) (CS CD : Addr) : Sp := fun vs H Q _ => ∃ (D d : Addr) (R : List Row) (v : V) (c : Ch), vs = [.ref D, v] ∧ DfW CS CD D d R H ∧ Sm (dsOf R) ∧ TrAt K H v c.tr ∧ ChSm c ∧ ∀ H', Same H H' → Q (.bl (refM (dsOf R) c)) H'
theorem ok_refuses {f : Addr} {fd : FuncData} (F : Fun K "refuses" "Definitions.refuses" s_Definitions_refuses f fd) (Y : Bn mg) (Z : DfTx K mg CS CD) (m_refuses_class : Met P w K mg base 4 CS "refuses_class" (spRefC K CS CD) []) (m_refuses_slot : Met P w K mg base 4 CS "refuses_slot" (spRefS K CS CD) []) (m_has_class_below : Met P w K mg base 1 CS "has_class_below" (spBelC K CS CD) []) : FnOk P w K mg base CX0 5 f fd ["self", "entry"] (spRefu K CS CD) := by
  refine F.ok sc_Definitions_refuses (fun vs H Q E h => ?_) (fun cdv A outer s H vs Q E hr h => ?_)
  · obtain ⟨D, d, R, v, c, rfl, _⟩ := h
    rfl
  · obtain ⟨D, d, R, v, c, rfl, hW, hs, hv, hc, kQ⟩ := h
    have nd := sc_Definitions_refuses.nd
    have hR := hW.r
    obtain ⟨p, us, rfl, hp, he⟩ := ent_at hv
    refine ⟨_, (pss_cons (ps_par (i := 2) (j := 3) rfl nd rfl rfl (by decide) rfl rfl (pa_cons (pe_ix ix_tup (pv 1) pe_int (fun _ _ => rfl)) (pa_cons (pe_ix ix_tup (pv 1) pe_int (fun _ _ => rfl)) pa_nil)) rfl)
      (pss_cons (ps_if (pt_cmpR op_eq (pv 2) pe_str (nomark _)) (pss_one (ps_ret (pe_mt m_refuses_class hr (by omega) (pv 0) (pa_cons (pv 3) (pa_cons (pe_ix ix_tup (pv 1) pe_int (fun _ _ => rfl)) (pa_cons (pe_ix ix_tup (pv 1) pe_int (fun _ _ => rfl)) pa_nil)))))) pss_nil)
      (pss_cons (ps_if (pt_cmp (pc_dnotin (hu_of hr) (pv 3) (pe_fld (pv 0) rfl))) (pss_one (ps_ret pe_bl)) pss_nil)
      (pss_cons (ps_if (pt_cmpR op_eq (pv 2) pe_str (nomark _)) (pss_one (ps_ret (pe_or (pe_cmpR op_eq (pv 3) (pe_gc rfl Z.c_THING) (nomark _)) (pe_one (pe_mt m_has_class_below hr (by omega) (pv 0) (pa_cons (pv 3) pa_nil)))))) pss_nil)
      (pss_cons (ps_if (pt_cmpR op_eq (pv 2) pe_str (nomark _)) (pss_one (ps_ret (pe_mt m_refuses_slot hr (by omega) (pv 0) (pa_cons (pv 3) (pa_cons (pe_ix ix_tup (pv 1) pe_int (fun _ _ => rfl)) pa_nil))))) pss_nil)
      (pss_cons (ps_if (pt_cmpR op_eq (pv 2) pe_str (nomark _)) (pss_one (ps_ret (pe_cmpR op_notIn_seq (pe_ix ix_tup (pv 1) pe_int (fun _ _ => rfl)) (pe_fld (pe_dget (hu_of hr) (pe_fld (pv 0) rfl) (pv 3) (fun _ _ => rfl)) rfl) (by rfl)))) pss_nil)
      (pss_cons (ps_if (pt_cmpR op_eq (pv 2) pe_str (nomark _)) (pss_one (ps_ret (pe_cmpR op_eq (pv 3) (pe_gc rfl Z.c_THING) (nomark _)))) pss_nil)
      (pss_one (ps_ret (pe_cmp (pc_dnotin (hu_of hr) (pe_ix ix_tup (pv 1) pe_int (fun _ _ => rfl)) (pe_fld (pe_dget (hu_of hr) (pe_fld (pv 0) rfl) (pv 3) (fun _ _ => rfl)) rfl)))))))))))), ?_⟩
    rw [show L2.start N_Definitions_refuses [.ref D, .ref p] = [some (.ref D), some (.ref p), none, none] from rfl]
    obtain ⟨⟨dx, ho⟩, _⟩ := id hR
    have same0 : Same H H := fun _ _ h => h
    cases c with
    | cls n b ss =>
      obtain ⟨t, rfl, ht⟩ := he
      walk_at "dd"
      refine ⟨_, _, rfl, ?_⟩
      walk_at "dd"
      refine o_mat ho rfl ?_
      walk_at "dd"
      exact ⟨D, d, t, R, n, b, ss, rfl, hW, hs, ht, hc, kQ⟩
    | nocls n =>
      cases he
      have kQ : ∀ H', Same H H' → Q (.bl (if n ∉ nms (dsOf R) then true else decide (n = cds "Thing") || clsBelow (dsOf R) n)) H' := kQ
      walk_at "dd"
      refine ⟨_, _, rfl, ?_⟩
      walk_at "dd"
      refine o_fat ho Z.cs Z.n_known rfl ?_
      refine k_nin hR ?_
      refine ⟨_, rfl, ?_⟩
      refine w_ifn (fun h1 => ?_) (fun h1 => ?_)
      · rw [if_pos h1] at kQ
        walk_at "dd"
        exact kQ H same0
      rw [if_neg (fun z => z h1)] at kQ
      walk_at "dd"
      refine w_ifT (fun h2 => ?_) (fun h2 => ?_)
      · rw [decide_eq_true (show n = cds "Thing" from h2), Bool.true_or] at kQ
        exact kQ H same0
      · rw [decide_eq_false (show ¬ n = cds "Thing" from h2), Bool.false_or] at kQ
        walk_at "dd"
        refine o_mat ho rfl ?_
        walk_at "dd"
        exact ⟨D, d, R, n, rfl, hW, hs, kQ⟩
    | slot n a =>
      cases he
      have kQ : ∀ H', Same H H' → Q (.bl (if n ∉ nms (dsOf R) then true else refS (dsOf R) n a)) H' := kQ
      walk_at "dd"
      refine ⟨_, _, rfl, ?_⟩
      walk_at "dd"
      refine o_fat ho Z.cs Z.n_known rfl ?_
      refine k_nin hR ?_
      refine ⟨_, rfl, ?_⟩
      refine w_ifn (fun h1 => ?_) (fun h1 => ?_)
      · rw [if_pos h1] at kQ
        walk_at "dd"
        exact kQ H same0
      rw [if_neg (fun z => z h1)] at kQ
      walk_at "dd"
      refine o_mat ho rfl ?_
      walk_at "dd"
      exact ⟨D, d, R, n, a, rfl, hW, hs, h1, kQ⟩
    | noslot n a =>
      cases he
      have kQ : ∀ H', Same H H' → Q (.bl (if n ∉ nms (dsOf R) then true else decide (a ∉ slotsD (dsOf R) n))) H' := kQ
      walk_at "dd"
      refine ⟨_, _, rfl, ?_⟩
      walk_at "dd"
      refine o_fat ho Z.cs Z.n_known rfl ?_
      refine k_nin hR ?_
      refine ⟨_, rfl, ?_⟩
      refine w_ifn (fun h1 => ?_) (fun h1 => ?_)
      · rw [if_pos h1] at kQ
        walk_at "dd"
        exact kQ H same0
      rw [if_neg (fun z => z h1)] at kQ
      walk_at "dd"
      refine o_fat ho Z.cs Z.n_known rfl ?_
      walk_at "dd"
      refine k_get hR h1 fun r hr1 hr2 hr3 hr4 => ?_
      obtain ⟨dxc, g1, g2, g3⟩ := hr4
      refine o_fat g1 Z.cd Z.n_slots rfl ?_
      have e5 : slotsD (dsOf R) n = r.1.slots := by unfold slotsD; rw [hr3]
      rw [e5, decide_not] at kQ
      exact w_ninL (SqL.of g2) (kQ H same0)
    | meth n sel txt =>
      cases he
      have kQ : ∀ H', Same H H' → Q (.bl (if n ∉ nms (dsOf R) then true else decide (n = cds "Thing"))) H' := kQ
      walk_at "dd"
      refine ⟨_, _, rfl, ?_⟩
      walk_at "dd"
      refine o_fat ho Z.cs Z.n_known rfl ?_
      refine k_nin hR ?_
      refine ⟨_, rfl, ?_⟩
      refine w_ifn (fun h1 => ?_) (fun h1 => ?_)
      · rw [if_pos h1] at kQ
        walk_at "dd"
        exact kQ H same0
      rw [if_neg (fun z => z h1)] at kQ
      walk_at "dd"
      rw [show decide (T n = T (cds "Thing")) = decide (n = cds "Thing") from decide_eq_decide.mpr T_iff]
      exact kQ H same0
    | nometh n sel =>
      cases he
      have kQ : ∀ H', Same H H' → Q (.bl (if n ∉ nms (dsOf R) then true else decide (sel ∉ (textsD (dsOf R) n).map (·.1)))) H' := kQ
      walk_at "dd"
      refine ⟨_, _, rfl, ?_⟩
      walk_at "dd"
      refine o_fat ho Z.cs Z.n_known rfl ?_
      refine k_nin hR ?_
      refine ⟨_, rfl, ?_⟩
      refine w_ifn (fun h1 => ?_) (fun h1 => ?_)
      · rw [if_pos h1] at kQ
        walk_at "dd"
        exact kQ H same0
      rw [if_neg (fun z => z h1)] at kQ
      walk_at "dd"
      refine o_fat ho Z.cs Z.n_known rfl ?_
      walk_at "dd"
      refine k_get hR h1 fun r hr1 hr2 hr3 hr4 => ?_
      obtain ⟨dxc, g1, g2, g3⟩ := hr4
      refine o_fat g1 Z.cd Z.n_texts rfl ?_
      have e5 : textsD (dsOf R) n = r.1.texts := by unfold textsD; rw [hr3]
      rw [e5, decide_not] at kQ
      exact ⟨_, _, rfl, .inl ⟨_, kT sel, .inl g3, rfl, rfl⟩, by rw [some_tx]; exact kQ H same0⟩
end
end
section
/-! What the changes make, in plain Lean. -/
/-- what those make that are marked; or the number of the first that is refused -/
def madeM (ds : List Cl) : Nat → List (Ch × Bool) → Sum Nat (List Cl)
  | _, [] => .inr ds
  | i, (c, b) :: r => if b = true then (if refM ds c = true then .inl i else madeM (carM ds c) (i + 1) r) else madeM ds (i + 1) r
theorem madeM_cons {ds : List Cl} {i : Nat} {c : Ch} {b : Bool} {r : List (Ch × Bool)} : madeM ds i ((c, b) :: r) = if b = true then (if refM ds c = true then .inl i else madeM (carM ds c) (i + 1) r) else madeM ds (i + 1) r := rfl
/-- bounds that hold while changes are made -/
def Nice (k : Nat) (ds : List Cl) : Prop := DsOk ds ∧ ds.length ≤ 20 ∧ ∀ c ∈ ds, c.slots.length ≤ 8 ∧ c.texts.length ≤ k
theorem Nice.mono {k j : Nat} {ds : List Cl} (h : Nice k ds) (l : k ≤ j) : Nice j ds := ⟨h.1, h.2.1, fun c hc => ⟨(h.2.2 c hc).1, Nat.le_trans (h.2.2 c hc).2 l⟩⟩
theorem nice0 : Nice 0 [thing] := ⟨DsOk.new, by decide, fun c hc => by rw [List.mem_singleton.mp hc]; exact ⟨Nat.zero_le _, Nat.zero_le _⟩⟩
theorem putT_len (l : List (List Nat × List Nat)) (k v : List Nat) : (putT l k v).length ≤ l.length + 1 := by
  unfold putT
  split
  · rw [List.length_map]; omega
  · rw [List.length_append]; exact Nat.le_refl _
theorem mem_onC {n : List Nat} {f : Cl → Cl} {ds : List Cl} {c : Cl} (h : c ∈ onC n f ds) : ∃ x ∈ ds, (c = x ∨ (x.nm = n ∧ c = f x)) := by
  obtain ⟨x, hx, e⟩ := List.mem_map.mp h
  refine ⟨x, hx, ?_⟩
  by_cases z : x.nm = n
  · rw [if_pos z] at e; exact .inr ⟨z, e.symm⟩
  · rw [if_neg z] at e; exact .inl e.symm
theorem len_onC (n : List Nat) (f : Cl → Cl) (ds : List Cl) : (onC n f ds).length = ds.length := List.length_map ..
theorem slots_of {ds : List Cl} (h : DsOk ds) {x : Cl} (hx : x ∈ ds) : slotsD ds x.nm = x.slots := by
  unfold slotsD
  rw [getC_of h.nd hx]
theorem Nice.car {k : Nat} {ds : List Cl} (h : Nice k ds) {c : Ch} (r : refM ds c = false) : Nice (k + 1) (carM ds c) := by
  refine ⟨h.1.car r, ?_⟩
  have h2 := (h.mono (Nat.le_succ k)).2.2
  cases c with
  | cls n b ss =>
    have r : refC ds n b ss = false := r
    unfold refC at r
    by_cases z : n ∈ nms ds ∨ b ∉ nms ds
    · rw [if_pos z] at r; cases r
    rw [if_neg z] at r
    by_cases z2 : ds.length = 20 ∨ 8 < ss.length
    · rw [if_pos z2] at r; cases r
    refine ⟨?_, fun c hc => ?_⟩
    · show (ds ++ [_]).length ≤ 20
      have := h.2.1
      rw [List.length_append, List.length_singleton]
      have : ds.length ≠ 20 := fun q => z2 (.inl q)
      omega
    · rcases List.mem_append.mp (show c ∈ ds ++ [_] from hc) with hc | hc
      · exact h2 c hc
      · rw [List.mem_singleton.mp hc]
        exact ⟨Nat.le_of_not_lt fun q => z2 (.inr q), Nat.zero_le _⟩
  | nocls n =>
    exact ⟨Nat.le_trans (List.length_filter_le _ _) h.2.1, fun c hc => h2 c (List.mem_filter.mp hc).1⟩
  | slot n s =>
    have r : (if n ∉ nms ds then true else refS ds n s) = false := r
    by_cases z : n ∉ nms ds
    · rw [if_pos z] at r; cases r
    rw [if_neg z] at r
    unfold refS at r
    by_cases z2 : n = cds "Thing" ∨ (slotsD ds n).length = 8
    · rw [if_pos z2] at r; cases r
    refine ⟨by show (onC _ _ ds).length ≤ 20; rw [len_onC]; exact h.2.1, fun c hc => ?_⟩
    obtain ⟨x, hx, e | ⟨e1, e2⟩⟩ := mem_onC hc
    · rw [e]; exact h2 x hx
    · have e3 := slots_of h.1 hx
      rw [e1] at e3
      have e4 : x.slots.length ≠ 8 := fun q => z2 (.inr (by rw [e3]; exact q))
      have := (h2 x hx).1
      rw [e2]
      exact ⟨by show (x.slots ++ [s]).length ≤ 8; rw [List.length_append, List.length_singleton]; omega, (h2 x hx).2⟩
  | noslot n s =>
    refine ⟨by show (onC _ _ ds).length ≤ 20; rw [len_onC]; exact h.2.1, fun c hc => ?_⟩
    obtain ⟨x, hx, e | ⟨e1, e2⟩⟩ := mem_onC hc
    · rw [e]; exact h2 x hx
    · rw [e2]
      exact ⟨Nat.le_trans (List.length_erase_le) (h2 x hx).1, (h2 x hx).2⟩
  | meth n sel txt =>
    refine ⟨by show (onC _ _ ds).length ≤ 20; rw [len_onC]; exact h.2.1, fun c hc => ?_⟩
    obtain ⟨x, hx, e | ⟨e1, e2⟩⟩ := mem_onC hc
    · rw [e]; exact h2 x hx
    · rw [e2]
      exact ⟨(h2 x hx).1, Nat.le_trans (putT_len _ _ _) (Nat.succ_le_succ (h.2.2 x hx).2)⟩
  | nometh n sel =>
    refine ⟨by show (onC _ _ ds).length ≤ 20; rw [len_onC]; exact h.2.1, fun c hc => ?_⟩
    obtain ⟨x, hx, e | ⟨e1, e2⟩⟩ := mem_onC hc
    · rw [e]; exact h2 x hx
    · rw [e2]
      exact ⟨(h2 x hx).1, Nat.le_trans (List.length_filter_le _ _) (h2 x hx).2⟩
theorem made_nice : ∀ {l : List (Ch × Bool)} {i k : Nat} {ds ds' : List Cl}, Nice k ds → madeM ds i l = .inr ds' → Nice (k + l.length) ds'
  | [], i, k, ds, ds', h, e => by
    have e : Sum.inr ds = (Sum.inr ds' : Sum Nat (List Cl)) := e
    cases e; exact h
  | (c, b) :: r, i, k, ds, ds', h, e => by
    unfold madeM at e
    rw [List.length_cons]
    by_cases hb : b = true
    · rw [if_pos hb] at e
      cases hr : refM ds c with
      | true => rw [if_pos hr] at e; cases e
      | false =>
        rw [if_neg (by rw [hr]; exact Bool.false_ne_true)] at e
        have := made_nice (h.car hr) e
        rwa [show k + (r.length + 1) = k + 1 + r.length by omega]
    · rw [if_neg hb] at e
      exact (made_nice h e).mono (by omega)
/-- the numbers in force, ascending -/
def standN (fl : List Bool) : List Nat := (List.range fl.length).filter fun i => fl.getD i false
end
section
/-! Texts of tokens with spaces ahead of each: their reading. -/
open PySem PySem.Spec PyProof.Rows L2
open TL (numL tl_num numL_digits numL_ne numL_val numL_len numL_lt numL_step)
/-- tokens, each with the spaces ahead of it -/
abbrev Ly := List (Nat × List Nat)
def lay : Ly → List Nat
  | [] => []
  | (n, t) :: l => List.replicate n 32 ++ t ++ lay l
def lws (l : Ly) : Ws := l.map Prod.snd
def lps : Nat → Ly → List Nat
  | _, [] => []
  | p, (n, t) :: l => (p + n) :: lps (p + n + t.length) l
/-- tokens, none of which would be read as one with what stands behind it -/
def LOk : List Nat → Ly → Prop
  | _, [] => True
  | b, (n, t) :: l => Tok t ∧ (touch b t = true → 1 ≤ n) ∧ LOk t l
def lend : List Nat → Ly → List Nat
  | b, [] => b
  | _, (_, t) :: l => lend t l
theorem lay_append : ∀ a b : Ly, lay (a ++ b) = lay a ++ lay b
  | [], b => rfl
  | (n, t) :: a, b => by
    show List.replicate n 32 ++ t ++ lay (a ++ b) = List.replicate n 32 ++ t ++ lay a ++ lay b
    rw [lay_append a b, List.append_assoc, List.append_assoc, List.append_assoc]
theorem lws_append (a b : Ly) : lws (a ++ b) = lws a ++ lws b := List.map_append
theorem lps_append : ∀ (p : Nat) (a b : Ly), lps p (a ++ b) = lps p a ++ lps (p + (lay a).length) b
  | p, [], b => rfl
  | p, (n, t) :: a, b => by
    show (p + n) :: lps (p + n + t.length) (a ++ b) = (p + n) :: (lps (p + n + t.length) a ++ lps (p + (List.replicate n 32 ++ t ++ lay a).length) b)
    rw [lps_append, List.length_append, List.length_append, List.length_replicate, show p + (n + t.length + (lay a).length) = p + n + t.length + (lay a).length by omega]
theorem lps_len : ∀ (p : Nat) (l : Ly), (lps p l).length = (lws l).length
  | _, [] => rfl
  | p, (n, t) :: l => by
    show (lps (p + n + t.length) l).length + 1 = (lws l).length + 1
    rw [lps_len]
theorem lend_append : ∀ (c : List Nat) (a b : Ly), lend c (a ++ b) = lend (lend c a) b
  | _, [], _ => rfl
  | _, (_, t) :: a, b => lend_append t a b
theorem lok_append : ∀ {c : List Nat} {a b : Ly}, LOk c (a ++ b) ↔ LOk c a ∧ LOk (lend c a) b
  | c, [], b => ⟨fun h => ⟨True.intro, h⟩, fun h => h.2⟩
  | c, (n, t) :: a, b => by
    show (Tok t ∧ _ ∧ LOk t (a ++ b)) ↔ (Tok t ∧ _ ∧ LOk t a) ∧ LOk (lend t a) b
    rw [lok_append (c := t) (a := a) (b := b)]
    exact ⟨fun ⟨h1, h2, h3, h4⟩ => ⟨⟨h1, h2, h3⟩, h4⟩, fun ⟨⟨h1, h2, h3⟩, h4⟩ => ⟨h1, h2, h3, h4⟩⟩
theorem lay_grown : ∀ {l : Ly} {cs : List Nat} {due : List Tk} {b : List Nat}, Grown cs due b → LOk b l → Grown (cs ++ lay l) (due ++ dueOf (lws l) (lps cs.length l)) (lend b l)
  | [], cs, due, b, g, _ => by
    show Grown (cs ++ []) (due ++ []) b
    rw [List.append_nil, List.append_nil]
    exact g
  | (n, t) :: l, cs, due, b, g, ⟨⟨k, v, d⟩, h2, h3⟩ => by
    have g2 := lay_grown (grown_step g d h2) h3
    have e1 : cs ++ lay ((n, t) :: l) = cs ++ List.replicate n 32 ++ t ++ lay l := by
      show cs ++ (List.replicate n 32 ++ t ++ lay l) = _
      rw [List.append_assoc, List.append_assoc, List.append_assoc]
    have e2 : due ++ dueOf (lws ((n, t) :: l)) (lps cs.length ((n, t) :: l)) = due ++ [(k, v, cs.length + n)] ++ dueOf (lws l) (lps (cs ++ List.replicate n 32 ++ t).length l) := by
      show due ++ (((tk t).1, (tk t).2, cs.length + n) :: dueOf (lws l) (lps (cs.length + n + t.length) l)) = _
      rw [drawn_tk d, List.length_append, List.length_append, List.length_replicate, List.append_assoc]
      rfl
    rw [e1, e2]
    exact g2
/-- the tokens of such a text -/
theorem lay_lex {l : Ly} (h : LOk [] l) (n : Nat) : lex 0 (lay l ++ List.replicate n 32) = (dueOf (lws l) (lps 0 l), none) := by
  have g := lay_grown (grown_start 0) h
  exact grown_end g n
theorem lay_lex0 {l : Ly} (h : LOk [] l) : lex 0 (lay l) = (dueOf (lws l) (lps 0 l), none) := by
  have := lay_lex h 0
  rw [show lay l ++ List.replicate 0 32 = lay l from List.append_nil _] at this
  exact this
/-! which tokens touch -/
theorem touch_gap {b t : List Nat} {n : Nat} (h : 1 ≤ n) : touch b t = true → 1 ≤ n := fun _ => h
theorem touch_no {b t : List Nat} {n : Nat} (h : touch b t = false) : touch b t = true → 1 ≤ n := fun z => by rw [h] at z; cases z
theorem mark_head : ∀ m ∈ MLs, ∃ c r, m = c :: r ∧ c ∉ aJ := by
  have k : ∀ m ∈ MLs, m ≠ [] ∧ m.headD 0 ∉ aJ := by decide +kernel
  intro m hm
  obtain ⟨h1, h2⟩ := k m hm
  cases m with
  | nil => exact absurd rfl h1
  | cons c r => exact ⟨c, r, rfl, h2⟩
theorem mark_last : ∀ m ∈ MLs, ∀ c, m.getLast? = some c → c ∉ aJ := by
  have k : ∀ m ∈ MLs, (m.getLast?).getD 0 ∉ aJ := by decide +kernel
  intro m hm c e
  have := k m hm
  rw [e] at this
  exact this
theorem touch_nil (t : List Nat) : touch [] t = false := rfl
/-- a mark behind something other than < -/
theorem touch_mr {b m : List Nat} (h : b ≠ [60]) (hm : m ∈ MLs) : touch b m = false := by
  unfold touch
  by_cases h0 : b = []
  · rw [if_pos h0]
  · rw [if_neg h0, if_neg h]
    obtain ⟨c, r, rfl, hc⟩ := mark_head m hm
    rw [List.head?_cons]
    cases b.getLast? with
    | none => rfl
    | some d =>
      show (decide (d ∈ aJ) && decide (c ∈ aJ)) = false
      rw [decide_eq_false hc, Bool.and_false]
/-- a mark other than < ahead of something -/
theorem touch_ml {m t : List Nat} (h : m ≠ [60]) (hm : m ∈ MLs) : touch m t = false := by
  unfold touch
  obtain ⟨c, r, e, _⟩ := mark_head m hm
  rw [if_neg (by rw [e]; exact List.cons_ne_nil _ _), if_neg h]
  cases el : m.getLast? with
  | none => rfl
  | some d =>
    cases t.head? with
    | none => rfl
    | some x =>
      show (decide (d ∈ aJ) && decide (x ∈ aJ)) = false
      rw [decide_eq_false (mark_last m hm d el), Bool.false_and]
theorem name_ne {a : List Nat} (h : IsName a) : a ≠ [60] := fun e => by
  obtain ⟨c, r, rfl, hc, _⟩ := h.1
  cases e
  exact absurd hc (by decide +kernel)
theorem num_ne {n : Nat} : numL n ≠ [60] := fun e => by
  have := numL_digits n 60 (by rw [e]; exact List.mem_singleton.mpr rfl)
  omega
theorem num_tok {n : Nat} (h : n ≤ 1000000000) : Tok (numL n) := ⟨_, _, .number h⟩
theorem word_ne : ∀ a ∈ WM, a ≠ cds "<" → a ≠ [60] := by decide +kernel
/-! rows of names with commas -/
def cly (g : Nat) : Ws → Ly
  | [] => []
  | a :: l => (g, a) :: l.flatMap fun b => [(0, cds ","), (1, b)]
theorem cly_ws : ∀ (g : Nat) (l : Ws), lws (cly g l) = commas l
  | _, [] => rfl
  | g, a :: l => by
    show a :: lws (l.flatMap fun b => [(0, cds ","), (1, b)]) = _
    have : ∀ l : Ws, lws (l.flatMap fun b => [(0, cds ","), (1, b)]) = l.flatMap fun b => [cds ",", b] := fun l => by
      induction l with
      | nil => rfl
      | cons b l ih =>
        rw [List.flatMap_cons, lws_append, ih, List.flatMap_cons]
        rfl
    rw [this, commas_cons]
/-- names behind one another, with a comma and a space between -/
def jn : Ws → List Nat
  | [] => []
  | a :: l => a ++ l.flatMap fun b => cds ", " ++ b
theorem cly_lay : ∀ {g : Nat} {l : Ws}, l ≠ [] → lay (cly g l) = List.replicate g 32 ++ jn l
  | g, [], h => absurd rfl h
  | g, a :: l, _ => by
    show List.replicate g 32 ++ a ++ lay (l.flatMap fun b => [(0, cds ","), (1, b)]) = _
    have e : cds ", " = cds "," ++ [32] := by decide +kernel
    have : ∀ l : Ws, lay (l.flatMap fun b => [(0, cds ","), (1, b)]) = l.flatMap fun b => cds ", " ++ b := fun l => by
      induction l with
      | nil => rfl
      | cons b l ih =>
        rw [List.flatMap_cons, lay_append, ih, List.flatMap_cons, e]
        show ([] ++ cds "," ++ ([32] ++ b ++ [])) ++ _ = _
        simp only [List.nil_append, List.append_nil, List.append_assoc]
    rw [this, List.append_assoc]
    rfl
theorem cly_ok {c : List Nat} {g : Nat} {l : Ws} (h : ∀ x ∈ l, IsName x) (ht : ∀ a r, l = a :: r → touch c a = true → 1 ≤ g) : LOk c (cly g l) := by
  cases l with
  | nil => exact True.intro
  | cons a l =>
    refine ⟨name_tok (h a List.mem_cons_self), ht a l rfl, ?_⟩
    have : ∀ (l : Ws) (a : List Nat), IsName a → (∀ x ∈ l, IsName x) → LOk a (l.flatMap fun b => [(0, cds ","), (1, b)]) := fun l => by
      induction l with
      | nil => exact fun _ _ _ => True.intro
      | cons b l ih =>
        intro a ha hl
        rw [List.flatMap_cons]
        exact ⟨wm_tok _ (by decide +kernel), touch_no (touch_mr (name_ne ha) (by decide +kernel)), name_tok (hl b List.mem_cons_self), fun _ => Nat.le_refl _, ih b (hl b List.mem_cons_self) fun x hx => hl x (List.mem_cons_of_mem _ hx)⟩
    exact this l a (h a List.mem_cons_self) fun x hx => h x (List.mem_cons_of_mem _ hx)
theorem cly_end {c : List Nat} {g : Nat} : ∀ {l : Ws}, l ≠ [] → lend c (cly g l) ∈ l
  | [], h => absurd rfl h
  | a :: l, _ => by
    show lend a (l.flatMap fun b => [(0, cds ","), (1, b)]) ∈ a :: l
    have : ∀ (l : Ws) (a : List Nat), lend a (l.flatMap fun b => [(0, cds ","), (1, b)]) ∈ a :: l := fun l => by
      induction l with
      | nil => exact fun a => List.mem_singleton.mpr rfl
      | cons b l ih =>
        intro a
        rw [List.flatMap_cons]
        exact List.mem_cons_of_mem _ (ih b)
    exact this l a
theorem jn_len {l : Ws} (h : ∀ x ∈ l, x.length ≤ 20) : (jn l).length ≤ 22 * l.length := by
  cases l with
  | nil => exact Nat.zero_le _
  | cons a l =>
    have : ∀ l : Ws, (∀ x ∈ l, x.length ≤ 20) → (l.flatMap fun b => cds ", " ++ b).length ≤ 22 * l.length := fun l => by
      induction l with
      | nil => exact fun _ => Nat.zero_le _
      | cons b l ih =>
        intro hl
        have h1 := hl b List.mem_cons_self
        have h2 := ih fun x hx => hl x (List.mem_cons_of_mem _ hx)
        rw [List.flatMap_cons, List.length_append, List.length_append, List.length_cons]
        have : (cds ", ").length = 2 := by decide +kernel
        omega
    have h1 := h a List.mem_cons_self
    have h2 := this l fun x hx => h x (List.mem_cons_of_mem _ hx)
    show (a ++ _).length ≤ _
    rw [List.length_append, List.length_cons]
    omega
end
section
/-! What reading a text comes to; join. -/
open PySem PySem.Spec PyProof.Rows L2
inductive To where
  | tree (t : Tr)
  | wrong (i : Nat)
  | twice (a : List Nat)
def toTr : To → Tr
  | .tree t => .t [.s (cds "tree"), t]
  | .wrong i => .t [.s (cds "wrong"), .i (i : Int)]
  | .twice a => .t [.s (cds "twice"), .s a]
/-- a reader over tokens, up to the end of the text -/
def whole (g : List Tk → RS → Res RS Tr) (cs : List Nat) (ts : List Tk) : Res RS Tr := (g (endTks cs ts) ⟨0, [], none⟩).bind fun t S => (rTake (endTks cs ts) (cds "nothing") S).bind fun _ S => .ok t S
def Comes (g : List Tk → RS → Res RS Tr) (cs : List Nat) : To → Prop
  | .tree t => ∃ ts n ds, lex 0 cs = (ts, none) ∧ whole g cs ts = .ok t ⟨n, ds, none⟩
  | .wrong i => ∃ ts, lex 0 cs = (ts, none) ∧ whole g cs ts = .bad i
  | .twice a => a.length ≤ 100000 ∧ ∃ ts t n ds, lex 0 cs = (ts, none) ∧ whole g cs ts = .ok t ⟨n, ds, some a⟩
theorem w_callS {sp : Sp} {E : L2.St → XK} {t : TA} {σ : L2.St} {H : Hp} {Q : VK} (k : t σ H fun vs H1 => sp vs H1 Q (E σ)) : tCallS sp E t σ H Q := k
/-! ', '.join(names) -/
def rJoin (K : PySem.W.Frag) : V → List V → Hp → VK → Prop := fun x xs H Q => ∃ a p, ∃ ys : List Str, x = .str a ∧ xs = [.ref p] ∧ (SqL K H p (ys.map V.str) ∨ SqT K H p (ys.map V.str)) ∧ (ys.map (·.length)).sum + ys.length * a.length ≤ 16777216 ∧ Q (.str (Txt.join a ys)) H
theorem mt_joinS {X : Cx} : MtR X "str.join" (rJoin X.K) := L2.mt_join
theorem S_app (a b : List Nat) : S a ++ S b = S (a ++ b) := by
  show (⟨a.toArray ++ b.toArray⟩ : Str) = ⟨(a ++ b).toArray⟩
  simp
theorem join_S : ∀ l : Ws, Str.join (S (cds ", ")) (l.map S) = S (jn l)
  | [] => rfl
  | [a] => by
    show S a = S (a ++ [])
    rw [List.append_nil]
  | a :: b :: l => by
    show S a ++ S (cds ", ") ++ Str.join (S (cds ", ")) ((b :: l).map S) = _
    rw [join_S (b :: l), S_app, S_app]
    congr 1
    show a ++ cds ", " ++ (b ++ l.flatMap fun b => cds ", " ++ b) = a ++ (b :: l).flatMap fun b => cds ", " ++ b
    rw [List.flatMap_cons]
    simp only [List.append_assoc]
theorem sum_le {l : Ws} {n : Nat} (h : ∀ x ∈ l, x.length ≤ n) : ((l.map S).map (·.length)).sum ≤ n * l.length := by
  induction l with
  | nil => exact Nat.zero_le _
  | cons a l ih =>
    have h1 := h a List.mem_cons_self
    have h2 := ih fun x hx => h x (List.mem_cons_of_mem _ hx)
    rw [List.map_cons, List.map_cons, List.sum_cons, List.length_cons]
    have : (S a).length = a.length := len_T a
    rw [this, Nat.mul_succ]
    omega
theorem w_join {K : PySem.W.Frag} {H : Hp} {Q : VK} {p : Addr} {l : Ws} (h : SqL K H p (l.map T)) (hl : l.length ≤ 1000) (h2 : ∀ x ∈ l, x.length ≤ 1000) (k : Q (T (jn l)) H) : rJoin K (T (cds ", ")) [.ref p] H Q := by
  refine ⟨S (cds ", "), p, l.map S, rfl, rfl, .inl (by rw [← map_T_S]; exact h), ?_, ?_⟩
  · have := sum_le h2
    rw [List.length_map]
    have e : (S (cds ", ")).length = 2 := by decide +kernel
    rw [e]
    omega
  · have e : Txt.join (S (cds ", ")) (l.map S) = Str.join (S (cds ", ")) (l.map S) := StrLaws.glued_eq_join _ _
    rw [e, join_S]
    exact k
end
section
open PySem PySem.Spec PyProof.Rows L2
/-- the tokens of a row and its end -/
def lts (cs : List Nat) (l : Ly) : List Tk := endTks cs (dueOf (lws l) (lps 0 l))
theorem due_append {a b : Ws} {p q : List Nat} (h : a.length = p.length) : dueOf (a ++ b) (p ++ q) = dueOf a p ++ dueOf b q := by
  unfold dueOf
  exact List.zipWith_append h
theorem seg_lts {cs : List Nat} {a b : Ly} : Seg (lts cs (a ++ b)) 0 (lws a) := by
  have h := seg_end (w := lws (a ++ b)) (ps := lps 0 (a ++ b)) (cs := cs) (lps_len _ _)
  rw [lws_append] at h
  have h2 := (seg_append.mp h).1
  rw [← lws_append] at h2
  exact h2
theorem seg_lts0 {cs : List Nat} {a : Ly} : Seg (lts cs a) 0 (lws a) := seg_end (lps_len _ _)
theorem tok_lts {cs : List Nat} {a b : Ly} {n : Nat} {t : List Nat} : (lts cs (a ++ (n, t) :: b))[(lws a).length]? = some ((tk t).1, (tk t).2, (lay a).length + n) := by
  unfold lts endTks
  rw [lws_append, lps_append, due_append (lps_len _ _).symm, List.append_assoc, List.getElem?_append_right (by rw [due_len (lps_len _ _)]; exact Nat.le_refl _), due_len (lps_len _ _), Nat.sub_self]
  show some ((tk t).1, (tk t).2, 0 + (lay a).length + n) = _
  rw [Nat.zero_add]
theorem end_lts {cs : List Nat} {a : Ly} : (lts cs a)[(lws a).length]? = some (cds "nothing", T [], cs.length) := nx_end (lps_len _ _)
theorem lws_len (l : Ly) : (lws l).length = l.length := List.length_map ..
/-- all tokens are read -/
theorem whole_done {g : List Tk → RS → Res RS Tr} {l : Ly} {cs : List Nat} {t : Tr} {sg : List Nat} {tw : Option (List Nat)} (h : g (lts cs l) ⟨0, [], none⟩ = .ok t ⟨(lws l).length, sg, tw⟩) : whole g cs (dueOf (lws l) (lps 0 l)) = .ok t ⟨(lws l).length + 1, sg, tw⟩ := by
  unfold whole
  show (g (lts cs l) _).bind _ = _
  rw [h, ok_bind]
  show (rTake (lts cs l) _ _).bind _ = _
  rw [take_ok end_lts, ok_bind]
/-- another token stands behind -/
theorem whole_over {g : List Tk → RS → Res RS Tr} {a b : Ly} {n : Nat} {x : List Nat} {cs : List Nat} {t : Tr} {sg : List Nat} {tw : Option (List Nat)} (h : g (lts cs (a ++ (n, x) :: b)) ⟨0, [], none⟩ = .ok t ⟨(lws a).length, sg, tw⟩) (hx : (tk x).1 ≠ cds "nothing") : whole g cs (dueOf (lws (a ++ (n, x) :: b)) (lps 0 (a ++ (n, x) :: b))) = .bad ((lay a).length + n) := by
  unfold whole
  show (g (lts cs (a ++ (n, x) :: b)) _).bind _ = _
  rw [h, ok_bind]
  obtain ⟨e, hl⟩ := tokN_of (tok_lts (cs := cs) (a := a) (b := b) (n := n) (t := x))
  have : rTake (lts cs (a ++ (n, x) :: b)) (cds "nothing") ⟨(lws a).length, sg, tw⟩ = .bad ((lay a).length + n) := by
    unfold rTake
    show (if (lws a).length < _ then (if (tokN _ (lws a).length).1 = _ then _ else rRefuse _ _) else _) = _
    rw [if_pos hl, e, if_neg hx]
    unfold rRefuse posN
    show (if (lws a).length < _ then Res.bad (tokN _ (lws a).length).2.2 else _) = _
    rw [if_pos hl, e]
  show (rTake (lts cs (a ++ (n, x) :: b)) (cds "nothing") ⟨(lws a).length, sg, tw⟩).bind _ = _
  rw [this]
  rfl
theorem comes_tree {g : List Tk → RS → Res RS Tr} {l : Ly} {t : Tr} {sg : List Nat} {cs : List Nat} (ok : LOk [] l) (e : lay l = cs) (h : g (lts cs l) ⟨0, [], none⟩ = .ok t ⟨(lws l).length, sg, none⟩) : Comes g cs (.tree t) :=
  ⟨_, _, _, by rw [← e]; exact lay_lex0 ok, by rw [whole_done h]⟩
theorem comes_twice {g : List Tk → RS → Res RS Tr} {l : Ly} {t : Tr} {sg : List Nat} {cs a : List Nat} (ha : a.length ≤ 100000) (ok : LOk [] l) (e : lay l = cs) (h : g (lts cs l) ⟨0, [], none⟩ = .ok t ⟨(lws l).length, sg, some a⟩) : Comes g cs (.twice a) :=
  ⟨ha, _, _, _, _, by rw [← e]; exact lay_lex0 ok, by rw [whole_done h]⟩
theorem comes_over {g : List Tk → RS → Res RS Tr} {a b : Ly} {n : Nat} {x : List Nat} {cs : List Nat} {t : Tr} {sg : List Nat} {tw : Option (List Nat)} (ok : LOk [] (a ++ (n, x) :: b)) (e : lay (a ++ (n, x) :: b) = cs) (h : g (lts cs (a ++ (n, x) :: b)) ⟨0, [], none⟩ = .ok t ⟨(lws a).length, sg, tw⟩) (hx : (tk x).1 ≠ cds "nothing") : Comes g cs (.wrong ((lay a).length + n)) :=
  ⟨_, by rw [← e]; exact lay_lex0 ok, whole_over h hx⟩
theorem comes_bad {g : List Tk → RS → Res RS Tr} {l : Ly} {cs : List Nat} {i : Nat} (ok : LOk [] l) (e : lay l = cs) (h : g (lts cs l) ⟨0, [], none⟩ = .bad i) : Comes g cs (.wrong i) := by
  refine ⟨_, by rw [← e]; exact lay_lex0 ok, ?_⟩
  unfold whole
  show (g (lts cs l) _).bind _ = _
  rw [h]
  rfl
abbrev gM : List Tk → RS → Res RS Tr := fun ts => gMethod ts (exN ts 14).2
abbrev gE : List Tk → RS → Res RS Tr := fun ts => (exN ts 14).1 1 2
/-! blocks with or without parameters -/
def pW (ps : Ws) : Ws := if ps = [] then [] else commas ps ++ [cds "|"]
def nW (ps : Ws) (ns : List Ws) : List Ws := if ps = [] then ns else ps :: ns
theorem ex_blk {h : Nat} {ps : Ws} {l : List Tr} {w : Ws} {ns : List Ws} (hl : ps.length ≤ 4) (hn : ∀ x ∈ ps, isNm x) (b : Bd h l w ns) : Ex 9 (h + 1) (.t [str "block", .t (ps.map Tr.s), .t l]) (cds "{" :: (pW ps ++ (w ++ [cds "}"]))) (nW ps ns) := by
  unfold pW nW
  by_cases h0 : ps = []
  · rw [if_pos h0, if_pos h0, h0]
    exact .blk0 b
  · rw [if_neg h0, if_neg h0, List.append_assoc]
    exact .blk h0 hl hn b
theorem note_nW {ps : Ws} {ns : List Ws} {t : Option (List Nat)} : noteAll (nW ps ns) t = noteAll (ps :: ns) t := by
  unfold nW
  by_cases h0 : ps = []
  · rw [if_pos h0, h0]
    rfl
  · rw [if_neg h0]
/-- a block's begin as it is written -/
def blL (g : Nat) (ps : Ws) : Ly := (g, cds "{") :: (if ps = [] then [] else cly 0 ps ++ [(1, cds "|")])
def blG (ps : Ws) : Nat := if ps = [] then 0 else 1
def opn (ps : Ws) : List Nat := if ps = [] then cds "{" else cds "{" ++ jn ps ++ cds " | "
theorem blL_ws (g : Nat) (ps : Ws) : lws (blL g ps) = cds "{" :: pW ps := by
  unfold blL pW
  by_cases h0 : ps = []
  · rw [if_pos h0, if_pos h0]; rfl
  · rw [if_neg h0, if_neg h0]
    show cds "{" :: lws (cly 0 ps ++ [(1, cds "|")]) = _
    rw [lws_append, cly_ws]
    rfl
theorem cly_lay0 (ps : Ws) : lay (cly 0 ps) = jn ps := by
  cases ps with
  | nil => rfl
  | cons a l => rw [cly_lay (List.cons_ne_nil _ _)]; rfl
theorem blL_lay (g : Nat) (ps : Ws) (t : List Nat) (l : Ly) : lay (blL g ps ++ (blG ps, t) :: l) = List.replicate g 32 ++ opn ps ++ t ++ lay l := by
  rw [lay_append]
  unfold blL blG opn
  by_cases h0 : ps = []
  · rw [if_pos h0, if_pos h0, if_pos h0]
    show (List.replicate g 32 ++ cds "{" ++ []) ++ ([] ++ t ++ lay l) = _
    simp only [List.append_nil, List.nil_append, List.append_assoc]
  · rw [if_neg h0, if_neg h0, if_neg h0]
    show (List.replicate g 32 ++ cds "{" ++ lay (cly 0 ps ++ [(1, cds "|")])) ++ ([32] ++ t ++ lay l) = _
    rw [lay_append, cly_lay0]
    have e : cds " | " = [32] ++ cds "|" ++ [32] := by decide +kernel
    rw [e]
    show (List.replicate g 32 ++ cds "{" ++ (jn ps ++ ([32] ++ cds "|" ++ []))) ++ ([32] ++ t ++ lay l) = _
    simp only [List.append_nil, List.append_assoc]
theorem blL_end {c : List Nat} {g : Nat} {ps : Ws} : lend c (blL g ps) = if ps = [] then cds "{" else cds "|" := by
  unfold blL
  by_cases h0 : ps = []
  · rw [if_pos h0, if_pos h0]; rfl
  · rw [if_neg h0, if_neg h0]
    show lend (cds "{") (cly 0 ps ++ [(1, cds "|")]) = _
    rw [lend_append]
    rfl
theorem blL_ok {c : List Nat} {g : Nat} {ps : Ws} (hg : touch c (cds "{") = true → 1 ≤ g) (hn : ∀ x ∈ ps, IsName x) : LOk c (blL g ps) := by
  refine ⟨wm_tok _ (by decide +kernel), hg, ?_⟩
  by_cases h0 : ps = []
  · rw [if_pos h0]; exact True.intro
  · rw [if_neg h0]
    refine lok_append.mpr ⟨cly_ok hn fun a r _ => touch_no (touch_ml (by decide +kernel) (by decide +kernel)), wm_tok _ (by decide +kernel), fun _ => Nat.le_refl _, True.intro⟩
theorem blL_next {ps : Ws} {t : List Nat} {l : Ly} {c : List Nat} {g : Nat} (ht : t ∈ MLs) (h : LOk t l) : LOk (lend c (blL g ps)) ((blG ps, t) :: l) := by
  refine ⟨wm_tok _ ?_, ?_, h⟩
  · have : ∀ m ∈ MLs, m ∈ WM := by decide +kernel
    exact this t ht
  · rw [blL_end]
    refine touch_no (touch_mr ?_ ht)
    split <;> decide +kernel
end
section
open PySem PySem.Spec PyProof.Rows L2
theorem lay_cons (n : Nat) (t : List Nat) (l : Ly) : lay ((n, t) :: l) = List.replicate n 32 ++ t ++ lay l := rfl
theorem lay_nil : lay [] = [] := rfl
theorem lws_cons (n : Nat) (t : List Nat) (l : Ly) : lws ((n, t) :: l) = t :: lws l := rfl
theorem lws_nil : lws [] = [] := rfl
/-- a block's begin without the space behind it -/
def opn0 (ps : Ws) : List Nat := if ps = [] then cds "{" else cds "{" ++ jn ps ++ cds " |"
theorem opn_eq (ps : Ws) : opn ps = opn0 ps ++ List.replicate (blG ps) 32 := by
  unfold opn opn0 blG
  split
  · rfl
  · have e : cds " | " = cds " |" ++ [32] := by decide +kernel
    rw [e]
    simp only [List.append_assoc]
    rfl
theorem blL_lay' (g : Nat) (ps : Ws) : lay (blL g ps) = List.replicate g 32 ++ opn0 ps := by
  unfold blL opn0
  split
  · show List.replicate g 32 ++ cds "{" ++ [] = _
    rw [List.append_nil]
  · show List.replicate g 32 ++ cds "{" ++ lay (cly 0 ps ++ [(1, cds "|")]) = _
    rw [lay_append, cly_lay0]
    have e : cds " |" = [32] ++ cds "|" := by decide +kernel
    rw [e]
    show List.replicate g 32 ++ cds "{" ++ (jn ps ++ ([32] ++ cds "|" ++ [])) = _
    simp only [List.append_nil, List.append_assoc]
theorem cly_lend_ne {c : List Nat} {g : Nat} {l : Ws} (hc : c ≠ [60]) (h : ∀ x ∈ l, IsName x) : lend c (cly g l) ≠ [60] := by
  by_cases h0 : l = []
  · subst h0; exact hc
  · exact name_ne (h _ (cly_end h0))
def vL (two : Ws) : Ly := if two = [] then [] else (1, cds "var") :: (cly 1 two ++ [(0, cds ";")])
theorem vL_ok {c : List Nat} {two : Ws} (h : ∀ x ∈ two, IsName x) : LOk c (vL two) := by
  unfold vL
  split
  · exact True.intro
  · exact ⟨wm_tok _ (by decide +kernel), fun _ => Nat.le_refl _, lok_append.mpr ⟨cly_ok h fun _ _ _ _ => Nat.le_refl _, wm_tok _ (by decide +kernel), touch_no (touch_mr (cly_lend_ne (by decide +kernel) h) (by decide +kernel)), True.intro⟩⟩
theorem vL_ws (two : Ws) : lws (vL two) = vWs two := by
  unfold vL vWs
  split
  · rfl
  · show cds "var" :: lws (cly 1 two ++ [(0, cds ";")]) = _
    rw [lws_append, cly_ws]
    rfl
def vT (two : Ws) : List Nat := if two = [] then [] else cds " var " ++ jn two ++ cds ";"
theorem vL_lay (two : Ws) : lay (vL two) = vT two := by
  unfold vL vT
  split
  · rfl
  · rename_i h0
    show [32] ++ cds "var" ++ lay (cly 1 two ++ [(0, cds ";")]) = _
    rw [lay_append, cly_lay h0]
    have e : cds " var " = [32] ++ cds "var" ++ [32] := by decide +kernel
    rw [e]
    show [32] ++ cds "var" ++ ([32] ++ jn two ++ ([] ++ cds ";" ++ [])) = _
    simp only [List.append_nil, List.nil_append, List.append_assoc]
def ly10 (n : List Nat) (one two three four five : Ws) : Ly :=
  (0, cds "method") :: (1, n) :: (0, cds "(") :: (cly 0 one ++ (0, cds ")") :: (vL two ++ (1, cds "x") :: (1, cds ":=") :: (blL 1 three ++ (blL (blG three) four ++ (blG four, cds "}") :: (0, cds "}") :: (0, cds ";") :: (blL 1 five ++ [(blG five, cds "}"), (1, cds "end")])))))
def tx10a (n : List Nat) (one : Ws) : List Nat := cds "method " ++ n ++ cds "(" ++ jn one ++ cds ")"
def tx10 (t : List Nat) (three four five : Ws) : List Nat := t ++ cds " x := " ++ opn three ++ opn four ++ cds "}}; " ++ opn five ++ cds "} end"
theorem ly10_lay (n : List Nat) (one two three four five : Ws) : lay (ly10 n one two three four five) = tx10 (tx10a n one ++ vT two) three four five := by
  unfold ly10 tx10 tx10a
  have e1 : cds "method " = cds "method" ++ [32] := by decide +kernel
  have e2 : cds " x := " = [32] ++ cds "x" ++ [32] ++ cds ":=" ++ [32] := by decide +kernel
  have e3 : cds "}}; " = cds "}" ++ cds "}" ++ cds ";" ++ [32] := by decide +kernel
  have e4 : cds "} end" = cds "}" ++ [32] ++ cds "end" := by decide +kernel
  have r0 : List.replicate 0 32 = ([] : List Nat) := rfl
  have r1 : List.replicate 1 32 = ([32] : List Nat) := rfl
  simp only [lay_cons, lay_append, lay_nil, blL_lay', cly_lay0, vL_lay, opn_eq, e1, e2, e3, e4, r0, r1, List.append_assoc, List.nil_append, List.append_nil]
def W10 (three four five : Ws) : Ws := (cds "x" :: cds ":=" :: (cds "{" :: (pW three ++ ((cds "{" :: (pW four ++ ([] ++ [cds "}"])) ++ []) ++ [cds "}"])))) ++ (cds ";" :: ((cds "{" :: (pW five ++ ([] ++ [cds "}"]))) ++ []))
theorem ly10_ws (n : List Nat) (one two three four five : Ws) : lws (ly10 n one two three four five) = mWs n one two (W10 three four five) := by
  unfold ly10 mWs W10
  simp only [lws_cons, lws_append, lws_nil, blL_ws, cly_ws, vL_ws, List.append_assoc, List.cons_append, List.nil_append, List.append_nil]
theorem x_name : IsName (cds "x") := ⟨⟨120, [], by decide +kernel, by decide +kernel, (fun d hd => absurd hd List.not_mem_nil), by decide⟩, by decide +kernel⟩
theorem ly10_ok {n : List Nat} {one two three four five : Ws} (hn : IsName n) (h1 : ∀ x ∈ one, IsName x) (h2 : ∀ x ∈ two, IsName x) (h3 : ∀ x ∈ three, IsName x) (h4 : ∀ x ∈ four, IsName x) (h5 : ∀ x ∈ five, IsName x) : LOk [] (ly10 n one two three four five) := by
  unfold ly10
  refine ⟨wm_tok _ (by decide +kernel), touch_no (touch_nil _), name_tok hn, fun _ => Nat.le_refl _, wm_tok _ (by decide +kernel), touch_no (touch_mr (name_ne hn) (by decide +kernel)), ?_⟩
  refine lok_append.mpr ⟨cly_ok h1 fun _ _ _ => touch_no (touch_ml (by decide +kernel) (by decide +kernel)), wm_tok _ (by decide +kernel), touch_no (touch_mr (cly_lend_ne (by decide +kernel) h1) (by decide +kernel)), ?_⟩
  refine lok_append.mpr ⟨vL_ok h2, name_tok x_name, fun _ => Nat.le_refl _, wm_tok _ (by decide +kernel), fun _ => Nat.le_refl _, ?_⟩
  refine lok_append.mpr ⟨blL_ok (fun _ => Nat.le_refl _) h3, ?_⟩
  have q : LOk (lend (cds ":=") (blL 1 three)) (blL (blG three) four) := by
    refine blL_ok ?_ h4
    rw [blL_end]
    refine touch_no (touch_mr ?_ (by decide +kernel))
    split <;> decide +kernel
  refine lok_append.mpr ⟨q, ?_⟩
  refine blL_next (by decide +kernel) ⟨wm_tok _ (by decide +kernel), touch_no (touch_mr (by decide +kernel) (by decide +kernel)), wm_tok _ (by decide +kernel), touch_no (touch_mr (by decide +kernel) (by decide +kernel)), ?_⟩
  refine lok_append.mpr ⟨blL_ok (fun _ => Nat.le_refl _) h5, ?_⟩
  exact blL_next (by decide +kernel) ⟨wm_tok _ (by decide +kernel), fun _ => Nat.le_refl _, True.intro⟩
/-- a block without statements -/
def bkT (ps : Ws) (l : List Tr) : Tr := .t [str "block", .t (ps.map Tr.s), .t l]
def bd10 (three four five : Ws) : List Tr := [.t [str "set", .s (cds "x"), bkT three [.t [str "eval", bkT four []]]], .t [str "eval", bkT five []]]
theorem bd10_bd {three four five : Ws} (h3 : ∀ x ∈ three, IsName x) (h4 : ∀ x ∈ four, IsName x) (h5 : ∀ x ∈ five, IsName x) (l3 : three.length ≤ 4) (l4 : four.length ≤ 4) (l5 : five.length ≤ 4) :
    Bd 12 (bd10 three four five) (W10 three four five) ((nW three ((nW four []) ++ [])) ++ ((nW five []) ++ [])) := by
  have b0 : ∀ h, Bd h [] [] [] := fun _ => .nil
  have c4 := ex_blk (h := 8) l4 (fun x hx => name_nm (h4 x hx)) (b0 8)
  have c3 := ex_blk (h := 10) l3 (fun x hx => name_nm (h3 x hx)) (.cons (.eval (by decide) c4) .nil)
  have c5 := ex_blk (h := 10) l5 (fun x hx => name_nm (h5 x hx)) (b0 10)
  exact .cons (.set (name_nm x_name) (by decide) c3) (.cons (.eval (by decide) c5) .nil)
theorem pW_len {ps : Ws} : (pW ps).length ≤ 2 * ps.length := by
  unfold pW
  split
  · exact Nat.zero_le _
  · rename_i h
    have := commas_len h
    rw [List.length_append]
    show _ + 1 ≤ _
    omega
theorem trd_i {n : Nat} {x : Int} : TrD (n + 1) (.i x) := True.intro
theorem meth_dep2 {a : List Nat} {p v w : Ws} {l : List Tr} {ns : List Ws} (hp8 : p.length ≤ 8) (hv8 : v.length ≤ 8) (b : Bd 12 l w ns) (hl : w.length ≤ 199000) : TrD 29 (mTr a p v l) := by
  have := bd_dep (all_dep 12).2 b (by omega)
  exact trd_mono (n := 27) (trd_t (by show 5 < 1000000; decide) (trd_cons trd_s (trd_cons trd_s (trd_cons (trd_mono (n := 2) (trd_names (n := 0) (by omega)) (by omega)) (trd_cons (trd_mono (n := 2) (trd_names (n := 0) (by omega)) (by omega)) (trd_cons this trd_nil)))))) (by decide)
theorem W10_len {three four five : Ws} (l3 : three.length ≤ 4) (l4 : four.length ≤ 4) (l5 : five.length ≤ 4) : (W10 three four five).length ≤ 199000 := by
  have q3 := pW_len (ps := three)
  have q4 := pW_len (ps := four)
  have q5 := pW_len (ps := five)
  unfold W10
  simp only [List.length_cons, List.length_append, List.length_nil]
  omega
theorem note10 {three four five : Ws} {t : Option (List Nat)} : noteAll ((nW three ((nW four []) ++ [])) ++ ((nW five []) ++ [])) t = noteAll [three, four, five] t := by
  rw [List.append_nil, List.append_nil, noteAll_append, note_nW, note_nW]
  show noteAll [five] (noteAll (nW four []) (twGo three t three.length)) = _
  rw [note_nW]
  rfl
/-- the reading of such a text -/
theorem read10 {n : List Nat} {one two three four five : Ws} {ts : List Tk} (hn : IsName n) (h1 : ∀ x ∈ one, IsName x) (h2 : ∀ x ∈ two, IsName x) (h3 : ∀ x ∈ three, IsName x) (h4 : ∀ x ∈ four, IsName x) (h5 : ∀ x ∈ five, IsName x)
    (l1 : one.length ≤ 8) (l2 : two.length ≤ 8) (l3 : three.length ≤ 4) (l4 : four.length ≤ 4) (l5 : five.length ≤ 4) (hs : Seg ts 0 (lws (ly10 n one two three four five))) :
    ∃ sg, gM ts ⟨0, [], none⟩ = .ok (mTr n one two (bd10 three four five)) ⟨(lws (ly10 n one two three four five)).length, sg, noteAll [one ++ two, three, four, five] none⟩ := by
  rw [ly10_ws] at hs ⊢
  have hw : (W10 three four five).length ≤ 199000 := by
    have q3 := pW_len (ps := three)
    have q4 := pW_len (ps := four)
    have q5 := pW_len (ps := five)
    unfold W10
    simp only [List.length_cons, List.length_append, List.length_nil]
    omega
  obtain ⟨sg, h⟩ := meth_done (ts := ts) (tw := none) (name_nm hn) (fun x hx => name_nm (h1 x hx)) l1 (fun x hx => name_nm (h2 x hx)) l2 (bd10_bd h3 h4 h5 l3 l4 l5) hs hw
  refine ⟨sg, ?_⟩
  show gMethod ts (exN ts 14).2 ⟨0, [], none⟩ = _
  rw [h]
  show Res.ok _ (RS.mk _ _ (noteAll _ (twGo (one ++ two) none (one ++ two).length))) = _
  rw [note10]
  rfl
theorem nm_len {a : List Nat} (h : IsName a) : a.length ≤ 20 := h.1.len
theorem opn_len {ps : Ws} (h : ∀ x ∈ ps, IsName x) (l : ps.length ≤ 4) : (opn ps).length ≤ 100 := by
  have := jn_len fun x hx => nm_len (h x hx)
  unfold opn
  split
  · decide +kernel
  · have e1 : (cds "{").length = 1 := by decide +kernel
    have e2 : (cds " | ").length = 3 := by decide +kernel
    rw [List.length_append, List.length_append, e1, e2]
    omega
theorem len10 {n : List Nat} {one two three four five : Ws} (hn : IsName n) (h1 : ∀ x ∈ one, IsName x) (h2 : ∀ x ∈ two, IsName x) (h3 : ∀ x ∈ three, IsName x) (h4 : ∀ x ∈ four, IsName x) (h5 : ∀ x ∈ five, IsName x)
    (l1 : one.length ≤ 8) (l2 : two.length ≤ 8) (l3 : three.length ≤ 4) (l4 : four.length ≤ 4) (l5 : five.length ≤ 4) : (jn one).length ≤ 176 ∧ (jn two).length ≤ 176 ∧ (tx10a n one).length ≤ 300 ∧ (vT two).length ≤ 200 ∧ (opn three).length ≤ 100 ∧ (opn four).length ≤ 100 ∧ (opn five).length ≤ 100 := by
  have q1 := jn_len fun x hx => nm_len (h1 x hx)
  have q2 := jn_len fun x hx => nm_len (h2 x hx)
  have q0 := nm_len hn
  refine ⟨by omega, by omega, ?_, ?_, opn_len h3 l3, opn_len h4 l4, opn_len h5 l5⟩
  · unfold tx10a
    have e1 : (cds "method ").length = 7 := by decide +kernel
    have e2 : (cds "(").length = 1 := by decide +kernel
    have e3 : (cds ")").length = 1 := by decide +kernel
    simp only [List.length_append, e1, e2, e3]
    omega
  · unfold vT
    split
    · exact Nat.zero_le _
    · have e1 : (cds " var ").length = 5 := by decide +kernel
      have e2 : (cds ";").length = 1 := by decide +kernel
      simp only [List.length_append, e1, e2]
      omega
/-! the name that occurs twice first -/
theorem twGo_some {l : Ws} {a : List Nat} : ∀ i, twGo l (some a) i = some a
  | 0 => rfl
  | i + 1 => by
    show (if twGo l (some a) i = none ∧ _ then _ else twGo l (some a) i) = _
    rw [twGo_some i, if_neg (fun h => by cases h.1)]
theorem twGo_keep {l : Ws} {a : List Nat} {i : Nat} (h : twGo l none i = some a) : ∀ j, twGo l none (i + j) = some a
  | 0 => h
  | j + 1 => by
    show (if twGo l none (i + j) = none ∧ _ then _ else twGo l none (i + j)) = _
    have k := twGo_keep h j
    rw [if_neg (fun z => by rw [k] at z; cases z.1)]
    exact k
theorem noteAll_some {a : List Nat} : ∀ ls : List Ws, noteAll ls (some a) = some a
  | [] => rfl
  | l :: ls => by
    show noteAll ls (twGo l (some a) l.length) = _
    rw [twGo_some, noteAll_some ls]
theorem twGo_mem {l : Ws} {a : List Nat} : ∀ {i : Nat}, i ≤ l.length → twGo l none i = some a → a ∈ l
  | 0, _, h => by cases h
  | i + 1, hi, h => by
    have h' : (if twGo l none i = none ∧ l.getD i [] ∈ l.take i then some (l.getD i []) else twGo l none i) = some a := h
    split at h'
    · cases h'
      rw [List.getD_eq_getElem?_getD, List.getElem?_eq_getElem (by omega)]
      exact List.getElem_mem _
    · exact twGo_mem (by omega) h'
theorem noteAll_mem {a : List Nat} : ∀ {ls : List Ws}, noteAll ls none = some a → ∃ l ∈ ls, a ∈ l
  | [], h => by cases h
  | l :: ls, h => by
    have h' : noteAll ls (twGo l none l.length) = some a := h
    cases e : twGo l none l.length with
    | none =>
      rw [e] at h'
      obtain ⟨k, h1, h2⟩ := noteAll_mem h'
      exact ⟨k, List.mem_cons_of_mem _ h1, h2⟩
    | some b =>
      rw [e, noteAll_some] at h'
      cases h'
      exact ⟨l, List.mem_cons_self, twGo_mem (Nat.le_refl _) e⟩
end
section
open PySem PySem.Spec PyProof.Rows L2
/-- the list of texts that stands at q -/
def Tl (H : Hp) (q : Addr) (w : Ws) : Prop := H q = some (.lst (w.map T))
theorem Tl.fr {H H1 : Hp} {S q : Addr} {w : Ws} (f : Fr S H H1) (n : q ≠ S) (a : Tl H q w) : Tl H1 q w := f _ _ n a
theorem Tl.same {H H1 : Hp} {q : Addr} {w : Ws} (h : Tl H q w) (s : Same H H1) : Tl H1 q w := s _ _ h
theorem Tl.ne {H : Hp} {q D : Addr} {w : Ws} (h : Tl H q w) (hD : H D = none) : q ≠ D := fun e => by
  unfold Tl at h
  rw [e, hD] at h
  cases h
theorem tl_cat {H : Hp} {Q : VK} {p q : Addr} {u v : Ws} (hp : Tl H p u) (hq : Tl H q v) (z : u.length + v.length ≤ 1000000) (k : ∀ a H1, H a = none → Same H H1 → Tl H1 a (u ++ v) → Q (.ref a) H1) : rCat (.ref p) (.ref q) H Q :=
  w_cat2 hp hq (by rw [List.length_map, List.length_map]; exact z) fun a H1 h0 s h1 => k a H1 h0 s (by unfold Tl; rw [h1, List.map_append])
theorem tl_new {H : Hp} {Q : VK} {u : Ws} {xs : List V} (e : xs = u.map T) (z : xs.length ≤ 1000000) (k : ∀ p H1, H p = none → Same H H1 → Tl H1 p u → Q (.ref p) H1) : NewL xs H Q :=
  w_newL z fun p H1 h0 s h1 => k p H1 h0 s (by unfold Tl; rw [h1, e])
theorem cut_take (xs : List V) (n : Nat) : cutV xs none (some (n : Int)) = xs.take n := by
  unfold cutV
  rw [HT.sIx_none, HT.sIx_nat, List.drop_zero, Nat.sub_zero]
  exact List.take_eq_take_iff.mpr (by omega)
theorem tl_to {K : PySem.W.Frag} {H : Hp} {Q : VK} {q : Addr} {w : Ws} {n : Nat} (h : Tl H q w) (k : ∀ p H1, H p = none → Same H H1 → Tl H1 p (w.take n) → Q (.ref p) H1) : rSlL K (.ref q) none (some (n : Int)) H Q :=
  ⟨q, _, rfl, SqL.of h, fun p hp => k p _ hp (same_new hp) (by unfold Tl; rw [upd_same, cut_take, List.map_take])⟩
theorem tl_at {K : PySem.W.Frag} {H : Hp} {Q : VK} {q : Addr} {w : Ws} {n : Nat} (h : Tl H q w) (hn : n < w.length) (k : Q (T w[n]) H) : rIxL K (.ref q) (.int (n : Int)) H Q :=
  w_ixL (SqL.of h) (atI_nat (by rw [List.getElem?_map, List.getElem?_eq_getElem hn]; rfl)) k
theorem tl_in {K : PySem.W.Frag} {H : Hp} {Q : VK} {q : Addr} {w : Ws} {a : List Nat} (h : Tl H q w) (k : Q (.bl (decide (a ∈ w))) H) : rIn K false (T a) (.ref q) H Q := w_inL (SqL.of h) k
theorem tl_nin {K : PySem.W.Frag} {H : Hp} {Q : VK} {q : Addr} {w : Ws} {a : List Nat} (h : Tl H q w) (k : Q (.bl (!decide (a ∈ w))) H) : rIn K true (T a) (.ref q) H Q := w_ninL (SqL.of h) k
theorem map_ne {w : Ws} (h : w.map T ≠ []) : w ≠ [] := fun e => h (by rw [e]; rfl)
theorem map_nil {w : Ws} (h : w.map T = []) : w = [] := List.map_eq_nil_iff.mp h
end
section
open PySem PySem.Spec PyProof.Rows L2
open TL (numL tl_num numL_digits numL_ne numL_val numL_len numL_lt numL_step)
theorem w_strN {H : Hp} {Q : VK} {n : Nat} (hn : n ≤ 1000000000000) (k : Q (T (numL n)) H) : rStrI [.int (n : Int)] H Q := by
  refine ⟨(n : Int), rfl, ?_, ?_⟩
  · rw [Int.natAbs_natCast]
    by_cases h0 : n = 0
    · subst h0; decide
    · exact Nat.lt_trans ((Nat.log2_lt h0).mpr (show n < 2 ^ 41 by omega)) (by decide)
  · have e : V.str (toString (n : Int)) = T (numL n) := by rw [T_eta]; exact congrArg T (tl_num n)
    rw [e]
    exact k
theorem w_intN {H : Hp} {Q : VK} {n : Nat} (hn : n ≤ 1000000000) (k : Q (.int (n : Int)) H) : rIntS [T (numL n)] H Q := by
  have hl : (numL n).length ≤ 10 := numL_len (by decide) (by omega)
  refine w_intS (n := (n : Int)) ?_ (by omega) k
  have h := PySem.intText_digits (x := ⟨(numL n).toArray⟩) (fun d hd => numL_digits n d hd) (numL_ne n) (by rw [len_T]; omega)
  rw [h]
  show some ((NumText.digitsVal (numL n) : Nat) : Int) = some (n : Int)
  rw [numL_val]
def rMin2 : List V → Hp → VK → Prop := fun xs H Q => ∃ i j, xs = [.int i, .int j] ∧ Q (.int (if j < i then j else i)) H
theorem call_minI {X : Cx} (hc : X.calm = true) : CallR X (.builtin "min") rMin2 := call_min2 hc
theorem w_min {H : Hp} {Q : VK} {a b : Int} (k : Q (.int (if b < a then b else a)) H) : rMin2 [.int a, .int b] H Q := ⟨a, b, rfl, k⟩
/-- a place, or None -/
def optV : Option Nat → V
  | none => .non
  | some i => .int (i : Int)
end
section
/-! Trees as data: equal to themselves. Sorted lists of texts: one for each set of items. -/
open PySem PySem.Spec PyProof.Rows L2
namespace Dq
mutual
def dOf : Tr → PyData
  | .s a => .str ⟨a.toArray⟩
  | .i i => .int i
  | .b b => .bool b
  | .n => .none
  | .t l => .tuple (dOfs l)
def dOfs : List Tr → List PyData
  | [] => []
  | t :: l => dOf t :: dOfs l
end
mutual
theorem dp_of {K : PySem.W.Frag} {H : Hp} : ∀ {v : V} {t : Tr}, TrAt K H v t → Dp K H v (dOf t)
  | _, _, .s => by unfold dOf; exact .str _
  | _, _, .i => by unfold dOf; exact .int _
  | _, _, .b => by unfold dOf; exact .bl _
  | _, _, .n => by unfold dOf; exact .non
  | _, _, .t h r => by unfold dOf; exact .tup h (dps_of r)
theorem dps_of {K : PySem.W.Frag} {H : Hp} : ∀ {vs : List V} {l : List Tr}, TrsAt K H vs l → DpAll K H vs (dOfs l)
  | _, _, .nil => by unfold dOfs; exact .nil
  | _, _, .cons h r => by unfold dOfs; exact .cons (dp_of h) (dps_of r)
end
end Dq
open Dq
/-- a text that can be laid out -/
def okW (a : List Nat) : Prop := ∀ c ∈ a, c < 128
/-- a tree of texts, at most n deep -/
def TrG : Nat → Tr → Prop
  | _, .s a => okW a
  | 0, .t _ => False
  | n + 1, .t l => ∀ t ∈ l, TrG n t
  | _, _ => True
theorem okW_lay {a : List Nat} (h : okW a) : (PyData.str ⟨a.toArray⟩).canLay0 = true := by
  show (a.toArray.all fun c => decide (c < 0x110000)) = true
  rw [List.all_toArray, List.all_eq_true]
  intro c hc
  have := h c hc
  exact decide_eq_true (by omega)
theorem trgs_ok {n : Nat} (ih : ∀ t, TrG n t → (dOf t).canLay0 = true ∧ (dOf t).depth ≤ n) : ∀ l : List Tr, (∀ t ∈ l, TrG n t) → PyData.canLayAll0 (dOfs l) = true ∧ PyData.depthAll (dOfs l) ≤ n
  | [], _ => by unfold dOfs; exact ⟨rfl, Nat.zero_le _⟩
  | t :: l, h => by
    obtain ⟨a1, a2⟩ := ih t (h t List.mem_cons_self)
    obtain ⟨b1, b2⟩ := trgs_ok ih l fun x hx => h x (List.mem_cons_of_mem _ hx)
    unfold dOfs
    refine ⟨?_, ?_⟩
    · show ((dOf t).canLay0 && PyData.canLayAll0 (dOfs l)) = true
      rw [a1, b1]; rfl
    · show max (dOf t).depth (PyData.depthAll (dOfs l)) ≤ n
      exact Nat.max_le.mpr ⟨a2, b2⟩
theorem trg_ok : ∀ (n : Nat) (t : Tr), TrG n t → (dOf t).canLay0 = true ∧ (dOf t).depth ≤ n
  | n, .s a, h => by
    have h : okW a := by cases n <;> exact h
    unfold dOf; exact ⟨okW_lay h, Nat.zero_le _⟩
  | n, .i _, _ => by unfold dOf; exact ⟨rfl, Nat.zero_le _⟩
  | n, .b _, _ => by unfold dOf; exact ⟨rfl, Nat.zero_le _⟩
  | n, .n, _ => by unfold dOf; exact ⟨rfl, Nat.zero_le _⟩
  | 0, .t _, h => h.elim
  | n + 1, .t l, h => by
    have := trgs_ok (trg_ok n) l h
    unfold dOf
    exact ⟨this.1, Nat.succ_le_succ this.2⟩
theorem trg_lst {n : Nat} {l : List Tr} (h : ∀ t ∈ l, TrG n t) (hn : n < 64) : SeqAt.shaped (.list (dOfs l)) = true ∧ SeqAt.shaped (.tuple (dOfs l)) = true := by
  obtain ⟨a, b⟩ := trgs_ok (trg_ok n) l h
  unfold SeqAt.shaped
  rw [Bool.and_eq_true, Bool.and_eq_true, decide_eq_true_eq, decide_eq_true_eq]
  exact ⟨⟨a, show PyData.depthAll (dOfs l) + 1 ≤ 64 by omega⟩, a, show PyData.depthAll (dOfs l) + 1 ≤ 64 by omega⟩
theorem trg_sh {n : Nat} {t : Tr} (h : TrG n t) (hn : n ≤ 64) : SeqAt.shaped (dOf t) = true := by
  obtain ⟨a, b⟩ := trg_ok n t h
  unfold SeqAt.shaped
  rw [Bool.and_eq_true, decide_eq_true_eq]
  exact ⟨a, by omega⟩
theorem sh_lay {d : PyData} (h : SeqAt.shaped d = true) : PyData.eqv d d = true := by
  unfold SeqAt.shaped at h
  exact PySem.SeqAt.eqv_refl d (Bool.and_eq_true_iff.mp h).1
section
variable {K : PySem.W.Frag} {H : Hp} {Q : VK}
/-- two lists of the same data are not unequal -/
theorem neD_lst {a b : Addr} {us vs : List V} {l : List Tr} {n : Nat} (ha : SqL K H a us) (hu : TrsAt K H us l) (hb : SqL K H b vs) (hv : TrsAt K H vs l) (h : ∀ t ∈ l, TrG n t) (hn : n < 64) (k : Q (.bl false) H) : rNeD K (.ref a) (.ref b) H Q := by
  have s := (trg_lst h hn).1
  exact ⟨_, _, .lst ha (dps_of hu), .lst hb (dps_of hv), s, s, by rw [sh_lay s]; exact k⟩
theorem neD_tup {a b : Addr} {us vs : List V} {l : List Tr} {n : Nat} (ha : SqT K H a us) (hu : TrsAt K H us l) (hb : SqT K H b vs) (hv : TrsAt K H vs l) (h : ∀ t ∈ l, TrG n t) (hn : n < 64) (k : Q (.bl false) H) : rNeD K (.ref a) (.ref b) H Q := by
  have s := (trg_lst h hn).2
  exact ⟨_, _, .tup ha (dps_of hu), .tup hb (dps_of hv), s, s, by rw [sh_lay s]; exact k⟩
theorem neD_at {x y : V} {t : Tr} {n : Nat} (hx : TrAt K H x t) (hy : TrAt K H y t) (h : TrG n t) (hn : n ≤ 64) (k : Q (.bl false) H) : rNeD K x y H Q := by
  have s := trg_sh h hn
  exact ⟨_, _, dp_of hx, dp_of hy, s, s, by rw [sh_lay s]; exact k⟩
theorem txs_at : ∀ {l : List (List Nat)}, (∀ a ∈ l, okW a) → ∀ t ∈ l.map Tr.s, TrG 0 t := fun {l} h t ht => by
  obtain ⟨a, ha, rfl⟩ := List.mem_map.mp ht
  exact h a ha
end
/-! ### sorted -/
theorem ltCps_iff : ∀ a b : List Nat, ltCps a b = true ↔ a < b
  | [], [] => by simp [ltCps]
  | [], _ :: _ => by simp [ltCps]
  | _ :: _, [] => by simp [ltCps]
  | a :: r, b :: t => by
    unfold ltCps
    rw [List.cons_lt_cons_iff, Bool.or_eq_true, Bool.and_eq_true, decide_eq_true_eq, beq_iff_eq, ltCps_iff r t]
theorem rising_pw : ∀ {l : List Str} {p : Str}, risingS p l = true → (p :: l).Pairwise fun a b => a.cps.toList ≤ b.cps.toList
  | [], p, _ => by simp
  | x :: r, p, h => by
    have h : (!ltCps x.cps.toList p.cps.toList && risingS x r) = true := h
    rw [Bool.and_eq_true, Bool.not_eq_true'] at h
    have ih := rising_pw h.2
    have hle : p.cps.toList ≤ x.cps.toList := List.not_lt.mp fun z => by
      rw [(ltCps_iff _ _).mpr z] at h; exact absurd h.1 (by simp)
    refine List.pairwise_cons.mpr ⟨fun y hy => ?_, ih⟩
    rcases List.mem_cons.mp hy with rfl | hy
    · exact hle
    · exact List.le_trans hle ((List.pairwise_cons.mp ih).1 y hy)
theorem sorted_pw {l : List Str} (h : sortedS l = true) : l.Pairwise fun a b => a.cps.toList ≤ b.cps.toList := by
  cases l with
  | nil => exact .nil
  | cons x r => exact rising_pw h
/-- one sorted order -/
theorem sorted_one {ys zs : List (List Nat)} (h1 : sortedS (ys.map S) = true) (h2 : sortedS (zs.map S) = true) (p : ys.Perm zs) : ys = zs := by
  refine List.Perm.eq_of_pairwise (le := fun a b : List Nat => a ≤ b) (fun a b _ _ x y => List.le_antisymm x y) ?_ ?_ p
  · have := sorted_pw h1
    rw [List.pairwise_map] at this
    exact this.imp fun {a b} q => (show a.toArray.toList ≤ b.toArray.toList from q)
  · have := sorted_pw h2
    rw [List.pairwise_map] at this
    exact this.imp fun {a b} q => (show a.toArray.toList ≤ b.toArray.toList from q)
end
section
/-! Names made until one is free; told changes compared. -/
open PySem PySem.Spec PyProof.Rows L2
open TL (numL tl_num numL_digits numL_ne numL_val numL_len numL_lt numL_step)
/-- a name that ends with Z and a number -/
def endZ (k : Nat) (v : List Nat) : Prop := ∃ p, v = p ++ 90 :: numL k
theorem ends_all : ((List.range 30).all fun k => (List.range 30).all fun j => !((90 :: numL k).reverse.isPrefixOf (90 :: numL j).reverse) || k == j) = true := by decide +kernel
theorem ends_one {k j : Nat} (hk : k < 30) (hj : j < 30) (h : (90 :: numL k).reverse <+: (90 :: numL j).reverse) : k = j := by
  have h1 := List.all_eq_true.mp (List.all_eq_true.mp ends_all k (List.mem_range.mpr hk)) j (List.mem_range.mpr hj)
  rw [List.isPrefixOf_iff_prefix.mpr h] at h1
  simpa using h1
theorem endZ_one {k j : Nat} {v : List Nat} (hk : k < 30) (hj : j < 30) (a : endZ k v) (b : endZ j v) : k = j := by
  obtain ⟨p, rfl⟩ := a
  obtain ⟨q, e⟩ := b
  have e2 := congrArg List.reverse e
  rw [List.reverse_append, List.reverse_append] at e2
  have p1 : (90 :: numL k).reverse <+: (90 :: numL k).reverse ++ p.reverse := List.prefix_append ..
  have p2 : (90 :: numL j).reverse <+: (90 :: numL k).reverse ++ p.reverse := by rw [e2]; exact List.prefix_append ..
  rcases Nat.le_total (90 :: numL k).reverse.length (90 :: numL j).reverse.length with l | l
  · exact ends_one hk hj (List.prefix_of_prefix_length_le p1 p2 l)
  · exact (ends_one hj hk (List.prefix_of_prefix_length_le p2 p1 l)).symm
/-- behind i turns the name is free, or the names before it were all taken -/
def CndOk (ys : List (List Nat)) (i : Nat) (a : List Nat) : Prop := a ∉ ys ∨ i = 0 ∨ ∃ vis : List (List Nat), vis.length + 1 = i ∧ vis.Nodup ∧ (∀ v ∈ vis, v ∈ ys ∧ ∃ k, k + 1 < i ∧ endZ k v) ∧ endZ (i - 1) a
theorem CndOk.step {ys : List (List Nat)} {i : Nat} {a : List Nat} (h : CndOk ys i a) (hi : i < 30) (ha : a ∈ ys) : CndOk ys (i + 1) (a.take 16 ++ 90 :: numL i) := by
  rcases h with h | rfl | ⟨vis, e, nd, hv, ez⟩
  · exact absurd ha h
  · exact .inr (.inr ⟨[], rfl, List.nodup_nil, fun v h => absurd h List.not_mem_nil, _, rfl⟩)
  · refine .inr (.inr ⟨a :: vis, by rw [List.length_cons, e], List.nodup_cons.mpr ⟨fun q => ?_, nd⟩, fun v q => ?_, _, rfl⟩)
    · obtain ⟨_, k, hk, z⟩ := hv a q
      have := endZ_one (by omega) (by omega) ez z
      omega
    · rcases List.mem_cons.mp q with rfl | q
      · exact ⟨ha, i - 1, by omega, ez⟩
      · obtain ⟨m, k, hk, z⟩ := hv v q
        exact ⟨m, k, by omega, z⟩
theorem sub_len : ∀ {l ys : List (List Nat)}, l.Nodup → (∀ v ∈ l, v ∈ ys) → l.length ≤ ys.length
  | [], _, _, _ => Nat.zero_le _
  | x :: l, ys, nd, h => by
    obtain ⟨h1, h2⟩ := List.nodup_cons.mp nd
    have hx := h x List.mem_cons_self
    have ih := sub_len (ys := ys.erase x) h2 fun v hv => (List.mem_erase_of_ne fun e => h1 (by rw [← e]; exact hv)).mpr (h v (List.mem_cons_of_mem _ hv))
    rw [List.length_erase_of_mem hx] at ih
    have := List.length_pos_of_mem hx
    rw [List.length_cons]
    omega
theorem CndOk.free {ys : List (List Nat)} {a : List Nat} (h : CndOk ys 30 a) (hl : ys.length ≤ 29) : a ∉ ys := fun ha => by
  rcases h with h | h | ⟨vis, e, nd, hv, ez⟩
  · exact h ha
  · cases h
  · have := sub_len (l := a :: vis) (ys := ys) (List.nodup_cons.mpr ⟨fun q => by
      obtain ⟨_, k, hk, z⟩ := hv a q
      have := endZ_one (by omega) (by omega) ez z
      omega, nd⟩) fun v q => (List.mem_cons.mp q).elim (fun e => by rw [e]; exact ha) fun q => (hv v q).1
    rw [List.length_cons] at this
    omega
/-- what is asked of a drawn name -/
def NmOk (a : List Nat) : Prop := okW a ∧ a.length ≤ 20
theorem okW_num (n : Nat) : okW (numL n) := fun c hc => by
  have := numL_digits n c hc
  have h : ∀ d : Nat, 48 ≤ d ∧ d ≤ 57 → d < 128 := by omega
  first | exact h c this | exact h c ⟨this.1, this.2⟩
theorem okW_app {a b : List Nat} (ha : okW a) (hb : okW b) : okW (a ++ b) := fun c hc => (List.mem_append.mp hc).elim (ha c) (hb c)
theorem NmOk.next {a : List Nat} (h : NmOk a) {i : Nat} (hi : i < 30) : NmOk (a.take 16 ++ 90 :: numL i) := by
  refine ⟨okW_app (fun c hc => h.1 c (List.mem_of_mem_take hc)) fun c hc => ?_, ?_⟩
  · rcases List.mem_cons.mp hc with rfl | hc
    · decide
    · exact okW_num i c hc
  · have := numL_len (n := i) (k := 2) (by decide) (by omega)
    rw [List.length_append, List.length_take, List.length_cons]
    omega
section
variable {K : PySem.W.Frag} {H : Hp} {Q : VK}
theorem eqD_lst {a b : Addr} {us vs : List V} {l : List Tr} {n : Nat} (ha : SqL K H a us) (hu : TrsAt K H us l) (hb : SqL K H b vs) (hv : TrsAt K H vs l) (h : ∀ t ∈ l, TrG n t) (hn : n < 64) (k : Q (.bl true) H) : rEqD K (.ref a) (.ref b) H Q := by
  have s := (trg_lst h hn).1
  exact ⟨_, _, .lst ha (Dq.dps_of hu), .lst hb (Dq.dps_of hv), s, s, by rw [sh_lay s]; exact k⟩
theorem eqD_tup {a b : Addr} {us vs : List V} {l : List Tr} {n : Nat} (ha : SqT K H a us) (hu : TrsAt K H us l) (hb : SqT K H b vs) (hv : TrsAt K H vs l) (h : ∀ t ∈ l, TrG n t) (hn : n < 64) (k : Q (.bl true) H) : rEqD K (.ref a) (.ref b) H Q := by
  have s := (trg_lst h hn).2
  exact ⟨_, _, .tup ha (Dq.dps_of hu), .tup hb (Dq.dps_of hv), s, s, by rw [sh_lay s]; exact k⟩
theorem eqD_at {x y : V} {t : Tr} {n : Nat} (hx : TrAt K H x t) (hy : TrAt K H y t) (h : TrG n t) (hn : n ≤ 64) (k : Q (.bl true) H) : rEqD K x y H Q := by
  have s := trg_sh h hn
  exact ⟨_, _, Dq.dp_of hx, Dq.dp_of hy, s, s, by rw [sh_lay s]; exact k⟩
end
end
section
/-! A class's name that is not taken. -/
open PySem PySem.Spec PyProof.Rows L2
open C8 (Cal Met Mak cal0 pe_c pe_gc pss_cut tCut pe_mt pe_mt0 pe_mk)
open TL (numL numL_len)

local macro_rules | `(tactic| walk_at "dd") => `(tactic| repeat (first
  | walk_at "r1c"
  | with_reducible refine w_dget ?_
  | with_reducible refine w_din ?_
  | with_reducible refine w_dnin ?_
  | with_reducible refine w_dput ?_
  | with_reducible refine w_ddel ?_
  | with_reducible refine w_lenSet ?_
  | with_reducible refine w_lcTt ?_
  | with_reducible refine cTe (by with_unfolding_all decide +kernel) ?_
  | with_reducible refine cTn (by with_unfolding_all decide +kernel) ?_
  | with_reducible refine cNe (by with_unfolding_all decide +kernel) ?_
  | with_reducible refine cNn (by with_unfolding_all decide +kernel) ?_
  | with_reducible refine w_par ?_
  | with_reducible refine w_raiseC ?_
  | with_reducible refine w_lcV ?_
  | with_reducible refine w_lcKk ?_
  | with_reducible refine w_lcZ ?_
  | with_reducible refine w_lcE ?_))

theorem cut16 (a : List Nat) : cut a none (some 16) = a.take 16 := cut_to a 16
theorem run_ok {fs a : List Nat} (h : RunOf fs a) (hf : fs = aUp ∨ fs = aLow) : NmOk a := by
  have l := h.len
  obtain ⟨c, r, rfl, hc, hr, _⟩ := h
  have u : ∀ d ∈ aUp, d < 128 := by decide +kernel
  have lo : ∀ d ∈ aLow, d < 128 := by decide +kernel
  have j : ∀ d ∈ aJ, d < 128 := by decide +kernel
  refine ⟨fun d hd => ?_, l⟩
  rcases List.mem_cons.mp hd with rfl | hd
  · rcases hf with rfl | rfl
    · exact u d hc
    · exact lo d hc
  · exact j d (hr d hd)
section
variable {P : Program} {w : World} {K : PySem.W.Frag} {mg : Str → Option Value} {base : Heap}
abbrev s_law_class : Stmt := topS 122
abbrev N_law_class : List Str := ["state", "taken", "name", "k"]
theorem sc_law_class : FnScope N_law_class ["state", "taken"] (defScope s_law_class) := ⟨rfl, rfl, rfl, by decide +kernel, rfl, by decide +kernel, by decide +kernel⟩
def spCla (K : PySem.W.Frag) : Sp := fun vs H Q _ => ∃ (S L q : Addr) (ys : List (List Nat)), vs = [.ref S, .ref q] ∧ StAt H S L ∧ H q = some (.lst (ys.map T)) ∧ ys ≠ [] ∧ ys.length ≤ 29 ∧
  ∀ a H', NmOk a → a ∉ ys → StAt H' S L → Fr S H H' → Q (T a) H'
theorem st_ne {H : Hp} {S L q : Addr} {ys : List (List Nat)} (h : StAt H S L) (hq : H q = some (.lst (ys.map T))) (n : ys ≠ []) : q ≠ S := fun e => by
  obtain ⟨i, c, k, b, r, hS⟩ := h.obj
  rw [e, hS] at hq
  cases ys with
  | nil => exact n rfl
  | cons y r =>
    have := HO.lst.inj (Option.some.inj hq)
    cases (List.cons.inj this).1
theorem ok_law_class {f : Addr} {fd : FuncData} (F : Fun K "_law_class" "_law_class" s_law_class f fd) (Y : Bn mg) (c_law_run : Cal P w K mg base 2 "_law_run" spRun []) : FnOk P w K mg base CX0 3 f fd ["state", "taken"] (spCla K) := by
  refine F.ok sc_law_class (fun vs H Q E h => ?_) (fun cdv A outer s H vs Q E hr h => ?_)
  · obtain ⟨S, L, q, ys, rfl, _⟩ := h
    rfl
  · obtain ⟨S, L, q, ys, rfl, hSt, hq, hne, hl, kQ⟩ := h
    have nd := sc_law_class.nd
    have nS := st_ne hSt hq hne
    refine ⟨_, (pss_cons (ps_set (i := 2) nd rfl (Or.inl rfl) (pe_c c_law_run hr (by decide) rfl (pa_cons (pv 0) (pa_cons pe_str pa_nil))))
      (pss_cons (ps_for PassesOwn.never rfl (pi_range1 rfl Y.n_range (pa_cons pe_int pa_nil)) (pg_name (i := 3) nd rfl (Or.inl rfl)) (pss_one (ps_if (pt_cmpR op_in_seq (pv 2) (pv 1) (by rfl)) (pss_one (ps_set (i := 2) nd rfl (Or.inl rfl) (pe_op op_addS (pe_op op_addS (pe_slice sl_str (pv 2) po_none (po_some pe_int)) pe_str) (pe_callTy call_strI (by rfl) Y.n_str (by decide +kernel) (pa_cons (pv 3) pa_nil))))) pss_nil)))
      (pss_one (ps_ret (pv 2))))), ?_⟩
    rw [show L2.start N_law_class [.ref S, .ref q] = [some (.ref S), some (.ref q), none, none] from rfl]
    walk_at "dd"
    refine use_run hSt (fs := aUp) (by decide +kernel) fun a H1 ha hSt1 f1 => ?_
    walk_at "dd"
    refine for_R (fun i σ' H' => ∃ (x : Option V) (a : List Nat), σ' = [some (.ref S), some (.ref q), some (T a), x] ∧ NmOk a ∧ CndOk ys i a ∧ H' = H1) (by decide) (by decide) ⟨none, a, rfl, run_ok ha (.inl rfl), .inr (.inl rfl), rfl⟩ ?_ ?_
    · rintro i σ' H' hi ⟨x, a, rfl, hn, hc, rfl⟩
      have hi : i < 30 := by omega
      walk_at "dd"
      refine w_inL (SqL.of (f1 _ _ nS hq)) ?_
      walk_at "dd"
      refine w_if (fun h => ?_) (fun h => ?_)
      · walk_at "dd"
        refine w_slS (Nat.le_trans hn.2 (by decide)) ?_
        walk_at "dd"
        rw [cut16]
        have l16 := List.length_take_le 16 a
        refine w_addS (by show (List.take 16 a).length + 1 ≤ 1000000; omega) ?_
        walk_at "dd"
        rw [show (0 + (i : Int)) = ((i : Nat) : Int) by omega]
        refine w_strN (by omega) ?_
        have hnl := numL_len (n := i) (k := 2) (by decide) (by omega)
        refine w_addS (by rw [List.length_append]; show (List.take 16 a).length + 1 + (numL i).length ≤ 1000000; omega) ?_
        rw [List.append_assoc]
        exact ⟨_, _, rfl, hn.next hi, hc.step hi h, rfl⟩
      · walk_at "dd"
        exact ⟨_, a, rfl, hn, .inl h, rfl⟩
    · rintro σ' H' ⟨x, a, rfl, hn, hc, rfl⟩
      walk_at "dd"
      exact kQ a _ hn (hc.free hl) hSt1 f1
end
end
section
/-! Changes carried out. -/
open PySem PySem.Spec PyProof.Rows L2
open C8 (Cal Met Mak cal0 pe_c pe_gc pss_cut tCut pe_mt pe_mt0 pe_mk)

local macro_rules | `(tactic| walk_at "dd") => `(tactic| repeat (first
  | walk_at "r1c"
  | with_reducible refine w_dget ?_
  | with_reducible refine w_din ?_
  | with_reducible refine w_dnin ?_
  | with_reducible refine w_dput ?_
  | with_reducible refine w_ddel ?_
  | with_reducible refine w_lenSet ?_
  | with_reducible refine w_lcTt ?_
  | with_reducible refine cTe (by with_unfolding_all decide +kernel) ?_
  | with_reducible refine cTn (by with_unfolding_all decide +kernel) ?_
  | with_reducible refine cNe (by with_unfolding_all decide +kernel) ?_
  | with_reducible refine cNn (by with_unfolding_all decide +kernel) ?_
  | with_reducible refine w_par ?_
  | with_reducible refine w_raiseC ?_
  | with_reducible refine w_lcV ?_
  | with_reducible refine w_lcKk ?_
  | with_reducible refine w_lcZ ?_
  | with_reducible refine w_lcE ?_))

section
variable {P : Program} {w : World} {K : PySem.W.Frag} {mg : Str → Option Value} {base : Heap} {CS CD : Addr} {k : Nat}
theorem flat_filter (p : Row → Bool) : ∀ R : List Row, List.Sublist ((R.filter p).flatMap cells) (R.flatMap cells)
  | [] => List.Sublist.slnil
  | a :: r => by
    have ih := flat_filter p r
    rw [List.flatMap_cons]
    by_cases h : p a = true
    · rw [List.filter_cons_of_pos h, List.flatMap_cons]
      exact List.Sublist.append (List.Sublist.refl _) ih
    · rw [List.filter_cons_of_neg h]
      exact ih.trans (List.sublist_append_right _ _)
theorem frl_one {F : List Addr} {x : Addr} {H H1 : Hp} {o u : HO} (hx : x ∈ F) (h0 : H x = some o) (h1 : H1 x = some u) (k : ∀ b o, b ≠ x → H b = some o → H1 b = some o) : FrL F H H1 :=
  ⟨fun b o n e => k b o (fun z => n (by rw [z]; exact hx)) e, fun b e => by
    by_cases z : b = x
    · rw [z, h1] at e; cases e
    · cases q : H b with
      | none => rfl
      | some o => rw [k b o z q] at e; cases e⟩
theorem foot_cell {D d : Addr} {R : List Row} {p : Row} (hp : p ∈ R) {x : Addr} (hx : x ∈ cells p) : x ∈ foot D d R := List.mem_cons_of_mem _ (List.mem_cons_of_mem _ (List.mem_flatMap.mpr ⟨p, hp, hx⟩))
abbrev s_Definitions_carry_out : Stmt := inClass (topS 78) 10
abbrev N_Definitions_carry_out : List Str := ["self", "entry", "word", "name"]
theorem sc_Definitions_carry_out : FnScope N_Definitions_carry_out ["self", "entry"] (defScope s_Definitions_carry_out) := ⟨rfl, rfl, rfl, by decide +kernel, rfl, by decide +kernel, by decide +kernel⟩
def spCarr (K : PySem.W.Frag) (CS CD : Addr) : Sp := fun vs H Q _ => ∃ (D d : Addr) (R : List Row) (v : V) (c : Ch), vs = [.ref D, v] ∧ DfW CS CD D d R H ∧ Sm (dsOf R) ∧ TrAt K H v c.tr ∧ ChSm c ∧ refM (dsOf R) c = false ∧ (∀ p ∈ dsOf R, p.texts.length ≤ 1000) ∧
  ∀ R' H', dsOf R' = carM (dsOf R) c → DfW CS CD D d R' H' → Go (foot D d R) (foot D d R') H H' → Q .non H'
theorem ok_carry_out {f : Addr} {fd : FuncData} (F : Fun K "carry_out" "Definitions.carry_out" s_Definitions_carry_out f fd) (Y : Bn mg) (Z : DfTx K mg CS CD) (c_Definition : Mak P w K mg base 1 "Definition" CD (spDefI K CD) []) : FnOk P w K mg base CX0 3 f fd ["self", "entry"] (spCarr K CS CD) := by
  refine F.ok sc_Definitions_carry_out (fun vs H Q E h => ?_) (fun cdv A outer s H vs Q E hr h => ?_)
  · obtain ⟨D, d, R, v, c, rfl, _⟩ := h
    rfl
  · obtain ⟨D, d, R, v, c, rfl, hW, hs, hv, hc, href, htl, kQ⟩ := h
    have nd := sc_Definitions_carry_out.nd
    have hR := hW.r
    have hnd := hs.1.nd
    obtain ⟨p, us, rfl, hp, he⟩ := ent_at hv
    refine ⟨_, (pss_cons (ps_par (i := 2) (j := 3) rfl nd rfl rfl (by decide) rfl rfl (pa_cons (pe_ix ix_tup (pv 1) pe_int (fun _ _ => rfl)) (pa_cons (pe_ix ix_tup (pv 1) pe_int (fun _ _ => rfl)) pa_nil)) rfl)
      (pss_one (ps_if (pt_cmpR op_eq (pv 2) pe_str (nomark _)) (pss_one (ps_dput (hu_of hr) (pe_fld (pv 0) rfl) (pv 3) (pe_mk c_Definition hr (by decide) rfl (pa_cons (pe_ix ix_tup (pv 1) pe_int (fun _ _ => rfl)) (pa_cons (pe_ix ix_tup (pv 1) pe_int (fun _ _ => rfl)) pa_nil))) rfl)) (pss_one (ps_if (pt_cmpR op_eq (pv 2) pe_str (nomark _)) (pss_one (ps_ddel (pe_fld (pv 0) rfl) (pv 3))) (pss_one (ps_if (pt_cmpR op_eq (pv 2) pe_str (nomark _)) (pss_one (ps_expr (pe_bm PySem.F.plainAttrs_list PySem.F.slot_list_append PySem.F.type_list_append mt_append (pe_fld (pe_dget (hu_of hr) (pe_fld (pv 0) rfl) (pv 3) (fun _ _ => rfl)) rfl) (pa_cons (pe_ix ix_tup (pv 1) pe_int (fun _ _ => rfl)) pa_nil)))) (pss_one (ps_if (pt_cmpR op_eq (pv 2) pe_str (nomark _)) (pss_one (ps_expr (pe_bm PySem.F.plainAttrs_list PySem.F.slot_list_remove PySem.F.type_list_remove mt_removeS (pe_fld (pe_dget (hu_of hr) (pe_fld (pv 0) rfl) (pv 3) (fun _ _ => rfl)) rfl) (pa_cons (pe_ix ix_tup (pv 1) pe_int (fun _ _ => rfl)) pa_nil)))) (pss_one (ps_if (pt_cmpR op_eq (pv 2) pe_str (nomark _)) (pss_one (ps_dput (hu_of hr) (pe_fld (pe_dget (hu_of hr) (pe_fld (pv 0) rfl) (pv 3) (fun _ _ => rfl)) rfl) (pe_ix ix_tup (pv 1) pe_int (fun _ _ => rfl)) (pe_ix ix_tup (pv 1) pe_int (fun _ _ => rfl)) rfl)) (pss_one (ps_ddel (pe_fld (pe_dget (hu_of hr) (pe_fld (pv 0) rfl) (pv 3) (fun _ _ => rfl)) rfl) (pe_ix ix_tup (pv 1) pe_int (fun _ _ => rfl))))))))))))))), ?_⟩
    rw [show L2.start N_Definitions_carry_out [.ref D, .ref p] = [some (.ref D), some (.ref p), none, none] from rfl]
    obtain ⟨⟨dx, ho⟩, _⟩ := id hR
    have same0 : Same H H := fun _ _ h => h
    have nin : ∀ n, (if n ∉ nms (dsOf R) then true else false) = false → n ∈ nms (dsOf R) := fun n h => Classical.byContradiction fun z => by rw [if_pos z] at h; cases h
    have hl2 : (R.map entD).length ≤ 100 := by rw [rows_len]; exact hs.2.1
    cases c with
    | cls n b ss =>
      obtain ⟨t, rfl, ht⟩ := he
      have hn : n ∉ nms (dsOf R) := fun z => by
        have r : refC (dsOf R) n b ss = false := href
        unfold refC at r
        rw [if_pos (.inl z)] at r
        cases r
      walk_at "dd"
      refine ⟨_, _, rfl, ?_⟩
      walk_at "dd"
      intro c dc hc0 hdc ncd
      have s1 : Same H (upd (upd H dc (.own c)) c (.ins CD dc [])) := (same_new0 hdc).trans (same_new0 (by rw [upd_ne ncd.symm]; exact hc0))
      have fr0 : ∀ b, (upd (upd H dc (.own c)) c (.ins CD dc [])) b = none → b ≠ c ∧ H b = none := fun b e => by
        by_cases z : b = c
        · rw [z, upd_same] at e; cases e
        · rw [upd_ne z] at e
          by_cases z2 : b = dc
          · rw [z2, upd_same] at e; cases e
          · rw [upd_ne z2] at e; exact ⟨z, e⟩
      refine ⟨c, dc, t, some b, ss, rfl, upd_same, Same.sqT s1 ht, fun sl tx H2 h2 h3 h4 e3 e4 ne k2 g2 => ⟨rfl, ?_⟩⟩
      obtain ⟨nsc, esl⟩ := fr0 sl e3
      obtain ⟨ntc, etx⟩ := fr0 tx e4
      have up : ∀ b o, H b = some o → H2 b = some o := fun b o e => k2 b o (fun z => by rw [z, hc0] at e; cases e) (s1 _ _ e)
      have hW2 := hW.keep (H1 := H2) (fun b _ o e => up b o e)
      walk_at "dd"
      refine o_fat (up _ _ ho) Z.cs Z.n_known rfl ?_
      walk_at "dd"
      refine ⟨d, _, rfl, DPut.k (k := kT n) hW2.tab (Nat.lt_of_le_of_lt hl2 (by decide)), ?_⟩
      rw [put_new hn]
      have eR : R.map entD ++ [(kT n, V.ref c)] = (R ++ [((⟨n, some b, ss, []⟩ : Cl), (⟨c, sl, tx⟩ : CA))]).map entD := by rw [List.map_append]; rfl
      rw [eR]
      have taken : ∀ x ∈ foot D d R, ∃ o, H x = some o := fun x hx => let ⟨o, e, _⟩ := hW.no x hx; ⟨o, e⟩
      have nin2 : ∀ y, H y = none → y ∉ foot D d R := fun y e z => by obtain ⟨o, e2⟩ := taken y z; rw [e] at e2; cases e2
      have foot2 : foot D d (R ++ [((⟨n, some b, ss, []⟩ : Cl), (⟨c, sl, tx⟩ : CA))]) = foot D d R ++ [c, sl, tx] := by
        unfold foot
        rw [List.flatMap_append]
        rfl
      have dF : d ∈ foot D d R := List.mem_cons_of_mem _ List.mem_cons_self
      have ndR : (foot D d (R ++ [((⟨n, some b, ss, []⟩ : Cl), (⟨c, sl, tx⟩ : CA))])).Nodup := by
        rw [foot2, List.nodup_append]
        refine ⟨hW.nd, by simp [nsc.symm, ntc.symm, ne], fun y hy z hz => ?_⟩
        have hz : z ∈ [c, sl, tx] := hz
        simp only [List.mem_cons, List.not_mem_nil, or_false] at hz
        rcases hz with rfl | rfl | rfl
        · exact fun e => nin2 _ hc0 (by rw [← e]; exact hy)
        · exact fun e => nin2 _ esl (by rw [← e]; exact hy)
        · exact fun e => nin2 _ etx (by rw [← e]; exact hy)
      have dsR : dsOf (R ++ [((⟨n, some b, ss, []⟩ : Cl), (⟨c, sl, tx⟩ : CA))]) = carM (dsOf R) (.cls n b ss) := by unfold dsOf; rw [List.map_append]; rfl
      have ndc : c ≠ d := fun z => nin2 _ hc0 (by rw [z]; exact dF)
      have nds : sl ≠ d := fun z => nin2 _ esl (by rw [z]; exact dF)
      have ndt : tx ≠ d := fun z => nin2 _ etx (by rw [z]; exact dF)
      have hin : ∀ y ∈ R ++ [((⟨n, some b, ss, []⟩ : Cl), (⟨c, sl, tx⟩ : CA))], y ∈ R ∨ y = ((⟨n, some b, ss, []⟩ : Cl), (⟨c, sl, tx⟩ : CA)) := fun y hy => (List.mem_append.mp hy).imp id List.mem_singleton.mp
      generalize (R ++ [((⟨n, some b, ss, []⟩ : Cl), (⟨c, sl, tx⟩ : CA))]) = Rn at foot2 ndR dsR hin ⊢
      have nDd : D ≠ d := fun z => by
        have := hW.tab
        rw [← z, ho] at this
        cases this
      have nd2 : (D :: d :: R.flatMap cells).Nodup := hW.nd
      have ncell : ∀ q ∈ R, ∀ x ∈ cells q, x ≠ d := fun q hq x hx z => (List.nodup_cons.mp (List.nodup_cons.mp nd2).2).1 (by rw [← z]; exact List.mem_flatMap.mpr ⟨q, hq, hx⟩)
      refine kQ Rn _ dsR ⟨⟨dx, by rw [upd_ne nDd]; exact up _ _ ho⟩, upd_same, fun q hq => ?_, ndR⟩ ⟨⟨fun y o n e => by rw [upd_ne (fun z => n (by rw [z]; exact dF))]; exact up _ _ e, fun y e => ?_⟩, fun y hy => ?_⟩
      · rcases hin q hq with hq | rfl
        · obtain ⟨dxc, g1, g2, g3⟩ := hW2.row q hq
          exact ⟨dxc, by rw [upd_ne (ncell q hq _ (by simp [cells]))]; exact g1, by rw [upd_ne (ncell q hq _ (by simp [cells]))]; exact g2, by rw [upd_ne (ncell q hq _ (by simp [cells]))]; exact g3⟩
        · exact ⟨dc, by rw [upd_ne ndc]; exact h2, by rw [upd_ne nds]; exact h3, by rw [upd_ne ndt]; exact h4⟩
      · by_cases z : y = d
        · rw [z, upd_same] at e; cases e
        · rw [upd_ne z] at e
          exact (fr0 y (g2 y e)).2
      · rw [foot2] at hy
        rcases List.mem_append.mp hy with hy | hy
        · exact .inl hy
        · simp only [List.mem_cons, List.not_mem_nil, or_false] at hy
          rcases hy with rfl | rfl | rfl
          · exact .inr hc0
          · exact .inr esl
          · exact .inr etx
    | nocls n =>
      cases he
      have r : (if n ∉ nms (dsOf R) then true else decide (n = cds "Thing") || clsBelow (dsOf R) n) = false := href
      have hn : n ∈ nms (dsOf R) := Classical.byContradiction fun z => by rw [if_pos z] at r; cases r
      walk_at "dd"
      refine ⟨_, _, rfl, ?_⟩
      walk_at "dd"
      refine o_fat ho Z.cs Z.n_known rfl ?_
      walk_at "dd"
      refine ⟨d, _, kT n, rfl, hW.tab, rfl, by rw [val_some]; exact decide_eq_true hn, ?_⟩
      rw [drop_row]
      have dF : d ∈ foot D d R := List.mem_cons_of_mem _ List.mem_cons_self
      have fs : List.Sublist (foot D d (R.filter fun p => decide (p.1.nm ≠ n))) (foot D d R) := ((flat_filter _ R).cons₂ d).cons₂ D
      have nd2 : (D :: d :: R.flatMap cells).Nodup := hW.nd
      have nDd : D ≠ d := fun z => (List.nodup_cons.mp nd2).1 (by rw [z]; exact List.mem_cons_self)
      refine kQ (R.filter fun p => decide (p.1.nm ≠ n)) _ (ds_filter R n) ⟨⟨dx, by rw [upd_ne nDd]; exact ho⟩, upd_same, fun q hq => ?_, fs.nodup hW.nd⟩ ⟨frl_one dF hW.tab upd_same fun b o n e => by rw [upd_ne n]; exact e, fun y hy => .inl (fs.subset hy)⟩
      have hq := (List.mem_filter.mp hq).1
      have ncell : ∀ x ∈ cells q, x ≠ d := fun x hx z => (List.nodup_cons.mp (List.nodup_cons.mp nd2).2).1 (by rw [← z]; exact List.mem_flatMap.mpr ⟨q, hq, hx⟩)
      obtain ⟨dxc, g1, g2, g3⟩ := hW.row q hq
      exact ⟨dxc, by rw [upd_ne (ncell _ (by simp [cells]))]; exact g1, by rw [upd_ne (ncell _ (by simp [cells]))]; exact g2, by rw [upd_ne (ncell _ (by simp [cells]))]; exact g3⟩
    | slot n a =>
      cases he
      have r : (if n ∉ nms (dsOf R) then true else refS (dsOf R) n a) = false := href
      have hn : n ∈ nms (dsOf R) := Classical.byContradiction fun z => by rw [if_pos z] at r; cases r
      walk_at "dd"
      refine ⟨_, _, rfl, ?_⟩
      walk_at "dd"
      refine o_fat ho Z.cs Z.n_known rfl ?_
      walk_at "dd"
      refine k_get hR hn fun q hq1 hq2 hq3 hq4 => ?_
      obtain ⟨dxc, g1, g2, g3⟩ := hq4
      refine o_fat g1 Z.cd Z.n_slots rfl ?_
      refine ⟨tyL (SqL.of g2), ?_⟩
      walk_at "dd"
      have hq5 : q.1 ∈ dsOf R := List.mem_map.mpr ⟨q, hq1, rfl⟩
      have hq6 := hs.2.2 _ hq5
      refine w_app2 g2 (by rw [List.length_map]; omega) fun H1 h1 k1 => ?_
      walk_at "dd"
      have nd2 : (D :: d :: R.flatMap cells).Nodup := hW.nd
      have new : ClAt CD H1 ({ q.1 with slots := q.1.slots ++ [a] }, q.2) := by
        have nc : q.2.c ≠ q.2.sl := fun z => by rw [z, g2] at g1; cases g1
        have nt : q.2.tx ≠ q.2.sl := fun z => by rw [z, g2] at g3; cases g3
        refine ⟨dxc, k1 _ _ nc g1, ?_, k1 _ _ nt g3⟩
        rw [List.map_append]
        exact h1
      refine kQ (onR n (fun c => { c with slots := c.slots ++ [a] }) R) H1 (onR_ds _ _ _) (hW.put hnd hq1 hq2 (x := q.2.sl) (by simp [cells]) (fun _ => rfl) k1 new) ⟨frl_one (foot_cell hq1 (by simp [cells])) g2 h1 k1, fun y hy => .inl (by rw [onR_foot] at hy; exact hy)⟩
    | noslot n a =>
      cases he
      have r : (if n ∉ nms (dsOf R) then true else decide (a ∉ slotsD (dsOf R) n)) = false := href
      have hn : n ∈ nms (dsOf R) := Classical.byContradiction fun z => by rw [if_pos z] at r; cases r
      rw [if_neg (fun z => z hn), decide_eq_false_iff_not, Classical.not_not] at r
      walk_at "dd"
      refine ⟨_, _, rfl, ?_⟩
      walk_at "dd"
      refine o_fat ho Z.cs Z.n_known rfl ?_
      walk_at "dd"
      refine k_get hR hn fun q hq1 hq2 hq3 hq4 => ?_
      obtain ⟨dxc, g1, g2, g3⟩ := hq4
      refine o_fat g1 Z.cd Z.n_slots rfl ?_
      refine ⟨tyL (SqL.of g2), ?_⟩
      walk_at "dd"
      have e5 : slotsD (dsOf R) n = q.1.slots := by unfold slotsD; rw [hq3]
      rw [e5] at r
      refine w_rem g2 r fun H1 h1 k1 => ?_
      walk_at "dd"
      have new : ClAt CD H1 ({ q.1 with slots := q.1.slots.erase a }, q.2) := by
        have nc : q.2.c ≠ q.2.sl := fun z => by rw [z, g2] at g1; cases g1
        have nt : q.2.tx ≠ q.2.sl := fun z => by rw [z, g2] at g3; cases g3
        exact ⟨dxc, k1 _ _ nc g1, h1, k1 _ _ nt g3⟩
      refine kQ (onR n (fun c => { c with slots := c.slots.erase a }) R) H1 (onR_ds _ _ _) (hW.put hnd hq1 hq2 (x := q.2.sl) (by simp [cells]) (fun _ => rfl) k1 new) ⟨frl_one (foot_cell hq1 (by simp [cells])) g2 h1 k1, fun y hy => .inl (by rw [onR_foot] at hy; exact hy)⟩
    | meth n sel txt =>
      cases he
      have r : (if n ∉ nms (dsOf R) then true else decide (n = cds "Thing")) = false := href
      have hn : n ∈ nms (dsOf R) := Classical.byContradiction fun z => by rw [if_pos z] at r; cases r
      walk_at "dd"
      refine ⟨_, _, rfl, ?_⟩
      walk_at "dd"
      refine o_fat ho Z.cs Z.n_known rfl ?_
      walk_at "dd"
      refine k_get hR hn fun q hq1 hq2 hq3 hq4 => ?_
      obtain ⟨dxc, g1, g2, g3⟩ := hq4
      refine o_fat g1 Z.cd Z.n_texts rfl ?_
      walk_at "dd"
      have hq6 := htl q.1 (List.mem_map.mpr ⟨q, hq1, rfl⟩)
      refine ⟨q.2.tx, _, rfl, DPut.k (k := kT sel) g3 (Nat.lt_of_le_of_lt (Nat.le_trans (by rw [List.length_map]; exact hq6) (Nat.le_refl 1000)) (by decide)), ?_⟩
      rw [put_tx]
      have k1 : ∀ b o, b ≠ q.2.tx → H b = some o → upd H q.2.tx (.dK ((putT q.1.texts sel txt).map entX)) b = some o := fun b o n e => by rw [upd_ne n]; exact e
      have new : ClAt CD (upd H q.2.tx (.dK ((putT q.1.texts sel txt).map entX))) ({ q.1 with texts := putT q.1.texts sel txt }, q.2) := by
        have nc : q.2.c ≠ q.2.tx := fun z => by rw [z, g3] at g1; cases g1
        have nt : q.2.sl ≠ q.2.tx := fun z => by rw [z, g3] at g2; cases g2
        exact ⟨dxc, k1 _ _ nc g1, k1 _ _ nt g2, upd_same⟩
      exact kQ (onR n (fun c => { c with texts := putT c.texts sel txt }) R) _ (onR_ds _ _ _) (hW.put hnd hq1 hq2 (x := q.2.tx) (by simp [cells]) (fun _ => rfl) k1 new) ⟨frl_one (foot_cell hq1 (by simp [cells])) g3 upd_same k1, fun y hy => .inl (by rw [onR_foot] at hy; exact hy)⟩
    | nometh n sel =>
      cases he
      have r : (if n ∉ nms (dsOf R) then true else decide (sel ∉ (textsD (dsOf R) n).map (·.1))) = false := href
      have hn : n ∈ nms (dsOf R) := Classical.byContradiction fun z => by rw [if_pos z] at r; cases r
      rw [if_neg (fun z => z hn), decide_eq_false_iff_not, Classical.not_not] at r
      walk_at "dd"
      refine ⟨_, _, rfl, ?_⟩
      walk_at "dd"
      refine o_fat ho Z.cs Z.n_known rfl ?_
      walk_at "dd"
      refine k_get hR hn fun q hq1 hq2 hq3 hq4 => ?_
      obtain ⟨dxc, g1, g2, g3⟩ := hq4
      refine o_fat g1 Z.cd Z.n_texts rfl ?_
      walk_at "dd"
      have e5 : textsD (dsOf R) n = q.1.texts := by unfold textsD; rw [hq3]
      rw [e5] at r
      refine ⟨q.2.tx, _, kT sel, rfl, g3, rfl, by rw [some_tx]; exact decide_eq_true r, ?_⟩
      rw [drop_tx]
      have k1 : ∀ b o, b ≠ q.2.tx → H b = some o → upd H q.2.tx (.dK ((dropT q.1.texts sel).map entX)) b = some o := fun b o n e => by rw [upd_ne n]; exact e
      have new : ClAt CD (upd H q.2.tx (.dK ((dropT q.1.texts sel).map entX))) ({ q.1 with texts := dropT q.1.texts sel }, q.2) := by
        have nc : q.2.c ≠ q.2.tx := fun z => by rw [z, g3] at g1; cases g1
        have nt : q.2.sl ≠ q.2.tx := fun z => by rw [z, g3] at g2; cases g2
        exact ⟨dxc, k1 _ _ nc g1, k1 _ _ nt g2, upd_same⟩
      exact kQ (onR n (fun c => { c with texts := dropT c.texts sel }) R) _ (onR_ds _ _ _) (hW.put hnd hq1 hq2 (x := q.2.tx) (by simp [cells]) (fun _ => rfl) k1 new) ⟨frl_one (foot_cell hq1 (by simp [cells])) g3 upd_same k1, fun y hy => .inl (by rw [onR_foot] at hy; exact hy)⟩
end
end
section
/-! Methods that may raise an exception whose context is None; defs within an except suite. -/
open PySem PySem.Spec PyProof.Rows L2
section
variable {P : Program} {w : World} {K : PySem.W.Frag} {mg : Str → Option Value} {base : Heap} {N : List Str} {q : Str} {sc : Scope} {f : Addr} {cd : Value} {A : Around} {outer : List Env} {s : Shared} {H : Hp} {E : XK}
theorem tkN_of : L2N.Takes (cxOf (L2N.CX P w) P w K mg base N q sc f cd A outer s H E) (fun cls d _ H => E cls d H) := L2N.takes_of rfl rfl rfl rfl
theorem pxN_of : Passes (L2N.CX P w) (cxOf (L2N.CX P w) P w K mg base N q sc f cd A outer s H E) E := L2N.passes_call tkN_of (fun _ _ _ _ h => h)
theorem poN_of : PassesOwn (model (cxOf (L2N.CX P w) P w K mg base N q sc f cd A outer s H E).prog (cxOf (L2N.CX P w) P w K mg base N q sc f cd A outer s H E).w) (cxOf (L2N.CX P w) P w K mg base N q sc f cd A outer s H E).A (cxOf (L2N.CX P w) P w K mg base N q sc f cd A outer s H E).env (cxOf (L2N.CX P w) P w K mg base N q sc f cd A outer s H E).xe := passes_of rfl
theorem passNL {X : Cx} : Passes (L2N.CX X.prog X.w) X C8.E0 := fun _ _ _ _ _ _ _ h => by
  obtain ⟨_, _, _, _, _, _, _, _, _, _, _, _, z⟩ := h
  exact z.elim
theorem takesN0 {X : Cx} : L2N.Takes X (fun _ _ _ _ => False) := fun _ _ x => by
  obtain ⟨_, _, _, _, _, _, _, _, _, _, _, _, _, _, _, _, z⟩ := x
  exact z.elim
theorem hot_suite {X : Cx} {a : Addr} {oe : Obj} {cls : Value} {d : Option Addr} {pn : List (Addr × Obj)} (hz : L2N.Zn cls d oe) (hf : ∃ vs, oe.data = .fields vs) : L2H.HotC (X.suite a ((a, oe) :: pn)) := by
  obtain ⟨vs, hd⟩ := hf
  exact ⟨(a, oe), ⟨rfl, vs, hd, hz.2.2 vs hd⟩, List.mem_cons_self⟩
theorem fun_okXN {x qual : Str} {st : Stmt} {f : Addr} {fd : FuncData} {N ps : List Str} {k : Nat} {sp : Sp} (F : Fun K x qual st f fd) (S : FnScope N ps (defScope st)) (len : ∀ vs H Q E, sp vs H Q E → vs.length = ps.length)
    (hb : ∀ (cdv : Value) (A : Around) (outer : List Env) (s : Shared) (H : Hp) (vs : List V) (Q : VK) (E : XK), Room k (A.deeper (envOfC qual (defScope st) s.heap.objs.size f cdv)) → sp vs H Q E →
      ∃ t, PSs (cxOf (L2N.CX P w) P w K mg base N qual (defScope st) f cdv A outer s H E) (defBody st) t ∧ t { nx := fun _ H' => Q .non H', rt := Q } (L2.start N vs) H) : FnOk P w K mg base (L2N.CX P w) (k + 1) f fd ps sp := by
  obtain ⟨oc, od, kV, doc, pm, an, cdv, ct, osl, rfl, lk, hcd⟩ := F.ex
  exact fn_of lk hcd S len fun A outer s H vs Q E hr hsp => hb cdv A outer s H vs Q E hr hsp
/-- a def's promise within an except suite -/
theorem fun_okH {x qual : Str} {st : Stmt} {f : Addr} {fd : FuncData} {N ps : List Str} {k : Nat} {sp : Sp} (F : Fun K x qual st f fd) (S : FnScope N ps (defScope st)) (len : ∀ vs H Q E, sp vs H Q E → vs.length = ps.length)
    (hb : ∀ (cdv : Value) (A : Around) (outer : List Env) (s : Shared) (H : Hp) (vs : List V) (Q : VK) (E : XK) (p : Addr × Obj), L2H.Hot1 A p → L2H.RoomH k (A.deeper (envOfC qual (defScope st) s.heap.objs.size f cdv)) → sp vs H Q E →
      ∃ t, PSs (L2H.cxH C8.CX0 P w K mg base N qual (defScope st) f cdv A outer s H E p) (defBody st) t ∧ t { nx := fun _ H' => Q .non H', rt := Q } (L2.start N vs) H) : L2H.FnH P w K mg base C8.CX0 (k + 1) f fd ps sp := by
  obtain ⟨oc, od, kV, doc, pm, an, cdv, ct, osl, rfl, lk, hcd⟩ := F.ex
  exact L2H.fn_ofH lk hcd S len fun A outer s H vs Q E p hot hr hsp => hb cdv A outer s H vs Q E p hot hr hsp
theorem hot_cx {p : Addr × Obj} {N : List Str} {qual : Str} {cdv : Value} (h : L2H.Hot1 A p) : L2H.HotC (L2H.cxH C8.CX0 P w K mg base N qual sc f cdv A outer s H E p) := ⟨p, h, List.mem_cons_self⟩
end
/-- a def, a method that may be called there -/
structure CalH (P : Program) (w : World) (K : PySem.W.Frag) (mg : Str → Option Value) (base : Heap) (k : Nat) (x : Str) (sp : Sp) : Prop where
  ex : ∃ (f : Addr) (fd : FuncData) (ps : List Str), L2H.FnH P w K mg base C8.CX0 k f fd ps sp ∧ mg x = some (.ref f) ∧ PySem.W.keepIn K (.ref f) = true ∧ Binds K fd ps []
structure MetH (P : Program) (w : World) (K : PySem.W.Frag) (mg : Str → Option Value) (base : Heap) (k : Nat) (C : Addr) (m : Str) (sp : Sp) : Prop where
  ex : ∃ (f : Addr) (fd : FuncData) (ps : List Str), Cls K C ∧ Meth K C m f ∧ L2H.FnH P w K mg base C8.CX0 k f fd ps sp ∧ Binds K fd ps []
theorem FnH_mono {P : Program} {w : World} {K : PySem.W.Frag} {mg : Str → Option Value} {base : Heap} {CX : CXT} {k j : Nat} {f : Addr} {fd : FuncData} {ps : List Str} {sp : Sp} (h : L2H.FnH P w K mg base CX k f fd ps sp) (hk : k ≤ j) : L2H.FnH P w K mg base CX j f fd ps sp :=
  ⟨h.len, fun A outer s H args us vs Q E p hr hot hpin e0 hb r hsp => h.run A outer s H args us vs Q E p (hr.mono hk) hot hpin e0 hb r hsp⟩
section
variable {X : Cx} {k j : Nat} {C : Addr} {x m : Str} {sp : Sp} {p pos apos : Pos} {e o : Expr} {es : List Expr} {ta : TE} {t : TA}
theorem pass0H {σ : L2.St} : L2.PassesAt C8.CX0 X σ C8.E0 := fun _ _ _ _ _ _ h => h.elim
theorem pe_cH (c : CalH X.prog X.w X.K X.mg X.base k x sp) (hr : L2H.RoomH j X.A) (hk : k ≤ j) (hot : L2H.HotC X) (hg : Gl X x) (ha : PA X (e :: es) t)
    (hdb : (x == ("__debug__" : Str)) = false := by decide) (he : starEach (e :: es) X.env = (false, eval e X.env) :: starEach es X.env := by rfl) (hpl : (backTo pos (starEach es X.env)).any (·.1) = false := by rfl) :
    PE X (.Call (.Name x p) (e :: es) [] pos) (tCall sp [] C8.E0 t) := by
  obtain ⟨f, fd, ps, F, hm, kp, b⟩ := c.ex
  refine ⟨fun pins s σ H Q I h => ?_⟩
  refine (L2H.pe_callH (E := fun _ => C8.E0) F (hr.mono hk) hot hg hm kp b (fun _ => pass0H) ha hdb he hpl).run pins s σ H Q I ?_
  have h2 : t σ H fun vs H1 => sp (vs ++ []) H1 Q C8.E0 := h
  simp only [List.append_nil] at h2
  exact h2
theorem pe_mtH0 {pl : Sem Bool} (c : MetH X.prog X.w X.K X.mg X.base k C m sp) (hr : L2H.RoomH j X.A) (hk : k ≤ j) (hot : L2H.HotC X) (he : PE X o ta)
    (ht : eval (.Call (.Attribute o m apos) [] [] pos) X.env = (do
      let ov ← eval o X.env
      standAt apos.atName
      let (f, first) ← holding [ov] (getMethod ov m pl)
      callWith pos f first (backTo pos (starEach [] X.env)) (backToKw pos (keywordEach [] X.env))) := by rfl) :
    PE X (.Call (.Attribute o m apos) [] [] pos) (tMeth C m sp [] C8.E0 ta tNil) := by
  obtain ⟨f, fd, ps, hc, hm, F, b⟩ := c.ex
  refine ⟨fun pins s σ H Q I h => ?_⟩
  refine PySem.W.methodCall_KW (pl := pl) (thn (he.run pins s σ H _ I h) fun u s1 ⟨x, H1, I1, rx, a, dx, fs, ex, ea, l, q⟩ => ?_) ht
  subst ex
  cases (show u = Value.ref a from rx)
  refine getmeth_ok I1 ea hc hm l (PySem.W.callWith_K0 (first := [.ref a]) I1.kIn hm.kp ?_)
  exact L2H.run_fnH (E := fun _ => C8.E0) (us := [.ref a]) (vs := [.ref a]) F (hr.mono hk) hot b pass0H I1 (.cons rfl .nil) (show sp [V.ref a] H1 Q C8.E0 from by have q2 : tNil σ H1 fun vs H2 => sp (V.ref a :: (vs ++ [])) H2 Q C8.E0 := q; exact q2)
end
structure MetX (P : Program) (w : World) (K : PySem.W.Frag) (mg : Str → Option Value) (base : Heap) (k : Nat) (C : Addr) (m : Str) (sp : Sp) (dvs : List V) : Prop where
  ex : ∃ (f : Addr) (fd : FuncData) (ps : List Str) (ds : List Value), Cls K C ∧ Meth K C m f ∧ FnOk P w K mg base (L2N.CX P w) k f fd ps sp ∧ Binds K fd ps ds ∧ Vals dvs ds
section
variable {X : Cx} {k j : Nat} {C : Addr} {m : Str} {sp : Sp} {dvs : List V} {E : XK} {o e : Expr} {es : List Expr} {ta : TE} {t : TA} {apos pos : Pos}
theorem pe_mx {pl : Sem Bool} (c : MetX X.prog X.w X.K X.mg X.base k C m sp dvs) (hr : Room j X.A) (hk : k ≤ j) (hx : Passes (L2N.CX X.prog X.w) X E) (he : PE X o ta) (ha : PA X (e :: es) t)
    (h1 : starEach (e :: es) X.env = (false, eval e X.env) :: starEach es X.env := by rfl) (h2 : (backTo pos (starEach es X.env)).any (·.1) = false := by rfl)
    (h3 : eval (.Call (.Attribute o m apos) (e :: es) [] pos) X.env = (do
      let z ← eval o X.env
      standAt apos.atName
      let (f, first) ← holding [z] (getMethod z m pl)
      callWith pos f first (backTo pos (starEach (e :: es) X.env)) (backToKw pos (keywordEach [] X.env))) := by rfl) :
    PE X (.Call (.Attribute o m apos) (e :: es) [] pos) (tMeth C m sp dvs E ta t) := by
  obtain ⟨f, fd, ps, ds, hc, hm, F, b, d⟩ := c.ex
  exact pe_meth (pl := pl) he hc hm F (hr.mono hk) b d hx ha h1 h2 h3
theorem pe_mx0 {pl : Sem Bool} (c : MetX X.prog X.w X.K X.mg X.base k C m sp dvs) (hr : Room j X.A) (hk : k ≤ j) (hx : Passes (L2N.CX X.prog X.w) X E) (he : PE X o ta)
    (h3 : eval (.Call (.Attribute o m apos) [] [] pos) X.env = (do
      let z ← eval o X.env
      standAt apos.atName
      let (f, first) ← holding [z] (getMethod z m pl)
      callWith pos f first (backTo pos (starEach [] X.env)) (backToKw pos (keywordEach [] X.env))) := by rfl) :
    PE X (.Call (.Attribute o m apos) [] [] pos) (tMeth C m sp dvs E ta tNil) := by
  obtain ⟨f, fd, ps, ds, hc, hm, F, b, d⟩ := c.ex
  exact pe_meth0 (pl := pl) he hc hm F (hr.mono hk) b d hx h3
end
/-- the way out by the error of the class at C, its field v -/
def ErrZ (C : Addr) (E : XK) (H : Hp) (v : Int) : Prop := ∀ d H', H d = none → Same H H' → H' d = some (.xd [(("at" : Str), .int v)]) → E (.ref C) (some d) H'
theorem ErrZ.mono {C : Addr} {E : XK} {H H1 : Hp} {v : Int} (e : ErrZ C E H v) (s : Same H H1) : ErrZ C E H1 v := fun d H' hd s' h => e d H' (s.free hd) (s.trans s') h
section
variable {ta : TA} {D : Ends} {σ : L2.St} {H : Hp} {E : XK} {C : Addr} {v : Int}
def RaiseZ (C : Addr) (E : XK) (vs : List V) (H : Hp) : Prop := ∃ v : Int, vs = [.int v] ∧ v.natAbs.log2 < 1920 ∧ ∀ d, H d = none → E (.ref C) (some d) (upd H d (.xd [(("at" : Str), .int v)]))
theorem w_raiseC (k : ta σ H fun vs H1 => RaiseZ C E vs H1) : tRaiseChg C (fun cls d _ H => E cls d H) ta D σ H := k
theorem raise_Z (hi : v.natAbs ≤ 1000000) (h : ErrZ C E H v) : RaiseZ C E [.int v] H := by
  refine ⟨v, rfl, ?_, fun d hd => h d _ hd (same_new0 hd) upd_same⟩
  by_cases z : v.natAbs = 0
  · rw [z]; decide
  · exact Nat.lt_trans ((Nat.log2_lt z).mpr (show v.natAbs < 2 ^ 31 by omega)) (by decide)
end
/-- done, or refused at a number -/
def OutZ {α : Type} (x : Sum Nat α) (A : α → Prop) (B : Nat → Prop) : Prop := match x with
  | .inr a => A a
  | .inl i => B i
theorem OutZ.r {α : Type} {x : Sum Nat α} {A : α → Prop} {B : Nat → Prop} {a : α} (h : OutZ x A B) (e : x = .inr a) : A a := by rw [e] at h; exact h
theorem OutZ.l {α : Type} {x : Sum Nat α} {A : α → Prop} {B : Nat → Prop} {i : Nat} (h : OutZ x A B) (e : x = .inl i) : B i := by rw [e] at h; exact h
theorem Go.sameOf {F F' : List Addr} {H0 H H' : Hp} (g : Go F F' H H') (s : Same H0 H) (n : ∀ b ∈ F, H0 b = none) : Same H0 H' := fun b o e => g.fr.1 b o (fun z => by rw [n b z] at e; cases e) (s b o e)
end
section
/-! The journal: new, told. -/
open PySem PySem.Spec PyProof.Rows L2
open C8 (Cal Met Mak cal0 pe_c pe_gc pss_cut tCut pe_mt pe_mt0 pe_mk)

local macro_rules | `(tactic| walk_at "dd") => `(tactic| repeat (first
  | walk_at "r1c"
  | with_reducible refine w_dget ?_
  | with_reducible refine w_din ?_
  | with_reducible refine w_dnin ?_
  | with_reducible refine w_dput ?_
  | with_reducible refine w_ddel ?_
  | with_reducible refine w_lenSet ?_
  | with_reducible refine w_lcTt ?_
  | with_reducible refine cTe (by with_unfolding_all decide +kernel) ?_
  | with_reducible refine cTn (by with_unfolding_all decide +kernel) ?_
  | with_reducible refine cNe (by with_unfolding_all decide +kernel) ?_
  | with_reducible refine cNn (by with_unfolding_all decide +kernel) ?_
  | with_reducible refine w_par ?_
  | with_reducible refine w_raiseC ?_
  | with_reducible refine w_lcV ?_
  | with_reducible refine w_lcKk ?_
  | with_reducible refine w_lcZ ?_
  | with_reducible refine w_lcE ?_))

abbrev fldsJ (e g u D : Addr) : List (Str × V) := [("entries", .ref e), ("in_force", .ref g), ("undone", .ref u), ("definitions", .ref D)]
/-- the journal at J: its entries, which of them are in force, what was undone, the definitions; its footprint -/
def JnA (K : PySem.W.Frag) (CJ CS CD J : Addr) (es : List Ch) (fl : List Bool) (un : List Nat) (ds : List Cl) (F : List Addr) (H : Hp) : Prop :=
  ∃ (dx e g u D d : Addr) (R : List Row) (ev : List V), H J = some (.ins CJ dx (fldsJ e g u D)) ∧ H e = some (.lst ev) ∧ TrsAt K H ev (es.map Ch.tr) ∧ H g = some (.lst (fl.map V.bl)) ∧ H u = some (.lst (un.map fun n : Nat => V.int (n : Int))) ∧
    DfW CS CD D d R H ∧ dsOf R = ds ∧ F = J :: e :: g :: u :: foot D d R ∧ F.Nodup
structure JnTx (K : PySem.W.Frag) (mg : Str → Option Value) (CJ : Addr) : Prop where
  cj : Cls K CJ
  n_entries : NoAttr K CJ "entries"
  n_in_force : NoAttr K CJ "in_force"
  n_undone : NoAttr K CJ "undone"
  n_definitions : NoAttr K CJ "definitions"
  c_MOST_CHANGES : ∃ u, mg "MOST_CHANGES" = some u ∧ RelV (.int 60) u
  c_NO_CHANGE : ∃ u, mg "NO_CHANGE" = some u ∧ RelV (.int (-1)) u
theorem JnA.no {K : PySem.W.Frag} {CJ CS CD J : Addr} {es : List Ch} {fl : List Bool} {un : List Nat} {ds : List Cl} {F : List Addr} {H : Hp} (h : JnA K CJ CS CD J es fl un ds F H) : ∀ b ∈ F, NoTup H b := by
  obtain ⟨dx, e, g, u, D, d, R, ev, h1, h2, h3, h4, h5, h6, h7, rfl, h9⟩ := h
  intro b hb
  simp only [List.mem_cons] at hb
  rcases hb with rfl | rfl | rfl | rfl | hb
  · exact nt_ins h1
  · exact nt_lst h2
  · exact nt_lst h4
  · exact nt_lst h5
  · exact h6.no b hb
theorem JnA.keep {K : PySem.W.Frag} {CJ CS CD J : Addr} {es : List Ch} {fl : List Bool} {un : List Nat} {ds : List Cl} {F : List Addr} {H H1 : Hp} (h : JnA K CJ CS CD J es fl un ds F H) (s : Same H H1) : JnA K CJ CS CD J es fl un ds F H1 := by
  obtain ⟨dx, e, g, u, D, d, R, ev, h1, h2, h3, h4, h5, h6, h7, h8, h9⟩ := h
  exact ⟨dx, e, g, u, D, d, R, ev, s _ _ h1, s _ _ h2, h3.same s, s _ _ h4, s _ _ h5, h6.keep (fun b _ o q => s b o q), h7, h8, h9⟩
section
variable {P : Program} {w : World} {K : PySem.W.Frag} {mg : Str → Option Value} {base : Heap} {CS CD CJ : Addr} {k : Nat}
/-- no method -/
def NoM : Ch → Prop
  | .meth _ _ _ => False
  | _ => True
theorem ch_tr {c : Ch} (h : NoM c) : c.ch = c.tr := by cases c <;> first | rfl | exact h.elim
abbrev s_entry_of : Stmt := topS 75
abbrev N_entry_of : List Str := ["change", "tree"]
theorem sc_entry_of : FnScope N_entry_of ["change"] (defScope s_entry_of) := ⟨rfl, rfl, rfl, by decide +kernel, rfl, by decide +kernel, by decide +kernel⟩
def spEntOf (K : PySem.W.Frag) (G : Ch → Prop) : Sp := fun vs H Q _ => ∃ (v : V) (c : Ch), vs = [v] ∧ TrAt K H v c.ch ∧ G c ∧ ∀ v' H', TrAt K H' v' c.tr → Same H H' → Q v' H'
theorem ok_entry_of {f : Addr} {fd : FuncData} (F : Fun K "entry_of" "entry_of" s_entry_of f fd) (Y : Bn mg) : FnOk P w K mg base CX0 1 f fd ["change"] (spEntOf K NoM) := by
  refine F.ok sc_entry_of (fun vs H Q E h => ?_) (fun cdv A outer s H vs Q E hr h => ?_)
  · obtain ⟨v, c, rfl, _⟩ := h
    rfl
  · obtain ⟨v, c, rfl, hv, hc, kQ⟩ := h
    have nd := sc_entry_of.nd
    rw [ch_tr hc] at hv
    have k0 := kQ v H hv fun _ _ h => h
    obtain ⟨p, us, rfl, hp, he⟩ := ent_at hv
    refine ⟨_, (pss_cons (ps_if (pt_cmpR op_ne (pe_ix ix_tup (pv 0) pe_int (fun _ _ => rfl)) pe_str (nomark _)) (pss_one (ps_ret (pv 0))) pss_nil)
      (pss_cons ps_never
      (pss_one ps_never))), ?_⟩
    rw [show L2.start N_entry_of [.ref p] = [some (.ref p), none] from rfl]
    cases c with
    | cls n b ss => obtain ⟨t, rfl, ht⟩ := he; walk_at "dd"; exact k0
    | nocls n => cases he; walk_at "dd"; exact k0
    | slot n a => cases he; walk_at "dd"; exact k0
    | noslot n a => cases he; walk_at "dd"; exact k0
    | meth n sel txt => exact hc.elim
    | nometh n sel => cases he; walk_at "dd"; exact k0
abbrev s_change_of : Stmt := topS 76
abbrev N_change_of : List Str := ["entry"]
theorem sc_change_of : FnScope N_change_of ["entry"] (defScope s_change_of) := ⟨rfl, rfl, rfl, by decide +kernel, rfl, by decide +kernel, by decide +kernel⟩
def spChgOf (K : PySem.W.Frag) : Sp := fun vs H Q _ => ∃ (v : V) (c : Ch), vs = [v] ∧ TrAt K H v c.tr ∧ ∀ v' H', TrAt K H' v' c.ch → Same H H' → Q v' H'
theorem ok_change_of {f : Addr} {fd : FuncData} (F : Fun K "change_of" "change_of" s_change_of f fd) (Y : Bn mg) : FnOk P w K mg base CX0 1 f fd ["entry"] (spChgOf K) := by
  refine F.ok sc_change_of (fun vs H Q E h => ?_) (fun cdv A outer s H vs Q E hr h => ?_)
  · obtain ⟨v, c, rfl, _⟩ := h
    rfl
  · obtain ⟨v, c, rfl, hv, kQ⟩ := h
    have nd := sc_change_of.nd
    obtain ⟨p, us, rfl, hp, he⟩ := ent_at hv
    refine ⟨_, (pss_cons (ps_if (pt_cmpR op_ne (pe_ix ix_tup (pv 0) pe_int (fun _ _ => rfl)) pe_str (nomark _)) (pss_one (ps_ret (pv 0))) pss_nil)
      (pss_one (ps_ret (pe_tup (pa_cons pe_str (pa_cons (pe_ix ix_tup (pv 0) pe_int (fun _ _ => rfl)) (pa_cons (pe_ix ix_tup (pv 0) pe_int (fun _ _ => rfl)) pa_nil))))))), ?_⟩
    rw [show L2.start N_change_of [.ref p] = [some (.ref p)] from rfl]
    have k0 : c.ch = c.tr → Q (.ref p) H := fun e => kQ _ _ (by rw [e]; exact hv) fun _ _ h => h
    cases c with
    | cls n b ss => obtain ⟨t, rfl, ht⟩ := he; walk_at "dd"; exact k0 rfl
    | nocls n => cases he; walk_at "dd"; exact k0 rfl
    | slot n a => cases he; walk_at "dd"; exact k0 rfl
    | noslot n a => cases he; walk_at "dd"; exact k0 rfl
    | meth n sel txt =>
      cases he
      walk_at "dd"
      refine w_newT (by show 3 ≤ 1000000; decide) fun q H1 hq s1 h1 => ?_
      exact kQ _ _ (.t (.inl (.inl h1)) (.cons .s (.cons .s (.cons .s .nil)))) s1
    | nometh n sel => cases he; walk_at "dd"; exact k0 rfl
abbrev s_Journal___init__ : Stmt := inClass (topS 111) 0
abbrev N_Journal___init__ : List Str := ["self"]
theorem sc_Journal___init__ : FnScope N_Journal___init__ ["self"] (defScope s_Journal___init__) := ⟨rfl, rfl, rfl, by decide +kernel, rfl, by decide +kernel, by decide +kernel⟩
def spJnI (K : PySem.W.Frag) (CJ CS CD : Addr) : Sp := fun vs H Q _ => ∃ (x dx : Addr), vs = [.ref x] ∧ H x = some (.ins CJ dx []) ∧
  ∀ F H', JnA K CJ CS CD x [] [] [] [thing] F H' → (∀ b ∈ F, b = x ∨ H b = none) → (∀ b o, b ≠ x → H b = some o → H' b = some o) → (∀ b, H' b = none → H b = none) → Q .non H'
theorem ok_journalI {f : Addr} {fd : FuncData} (F : Fun K "__init__" "Journal.__init__" s_Journal___init__ f fd) (Y : Bn mg) (Z : JnTx K mg CJ) (c_Definitions : Mak P w K mg base 3 "Definitions" CS (spDfsI K CS CD) []) : FnOk P w K mg base CX0 5 f fd ["self"] (spJnI K CJ CS CD) := by
  refine F.ok sc_Journal___init__ (fun vs H Q E h => ?_) (fun cdv A outer s H vs Q E hr h => ?_)
  · obtain ⟨x, dx, rfl, _⟩ := h
    rfl
  · obtain ⟨x, dx, rfl, hx, kQ⟩ := h
    have nd := sc_Journal___init__.nd
    refine ⟨_, (pss_cons (ps_fld (pv 0) (pe_lst pa_nil) rfl)
      (pss_cons (ps_fld (pv 0) (pe_lst pa_nil) rfl)
      (pss_cons (ps_fld (pv 0) (pe_lst pa_nil) rfl)
      (pss_one (ps_fld (pv 0) (pe_mk0 c_Definitions hr (by omega) rfl) rfl))))), ?_⟩
    rw [show L2.start N_Journal___init__ [.ref x] = [some (.ref x)] from rfl]
    walk_at "dd"
    refine w_newL (by show 0 ≤ 1000000; decide) fun e H1 e1 s1 h1 => ?_
    walk_at "dd"
    refine o_set (s1 _ _ hx) Z.cj Z.n_entries (show (0 : Nat) < 1000 from by decide) fun H2 h2 k2 g2 => ?_
    have ne : e ≠ x := fun z => by rw [z, hx] at e1; cases e1
    walk_at "dd"
    refine w_newL (by show 0 ≤ 1000000; decide) fun g H3 e3 s3 h3 => ?_
    walk_at "dd"
    refine o_set (s3 _ _ h2) Z.cj Z.n_in_force (show (1 : Nat) < 1000 from by decide) fun H4 h4 k4 g4 => ?_
    have ng : g ≠ x := fun z => by rw [z, h2] at e3; cases e3
    walk_at "dd"
    refine w_newL (by show 0 ≤ 1000000; decide) fun u H5 e5 s5 h5 => ?_
    walk_at "dd"
    refine o_set (s5 _ _ h4) Z.cj Z.n_undone (show (2 : Nat) < 1000 from by decide) fun H6 h6 k6 g6 => ?_
    have nu : u ≠ x := fun z => by rw [z, h4] at e5; cases e5
    walk_at "dd"
    intro D dD hD hdD nD
    have hl2 : H2 e = some (.lst []) := k2 _ _ ne h1
    have hl4 : H4 e = some (.lst []) := k4 _ _ ne (s3 _ _ hl2)
    have hl6 : H6 e = some (.lst []) := k6 _ _ ne (s5 _ _ hl4)
    have hg4 : H4 g = some (.lst []) := k4 _ _ ng h3
    have hg6 : H6 g = some (.lst []) := k6 _ _ ng (s5 _ _ hg4)
    have hu6 : H6 u = some (.lst []) := k6 _ _ nu h5
    have neg : e ≠ g := fun z => by rw [z, e3] at hl2; cases hl2
    have neu : e ≠ u := fun z => by rw [z, e5] at hl4; cases hl4
    have ngu : g ≠ u := fun z => by rw [z, e5] at hg4; cases hg4
    have up0 : ∀ b o, H6 b = some o → upd (upd H6 dD (.own D)) D (.ins CS dD []) b = some o := fun b o q => by
      rw [upd_ne (fun z => by rw [z, hD] at q; cases q), upd_ne (fun z => by rw [z, hdD] at q; cases q)]; exact q
    have dn0 : ∀ b, upd (upd H6 dD (.own D)) D (.ins CS dD []) b = none → b ≠ D ∧ H6 b = none := fun b q => by
      by_cases z : b = D
      · rw [z, upd_same] at q; cases q
      · rw [upd_ne z] at q
        by_cases z2 : b = dD
        · rw [z2, upd_same] at q; cases q
        · rw [upd_ne z2] at q; exact ⟨z, q⟩
    refine ⟨D, dD, rfl, upd_same, fun d R H7 hR hW hfr k7 g7 => ⟨rfl, ?_⟩⟩
    have up : ∀ b o, H6 b = some o → H7 b = some o := fun b o q => k7 b o (fun z => by rw [z, hD] at q; cases q) (up0 b o q)
    have fre : ∀ b ∈ foot D d R, H6 b = none := fun b hb => by
      rcases hfr b hb with rfl | q
      · exact hD
      · exact (dn0 b q).2
    walk_at "dd"
    refine o_set (up _ _ h6) Z.cj Z.n_definitions (show (3 : Nat) < 1000 from by decide) fun H8 h8 k8 g8 => ?_
    have nin : ∀ {b : Addr} {o : HO}, H6 b = some o → b ∉ foot D d R := fun {b o} q z => by rw [fre b z] at q; cases q
    have hxF := nin h6
    have dn : ∀ b, H6 b = none → H b = none := fun b q => s1.free (g2 _ (s3.free (g4 _ (s5.free (g6 _ q)))))
    refine kQ (x :: e :: g :: u :: foot D d R) H8 ⟨dx, e, g, u, D, d, R, [], h8, k8 _ _ ne (up _ _ hl6), .nil, k8 _ _ ng (up _ _ hg6), k8 _ _ nu (up _ _ hu6), hW.keep (fun b hb o q => k8 b o (fun z => hxF (by rw [← z]; exact hb)) q), hR, rfl, ?_⟩ (fun b hb => ?_) (fun b o n q => ?_) fun b q => ?_
    · have a1 := nin hl6
      have a2 := nin hg6
      have a3 := nin hu6
      simp only [List.nodup_cons, List.mem_cons, not_or]
      exact ⟨⟨ne.symm, ng.symm, nu.symm, hxF⟩, ⟨neg, neu, a1⟩, ⟨ngu, a2⟩, a3, hW.nd⟩
    · simp only [List.mem_cons] at hb
      rcases hb with rfl | rfl | rfl | rfl | hb
      · exact .inl rfl
      · exact .inr e1
      · exact .inr (s1.free (g2 _ e3))
      · exact .inr (s1.free (g2 _ (s3.free (g4 _ e5))))
      · exact .inr (dn b (fre b hb))
    · exact k8 _ _ n (up _ _ (k6 _ _ n (s5 _ _ (k4 _ _ n (s3 _ _ (k2 _ _ n (s1 _ _ q)))))))
    · exact dn b ((dn0 b (g7 b (g8 b q))).2)
abbrev s_Journal_told : Stmt := inClass (topS 111) 2
abbrev N_Journal_told : List Str := ["self", "entry", "flag"]
theorem sc_Journal_told : FnScope N_Journal_told ["self"] (defScope s_Journal_told) := ⟨rfl, rfl, rfl, by decide +kernel, rfl, by decide +kernel, by decide +kernel⟩
def toldT (es : List Ch) (fl : List Bool) : List Tr := List.zipWith (fun c b => .t [Ch.ch c, .b b]) es fl
def spTold (K : PySem.W.Frag) (CJ CS CD : Addr) : Sp := fun vs H Q _ => ∃ (J : Addr) (es : List Ch) (fl : List Bool) (un : List Nat) (ds : List Cl) (F : List Addr), vs = [.ref J] ∧ JnA K CJ CS CD J es fl un ds F H ∧ es.length ≤ 1000 ∧ es.length = fl.length ∧
  ∀ p us H', Same H H' → H p = none → H' p = some (.lst us) → TrsAt K H' us (toldT es fl) → Q (.ref p) H'
theorem ok_told {f : Addr} {fd : FuncData} (F : Fun K "told" "Journal.told" s_Journal_told f fd) (Y : Bn mg) (Y2 : BnD mg) (Z : JnTx K mg CJ) (cchange_of : Cal P w K mg base 1 "change_of" (spChgOf K) []) : FnOk P w K mg base CX0 2 f fd ["self"] (spTold K CJ CS CD) := by
  refine F.ok sc_Journal_told (fun vs H Q E h => ?_) (fun cdv A outer s H vs Q E hr h => ?_)
  · obtain ⟨J, es, fl, un, ds, F, rfl, _⟩ := h
    rfl
  · obtain ⟨J, es, fl, un, ds, F, rfl, hJ, hl, hlf, kQ⟩ := h
    have nd := sc_Journal_told.nd
    obtain ⟨dx, e, g, u, D, d, R, ev, hj, he, het, hg, hu, _⟩ := id hJ
    refine ⟨_, (pss_one (ps_ret (pe_lc (own := [("entry", 1), ("flag", 2)]) (g := gTup K 2 (gCons (gName 1) (gCons (gName 2) gNil))) (tt := tYes) (te := tTup (tCons (tCall (spChgOf K) [] C8.E0 (tCons (tVar 1) tNil)) (tCons (tVar 2) tNil))) rfl nd (pi_zip (by rfl) Y2.n_zip (pa_cons (pe_fld (pv 0) rfl) (pa_cons (pe_fld (pv 0) rfl) pa_nil))) (blkOk_by (own := [("entry", 1), ("flag", 2)]) (N := N_Journal_told) (sc := defScope s_Journal_told) (by decide +kernel)) (fun _ _ _ _ _ => (pg_tup (by rfl) (pgs_cons (pg_name (i := 1) nd rfl (Or.inl rfl)) (pgs_cons (pg_name (i := 2) nd rfl (Or.inl rfl)) pgs_nil)))) (fun _ _ _ _ _ => pts_nil) (fun _ _ _ _ _ => (pe_tup (pa_cons (pe_c cchange_of hr (by decide) rfl (pa_cons (pv 1) pa_nil)) (pa_cons (pv 2) pa_nil))))))), ?_⟩
    rw [show L2.start N_Journal_told [.ref J] = [some (.ref J), none, none] from rfl]
    have hev : ev.length = es.length := by rw [het.length, List.length_map]
    walk_at "dd"
    refine o_fat hj Z.cj Z.n_entries rfl ?_
    walk_at "dd"
    refine o_fat hj Z.cj Z.n_in_force rfl ?_
    walk_at "dd"
    refine ⟨e, g, ev, fl.map V.bl, rfl, SqL.of he, SqL.of hg, ?_⟩
    refine lc_W (walk_zip (K := K) (a := e) (b := g) (xs := ev) (ys := fl.map V.bl) (n := es.length) (by rw [List.length_map]; omega)) (fun L i acc H1 => Same H H1 ∧ H L = none ∧ TrsAt K H1 acc (toldT (es.take i) (fl.take i))) (fun L H1 e1 s1 h1 => ⟨s1, e1, .nil⟩) (fun L i acc H1 _ h => ⟨SqL.of (h.1 _ _ he), SqL.of (h.1 _ _ hg)⟩) ?_ ?_
    · rintro L i v acc H1 H2 hi hacc hL ⟨s1, eL, hT⟩ ⟨q, x, y, rfl, hq, rfl, hx, hy⟩
      obtain ⟨x', t, hx1, ht1, hat⟩ := het.get (i := i) (by rw [List.length_map]; exact hi)
      have hx : ev[i]? = some x := hx
      have hy : (fl.map V.bl)[i]? = some y := hy
      rw [hx] at hx1; cases hx1
      rw [List.getElem?_map] at ht1 hy
      obtain ⟨c, hc, rfl⟩ := Option.map_eq_some_iff.mp ht1
      obtain ⟨b, hb, rfl⟩ := Option.map_eq_some_iff.mp hy
      have s2 : Same H1 (upd H1 q (.tup [x, .bl b])) := same_new0 hq
      refine ⟨q, _, rfl, .inl (.inl upd_same), rfl, ?_⟩
      refine ⟨_, _, rfl, ?_⟩
      walk_at "dd"
      refine ⟨_, _, rfl, ?_⟩
      walk_at "dd"
      refine ⟨rfl, ?_⟩
      walk_at "dd"
      refine ⟨rfl, ?_⟩
      walk_at "dd"
      refine ⟨x, c, rfl, (hat.same s1).same s2, fun v' H3 hv' s3 => ?_⟩
      walk_at "dd"
      refine w_newT (by show 2 ≤ 1000000; decide) fun q4 H4 hq4 s4 h4 => ?_
      have s14 : Same H1 H4 := (s2.trans s3).trans s4
      have hL4 : H4 L = some (.lst acc) := s14 _ _ hL
      refine lc_keep hacc (by omega) hL4 fun H5 h5 k5 => ⟨same_of_but eL (s1.trans s14) k5, eL, ?_⟩
      obtain ⟨hlt, em⟩ := List.getElem?_eq_some_iff.mp hc
      obtain ⟨hlt2, em2⟩ := List.getElem?_eq_some_iff.mp hb
      have et : toldT (es.take (i + 1)) (fl.take (i + 1)) = toldT (es.take i) (fl.take i) ++ [.t [Ch.ch c, .b b]] := by
        unfold toldT
        rw [List.take_succ_eq_append_getElem hlt, em, List.take_succ_eq_append_getElem hlt2, em2, List.zipWith_append (by rw [List.length_take, List.length_take]; omega)]
        rfl
      rw [et]
      have hq45 : H5 q4 = some (.tup [v', .bl b]) := k5 _ _ (fun z => by rw [z] at hq4; have := (s2.trans s3) _ _ hL; rw [hq4] at this; cases this) h4
      exact TrsAt.snoc (.t (.inl (.inl hq45)) (.cons ((hv'.same s4).but hL4 k5) (.cons .b .nil))) ((hT.same s14).but hL4 k5)
    · rintro L acc H1 hacc hL ⟨s1, eL, hT⟩
      rw [List.take_length, hlf, List.take_length] at hT
      exact kQ L acc H1 s1 eL hL hT
end
end
section
/-! The journal: made anew, switched, undone, a change made. -/
open PySem PySem.Spec PyProof.Rows L2
open C8 (Cal Met Mak cal0 pe_c pe_gc pss_cut tCut pe_mt pe_mt0 pe_mk)

local macro_rules | `(tactic| walk_at "dd") => `(tactic| repeat (first
  | walk_at "r1c"
  | with_reducible refine w_dget ?_
  | with_reducible refine w_din ?_
  | with_reducible refine w_dnin ?_
  | with_reducible refine w_dput ?_
  | with_reducible refine w_ddel ?_
  | with_reducible refine w_lenSet ?_
  | with_reducible refine w_lcTt ?_
  | with_reducible refine cTe (by with_unfolding_all decide +kernel) ?_
  | with_reducible refine cTn (by with_unfolding_all decide +kernel) ?_
  | with_reducible refine cNe (by with_unfolding_all decide +kernel) ?_
  | with_reducible refine cNn (by with_unfolding_all decide +kernel) ?_
  | with_reducible refine w_par ?_
  | with_reducible refine w_raiseC ?_
  | with_reducible refine w_lcV ?_
  | with_reducible refine w_lcKk ?_
  | with_reducible refine w_lcZ ?_
  | with_reducible refine w_lcE ?_))

section
variable {P : Program} {w : World} {K : PySem.W.Frag} {mg : Str → Option Value} {base : Heap} {CS CD CJ C fI : Addr} {k : Nat}
theorem Nice.sm {k : Nat} {ds : List Cl} (h : Nice k ds) : Sm ds := ⟨h.1, Nat.le_trans h.2.1 (by decide), fun c hc => Nat.le_trans (h.2.2 c hc).1 (by decide)⟩
abbrev s_Journal_made_of : Stmt := inClass (topS 111) 7
abbrev N_Journal_made_of : List Str := ["self", "in_force", "definitions", "number", "entry"]
theorem sc_Journal_made_of : FnScope N_Journal_made_of ["self", "in_force"] (defScope s_Journal_made_of) := ⟨rfl, rfl, rfl, by decide +kernel, rfl, by decide +kernel, by decide +kernel⟩
def spMade (K : PySem.W.Frag) (CJ CS CD C : Addr) : Sp := fun vs H Q E => ∃ (J ga : Addr) (dx e g u D0 : Addr) (es : List Ch) (fl : List Bool) (ev : List V), vs = [.ref J, .ref ga] ∧ H J = some (.ins CJ dx (fldsJ e g u D0)) ∧ H e = some (.lst ev) ∧ TrsAt K H ev (es.map Ch.tr) ∧ H ga = some (.lst (fl.map V.bl)) ∧
  es.length = fl.length ∧ es.length ≤ 60 ∧ (∀ c ∈ es, ChSm c) ∧ OutZ (madeM [thing] 0 (es.zip fl)) (fun ds => ∀ D d R H', dsOf R = ds → DfW CS CD D d R H' → (∀ b ∈ foot D d R, H b = none) → Same H H' → Q (.ref D) H') (fun i => ErrZ C E H (i : Int))
theorem ok_made_of {f : Addr} {fd : FuncData} (F : Fun K "made_of" "Journal.made_of" s_Journal_made_of f fd) (Y : Bn mg) (Z : JnTx K mg CJ) (ZD : DfTx K mg CS CD) (T : PySem.ChgX.ChgTxt P K mg "ChangeRefused" C fI) (c_Definitions : Mak P w K mg base 3 "Definitions" CS (spDfsI K CS CD) []) (m_refuses : Met P w K mg base 5 CS "refuses" (spRefu K CS CD) []) (m_carry_out : Met P w K mg base 3 CS "carry_out" (spCarr K CS CD) []) :
    FnOk P w K mg base (L2N.CX P w) 6 f fd ["self", "in_force"] (spMade K CJ CS CD C) := by
  refine fun_okXN F sc_Journal_made_of (fun vs H Q E h => ?_) (fun cdv A outer s H vs Q E hr h => ?_)
  · obtain ⟨J, ga, dx, e, g, u, D0, es, fl, ev, rfl, _⟩ := h
    rfl
  · obtain ⟨J, ga, dx, e, g, u, D0, es, fl, ev, rfl, hj, he, het, hg, hlen, hl60, hsm, out⟩ := h
    have nd := sc_Journal_made_of.nd
    refine ⟨_, (pss_cons (ps_set (i := 2) nd rfl (Or.inl rfl) (pe_mk0 c_Definitions hr (by omega) rfl))
      (pss_cons (ps_for poN_of rfl (pi_enum (by rfl) Y.n_enumerate (pa_cons (pe_fld (pv 0) rfl) pa_nil)) (pg_tup (by rfl) (pgs_cons (pg_name (i := 3) nd rfl (Or.inl rfl)) (pgs_cons (pg_name (i := 4) nd rfl (Or.inl rfl)) pgs_nil))) (pss_one (ps_if (pt_val (pe_ix ix_list (pv 1) (pv 3) (fun _ _ => rfl))) (pss_cons (ps_if (pt_val (pe_mt m_refuses hr (by omega) (pv 2) (pa_cons (pv 4) pa_nil))) (pss_one (ps_raiseChgN rfl T hr tkN_of (pa_cons (pv 3) pa_nil))) pss_nil)
      (pss_one (ps_expr (pe_mt m_carry_out hr (by omega) (pv 2) (pa_cons (pv 4) pa_nil))))) pss_nil)))
      (pss_one (ps_ret (pv 2))))), ?_⟩
    rw [show L2.start N_Journal_made_of [.ref J, .ref ga] = [some (.ref J), some (.ref ga), none, none, none] from rfl]
    walk_at "dd"
    intro D dD hD hdD nD
    have s0 : Same H (upd (upd H dD (.own D)) D (.ins CS dD [])) := (same_new0 hdD).trans (same_new0 (by rw [upd_ne nD.symm]; exact hD))
    have dn0 : ∀ b, upd (upd H dD (.own D)) D (.ins CS dD []) b = none → H b = none := fun b q => s0.free q
    refine ⟨D, dD, rfl, upd_same, fun d R H1 hR hW hfr k1 g1 => ⟨rfl, ?_⟩⟩
    have s1 : Same H H1 := fun b o q => k1 b o (fun z => by rw [z, hD] at q; cases q) (s0 b o q)
    have fre : ∀ b ∈ foot D d R, H b = none := fun b hb => by
      rcases hfr b hb with rfl | q
      · exact hD
      · exact dn0 b q
    walk_at "dd"
    refine o_fat (s1 _ _ hj) Z.cj Z.n_entries rfl ?_
    walk_at "dd"
    have hev : ev.length = es.length := by rw [het.length, List.length_map]
    refine for_El (xs := ev) (fun i σ' H' => ∃ (d : Addr) (R : List Row) (x y : Option V), σ' = [some (.ref J), some (.ref ga), some (.ref D), x, y] ∧ DfW CS CD D d R H' ∧ Nice i (dsOf R) ∧ madeM [thing] 0 (es.zip fl) = madeM (dsOf R) i ((es.zip fl).drop i) ∧ (∀ b ∈ foot D d R, H b = none) ∧ Same H H')
      ⟨d, R, none, none, rfl, hW, by rw [hR]; exact nice0, by rw [hR]; rfl, fre, s1⟩ (fun i σ' H' _ h => by obtain ⟨_, _, _, _, _, _, _, _, _, s⟩ := h; exact SqL.of (s _ _ he)) ?_ ?_
    · rintro i v σ' H2 p H3 hv ⟨d, R, x, y, rfl, hW, hN, em, fre, s2⟩ hp s3 h3
      have hi : i < es.length := by
        have := (List.getElem?_eq_some_iff.mp hv).1
        omega
      obtain ⟨v', t, hv1, ht, hat⟩ := het.get (i := i) (by rw [List.length_map]; exact hi)
      rw [hv] at hv1; cases hv1
      rw [List.getElem?_map] at ht
      obtain ⟨c, hc, rfl⟩ := Option.map_eq_some_iff.mp ht
      have s23 := s2.trans s3
      have hW3 := hW.keep (H1 := H3) fun b _ o q => s3 b o q
      have hb : fl[i]? = some (fl[i]'(by omega)) := List.getElem?_eq_getElem _
      generalize fl[i]'(by omega) = b at hb
      have hz : (es.zip fl).drop i = (c, b) :: (es.zip fl).drop (i + 1) := by
        have hlt : i < (es.zip fl).length := by rw [List.length_zip]; omega
        rw [List.drop_eq_getElem_cons hlt]
        congr 1
        have h1 := List.getElem?_eq_getElem hlt
        rw [(List.getElem?_zip_eq_some (z := (c, b))).mpr ⟨hc, hb⟩] at h1
        exact (Option.some.inj h1).symm
      rw [hz, madeM_cons] at em
      refine ⟨p, _, rfl, .inl (.inl h3), rfl, ?_⟩
      refine ⟨_, _, rfl, ?_⟩
      walk_at "dd"
      refine ⟨_, _, rfl, ?_⟩
      walk_at "dd"
      refine ⟨rfl, ?_⟩
      walk_at "dd"
      refine w_ixL (SqL.of (s23 _ _ hg)) (atI_nat (by rw [List.getElem?_map, hb]; rfl)) ?_
      refine ⟨b, rfl, ?_⟩
      cases b with
      | false =>
        rw [if_neg Bool.false_ne_true] at em
        rw [if_neg Bool.false_ne_true]
        walk_at "dd"
        exact ⟨d, R, _, _, rfl, hW3, hN.mono (Nat.le_succ i), em, fre, s23⟩
      | true =>
        rw [if_pos rfl] at em
        rw [if_pos rfl]
        obtain ⟨⟨dxD, hDo⟩, _⟩ := id hW3
        walk_at "dd"
        refine o_mat hDo rfl ?_
        walk_at "dd"
        refine ⟨D, d, R, v, c, rfl, hW3, hN.sm, hat.same s23, hsm c (List.mem_of_getElem? hc), fun H4 s4 => ?_⟩
        refine ⟨_, rfl, ?_⟩
        have s24 := s23.trans s4
        cases hr2 : refM (dsOf R) c with
        | true =>
          rw [if_pos rfl]
          rw [if_pos hr2] at em
          walk_at "dd"
          exact raise_Z (by omega) ((out.l em).mono s24)
        | false =>
          rw [if_neg Bool.false_ne_true]
          rw [if_neg (by rw [hr2]; exact Bool.false_ne_true)] at em
          walk_at "dd"
          have hW4 := hW3.keep (H1 := H4) fun b _ o q => s4 b o q
          obtain ⟨⟨dxD4, hDo4⟩, _⟩ := id hW4
          refine o_mat hDo4 rfl ?_
          walk_at "dd"
          refine ⟨D, d, R, v, c, rfl, hW4, hN.sm, hat.same s24, hsm c (List.mem_of_getElem? hc), hr2, fun q hq => Nat.le_trans (hN.2.2 q hq).2 (by omega), fun R' H5 hR' hW5 go5 => ?_⟩
          obtain ⟨⟨dxD5, hDo5⟩, _⟩ := id hW5
          exact ⟨d, R', _, _, rfl, hW5, by rw [hR']; exact hN.car hr2, by rw [hR']; exact em, fun b hb => (go5.nw b hb).elim (fre b) fun q => s24.free q, go5.sameOf s24 fre⟩
    · rintro σ' H2 ⟨d, R, x, y, rfl, hW, hN, em, fre, s2⟩
      rw [List.drop_eq_nil_of_le (by rw [List.length_zip]; omega)] at em
      walk_at "dd"
      exact out.r em D d R H2 rfl hW fre s2
end
end
section
/-! The journal: switched, undone, a change made. -/
open PySem PySem.Spec PyProof.Rows L2
open C8 (Cal Met Mak cal0 pe_c pe_gc pss_cut tCut pe_mt pe_mt0 pe_mk)

local macro_rules | `(tactic| walk_at "dd") => `(tactic| repeat (first
  | walk_at "r1c"
  | with_reducible refine w_dget ?_
  | with_reducible refine w_din ?_
  | with_reducible refine w_dnin ?_
  | with_reducible refine w_dput ?_
  | with_reducible refine w_ddel ?_
  | with_reducible refine w_lenSet ?_
  | with_reducible refine w_lcTt ?_
  | with_reducible refine cTe (by with_unfolding_all decide +kernel) ?_
  | with_reducible refine cTn (by with_unfolding_all decide +kernel) ?_
  | with_reducible refine cNe (by with_unfolding_all decide +kernel) ?_
  | with_reducible refine cNn (by with_unfolding_all decide +kernel) ?_
  | with_reducible refine w_par ?_
  | with_reducible refine w_raiseC ?_
  | with_reducible refine w_lcV ?_
  | with_reducible refine w_lcKk ?_
  | with_reducible refine w_lcZ ?_
  | with_reducible refine w_lcE ?_))

section
variable {P : Program} {w : World} {K : PySem.W.Frag} {mg : Str → Option Value} {base : Heap} {CS CD CJ C fI : Addr} {k : Nat}
theorem set_bl (fl : List Bool) (i : Nat) (b : Bool) : (fl.map V.bl).set i (.bl b) = (fl.set i b).map V.bl := List.map_set.symm
/-- what a journal's method leaves -/
def JnQ (K : PySem.W.Frag) (CJ CS CD J : Addr) (es : List Ch) (fl : List Bool) (un : List Nat) (ds : List Cl) (F : List Addr) (H : Hp) (R : Hp → Prop) : Prop := ∀ F' H', JnA K CJ CS CD J es fl un ds F' H' → Go F F' H H' → R H'
abbrev s_Journal_switch : Stmt := inClass (topS 111) 6
abbrev N_Journal_switch : List Str := ["self", "number", "flag", "in_force"]
theorem sc_Journal_switch : FnScope N_Journal_switch ["self", "number", "flag"] (defScope s_Journal_switch) := ⟨rfl, rfl, rfl, by decide +kernel, rfl, by decide +kernel, by decide +kernel⟩
def spSwit (K : PySem.W.Frag) (CJ CS CD C : Addr) : Sp := fun vs H Q E => ∃ (J : Addr) (i : Nat) (b : Bool) (es : List Ch) (fl : List Bool) (un : List Nat) (ds : List Cl) (F : List Addr), vs = [.ref J, .int (i : Int), .bl b] ∧ JnA K CJ CS CD J es fl un ds F H ∧ i < fl.length ∧
  es.length = fl.length ∧ es.length ≤ 60 ∧ (∀ c ∈ es, ChSm c) ∧ OutZ (madeM [thing] 0 (es.zip (fl.set i b))) (fun ds' => JnQ K CJ CS CD J es (fl.set i b) un ds' F H (Q .non)) (fun j => ErrZ C E H (j : Int))
theorem ok_switch {f : Addr} {fd : FuncData} (F : Fun K "switch" "Journal.switch" s_Journal_switch f fd) (Y : Bn mg) (Z : JnTx K mg CJ) (m_made_of : MetX P w K mg base 6 CJ "made_of" (spMade K CJ CS CD C) []) :
    FnOk P w K mg base (L2N.CX P w) 7 f fd ["self", "number", "flag"] (spSwit K CJ CS CD C) := by
  refine fun_okXN F sc_Journal_switch (fun vs H Q E h => ?_) (fun cdv A outer s H vs Q E hr h => ?_)
  · obtain ⟨J, i, b, es, fl, un, ds, F, rfl, _⟩ := h
    rfl
  · obtain ⟨J, i, b, es, fl, un, ds, F, rfl, hJ, hi, hlen, hl60, hsm, out⟩ := h
    have nd := sc_Journal_switch.nd
    obtain ⟨dx, e, g, u, D, d, R, ev, hj, he, het, hg, hu, hW, hR, rfl, hnd⟩ := id hJ
    refine ⟨_, (pss_cons (ps_set (i := 3) nd rfl (Or.inl rfl) (pe_callTy call_listOf (by rfl) Y.n_list (by decide +kernel) (pa_cons (pe_fld (pv 0) rfl) pa_nil)))
      (pss_cons (ps_asg (pv 2) (pg_sub (pv 3) (pv 1) set_list))
      (pss_cons (ps_fld (pv 0) (pe_mx m_made_of hr (by decide) pxN_of (pv 0) (pa_cons (pv 3) pa_nil)) rfl)
      (pss_one (ps_fld (pv 0) (pv 3) rfl))))), ?_⟩
    rw [show L2.start N_Journal_switch [.ref J, .int (i : Int), .bl b] = [some (.ref J), some (.int (i : Int)), some (.bl b), none] from rfl]
    walk_at "dd"
    refine o_fat hj Z.cj Z.n_in_force rfl ?_
    walk_at "dd"
    refine w_list2 (SqL.of hg) fun l H1 hl s1 h1 => ?_
    walk_at "dd"
    refine w_setL (n := i) h1 (by unfold ixN; rw [if_pos (by omega), if_pos (by rw [List.length_map]; omega)]; simp) ?_
    rw [set_bl]
    have k2 : ∀ y o, H y = some o → upd H1 l (.lst ((fl.set i b).map V.bl)) y = some o := fun y o q => by
      rw [upd_ne (fun z => by rw [z, hl] at q; cases q)]; exact s1 _ _ q
    have g2 : ∀ y, upd H1 l (.lst ((fl.set i b).map V.bl)) y = none → H y = none := fun y q => by
      by_cases z : y = l
      · rw [z, upd_same] at q; cases q
      · rw [upd_ne z] at q; exact s1.free q
    have hl2 : upd H1 l (.lst ((fl.set i b).map V.bl)) l = some (.lst ((fl.set i b).map V.bl)) := upd_same
    have s2 : Same H (upd H1 l (.lst ((fl.set i b).map V.bl))) := k2
    generalize upd H1 l (.lst ((fl.set i b).map V.bl)) = H2 at k2 g2 hl2 s2 ⊢
    walk_at "dd"
    refine o_mat (k2 _ _ hj) rfl ?_
    walk_at "dd"
    refine ⟨J, l, dx, e, g, u, D, es, fl.set i b, ev, rfl, k2 _ _ hj, k2 _ _ he, het.same s2, hl2, by rw [List.length_set]; exact hlen, hl60, hsm, ?_⟩
    cases hm : madeM [thing] 0 (es.zip (fl.set i b)) with
    | inl j => exact (out.l hm).mono s2
    | inr ds' =>
      intro D' d' R' H3 hR' hW' hfr s3
      have o2 := out.r hm
      walk_at "dd"
      refine o_set (s3 _ _ (k2 _ _ hj)) Z.cj Z.n_definitions (show (4 : Nat) < 1000 from by decide) fun H4 h4 k4 g4 => ?_
      walk_at "dd"
      refine o_set h4 Z.cj Z.n_in_force (show (4 : Nat) < 1000 from by decide) fun H5 h5 k5 g5 => ?_
      have h5' : H5 J = some (.ins CJ dx (fldsJ e l u D')) := h5
      simp only [List.nodup_cons, List.mem_cons, not_or] at hnd
      obtain ⟨⟨n1, n2, n3, n4⟩, ⟨n5, n6, n7⟩, ⟨n8, n9⟩, n10, n11⟩ := hnd
      have up : ∀ y o, y ≠ J → H y = some o → H5 y = some o := fun y o n q => k5 _ _ n (k4 _ _ n (s3 _ _ (k2 _ _ q)))
      have nin : ∀ {y : Addr} {o : HO}, H2 y = some o → y ∉ foot D' d' R' := fun {y o} q z => by rw [hfr y z] at q; cases q
      have nl : ∀ {y : Addr} {o : HO}, H y = some o → y ≠ l := fun {y o} q z => by rw [z, hl] at q; cases q
      have hJF := nin (k2 _ _ hj)
      have s5 : ∀ y ∈ foot D' d' R', ∀ o, H3 y = some o → H5 y = some o := fun y hy o q => by
        have n : y ≠ J := fun z => hJF (by rw [← z]; exact hy)
        exact k5 _ _ n (k4 _ _ n q)
      have ht5 : TrsAt K H5 ev (es.map Ch.tr) := (het.same (s2.trans s3)).imp fun _ _ q => sqT_ins (sqT_ins q (s3 _ _ (k2 _ _ hj)) k4) h4 k5
      refine o2 (J :: e :: l :: u :: foot D' d' R') H5 ⟨dx, e, l, u, D', d', R', ev, h5', up _ _ (fun z => n1 z.symm) he, ht5, k5 _ _ (nl hj).symm (k4 _ _ (nl hj).symm (s3 _ _ hl2)), up _ _ (fun z => n3 z.symm) hu, hW'.keep s5, hR', rfl, ?_⟩ ⟨⟨fun y o n q => up y o (fun z => n (by rw [z]; exact List.mem_cons_self)) q, fun y q => g2 y (s3.free (g4 y (g5 y q)))⟩, fun y hy => ?_⟩
      · simp only [List.nodup_cons, List.mem_cons, not_or]
        exact ⟨⟨n1, nl hj, n3, hJF⟩, ⟨nl he, n6, nin (k2 _ _ he)⟩, ⟨(nl hu).symm, nin hl2⟩, nin (k2 _ _ hu), hW'.nd⟩
      · simp only [List.mem_cons] at hy ⊢
        rcases hy with rfl | rfl | rfl | rfl | hy
        · exact .inl (.inl rfl)
        · exact .inl (.inr (.inl rfl))
        · exact .inr hl
        · exact .inl (.inr (.inr (.inr (.inl rfl))))
        · exact .inr (g2 y (hfr y hy))
abbrev s_Journal_make : Stmt := inClass (topS 111) 1
abbrev N_Journal_make : List Str := ["self", "change", "entry", "number"]
theorem sc_Journal_make : FnScope N_Journal_make ["self", "change"] (defScope s_Journal_make) := ⟨rfl, rfl, rfl, by decide +kernel, rfl, by decide +kernel, by decide +kernel⟩
def spJMak (K : PySem.W.Frag) (CJ CS CD C : Addr) (G : Ch → Prop) : Sp := fun vs H Q E => ∃ (J : Addr) (v : V) (c : Ch) (es : List Ch) (fl : List Bool) (un : List Nat) (ds : List Cl) (F : List Addr) (n : Nat), vs = [.ref J, v] ∧ JnA K CJ CS CD J es fl un ds F H ∧ TrAt K H v c.ch ∧ G c ∧ ChSm c ∧
  Nice n ds ∧ n ≤ 60 ∧ es.length ≤ 60 ∧ fl.length ≤ 60 ∧ (if 60 ≤ es.length ∨ refM ds c = true then ErrZ C E H (es.length : Int) else JnQ K CJ CS CD J (es ++ [c]) (fl ++ [true]) [] (carM ds c) F H (Q (.int (es.length : Int))))
theorem ok_make {G : Ch → Prop} {f : Addr} {fd : FuncData} (F : Fun K "make" "Journal.make" s_Journal_make f fd) (Y : Bn mg) (Z : JnTx K mg CJ) (T : PySem.ChgX.ChgTxt P K mg "ChangeRefused" C fI) (centry_of : Cal P w K mg base 1 "entry_of" (spEntOf K G) []) (m_refuses : Met P w K mg base 5 CS "refuses" (spRefu K CS CD) []) (m_carry_out : Met P w K mg base 3 CS "carry_out" (spCarr K CS CD) []) :
    FnOk P w K mg base (L2N.CX P w) 7 f fd ["self", "change"] (spJMak K CJ CS CD C G) := by
  refine fun_okXN F sc_Journal_make (fun vs H Q E h => ?_) (fun cdv A outer s H vs Q E hr h => ?_)
  · obtain ⟨J, v, c, es, fl, un, ds, F, n, rfl, _⟩ := h
    rfl
  · obtain ⟨J, v, c, es, fl, un, ds, F, n, rfl, hJ, hv, hG, hsm, hN, hn60, hl60, hf60, out⟩ := h
    have nd := sc_Journal_make.nd
    refine ⟨_, (pss_cons (ps_set (i := 2) nd rfl (Or.inl rfl) (pe_c centry_of hr (by decide) rfl (pa_cons (pv 1) pa_nil)))
      (pss_cons (ps_set (i := 3) nd rfl (Or.inl rfl) (pe_callB call_lenL (by rfl) Y.n_len (by decide +kernel) (pa_cons (pe_fld (pv 0) rfl) pa_nil)))
      (pss_cons (ps_if (PW.pt (pw_or (pt_cmpR op_ge (pv 3) (pe_gc rfl Z.c_MOST_CHANGES) (nomark _)) (pw_or1 (pt_val (pe_mt m_refuses hr (by omega) (pe_fld (pv 0) rfl) (pa_cons (pv 2) pa_nil)))))) (pss_one (ps_raiseChgN rfl T hr tkN_of (pa_cons (pv 3) pa_nil))) pss_nil)
      (pss_cons (ps_expr (pe_mt m_carry_out hr (by omega) (pe_fld (pv 0) rfl) (pa_cons (pv 2) pa_nil)))
      (pss_cons (ps_expr (pe_bm PySem.F.plainAttrs_list PySem.F.slot_list_append PySem.F.type_list_append mt_append (pe_fld (pv 0) rfl) (pa_cons (pv 2) pa_nil)))
      (pss_cons (ps_expr (pe_bm PySem.F.plainAttrs_list PySem.F.slot_list_append PySem.F.type_list_append mt_append (pe_fld (pv 0) rfl) (pa_cons pe_bl pa_nil)))
      (pss_cons (ps_fld (pv 0) (pe_lst pa_nil) rfl)
      (pss_one (ps_ret (pv 3)))))))))), ?_⟩
    rw [show L2.start N_Journal_make [.ref J, v] = [some (.ref J), some v, none, none] from rfl]
    walk_at "dd"
    refine ⟨v, c, rfl, hv, hG, fun v1 H1 hv1 s1 => ?_⟩
    have hJ1 := hJ.keep s1
    obtain ⟨dx, e, g, u, D, d, R, ev, hj, he, het, hg, hu, hW, rfl, rfl, hnd⟩ := id hJ1
    have hev : ev.length = es.length := by rw [het.length, List.length_map]
    walk_at "dd"
    refine o_fat hj Z.cj Z.n_entries rfl ?_
    walk_at "dd"
    rw [hev]
    refine w_if (fun h60 => ?_) (fun h60 => ?_)
    · rw [if_pos (.inl (by omega))] at out
      walk_at "dd"
      exact raise_Z (by omega) (out.mono s1)
    walk_at "dd"
    refine o_fat hj Z.cj Z.n_definitions rfl ?_
    walk_at "dd"
    obtain ⟨⟨dxD, hDo⟩, _⟩ := id hW
    refine o_mat hDo rfl ?_
    walk_at "dd"
    refine ⟨D, d, R, v1, c, rfl, hW, hN.sm, hv1, hsm, fun H2 s2 => ?_⟩
    refine ⟨_, rfl, ?_⟩
    cases hr2 : refM (dsOf R) c with
    | true =>
      rw [if_pos (.inr hr2)] at out
      rw [if_pos rfl]
      walk_at "dd"
      exact raise_Z (by omega) (out.mono (s1.trans s2))
    | false =>
      rw [if_neg (fun z => z.elim (fun q => h60 (by omega)) fun q => by rw [hr2] at q; cases q)] at out
      rw [if_neg Bool.false_ne_true]
      walk_at "dd"
      have hW2 := hW.keep (H1 := H2) fun b _ o q => s2 b o q
      obtain ⟨⟨dxD2, hDo2⟩, _⟩ := id hW2
      refine o_fat (s2 _ _ hj) Z.cj Z.n_definitions rfl ?_
      walk_at "dd"
      refine o_mat hDo2 rfl ?_
      walk_at "dd"
      refine ⟨D, d, R, v1, c, rfl, hW2, hN.sm, hv1.same s2, hsm, hr2, fun q hq => Nat.le_trans (hN.2.2 q hq).2 (by omega), fun R' H3 hR' hW3 go3 => ?_⟩
      simp only [List.nodup_cons, List.mem_cons, not_or] at hnd
      obtain ⟨⟨n1, n2, n3, n4⟩, ⟨n5, n6, n7⟩, ⟨n8, n9⟩, n10, n11⟩ := hnd
      have hj3 := go3.fr.1 _ _ n4 (s2 _ _ hj)
      have he3 := go3.fr.1 _ _ n7 (s2 _ _ he)
      have hg3 := go3.fr.1 _ _ n9 (s2 _ _ hg)
      have hu3 := go3.fr.1 _ _ n10 (s2 _ _ hu)
      have nt3 := hW2.no
      have ht3 := (het.same s2).frL go3.fr nt3
      have hv3 := (hv1.same s2).frL go3.fr nt3
      have nF : ∀ {y : Addr} {o : HO}, y ∉ foot D d R → H2 y = some o → y ∉ foot D d R' := fun {y o} n q z => (go3.nw y z).elim n fun q2 => by rw [q] at q2; cases q2
      walk_at "dd"
      refine o_fat hj3 Z.cj Z.n_entries rfl ?_
      refine ⟨tyL (SqL.of he3), ?_⟩
      walk_at "dd"
      refine w_app2 he3 (by omega) fun H4 h4 k4 => ?_
      have hj4 := k4 _ _ n1 hj3
      have hg4 := k4 _ _ (fun z => n5 z.symm) hg3
      have hu4 := k4 _ _ (fun z => n6 z.symm) hu3
      walk_at "dd"
      refine o_fat hj4 Z.cj Z.n_in_force rfl ?_
      refine ⟨tyL (SqL.of hg4), ?_⟩
      walk_at "dd"
      refine w_app2 hg4 (by rw [List.length_map]; omega) fun H5 h5 k5 => ?_
      have hj5 := k5 _ _ n2 hj4
      have he5 := k5 _ _ n5 h4
      have hu5 := k5 _ _ (fun z => n8 z.symm) hu4
      walk_at "dd"
      refine w_newL (by show 0 ≤ 1000000; decide) fun u' H6 hu' s6 h6 => ?_
      walk_at "dd"
      refine o_set (s6 _ _ hj5) Z.cj Z.n_undone (show (4 : Nat) < 1000 from by decide) fun H7 h7 k7 g7 => ?_
      have h7' : H7 J = some (.ins CJ dx (fldsJ e g u' D)) := h7
      have nu' : ∀ {y : Addr} {o : HO}, H5 y = some o → y ≠ u' := fun {y o} q z => by rw [z, hu'] at q; cases q
      walk_at "dd"
      have hF3 := hW3.no
      have s47 : ∀ y ∈ foot D d R', ∀ o, H3 y = some o → H7 y = some o := fun y hy o q => by
        have a1 : y ≠ e := fun z => nF n7 (s2 _ _ he) (by rw [← z]; exact hy)
        have a2 : y ≠ g := fun z => nF n9 (s2 _ _ hg) (by rw [← z]; exact hy)
        have a3 : y ≠ J := fun z => nF n4 (s2 _ _ hj) (by rw [← z]; exact hy)
        exact k7 _ _ a3 (s6 _ _ (k5 _ _ a2 (k4 _ _ a1 q)))
      have step : ∀ {p : Addr} {vs : List V}, SqT K H3 p vs → SqT K H7 p vs := fun {p vs} q => sqT_ins (Same.sqT s6 (sqT_but (sqT_but q he3 k4) hg4 k5)) (s6 _ _ hj5) k7
      have ht7 : TrsAt K H7 (ev ++ [v1]) ((es ++ [c]).map Ch.tr) := by
        rw [List.map_append]
        exact TrsAt.snoc (hv3.imp fun _ _ q => step q) (ht3.imp fun _ _ q => step q)
      have hg7 : H7 g = some (.lst ((fl ++ [true]).map V.bl)) := by
        rw [List.map_append]
        exact k7 _ _ (fun z => n2 z.symm) (s6 _ _ h5)
      have he7 : H7 e = some (.lst (ev ++ [v1])) := k7 _ _ (fun z => n1 z.symm) (s6 _ _ he5)
      have hu7 : H7 u' = some (.lst (([] : List Nat).map fun n : Nat => V.int (n : Int))) := k7 _ _ (nu' hj5).symm h6
      have u'n : H5 u' = none := hu'
      have u0 : H u' = none := by
        have q4 : H4 u' = none := by
          cases q : H4 u' with
          | none => rfl
          | some o =>
            by_cases z : u' = g
            · rw [z, h5] at u'n; cases u'n
            · rw [k5 _ _ z q] at u'n; cases u'n
        have q3 : H3 u' = none := by
          cases q : H3 u' with
          | none => rfl
          | some o =>
            by_cases z : u' = e
            · rw [z, h4] at q4; cases q4
            · rw [k4 _ _ z q] at q4; cases q4
        exact s1.free (s2.free (go3.fr.2 _ q3))
      have nFu : u' ∉ foot D d R' := fun z => by
        obtain ⟨o, q, _⟩ := hF3 _ z
        have a1 : u' ≠ e := fun z => by rw [z, he5] at u'n; cases u'n
        have a2 : u' ≠ g := fun z => by rw [z, h5] at u'n; cases u'n
        rw [k5 _ _ a2 (k4 _ _ a1 q)] at u'n
        cases u'n
      refine out (J :: e :: g :: u' :: foot D d R') H7 ⟨dx, e, g, u', D, d, R', _, h7', he7, ht7, hg7, hu7, hW3.keep s47, hR', rfl, ?_⟩ ⟨⟨fun y o n q => ?_, fun y q => ?_⟩, fun y hy => ?_⟩
      · simp only [List.nodup_cons, List.mem_cons, not_or]
        exact ⟨⟨n1, n2, nu' hj5, nF n4 (s2 _ _ hj)⟩, ⟨n5, nu' he5, nF n7 (s2 _ _ he)⟩, ⟨nu' h5, nF n9 (s2 _ _ hg)⟩, nFu, hW3.nd⟩
      · simp only [List.mem_cons, not_or] at n
        exact k7 _ _ n.1 (s6 _ _ (k5 _ _ n.2.2.1 (k4 _ _ n.2.1 (go3.fr.1 _ _ n.2.2.2.2 (s2 _ _ (s1 _ _ q))))))
      · have q5 := s6.free (g7 y q)
        have q4 : H4 y = none := by
          cases q : H4 y with
          | none => rfl
          | some o =>
            by_cases z : y = g
            · rw [z, h5] at q5; cases q5
            · rw [k5 _ _ z q] at q5; cases q5
        have q3 : H3 y = none := by
          cases q : H3 y with
          | none => rfl
          | some o =>
            by_cases z : y = e
            · rw [z, h4] at q4; cases q4
            · rw [k4 _ _ z q] at q4; cases q4
        exact s1.free (s2.free (go3.fr.2 _ q3))
      · simp only [List.mem_cons] at hy ⊢
        rcases hy with rfl | rfl | rfl | rfl | hy
        · exact .inl (.inl rfl)
        · exact .inl (.inr (.inl rfl))
        · exact .inl (.inr (.inr (.inl rfl)))
        · exact .inr u0
        · exact (go3.nw y hy).elim (fun q => .inl (.inr (.inr (.inr (.inr q))))) fun q => .inr (s1.free (s2.free q))
end
end
section
/-! The journal undone; the world and the image. -/
open PySem PySem.Spec PyProof.Rows L2
open C8 (Cal Met Mak cal0 pe_c pe_gc pss_cut tCut pe_mt pe_mt0 pe_mk)

local macro_rules | `(tactic| walk_at "dd") => `(tactic| repeat (first
  | walk_at "r1c"
  | with_reducible refine w_dget ?_
  | with_reducible refine w_din ?_
  | with_reducible refine w_dnin ?_
  | with_reducible refine w_dput ?_
  | with_reducible refine w_ddel ?_
  | with_reducible refine w_lenSet ?_
  | with_reducible refine w_lcTt ?_
  | with_reducible refine cTe (by with_unfolding_all decide +kernel) ?_
  | with_reducible refine cTn (by with_unfolding_all decide +kernel) ?_
  | with_reducible refine cNe (by with_unfolding_all decide +kernel) ?_
  | with_reducible refine cNn (by with_unfolding_all decide +kernel) ?_
  | with_reducible refine w_par ?_
  | with_reducible refine w_raiseC ?_
  | with_reducible refine w_lcV ?_
  | with_reducible refine w_lcKk ?_
  | with_reducible refine w_lcZ ?_
  | with_reducible refine w_lcE ?_))

section
variable {P : Program} {w : World} {K : PySem.W.Frag} {mg : Str → Option Value} {base : Heap} {CS CD CJ CW CI C fI : Addr} {k : Nat}
abbrev s_Journal_undo : Stmt := inClass (topS 111) 3
abbrev N_Journal_undo : List Str := ["self", "number", "flag", "standing"]
theorem sc_Journal_undo : FnScope N_Journal_undo ["self"] (defScope s_Journal_undo) := ⟨rfl, rfl, rfl, by decide +kernel, rfl, by decide +kernel, by decide +kernel⟩
def spUndo (K : PySem.W.Frag) (CJ CS CD C : Addr) : Sp := fun vs H Q E => ∃ (J : Addr) (es : List Ch) (fl : List Bool) (un : List Nat) (ds : List Cl) (F : List Addr), vs = [.ref J] ∧ JnA K CJ CS CD J es fl un ds F H ∧ es.length = fl.length ∧ es.length ≤ 60 ∧ un.length ≤ 1000 ∧ (∀ c ∈ es, ChSm c) ∧
  match (standN fl).getLast? with
  | none => ErrZ C E H (-1)
  | some i => OutZ (madeM [thing] 0 (es.zip (fl.set i false))) (fun ds' => JnQ K CJ CS CD J es (fl.set i false) (un ++ [i]) ds' F H (Q (.int (i : Int)))) (fun j => ErrZ C E H (j : Int))
theorem stand_lt {fl : List Bool} {i : Nat} (h : i ∈ standN fl) : i < fl.length := List.mem_range.mp (List.mem_filter.mp h).1
/-- one more undone -/
theorem JnA.appU {J : Addr} {es : List Ch} {fl : List Bool} {un : List Nat} {ds : List Cl} {F : List Addr} {H : Hp} (h : JnA K CJ CS CD J es fl un ds F H) (i : Nat) : ∃ dx e g u D, H J = some (.ins CJ dx (fldsJ e g u D)) ∧ u ∈ F ∧ H u = some (.lst (un.map fun n : Nat => V.int (n : Int))) ∧
    ∀ H1, H1 u = some (.lst ((un ++ [i]).map fun n : Nat => V.int (n : Int))) → (∀ b o, b ≠ u → H b = some o → H1 b = some o) → JnA K CJ CS CD J es fl (un ++ [i]) ds F H1 ∧ Go F F H H1 := by
  obtain ⟨dx, e, g, u, D, d, R, ev, hj, he, het, hg, hu, hW, hR, rfl, hnd⟩ := h
  refine ⟨dx, e, g, u, D, hj, by simp, hu, fun H1 h1 k1 => ⟨?_, frl_one (by simp) hu h1 k1, fun b hb => .inl hb⟩⟩
  have hnd' := hnd
  simp only [List.nodup_cons, List.mem_cons, not_or] at hnd
  obtain ⟨⟨n1, n2, n3, n4⟩, ⟨n5, n6, n7⟩, ⟨n8, n9⟩, n10, n11⟩ := hnd
  exact ⟨dx, e, g, u, D, d, R, ev, k1 _ _ n3 hj, k1 _ _ n6 he, het.but hu k1, k1 _ _ n8 hg, h1, hW.keep (fun b hb o q => k1 b o (fun z => n10 (by rw [← z]; exact hb)) q), hR, rfl, hnd'⟩
theorem ok_undo {f : Addr} {fd : FuncData} (F : Fun K "undo" "Journal.undo" s_Journal_undo f fd) (Y : Bn mg) (Z : JnTx K mg CJ) (T : PySem.ChgX.ChgTxt P K mg "ChangeRefused" C fI) (m_switch : MetX P w K mg base 7 CJ "switch" (spSwit K CJ CS CD C) []) :
    FnOk P w K mg base (L2N.CX P w) 8 f fd ["self"] (spUndo K CJ CS CD C) := by
  refine fun_okXN F sc_Journal_undo (fun vs H Q E h => ?_) (fun cdv A outer s H vs Q E hr h => ?_)
  · obtain ⟨J, es, fl, un, ds, F, rfl, _⟩ := h
    rfl
  · obtain ⟨J, es, fl, un, ds, F, rfl, hJ, hlen, hl60, hun, hsm, out⟩ := h
    have nd := sc_Journal_undo.nd
    obtain ⟨dx, e, g, u, D, d, R, ev, hj, he, het, hg, hu, hW, hR, hF, hnd⟩ := id hJ
    refine ⟨_, (pss_cons (ps_setLc (i := 3) (own := [("number", 1), ("flag", 2)]) (g := gTup K 2 (gCons (gName 1) (gCons (gName 2) gNil))) (tt := tB (tVar 2)) rfl nd rfl rfl (sw_true rfl rfl rfl (by decide +kernel)) (pi_enum (by rfl) Y.n_enumerate (pa_cons (pe_fld (pv 0) rfl) pa_nil)) (blkOk_by (own := [("number", 1), ("flag", 2)]) (N := N_Journal_undo) (sc := defScope s_Journal_undo) (by decide +kernel)) (fun _ _ _ _ _ => (pg_tup (by rfl) (pgs_cons (pg_name (i := 1) nd rfl (Or.inl rfl)) (pgs_cons (pg_name (i := 2) nd rfl (Or.inl rfl)) pgs_nil)))) (fun _ _ _ _ _ => pts_one (pt_val (pv 2))) (fun _ _ _ _ _ => (pv 1)))
      (pss_cons (ps_if (pt_not (pt_tru (pv 3))) (pss_one (ps_raiseChgN rfl T hr tkN_of (pa_cons (pe_gc rfl Z.c_NO_CHANGE) pa_nil))) pss_nil)
      (pss_cons (ps_expr (pe_mx m_switch hr (by decide) pxN_of (pv 0) (pa_cons (pe_ix ix_list (pv 3) (pe_un un_neg pe_int) (fun _ _ => rfl)) (pa_cons pe_bl pa_nil))))
      (pss_cons (ps_expr (pe_bm PySem.F.plainAttrs_list PySem.F.slot_list_append PySem.F.type_list_append mt_append (pe_fld (pv 0) rfl) (pa_cons (pe_ix ix_list (pv 3) (pe_un un_neg pe_int) (fun _ _ => rfl)) pa_nil)))
      (pss_one (ps_ret (pe_ix ix_list (pv 3) (pe_un un_neg pe_int) (fun _ _ => rfl)))))))), ?_⟩
    rw [show L2.start N_Journal_undo [.ref J] = [some (.ref J), none, none, none] from rfl]
    walk_at "dd"
    refine o_fat hj Z.cj Z.n_in_force rfl ?_
    walk_at "dd"
    refine ⟨g, fl.map V.bl, rfl, SqL.of hg, ?_⟩
    refine lc_W (walk_enum (K := K) (a := g) (xs := fl.map V.bl)) (fun L i acc H1 => Same H H1 ∧ H L = none ∧ acc = (((List.range i).filter fun i => fl.getD i false).map fun n : Nat => V.int (n : Int))) (fun L H1 e1 s1 h1 => ⟨s1, e1, rfl⟩) (fun L i acc H1 _ h => SqL.of (h.1 _ _ hg)) ?_ ?_
    · rintro L i v acc H1 H2 hi hacc hL ⟨s1, eL, rfl⟩ ⟨q, x, y, rfl, hq, rfl, hx, hy⟩
      have hx : some (V.int (i : Int)) = some x := hx
      cases hx
      have hy : (fl.map V.bl)[i]? = some y := hy
      rw [List.getElem?_map] at hy
      obtain ⟨b, hb, rfl⟩ := Option.map_eq_some_iff.mp hy
      have s2 : Same H1 (upd H1 q (.tup [.int (i : Int), .bl b])) := same_new0 hq
      have hL2 := s2 _ _ hL
      have eb : fl[i]?.getD false = b := by rw [hb]; rfl
      refine ⟨q, _, rfl, .inl (.inl upd_same), rfl, ?_⟩
      refine ⟨_, _, rfl, ?_⟩
      walk_at "dd"
      refine ⟨_, _, rfl, ?_⟩
      walk_at "dd"
      refine ⟨rfl, ?_⟩
      walk_at "dd"
      refine ⟨rfl, ?_⟩
      walk_at "dd"
      rw [List.length_map] at hi
      cases b with
      | true =>
        rw [if_pos rfl]
        walk_at "dd"
        refine lc_keep hacc (by omega) hL2 fun H5 h5 k5 => ⟨same_of_but eL (s1.trans s2) k5, eL, ?_⟩
        rw [List.range_succ, List.filter_append, List.map_append]
        simp [eb]
      | false =>
        rw [if_neg Bool.false_ne_true]
        refine lc_skip hacc hL2 ⟨s1.trans s2, eL, ?_⟩
        rw [List.range_succ, List.filter_append]
        simp [eb]
    · rintro L acc H1 hacc hL ⟨s1, eL, rfl⟩
      rw [List.length_map] at hL
      have hL : H1 L = some (.lst ((standN fl).map fun n : Nat => V.int (n : Int))) := hL
      have hJ1 := hJ.keep s1
      walk_at "dd"
      cases hst : (standN fl).getLast? with
      | none =>
        rw [hst] at out
        rw [List.getLast?_eq_none_iff.mp hst] at hL
        refine w_truL (SqL.of hL) (fun z => absurd rfl z) fun _ => ?_
        rw [if_pos (by rfl)]
        walk_at "dd"
        exact raise_Z (by decide) (out.mono s1)
      | some i =>
        rw [hst] at out
        have hne : standN fl ≠ [] := fun z => by rw [z] at hst; cases hst
        have him : i ∈ standN fl := List.mem_of_getLast? hst
        have hlast : ((standN fl).map fun n : Nat => V.int (n : Int)).getLast? = some (.int (i : Int)) := by rw [List.getLast?_map, hst]; rfl
        have hat : ∀ {H' : Hp} {Q' : VK}, H' L = some (.lst ((standN fl).map fun n : Nat => V.int (n : Int))) → Q' (.int (i : Int)) H' → rIxL K (.ref L) (.int (-1)) H' Q' := fun {H' Q'} h k => by
          refine w_ixL (SqL.of h) ?_ k
          have hp : 0 < (standN fl).length := List.length_pos_iff.mpr hne
          rw [List.getLast?_eq_getElem?, List.length_map] at hlast
          unfold atI ixN
          rw [List.length_map, if_neg (by decide), if_pos (by omega)]
          show ((standN fl).map fun n : Nat => V.int (n : Int))[((-1 : Int) + ((standN fl).length : Int)).toNat]? = _
          rw [show ((-1 : Int) + ((standN fl).length : Int)).toNat = (standN fl).length - 1 by omega]
          exact hlast
        refine w_truL (SqL.of hL) (fun _ => ?_) fun z => absurd (List.map_eq_nil_iff.mp z) hne
        rw [if_neg (by decide)]
        walk_at "dd"
        obtain ⟨dx1, e1, g1, u1, D1, d1, R1, ev1, hj1, _⟩ := id hJ1
        refine o_mat hj1 rfl ?_
        walk_at "dd"
        refine hat hL ?_
        walk_at "dd"
        refine ⟨J, i, false, es, fl, un, ds, F, rfl, hJ1, stand_lt him, hlen, hl60, hsm, ?_⟩
        cases hm : madeM [thing] 0 (es.zip (fl.set i false)) with
        | inl j => exact (out.l hm).mono s1
        | inr ds' =>
          intro F2 H2 hJ2 go2
          have o2 := out.r hm
          obtain ⟨dx2, e2, g2, u2, D2, hj2, hu2F, hu2, ap⟩ := hJ2.appU i
          have hLF : L ∉ F := fun z => by
            obtain ⟨o, q, _⟩ := hJ.no L z
            rw [eL] at q; cases q
          have hL2 := go2.fr.1 _ _ hLF hL
          walk_at "dd"
          refine o_fat hj2 Z.cj Z.n_undone rfl ?_
          refine ⟨tyL (SqL.of hu2), ?_⟩
          walk_at "dd"
          refine hat hL2 ?_
          walk_at "dd"
          refine w_app2 hu2 (by rw [List.length_map]; omega) fun H3 h3 k3 => ?_
          have nLu : L ≠ u2 := fun z => (go2.nw u2 hu2F).elim (fun q => hLF (by rw [z]; exact q)) fun q => by rw [← z, hL] at q; cases q
          walk_at "dd"
          refine hat (k3 _ _ nLu hL2) ?_
          have := ap H3 (by rw [List.map_append]; exact h3) k3
          exact o2 F2 H3 this.1 (((Go.same s1).trans go2).trans this.2)
end
end
section
/-! The world and the image. -/
open PySem PySem.Spec PyProof.Rows L2
open C8 (Cal Met Mak cal0 pe_c pe_gc pss_cut tCut pe_mt pe_mt0 pe_mk)

local macro_rules | `(tactic| walk_at "dd") => `(tactic| repeat (first
  | walk_at "r1c"
  | with_reducible refine w_dget ?_
  | with_reducible refine w_din ?_
  | with_reducible refine w_dnin ?_
  | with_reducible refine w_dput ?_
  | with_reducible refine w_ddel ?_
  | with_reducible refine w_lenSet ?_
  | with_reducible refine w_lcTt ?_
  | with_reducible refine cTe (by with_unfolding_all decide +kernel) ?_
  | with_reducible refine cTn (by with_unfolding_all decide +kernel) ?_
  | with_reducible refine cNe (by with_unfolding_all decide +kernel) ?_
  | with_reducible refine cNn (by with_unfolding_all decide +kernel) ?_
  | with_reducible refine w_par ?_
  | with_reducible refine w_raiseC ?_
  | with_reducible refine w_lcV ?_
  | with_reducible refine w_lcKk ?_
  | with_reducible refine w_lcZ ?_
  | with_reducible refine w_lcE ?_))

abbrev fldsW (J a b c d : Addr) : List (Str × V) := [("journal", .ref J), ("things", .ref a), ("made", .int 0), ("calls", .int 0), ("named", .ref b), ("held", .ref c), ("task", .non), ("programs", .ref d)]
structure WoTx (K : PySem.W.Frag) (CW CI : Addr) : Prop where
  cw : Cls K CW
  ci : Cls K CI
  n_journal : NoAttr K CW "journal"
  n_things : NoAttr K CW "things"
  n_made : NoAttr K CW "made"
  n_calls : NoAttr K CW "calls"
  n_named : NoAttr K CW "named"
  n_held : NoAttr K CW "held"
  n_task : NoAttr K CW "task"
  n_programs : NoAttr K CW "programs"
  n_world : NoAttr K CI "_world"
/-- an image at I, its world without objects -/
def ImA (K : PySem.W.Frag) (CI CW CJ CS CD I : Addr) (es : List Ch) (fl : List Bool) (un : List Nat) (ds : List Cl) (F : List Addr) (H : Hp) : Prop :=
  ∃ (dxI dxW W J a b c d : Addr) (FJ : List Addr), H I = some (.ins CI dxI [("_world", .ref W)]) ∧ H W = some (.ins CW dxW (fldsW J a b c d)) ∧ JnA K CJ CS CD J es fl un ds FJ H ∧ F = I :: W :: FJ ∧ I ≠ W ∧ I ∉ FJ ∧ W ∉ FJ
def ImQ (K : PySem.W.Frag) (CI CW CJ CS CD I : Addr) (es : List Ch) (fl : List Bool) (un : List Nat) (ds : List Cl) (F : List Addr) (H : Hp) (R : Hp → Prop) : Prop := ∀ F' H', ImA K CI CW CJ CS CD I es fl un ds F' H' → Go F F' H H' → R H'
theorem ImA.keep {K : PySem.W.Frag} {CI CW CJ CS CD I : Addr} {es : List Ch} {fl : List Bool} {un : List Nat} {ds : List Cl} {F : List Addr} {H H1 : Hp} (h : ImA K CI CW CJ CS CD I es fl un ds F H) (s : Same H H1) : ImA K CI CW CJ CS CD I es fl un ds F H1 := by
  obtain ⟨dxI, dxW, W, J, a, b, c, d, FJ, h1, h2, h3, h4⟩ := h
  exact ⟨dxI, dxW, W, J, a, b, c, d, FJ, s _ _ h1, s _ _ h2, h3.keep s, h4⟩
theorem ImA.no {K : PySem.W.Frag} {CI CW CJ CS CD I : Addr} {es : List Ch} {fl : List Bool} {un : List Nat} {ds : List Cl} {F : List Addr} {H : Hp} (h : ImA K CI CW CJ CS CD I es fl un ds F H) : ∀ b ∈ F, NoTup H b := by
  obtain ⟨dxI, dxW, W, J, a, b, c, d, FJ, h1, h2, h3, rfl, _⟩ := h
  intro y hy
  simp only [List.mem_cons] at hy
  rcases hy with rfl | rfl | hy
  · exact nt_ins h1
  · exact nt_ins h2
  · exact h3.no y hy
section
variable {P : Program} {w : World} {K : PySem.W.Frag} {mg : Str → Option Value} {base : Heap} {CS CD CJ CW CI C fI : Addr} {k : Nat}
/-- from the journal's next to the image's next -/
theorem ImA.up {I W J dxI dxW a b c d : Addr} {es' : List Ch} {fl' : List Bool} {un' : List Nat} {ds' : List Cl} {FJ : List Addr} {H : Hp} {R : Hp → Prop} (h1 : H I = some (.ins CI dxI [("_world", .ref W)])) (h2 : H W = some (.ins CW dxW (fldsW J a b c d))) (n1 : I ≠ W) (n2 : I ∉ FJ) (n3 : W ∉ FJ)
    (q : ImQ K CI CW CJ CS CD I es' fl' un' ds' (I :: W :: FJ) H R) : JnQ K CJ CS CD J es' fl' un' ds' FJ H R := fun F' H' hJ go => by
  have m1 : I ∉ F' := fun z => (go.nw I z).elim n2 fun e => by rw [h1] at e; cases e
  have m2 : W ∉ F' := fun z => (go.nw W z).elim n3 fun e => by rw [h2] at e; cases e
  refine q (I :: W :: F') H' ⟨dxI, dxW, W, J, a, b, c, d, F', go.fr.1 _ _ n2 h1, go.fr.1 _ _ n3 h2, hJ, rfl, n1, m1, m2⟩ ⟨go.fr.mono fun x hx => List.mem_cons_of_mem _ (List.mem_cons_of_mem _ hx), fun y hy => ?_⟩
  simp only [List.mem_cons] at hy ⊢
  rcases hy with rfl | rfl | hy
  · exact .inl (.inl rfl)
  · exact .inl (.inr (.inl rfl))
  · exact (go.nw y hy).imp (fun q => .inr (.inr q)) id
abbrev s_World___init__ : Stmt := inClass (topS 113) 0
abbrev N_World___init__ : List Str := ["self"]
theorem sc_World___init__ : FnScope N_World___init__ ["self"] (defScope s_World___init__) := ⟨rfl, rfl, rfl, by decide +kernel, rfl, by decide +kernel, by decide +kernel⟩
def spWorI (K : PySem.W.Frag) (CW CJ CS CD : Addr) : Sp := fun vs H Q _ => ∃ (x dx : Addr), vs = [.ref x] ∧ H x = some (.ins CW dx []) ∧
  ∀ J a b c d F H', JnA K CJ CS CD J [] [] [] [thing] F H' → H' x = some (.ins CW dx (fldsW J a b c d)) → (∀ b ∈ F, H b = none) → (∀ b o, b ≠ x → H b = some o → H' b = some o) → (∀ b, H' b = none → H b = none) → Q .non H'
theorem ok_worldI {f : Addr} {fd : FuncData} (F : Fun K "__init__" "World.__init__" s_World___init__ f fd) (Y : Bn mg) (Z : WoTx K CW CI) (c_Journal : Mak P w K mg base 5 "Journal" CJ (spJnI K CJ CS CD) []) : FnOk P w K mg base CX0 7 f fd ["self"] (spWorI K CW CJ CS CD) := by
  refine F.ok sc_World___init__ (fun vs H Q E h => ?_) (fun cdv A outer s H vs Q E hr h => ?_)
  · obtain ⟨x, dx, rfl, _⟩ := h
    rfl
  · obtain ⟨x, dx, rfl, hx, kQ⟩ := h
    have nd := sc_World___init__.nd
    refine ⟨_, (pss_cons (ps_fld (pv 0) (pe_mk0 c_Journal hr (by decide) rfl) rfl)
      (pss_cons (ps_fld (pv 0) pe_dnewK rfl)
      (pss_cons (ps_fld (pv 0) pe_int rfl)
      (pss_cons (ps_fld (pv 0) pe_int rfl)
      (pss_cons (ps_fld (pv 0) pe_dnewK rfl)
      (pss_cons (ps_fld (pv 0) (pe_lst pa_nil) rfl)
      (pss_cons (ps_fld (pv 0) pe_non rfl)
      (pss_one (ps_fld (pv 0) pe_dnewK rfl))))))))), ?_⟩
    rw [show L2.start N_World___init__ [.ref x] = [some (.ref x)] from rfl]
    walk_at "dd"
    intro J dJ hJ0 hdJ nJ
    have s0 : Same H (upd (upd H dJ (.own J)) J (.ins CJ dJ [])) := (same_new0 hdJ).trans (same_new0 (by rw [upd_ne nJ.symm]; exact hJ0))
    refine ⟨J, dJ, rfl, upd_same, fun FJ H1 hJ hfr k1 g1 => ⟨rfl, ?_⟩⟩
    have s1 : Same H H1 := fun b o q => k1 b o (fun z => by rw [z, hJ0] at q; cases q) (s0 b o q)
    have fre : ∀ b ∈ FJ, H b = none := fun b hb => by
      rcases hfr b hb with rfl | q
      · exact hJ0
      · exact s0.free q
    have hxF : x ∉ FJ := fun z => by rw [fre x z] at hx; cases hx
    walk_at "dd"
    refine o_set (s1 _ _ hx) Z.cw Z.n_journal (show (0 : Nat) < 1000 from by decide) fun H2 h2 k2 g2 => ?_
    walk_at "dd"
    refine w_dnew fun a H3 e3 s3 h3 => ?_
    walk_at "dd"
    refine o_set (s3 _ _ h2) Z.cw Z.n_things (show (1 : Nat) < 1000 from by decide) fun H4 h4 k4 g4 => ?_
    walk_at "dd"
    refine o_set h4 Z.cw Z.n_made (show (2 : Nat) < 1000 from by decide) fun H5 h5 k5 g5 => ?_
    walk_at "dd"
    refine o_set h5 Z.cw Z.n_calls (show (3 : Nat) < 1000 from by decide) fun H6 h6 k6 g6 => ?_
    walk_at "dd"
    refine w_dnew fun b H7 e7 s7 h7 => ?_
    walk_at "dd"
    refine o_set (s7 _ _ h6) Z.cw Z.n_named (show (4 : Nat) < 1000 from by decide) fun H8 h8 k8 g8 => ?_
    walk_at "dd"
    refine w_newL (by show 0 ≤ 1000000; decide) fun c H9 e9 s9 h9 => ?_
    walk_at "dd"
    refine o_set (s9 _ _ h8) Z.cw Z.n_held (show (5 : Nat) < 1000 from by decide) fun HA hA kA gA => ?_
    walk_at "dd"
    refine o_set hA Z.cw Z.n_task (show (6 : Nat) < 1000 from by decide) fun HB hB kB gB => ?_
    walk_at "dd"
    refine w_dnew fun d HC eC sC hC => ?_
    walk_at "dd"
    refine o_set (sC _ _ hB) Z.cw Z.n_programs (show (7 : Nat) < 1000 from by decide) fun HD hD kD gD => ?_
    have up : ∀ y o, y ≠ x → H1 y = some o → HD y = some o := fun y o n q => kD _ _ n (sC _ _ (kB _ _ n (kA _ _ n (s9 _ _ (k8 _ _ n (s7 _ _ (k6 _ _ n (k5 _ _ n (k4 _ _ n (s3 _ _ (k2 _ _ n q)))))))))))
    have dn : ∀ y, HD y = none → H y = none := fun y q => s1.free (g2 _ (s3.free (g4 _ (g5 _ (g6 _ (s7.free (g8 _ (s9.free (gA _ (gB _ (sC.free (gD _ q)))))))))))) 
    have hJ' : JnA K CJ CS CD J [] [] [] [thing] FJ HD := by
      obtain ⟨dxj, e, g, u, D, d', R, ev, h1, h2', h3', h4', h5', h6', h7', rfl, h9'⟩ := hJ
      cases h3'
      simp only [List.mem_cons, not_or] at hxF
      exact ⟨dxj, e, g, u, D, d', R, [], up _ _ (fun z => hxF.1 z.symm) h1, up _ _ (fun z => hxF.2.1 z.symm) h2', .nil, up _ _ (fun z => hxF.2.2.1 z.symm) h4', up _ _ (fun z => hxF.2.2.2.1 z.symm) h5', h6'.keep (fun y hy o q => up y o (fun z => hxF.2.2.2.2 (by rw [← z]; exact hy)) q), h7', rfl, h9'⟩
    exact kQ J a b c d FJ HD hJ' hD fre (fun y o n q => up y o n (s1 _ _ q)) dn
abbrev s_Image___init__ : Stmt := inClass (topS 115) 0
abbrev N_Image___init__ : List Str := ["self"]
theorem sc_Image___init__ : FnScope N_Image___init__ ["self"] (defScope s_Image___init__) := ⟨rfl, rfl, rfl, by decide +kernel, rfl, by decide +kernel, by decide +kernel⟩
def spImI (K : PySem.W.Frag) (CI CW CJ CS CD : Addr) : Sp := fun vs H Q _ => ∃ (x dx : Addr), vs = [.ref x] ∧ H x = some (.ins CI dx []) ∧
  ∀ F H', ImA K CI CW CJ CS CD x [] [] [] [thing] F H' → (∀ b ∈ F, b = x ∨ H b = none) → (∀ b o, b ≠ x → H b = some o → H' b = some o) → (∀ b, H' b = none → H b = none) → Q .non H'
theorem ok_imageI {f : Addr} {fd : FuncData} (F : Fun K "__init__" "Image.__init__" s_Image___init__ f fd) (Y : Bn mg) (Z : WoTx K CW CI) (c_World : Mak P w K mg base 7 "World" CW (spWorI K CW CJ CS CD) []) : FnOk P w K mg base CX0 9 f fd ["self"] (spImI K CI CW CJ CS CD) := by
  refine F.ok sc_Image___init__ (fun vs H Q E h => ?_) (fun cdv A outer s H vs Q E hr h => ?_)
  · obtain ⟨x, dx, rfl, _⟩ := h
    rfl
  · obtain ⟨x, dx, rfl, hx, kQ⟩ := h
    have nd := sc_Image___init__.nd
    refine ⟨_, (pss_one (ps_fld (pv 0) (pe_mk0 c_World hr (by decide) rfl) rfl)), ?_⟩
    rw [show L2.start N_Image___init__ [.ref x] = [some (.ref x)] from rfl]
    walk_at "dd"
    intro W dW hW0 hdW nW
    have s0 : Same H (upd (upd H dW (.own W)) W (.ins CW dW [])) := (same_new0 hdW).trans (same_new0 (by rw [upd_ne nW.symm]; exact hW0))
    refine ⟨W, dW, rfl, upd_same, fun J a b c d FJ H1 hJ hw hfr k1 g1 => ⟨rfl, ?_⟩⟩
    have s1 : Same H H1 := fun b o q => k1 b o (fun z => by rw [z, hW0] at q; cases q) (s0 b o q)
    have fre : ∀ b ∈ FJ, H b = none := fun b hb => s0.free (hfr b hb)
    have hxF : x ∉ FJ := fun z => by rw [fre x z] at hx; cases hx
    have hWF : W ∉ FJ := fun z => by
      have := hfr W z
      rw [upd_same] at this
      cases this
    have nxW : x ≠ W := fun z => by rw [z, hW0] at hx; cases hx
    walk_at "dd"
    refine o_set (s1 _ _ hx) Z.ci Z.n_world (show (0 : Nat) < 1000 from by decide) fun H2 h2 k2 g2 => ?_
    have hJ' : JnA K CJ CS CD J [] [] [] [thing] FJ H2 := by
      obtain ⟨dxj, e, g, u, D, d', R, ev, h1, h2', h3', h4', h5', h6', h7', rfl, h9'⟩ := hJ
      cases h3'
      simp only [List.mem_cons, not_or] at hxF
      exact ⟨dxj, e, g, u, D, d', R, [], k2 _ _ (fun z => hxF.1 z.symm) h1, k2 _ _ (fun z => hxF.2.1 z.symm) h2', .nil, k2 _ _ (fun z => hxF.2.2.1 z.symm) h4', k2 _ _ (fun z => hxF.2.2.2.1 z.symm) h5', h6'.keep (fun y hy o q => k2 y o (fun z => hxF.2.2.2.2 (by rw [← z]; exact hy)) q), h7', rfl, h9'⟩
    refine kQ (x :: W :: FJ) H2 ⟨dx, dW, W, J, a, b, c, d, FJ, h2, k2 _ _ nxW.symm hw, hJ', rfl, nxW, hxF, hWF⟩ (fun y hy => ?_) (fun y o n q => k2 _ _ n (s1 _ _ q)) fun y q => s1.free (g2 _ q)
    simp only [List.mem_cons] at hy
    rcases hy with rfl | rfl | hy
    · exact .inl rfl
    · exact .inr hW0
    · exact .inr (fre y hy)
abbrev s_Image__known : Stmt := inClass (topS 115) 22
abbrev N_Image__known : List Str := ["self"]
theorem sc_Image__known : FnScope N_Image__known ["self"] (defScope s_Image__known) := ⟨rfl, rfl, rfl, by decide +kernel, rfl, by decide +kernel, by decide +kernel⟩
def spKnown (K : PySem.W.Frag) (CI CW CJ CS CD : Addr) : Sp := fun vs H Q _ => ∃ (I : Addr) (es : List Ch) (fl : List Bool) (un : List Nat) (ds : List Cl) (F : List Addr), vs = [.ref I] ∧ ImA K CI CW CJ CS CD I es fl un ds F H ∧ ∀ D d R, dsOf R = ds → DfW CS CD D d R H → Q (.ref d) H
theorem ok_known {f : Addr} {fd : FuncData} (F : Fun K "_known" "Image._known" s_Image__known f fd) (Y : Bn mg) (Z : WoTx K CW CI) (ZJ : JnTx K mg CJ) (ZD : DfTx K mg CS CD) : FnOk P w K mg base CX0 1 f fd ["self"] (spKnown K CI CW CJ CS CD) := by
  refine F.ok sc_Image__known (fun vs H Q E h => ?_) (fun cdv A outer s H vs Q E hr h => ?_)
  · obtain ⟨I, es, fl, un, ds, F, rfl, _⟩ := h
    rfl
  · obtain ⟨I, es, fl, un, ds, F, rfl, hI, kQ⟩ := h
    have nd := sc_Image__known.nd
    obtain ⟨dxI, dxW, W, J, a, b, c, d, FJ, h1, h2, h3, _⟩ := hI
    obtain ⟨dxj, e, g, u, D, d', R, ev, hj, _, _, _, _, hW, hR, _⟩ := h3
    refine ⟨_, (pss_one (ps_ret (pe_fld (pe_fld (pe_fld (pe_fld (pv 0) rfl) rfl) rfl) rfl))), ?_⟩
    rw [show L2.start N_Image__known [.ref I] = [some (.ref I)] from rfl]
    walk_at "dd"
    refine o_fat h1 Z.ci Z.n_world rfl ?_
    refine o_fat h2 Z.cw Z.n_journal rfl ?_
    refine o_fat hj ZJ.cj ZJ.n_definitions rfl ?_
    obtain ⟨⟨dxD, hDo⟩, _⟩ := id hW
    refine o_fat hDo ZD.cs ZD.n_known rfl ?_
    exact kQ D d' R hR hW
abbrev s_Image_make : Stmt := inClass (topS 115) 1
abbrev N_Image_make : List Str := ["self", "change"]
theorem sc_Image_make : FnScope N_Image_make ["self", "change"] (defScope s_Image_make) := ⟨rfl, rfl, rfl, by decide +kernel, rfl, by decide +kernel, by decide +kernel⟩
def spIMak (K : PySem.W.Frag) (CI CW CJ CS CD C : Addr) (G : Ch → Prop) : Sp := fun vs H Q E => ∃ (I : Addr) (v : V) (c : Ch) (es : List Ch) (fl : List Bool) (un : List Nat) (ds : List Cl) (F : List Addr) (n : Nat), vs = [.ref I, v] ∧ ImA K CI CW CJ CS CD I es fl un ds F H ∧ TrAt K H v c.ch ∧ G c ∧ ChSm c ∧
  Nice n ds ∧ n ≤ 60 ∧ es.length ≤ 60 ∧ fl.length ≤ 60 ∧ (if 60 ≤ es.length ∨ refM ds c = true then ErrZ C E H (es.length : Int) else ImQ K CI CW CJ CS CD I (es ++ [c]) (fl ++ [true]) [] (carM ds c) F H (Q (.int (es.length : Int))))
theorem ok_imake {G : Ch → Prop} {f : Addr} {fd : FuncData} (F : Fun K "make" "Image.make" s_Image_make f fd) (Y : Bn mg) (Z : WoTx K CW CI) (m_make : MetX P w K mg base 7 CJ "make" (spJMak K CJ CS CD C G) []) :
    FnOk P w K mg base (L2N.CX P w) 8 f fd ["self", "change"] (spIMak K CI CW CJ CS CD C G) := by
  refine fun_okXN F sc_Image_make (fun vs H Q E h => ?_) (fun cdv A outer s H vs Q E hr h => ?_)
  · obtain ⟨I, v, c, es, fl, un, ds, F, n, rfl, _⟩ := h
    rfl
  · obtain ⟨I, v, c, es, fl, un, ds, F, n, rfl, hI, hv, hG, hsm, hN, hn60, hl60, hf60, out⟩ := h
    have nd := sc_Image_make.nd
    obtain ⟨dxI, dxW, W, J, a, b, c', d, FJ, h1, h2, h3, rfl, n1, n2, n3⟩ := hI
    obtain ⟨dxj, e, g, u, D, d', R, ev, hj, _⟩ := id h3
    refine ⟨_, (pss_one (ps_ret (pe_mx m_make hr (by decide) pxN_of (pe_fld (pe_fld (pv 0) rfl) rfl) (pa_cons (pv 1) pa_nil)))), ?_⟩
    rw [show L2.start N_Image_make [.ref I, v] = [some (.ref I), some v] from rfl]
    walk_at "dd"
    refine o_fat h1 Z.ci Z.n_world rfl ?_
    refine o_fat h2 Z.cw Z.n_journal rfl ?_
    refine o_mat hj rfl ?_
    walk_at "dd"
    refine ⟨J, v, c, es, fl, un, ds, FJ, n, rfl, h3, hv, hG, hsm, hN, hn60, hl60, hf60, ?_⟩
    by_cases hc : 60 ≤ es.length ∨ refM ds c = true
    · rw [if_pos hc] at out ⊢
      exact out
    · rw [if_neg hc] at out ⊢
      exact ImA.up h1 h2 n1 n2 n3 out
abbrev s_Image_undo : Stmt := inClass (topS 115) 2
abbrev N_Image_undo : List Str := ["self"]
theorem sc_Image_undo : FnScope N_Image_undo ["self"] (defScope s_Image_undo) := ⟨rfl, rfl, rfl, by decide +kernel, rfl, by decide +kernel, by decide +kernel⟩
def spIUnd (K : PySem.W.Frag) (CI CW CJ CS CD C : Addr) : Sp := fun vs H Q E => ∃ (I : Addr) (es : List Ch) (fl : List Bool) (un : List Nat) (ds : List Cl) (F : List Addr), vs = [.ref I] ∧ ImA K CI CW CJ CS CD I es fl un ds F H ∧ es.length = fl.length ∧ es.length ≤ 60 ∧ un.length ≤ 1000 ∧ (∀ c ∈ es, ChSm c) ∧
  match (standN fl).getLast? with
  | none => ErrZ C E H (-1)
  | some i => OutZ (madeM [thing] 0 (es.zip (fl.set i false))) (fun ds' => ImQ K CI CW CJ CS CD I es (fl.set i false) (un ++ [i]) ds' F H (Q (.int (i : Int)))) (fun j => ErrZ C E H (j : Int))
theorem ok_iundo {f : Addr} {fd : FuncData} (F : Fun K "undo" "Image.undo" s_Image_undo f fd) (Y : Bn mg) (Z : WoTx K CW CI) (m_undo : MetX P w K mg base 8 CJ "undo" (spUndo K CJ CS CD C) []) : FnOk P w K mg base (L2N.CX P w) 9 f fd ["self"] (spIUnd K CI CW CJ CS CD C) := by
  refine fun_okXN F sc_Image_undo (fun vs H Q E h => ?_) (fun cdv A outer s H vs Q E hr h => ?_)
  · obtain ⟨I, es, fl, un, ds, F, rfl, _⟩ := h
    rfl
  · obtain ⟨I, es, fl, un, ds, F, rfl, hI, hlen, hl60, hun, hsm, out⟩ := h
    have nd := sc_Image_undo.nd
    obtain ⟨dxI, dxW, W, J, a, b, c', d, FJ, h1, h2, h3, rfl, n1, n2, n3⟩ := hI
    obtain ⟨dxj, e, g, u, D, d', R, ev, hj, _⟩ := id h3
    refine ⟨_, (pss_one (ps_ret (pe_mx0 m_undo hr (by decide) pxN_of (pe_fld (pe_fld (pv 0) rfl) rfl)))), ?_⟩
    rw [show L2.start N_Image_undo [.ref I] = [some (.ref I)] from rfl]
    walk_at "dd"
    refine o_fat h1 Z.ci Z.n_world rfl ?_
    refine o_fat h2 Z.cw Z.n_journal rfl ?_
    refine o_mat hj rfl ?_
    walk_at "dd"
    refine ⟨J, es, fl, un, ds, FJ, rfl, h3, hlen, hl60, hun, hsm, ?_⟩
    cases hst : (standN fl).getLast? with
    | none => rw [hst] at out; exact out
    | some i =>
      rw [hst] at out
      show OutZ (madeM [thing] 0 (es.zip (fl.set i false))) _ _
      cases hm : madeM [thing] 0 (es.zip (fl.set i false)) with
      | inl j => exact out.l hm
      | inr ds' => exact ImA.up h1 h2 n1 n2 n3 (out.r hm)
abbrev s_Image_changes : Stmt := inClass (topS 115) 5
abbrev N_Image_changes : List Str := ["self"]
theorem sc_Image_changes : FnScope N_Image_changes ["self"] (defScope s_Image_changes) := ⟨rfl, rfl, rfl, by decide +kernel, rfl, by decide +kernel, by decide +kernel⟩
def spIChg (K : PySem.W.Frag) (CI CW CJ CS CD : Addr) : Sp := fun vs H Q _ => ∃ (I : Addr) (es : List Ch) (fl : List Bool) (un : List Nat) (ds : List Cl) (F : List Addr), vs = [.ref I] ∧ ImA K CI CW CJ CS CD I es fl un ds F H ∧ es.length ≤ 1000 ∧ es.length = fl.length ∧
  ∀ p us H', Same H H' → H p = none → H' p = some (.lst us) → TrsAt K H' us (toldT es fl) → Q (.ref p) H'
theorem ok_changes {f : Addr} {fd : FuncData} (F : Fun K "changes" "Image.changes" s_Image_changes f fd) (Y : Bn mg) (Z : WoTx K CW CI) (m_told : Met P w K mg base 2 CJ "told" (spTold K CJ CS CD) []) : FnOk P w K mg base CX0 3 f fd ["self"] (spIChg K CI CW CJ CS CD) := by
  refine F.ok sc_Image_changes (fun vs H Q E h => ?_) (fun cdv A outer s H vs Q E hr h => ?_)
  · obtain ⟨I, es, fl, un, ds, F, rfl, _⟩ := h
    rfl
  · obtain ⟨I, es, fl, un, ds, F, rfl, hI, hl, hlf, kQ⟩ := h
    have nd := sc_Image_changes.nd
    obtain ⟨dxI, dxW, W, J, a, b, c', d, FJ, h1, h2, h3, rfl, n1, n2, n3⟩ := hI
    obtain ⟨dxj, e, g, u, D, d', R, ev, hj, _⟩ := id h3
    refine ⟨_, (pss_one (ps_ret (pe_mt0 m_told hr (by omega) (pe_fld (pe_fld (pv 0) rfl) rfl)))), ?_⟩
    rw [show L2.start N_Image_changes [.ref I] = [some (.ref I)] from rfl]
    walk_at "dd"
    refine o_fat h1 Z.ci Z.n_world rfl ?_
    refine o_fat h2 Z.cw Z.n_journal rfl ?_
    refine o_mat hj rfl ?_
    walk_at "dd"
    exact ⟨J, es, fl, un, ds, FJ, rfl, h3, hl, hlf, kQ⟩
abbrev s_Image_classes : Stmt := inClass (topS 115) 6
abbrev N_Image_classes : List Str := ["self"]
theorem sc_Image_classes : FnScope N_Image_classes ["self"] (defScope s_Image_classes) := ⟨rfl, rfl, rfl, by decide +kernel, rfl, by decide +kernel, by decide +kernel⟩
def spICls (K : PySem.W.Frag) (CI CW CJ CS CD : Addr) : Sp := fun vs H Q _ => ∃ (I : Addr) (es : List Ch) (fl : List Bool) (un : List Nat) (ds : List Cl) (F : List Addr), vs = [.ref I] ∧ ImA K CI CW CJ CS CD I es fl un ds F H ∧ ds.length ≤ 60 ∧
  ∀ p (ys : List (List Nat)) H', Same H H' → H p = none → ys.Perm (nms ds) → sortedS (ys.map S) = true → H' p = some (.lst (ys.map T)) → Q (.ref p) H'
theorem ok_classes {f : Addr} {fd : FuncData} (F : Fun K "classes" "Image.classes" s_Image_classes f fd) (Y : Bn mg) (Z : WoTx K CW CI) (m__known : Met P w K mg base 1 CI "_known" (spKnown K CI CW CJ CS CD) []) : FnOk P w K mg base CX0 2 f fd ["self"] (spICls K CI CW CJ CS CD) := by
  refine F.ok sc_Image_classes (fun vs H Q E h => ?_) (fun cdv A outer s H vs Q E hr h => ?_)
  · obtain ⟨I, es, fl, un, ds, F, rfl, _⟩ := h
    rfl
  · obtain ⟨I, es, fl, un, ds, F, rfl, hI, hl, kQ⟩ := h
    have nd := sc_Image_classes.nd
    obtain ⟨dxI, dxW, W, J, a, b, c', d, FJ, h1, _⟩ := id hI
    refine ⟨_, (pss_one (ps_ret (pe_callB (call_sortedDS rfl) (by rfl) Y.n_sorted (by decide +kernel) (pa_cons (pe_mt0 m__known hr (by omega) (pv 0)) pa_nil)))), ?_⟩
    rw [show L2.start N_Image_classes [.ref I] = [some (.ref I)] from rfl]
    walk_at "dd"
    refine o_mat h1 rfl ?_
    walk_at "dd"
    refine ⟨I, es, fl, un, ds, F, rfl, hI, fun D d R hR hW => ?_⟩
    walk_at "dd"
    subst hR
    refine ⟨d, _, (nms (dsOf R)).map S, rfl, .inl hW.tab, ?_, ?_, fun ys p hp hs e => ?_⟩
    · unfold nms dsOf
      rw [List.map_map, List.map_map, List.map_map, List.map_map]
      rfl
    · rw [List.length_map]; unfold nms; rw [List.length_map]; omega
    · have e2 : ys = (ys.map fun y => y.cps.toList).map S := by
        rw [List.map_map]
        refine (List.map_id ys).symm.trans (List.map_congr_left fun y _ => ?_)
        show y = ⟨y.cps.toList.toArray⟩
        simp
      have hp2 : (ys.map fun y => y.cps.toList).Perm (nms (dsOf R)) := by
        have := hp.map fun y : Str => y.cps.toList
        rw [List.map_map] at this
        have e3 : (nms (dsOf R)).map ((fun y : Str => y.cps.toList) ∘ S) = nms (dsOf R) := (List.map_congr_left fun y _ => (by show (⟨y.toArray⟩ : Str).cps.toList = y; simp)).trans (List.map_id _)
        rw [e3] at this
        exact this
      refine kQ p (ys.map fun y => y.cps.toList) _ (same_new0 e) e hp2 (by rw [← e2]; exact hs) ?_
      rw [upd_same, map_T_S, ← e2]
abbrev s_Image_slots_of : Stmt := inClass (topS 115) 8
abbrev N_Image_slots_of : List Str := ["self", "name"]
theorem sc_Image_slots_of : FnScope N_Image_slots_of ["self", "name"] (defScope s_Image_slots_of) := ⟨rfl, rfl, rfl, by decide +kernel, rfl, by decide +kernel, by decide +kernel⟩
def spISlo (K : PySem.W.Frag) (CI CW CJ CS CD : Addr) : Sp := fun vs H Q _ => ∃ (I : Addr) (es : List Ch) (fl : List Bool) (un : List Nat) (ds : List Cl) (F : List Addr) (n : List Nat), vs = [.ref I, T n] ∧ ImA K CI CW CJ CS CD I es fl un ds F H ∧ Sm ds ∧ n ∈ nms ds ∧ ∀ p H', Same H H' → SqT K H' p ((allS ds n).map T) → Q (.ref p) H'
theorem ok_slots_of {f : Addr} {fd : FuncData} (F : Fun K "slots_of" "Image.slots_of" s_Image_slots_of f fd) (Y : Bn mg) (Z : WoTx K CW CI) (ZJ : JnTx K mg CJ) (m__known : Met P w K mg base 1 CI "_known" (spKnown K CI CW CJ CS CD) []) (m_all_slots : Met P w K mg base 2 CS "all_slots" (spAllS K CS CD) []) : FnOk P w K mg base CX0 3 f fd ["self", "name"] (spISlo K CI CW CJ CS CD) := by
  refine F.ok sc_Image_slots_of (fun vs H Q E h => ?_) (fun cdv A outer s H vs Q E hr h => ?_)
  · obtain ⟨I, es, fl, un, ds, F, n, rfl, _⟩ := h
    rfl
  · obtain ⟨I, es, fl, un, ds, F, n, rfl, hI, hs, hn, kQ⟩ := h
    have nd := sc_Image_slots_of.nd
    obtain ⟨dxI, dxW, W, J, a, b, c', d, FJ, h1, h2, h3, _⟩ := id hI
    obtain ⟨dxj, e, g, u, D, d', R, ev, hj, _, _, _, _, hW, hR, _⟩ := h3
    refine ⟨_, (pss_cons (ps_if (pt_cmp (pc_dnotin (hu_of hr) (pv 1) (pe_mt0 m__known hr (by omega) (pv 0)))) (pss_one ps_never) pss_nil)
      (pss_one (ps_ret (pe_mt m_all_slots hr (by omega) (pe_fld (pe_fld (pe_fld (pv 0) rfl) rfl) rfl) (pa_cons (pv 1) pa_nil))))), ?_⟩
    rw [show L2.start N_Image_slots_of [.ref I, T n] = [some (.ref I), some (T n)] from rfl]
    walk_at "dd"
    refine o_mat h1 rfl ?_
    walk_at "dd"
    refine ⟨I, es, fl, un, ds, F, rfl, hI, fun D2 d2 R2 hR2 hW2 => ?_⟩
    refine k_nin hW2.r ?_
    refine ⟨_, rfl, ?_⟩
    refine w_ifn (fun z => absurd (by rw [hR2]; exact hn) z) fun _ => ?_
    walk_at "dd"
    refine o_fat h1 Z.ci Z.n_world rfl ?_
    refine o_fat h2 Z.cw Z.n_journal rfl ?_
    refine o_fat hj ZJ.cj ZJ.n_definitions rfl ?_
    obtain ⟨⟨dxD, hDo⟩, _⟩ := id hW
    refine o_mat hDo rfl ?_
    walk_at "dd"
    subst hR
    exact ⟨D, d', R, n, rfl, hW.r, hs, hn, kQ⟩
end
end
section
/-! The changes told, within an except suite. -/
open PySem PySem.Spec PyProof.Rows L2
open C8 (Cal Met Mak cal0 pe_c pe_gc pss_cut tCut pe_mt pe_mt0 pe_mk)

local macro_rules | `(tactic| walk_at "dd") => `(tactic| repeat (first
  | walk_at "r1c"
  | with_reducible refine w_dget ?_
  | with_reducible refine w_din ?_
  | with_reducible refine w_dnin ?_
  | with_reducible refine w_dput ?_
  | with_reducible refine w_ddel ?_
  | with_reducible refine w_lenSet ?_
  | with_reducible refine w_lcTt ?_
  | with_reducible refine cTe (by with_unfolding_all decide +kernel) ?_
  | with_reducible refine cTn (by with_unfolding_all decide +kernel) ?_
  | with_reducible refine cNe (by with_unfolding_all decide +kernel) ?_
  | with_reducible refine cNn (by with_unfolding_all decide +kernel) ?_
  | with_reducible refine w_par ?_
  | with_reducible refine w_raiseC ?_
  | with_reducible refine w_lcV ?_
  | with_reducible refine w_lcKk ?_
  | with_reducible refine w_lcZ ?_
  | with_reducible refine w_lcE ?_))

section
variable {P : Program} {w : World} {K : PySem.W.Frag} {mg : Str → Option Value} {base : Heap} {CS CD CJ CW CI : Addr} {k : Nat}
theorem ok_change_ofH {f : Addr} {fd : FuncData} (F : Fun K "change_of" "change_of" s_change_of f fd) (Y : Bn mg) : L2H.FnH P w K mg base C8.CX0 1 f fd ["entry"] (spChgOf K) := by
  refine fun_okH F sc_change_of (fun vs H Q E h => ?_) (fun cdv A outer s H vs Q E p hot hr h => ?_)
  · obtain ⟨v, c, rfl, _⟩ := h
    rfl
  · obtain ⟨v, c, rfl, hv, kQ⟩ := h
    have nd := sc_change_of.nd
    obtain ⟨p1, us, rfl, hp, he⟩ := ent_at hv
    refine ⟨_, (pss_cons (ps_if (pt_cmpR op_ne (pe_ix ix_tup (pv 0) pe_int (fun _ _ => rfl)) pe_str (nomark _)) (pss_one (ps_ret (pv 0))) pss_nil)
      (pss_one (ps_ret (pe_tup (pa_cons pe_str (pa_cons (pe_ix ix_tup (pv 0) pe_int (fun _ _ => rfl)) (pa_cons (pe_ix ix_tup (pv 0) pe_int (fun _ _ => rfl)) pa_nil))))))), ?_⟩
    rw [show L2.start N_change_of [.ref p1] = [some (.ref p1)] from rfl]
    have k0 : c.ch = c.tr → Q (.ref p1) H := fun e => kQ _ _ (by rw [e]; exact hv) fun _ _ h => h
    cases c with
    | cls n b ss => obtain ⟨t, rfl, ht⟩ := he; walk_at "dd"; exact k0 rfl
    | nocls n => cases he; walk_at "dd"; exact k0 rfl
    | slot n a => cases he; walk_at "dd"; exact k0 rfl
    | noslot n a => cases he; walk_at "dd"; exact k0 rfl
    | meth n sel txt =>
      cases he
      walk_at "dd"
      refine w_newT (by show 3 ≤ 1000000; decide) fun q H1 hq s1 h1 => ?_
      exact kQ _ _ (.t (.inl (.inl h1)) (.cons .s (.cons .s (.cons .s .nil)))) s1
    | nometh n sel => cases he; walk_at "dd"; exact k0 rfl
theorem ok_toldH {f : Addr} {fd : FuncData} (F : Fun K "told" "Journal.told" s_Journal_told f fd) (Y : Bn mg) (Y2 : BnD mg) (Z : JnTx K mg CJ) (cchange_of : CalH P w K mg base 1 "change_of" (spChgOf K)) : L2H.FnH P w K mg base C8.CX0 2 f fd ["self"] (spTold K CJ CS CD) := by
  refine fun_okH F sc_Journal_told (fun vs H Q E h => ?_) (fun cdv A outer s H vs Q E p hot hr h => ?_)
  · obtain ⟨J, es, fl, un, ds, F, rfl, _⟩ := h
    rfl
  · obtain ⟨J, es, fl, un, ds, F, rfl, hJ, hl, hlf, kQ⟩ := h
    have nd := sc_Journal_told.nd
    obtain ⟨dx, e, g, u, D, d, R, ev, hj, he, het, hg, hu, _⟩ := id hJ
    refine ⟨_, (pss_one (ps_ret (Hz.pe_lcHot (own := [("entry", 1), ("flag", 2)]) (g := gTup K 2 (gCons (gName 1) (gCons (gName 2) gNil))) (tt := tYes) (te := tTup (tCons (tCall (spChgOf K) [] C8.E0 (tCons (tVar 1) tNil)) (tCons (tVar 2) tNil))) (hot_cx hot) nd (Hz.pi_zipHot (by rfl) Y2.n_zip (pa_cons (pe_fld (pv 0) rfl) (pa_cons (pe_fld (pv 0) rfl) pa_nil))) (blkOk_by (own := [("entry", 1), ("flag", 2)]) (N := N_Journal_told) (sc := defScope s_Journal_told) (by decide +kernel)) (fun _ _ _ _ _ _ h => (Hz.pg_tupHot (Hz.hot_blk h) (pgs_cons (pg_name (i := 1) nd rfl (Or.inl rfl)) (pgs_cons (pg_name (i := 2) nd rfl (Or.inl rfl)) pgs_nil)))) (fun _ _ _ _ _ _ _ => pts_nil) (fun _ _ _ _ _ _ h => (pe_tup (pa_cons (pe_cH cchange_of hr (by decide) (Hz.hot_blk h) rfl (pa_cons (pv 1) pa_nil)) (pa_cons (pv 2) pa_nil))))))), ?_⟩
    rw [show L2.start N_Journal_told [.ref J] = [some (.ref J), none, none] from rfl]
    have hev : ev.length = es.length := by rw [het.length, List.length_map]
    walk_at "dd"
    refine o_fat hj Z.cj Z.n_entries rfl ?_
    walk_at "dd"
    refine o_fat hj Z.cj Z.n_in_force rfl ?_
    walk_at "dd"
    refine ⟨e, g, ev, fl.map V.bl, rfl, SqL.of he, SqL.of hg, ?_⟩
    refine lc_W (walk_zip (K := K) (a := e) (b := g) (xs := ev) (ys := fl.map V.bl) (n := es.length) (by rw [List.length_map]; omega)) (fun L i acc H1 => Same H H1 ∧ H L = none ∧ TrsAt K H1 acc (toldT (es.take i) (fl.take i))) (fun L H1 e1 s1 h1 => ⟨s1, e1, .nil⟩) (fun L i acc H1 _ h => ⟨SqL.of (h.1 _ _ he), SqL.of (h.1 _ _ hg)⟩) ?_ ?_
    · rintro L i v acc H1 H2 hi hacc hL ⟨s1, eL, hT⟩ ⟨q, x, y, rfl, hq, rfl, hx, hy⟩
      obtain ⟨x', t, hx1, ht1, hat⟩ := het.get (i := i) (by rw [List.length_map]; exact hi)
      have hx : ev[i]? = some x := hx
      have hy : (fl.map V.bl)[i]? = some y := hy
      rw [hx] at hx1; cases hx1
      rw [List.getElem?_map] at ht1 hy
      obtain ⟨c, hc, rfl⟩ := Option.map_eq_some_iff.mp ht1
      obtain ⟨b, hb, rfl⟩ := Option.map_eq_some_iff.mp hy
      have s2 : Same H1 (upd H1 q (.tup [x, .bl b])) := same_new0 hq
      refine ⟨q, _, rfl, .inl (.inl upd_same), rfl, ?_⟩
      refine ⟨_, _, rfl, ?_⟩
      walk_at "dd"
      refine ⟨_, _, rfl, ?_⟩
      walk_at "dd"
      refine ⟨rfl, ?_⟩
      walk_at "dd"
      refine ⟨rfl, ?_⟩
      walk_at "dd"
      refine ⟨x, c, rfl, (hat.same s1).same s2, fun v' H3 hv' s3 => ?_⟩
      walk_at "dd"
      refine w_newT (by show 2 ≤ 1000000; decide) fun q4 H4 hq4 s4 h4 => ?_
      have s14 : Same H1 H4 := (s2.trans s3).trans s4
      have hL4 : H4 L = some (.lst acc) := s14 _ _ hL
      refine lc_keep hacc (by omega) hL4 fun H5 h5 k5 => ⟨same_of_but eL (s1.trans s14) k5, eL, ?_⟩
      obtain ⟨hlt, em⟩ := List.getElem?_eq_some_iff.mp hc
      obtain ⟨hlt2, em2⟩ := List.getElem?_eq_some_iff.mp hb
      have et : toldT (es.take (i + 1)) (fl.take (i + 1)) = toldT (es.take i) (fl.take i) ++ [.t [Ch.ch c, .b b]] := by
        unfold toldT
        rw [List.take_succ_eq_append_getElem hlt, em, List.take_succ_eq_append_getElem hlt2, em2, List.zipWith_append (by rw [List.length_take, List.length_take]; omega)]
        rfl
      rw [et]
      have hq45 : H5 q4 = some (.tup [v', .bl b]) := k5 _ _ (fun z => by rw [z] at hq4; have := (s2.trans s3) _ _ hL; rw [hq4] at this; cases this) h4
      exact TrsAt.snoc (.t (.inl (.inl hq45)) (.cons ((hv'.same s4).but hL4 k5) (.cons .b .nil))) ((hT.same s14).but hL4 k5)
    · rintro L acc H1 hacc hL ⟨s1, eL, hT⟩
      rw [List.take_length, hlf, List.take_length] at hT
      exact kQ L acc H1 s1 eL hL hT
theorem ok_changesH {f : Addr} {fd : FuncData} (F : Fun K "changes" "Image.changes" s_Image_changes f fd) (Y : Bn mg) (Z : WoTx K CW CI) (m_told : MetH P w K mg base 2 CJ "told" (spTold K CJ CS CD)) : L2H.FnH P w K mg base C8.CX0 3 f fd ["self"] (spIChg K CI CW CJ CS CD) := by
  refine fun_okH F sc_Image_changes (fun vs H Q E h => ?_) (fun cdv A outer s H vs Q E p hot hr h => ?_)
  · obtain ⟨I, es, fl, un, ds, F, rfl, _⟩ := h
    rfl
  · obtain ⟨I, es, fl, un, ds, F, rfl, hI, hl, hlf, kQ⟩ := h
    have nd := sc_Image_changes.nd
    obtain ⟨dxI, dxW, W, J, a, b, c', d, FJ, h1, h2, h3, rfl, n1, n2, n3⟩ := hI
    obtain ⟨dxj, e, g, u, D, d', R, ev, hj, _⟩ := id h3
    refine ⟨_, (pss_one (ps_ret (pe_mtH0 m_told hr (by decide) (hot_cx hot) (pe_fld (pe_fld (pv 0) rfl) rfl)))), ?_⟩
    rw [show L2.start N_Image_changes [.ref I] = [some (.ref I)] from rfl]
    walk_at "dd"
    refine o_fat h1 Z.ci Z.n_world rfl ?_
    refine o_fat h2 Z.cw Z.n_journal rfl ?_
    refine o_mat hj rfl ?_
    walk_at "dd"
    exact ⟨J, es, fl, un, ds, FJ, rfl, h3, hl, hlf, kQ⟩
end
end
section
/-! A method that may raise, called in a try. -/
open PySem PySem.Spec PyProof.Rows L2
def MxsK (C : Addr) (m : Str) (x : V) (H1 : Hp) (G : Prop) : Prop := ∃ a dx fs, x = .ref a ∧ H1 a = some (.ins C dx fs) ∧ fs.lookup m = none ∧ G
def tMxs (C : Addr) (m : Str) (sp : Sp) (W : L2.St → XK) (ta : TE) (t : TA) : TE := fun σ H Q =>
  ta σ H fun x H1 => MxsK C m x H1 (t σ H1 fun vs H2 => sp (x :: vs) H2 Q (W σ))
section
variable {X : Cx} {k j : Nat} {C : Addr} {m : Str} {sp : Sp} {W : WX} {o e : Expr} {es : List Expr} {ta : TE} {t : TA} {apos pos : Pos}
theorem pe_mxs {pl : Sem Bool} (c : MetX X.prog X.w X.K X.mg X.base k C m sp []) (hr : Room j X.A) (hk : k ≤ j) (tk : L2N.Takes X W) (he : PE X o ta) (ha : PA X (e :: es) t)
    (h1 : starEach (e :: es) X.env = (false, eval e X.env) :: starEach es X.env := by rfl) (h2 : (backTo pos (starEach es X.env)).any (·.1) = false := by rfl)
    (h3 : eval (.Call (.Attribute o m apos) (e :: es) [] pos) X.env = (do
      let z ← eval o X.env
      standAt apos.atName
      let (f, first) ← holding [z] (getMethod z m pl)
      callWith pos f first (backTo pos (starEach (e :: es) X.env)) (backToKw pos (keywordEach [] X.env))) := by rfl) :
    PE X (.Call (.Attribute o m apos) (e :: es) [] pos) (tMxs C m sp (WE W) ta t) := by
  obtain ⟨f, fd, ps, ds, hc, hm, F, b, hd⟩ := c.ex
  cases hd
  constructor
  intro pins s0 σ0 H0 Q0 I0 h0
  refine PySem.W.methodCall_KW (pl := pl) ?_ h3
  refine thn (he.run pins s0 σ0 H0 _ I0 h0) ?_
  intro v1 st1 got
  obtain ⟨x, Hx, Ix, rx, a, dx, fs, rfl, hob, hno, next⟩ := got
  cases (show v1 = Value.ref a from rx)
  refine getmeth_ok Ix hob hc hm hno ?_
  refine PySem.W.callWith_K (first := [.ref a]) (h₀ := X.base) Ix.ok.mod.kin hm.kp ?_ h1 h2
  refine thn (ha.run pos pins st1 σ0 Hx _ Ix next) ?_
  intro us st2 rest
  obtain ⟨vs, Hy, Iy, ry, fin⟩ := rest
  exact ⟨Iy.kIn, L2.run_fnS (vs := .ref a :: vs) (us := .ref a :: us) F (hr.mono hk) b (L2N.passAt tk σ0) Iy (.cons rfl ry) fin⟩
end
section
variable {C : Addr} {m : Str} {sp : Sp} {W : L2.St → XK} {ta : TE} {t : TA} {σ : L2.St} {H : Hp} {Q : VK}
theorem w_mxs (k : ta σ H fun x H1 => MxsK C m x H1 (t σ H1 fun vs H2 => sp (x :: vs) H2 Q (W σ))) : tMxs C m sp W ta t σ H Q := k
theorem mxs_at {a dx : Addr} {fs : List (Str × V)} {H1 : Hp} {G : Prop} (h : H1 a = some (.ins C dx fs)) (n : fs.lookup m = none) (k : G) : MxsK C m (.ref a) H1 G := ⟨a, dx, fs, rfl, h, n, k⟩
end
end
section
/-! A change made, or refused. -/
open PySem PySem.Spec PyProof.Rows L2
open C8 (Cal Met Mak cal0 pe_c pe_gc pss_cut tCut pe_mt pe_mt0 pe_mk)

local macro_rules | `(tactic| walk_at "dd") => `(tactic| repeat (first
  | walk_at "r1c"
  | with_reducible refine w_dget ?_
  | with_reducible refine w_din ?_
  | with_reducible refine w_dnin ?_
  | with_reducible refine w_dput ?_
  | with_reducible refine w_ddel ?_
  | with_reducible refine w_lenSet ?_
  | with_reducible refine w_lcTt ?_
  | with_reducible refine cTe (by with_unfolding_all decide +kernel) ?_
  | with_reducible refine cTn (by with_unfolding_all decide +kernel) ?_
  | with_reducible refine cNe (by with_unfolding_all decide +kernel) ?_
  | with_reducible refine cNn (by with_unfolding_all decide +kernel) ?_
  | with_reducible refine w_par ?_
  | with_reducible refine w_raiseC ?_
  | with_reducible refine w_lcV ?_
  | with_reducible refine w_lcKk ?_
  | with_reducible refine w_lcZ ?_
  | with_reducible refine w_lcE ?_))

theorem told_g {es : List Ch} {fl : List Bool} (h : ∀ c ∈ es, TrG 2 c.ch) : ∀ t ∈ toldT es fl, TrG 3 t := by
  induction es generalizing fl with
  | nil => intro t ht; cases fl <;> exact absurd ht List.not_mem_nil
  | cons c r ih =>
    cases fl with
    | nil => intro t ht; exact absurd ht List.not_mem_nil
    | cons b fl =>
      intro t ht
      have ht : t ∈ Tr.t [Ch.ch c, .b b] :: toldT r fl := ht
      rcases List.mem_cons.mp ht with rfl | ht
      · show ∀ u ∈ [Ch.ch c, Tr.b b], TrG 2 u
        intro u hu
        simp only [List.mem_cons, List.not_mem_nil, or_false] at hu
        rcases hu with rfl | rfl
        · exact h c List.mem_cons_self
        · exact True.intro
      · exact ih (fun c hc => h c (List.mem_cons_of_mem _ hc)) t ht
theorem op_neDs {X : Cx} {K : PySem.W.Frag} (e : X.K = K) (hu : X.A.units + 64 < cLine) : OpR X (compareOp .NotEq) (rNeD K) := by subst e; exact op_neD hu
theorem call_isis {X : Cx} {K : PySem.W.Frag} (e : X.K = K) : CallR X (.builtin "isinstance") (rIsi K) := by subst e; exact call_isi
section
variable {P : Program} {w : World} {K : PySem.W.Frag} {mg : Str → Option Value} {base : Heap} {k : Nat} {CS CD CJ CW CI C fI : Addr}
abbrev s_law_made : Stmt := topS 123
abbrev N_law_made : List Str := ["image", "change", "before", "e"]
theorem sc_law_made : FnScope N_law_made ["image", "change"] (defScope s_law_made) := ⟨rfl, rfl, rfl, by decide +kernel, rfl, by decide +kernel, by decide +kernel⟩
def spLMad (K : PySem.W.Frag) (CI CW CJ CS CD : Addr) : Sp := fun vs H Q _ => ∃ (I : Addr) (v : V) (c : Ch) (es : List Ch) (fl : List Bool) (un : List Nat) (ds : List Cl) (F : List Addr) (n : Nat), vs = [.ref I, v] ∧ ImA K CI CW CJ CS CD I es fl un ds F H ∧ TrAt K H v c.ch ∧ NoM c ∧ ChSm c ∧
  (∀ c ∈ es, TrG 2 c.ch) ∧ Nice n ds ∧ n ≤ 60 ∧ es.length ≤ 60 ∧ es.length = fl.length ∧
  (if 60 ≤ es.length ∨ refM ds c = true then ∀ p H', Same H H' → SqT K H' p [T (cds "refused"), .int (es.length : Int)] → Q (.ref p) H' else ImQ K CI CW CJ CS CD I (es ++ [c]) (fl ++ [true]) [] (carM ds c) F H (Q (.int (es.length : Int))))
theorem ok_law_made {f : Addr} {fd : FuncData} (F : Fun K "_law_made" "_law_made" s_law_made f fd) (Y : Bn mg) (T : PySem.ChgX.ChgTxt P K mg "ChangeRefused" C fI) (m_make : MetX P w K mg base 8 CI "make" (spIMak K CI CW CJ CS CD C NoM) [])
    (m_changes : Met P w K mg base 3 CI "changes" (spIChg K CI CW CJ CS CD) []) (m_changesH : MetH P w K mg base 3 CI "changes" (spIChg K CI CW CJ CS CD)) : FnOk P w K mg base CX0 9 f fd ["image", "change"] (spLMad K CI CW CJ CS CD) := by
  refine F.ok sc_law_made (fun vs H Q E h => ?_) (fun cdv A outer s H vs Q E hr h => ?_)
  · obtain ⟨I, v, c, es, fl, un, ds, F, n, rfl, _⟩ := h
    rfl
  · obtain ⟨I, v, c, es, fl, un, ds, F, n, rfl, hI, hv, hG, hsm, hg, hN, hn60, hl60, hlen, out⟩ := h
    have nd := sc_law_made.nd
    have gCR : Names (cxOf CX0 P w K mg base N_law_made "_law_made" (defScope s_law_made) f cdv A outer s H E).nox "ChangeRefused" (.ref C) := ⟨rfl, by decide, .inl T.gC⟩
    refine ⟨_, (pss_cons (ps_set (i := 2) nd rfl (Or.inl rfl) (pe_mt0 m_changes hr (by omega) (pv 0)))
      (pss_one (L2N.ps_try_as (i := 3) rfl rfl nd rfl rfl gCR takesN0 (fun W pn xe tk po => pss_one (ps_ret (pe_mxs m_make hr (by decide) tk (pv 0) (pa_cons (pv 1) pa_nil)))) (fun a oe cls d pn hz hf => pss_cons (ps_if (PW.pt (pw_or (pt_cmpR (op_neDs (K := K) rfl hr.units) (pe_mtH0 (j := 8) m_changesH ⟨hr.dp, hr.un⟩ (by decide) (hot_suite hz hf) (pv 0)) (pv 2) (nomark _)) (pw_or1 (pt_val (pe_callB (call_isis (K := K) rfl) (by rfl) Y.n_isinstance (by decide +kernel) (pa_cons (pe_byChg T hz.zc hf (pv 3)) (pa_cons (pe_bltn (v := .ty "bool") (by rfl) Y.n_bool (by decide +kernel) rfl) pa_nil))))))) (pss_one (ps_ret pe_non)) pss_nil) (pss_one (ps_ret (pe_tup (pa_cons pe_str (pa_cons (pe_byChg T hz.zc hf (pv 3)) pa_nil))))))))), ?_⟩
    rw [show L2.start N_law_made [.ref I, v] = [some (.ref I), some v, none, none] from rfl]
    walk_at "dd"
    have hI0 := hI
    obtain ⟨dxI, dxW, W, J, a, b, c', d, FJ, h1, h2, h3, rfl, n1, n2, n3⟩ := id hI
    refine o_mat h1 rfl ?_
    walk_at "dd"
    refine ⟨I, es, fl, un, ds, _, rfl, hI, by omega, hlen, fun pb ub H1 s1 hb0 hb hbT => ?_⟩
    walk_at "dd"
    refine w_mxs ?_
    walk_at "dd"
    refine mxs_at (s1 _ _ h1) rfl ?_
    walk_at "dd"
    refine ⟨I, v, c, es, fl, un, ds, _, n, rfl, hI.keep s1, hv.same s1, hG, hsm, hN, hn60, hl60, by omega, ?_⟩
    by_cases hc : 60 ≤ es.length ∨ refM ds c = true
    · rw [if_pos hc] at out ⊢
      intro dd H2 hd s2 h2'
      refine ⟨true, T.te, fun _ ea hea => ?_, fun h => nomatch h⟩
      walk_at "dd"
      have hI2 := (hI.keep s1).keep s2
      refine o_mat (s2 _ _ (s1 _ _ h1)) rfl ?_
      walk_at "dd"
      refine ⟨I, es, fl, un, ds, _, rfl, hI2, by omega, hlen, fun p3 u3 H3 s3 h30 h33 h3T => ?_⟩
      walk_at "dd"
      refine neD_lst (n := 3) (SqL.of h33) h3T (SqL.of (s3 _ _ (s2 _ _ hb))) (TrsAt.same (TrsAt.same hbT s2) s3) (told_g hg) (by decide) ?_
      walk_at "dd"
      refine ⟨_, rfl, rfl, rfl, dd, _, rfl, s3 _ _ h2', ?_⟩
      walk_at "dd"
      refine ⟨_, rfl, rfl, rfl, dd, _, rfl, s3 _ _ h2', ?_⟩
      walk_at "dd"
      refine w_newT (by show 2 ≤ 1000000; decide) fun p H4 hp s4 h4 => ?_
      exact out p H4 (((s1.trans s2).trans s3).trans s4) (.inl (.inl h4))
    · rw [if_neg hc] at out ⊢
      intro F' H' hI' go
      exact out F' H' hI' ((Go.same s1).trans go)
end
end
section
/-! Definitions of one or two classes below Thing, in plain Lean. -/
abbrev tg : List Nat := cds "Thing"
def d2 (n : List Nat) (ss : List (List Nat)) : List Cl := [thing, ⟨n, some tg, ss, []⟩]
section
variable {n s m : List Nat} {ss more : List (List Nat)}
theorem thing_nm : thing.nm = tg := rfl
theorem nms_d2 : nms (d2 n ss) = [tg, n] := rfl
theorem in_d2 : n ∈ nms (d2 n ss) := by rw [nms_d2]; simp
theorem line_top : lineR [thing] tg = [tg] := by
  unfold lineR
  rw [if_pos (show thing.nm = tg from rfl)]
  rfl
theorem line_d2 : lineD (d2 n ss) n = [n, tg] := by
  show lineR [⟨n, some tg, ss, []⟩, thing] n = _
  unfold lineR
  rw [if_pos rfl]
  show n :: lineR [thing] tg = _
  rw [line_top]
theorem line_d2t (h : n ≠ tg) : lineD (d2 n ss) tg = [tg] := by
  show lineR [⟨n, some tg, ss, []⟩, thing] tg = _
  unfold lineR
  rw [if_neg h]
  exact line_top
theorem slots_d2 (h : n ≠ tg) : slotsD (d2 n ss) n = ss := by
  unfold slotsD getC d2
  rw [List.find?_cons, decide_eq_false (show ¬ thing.nm = n from fun e => h e.symm), List.find?_cons, decide_eq_true rfl]
theorem slots_d2t : slotsD (d2 n ss) tg = [] := by
  unfold slotsD getC d2
  rw [List.find?_cons, decide_eq_true (show thing.nm = tg from rfl)]
  rfl
theorem all_d2 (h : n ≠ tg) : allS (d2 n ss) n = ss := by
  unfold allS
  rw [line_d2]
  show slotsD (d2 n ss) tg ++ (slotsD (d2 n ss) n ++ []) = ss
  rw [slots_d2t, slots_d2 h]
  simp
theorem has_d2 (h : n ≠ tg) : hasS (d2 n ss) n s = decide (s ∈ ss) := by
  unfold hasS
  rw [decide_eq_true in_d2, all_d2 h]
  rfl
theorem bel_d2 (h : n ≠ tg) : slotBelow (d2 n ss) n s = decide (s ∈ ss) := by
  unfold slotBelow below
  have e1 : (d2 n ss).filter (fun c => decide (n ∈ lineD (d2 n ss) c.nm)) = [⟨n, some tg, ss, []⟩] := by
    show List.filter _ [thing, ⟨n, some tg, ss, []⟩] = _
    rw [List.filter_cons, thing_nm, line_d2t h]
    rw [decide_eq_false (show ¬ n ∈ [tg] from fun z => h (List.mem_singleton.mp z)), if_neg Bool.false_ne_true, List.filter_cons]
    show (if decide (n ∈ lineD (d2 n ss) n) = true then _ else _) = _
    rw [line_d2, decide_eq_true (show n ∈ [n, tg] from List.mem_cons_self), if_pos rfl]
    rfl
  rw [e1]
  show (decide (s ∈ ss) || false) = _
  rw [Bool.or_false]
theorem line_0 : lineD [thing] tg = [tg] := line_top
theorem slots_0 : slotsD [thing] tg = [] := by
  unfold slotsD getC
  rw [List.find?_cons, decide_eq_true (show thing.nm = tg from rfl)]
  rfl
theorem all_0 : allS [thing] tg = [] := by
  unfold allS
  rw [line_0]
  show slotsD [thing] tg ++ [] = []
  rw [slots_0]
  rfl
theorem has_0 : hasS [thing] tg s = false := by
  unfold hasS
  rw [all_0, decide_eq_false List.not_mem_nil, Bool.and_false]
theorem ref_0 (h : n ≠ tg) (nd : ss.Nodup) : refM [thing] (.cls n tg ss) = decide (8 < ss.length) := by
  show refC [thing] n tg ss = _
  unfold refC
  rw [if_neg (show ¬ (n ∈ nms [thing] ∨ tg ∉ nms [thing]) from fun z => z.elim (fun q => h (List.mem_singleton.mp q)) fun q => q (List.mem_singleton.mpr rfl))]
  by_cases z : 8 < ss.length
  · rw [if_pos (.inr z), decide_eq_true z]
  · rw [if_neg (fun q => q.elim (fun e => absurd e (by decide)) z), decide_eq_true nd, decide_eq_false z]
    show (false || ss.any (hasS [thing] tg)) = false
    rw [Bool.false_or, List.any_eq_false]
    exact fun s _ => by rw [has_0]; exact Bool.false_ne_true
theorem car_0 : carM [thing] (.cls n tg ss) = d2 n ss := rfl
theorem ref_slot (h : n ≠ tg) : refM (d2 n ss) (.slot n s) = (decide (ss.length = 8) || decide (s ∈ ss)) := by
  show (if n ∉ nms (d2 n ss) then true else refS (d2 n ss) n s) = _
  rw [if_neg (fun q => q in_d2)]
  unfold refS
  rw [slots_d2 h]
  by_cases z : ss.length = 8
  · rw [if_pos (.inr z), decide_eq_true z]; rfl
  · rw [if_neg (fun q => q.elim h z), has_d2 h, bel_d2 h, decide_eq_false z, Bool.or_self, Bool.false_or]
theorem on_d2 (h : n ≠ tg) (f : Cl → Cl) : onC n f (d2 n ss) = [thing, f ⟨n, some tg, ss, []⟩] := by
  show [if thing.nm = n then f thing else thing, if n = n then f ⟨n, some tg, ss, []⟩ else _] = _
  rw [if_neg (fun e => h (by rw [← e, thing_nm])), if_pos rfl]
theorem car_slot (h : n ≠ tg) : carM (d2 n ss) (.slot n s) = d2 n (ss ++ [s]) := on_d2 h _
theorem car_noslot (h : n ≠ tg) : carM (d2 n ss) (.noslot n s) = d2 n (ss.erase s) := on_d2 h _
theorem ref_noslot (h : n ≠ tg) : refM (d2 n ss) (.noslot n s) = decide (s ∉ ss) := by
  show (if n ∉ nms (d2 n ss) then true else decide (s ∉ slotsD (d2 n ss) n)) = _
  rw [if_neg (fun q => q in_d2), slots_d2 h]
theorem ref_under (h : n ≠ tg) (h1 : m ≠ tg) (h2 : m ≠ n) (hl : more.length ≤ 8) (nd : more.Nodup) (hs : ∀ s ∈ more, s ∉ ss) : refM (d2 n ss) (.cls m n more) = false := by
  show refC (d2 n ss) m n more = _
  unfold refC
  rw [if_neg (show ¬ (m ∈ nms (d2 n ss) ∨ n ∉ nms (d2 n ss)) from fun z => z.elim (fun q => by
    rw [nms_d2] at q
    simp only [List.mem_cons, List.not_mem_nil, or_false] at q
    exact q.elim h1 h2) fun q => q in_d2)]
  rw [if_neg (show ¬ ((d2 n ss).length = 20 ∨ 8 < more.length) from fun z => z.elim (fun q => by cases q) fun q => by omega), decide_eq_true nd]
  show (false || more.any (hasS (d2 n ss) n)) = false
  rw [Bool.false_or, List.any_eq_false]
  exact fun s hm => by rw [has_d2 h, decide_eq_false (hs s hm)]; exact Bool.false_ne_true
theorem all_under (h : n ≠ tg) (h1 : m ≠ tg) (h2 : m ≠ n) : allS (carM (d2 n ss) (.cls m n more)) m = ss ++ more := by
  show allS [thing, ⟨n, some tg, ss, []⟩, ⟨m, some n, more, []⟩] m = _
  have l : lineD [thing, ⟨n, some tg, ss, []⟩, ⟨m, some n, more, []⟩] m = [m, n, tg] := by
    show lineR [⟨m, some n, more, []⟩, ⟨n, some tg, ss, []⟩, thing] m = _
    unfold lineR
    rw [if_pos rfl]
    show m :: lineR [⟨n, some tg, ss, []⟩, thing] n = _
    rw [show lineR [⟨n, some tg, ss, []⟩, thing] n = [n, tg] from line_d2]
  have s1 : slotsD [thing, ⟨n, some tg, ss, []⟩, ⟨m, some n, more, []⟩] tg = [] := by
    unfold slotsD getC
    rw [List.find?_cons, decide_eq_true (show thing.nm = tg from rfl)]
    rfl
  have s2 : slotsD [thing, ⟨n, some tg, ss, []⟩, ⟨m, some n, more, []⟩] n = ss := by
    unfold slotsD getC
    rw [List.find?_cons, decide_eq_false (show ¬ thing.nm = n from fun e => h e.symm), List.find?_cons, decide_eq_true rfl]
  have s3 : slotsD [thing, ⟨n, some tg, ss, []⟩, ⟨m, some n, more, []⟩] m = more := by
    unfold slotsD getC
    rw [List.find?_cons, decide_eq_false (show ¬ thing.nm = m from fun e => h1 e.symm), List.find?_cons, decide_eq_false (show ¬ n = m from fun e => h2 e.symm), List.find?_cons, decide_eq_true rfl]
  unfold allS
  rw [l]
  show slotsD _ tg ++ (slotsD _ n ++ (slotsD _ m ++ [])) = _
  rw [s1, s2, s3]
  simp
end
/-! ### classes made and the newest taken away -/
section
variable {ds : List Cl} {n b : List Nat}
theorem ref_cls (hn : n ∉ nms ds) (hb : b ∈ nms ds) : refM ds (.cls n b []) = decide (ds.length = 20) := by
  show refC ds n b [] = _
  unfold refC
  rw [if_neg (fun z => z.elim hn fun q => q hb)]
  by_cases z : ds.length = 20
  · rw [if_pos (.inl z), decide_eq_true z]
  · rw [if_neg (fun q => q.elim z fun q => by cases q), decide_eq_false z]
    rfl
theorem nms_cls : nms (carM ds (.cls n b [])) = nms ds ++ [n] := by
  show nms (ds ++ [_]) = _
  rw [nms_app]
  rfl
theorem len_nms : (nms ds).length = ds.length := List.length_map ..
theorem Dv.base_in : ∀ {r : List Cl}, Dv r → ∀ c ∈ r, ∀ b, c.base = some b → b ∈ nms r
  | _, .top, c, hc, b, e => by rw [List.mem_singleton.mp hc] at e; cases e
  | _, .more (c := c0) (r := r) h hb hm hn, c, hc, b, e => by
    rcases List.mem_cons.mp hc with rfl | hc
    · rw [hb] at e; cases e; exact List.mem_cons_of_mem _ hm
    · exact List.mem_cons_of_mem _ (h.base_in c hc b e)
/-- the newest class has none below -/
theorem last_free {c : Cl} {q : List Cl} (h : DsOk (q ++ [c])) (hq : q ≠ []) : c.nm ≠ tg ∧ clsBelow (q ++ [c]) c.nm = false ∧ DsOk q := by
  have h2 : Dv (c :: q.reverse) := by
    have := h
    unfold DsOk at this
    rwa [List.reverse_append] at this
  have hqr : q.reverse ≠ [] := fun e => hq (List.reverse_eq_nil_iff.mp e)
  generalize hr : q.reverse = r at h2 hqr
  cases h2 with
  | top => exact absurd rfl hqr
  | more h3 hb hm hn =>
    refine ⟨fun e => ?_, ?_, by unfold DsOk; rw [hr]; exact h3⟩
    · exact hn (by rw [e]; exact List.mem_map.mpr ⟨thing, h3.pos, rfl⟩)
    · unfold clsBelow
      rw [List.any_eq_false]
      intro x hx
      rw [decide_eq_true_eq]
      intro e
      rcases List.mem_append.mp hx with hx | hx
      · exact hn (h3.base_in x (by rw [← hr]; exact List.mem_reverse.mpr hx) _ e)
      · rw [List.mem_singleton.mp hx, hb] at e
        cases e
        exact hn hm
theorem ref_nocls {c : Cl} {q : List Cl} (h : DsOk (q ++ [c])) (hq : q ≠ []) : refM (q ++ [c]) (.nocls c.nm) = false := by
  obtain ⟨h1, h2, _⟩ := last_free h hq
  show (if c.nm ∉ nms (q ++ [c]) then true else decide (c.nm = tg) || clsBelow (q ++ [c]) c.nm) = false
  rw [if_neg (fun z => z (by rw [nms_app]; exact List.mem_append_right _ (List.mem_singleton.mpr rfl))), decide_eq_false h1, h2]
  rfl
theorem car_nocls {c : Cl} {q : List Cl} (h : DsOk (q ++ [c])) : carM (q ++ [c]) (.nocls c.nm) = q := by
  have nd := h.nd
  rw [nms_app] at nd
  obtain ⟨_, _, d⟩ := List.nodup_append.mp nd
  show (q ++ [c]).filter (fun x => decide (x.nm ≠ c.nm)) = q
  rw [List.filter_append, List.filter_eq_self.mpr (fun x hx => decide_eq_true (d x.nm (List.mem_map.mpr ⟨x, hx, rfl⟩) c.nm (List.mem_singleton.mpr rfl)))]
  rw [List.filter_cons, decide_eq_false (fun z => z rfl)]
  simp
end
/-! ### a slot put in and taken out, again and again -/
def tgl (n b : List Nat) (k : Nat) : Ch := if k = 0 then .cls n tg [] else if k % 2 = 1 then .slot n b else .noslot n b
def tgs (n b : List Nat) (c : Nat) : List Ch := (List.range c).map (tgl n b)
def upto (c m : Nat) : List Bool := (List.range c).map fun i => decide (i < m)
def slo (b : List Nat) (m : Nat) : List (List Nat) := if m % 2 = 0 then [b] else []
section
variable {n b : List Nat} {c m : Nat}
theorem tgs_len : (tgs n b c).length = c := by unfold tgs; rw [List.length_map, List.length_range]
theorem upto_len : (upto c m).length = c := by unfold upto; rw [List.length_map, List.length_range]
theorem tgs_succ : tgs n b (c + 1) = tgs n b c ++ [tgl n b c] := by unfold tgs; rw [List.range_succ, List.map_append]; rfl
theorem upto_succ : upto (c + 1) (c + 1) = upto c c ++ [true] := by
  unfold upto
  rw [List.range_succ, List.map_append]
  congr 1
  · refine List.map_congr_left fun i hi => ?_
    have := List.mem_range.mp hi
    rw [decide_eq_true (show i < c + 1 by omega), decide_eq_true this]
  · simp
theorem upto_set (hm : m < c) : (upto c (m + 1)).set m false = upto c m := by
  refine List.ext_getElem? fun i => ?_
  rw [List.getElem?_set, upto_len]
  have g : ∀ k, (upto c k)[i]? = if i < c then some (decide (i < k)) else none := fun k => by
    unfold upto
    rw [List.getElem?_map]
    by_cases hi : i < c
    · rw [List.getElem?_range hi, if_pos hi]; rfl
    · rw [List.getElem?_eq_none (by rw [List.length_range]; omega), if_neg hi]; rfl
  rw [g, g]
  by_cases e : m = i
  · subst e
    rw [if_pos rfl, if_pos hm, if_pos hm, decide_eq_false (Nat.lt_irrefl m)]
  · rw [if_neg e]
    by_cases hi : i < c
    · rw [if_pos hi, if_pos hi]
      exact congrArg some (decide_eq_decide.mpr (by omega))
    · rw [if_neg hi, if_neg hi]
theorem stand_up (h : m ≤ c) : standN (upto c m) = List.range m := by
  unfold standN
  rw [upto_len]
  have e : ∀ i ∈ List.range c, ((upto c m).getD i false) = decide (i < m) := fun i hi => by
    have hi := List.mem_range.mp hi
    unfold upto
    rw [List.getD_eq_getElem?_getD, List.getElem?_map, List.getElem?_range hi]
    rfl
  rw [List.filter_congr e]
  obtain ⟨j, rfl⟩ : ∃ j, c = m + j := ⟨c - m, by omega⟩
  rw [List.range_add, List.filter_append, List.filter_eq_self.mpr (fun i hi => decide_eq_true (List.mem_range.mp hi)), List.filter_eq_nil_iff.mpr, List.append_nil]
  intro i hi
  obtain ⟨k, _, rfl⟩ := List.mem_map.mp hi
  rw [decide_eq_true_eq]
  omega
theorem stand_last (h : m ≤ c) (h0 : 0 < m) : (standN (upto c m)).getLast? = some (m - 1) := by
  rw [stand_up h]
  obtain ⟨j, rfl⟩ : ∃ j, m = j + 1 := ⟨m - 1, by omega⟩
  rw [List.range_succ, List.getLast?_append]
  rfl
theorem made_off : ∀ {l : List (Ch × Bool)} {ds : List Cl} {i : Nat}, (∀ p ∈ l, p.2 = false) → madeM ds i l = .inr ds
  | [], _, _, _ => rfl
  | (x, y) :: r, ds, i, h => by
    have hy : y = false := h (x, y) List.mem_cons_self
    rw [madeM_cons, hy, if_neg Bool.false_ne_true]
    exact made_off fun p hp => h p (List.mem_cons_of_mem _ hp)
theorem made_app : ∀ {l r : List (Ch × Bool)} {ds ds' : List Cl} {i : Nat}, madeM ds i l = .inr ds' → madeM ds i (l ++ r) = madeM ds' (i + l.length) r
  | [], r, ds, ds', i, h => by
    have h : Sum.inr ds = (Sum.inr ds' : Sum Nat (List Cl)) := h
    cases h; rfl
  | (x, y) :: l, r, ds, ds', i, h => by
    rw [List.cons_append, madeM_cons]
    rw [madeM_cons] at h
    rw [List.length_cons, show i + (l.length + 1) = i + 1 + l.length by omega]
    by_cases hy : y = true
    · rw [if_pos hy] at h ⊢
      by_cases hr : refM ds x = true
      · rw [if_pos hr] at h; cases h
      · rw [if_neg hr] at h ⊢
        exact made_app h
    · rw [if_neg hy] at h ⊢
      exact made_app h
/-- what the first m changes make -/
def dsT (n b : List Nat) (m : Nat) : List Cl := if m = 0 then [thing] else d2 n (slo b m)
theorem ref_tgl (h : n ≠ tg) (k : Nat) : refM (dsT n b k) (tgl n b k) = false ∧ carM (dsT n b k) (tgl n b k) = dsT n b (k + 1) := by
  unfold dsT tgl
  rw [if_neg (Nat.succ_ne_zero k)]
  by_cases z : k = 0
  · rw [if_pos z, if_pos z, z]
    exact ⟨by rw [ref_0 h List.nodup_nil]; rfl, rfl⟩
  · rw [if_neg z, if_neg z]
    by_cases o : k % 2 = 1
    · rw [if_pos o]
      have e1 : slo b k = [] := by unfold slo; rw [if_neg (by omega)]
      have e2 : slo b (k + 1) = [b] := by unfold slo; rw [if_pos (by omega)]
      rw [e1, e2, ref_slot h, car_slot h]
      exact ⟨by simp, rfl⟩
    · rw [if_neg o]
      have e1 : slo b k = [b] := by unfold slo; rw [if_pos (by omega)]
      have e2 : slo b (k + 1) = [] := by unfold slo; rw [if_neg (by omega)]
      rw [e1, e2, ref_noslot h, car_noslot h]
      exact ⟨by simp, by simp⟩
theorem made_all (h : n ≠ tg) : ∀ m, madeM [thing] 0 ((tgs n b m).zip (upto m m)) = .inr (dsT n b m)
  | 0 => rfl
  | m + 1 => by
    have ih := made_all h m
    rw [tgs_succ, upto_succ, List.zip_append (by rw [tgs_len, upto_len]), made_app ih]
    obtain ⟨r1, r2⟩ := ref_tgl (b := b) h m
    show madeM (dsT n b m) _ [(tgl n b m, true)] = _
    rw [madeM_cons, if_pos rfl, r1, if_neg Bool.false_ne_true, r2]
    rfl
theorem made_tgs (h : n ≠ tg) (hm : m ≤ c) : madeM [thing] 0 ((tgs n b c).zip (upto c m)) = .inr (dsT n b m) := by
  obtain ⟨j, rfl⟩ : ∃ j, c = m + j := ⟨c - m, by omega⟩
  have e1 : tgs n b (m + j) = tgs n b m ++ (List.range j).map fun i => tgl n b (m + i) := by
    unfold tgs
    rw [List.range_add, List.map_append, List.map_map]
    rfl
  have e2 : upto (m + j) m = upto m m ++ (List.range j).map fun _ => false := by
    unfold upto
    rw [List.range_add, List.map_append, List.map_map]
    congr 1
    refine List.map_congr_left fun i _ => ?_
    show decide (m + i < m) = false
    rw [decide_eq_false (by omega)]
  rw [e1, e2, List.zip_append (by rw [tgs_len, upto_len]), made_app (made_all h m)]
  exact made_off fun p hp => by
    have := (List.of_mem_zip hp).2
    obtain ⟨_, _, e⟩ := List.mem_map.mp this
    exact e.symm
end
end
section
/-! An image that changes are made in; the bound on slots. -/
open PySem PySem.Spec PyProof.Rows L2
open C8 (Cal Met Mak cal0 pe_c pe_gc pss_cut tCut pe_mt pe_mt0 pe_mk)
open TL (numL numL_len numL_inj)

local macro_rules | `(tactic| walk_at "dd") => `(tactic| repeat (first
  | walk_at "r1c"
  | with_reducible refine w_dget ?_
  | with_reducible refine w_din ?_
  | with_reducible refine w_dnin ?_
  | with_reducible refine w_dput ?_
  | with_reducible refine w_ddel ?_
  | with_reducible refine w_lenSet ?_
  | with_reducible refine w_lcTt ?_
  | with_reducible refine cTe (by with_unfolding_all decide +kernel) ?_
  | with_reducible refine cTn (by with_unfolding_all decide +kernel) ?_
  | with_reducible refine cNe (by with_unfolding_all decide +kernel) ?_
  | with_reducible refine cNn (by with_unfolding_all decide +kernel) ?_
  | with_reducible refine w_par ?_
  | with_reducible refine w_raiseC ?_
  | with_reducible refine w_lcV ?_
  | with_reducible refine w_lcKk ?_
  | with_reducible refine w_lcZ ?_
  | with_reducible refine w_lcE ?_))

/-- an image and the draws beside it -/
structure MkI (K : PySem.W.Frag) (CI CW CJ CS CD I S L : Addr) (es : List Ch) (fl : List Bool) (un : List Nat) (ds : List Cl) (F : List Addr) (n : Nat) (H : Hp) : Prop where
  im : ImA K CI CW CJ CS CD I es fl un ds F H
  dr : StAt H S L
  sF : S ∉ F ∧ L ∉ F
  tr : ∀ c ∈ es, TrG 2 c.ch
  nc : Nice n ds
  ln : es.length = fl.length
theorem ImA.butL {K : PySem.W.Frag} {CI CW CJ CS CD I x : Addr} {es : List Ch} {fl : List Bool} {un : List Nat} {ds : List Cl} {F : List Addr} {ys : List V} {H H1 : Hp} (h : ImA K CI CW CJ CS CD I es fl un ds F H) (hx : H x = some (.lst ys)) (nx : x ∉ F) (k : ∀ b o, b ≠ x → H b = some o → H1 b = some o) :
    ImA K CI CW CJ CS CD I es fl un ds F H1 := by
  obtain ⟨dxI, dxW, W, J, a, b, c, d, FJ, h1, h2, h3, rfl, n1, n2, n3⟩ := h
  obtain ⟨dxj, e, g, u, D, d', R, ev, hj, he, ht, hg, hu, hW, hR, rfl, hnd⟩ := h3
  simp only [List.mem_cons, not_or] at nx
  obtain ⟨x1, x2, x3, x4, x5, x6, x7⟩ := nx
  have ne : ∀ {y : Addr}, ¬ x = y → y ≠ x := fun z q => z q.symm
  exact ⟨dxI, dxW, W, J, a, b, c, d, _, k _ _ (ne x1) h1, k _ _ (ne x2) h2, ⟨dxj, e, g, u, D, d', R, ev, k _ _ (ne x3) hj, k _ _ (ne x4) he, ht.but hx k, k _ _ (ne x5) hg, k _ _ (ne x6) hu,
    hW.keep (fun y hy o q => k y o (fun z => x7 (by rw [← z]; exact hy)) q), hR, rfl, hnd⟩, rfl, n1, n2, n3⟩
theorem StAt.go {F F' : List Addr} {H H' : Hp} {S L : Addr} (h : StAt H S L) (g : Go F F' H H') (n : S ∉ F ∧ L ∉ F) : StAt H' S L := by
  obtain ⟨ns, i, c, k, b, r, h1, h2, h3, h4⟩ := h
  exact ⟨ns, i, c, k, b, r, h1, g.fr.1 _ _ n.2 h2, h3, g.fr.1 _ _ n.1 h4⟩
theorem Go.out {F F' : List Addr} {H H' : Hp} (g : Go F F' H H') {b : Addr} {o : HO} (n : b ∉ F) (h : H b = some o) : b ∉ F' := fun z => (g.nw b z).elim n fun e => by rw [h] at e; cases e
section
variable {K : PySem.W.Frag} {CI CW CJ CS CD I S L : Addr} {es : List Ch} {fl : List Bool} {un : List Nat} {ds : List Cl} {F : List Addr} {n : Nat} {H H1 : Hp} {Q : VK} {E : XK}
theorem MkI.same (h : MkI K CI CW CJ CS CD I S L es fl un ds F n H) (s : Same H H1) : MkI K CI CW CJ CS CD I S L es fl un ds F n H1 := ⟨h.im.keep s, h.dr.mono s, h.sF, h.tr, h.nc, h.ln⟩
theorem MkI.draw (h : MkI K CI CW CJ CS CD I S L es fl un ds F n H) (d : StAt H1 S L) (f : Fr S H H1) : MkI K CI CW CJ CS CD I S L es fl un ds F n H1 := by
  obtain ⟨i, c, k, b, r, h4⟩ := h.dr.obj
  exact ⟨h.im.butL h4 h.sF.1 f, d, h.sF, h.tr, h.nc, h.ln⟩
theorem MkI.go {es' : List Ch} {fl' : List Bool} {un' : List Nat} {ds' : List Cl} {F' : List Addr} {n' : Nat} (h : MkI K CI CW CJ CS CD I S L es fl un ds F n H) (i : ImA K CI CW CJ CS CD I es' fl' un' ds' F' H1) (g : Go F F' H H1) (t : ∀ c ∈ es', TrG 2 c.ch) (hn : Nice n' ds') (hl : es'.length = fl'.length) :
    MkI K CI CW CJ CS CD I S L es' fl' un' ds' F' n' H1 := by
  obtain ⟨_, _, _, _, _, h4⟩ := h.dr.obj
  obtain ⟨_, _, _, _, _, _, _, h2, _⟩ := id h.dr
  exact ⟨i, h.dr.go g h.sF, ⟨g.out h.sF.1 h4, g.out h.sF.2 h2⟩, t, hn, hl⟩
theorem MkI.iat (h : MkI K CI CW CJ CS CD I S L es fl un ds F n H) : ∃ dx W, H I = some (.ins CI dx [("_world", .ref W)]) := by
  obtain ⟨dxI, dxW, W, J, a, b, c, d, FJ, h1, _⟩ := h.im
  exact ⟨dxI, W, h1⟩
/-- what is asked of a change -/
def ChO (c : Ch) : Prop := NoM c ∧ ChSm c ∧ TrG 2 c.ch
theorem use_made {v : V} {c : Ch} (h : MkI K CI CW CJ CS CD I S L es fl un ds F n H) (hv : TrAt K H v c.ch) (hc : ChO c) (hn : n ≤ 60) (hl : es.length ≤ 60)
    (kr : 60 ≤ es.length ∨ refM ds c = true → ∀ p H', Same H H' → SqT K H' p [T (cds "refused"), .int (es.length : Int)] → Q (.ref p) H')
    (km : es.length < 60 → refM ds c = false → ∀ F' H', Go F F' H H' → MkI K CI CW CJ CS CD I S L (es ++ [c]) (fl ++ [true]) [] (carM ds c) F' (n + 1) H' → Q (.int (es.length : Int)) H') :
    spLMad K CI CW CJ CS CD ([.ref I, v] ++ []) H Q E := by
  refine ⟨I, v, c, es, fl, un, ds, F, n, rfl, h.im, hv, hc.1, hc.2.1, h.tr, h.nc, hn, hl, h.ln, ?_⟩
  by_cases z : 60 ≤ es.length ∨ refM ds c = true
  · rw [if_pos z]; exact kr z
  · rw [if_neg z]
    have z2 : refM ds c = false := by
      cases e : refM ds c with
      | false => rfl
      | true => exact absurd (.inr e) z
    intro F' H' hi g
    refine km (Nat.lt_of_not_le fun q => z (.inl q)) z2 F' H' g (h.go hi g (fun x hx => ?_) (h.nc.car z2) (by rw [List.length_append, List.length_append, h.ln]; rfl))
    rcases List.mem_append.mp hx with hx | hx
    · exact h.tr x hx
    · rw [List.mem_singleton.mp hx]; exact hc.2.2
theorem MkI.sq (h : MkI K CI CW CJ CS CD I S L es fl un ds F n H) {F' : List Addr} (g : Go F F' H H1) {p : Addr} {xs : List V} (q : SqT K H p xs) : SqT K H1 p xs := sqT_frL g.fr h.im.no q
theorem MkI.sqD (h : MkI K CI CW CJ CS CD I S L es fl un ds F n H) (f : Fr S H H1) {p : Addr} {xs : List V} (q : SqT K H p xs) : SqT K H1 p xs := by
  obtain ⟨_, _, _, _, _, h4⟩ := h.dr.obj
  exact sqT_but q h4 f
end
/-! ### changes and their words -/
theorem okW_cls : okW (cds "class") ∧ okW (cds "no class") ∧ okW (cds "slot") ∧ okW (cds "no slot") ∧ okW tg := by unfold okW; decide +kernel
theorem cho_cls {n b : List Nat} {ss : List (List Nat)} (hn : okW n) (hb : okW b) (hs : ∀ s ∈ ss, okW s) (hl : ss.length ≤ 100) : ChO (.cls n b ss) := by
  refine ⟨True.intro, hl, ?_⟩
  show ∀ t ∈ [Tr.s (cds "class"), .s n, .s b, .t (ss.map .s)], TrG 1 t
  intro t ht
  simp only [List.mem_cons, List.not_mem_nil, or_false] at ht
  rcases ht with rfl | rfl | rfl | rfl
  · exact okW_cls.1
  · exact hn
  · exact hb
  · show ∀ t ∈ ss.map Tr.s, TrG 0 t
    exact txs_at hs
theorem cho_no {n : List Nat} (hn : okW n) : ChO (.nocls n) := by
  refine ⟨True.intro, True.intro, ?_⟩
  show ∀ t ∈ [Tr.s (cds "no class"), .s n], TrG 1 t
  intro t ht
  simp only [List.mem_cons, List.not_mem_nil, or_false] at ht
  rcases ht with rfl | rfl
  · exact okW_cls.2.1
  · exact hn
theorem cho_slot {n s : List Nat} (hn : okW n) (hs : okW s) : ChO (.slot n s) ∧ ChO (.noslot n s) := by
  refine ⟨⟨True.intro, True.intro, ?_⟩, True.intro, True.intro, ?_⟩
  · show ∀ t ∈ [Tr.s (cds "slot"), .s n, .s s], TrG 1 t
    intro t ht
    simp only [List.mem_cons, List.not_mem_nil, or_false] at ht
    rcases ht with rfl | rfl | rfl
    · exact okW_cls.2.2.1
    · exact hn
    · exact hs
  · show ∀ t ∈ [Tr.s (cds "no slot"), .s n, .s s], TrG 1 t
    intro t ht
    simp only [List.mem_cons, List.not_mem_nil, or_false] at ht
    rcases ht with rfl | rfl | rfl
    · exact okW_cls.2.2.2.1
    · exact hn
    · exact hs
/-! ### names of slots -/
def slN (b : List Nat) (c k : Nat) : List Nat := b ++ [c] ++ numL k
theorem slN_inj {b : List Nat} {c d k j : Nat} (h : slN b c k = slN b d j) : c = d ∧ k = j := by
  unfold slN at h
  rw [List.append_assoc, List.append_assoc] at h
  have h2 := List.append_cancel_left h
  have h3 : c :: numL k = d :: numL j := h2
  obtain ⟨h4, h5⟩ := List.cons.inj h3
  exact ⟨h4, numL_inj h5⟩
theorem slN_ok {b : List Nat} {c k : Nat} (hb : okW b) (hc : c < 128) : okW (slN b c k) := okW_app (okW_app hb fun d hd => by rw [List.mem_singleton.mp hd]; exact hc) (okW_num k)
theorem slN_len {b : List Nat} {c k : Nat} (hb : b.length ≤ 20) (hk : k < 100) : (slN b c k).length ≤ 30 := by
  have := numL_len (n := k) (k := 2) (by decide) (by omega)
  unfold slN
  rw [List.length_append, List.length_append, List.length_singleton]
  omega
def slR (b : List Nat) (c n : Nat) : List (List Nat) := (List.range n).map (slN b c)
theorem slR_nd {b : List Nat} {c n : Nat} : (slR b c n).Nodup := by
  unfold slR
  refine List.pairwise_map.mpr (List.Pairwise.imp (fun h e => h (slN_inj e).2) List.nodup_range)
theorem slR_mem {b s : List Nat} {c n : Nat} (h : s ∈ slR b c n) : ∃ k, k < n ∧ s = slN b c k := by
  obtain ⟨k, hk, e⟩ := List.mem_map.mp h
  exact ⟨k, List.mem_range.mp hk, e.symm⟩
theorem slR_succ {b : List Nat} {c n : Nat} : slR b c (n + 1) = slR b c n ++ [slN b c n] := by unfold slR; rw [List.range_succ, List.map_append]; rfl
theorem slR_len {b : List Nat} {c n : Nat} : (slR b c n).length = n := by unfold slR; rw [List.length_map, List.length_range]
/-- the class's slots ahead of the q-th turn -/
structure SlS (b : List Nat) (q : Nat) (ss : List (List Nat)) : Prop where
  nd : ss.Nodup
  mem : ∀ s ∈ ss, (∃ k, s = slN b 88 k) ∨ ∃ k, k < q ∧ s = slN b 89 k
  len : ss.length ≤ 8
theorem SlS.init {b : List Nat} {n : Nat} (h : n ≤ 8) : SlS b 0 (slR b 88 n) := ⟨slR_nd, fun s hs => .inl ((slR_mem hs).elim fun k q => ⟨k, q.2⟩), by rw [slR_len]; exact h⟩
theorem SlS.nin {b : List Nat} {q : Nat} {ss : List (List Nat)} (h : SlS b q ss) : slN b 89 q ∉ ss := fun z => by
  rcases h.mem _ z with ⟨k, e⟩ | ⟨k, hk, e⟩
  · exact absurd (slN_inj e).1 (by decide)
  · have := (slN_inj e).2; omega
theorem SlS.more {b : List Nat} {q : Nat} {ss : List (List Nat)} (h : SlS b q ss) (hl : ss.length < 8) : SlS b (q + 1) (ss ++ [slN b 89 q]) := by
  refine ⟨List.nodup_append.mpr ⟨h.nd, by simp, fun x hx y hy e => h.nin (by rw [← List.mem_singleton.mp hy, ← e]; exact hx)⟩, fun s hs => ?_, by rw [List.length_append]; exact hl⟩
  rcases List.mem_append.mp hs with hs | hs
  · exact (h.mem s hs).imp id fun ⟨k, hk, e⟩ => ⟨k, by omega, e⟩
  · exact .inr ⟨q, by omega, List.mem_singleton.mp hs⟩
theorem SlS.skip {b : List Nat} {q : Nat} {ss : List (List Nat)} (h : SlS b q ss) : SlS b (q + 1) ss := ⟨h.nd, fun s hs => (h.mem s hs).imp id fun ⟨k, hk, e⟩ => ⟨k, by omega, e⟩, h.len⟩
theorem SlS.ninZ {b s : List Nat} {q n : Nat} {ss : List (List Nat)} (h : SlS b q ss) (hs : s ∈ slR b 90 n) : s ∉ ss := fun z => by
  obtain ⟨j, _, rfl⟩ := slR_mem hs
  rcases h.mem _ z with ⟨k, e⟩ | ⟨k, hk, e⟩
  · exact absurd (slN_inj e).1 (by decide)
  · exact absurd (slN_inj e).1 (by decide)
theorem SlS.ok {b : List Nat} {q : Nat} {ss : List (List Nat)} (h : SlS b q ss) (hb : okW b) : ∀ s ∈ ss, okW s := fun s hs => by
  rcases h.mem s hs with ⟨k, rfl⟩ | ⟨k, _, rfl⟩
  · exact slN_ok hb (by decide)
  · exact slN_ok hb (by decide)
end
section
/-! The bound on slots. -/
open PySem PySem.Spec PyProof.Rows L2
open C8 (Cal Met Mak cal0 pe_c pe_gc pss_cut tCut pe_mt pe_mt0 pe_mk)
open TL (numL numL_len numL_inj)

local macro_rules | `(tactic| walk_at "dd") => `(tactic| repeat (first
  | walk_at "r1c"
  | with_reducible refine w_dget ?_
  | with_reducible refine w_din ?_
  | with_reducible refine w_dnin ?_
  | with_reducible refine w_dput ?_
  | with_reducible refine w_ddel ?_
  | with_reducible refine w_lenSet ?_
  | with_reducible refine w_lcTt ?_
  | with_reducible refine cTe (by with_unfolding_all decide +kernel) ?_
  | with_reducible refine cTn (by with_unfolding_all decide +kernel) ?_
  | with_reducible refine cNe (by with_unfolding_all decide +kernel) ?_
  | with_reducible refine cNn (by with_unfolding_all decide +kernel) ?_
  | with_reducible refine w_par ?_
  | with_reducible refine w_raiseC ?_
  | with_reducible refine w_lcV ?_
  | with_reducible refine w_lcKk ?_
  | with_reducible refine w_lcZ ?_
  | with_reducible refine w_lcE ?_))

theorem slN_add {K : PySem.W.Frag} {b : List Nat} {c k : Nat} (hb : b.length ≤ 20) (hk : k < 100) : (b ++ [c]).length + (numL k).length ≤ 1000000 := by
  have := slN_len (c := c) hb hk
  unfold slN at this
  rw [List.length_append] at this
  omega
theorem refu_g (i : Int) : TrG 1 (.t [.s (cds "refused"), .i i]) := by
  show ∀ t ∈ [Tr.s (cds "refused"), .i i], TrG 0 t
  intro t ht
  simp only [List.mem_cons, List.not_mem_nil, or_false] at ht
  rcases ht with rfl | rfl
  · show okW (cds "refused")
    unfold okW
    decide +kernel
  · exact True.intro
section
variable {P : Program} {w : World} {K : PySem.W.Frag} {mg : Str → Option Value} {base : Heap} {k : Nat} {CS CD CJ CW CI C fI : Addr}
abbrev s_law_of_slots : Stmt := topS 124
abbrev N_law_of_slots : List Str := ["state", "image", "name", "base", "count", "k", "slots", "made", "due", "more", "other"]
theorem sc_law_of_slots : FnScope N_law_of_slots ["state", "image", "name", "base"] (defScope s_law_of_slots) := ⟨rfl, rfl, rfl, by decide +kernel, rfl, by decide +kernel, by decide +kernel⟩
def spOfS (K : PySem.W.Frag) (CI CW CJ CS CD : Addr) : Sp := fun vs H Q _ => ∃ (S L I : Addr) (F : List Addr) (n b : List Nat), vs = [.ref S, .ref I, T n, T b] ∧ MkI K CI CW CJ CS CD I S L [] [] [] [thing] F 0 H ∧ NmOk n ∧ n ≠ tg ∧ okW b ∧ b.length ≤ 20 ∧ ∀ H', Q (.bl true) H'
theorem ok_law_of_slots {f : Addr} {fd : FuncData} (F : Fun K "_law_of_slots" "_law_of_slots" s_law_of_slots f fd) (Y : Bn mg) (c_law_draw : Cal P w K mg base 1 "_law_draw" spDraw []) (c_law_class : Cal P w K mg base 3 "_law_class" (spCla K) [])
    (c_law_made : Cal P w K mg base 9 "_law_made" (spLMad K CI CW CJ CS CD) []) (m_classes : Met P w K mg base 2 CI "classes" (spICls K CI CW CJ CS CD) []) (m_slots_of : Met P w K mg base 3 CI "slots_of" (spISlo K CI CW CJ CS CD) []) :
    FnOk P w K mg base CX0 10 f fd ["state", "image", "name", "base"] (spOfS K CI CW CJ CS CD) := by
  refine F.ok sc_law_of_slots (fun vs H Q E h => ?_) (fun cdv A outer s H vs Q E hr h => ?_)
  · obtain ⟨S, L, I, F, n, b, rfl, _⟩ := h
    rfl
  · obtain ⟨S, L, I, F, n, b, rfl, hM, hn, hnt, hb, hbl, kQ⟩ := h
    have nd := sc_law_of_slots.nd
    refine ⟨_, (pss_cons (ps_set (i := 4) nd rfl (Or.inl rfl) (pe_c c_law_draw hr (by decide) rfl (pa_cons (pv 0) (pa_cons pe_int pa_nil))))
      (pss_cons (ps_set (i := 6) nd rfl (Or.inl rfl) (pe_callTy call_tupleOf (by rfl) Y.n_tuple (by decide +kernel) (pa_cons (pe_lc (own := [("k", 5)]) (g := gName 5) (tt := tYes) rfl nd (pi_range1 rfl Y.n_range (pa_cons (pv 4) pa_nil)) (blkOk_by (own := [("k", 5)]) (N := N_law_of_slots) (sc := defScope s_law_of_slots) (by decide +kernel)) (fun _ _ _ _ _ => pg_name (i := 5) nd rfl (Or.inl rfl)) (fun _ _ _ _ _ => pts_nil) (fun _ _ _ _ _ => (pe_op op_addS (pe_op op_addS (pv 3) pe_str) (pe_callTy call_strI (by rfl) Y.n_str (by decide +kernel) (pa_cons (pv 5) pa_nil))))) pa_nil)))
      (pss_cons (ps_if (pt_cmpR op_gt (pv 4) pe_int (nomark _)) (pss_one (ps_ret (pe_and (pe_cmpR (op_eqD hr.units) (pe_c c_law_made hr (by decide) rfl (pa_cons (pv 1) (pa_cons (pe_tup (pa_cons pe_str (pa_cons (pv 2) (pa_cons pe_str (pa_cons (pv 6) pa_nil))))) pa_nil))) (pe_tup (pa_cons pe_str (pa_cons pe_int pa_nil))) (nomark _)) (pe_one (pe_cmpR (op_eqD hr.units) (pe_mt0 m_classes hr (by omega) (pv 1)) (pe_lst (pa_cons pe_str pa_nil)) (nomark _)))))) pss_nil)
      (pss_cons (ps_if (pt_cmpR (op_neD hr.units) (pe_c c_law_made hr (by decide) rfl (pa_cons (pv 1) (pa_cons (pe_tup (pa_cons pe_str (pa_cons (pv 2) (pa_cons pe_str (pa_cons (pv 6) pa_nil))))) pa_nil))) pe_int (nomark _)) (pss_one (ps_ret pe_bl)) pss_nil)
      (pss_cons (ps_set (i := 7) nd rfl (Or.inl rfl) pe_int)
      (pss_cons (ps_for PassesOwn.never rfl (pi_range1 rfl Y.n_range (pa_cons (pe_c c_law_draw hr (by decide) rfl (pa_cons (pv 0) (pa_cons pe_int pa_nil))) pa_nil)) (pg_name (i := 5) nd rfl (Or.inl rfl)) (pss_cons (ps_set (i := 8) nd rfl (Or.inl rfl) (pe_tup (pa_cons pe_str (pa_cons (pv 7) pa_nil))))
      (pss_cons (ps_if (pt_cmpR op_lt (pe_callB call_lenL (by rfl) Y.n_len (by decide +kernel) (pa_cons (pv 6) pa_nil)) pe_int (nomark _)) (pss_cons (ps_set (i := 8) nd rfl (Or.inl rfl) (pv 7))
      (pss_cons (ps_set (i := 7) nd rfl (Or.inl rfl) (pe_op op_add (pv 7) pe_int))
      (pss_one (ps_set (i := 6) nd rfl (Or.inl rfl) (pe_op op_catA (pv 6) (pe_tup (pa_cons (pe_op op_addS (pe_op op_addS (pv 3) pe_str) (pe_callTy call_strI (by rfl) Y.n_str (by decide +kernel) (pa_cons (pv 5) pa_nil))) pa_nil))))))) pss_nil)
      (pss_one (ps_if (PW.pt (pw_or (pt_cmpR (op_neD hr.units) (pe_c c_law_made hr (by decide) rfl (pa_cons (pv 1) (pa_cons (pe_tup (pa_cons pe_str (pa_cons (pv 2) (pa_cons (pe_op op_addS (pe_op op_addS (pv 3) pe_str) (pe_callTy call_strI (by rfl) Y.n_str (by decide +kernel) (pa_cons (pv 5) pa_nil))) pa_nil)))) pa_nil))) (pv 8) (nomark _)) (pw_or1 (pt_cmpR (op_neD hr.units) (pe_mt m_slots_of hr (by omega) (pv 1) (pa_cons (pv 2) pa_nil)) (pv 6) (nomark _))))) (pss_one (ps_ret pe_bl)) pss_nil)))))
      (pss_cons (ps_set (i := 9) nd rfl (Or.inl rfl) (pe_callTy call_tupleOf (by rfl) Y.n_tuple (by decide +kernel) (pa_cons (pe_lc (own := [("k", 5)]) (g := gName 5) (tt := tYes) rfl nd (pi_range1 rfl Y.n_range (pa_cons pe_int pa_nil)) (blkOk_by (own := [("k", 5)]) (N := N_law_of_slots) (sc := defScope s_law_of_slots) (by decide +kernel)) (fun _ _ _ _ _ => pg_name (i := 5) nd rfl (Or.inl rfl)) (fun _ _ _ _ _ => pts_nil) (fun _ _ _ _ _ => (pe_op op_addS (pe_op op_addS (pv 3) pe_str) (pe_callTy call_strI (by rfl) Y.n_str (by decide +kernel) (pa_cons (pv 5) pa_nil))))) pa_nil)))
      (pss_cons (ps_set (i := 10) nd rfl (Or.inl rfl) (pe_c c_law_class hr (by decide) rfl (pa_cons (pv 0) (pa_cons (pe_lst (pa_cons pe_str (pa_cons (pv 2) pa_nil))) pa_nil))))
      (pss_one (ps_ret (pe_and (pe_cmpR (op_eqD hr.units) (pe_c c_law_made hr (by decide) rfl (pa_cons (pv 1) (pa_cons (pe_tup (pa_cons pe_str (pa_cons (pv 10) (pa_cons (pv 2) (pa_cons (pv 9) pa_nil))))) pa_nil))) (pv 7) (nomark _)) (pe_one (pe_cmpR (op_eqD hr.units) (pe_mt m_slots_of hr (by omega) (pv 1) (pa_cons (pv 10) pa_nil)) (pe_op op_catA (pv 6) (pv 9)) (nomark _)))))))))))))), ?_⟩
    rw [show L2.start N_law_of_slots [.ref S, .ref I, T n, T b] = [some (.ref S), some (.ref I), some (T n), some (T b), none, none, none, none, none, none, none] from rfl]
    walk_at "dd"
    refine use_draw hM.dr (by decide) (by decide) fun c0 H1 c00 c01 hSt1 f1 => ?_
    obtain ⟨m, rfl⟩ : ∃ m : Nat, c0 = (m : Int) := ⟨c0.toNat, by omega⟩
    have hM1 := hM.draw hSt1 f1
    walk_at "dd"
    refine lc_R (fun D i acc H2 => Same H1 H2 ∧ H1 D = none ∧ acc = (slR b 88 i).map T) (by omega) (by omega) (fun D H2 e2 s2 h2 => ⟨s2, e2, rfl⟩) ?_ ?_
    · rintro D i acc H2 hi hacc hD ⟨s2, eD, rfl⟩
      walk_at "dd"
      refine ⟨rfl, ?_⟩
      walk_at "dd"
      refine w_addS (by show b.length + 1 ≤ 1000000; omega) ?_
      walk_at "dd"
      rw [show (0 + (i : Int)) = ((i : Nat) : Int) by omega]
      refine w_strN (by omega) ?_
      refine w_addS (slN_add (K := K) hbl (by omega)) ?_
      refine lc_keep hacc (by omega) hD fun H5 h5 k5 => ⟨same_of_but eD s2 k5, eD, ?_⟩
      rw [slR_succ, List.map_append]
      rfl
    rintro D acc H2 hacc hD ⟨s2, eD, rfl⟩
    walk_at "dd"
    refine w_tupOf (SqL.of hD) fun t H3 e3 s3 h3 => ?_
    rw [Int.toNat_natCast] at h3
    have hM3 := hM1.same (s2.trans s3)
    obtain ⟨dxI, W, hI⟩ := hM3.iat
    walk_at "dd"
    refine w_if (fun h8 => ?_) (fun h8 => ?_)
    · walk_at "dd"
      refine w_newT (by show 4 ≤ 1000000; decide) fun q H4 e4 s4 h4 => ?_
      walk_at "dd"
      have hM4 := hM3.same s4
      have hv : TrAt K H4 (.ref q) (Ch.ch (.cls n tg (slR b 88 m))) := .t (.inl (.inl h4)) (.cons .s (.cons .s (.cons .s (.cons (.t (Same.sqT s4 h3.sq) (trs_texts _)) .nil))))
      refine use_made hM4 hv (cho_cls hn.1 okW_cls.2.2.2.2 (fun s hs => by obtain ⟨k, _, rfl⟩ := slR_mem hs; exact slN_ok hb (by decide)) (by rw [slR_len]; omega)) (by decide) (by decide) (fun _ p5 H5 s5 h5 => ?_) (fun _ hr0 => ?_)
      · walk_at "dd"
        refine w_newT (by show 2 ≤ 1000000; decide) fun q6 H6 e6 s6 h6 => ?_
        have h5' : SqT K H5 p5 [T (cds "refused"), .int 0] := h5
        refine eqD_at (t := .t [.s (cds "refused"), .i 0]) (n := 1) (.t (Same.sqT s6 h5') (.cons .s (.cons .i .nil))) (.t (.inl (.inl h6)) (.cons .s (.cons .i .nil))) (refu_g 0) (by decide) ?_
        have hM6 := (hM4.same s5).same s6
        walk_at "dd"
        refine o_mat (s6 _ _ (s5 _ _ (s4 _ _ hI))) rfl ?_
        walk_at "dd"
        refine ⟨I, [], [], [], [thing], F, rfl, hM6.im, by decide, fun p7 ys H7 s7 e7 perm7 sor7 h7 => ?_⟩
        have ey : ys = [tg] := List.perm_singleton.mp perm7
        subst ey
        walk_at "dd"
        refine w_newL (by show 1 ≤ 1000000; decide) fun p8 H8 e8 s8 h8 => ?_
        refine eqD_lst (n := 0) (SqL.of (s8 _ _ h7)) (trs_texts [tg]) (SqL.of h8) (trs_texts [tg]) (txs_at fun a ha => by rw [List.mem_singleton.mp ha]; exact okW_cls.2.2.2.2) (by decide) ?_
        exact kQ _
      · rw [ref_0 hnt slR_nd, slR_len] at hr0
        exact absurd (of_decide_eq_false hr0) (by omega)
    have hm8 : m ≤ 8 := by omega
    walk_at "dd"
    refine w_newT (by show 4 ≤ 1000000; decide) fun q H4 e4 s4 h4 => ?_
    walk_at "dd"
    have hM4 := hM3.same s4
    have hv : TrAt K H4 (.ref q) (Ch.ch (.cls n tg (slR b 88 m))) := .t (.inl (.inl h4)) (.cons .s (.cons .s (.cons .s (.cons (.t (Same.sqT s4 h3.sq) (trs_texts _)) .nil))))
    refine use_made hM4 hv (cho_cls hn.1 okW_cls.2.2.2.2 (fun s hs => by obtain ⟨k, _, rfl⟩ := slR_mem hs; exact slN_ok hb (by decide)) (by rw [slR_len]; omega)) (by decide) (by decide) (fun z => ?_) (fun _ _ F5 H5 g5 hM5 => ?_)
    · rw [ref_0 hnt slR_nd, slR_len] at z
      exact z.elim (fun q => absurd q (by decide)) fun q => absurd (of_decide_eq_true q) (by omega)
    rw [car_0] at hM5
    walk_at "dd"
    refine neD_at (t := .i 0) (n := 0) .i .i True.intro (by decide) ?_
    walk_at "dd"
    have ht5 : SqT K H5 t ((slR b 88 m).map T) := hM4.sq g5 (Same.sqT s4 h3.sq)
    clear hM hM1 hM3 hM4 hv h4 hI
    refine use_draw hM5.dr (by decide) (by decide) fun c1 H6 c10 c11 hSt6 f6 => ?_
    have hM6 := hM5.draw hSt6 f6
    have ht6 := hM5.sqD f6 ht5
    walk_at "dd"
    refine for_R (fun i σ' H' => ∃ (es : List Ch) (fl : List Bool) (ss : List (List Nat)) (F : List Addr) (n' : Nat) (t : Addr) (x5 x8 : Option V), σ' = [some (.ref S), some (.ref I), some (T n), some (T b), some (.int (m : Int)), x5, some (.ref t), some (.int (es.length : Int)), x8, none, none] ∧
      MkI K CI CW CJ CS CD I S L es fl [] (d2 n ss) F n' H' ∧ SlS b i ss ∧ SqT K H' t (ss.map T) ∧ es.length ≤ i + 1 ∧ n' ≤ i + 1) c10 (by omega) ⟨_, _, _, F5, 1, t, _, _, rfl, hM6, SlS.init hm8, ht6, Nat.le_refl _, Nat.le_refl _⟩ ?_ ?_
    · clear hM5 hM6 ht5 ht6
      rintro i σ' H7 hi ⟨es, fl, ss, F7, n7, t7, x5, x8, rfl, hM7, hS, ht7, hes, hn7⟩
      have hi : i < 11 := by omega
      walk_at "dd"
      refine w_newT (by show 2 ≤ 1000000; decide) fun q8 H8 e8 s8 h8 => ?_
      walk_at "dd"
      refine w_lenT (Same.sqT s8 ht7) ?_
      rw [List.length_map]
      walk_at "dd"
      have hM8 := hM7.same s8
      have ht8 := Same.sqT s8 ht7
      have hadd := slN_add (K := K) (c := 89) hbl (show i < 100 by omega)
      refine w_if (fun hl => ?_) (fun hl => ?_)
      · have hl : ss.length < 8 := by omega
        walk_at "dd"
        refine w_addS (by show b.length + 1 ≤ 1000000; omega) ?_
        walk_at "dd"
        rw [show (0 + (i : Int)) = ((i : Nat) : Int) by omega]
        refine w_strN (by omega) ?_
        refine w_addS hadd ?_
        walk_at "dd"
        refine w_newT (by show 1 ≤ 1000000; decide) fun q9 H9 e9 s9 h9 => ?_
        refine catA_new (Same.sqT s9 ht8) (.inl (.inl h9)) (by rw [List.length_map]; show ss.length + 1 ≤ 1000000; omega) fun t10 H10 s10 h10 => ?_
        have h10' : SqT K H10 t10 ((ss ++ [slN b 89 i]).map T) := by rw [List.map_append]; exact h10
        walk_at "dd"
        refine w_addS (by show b.length + 1 ≤ 1000000; omega) ?_
        walk_at "dd"
        refine w_strN (by omega) ?_
        refine w_addS hadd ?_
        walk_at "dd"
        refine w_newT (by show 3 ≤ 1000000; decide) fun q11 H11 e11 s11 h11 => ?_
        walk_at "dd"
        have hM11 := (hM8.same (s9.trans s10)).same s11
        have hv : TrAt K H11 (.ref q11) (Ch.ch (.slot n (slN b 89 i))) := .t (.inl (.inl h11)) (.cons .s (.cons .s (.cons .s .nil)))
        have hrf : refM (d2 n ss) (.slot n (slN b 89 i)) = false := by rw [ref_slot hnt, decide_eq_false (by omega), decide_eq_false hS.nin]; rfl
        refine use_made hM11 hv (cho_slot hn.1 (slN_ok hb (by decide))).1 (by omega) (by omega) (fun z => ?_) (fun _ _ F12 H12 g12 hM12 => ?_)
        · rw [hrf] at z
          exact z.elim (fun q => by omega) fun q => by cases q
        rw [car_slot hnt] at hM12
        have ht12 := hM11.sq g12 (Same.sqT s11 h10')
        walk_at "dd"
        refine neD_at (t := .i (es.length : Int)) (n := 0) .i .i True.intro (by decide) ?_
        walk_at "dd"
        obtain ⟨dxI, W, hI⟩ := hM12.iat
        refine o_mat hI rfl ?_
        walk_at "dd"
        refine ⟨I, _, _, _, _, F12, n, rfl, hM12.im, hM12.nc.sm, in_d2, fun p13 H13 s13 h13 => ?_⟩
        rw [all_d2 hnt] at h13
        walk_at "dd"
        have hS' := hS.more hl
        refine neD_tup (n := 0) h13 (trs_texts _) (Same.sqT s13 ht12) (trs_texts _) (txs_at (hS'.ok hb)) (by decide) ?_
        walk_at "dd"
        exact ⟨_, _, _, F12, n7 + 1, t10, _, _, (by rw [List.length_append, List.length_singleton]; rfl), hM12.same s13, hS', Same.sqT s13 ht12, (by rw [List.length_append, List.length_singleton]; omega), by omega⟩
      · have hl8 : ss.length = 8 := by have := hS.len; omega
        walk_at "dd"
        refine w_addS (by show b.length + 1 ≤ 1000000; omega) ?_
        walk_at "dd"
        rw [show (0 + (i : Int)) = ((i : Nat) : Int) by omega]
        refine w_strN (by omega) ?_
        refine w_addS hadd ?_
        walk_at "dd"
        refine w_newT (by show 3 ≤ 1000000; decide) fun q11 H11 e11 s11 h11 => ?_
        walk_at "dd"
        have hM11 := hM8.same s11
        have hv : TrAt K H11 (.ref q11) (Ch.ch (.slot n (slN b 89 i))) := .t (.inl (.inl h11)) (.cons .s (.cons .s (.cons .s .nil)))
        have hrf : refM (d2 n ss) (.slot n (slN b 89 i)) = true := by rw [ref_slot hnt, decide_eq_true hl8]; rfl
        refine use_made hM11 hv (cho_slot hn.1 (slN_ok hb (by decide))).1 (by omega) (by omega) (fun _ p12 H12 s12 h12 => ?_) (fun _ z => by rw [hrf] at z; cases z)
        walk_at "dd"
        refine neD_at (t := .t [.s (cds "refused"), .i (es.length : Int)]) (n := 1) (.t h12 (.cons .s (.cons .i .nil))) (.t (.inl (.inl (s12 _ _ (s11 _ _ h8)))) (.cons .s (.cons .i .nil))) (refu_g _) (by decide) ?_
        walk_at "dd"
        have hM12 := hM11.same s12
        obtain ⟨dxI, W, hI⟩ := hM12.iat
        refine o_mat hI rfl ?_
        walk_at "dd"
        refine ⟨I, _, _, _, _, F7, n, rfl, hM12.im, hM12.nc.sm, in_d2, fun p13 H13 s13 h13 => ?_⟩
        rw [all_d2 hnt] at h13
        walk_at "dd"
        have ht13 := Same.sqT s13 (Same.sqT s12 (Same.sqT s11 ht8))
        refine neD_tup (n := 0) h13 (trs_texts _) ht13 (trs_texts _) (txs_at (hS.ok hb)) (by decide) ?_
        walk_at "dd"
        exact ⟨es, fl, ss, F7, n7, t7, _, _, rfl, hM12.same s13, hS.skip, ht13, by omega, by omega⟩
    · clear hM5 hM6 ht5 ht6
      rintro σ' H7 ⟨es, fl, ss, F7, n7, t7, x5, x8, rfl, hM7, hS, ht7, hes, hn7⟩
      have hq : c1.toNat ≤ 10 := by omega
      generalize c1.toNat = qn at hS hes hn7 hq
      walk_at "dd"
      refine lc_R (fun D i acc H2 => Same H7 H2 ∧ H7 D = none ∧ acc = (slR b 90 i).map T) (by omega) (by omega) (fun D H2 e2 s2 h2 => ⟨s2, e2, rfl⟩) ?_ ?_
      · rintro D i acc H2 hi hacc hD ⟨s2, eD, rfl⟩
        walk_at "dd"
        refine ⟨rfl, ?_⟩
        walk_at "dd"
        refine w_addS (by show b.length + 1 ≤ 1000000; omega) ?_
        walk_at "dd"
        rw [show (0 + (i : Int)) = ((i : Nat) : Int) by omega]
        refine w_strN (by omega) ?_
        refine w_addS (slN_add (K := K) hbl (by omega)) ?_
        refine lc_keep hacc (by omega) hD fun H5 h5 k5 => ⟨same_of_but eD s2 k5, eD, ?_⟩
        rw [slR_succ, List.map_append]
        rfl
      rintro D acc H8 hacc hD ⟨s8, eD, rfl⟩
      walk_at "dd"
      refine w_tupOf (SqL.of hD) fun t9 H9 e9 s9 h9 => ?_
      have h9 : FT H9 t9 ((slR b 90 8).map T) := h9
      walk_at "dd"
      refine w_newL (by show 2 ≤ 1000000; decide) fun p10 H10 e10 s10 h10 => ?_
      walk_at "dd"
      have hM10 := (hM7.same (s8.trans s9)).same s10
      have ht10 := Same.sqT s10 (Same.sqT s9 (Same.sqT s8 ht7))
      have h9' : SqT K H10 t9 ((slR b 90 8).map T) := Same.sqT s10 h9.sq
      refine ⟨S, L, p10, [tg, n], rfl, hM10.dr, h10, by simp, (show 2 ≤ 29 by decide), fun o H11 ho hon hSt11 f11 => ?_⟩
      have hM11 := hM10.draw hSt11 f11
      have ht11 := hM10.sqD f11 ht10
      have h9'' := hM10.sqD f11 h9'
      simp only [List.mem_cons, List.not_mem_nil, or_false, not_or] at hon
      walk_at "dd"
      refine w_newT (by show 4 ≤ 1000000; decide) fun q12 H12 e12 s12 h12 => ?_
      walk_at "dd"
      have hM12 := hM11.same s12
      have hv : TrAt K H12 (.ref q12) (Ch.ch (.cls o n (slR b 90 8))) := .t (.inl (.inl h12)) (.cons .s (.cons .s (.cons .s (.cons (.t (Same.sqT s12 h9'') (trs_texts _)) .nil))))
      have hZ : ∀ s ∈ slR b 90 8, okW s := fun s hs => by obtain ⟨k, _, rfl⟩ := slR_mem hs; exact slN_ok hb (by decide)
      have hrf : refM (d2 n ss) (.cls o n (slR b 90 8)) = false := ref_under hnt hon.1 hon.2 (by rw [slR_len]; decide) slR_nd fun s hs => hS.ninZ hs
      refine use_made hM12 hv (cho_cls ho.1 hn.1 hZ (by rw [slR_len]; decide)) (by omega) (by omega) (fun z => ?_) (fun _ _ F13 H13 g13 hM13 => ?_)
      · rw [hrf] at z
        exact z.elim (fun q => by omega) fun q => by cases q
      walk_at "dd"
      refine eqD_at (t := .i (es.length : Int)) (n := 0) .i .i True.intro (by decide) ?_
      walk_at "dd"
      have ht13 := hM12.sq g13 (Same.sqT s12 ht11)
      have h913 := hM12.sq g13 (Same.sqT s12 h9'')
      obtain ⟨dxI, W, hI⟩ := hM13.iat
      refine o_mat hI rfl ?_
      walk_at "dd"
      refine ⟨I, _, _, _, _, F13, o, rfl, hM13.im, hM13.nc.sm, (List.mem_append_right _ (List.mem_singleton.mpr rfl) : o ∈ nms (d2 n ss) ++ [o]), fun p14 H14 s14 h14 => ?_⟩
      rw [all_under hnt hon.1 hon.2] at h14
      walk_at "dd"
      refine catA_new (Same.sqT s14 ht13) (Same.sqT s14 h913) (by rw [List.length_map, List.length_map, slR_len]; have := hS.len; omega) fun p15 H15 s15 h15 => ?_
      refine eqD_tup (n := 0) (Same.sqT s15 h14) (trs_texts (ss ++ slR b 90 8)) (by rw [← List.map_append] at h15; exact h15) (trs_texts (ss ++ slR b 90 8)) (txs_at fun s hs => (List.mem_append.mp hs).elim (hS.ok hb s) (hZ s)) (by decide) ?_
      exact kQ _
end
end
section
/-! The bound on classes. -/
open PySem PySem.Spec PyProof.Rows L2
open C8 (Cal Met Mak cal0 pe_c pe_gc pss_cut tCut pe_mt pe_mt0 pe_mk)
open TL (numL numL_len numL_inj)

local macro_rules | `(tactic| walk_at "dd") => `(tactic| repeat (first
  | walk_at "r1c"
  | with_reducible refine w_dget ?_
  | with_reducible refine w_din ?_
  | with_reducible refine w_dnin ?_
  | with_reducible refine w_dput ?_
  | with_reducible refine w_ddel ?_
  | with_reducible refine w_lenSet ?_
  | with_reducible refine w_lcTt ?_
  | with_reducible refine cTe (by with_unfolding_all decide +kernel) ?_
  | with_reducible refine cTn (by with_unfolding_all decide +kernel) ?_
  | with_reducible refine cNe (by with_unfolding_all decide +kernel) ?_
  | with_reducible refine cNn (by with_unfolding_all decide +kernel) ?_
  | with_reducible refine w_par ?_
  | with_reducible refine w_raiseC ?_
  | with_reducible refine w_lcV ?_
  | with_reducible refine w_lcKk ?_
  | with_reducible refine w_lcZ ?_
  | with_reducible refine w_lcE ?_))

section
variable {K : PySem.W.Frag} {CI CW CJ CS CD I S L q : Addr} {es : List Ch} {fl : List Bool} {un : List Nat} {ds : List Cl} {F : List Addr} {n : Nat} {H H1 : Hp} {ys : List (List Nat)}
theorem st_neL (h : StAt H S L) (hq : H q = some (.lst (ys.map T))) (n : ys ≠ []) : q ≠ L := fun e => by
  obtain ⟨ns, i, c, k, b, r, _, h2, _, _⟩ := h
  rw [e, h2] at hq
  cases ys with
  | nil => exact n rfl
  | cons y r =>
    have := HO.lst.inj (Option.some.inj hq)
    cases ns with
    | nil => cases this
    | cons j ns => cases (List.cons.inj this).1
theorem MkI.no (h : MkI K CI CW CJ CS CD I S L es fl un ds F n H) {b : Addr} (hb : H b = none) : b ∉ F := fun z => by
  obtain ⟨o, q, _⟩ := h.im.no b z
  rw [hb] at q; cases q
theorem MkI.but (h : MkI K CI CW CJ CS CD I S L es fl un ds F n H) (hq : H q = some (.lst (ys.map T))) (ny : ys ≠ []) (nF : q ∉ F) (k : ∀ b o, b ≠ q → H b = some o → H1 b = some o) : MkI K CI CW CJ CS CD I S L es fl un ds F n H1 := by
  have nS := st_ne h.dr hq ny
  have nL := st_neL h.dr hq ny
  obtain ⟨ns, i, c, kk, b, r, h1, h2, h3, h4⟩ := id h.dr
  exact ⟨h.im.butL hq nF k, ⟨ns, i, c, kk, b, r, h1, k _ _ nL.symm h2, h3, k _ _ nS.symm h4⟩, h.sF, h.tr, h.nc, h.ln⟩
end
theorem w_sortS {K : PySem.W.Frag} {H : Hp} {Q : VK} {q : Addr} {w : List (List Nat)} (h : H q = some (.lst (w.map T))) (hl : w.length < 64)
    (k : ∀ (ys : List (List Nat)) (p : Addr) (H' : Hp), Same H H' → ys.Perm w → sortedS (ys.map S) = true → H' p = some (.lst (ys.map T)) → Q (.ref p) H') : rSortedS K [.ref q] H Q := by
  refine ⟨q, w.map S, rfl, ?_, by rw [List.length_map]; exact hl, fun ys p hp hs e => ?_⟩
  · rw [← map_T_S]; exact SqL.of h
  · have e2 : ys = (ys.map fun y => y.cps.toList).map S := by
      rw [List.map_map]
      refine (List.map_id ys).symm.trans (List.map_congr_left fun y _ => ?_)
      show y = ⟨y.cps.toList.toArray⟩
      simp
    have hp2 : (ys.map fun y => y.cps.toList).Perm w := by
      have := hp.map fun y : Str => y.cps.toList
      rw [List.map_map] at this
      have e3 : w.map ((fun y : Str => y.cps.toList) ∘ S) = w := (List.map_congr_left fun y _ => (by show (⟨y.toArray⟩ : Str).cps.toList = y; simp)).trans (List.map_id _)
      rw [e3] at this
      exact this
    refine k (ys.map fun y => y.cps.toList) p _ (same_new0 e) hp2 (by rw [← e2]; exact hs) ?_
    rw [upd_same, map_T_S, ← e2]
/-- the classes that were made, as the law keeps them -/
structure ClS (ds : List Cl) (ys : List (List Nat)) : Prop where
  nm : nms ds = ys
  top : ∃ zs, ys = tg :: zs
  ok : ∀ a ∈ ys, okW a
theorem ClS.ne {ds : List Cl} {ys : List (List Nat)} (h : ClS ds ys) : ys ≠ [] := by obtain ⟨zs, e⟩ := h.top; rw [e]; exact List.cons_ne_nil _ _
theorem ClS.len {ds : List Cl} {ys : List (List Nat)} (h : ClS ds ys) : ds.length = ys.length := by rw [← h.nm, len_nms]
theorem ClS.more {ds : List Cl} {ys : List (List Nat)} (h : ClS ds ys) {a b : List Nat} (ha : okW a) : ClS (carM ds (.cls a b [])) (ys ++ [a]) := by
  refine ⟨by rw [nms_cls, h.nm], ?_, fun x hx => ?_⟩
  · obtain ⟨zs, e⟩ := h.top
    exact ⟨zs ++ [a], by rw [e]; rfl⟩
  · rcases List.mem_append.mp hx with hx | hx
    · exact h.ok x hx
    · rw [List.mem_singleton.mp hx]; exact ha
theorem ClS.last {ds : List Cl} {ys : List (List Nat)} (h : ClS ds ys) (hl : 2 ≤ ys.length) : ∃ q c yq, ds = q ++ [c] ∧ ys = yq ++ [c.nm] ∧ q ≠ [] ∧ ClS q yq := by
  rcases List.eq_nil_or_concat ds with e | ⟨q, c, e⟩
  · have := h.len; rw [e] at this; simp at this; omega
  · have e : ds = q ++ [c] := by rw [e, List.concat_eq_append]
    have e2 : ys = nms q ++ [c.nm] := by rw [← h.nm, e, nms_app]; rfl
    have lq : 1 ≤ q.length := by have := h.len; rw [e, List.length_append] at this; simp at this; omega
    refine ⟨q, c, nms q, e, e2, (fun z => by rw [z] at lq; cases lq), rfl, ?_, fun a ha => h.ok a (by rw [e2]; exact List.mem_append_left _ ha)⟩
    obtain ⟨zs, ez⟩ := h.top
    rw [e2] at ez
    cases hq : nms q with
    | nil =>
      have z : q.length = 0 := by rw [← len_nms, hq]; rfl
      omega
    | cons x r =>
      rw [hq] at ez
      exact ⟨r, by rw [(List.cons.inj ez).1]⟩
section
variable {P : Program} {w : World} {K : PySem.W.Frag} {mg : Str → Option Value} {base : Heap} {k : Nat} {CS CD CJ CW CI C fI : Addr}
abbrev s_law_of_classes : Stmt := topS 125
abbrev N_law_of_classes : List Str := ["state", "image", "classes", "k", "name", "base", "due", "made", "last"]
theorem sc_law_of_classes : FnScope N_law_of_classes ["state", "image"] (defScope s_law_of_classes) := ⟨rfl, rfl, rfl, by decide +kernel, rfl, by decide +kernel, by decide +kernel⟩
def spOfC (K : PySem.W.Frag) (CI CW CJ CS CD : Addr) : Sp := fun vs H Q _ => ∃ (S L I : Addr) (F : List Addr), vs = [.ref S, .ref I] ∧ MkI K CI CW CJ CS CD I S L [] [] [] [thing] F 0 H ∧ ∀ H', Q (.bl true) H'
theorem ok_law_of_classes {f : Addr} {fd : FuncData} (F : Fun K "_law_of_classes" "_law_of_classes" s_law_of_classes f fd) (Y : Bn mg) (c_law_draw : Cal P w K mg base 1 "_law_draw" spDraw []) (c_law_class : Cal P w K mg base 3 "_law_class" (spCla K) [])
    (c_law_made : Cal P w K mg base 9 "_law_made" (spLMad K CI CW CJ CS CD) []) (m_classes : Met P w K mg base 2 CI "classes" (spICls K CI CW CJ CS CD) []) :
    FnOk P w K mg base CX0 10 f fd ["state", "image"] (spOfC K CI CW CJ CS CD) := by
  refine F.ok sc_law_of_classes (fun vs H Q E h => ?_) (fun cdv A outer s H vs Q E hr h => ?_)
  · obtain ⟨S, L, I, F, rfl, _⟩ := h
    rfl
  · obtain ⟨S, L, I, F, rfl, hM, kQ⟩ := h
    have nd := sc_law_of_classes.nd
    refine ⟨_, (pss_cons (ps_set (i := 2) nd rfl (Or.inl rfl) (pe_lst (pa_cons pe_str pa_nil)))
      (pss_cons (ps_for PassesOwn.never rfl (pi_range1 rfl Y.n_range (pa_cons (pe_c c_law_draw hr (by decide) rfl (pa_cons (pv 0) (pa_cons pe_int pa_nil))) pa_nil)) (pg_name (i := 3) nd rfl (Or.inl rfl)) (pss_cons (ps_set (i := 4) nd rfl (Or.inl rfl) (pe_c c_law_class hr (by decide) rfl (pa_cons (pv 0) (pa_cons (pv 2) pa_nil))))
      (pss_cons (ps_set (i := 5) nd rfl (Or.inl rfl) (pe_ix ix_list (pv 2) (pe_c c_law_draw hr (by decide) rfl (pa_cons (pv 0) (pa_cons (pe_callB call_lenL (by rfl) Y.n_len (by decide +kernel) (pa_cons (pv 2) pa_nil)) pa_nil))) (fun _ _ => rfl)))
      (pss_cons (ps_set (i := 6) nd rfl (Or.inl rfl) (pe_op op_sub (pe_callB call_lenL (by rfl) Y.n_len (by decide +kernel) (pa_cons (pv 2) pa_nil)) pe_int))
      (pss_cons (ps_if (pt_cmpR op_ge (pe_callB call_lenL (by rfl) Y.n_len (by decide +kernel) (pa_cons (pv 2) pa_nil)) pe_int (nomark _)) (pss_one (ps_set (i := 6) nd rfl (Or.inl rfl) (pe_tup (pa_cons pe_str (pa_cons (pv 6) pa_nil))))) pss_nil)
      (pss_cons (ps_if (pt_cmpR (op_neD hr.units) (pe_c c_law_made hr (by decide) rfl (pa_cons (pv 1) (pa_cons (pe_tup (pa_cons pe_str (pa_cons (pv 4) (pa_cons (pv 5) (pa_cons (pe_tup pa_nil) pa_nil))))) pa_nil))) (pv 6) (nomark _)) (pss_one (ps_ret pe_bl)) pss_nil)
      (pss_one (ps_if (pt_cmpR op_lt (pe_callB call_lenL (by rfl) Y.n_len (by decide +kernel) (pa_cons (pv 2) pa_nil)) pe_int (nomark _)) (pss_one (ps_expr (pe_bm PySem.F.plainAttrs_list PySem.F.slot_list_append PySem.F.type_list_append mt_append (pv 2) (pa_cons (pv 4) pa_nil)))) pss_nil))))))))
      (pss_cons (ps_set (i := 7) nd rfl (Or.inl rfl) (pe_op op_sub (pe_callB call_lenL (by rfl) Y.n_len (by decide +kernel) (pa_cons (pv 2) pa_nil)) pe_int))
      (pss_cons (ps_if (pt_cmpR op_eq (pv 7) pe_int (nomark _)) (pss_one (ps_ret (pe_cmpR (op_eqD hr.units) (pe_mt0 m_classes hr (by omega) (pv 1)) (pe_lst (pa_cons pe_str pa_nil)) (nomark _)))) pss_nil)
      (pss_cons (ps_set (i := 8) nd rfl (Or.inl rfl) (pe_bm0 PySem.F.plainAttrs_list PySem.F.slot_list_pop PySem.F.type_list_pop mt_popL (pv 2)))
      (pss_cons (ps_if (pt_cmpR (op_neD hr.units) (pe_c c_law_made hr (by decide) rfl (pa_cons (pv 1) (pa_cons (pe_tup (pa_cons pe_str (pa_cons (pv 8) pa_nil))) pa_nil))) (pv 7) (nomark _)) (pss_one (ps_ret pe_bl)) pss_nil)
      (pss_cons (ps_set (i := 4) nd rfl (Or.inl rfl) (pe_c c_law_class hr (by decide) rfl (pa_cons (pv 0) (pa_cons (pv 2) pa_nil))))
      (pss_cons (ps_expr (pe_bm PySem.F.plainAttrs_list PySem.F.slot_list_append PySem.F.type_list_append mt_append (pv 2) (pa_cons (pv 4) pa_nil)))
      (pss_one (ps_ret (pe_and (pe_cmpR (op_eqD hr.units) (pe_c c_law_made hr (by decide) rfl (pa_cons (pv 1) (pa_cons (pe_tup (pa_cons pe_str (pa_cons (pv 4) (pa_cons pe_str (pa_cons (pe_tup pa_nil) pa_nil))))) pa_nil))) (pe_op op_add (pv 7) pe_int) (nomark _)) (pe_one (pe_cmpR (op_eqD hr.units) (pe_mt0 m_classes hr (by omega) (pv 1)) (pe_callB cr_sortedS (by rfl) Y.n_sorted (by decide +kernel) (pa_cons (pv 2) pa_nil)) (nomark _)))))))))))))), ?_⟩
    rw [show L2.start N_law_of_classes [.ref S, .ref I] = [some (.ref S), some (.ref I), none, none, none, none, none, none, none] from rfl]
    walk_at "dd"
    refine w_newL (by show 1 ≤ 1000000; decide) fun q H1 e1 s1 h1 => ?_
    walk_at "dd"
    have hM1 := hM.same s1
    have nF1 := hM.no e1
    refine use_draw hM1.dr (by decide) (by decide) fun c1 H2 c10 c11 hSt2 f2 => ?_
    have hq2 : H2 q = some (.lst (([tg] : List (List Nat)).map T)) := f2 _ _ (st_ne hM1.dr (ys := [tg]) h1 (List.cons_ne_nil _ _)) h1
    walk_at "dd"
    refine for_R (fun i σ' H' => ∃ (es : List Ch) (fl : List Bool) (ds : List Cl) (F : List Addr) (n' : Nat) (ys : List (List Nat)) (x3 x4 x5 x6 : Option V), σ' = [some (.ref S), some (.ref I), some (.ref q), x3, x4, x5, x6, none, none] ∧
      MkI K CI CW CJ CS CD I S L es fl [] ds F n' H' ∧ H' q = some (.lst (ys.map T)) ∧ q ∉ F ∧ ClS ds ys ∧ es.length + 1 = ys.length ∧ ys.length ≤ 20 ∧ n' ≤ i) c10 (by omega)
      ⟨[], [], [thing], F, 0, [tg], _, _, _, _, rfl, hM1.draw hSt2 f2, hq2, nF1, ⟨rfl, ⟨[], rfl⟩, fun a ha => by rw [List.mem_singleton.mp ha]; exact okW_cls.2.2.2.2⟩, rfl, by decide, Nat.le_refl _⟩ ?_ ?_
    · clear hM hM1 nF1 hq2
      rintro i σ' H3 hi ⟨es, fl, ds, F3, n3, ys, x3, x4, x5, x6, rfl, hM3, hq3, nF3, hC, hes, hy20, hn3⟩
      have hi : i < 24 := by omega
      walk_at "dd"
      refine ⟨S, L, q, ys, rfl, hM3.dr, hq3, hC.ne, by omega, fun a H4 ha hna hSt4 f4 => ?_⟩
      have hM4 := hM3.draw hSt4 f4
      have hq4 := f4 _ _ (st_ne hM3.dr hq3 hC.ne) hq3
      walk_at "dd"
      rw [List.length_map]
      refine use_draw hSt4 (by omega) (by omega) fun c5 H5 c50 c51 hSt5 f5 => ?_
      obtain ⟨r, rfl⟩ : ∃ r : Nat, c5 = (r : Int) := ⟨c5.toNat, by omega⟩
      have hM5 := hM4.draw hSt5 f5
      have hq5 := f5 _ _ (st_ne hM4.dr hq4 hC.ne) hq4
      have hr5 : r < ys.length := by omega
      refine tl_at (w := ys) hq5 hr5 ?_
      have hbm : ys[r] ∈ ys := List.getElem_mem hr5
      generalize ys[r] = b at hbm
      walk_at "dd"
      rw [List.length_map, show ((ys.length : Int) - 1) = (es.length : Int) by omega]
      have hrf : refM ds (.cls a b []) = decide (ys.length = 20) := by rw [ref_cls (by rw [hC.nm]; exact hna) (by rw [hC.nm]; exact hbm), hC.len]
      have hO := cho_cls (n := a) (b := b) (ss := []) ha.1 (hC.ok b hbm) (fun s h => absurd h List.not_mem_nil) (by decide)
      refine w_if (fun h20 => ?_) (fun h20 => ?_)
      · have h20 : ys.length = 20 := by omega
        walk_at "dd"
        refine w_newT (by show 2 ≤ 1000000; decide) fun q6 H6 e6 s6 h6 => ?_
        walk_at "dd"
        refine w_newT (by show 0 ≤ 1000000; decide) fun q7 H7 e7 s7 h7 => ?_
        walk_at "dd"
        refine w_newT (by show 4 ≤ 1000000; decide) fun q8 H8 e8 s8 h8 => ?_
        walk_at "dd"
        have hM8 := ((hM5.same s6).same s7).same s8
        have hv : TrAt K H8 (.ref q8) (Ch.ch (.cls a b [])) := .t (.inl (.inl h8)) (.cons .s (.cons .s (.cons .s (.cons (.t (.inl (.inl (s8 _ _ h7))) .nil) .nil))))
        refine use_made hM8 hv hO (by omega) (by omega) (fun _ p9 H9 s9 h9 => ?_) (fun _ z => by rw [hrf, decide_eq_true h20] at z; cases z)
        walk_at "dd"
        refine neD_at (t := .t [.s (cds "refused"), .i (es.length : Int)]) (n := 1) (.t h9 (.cons .s (.cons .i .nil))) (.t (.inl (.inl (s9 _ _ (s8 _ _ (s7 _ _ h6))))) (.cons .s (.cons .i .nil))) (refu_g _) (by decide) ?_
        have hq9 := s9 _ _ (s8 _ _ (s7 _ _ (s6 _ _ hq5)))
        walk_at "dd"
        rw [List.length_map]
        walk_at "dd"
        refine w_if (fun z => absurd z (by omega)) fun _ => ?_
        walk_at "dd"
        exact ⟨es, fl, ds, F3, n3, ys, _, _, _, _, rfl, hM8.same s9, hq9, nF3, hC, hes, hy20, by omega⟩
      · have h20 : ys.length < 20 := by omega
        walk_at "dd"
        refine w_newT (by show 0 ≤ 1000000; decide) fun q7 H7 e7 s7 h7 => ?_
        walk_at "dd"
        refine w_newT (by show 4 ≤ 1000000; decide) fun q8 H8 e8 s8 h8 => ?_
        walk_at "dd"
        have hM8 := (hM5.same s7).same s8
        have hv : TrAt K H8 (.ref q8) (Ch.ch (.cls a b [])) := .t (.inl (.inl h8)) (.cons .s (.cons .s (.cons .s (.cons (.t (.inl (.inl (s8 _ _ h7))) .nil) .nil))))
        refine use_made hM8 hv hO (by omega) (by omega) (fun z => ?_) (fun _ _ F9 H9 g9 hM9 => ?_)
        · rw [hrf, decide_eq_false (by omega)] at z
          exact z.elim (fun q => by omega) fun q => by cases q
        walk_at "dd"
        refine neD_at (t := .i (es.length : Int)) (n := 0) .i .i True.intro (by decide) ?_
        have hq8 := s8 _ _ (s7 _ _ hq5)
        have hq9 := g9.fr.1 _ _ nF3 hq8
        have nF9 := g9.out nF3 hq8
        walk_at "dd"
        rw [List.length_map]
        walk_at "dd"
        refine w_if (fun _ => ?_) (fun z => absurd (show (ys.length : Int) < 20 by omega) z)
        walk_at "dd"
        refine ⟨tyL (SqL.of hq9), ?_⟩
        walk_at "dd"
        refine w_app2 hq9 (by rw [List.length_map]; omega) fun H10 h10 k10 => ?_
        walk_at "dd"
        have hM10 := hM9.but hq9 hC.ne nF9 k10
        have h10' : H10 q = some (.lst ((ys ++ [a]).map T)) := by rw [List.map_append]; exact h10
        exact ⟨_, _, _, F9, n3 + 1, ys ++ [a], _, _, _, _, rfl, hM10, h10', nF9, hC.more ha.1, by rw [List.length_append, List.length_append]; show es.length + 1 + 1 = ys.length + 1; omega, by rw [List.length_append]; exact h20, by omega⟩
    · clear hM hM1 nF1 hq2
      rintro σ' H3 ⟨es, fl, ds, F3, n3, ys, x3, x4, x5, x6, rfl, hM3, hq3, nF3, hC, hes, hy20, hn3⟩
      have hn23 : n3 ≤ 23 := by omega
      walk_at "dd"
      rw [List.length_map, show ((ys.length : Int) - 1) = (es.length : Int) by omega]
      obtain ⟨dxI, W, hI⟩ := hM3.iat
      refine w_ifI (fun z => ?_) (fun z => ?_)
      · have hy1 : ys = [tg] := by
          obtain ⟨zs, rfl⟩ := hC.top
          rw [List.length_cons] at hes
          have : zs.length = 0 := by omega
          rw [List.eq_nil_of_length_eq_zero this]
        subst hy1
        walk_at "dd"
        refine o_mat hI rfl ?_
        walk_at "dd"
        refine ⟨I, es, fl, [], ds, F3, rfl, hM3.im, by have := hC.len; simp at this; omega, fun p7 ys H7 s7 e7 perm7 sor7 h7 => ?_⟩
        rw [hC.nm] at perm7
        have ey : ys = [tg] := List.perm_singleton.mp perm7
        subst ey
        walk_at "dd"
        refine w_newL (by show 1 ≤ 1000000; decide) fun p8 H8 e8 s8 h8 => ?_
        refine eqD_lst (n := 0) (SqL.of (s8 _ _ h7)) (trs_texts [tg]) (SqL.of h8) (trs_texts [tg]) (txs_at hC.ok) (by decide) ?_
        exact kQ _
      obtain ⟨dq, c, yq, rfl, rfl, hdq, hCq⟩ := hC.last (by omega)
      have ly : yq.length + 1 = (yq ++ [c.nm]).length := by rw [List.length_append]; rfl
      walk_at "dd"
      have hq3' : H3 q = some (.lst (yq.map T ++ [T c.nm])) := by rw [hq3, List.map_append]; rfl
      refine ⟨tyL (SqL.of hq3'), ?_⟩
      refine w_pop hq3' fun H4 h4 k4 => ?_
      have hM4 := hM3.but hq3 hC.ne nF3 k4
      walk_at "dd"
      refine w_newT (by show 2 ≤ 1000000; decide) fun q5 H5 e5 s5 h5 => ?_
      walk_at "dd"
      have hM5 := hM4.same s5
      have hv : TrAt K H5 (.ref q5) (Ch.ch (.nocls c.nm)) := .t (.inl (.inl h5)) (.cons .s (.cons .s .nil))
      have hrf : refM (dq ++ [c]) (.nocls c.nm) = false := ref_nocls hM5.nc.1 hdq
      refine use_made hM5 hv (cho_no (hC.ok c.nm (List.mem_append_right _ (List.mem_singleton.mpr rfl)))) (by omega) (by omega) (fun z => ?_) (fun _ _ F6 H6 g6 hM6 => ?_)
      · rw [hrf] at z
        exact z.elim (fun q => by omega) fun q => by cases q
      rw [car_nocls hM5.nc.1] at hM6
      walk_at "dd"
      refine neD_at (t := .i (es.length : Int)) (n := 0) .i .i True.intro (by decide) ?_
      have hq5 := s5 _ _ h4
      have hq6 := g6.fr.1 _ _ nF3 hq5
      have nF6 := g6.out nF3 hq5
      walk_at "dd"
      refine ⟨S, L, q, yq, rfl, hM6.dr, hq6, hCq.ne, by omega, fun a H7 ha hna hSt7 f7 => ?_⟩
      have hM7 := hM6.draw hSt7 f7
      have hq7 := f7 _ _ (st_ne hM6.dr hq6 hCq.ne) hq6
      walk_at "dd"
      refine ⟨tyL (SqL.of hq7), ?_⟩
      walk_at "dd"
      refine w_app2 hq7 (by rw [List.length_map]; omega) fun H8 h8 k8 => ?_
      have hM8 := hM7.but hq7 hCq.ne nF6 k8
      have h8' : H8 q = some (.lst ((yq ++ [a]).map T)) := by rw [List.map_append]; exact h8
      walk_at "dd"
      refine w_newT (by show 0 ≤ 1000000; decide) fun q9 H9 e9 s9 h9 => ?_
      walk_at "dd"
      refine w_newT (by show 4 ≤ 1000000; decide) fun q10 H10 e10 s10 h10 => ?_
      walk_at "dd"
      have hM10 := (hM8.same s9).same s10
      have hv2 : TrAt K H10 (.ref q10) (Ch.ch (.cls a tg [])) := .t (.inl (.inl h10)) (.cons .s (.cons .s (.cons .s (.cons (.t (.inl (.inl (s10 _ _ h9))) .nil) .nil))))
      have htg : tg ∈ nms dq := by rw [hCq.nm]; obtain ⟨zs, e⟩ := hCq.top; rw [e]; exact List.mem_cons_self
      have hrf2 : refM dq (.cls a tg []) = false := by rw [ref_cls (by rw [hCq.nm]; exact hna) htg, hCq.len]; exact decide_eq_false (by omega)
      have hes' : (es ++ [Ch.nocls c.nm]).length = es.length + 1 := by rw [List.length_append]; rfl
      refine use_made hM10 hv2 (cho_cls ha.1 okW_cls.2.2.2.2 (fun s h => absurd h List.not_mem_nil) (by decide)) (by omega) (by omega) (fun z => ?_) (fun _ _ F11 H11 g11 hM11 => ?_)
      · rw [hrf2] at z
        exact z.elim (fun q => by omega) fun q => by cases q
      have hC11 := hCq.more (b := tg) ha.1
      have hq10 := s10 _ _ (s9 _ _ h8')
      have hq11 := g11.fr.1 _ _ nF6 hq10
      walk_at "dd"
      rw [hes']
      refine eqD_at (t := .i ((es.length : Int) + 1)) (n := 0) .i .i True.intro (by decide) ?_
      obtain ⟨dxI, W, hI⟩ := hM11.iat
      walk_at "dd"
      refine o_mat hI rfl ?_
      walk_at "dd"
      refine ⟨I, _, _, _, _, F11, rfl, hM11.im, by rw [hC11.len, List.length_append]; show yq.length + 1 ≤ 60; omega, fun p12 ys1 H12 s12 e12 perm1 sor1 h12 => ?_⟩
      rw [hC11.nm] at perm1
      walk_at "dd"
      refine w_sortS (s12 _ _ hq11) (by rw [List.length_append]; show yq.length + 1 < 64; omega) fun ys2 p13 H13 s13 perm2 sor2 h13 => ?_
      have ey := sorted_one sor1 sor2 (perm1.trans perm2.symm)
      subst ey
      refine eqD_lst (n := 0) (SqL.of (s13 _ _ h12)) (trs_texts ys1) (SqL.of h13) (trs_texts ys1) (txs_at fun x hx => hC11.ok x (perm1.mem_iff.mp hx)) (by decide) ?_
      exact kQ _
end
end
section
/-! The bound on changes. -/
open PySem PySem.Spec PyProof.Rows L2
open C8 (Cal Met Mak cal0 pe_c pe_gc pss_cut tCut pe_mt pe_mt0 pe_mk)
open TL (numL numL_len numL_inj)

local macro_rules | `(tactic| walk_at "dd") => `(tactic| repeat (first
  | walk_at "r1c"
  | with_reducible refine w_dget ?_
  | with_reducible refine w_din ?_
  | with_reducible refine w_dnin ?_
  | with_reducible refine w_dput ?_
  | with_reducible refine w_ddel ?_
  | with_reducible refine w_lenSet ?_
  | with_reducible refine w_lcTt ?_
  | with_reducible refine cTe (by with_unfolding_all decide +kernel) ?_
  | with_reducible refine cTn (by with_unfolding_all decide +kernel) ?_
  | with_reducible refine cNe (by with_unfolding_all decide +kernel) ?_
  | with_reducible refine cNn (by with_unfolding_all decide +kernel) ?_
  | with_reducible refine w_par ?_
  | with_reducible refine w_raiseC ?_
  | with_reducible refine w_lcV ?_
  | with_reducible refine w_lcKk ?_
  | with_reducible refine w_lcZ ?_
  | with_reducible refine w_lcE ?_))

theorem dsT_nice {n b : List Nat} {c m : Nat} (h : n ≠ tg) (hm : m ≤ c) : Nice c (dsT n b m) := by
  have := made_nice nice0 (made_tgs (b := b) h hm)
  rw [List.length_zip, tgs_len, upto_len, Nat.min_self, Nat.zero_add] at this
  exact this
theorem tgl_ok {n b : List Nat} (hn : okW n) (hb : okW b) (k : Nat) : ChO (tgl n b k) := by
  unfold tgl
  by_cases z : k = 0
  · rw [if_pos z]; exact cho_cls hn okW_cls.2.2.2.2 (fun s h => absurd h List.not_mem_nil) (by decide)
  · rw [if_neg z]
    by_cases o : k % 2 = 1
    · rw [if_pos o]; exact (cho_slot hn hb).1
    · rw [if_neg o]; exact (cho_slot hn hb).2
theorem tgs_sm {n b : List Nat} (c : Nat) : ∀ x ∈ tgs n b c, ChSm x := fun x hx => by
  obtain ⟨k, _, rfl⟩ := List.mem_map.mp hx
  unfold tgl
  by_cases z : k = 0
  · rw [if_pos z]; show (0 : Nat) ≤ 100; decide
  · rw [if_neg z]
    by_cases o : k % 2 = 1
    · rw [if_pos o]; exact True.intro
    · rw [if_neg o]; exact True.intro
/-- the next change, as the law writes it -/
theorem tgl_ch {n b : List Nat} {k : Nat} (h : 0 < k) : (tgl n b k).ch = .t [.s (if k % 2 = 0 then cds "no slot" else cds "slot"), .s n, .s b] := by
  unfold tgl
  rw [if_neg (by omega)]
  by_cases o : k % 2 = 1
  · rw [if_pos o, if_neg (by omega)]; rfl
  · rw [if_neg o, if_pos (by omega)]; rfl
theorem ix_word {K : PySem.W.Frag} {H : Hp} {Q : VK} {p : Addr} (h : H p = some (.lst [T (cds "slot"), T (cds "no slot")])) (c : Nat) (k : Q (T (if c % 2 = 0 then cds "no slot" else cds "slot")) H) : rIxL K (.ref p) (.int (if decide (c % 2 = 0) = true then 1 else 0)) H Q := by
  by_cases z : c % 2 = 0
  · rw [if_pos z] at k
    rw [decide_eq_true z]
    exact w_ixL (SqL.of h) rfl k
  · rw [if_neg z] at k
    rw [decide_eq_false z]
    exact w_ixL (SqL.of h) rfl k
theorem tgl_at {K : PySem.W.Frag} {H : Hp} {n b : List Nat} {q : Addr} {c : Nat} (h0 : 0 < c) (h : H q = some (.tup [T (if c % 2 = 0 then cds "no slot" else cds "slot"), T n, T b])) : TrAt K H (.ref q) (Ch.ch (tgl n b c)) := by
  rw [tgl_ch h0]
  exact .t (.inl (.inl h)) (.cons .s (.cons .s (.cons .s .nil)))
theorem not_par (c : Nat) : (!decide (c % 2 = 0)) = decide ((c + 1) % 2 = 0) := by
  by_cases z : c % 2 = 0
  · rw [decide_eq_true z, decide_eq_false (show ¬ (c + 1) % 2 = 0 by omega)]; rfl
  · rw [decide_eq_false z, decide_eq_true (show (c + 1) % 2 = 0 by omega)]; rfl
theorem par_not (c : Nat) : (!decide ((c + 1) % 2 = 0)) = decide (c % 2 = 0) := by
  rw [← not_par, Bool.not_not]
theorem told_len {es : List Ch} {fl : List Bool} (h : es.length = fl.length) : (toldT es fl).length = es.length := by
  unfold toldT; rw [List.length_zipWith]; omega
section
variable {P : Program} {w : World} {K : PySem.W.Frag} {mg : Str → Option Value} {base : Heap} {k : Nat} {CS CD CJ CW CI C fI : Addr}
abbrev s_law_of_changes : Stmt := topS 126
abbrev N_law_of_changes : List Str := ["state", "image", "name", "base", "count", "undone", "there", "k", "change"]
theorem sc_law_of_changes : FnScope N_law_of_changes ["state", "image", "name", "base"] (defScope s_law_of_changes) := ⟨rfl, rfl, rfl, by decide +kernel, rfl, by decide +kernel, by decide +kernel⟩
def spOfG (K : PySem.W.Frag) (CI CW CJ CS CD : Addr) : Sp := fun vs H Q _ => ∃ (S L I : Addr) (F : List Addr) (n b : List Nat), vs = [.ref S, .ref I, T n, T b] ∧ MkI K CI CW CJ CS CD I S L [] [] [] [thing] F 0 H ∧ NmOk n ∧ n ≠ tg ∧ okW b ∧ ∀ H', Q (.bl true) H'
theorem ok_law_of_changes {f : Addr} {fd : FuncData} (F : Fun K "_law_of_changes" "_law_of_changes" s_law_of_changes f fd) (Y : Bn mg) (c_law_draw : Cal P w K mg base 1 "_law_draw" spDraw [])
    (c_law_made : Cal P w K mg base 9 "_law_made" (spLMad K CI CW CJ CS CD) []) (m_changes : Met P w K mg base 3 CI "changes" (spIChg K CI CW CJ CS CD) []) (m_undo : MetX P w K mg base 9 CI "undo" (spIUnd K CI CW CJ CS CD C) []) :
    FnOk P w K mg base CX0 10 f fd ["state", "image", "name", "base"] (spOfG K CI CW CJ CS CD) := by
  refine F.ok sc_law_of_changes (fun vs H Q E h => ?_) (fun cdv A outer s H vs Q E hr h => ?_)
  · obtain ⟨S, L, I, F, n, b, rfl, _⟩ := h
    rfl
  · obtain ⟨S, L, I, F, n, b, rfl, hM, hn, hnt, hb, kQ⟩ := h
    have nd := sc_law_of_changes.nd
    refine ⟨_, (pss_cons (ps_set (i := 4) nd rfl (Or.inl rfl) (pe_op op_add pe_int (pe_c c_law_draw hr (by decide) rfl (pa_cons (pv 0) (pa_cons pe_int pa_nil)))))
      (pss_cons (ps_set (i := 5) nd rfl (Or.inl rfl) (pe_c c_law_draw hr (by decide) rfl (pa_cons (pv 0) (pa_cons pe_int pa_nil))))
      (pss_cons (ps_if (pt_cmpR (op_neD hr.units) (pe_c c_law_made hr (by decide) rfl (pa_cons (pv 1) (pa_cons (pe_tup (pa_cons pe_str (pa_cons (pv 2) (pa_cons pe_str (pa_cons (pe_tup pa_nil) pa_nil))))) pa_nil))) pe_int (nomark _)) (pss_one (ps_ret pe_bl)) pss_nil)
      (pss_cons (ps_set (i := 6) nd rfl (Or.inl rfl) pe_bl)
      (pss_cons (ps_for PassesOwn.never rfl (pi_range2 rfl Y.n_range (pa_cons pe_int (pa_cons (pv 4) pa_nil))) (pg_name (i := 7) nd rfl (Or.inl rfl)) (pss_cons (ps_set (i := 8) nd rfl (Or.inl rfl) (pe_tup (pa_cons (pe_ix ix_list (pe_lst (pa_cons pe_str (pa_cons pe_str pa_nil))) (pe_callTy call_intI (by rfl) Y.n_int (by decide +kernel) (pa_cons (pv 6) pa_nil)) (fun _ _ => rfl)) (pa_cons (pv 2) (pa_cons (pv 3) pa_nil)))))
      (pss_one (ps_if (pt_cmpR op_ge (pv 7) pe_int (nomark _)) (pss_one (ps_if (pt_cmpR (op_neD hr.units) (pe_c c_law_made hr (by decide) rfl (pa_cons (pv 1) (pa_cons (pv 8) pa_nil))) (pe_tup (pa_cons pe_str (pa_cons pe_int pa_nil))) (nomark _)) (pss_one (ps_ret pe_bl)) pss_nil)) (pss_cons (ps_if (pt_cmpR (op_neD hr.units) (pe_c c_law_made hr (by decide) rfl (pa_cons (pv 1) (pa_cons (pv 8) pa_nil))) (pv 7) (nomark _)) (pss_one (ps_ret pe_bl)) pss_nil)
      (pss_one (ps_set (i := 6) nd rfl (Or.inl rfl) (pe_not (pv 6)))))))))
      (pss_cons (ps_for PassesOwn.never rfl (pi_range1 rfl Y.n_range (pa_cons (pv 5) pa_nil)) (pg_name (i := 7) nd rfl (Or.inl rfl)) (pss_one (ps_if (pt_cmpR op_gt (pe_op op_sub (pe_op op_sub (pe_callB (call_minI rfl) (by rfl) Y.n_min (by decide +kernel) (pa_cons (pv 4) (pa_cons pe_int pa_nil))) pe_int) (pv 7)) pe_int (nomark _)) (pss_cons (ps_if (pt_cmpR op_ne (pe_mx0 m_undo hr (by decide) passNL (pv 1)) (pe_op op_sub (pe_op op_sub (pe_callB (call_minI rfl) (by rfl) Y.n_min (by decide +kernel) (pa_cons (pv 4) (pa_cons pe_int pa_nil))) pe_int) (pv 7)) (nomark _)) (pss_one (ps_ret pe_bl)) pss_nil)
      (pss_one (ps_set (i := 6) nd rfl (Or.inl rfl) (pe_not (pv 6))))) pss_nil)))
      (pss_cons (ps_set (i := 8) nd rfl (Or.inl rfl) (pe_tup (pa_cons (pe_ix ix_list (pe_lst (pa_cons pe_str (pa_cons pe_str pa_nil))) (pe_callTy call_intI (by rfl) Y.n_int (by decide +kernel) (pa_cons (pv 6) pa_nil)) (fun _ _ => rfl)) (pa_cons (pv 2) (pa_cons (pv 3) pa_nil)))))
      (pss_cons (ps_if (pt_cmpR op_ge (pv 4) pe_int (nomark _)) (pss_one (ps_ret (pe_and (pe_cmpR (op_eqD hr.units) (pe_c c_law_made hr (by decide) rfl (pa_cons (pv 1) (pa_cons (pv 8) pa_nil))) (pe_tup (pa_cons pe_str (pa_cons pe_int pa_nil))) (nomark _)) (pe_one (pe_cmpR op_eq (pe_callB call_lenL (by rfl) Y.n_len (by decide +kernel) (pa_cons (pe_mt0 m_changes hr (by omega) (pv 1)) pa_nil)) pe_int (nomark _)))))) pss_nil)
      (pss_one (ps_ret (pe_cmpR (op_eqD hr.units) (pe_c c_law_made hr (by decide) rfl (pa_cons (pv 1) (pa_cons (pv 8) pa_nil))) (pv 4) (nomark _)))))))))))), ?_⟩
    rw [show L2.start N_law_of_changes [.ref S, .ref I, T n, T b] = [some (.ref S), some (.ref I), some (T n), some (T b), none, none, none, none, none] from rfl]
    walk_at "dd"
    refine use_draw hM.dr (by decide) (by decide) fun c0 H1 c00 c01 hSt1 f1 => ?_
    obtain ⟨m, rfl⟩ : ∃ m : Nat, c0 = (m : Int) := ⟨c0.toNat, by omega⟩
    have hM1 := hM.draw hSt1 f1
    walk_at "dd"
    refine use_draw hM1.dr (by decide) (by decide) fun c2 H2 c20 c21 hSt2 f2 => ?_
    obtain ⟨u, rfl⟩ : ∃ u : Nat, c2 = (u : Int) := ⟨c2.toNat, by omega⟩
    have hM2 := hM1.draw hSt2 f2
    rw [show ((1 : Int) + (m : Int)) = ((m + 1 : Nat) : Int) by omega]
    obtain ⟨ct, hct⟩ : ∃ ct, ct = m + 1 := ⟨_, rfl⟩
    rw [← hct]
    walk_at "dd"
    refine w_newT (by show 0 ≤ 1000000; decide) fun q3 H3 e3 s3 h3 => ?_
    walk_at "dd"
    refine w_newT (by show 4 ≤ 1000000; decide) fun q4 H4 e4 s4 h4 => ?_
    walk_at "dd"
    have hM4 : MkI K CI CW CJ CS CD I S L (tgs n b 0) (upto 0 0) [] (dsT n b 0) F 0 H4 := (hM2.same s3).same s4
    have hv : TrAt K H4 (.ref q4) (Ch.ch (tgl n b 0)) := .t (.inl (.inl h4)) (.cons .s (.cons .s (.cons .s (.cons (.t (.inl (.inl (s4 _ _ h3))) .nil) .nil))))
    refine use_made hM4 hv (tgl_ok hn.1 hb 0) (by decide) (Nat.zero_le _) (fun z => ?_) (fun _ _ F5 H5 g5 hM5 => ?_)
    · rw [(ref_tgl hnt 0).1] at z
      exact z.elim (fun q => absurd (show 60 ≤ 0 from q) (by decide)) fun q => by cases q
    rw [(ref_tgl hnt 0).2] at hM5
    have hM5 : MkI K CI CW CJ CS CD I S L (tgs n b 1) (upto 1 1) [] (dsT n b 1) F5 1 H5 := hM5
    clear hM hM1 hM2 hM4 hv
    walk_at "dd"
    refine neD_at (t := .i 0) (n := 0) .i .i True.intro (by decide) ?_
    walk_at "dd"
    refine w_forR2 ?_
    walk_at "dd"
    refine for_R2 (lo := 1) (hi := ct) (fun i σ' H' => ∃ (c : Nat) (F : List Addr) (x7 x8 : Option V), σ' = [some (.ref S), some (.ref I), some (T n), some (T b), some (.int (ct : Int)), some (.int (u : Int)), some (.bl (decide (c % 2 = 0))), x7, x8] ∧ c = min (i + 1) 60 ∧
      MkI K CI CW CJ CS CD I S L (tgs n b c) (upto c c) [] (dsT n b c) F c H') (by omega) (by decide) ⟨1, F5, _, _, rfl, rfl, hM5⟩ ?_ ?_
    · clear hM5
      rintro i σ' H6 hi ⟨c, F6, x7, x8, rfl, hc, hM6⟩
      walk_at "dd"
      refine w_newL (by show 2 ≤ 1000000; decide) fun q7 H7 e7 s7 h7 => ?_
      walk_at "dd"
      refine ix_word h7 c ?_
      walk_at "dd"
      refine w_newT (by show 3 ≤ 1000000; decide) fun q8 H8 e8 s8 h8 => ?_
      walk_at "dd"
      have hc0 : 0 < c := by omega
      have hM8 := (hM6.same s7).same s8
      have hv : TrAt K H8 (.ref q8) (Ch.ch (tgl n b c)) := tgl_at hc0 h8
      have hlc : (tgs n b c).length = c := tgs_len
      obtain ⟨r1, r2⟩ := ref_tgl (b := b) hnt c
      refine w_if (fun h60 => ?_) (fun h60 => ?_)
      · have hc6 : c = 60 := by omega
        walk_at "dd"
        refine use_made hM8 hv (tgl_ok hn.1 hb c) (by omega) (by omega) (fun _ p9 H9 s9 h9 => ?_) (fun z _ => by omega)
        walk_at "dd"
        refine w_newT (by show 2 ≤ 1000000; decide) fun q10 H10 e10 s10 h10 => ?_
        rw [hlc, hc6] at h9
        refine neD_at (t := .t [.s (cds "refused"), .i 60]) (n := 1) (.t (Same.sqT s10 h9) (.cons .s (.cons .i .nil))) (.t (.inl (.inl h10)) (.cons .s (.cons .i .nil))) (refu_g _) (by decide) ?_
        walk_at "dd"
        exact ⟨c, F6, _, _, rfl, by omega, (hM8.same s9).same s10⟩
      · have hc6 : c = i + 1 := by omega
        walk_at "dd"
        refine use_made hM8 hv (tgl_ok hn.1 hb c) (by omega) (by omega) (fun z => ?_) (fun _ _ F9 H9 g9 hM9 => ?_)
        · rw [r1] at z
          exact z.elim (fun q => by omega) fun q => by cases q
        walk_at "dd"
        rw [hlc]
        refine neD_at (t := .i (c : Int)) (n := 0) .i (by rw [show ((1 + i : Nat) : Int) = (c : Int) by omega]; exact .i) True.intro (by decide) ?_
        walk_at "dd"
        rw [← tgs_succ, ← upto_succ, r2] at hM9
        exact ⟨c + 1, F9, _, _, by rw [← not_par]; rfl, by omega, hM9⟩
    · clear hM5
      rintro σ' H6 ⟨c, F6, x7, x8, rfl, hc, hM6⟩
      walk_at "dd"
      have hcc : c = min ct 60 := by omega
      have hc60 : c ≤ 60 := by omega
      have hmin : (if (60 : Int) < (ct : Int) then (60 : Int) else (ct : Int)) = (c : Int) := by split <;> omega
      refine for_R (fun i σ' H' => ∃ (m : Nat) (un : List Nat) (F : List Addr) (x7 : Option V), σ' = [some (.ref S), some (.ref I), some (T n), some (T b), some (.int (ct : Int)), some (.int (u : Int)), some (.bl (decide (m % 2 = 0))), x7, x8] ∧ m = max 1 (c - i) ∧
        MkI K CI CW CJ CS CD I S L (tgs n b c) (upto c m) un (dsT n b m) F c H' ∧ un.length ≤ i) (by omega) (by omega) ⟨c, [], F6, _, rfl, by omega, hM6, Nat.le_refl _⟩ ?_ ?_
      · clear hM6
        rintro i σ' H7 hi ⟨m, un, F7, x7', rfl, hm, hM7, hun⟩
        walk_at "dd"
        refine w_min ?_
        rw [hmin]
        walk_at "dd"
        refine w_if (fun h0 => ?_) (fun h0 => ?_)
        · obtain ⟨m', rfl⟩ : ∃ m', m = m' + 1 := ⟨m - 1, by omega⟩
          walk_at "dd"
          obtain ⟨dxI, W, hI⟩ := hM7.iat
          refine o_mat hI rfl ?_
          walk_at "dd"
          refine ⟨I, tgs n b c, upto c (m' + 1), un, dsT n b (m' + 1), F7, rfl, hM7.im, hM7.ln, by rw [tgs_len]; exact hc60, by omega, tgs_sm c, ?_⟩
          rw [stand_last (show m' + 1 ≤ c by omega) (Nat.succ_pos _)]
          show OutZ (madeM [thing] 0 ((tgs n b c).zip ((upto c (m' + 1)).set (m' + 1 - 1) false))) _ _
          rw [Nat.add_sub_cancel, upto_set (show m' < c by omega), made_tgs hnt (show m' ≤ c by omega)]
          intro F8 H8 hi8 g8
          have hM8 : MkI K CI CW CJ CS CD I S L (tgs n b c) (upto c m') (un ++ [m']) (dsT n b m') F8 c H8 := hM7.go hi8 g8 hM7.tr (dsT_nice hnt (by omega)) (by rw [tgs_len, upto_len])
          walk_at "dd"
          refine w_min ?_
          rw [hmin]
          walk_at "dd"
          refine w_ifIn (fun z => absurd (show ((m' : Nat) : Int) = (c : Int) - 1 - (0 + (i : Int)) by omega) z) fun _ => ?_
          walk_at "dd"
          exact ⟨m', un ++ [m'], F8, _, by rw [par_not m']; rfl, by omega, hM8, by rw [List.length_append]; show un.length + 1 ≤ i + 1; omega⟩
        · walk_at "dd"
          exact ⟨m, un, F7, _, rfl, by omega, hM7, by omega⟩
      · clear hM6
        rintro σ' H7 ⟨m, un, F7, x7', rfl, hm, hM7, hun⟩
        walk_at "dd"
        refine w_newL (by show 2 ≤ 1000000; decide) fun q8 H8 e8 s8 h8 => ?_
        walk_at "dd"
        refine ix_word h8 m ?_
        walk_at "dd"
        refine w_newT (by show 3 ≤ 1000000; decide) fun q9 H9 e9 s9 h9 => ?_
        walk_at "dd"
        have hM9 := (hM7.same s8).same s9
        have hv : TrAt K H9 (.ref q9) (Ch.ch (tgl n b m)) := tgl_at (by omega) h9
        have hlc : (tgs n b c).length = c := tgs_len
        obtain ⟨r1, r2⟩ := ref_tgl (b := b) hnt m
        refine w_if (fun h60 => ?_) (fun h60 => ?_)
        · have hc6 : c = 60 := by omega
          walk_at "dd"
          refine use_made hM9 hv (tgl_ok hn.1 hb m) (by omega) (by omega) (fun _ p10 H10 s10 h10 => ?_) (fun z _ => by omega)
          walk_at "dd"
          refine w_newT (by show 2 ≤ 1000000; decide) fun q11 H11 e11 s11 h11 => ?_
          rw [hlc, hc6] at h10
          refine eqD_at (t := .t [.s (cds "refused"), .i 60]) (n := 1) (.t (Same.sqT s11 h10) (.cons .s (.cons .i .nil))) (.t (.inl (.inl h11)) (.cons .s (.cons .i .nil))) (refu_g _) (by decide) ?_
          have hM11 := (hM9.same s10).same s11
          obtain ⟨dxI, W, hI⟩ := hM11.iat
          walk_at "dd"
          refine o_mat hI rfl ?_
          walk_at "dd"
          refine ⟨I, _, _, un, _, F7, rfl, hM11.im, by omega, hM11.ln, fun p12 us H12 s12 e12 h12 hT12 => ?_⟩
          have hul : us.length = 60 := by rw [hT12.length, told_len hM11.ln, hlc, hc6]
          walk_at "dd"
          rw [hul, show decide (V.int ((60 : Nat) : Int) = V.int 60) = true from decide_eq_true rfl]
          exact kQ _
        · walk_at "dd"
          refine use_made hM9 hv (tgl_ok hn.1 hb m) (by omega) (by omega) (fun z => ?_) (fun _ _ F10 H10 g10 hM10 => ?_)
          · rw [r1] at z
            exact z.elim (fun q => by omega) fun q => by cases q
          walk_at "dd"
          rw [hlc]
          refine eqD_at (t := .i (c : Int)) (n := 0) .i (by rw [show (ct : Int) = (c : Int) by omega]; exact .i) True.intro (by decide) ?_
          exact kQ _
end
end
section
/-! The law. -/
open PySem PySem.Spec PyProof.Rows L2
open C8 (Cal Met Mak cal0 pe_c pe_gc pss_cut tCut pe_mt pe_mt0 pe_mk)

local macro_rules | `(tactic| walk_at "dd") => `(tactic| repeat (first
  | walk_at "r1c"
  | with_reducible refine w_dget ?_
  | with_reducible refine w_din ?_
  | with_reducible refine w_dnin ?_
  | with_reducible refine w_dput ?_
  | with_reducible refine w_ddel ?_
  | with_reducible refine w_lenSet ?_
  | with_reducible refine w_lcTt ?_
  | with_reducible refine cTe (by with_unfolding_all decide +kernel) ?_
  | with_reducible refine cTn (by with_unfolding_all decide +kernel) ?_
  | with_reducible refine cNe (by with_unfolding_all decide +kernel) ?_
  | with_reducible refine cNn (by with_unfolding_all decide +kernel) ?_
  | with_reducible refine w_par ?_
  | with_reducible refine w_raiseC ?_
  | with_reducible refine w_lcV ?_
  | with_reducible refine w_lcKk ?_
  | with_reducible refine w_lcZ ?_
  | with_reducible refine w_lcE ?_))

theorem img_use {K : PySem.W.Frag} {CI CW CJ CS CD I dI S L : Addr} {H : Hp} {Q : Hp → Prop} {E : XK} (hI : H I = none) (hd : H dI = none) (ne : dI ≠ I) (hSt : StAt H S L) (kk : ∀ F H6, MkI K CI CW CJ CS CD I S L [] [] [] [thing] F 0 H6 → Q H6) :
    spImI K CI CW CJ CS CD (.ref I :: ([] ++ [])) (upd (upd H dI (.own I)) I (.ins CI dI [])) (fun v H2 => v = .non ∧ Q H2) E := by
  have s0 : Same H (upd (upd H dI (.own I)) I (.ins CI dI [])) := (same_new0 hd).trans (same_new0 (by rw [upd_ne ne.symm]; exact hI))
  refine ⟨I, dI, rfl, upd_same, fun F H1 him hfr k1 g1 => ⟨rfl, kk F H1 ?_⟩⟩
  have s1 : Same H H1 := fun b o q => k1 b o (fun z => by rw [z, hI] at q; cases q) (s0 b o q)
  have out : ∀ {b : Addr} {o : HO}, H b = some o → b ∉ F := fun {b o} q z => by
    rcases hfr b z with e | e
    · rw [e, hI] at q; cases q
    · rw [s0 _ _ q] at e; cases e
  obtain ⟨ns, i, c, k, b, r, h1, h2, h3, h4⟩ := id hSt
  exact ⟨him, hSt.mono s1, ⟨out h4, out h2⟩, fun c h => absurd h List.not_mem_nil, nice0, rfl⟩
section
variable {P : Program} {w : World} {K : PySem.W.Frag} {mg : Str → Option Value} {base : Heap} {k : Nat} {CS CD CJ CW CI C fI : Addr}
abbrev s_law : Stmt := topS 127
abbrev N_law : List Str := ["script", "state", "kind", "name", "base"]
theorem sc_law : FnScope N_law ["script"] (defScope s_law) := ⟨rfl, rfl, rfl, by decide +kernel, rfl, by decide +kernel, by decide +kernel⟩
theorem ok_law {f : Addr} {fd : FuncData} (F : Fun K "law" "law" s_law f fd) (Y : Bn mg) (c_law_state : Cal P w K mg base 1 "_law_state" (spState K) []) (c_law_draw : Cal P w K mg base 1 "_law_draw" spDraw []) (c_law_class : Cal P w K mg base 3 "_law_class" (spCla K) []) (c_law_name : Cal P w K mg base 3 "_law_name" (spTx IsName) [])
    (c_Image : Mak P w K mg base 9 "Image" CI (spImI K CI CW CJ CS CD) []) (c_law_of_slots : Cal P w K mg base 10 "_law_of_slots" (spOfS K CI CW CJ CS CD) []) (c_law_of_classes : Cal P w K mg base 10 "_law_of_classes" (spOfC K CI CW CJ CS CD) []) (c_law_of_changes : Cal P w K mg base 10 "_law_of_changes" (spOfG K CI CW CJ CS CD) []) :
    FnOk P w K mg base CX0 11 f fd ["script"] (spLaw K) := by
  refine F.ok sc_law (fun vs H Q E h => ?_) (fun cdv A outer s H vs Q E hr h => ?_)
  · obtain ⟨a, ns, rfl, _⟩ := h
    rfl
  · obtain ⟨a, ns, rfl, hA, kQ⟩ := h
    have nd := sc_law.nd
    refine ⟨_, (pss_cons (ps_set (i := 1) nd rfl (Or.inl rfl) (pe_c c_law_state hr (by decide) rfl (pa_cons (pv 0) pa_nil)))
      (pss_cons (ps_set (i := 2) nd rfl (Or.inl rfl) (pe_c c_law_draw hr (by decide) rfl (pa_cons (pv 1) (pa_cons pe_int pa_nil))))
      (pss_cons (ps_set (i := 3) nd rfl (Or.inl rfl) (pe_c c_law_class hr (by decide) rfl (pa_cons (pv 1) (pa_cons (pe_lst (pa_cons pe_str pa_nil)) pa_nil))))
      (pss_cons (ps_set (i := 4) nd rfl (Or.inl rfl) (pe_slice sl_str (pe_c c_law_name hr (by decide) rfl (pa_cons (pv 1) pa_nil)) po_none (po_some pe_int)))
      (pss_cons (ps_if (pt_cmpR op_eq (pv 2) pe_int (nomark _)) (pss_one (ps_ret (pe_c c_law_of_slots hr (by decide) rfl (pa_cons (pv 1) (pa_cons (pe_mk0 c_Image hr (by decide) rfl) (pa_cons (pv 3) (pa_cons (pv 4) pa_nil))))))) pss_nil)
      (pss_cons (ps_if (pt_cmpR op_eq (pv 2) pe_int (nomark _)) (pss_one (ps_ret (pe_c c_law_of_classes hr (by decide) rfl (pa_cons (pv 1) (pa_cons (pe_mk0 c_Image hr (by decide) rfl) pa_nil))))) pss_nil)
      (pss_one (ps_ret (pe_c c_law_of_changes hr (by decide) rfl (pa_cons (pv 1) (pa_cons (pe_mk0 c_Image hr (by decide) rfl) (pa_cons (pv 3) (pa_cons (pe_op op_addS (pv 4) pe_str) pa_nil))))))))))))), ?_⟩
    rw [show L2.start N_law [.ref a] = [some (.ref a), none, none, none, none] from rfl]
    walk_at "dd"
    refine ⟨a, ns, rfl, hA, fun S L H1 hSt1 s1 eS eL => ?_⟩
    walk_at "dd"
    refine use_draw hSt1 (by decide) (by decide) fun kd H2 k0 k1 hSt2 f2 => ?_
    walk_at "dd"
    refine w_newL (by show 1 ≤ 1000000; decide) fun q H3 e3 s3 h3 => ?_
    walk_at "dd"
    refine ⟨S, L, q, [tg], rfl, hSt2.mono s3, h3, List.cons_ne_nil _ _, (show 1 ≤ 29 by decide), fun n H4 hn hnt hSt4 f4 => ?_⟩
    have hnt : n ≠ tg := fun e => hnt (List.mem_singleton.mpr e)
    walk_at "dd"
    refine use_tx hSt4 fun b0 H5 hb0 hSt5 f5 => ?_
    walk_at "dd"
    have hbn := run_ok hb0.1 (.inr rfl)
    refine w_slS (Nat.le_trans hbn.2 (by decide)) ?_
    rw [cut16]
    have hb : okW (b0.take 16) := fun c hc => hbn.1 c (List.mem_of_mem_take hc)
    have hbl : (b0.take 16).length ≤ 16 := List.length_take_le 16 b0
    generalize b0.take 16 = b at hb hbl
    walk_at "dd"
    refine w_ifI (fun _ => ?_) (fun _ => ?_)
    · walk_at "dd"
      intro I dI hI hd ne
      refine img_use hI hd ne hSt5 fun F H6 hM => ?_
      walk_at "dd"
      exact ⟨S, L, I, F, n, b, rfl, hM, hn, hnt, hb, by omega, kQ⟩
    walk_at "dd"
    refine w_ifI (fun _ => ?_) (fun _ => ?_)
    · walk_at "dd"
      intro I dI hI hd ne
      refine img_use hI hd ne hSt5 fun F H6 hM => ?_
      walk_at "dd"
      exact ⟨S, L, I, F, rfl, hM, kQ⟩
    walk_at "dd"
    intro I dI hI hd ne
    refine img_use hI hd ne hSt5 fun F H6 hM => ?_
    walk_at "dd"
    refine w_addS (by show b.length + 1 ≤ 1000000; omega) ?_
    walk_at "dd"
    exact ⟨S, L, I, F, n, b ++ [87], rfl, hM, hn, hnt, okW_app hb fun d hd => by rw [List.mem_singleton.mp hd]; decide, kQ⟩
end
end
section
open PySem PySem.Spec PyProof.Rows L2
open C8 (Cal Met Mak cal0 pe_c pe_gc pss_cut tCut pe_mt pe_mt0 pe_mk)
theorem HeB {a b c d : Prop} [Decidable a] [Decidable b] [Decidable c] [Decidable d] (h : ((decide a && decide b) && (decide c && decide d)) = true) : a ∧ b ∧ c ∧ d := by
  simp only [Bool.and_eq_true, decide_eq_true_eq] at h
  exact ⟨h.1.1, h.1.2, h.2.1, h.2.2⟩
theorem lawB {K : PySem.W.Frag} {st : Stmt} {f : Addr} {fd : FuncData} (F : Fun K "law" "law" st f fd) (e : defArgs st = defArgs s_law := by rfl) (s : Shared) (v : Value) : BindsTo s fd ⟨[v], []⟩ [("script", v)] := by
  obtain ⟨oc, od, kV, doc, pm, an, cdv, ct, osl, rfl, lk, hcd⟩ := F.ex
  rw [e]
  exact .of_eq rfl
theorem intF {mg : Str → Option Value} {x : Str} {i : Int} (h : ∃ t, mg x = some (.int i t)) : ∃ u, mg x = some u ∧ RelV (.int i) u := by
  obtain ⟨t, e⟩ := h
  exact ⟨_, e, ⟨t, rfl⟩⟩
theorem strF {mg : Str → Option Value} {x z : Str} (h : ∃ t, mg x = some (.str z t)) : ∃ u, mg x = some u ∧ RelV (.str z) u := by
  obtain ⟨t, e⟩ := h
  exact ⟨_, e, ⟨t, rfl⟩⟩
theorem fun_of {K : PySem.W.Frag} {x qual : Str} {st : Stmt} {f : Addr} {fd : FuncData} (F : FunD K x qual (defArgs st) (defBody st) (defScope st) [] [] f fd) : Fun K x qual st f fd := by
  obtain ⟨oc, od, dV, kV, doc, pm, an, cdv, ct, osl, rfl, lk, hcd, hD, hK⟩ := F.ex
  rcases hD with ⟨_, rfl⟩ | ⟨e, _⟩
  · exact ⟨⟨oc, od, kV, doc, pm, an, cdv, ct, osl, rfl, lk, hcd⟩, F.kp⟩
  · exact absurd rfl e
theorem facts {w : World} {K : PySem.W.Frag} {h : Heap} {mg : Str → Option Value} {fa : Addr} (X : K.In h) (G : h.Ns mainGlobals mg) (hfa : mg ("law" : Str) = some (.ref fa)) (c : HkX.SaysY HdU.zs w K) :
    ∃ fd : FuncData, (∀ (s : Shared) (v : Value), BindsTo s fd ⟨[v], []⟩ [("script", v)]) ∧ ∀ base : Heap, K.In base → base.Ns mainGlobals mg → FnOk (PySem.Challenge.rw_livestead_k43_bounds_of_definitions.prog) w K mg base CX0 11 fa fd ["script"] (spLaw K) := by
  have e := hfa.symm.trans (He.glo_ok X G (c.fact 12 (f := .glo "law") (by rfl)))
  cases e
  have Y : Bn mg := ⟨He.free_ok X G (c.fact 18 (f := .free "len") (by rfl)), He.free_ok X G (c.fact 19 (f := .free "int") (by rfl)), He.free_ok X G (c.fact 20 (f := .free "list") (by rfl)), He.free_ok X G (c.fact 21 (f := .free "range") (by rfl)), He.free_ok X G (c.fact 22 (f := .free "max") (by rfl)), He.free_ok X G (c.fact 23 (f := .free "str") (by rfl)), He.free_ok X G (c.fact 24 (f := .free "isinstance") (by rfl)), He.free_ok X G (c.fact 25 (f := .free "bool") (by rfl)), He.free_ok X G (c.fact 26 (f := .free "ord") (by rfl)), He.free_ok X G (c.fact 27 (f := .free "tuple") (by rfl)), He.free_ok X G (c.fact 28 (f := .free "enumerate") (by rfl)), He.free_ok X G (c.fact 29 (f := .free "min") (by rfl)), He.free_ok X G (c.fact 30 (f := .free "abs") (by rfl)), He.free_ok X G (c.fact 31 (f := .free "all") (by rfl)), He.free_ok X G (c.fact 32 (f := .free "any") (by rfl)), He.free_ok X G (c.fact 33 (f := .free "sorted") (by rfl)), He.free_ok X G (c.fact 34 (f := .free "sum") (by rfl))⟩
  have Y2 : BnD mg := ⟨He.free_ok X G (c.fact 36 (f := .free "set") (by rfl)), He.free_ok X G (c.fact 35 (f := .free "zip") (by rfl))⟩
  have sup : ((PySem.Challenge.rw_livestead_k43_bounds_of_definitions.prog).main.scope.names.lookup ("super" : Str)).isSome = false := by decide +kernel
  have xChg := HkX.excB_ok (P := PySem.Challenge.rw_livestead_k43_bounds_of_definitions.prog) X G (c.own 0 (by rfl))
  have tChg := HkX.chg_of xChg rfl (c.ini 0 (by rfl)) sup
  have clDefinition : Cls K (He.ga K "Definition") := He.cls_ok (c.fact 42 (f := .cls "Definition") (by rfl))
  have clDefinitions : Cls K (He.ga K "Definitions") := He.cls_ok (c.fact 48 (f := .cls "Definitions") (by rfl))
  have clJournal : Cls K (He.ga K "Journal") := He.cls_ok (c.fact 61 (f := .cls "Journal") (by rfl))
  have clWorld : Cls K (He.ga K "World") := He.cls_ok (c.fact 73 (f := .cls "World") (by rfl))
  have clImage : Cls K (He.ga K "Image") := He.cls_ok (c.fact 84 (f := .cls "Image") (by rfl))
  have ZD : DfTx K mg (He.ga K "Definitions") (He.ga K "Definition") := ⟨clDefinitions, clDefinition, He.noat_ok (c.fact 50 (f := .noat "Definitions" "known") (by rfl)), He.noat_ok (c.fact 44 (f := .noat "Definition" "base") (by rfl)), He.noat_ok (c.fact 45 (f := .noat "Definition" "slots") (by rfl)), He.noat_ok (c.fact 46 (f := .noat "Definition" "texts") (by rfl)), (strF (He.str_ok X G (c.fact 41 (f := .str "THING" "Thing") (by rfl)))), (intF (He.int_ok X G (c.fact 37 (f := .int "MOST_SLOTS" (8)) (by rfl)))), (intF (He.int_ok X G (c.fact 38 (f := .int "MOST_CLASSES" (20)) (by rfl))))⟩
  have ZJ : JnTx K mg (He.ga K "Journal") := ⟨clJournal, He.noat_ok (c.fact 63 (f := .noat "Journal" "entries") (by rfl)), He.noat_ok (c.fact 64 (f := .noat "Journal" "in_force") (by rfl)), He.noat_ok (c.fact 65 (f := .noat "Journal" "undone") (by rfl)), He.noat_ok (c.fact 66 (f := .noat "Journal" "definitions") (by rfl)), (intF (He.int_ok X G (c.fact 39 (f := .int "MOST_CHANGES" (60)) (by rfl)))), (intF (He.int_ok X G (c.fact 40 (f := .int "NO_CHANGE" (-1)) (by rfl))))⟩
  have ZW : WoTx K (He.ga K "World") (He.ga K "Image") := ⟨clWorld, clImage, He.noat_ok (c.fact 75 (f := .noat "World" "journal") (by rfl)), He.noat_ok (c.fact 76 (f := .noat "World" "things") (by rfl)), He.noat_ok (c.fact 77 (f := .noat "World" "made") (by rfl)), He.noat_ok (c.fact 78 (f := .noat "World" "calls") (by rfl)), He.noat_ok (c.fact 79 (f := .noat "World" "named") (by rfl)), He.noat_ok (c.fact 80 (f := .noat "World" "held") (by rfl)), He.noat_ok (c.fact 81 (f := .noat "World" "task") (by rfl)), He.noat_ok (c.fact 82 (f := .noat "World" "programs") (by rfl)), He.noat_ok (c.fact 86 (f := .noat "Image" "_world") (by rfl))⟩
  obtain ⟨fd_entry_of, F_entry_of⟩ : ∃ fd, Fun K "entry_of" "entry_of" s_entry_of (He.ga K "entry_of") fd := (c.def_ 0 (by rfl)).imp fun _ F => fun_of F
  have m_entry_of := He.glo_ok X G (c.fact 0 (f := .glo "entry_of") (by rfl))
  have b_entry_of := F_entry_of.binds (ps := ["change"]) fun _ _ _ _ _ _ us hl => match us, hl with | [_], _ => rfl
  obtain ⟨fd_change_of, F_change_of⟩ : ∃ fd, Fun K "change_of" "change_of" s_change_of (He.ga K "change_of") fd := (c.def_ 1 (by rfl)).imp fun _ F => fun_of F
  have m_change_of := He.glo_ok X G (c.fact 1 (f := .glo "change_of") (by rfl))
  have b_change_of := F_change_of.binds (ps := ["entry"]) fun _ _ _ _ _ _ us hl => match us, hl with | [_], _ => rfl
  obtain ⟨fd__law_state, F__law_state⟩ : ∃ fd, Fun K "_law_state" "_law_state" s_law_state (He.ga K "_law_state") fd := (c.def_ 2 (by rfl)).imp fun _ F => fun_of F
  have m__law_state := He.glo_ok X G (c.fact 2 (f := .glo "_law_state") (by rfl))
  have b__law_state := F__law_state.binds (ps := ["script"]) fun _ _ _ _ _ _ us hl => match us, hl with | [_], _ => rfl
  obtain ⟨fd__law_draw, F__law_draw⟩ : ∃ fd, Fun K "_law_draw" "_law_draw" s_law_draw (He.ga K "_law_draw") fd := (c.def_ 3 (by rfl)).imp fun _ F => fun_of F
  have m__law_draw := He.glo_ok X G (c.fact 3 (f := .glo "_law_draw") (by rfl))
  have b__law_draw := F__law_draw.binds (ps := ["state", "limit"]) fun _ _ _ _ _ _ us hl => match us, hl with | [_, _], _ => rfl
  obtain ⟨fd__law_words, F__law_words⟩ : ∃ fd, Fun K "_law_words" "_law_words" s_law_words (He.ga K "_law_words") fd := (c.def_ 4 (by rfl)).imp fun _ F => fun_of F
  have m__law_words := He.glo_ok X G (c.fact 4 (f := .glo "_law_words") (by rfl))
  have b__law_words := F__law_words.binds (ps := []) fun _ _ _ _ _ _ us hl => match us, hl with | [], _ => rfl
  obtain ⟨fd__law_run, F__law_run⟩ : ∃ fd, Fun K "_law_run" "_law_run" s_law_run (He.ga K "_law_run") fd := (c.def_ 5 (by rfl)).imp fun _ F => fun_of F
  have m__law_run := He.glo_ok X G (c.fact 5 (f := .glo "_law_run") (by rfl))
  have b__law_run := F__law_run.binds (ps := ["state", "first"]) fun _ _ _ _ _ _ us hl => match us, hl with | [_, _], _ => rfl
  obtain ⟨fd__law_name, F__law_name⟩ : ∃ fd, Fun K "_law_name" "_law_name" s_law_name (He.ga K "_law_name") fd := (c.def_ 6 (by rfl)).imp fun _ F => fun_of F
  have m__law_name := He.glo_ok X G (c.fact 6 (f := .glo "_law_name") (by rfl))
  have b__law_name := F__law_name.binds (ps := ["state"]) fun _ _ _ _ _ _ us hl => match us, hl with | [_], _ => rfl
  obtain ⟨fd__law_class, F__law_class⟩ : ∃ fd, Fun K "_law_class" "_law_class" s_law_class (He.ga K "_law_class") fd := (c.def_ 7 (by rfl)).imp fun _ F => fun_of F
  have m__law_class := He.glo_ok X G (c.fact 7 (f := .glo "_law_class") (by rfl))
  have b__law_class := F__law_class.binds (ps := ["state", "taken"]) fun _ _ _ _ _ _ us hl => match us, hl with | [_, _], _ => rfl
  obtain ⟨fd__law_made, F__law_made⟩ : ∃ fd, Fun K "_law_made" "_law_made" s_law_made (He.ga K "_law_made") fd := (c.def_ 8 (by rfl)).imp fun _ F => fun_of F
  have m__law_made := He.glo_ok X G (c.fact 8 (f := .glo "_law_made") (by rfl))
  have b__law_made := F__law_made.binds (ps := ["image", "change"]) fun _ _ _ _ _ _ us hl => match us, hl with | [_, _], _ => rfl
  obtain ⟨fd__law_of_slots, F__law_of_slots⟩ : ∃ fd, Fun K "_law_of_slots" "_law_of_slots" s_law_of_slots (He.ga K "_law_of_slots") fd := (c.def_ 9 (by rfl)).imp fun _ F => fun_of F
  have m__law_of_slots := He.glo_ok X G (c.fact 9 (f := .glo "_law_of_slots") (by rfl))
  have b__law_of_slots := F__law_of_slots.binds (ps := ["state", "image", "name", "base"]) fun _ _ _ _ _ _ us hl => match us, hl with | [_, _, _, _], _ => rfl
  obtain ⟨fd__law_of_classes, F__law_of_classes⟩ : ∃ fd, Fun K "_law_of_classes" "_law_of_classes" s_law_of_classes (He.ga K "_law_of_classes") fd := (c.def_ 10 (by rfl)).imp fun _ F => fun_of F
  have m__law_of_classes := He.glo_ok X G (c.fact 10 (f := .glo "_law_of_classes") (by rfl))
  have b__law_of_classes := F__law_of_classes.binds (ps := ["state", "image"]) fun _ _ _ _ _ _ us hl => match us, hl with | [_, _], _ => rfl
  obtain ⟨fd__law_of_changes, F__law_of_changes⟩ : ∃ fd, Fun K "_law_of_changes" "_law_of_changes" s_law_of_changes (He.ga K "_law_of_changes") fd := (c.def_ 11 (by rfl)).imp fun _ F => fun_of F
  have m__law_of_changes := He.glo_ok X G (c.fact 11 (f := .glo "_law_of_changes") (by rfl))
  have b__law_of_changes := F__law_of_changes.binds (ps := ["state", "image", "name", "base"]) fun _ _ _ _ _ _ us hl => match us, hl with | [_, _, _, _], _ => rfl
  obtain ⟨fd_law, F_law⟩ : ∃ fd, Fun K "law" "law" s_law (He.ga K "law") fd := (c.def_ 12 (by rfl)).imp fun _ F => fun_of F
  have m_law := He.glo_ok X G (c.fact 12 (f := .glo "law") (by rfl))
  have M_Definition_init := He.mkr_ok (c.fact 47 (f := .mkr "Definition") (by rfl))
  obtain ⟨fd_Definition_init, D_Definition_init⟩ : ∃ fd, Fun K "__init__" "Definition.__init__" s_Definition___init__ (He.ma K (He.ga K "Definition") "__init__") fd := (c.def_ 13 (by rfl)).imp fun _ F => fun_of F
  have B_Definition_init := D_Definition_init.binds (ps := ["self", "base", "slots"]) fun _ _ _ _ _ _ us hl => match us, hl with | [_, _, _], _ => rfl
  have M_Definitions_init := He.mkr_ok (c.fact 51 (f := .mkr "Definitions") (by rfl))
  obtain ⟨fd_Definitions_init, D_Definitions_init⟩ : ∃ fd, Fun K "__init__" "Definitions.__init__" s_Definitions___init__ (He.ma K (He.ga K "Definitions") "__init__") fd := (c.def_ 14 (by rfl)).imp fun _ F => fun_of F
  have B_Definitions_init := D_Definitions_init.binds (ps := ["self"]) fun _ _ _ _ _ _ us hl => match us, hl with | [_], _ => rfl
  have M_Definitions_line := He.meth_ok (c.fact 52 (f := .meth "Definitions" "line") (by rfl))
  obtain ⟨fd_Definitions_line, D_Definitions_line⟩ : ∃ fd, Fun K "line" "Definitions.line" s_Definitions_line (He.ma K (He.ga K "Definitions") "line") fd := (c.def_ 15 (by rfl)).imp fun _ F => fun_of F
  have B_Definitions_line := D_Definitions_line.binds (ps := ["self", "name"]) fun _ _ _ _ _ _ us hl => match us, hl with | [_, _], _ => rfl
  have M_Definitions_all_slots := He.meth_ok (c.fact 53 (f := .meth "Definitions" "all_slots") (by rfl))
  obtain ⟨fd_Definitions_all_slots, D_Definitions_all_slots⟩ : ∃ fd, Fun K "all_slots" "Definitions.all_slots" s_Definitions_all_slots (He.ma K (He.ga K "Definitions") "all_slots") fd := (c.def_ 16 (by rfl)).imp fun _ F => fun_of F
  have B_Definitions_all_slots := D_Definitions_all_slots.binds (ps := ["self", "name"]) fun _ _ _ _ _ _ us hl => match us, hl with | [_, _], _ => rfl
  have M_Definitions_has_slot := He.meth_ok (c.fact 54 (f := .meth "Definitions" "has_slot") (by rfl))
  obtain ⟨fd_Definitions_has_slot, D_Definitions_has_slot⟩ : ∃ fd, Fun K "has_slot" "Definitions.has_slot" s_Definitions_has_slot (He.ma K (He.ga K "Definitions") "has_slot") fd := (c.def_ 17 (by rfl)).imp fun _ F => fun_of F
  have B_Definitions_has_slot := D_Definitions_has_slot.binds (ps := ["self", "name", "slot"]) fun _ _ _ _ _ _ us hl => match us, hl with | [_, _, _], _ => rfl
  have M_Definitions_refuses := He.meth_ok (c.fact 55 (f := .meth "Definitions" "refuses") (by rfl))
  obtain ⟨fd_Definitions_refuses, D_Definitions_refuses⟩ : ∃ fd, Fun K "refuses" "Definitions.refuses" s_Definitions_refuses (He.ma K (He.ga K "Definitions") "refuses") fd := (c.def_ 18 (by rfl)).imp fun _ F => fun_of F
  have B_Definitions_refuses := D_Definitions_refuses.binds (ps := ["self", "entry"]) fun _ _ _ _ _ _ us hl => match us, hl with | [_, _], _ => rfl
  have M_Definitions_refuses_class := He.meth_ok (c.fact 56 (f := .meth "Definitions" "refuses_class") (by rfl))
  obtain ⟨fd_Definitions_refuses_class, D_Definitions_refuses_class⟩ : ∃ fd, Fun K "refuses_class" "Definitions.refuses_class" s_Definitions_refuses_class (He.ma K (He.ga K "Definitions") "refuses_class") fd := (c.def_ 19 (by rfl)).imp fun _ F => fun_of F
  have B_Definitions_refuses_class := D_Definitions_refuses_class.binds (ps := ["self", "name", "base", "slots"]) fun _ _ _ _ _ _ us hl => match us, hl with | [_, _, _, _], _ => rfl
  have M_Definitions_refuses_slot := He.meth_ok (c.fact 57 (f := .meth "Definitions" "refuses_slot") (by rfl))
  obtain ⟨fd_Definitions_refuses_slot, D_Definitions_refuses_slot⟩ : ∃ fd, Fun K "refuses_slot" "Definitions.refuses_slot" s_Definitions_refuses_slot (He.ma K (He.ga K "Definitions") "refuses_slot") fd := (c.def_ 20 (by rfl)).imp fun _ F => fun_of F
  have B_Definitions_refuses_slot := D_Definitions_refuses_slot.binds (ps := ["self", "name", "slot"]) fun _ _ _ _ _ _ us hl => match us, hl with | [_, _, _], _ => rfl
  have M_Definitions_has_class_below := He.meth_ok (c.fact 58 (f := .meth "Definitions" "has_class_below") (by rfl))
  obtain ⟨fd_Definitions_has_class_below, D_Definitions_has_class_below⟩ : ∃ fd, Fun K "has_class_below" "Definitions.has_class_below" s_Definitions_has_class_below (He.ma K (He.ga K "Definitions") "has_class_below") fd := (c.def_ 21 (by rfl)).imp fun _ F => fun_of F
  have B_Definitions_has_class_below := D_Definitions_has_class_below.binds (ps := ["self", "name"]) fun _ _ _ _ _ _ us hl => match us, hl with | [_, _], _ => rfl
  have M_Definitions_is_slot_below := He.meth_ok (c.fact 59 (f := .meth "Definitions" "is_slot_below") (by rfl))
  obtain ⟨fd_Definitions_is_slot_below, D_Definitions_is_slot_below⟩ : ∃ fd, Fun K "is_slot_below" "Definitions.is_slot_below" s_Definitions_is_slot_below (He.ma K (He.ga K "Definitions") "is_slot_below") fd := (c.def_ 22 (by rfl)).imp fun _ F => fun_of F
  have B_Definitions_is_slot_below := D_Definitions_is_slot_below.binds (ps := ["self", "name", "slot"]) fun _ _ _ _ _ _ us hl => match us, hl with | [_, _, _], _ => rfl
  have M_Definitions_carry_out := He.meth_ok (c.fact 60 (f := .meth "Definitions" "carry_out") (by rfl))
  obtain ⟨fd_Definitions_carry_out, D_Definitions_carry_out⟩ : ∃ fd, Fun K "carry_out" "Definitions.carry_out" s_Definitions_carry_out (He.ma K (He.ga K "Definitions") "carry_out") fd := (c.def_ 23 (by rfl)).imp fun _ F => fun_of F
  have B_Definitions_carry_out := D_Definitions_carry_out.binds (ps := ["self", "entry"]) fun _ _ _ _ _ _ us hl => match us, hl with | [_, _], _ => rfl
  have M_Journal_init := He.mkr_ok (c.fact 67 (f := .mkr "Journal") (by rfl))
  obtain ⟨fd_Journal_init, D_Journal_init⟩ : ∃ fd, Fun K "__init__" "Journal.__init__" s_Journal___init__ (He.ma K (He.ga K "Journal") "__init__") fd := (c.def_ 24 (by rfl)).imp fun _ F => fun_of F
  have B_Journal_init := D_Journal_init.binds (ps := ["self"]) fun _ _ _ _ _ _ us hl => match us, hl with | [_], _ => rfl
  have M_Journal_make := He.meth_ok (c.fact 68 (f := .meth "Journal" "make") (by rfl))
  obtain ⟨fd_Journal_make, D_Journal_make⟩ : ∃ fd, Fun K "make" "Journal.make" s_Journal_make (He.ma K (He.ga K "Journal") "make") fd := (c.def_ 25 (by rfl)).imp fun _ F => fun_of F
  have B_Journal_make := D_Journal_make.binds (ps := ["self", "change"]) fun _ _ _ _ _ _ us hl => match us, hl with | [_, _], _ => rfl
  have M_Journal_told := He.meth_ok (c.fact 69 (f := .meth "Journal" "told") (by rfl))
  obtain ⟨fd_Journal_told, D_Journal_told⟩ : ∃ fd, Fun K "told" "Journal.told" s_Journal_told (He.ma K (He.ga K "Journal") "told") fd := (c.def_ 26 (by rfl)).imp fun _ F => fun_of F
  have B_Journal_told := D_Journal_told.binds (ps := ["self"]) fun _ _ _ _ _ _ us hl => match us, hl with | [_], _ => rfl
  have M_Journal_made_of := He.meth_ok (c.fact 70 (f := .meth "Journal" "made_of") (by rfl))
  obtain ⟨fd_Journal_made_of, D_Journal_made_of⟩ : ∃ fd, Fun K "made_of" "Journal.made_of" s_Journal_made_of (He.ma K (He.ga K "Journal") "made_of") fd := (c.def_ 27 (by rfl)).imp fun _ F => fun_of F
  have B_Journal_made_of := D_Journal_made_of.binds (ps := ["self", "in_force"]) fun _ _ _ _ _ _ us hl => match us, hl with | [_, _], _ => rfl
  have M_Journal_switch := He.meth_ok (c.fact 71 (f := .meth "Journal" "switch") (by rfl))
  obtain ⟨fd_Journal_switch, D_Journal_switch⟩ : ∃ fd, Fun K "switch" "Journal.switch" s_Journal_switch (He.ma K (He.ga K "Journal") "switch") fd := (c.def_ 28 (by rfl)).imp fun _ F => fun_of F
  have B_Journal_switch := D_Journal_switch.binds (ps := ["self", "number", "flag"]) fun _ _ _ _ _ _ us hl => match us, hl with | [_, _, _], _ => rfl
  have M_Journal_undo := He.meth_ok (c.fact 72 (f := .meth "Journal" "undo") (by rfl))
  obtain ⟨fd_Journal_undo, D_Journal_undo⟩ : ∃ fd, Fun K "undo" "Journal.undo" s_Journal_undo (He.ma K (He.ga K "Journal") "undo") fd := (c.def_ 29 (by rfl)).imp fun _ F => fun_of F
  have B_Journal_undo := D_Journal_undo.binds (ps := ["self"]) fun _ _ _ _ _ _ us hl => match us, hl with | [_], _ => rfl
  have M_World_init := He.mkr_ok (c.fact 83 (f := .mkr "World") (by rfl))
  obtain ⟨fd_World_init, D_World_init⟩ : ∃ fd, Fun K "__init__" "World.__init__" s_World___init__ (He.ma K (He.ga K "World") "__init__") fd := (c.def_ 30 (by rfl)).imp fun _ F => fun_of F
  have B_World_init := D_World_init.binds (ps := ["self"]) fun _ _ _ _ _ _ us hl => match us, hl with | [_], _ => rfl
  have M_Image_init := He.mkr_ok (c.fact 87 (f := .mkr "Image") (by rfl))
  obtain ⟨fd_Image_init, D_Image_init⟩ : ∃ fd, Fun K "__init__" "Image.__init__" s_Image___init__ (He.ma K (He.ga K "Image") "__init__") fd := (c.def_ 31 (by rfl)).imp fun _ F => fun_of F
  have B_Image_init := D_Image_init.binds (ps := ["self"]) fun _ _ _ _ _ _ us hl => match us, hl with | [_], _ => rfl
  have M_Image_make := He.meth_ok (c.fact 88 (f := .meth "Image" "make") (by rfl))
  obtain ⟨fd_Image_make, D_Image_make⟩ : ∃ fd, Fun K "make" "Image.make" s_Image_make (He.ma K (He.ga K "Image") "make") fd := (c.def_ 32 (by rfl)).imp fun _ F => fun_of F
  have B_Image_make := D_Image_make.binds (ps := ["self", "change"]) fun _ _ _ _ _ _ us hl => match us, hl with | [_, _], _ => rfl
  have M_Image_undo := He.meth_ok (c.fact 89 (f := .meth "Image" "undo") (by rfl))
  obtain ⟨fd_Image_undo, D_Image_undo⟩ : ∃ fd, Fun K "undo" "Image.undo" s_Image_undo (He.ma K (He.ga K "Image") "undo") fd := (c.def_ 33 (by rfl)).imp fun _ F => fun_of F
  have B_Image_undo := D_Image_undo.binds (ps := ["self"]) fun _ _ _ _ _ _ us hl => match us, hl with | [_], _ => rfl
  have M_Image_changes := He.meth_ok (c.fact 90 (f := .meth "Image" "changes") (by rfl))
  obtain ⟨fd_Image_changes, D_Image_changes⟩ : ∃ fd, Fun K "changes" "Image.changes" s_Image_changes (He.ma K (He.ga K "Image") "changes") fd := (c.def_ 34 (by rfl)).imp fun _ F => fun_of F
  have B_Image_changes := D_Image_changes.binds (ps := ["self"]) fun _ _ _ _ _ _ us hl => match us, hl with | [_], _ => rfl
  have M_Image_classes := He.meth_ok (c.fact 91 (f := .meth "Image" "classes") (by rfl))
  obtain ⟨fd_Image_classes, D_Image_classes⟩ : ∃ fd, Fun K "classes" "Image.classes" s_Image_classes (He.ma K (He.ga K "Image") "classes") fd := (c.def_ 35 (by rfl)).imp fun _ F => fun_of F
  have B_Image_classes := D_Image_classes.binds (ps := ["self"]) fun _ _ _ _ _ _ us hl => match us, hl with | [_], _ => rfl
  have M_Image_slots_of := He.meth_ok (c.fact 92 (f := .meth "Image" "slots_of") (by rfl))
  obtain ⟨fd_Image_slots_of, D_Image_slots_of⟩ : ∃ fd, Fun K "slots_of" "Image.slots_of" s_Image_slots_of (He.ma K (He.ga K "Image") "slots_of") fd := (c.def_ 36 (by rfl)).imp fun _ F => fun_of F
  have B_Image_slots_of := D_Image_slots_of.binds (ps := ["self", "name"]) fun _ _ _ _ _ _ us hl => match us, hl with | [_, _], _ => rfl
  have M_Image_known := He.meth_ok (c.fact 93 (f := .meth "Image" "_known") (by rfl))
  obtain ⟨fd_Image_known, D_Image_known⟩ : ∃ fd, Fun K "_known" "Image._known" s_Image__known (He.ma K (He.ga K "Image") "_known") fd := (c.def_ 37 (by rfl)).imp fun _ F => fun_of F
  have B_Image_known := D_Image_known.binds (ps := ["self"]) fun _ _ _ _ _ _ us hl => match us, hl with | [_], _ => rfl
  have bl := F_law.binds (ps := ["script"]) fun _ _ _ _ _ _ us hl => match us, hl with | [_], _ => rfl
  refine ⟨fd_law, fun s v => lawB F_law rfl s v, fun base _ _ => ?_⟩
  have centry_of : Cal (PySem.Challenge.rw_livestead_k43_bounds_of_definitions.prog) w K mg base 1 "entry_of" (spEntOf K NoM) [] := ⟨(He.ga K "entry_of"), _, _, _, ok_entry_of F_entry_of Y, m_entry_of, F_entry_of.kp, b_entry_of, .nil⟩
  have cchange_of : Cal (PySem.Challenge.rw_livestead_k43_bounds_of_definitions.prog) w K mg base 1 "change_of" (spChgOf K) [] := ⟨(He.ga K "change_of"), _, _, _, ok_change_of F_change_of Y, m_change_of, F_change_of.kp, b_change_of, .nil⟩
  have hchange_of : CalH (PySem.Challenge.rw_livestead_k43_bounds_of_definitions.prog) w K mg base 1 "change_of" (spChgOf K) := ⟨(He.ga K "change_of"), _, _, ok_change_ofH F_change_of Y, m_change_of, F_change_of.kp, b_change_of⟩
  have c_Definition : Mak (PySem.Challenge.rw_livestead_k43_bounds_of_definitions.prog) w K mg base 1 "Definition" (He.ga K "Definition") (spDefI K (He.ga K "Definition")) [] := ⟨_, _, _, _, M_Definition_init, ok_defI D_Definition_init Y ZD, He.glo_ok X G (c.fact 13 (f := .glo "Definition") (by rfl)), B_Definition_init, .nil⟩
  have c_Definitions : Mak (PySem.Challenge.rw_livestead_k43_bounds_of_definitions.prog) w K mg base 3 "Definitions" (He.ga K "Definitions") (spDfsI K (He.ga K "Definitions") (He.ga K "Definition")) [] := ⟨_, _, _, _, M_Definitions_init, ok_dfsI D_Definitions_init Y ZD c_Definition, He.glo_ok X G (c.fact 14 (f := .glo "Definitions") (by rfl)), B_Definitions_init, .nil⟩
  have m_line : Met (PySem.Challenge.rw_livestead_k43_bounds_of_definitions.prog) w K mg base 1 (He.ga K "Definitions") "line" (spLine K (He.ga K "Definitions") (He.ga K "Definition")) [] := ⟨_, _, _, _, clDefinitions, M_Definitions_line, ok_line D_Definitions_line Y ZD, B_Definitions_line, .nil⟩
  have m_all_slots : Met (PySem.Challenge.rw_livestead_k43_bounds_of_definitions.prog) w K mg base 2 (He.ga K "Definitions") "all_slots" (spAllS K (He.ga K "Definitions") (He.ga K "Definition")) [] := ⟨_, _, _, _, clDefinitions, M_Definitions_all_slots, ok_all_slots D_Definitions_all_slots Y ZD m_line, B_Definitions_all_slots, .nil⟩
  have m_has_slot : Met (PySem.Challenge.rw_livestead_k43_bounds_of_definitions.prog) w K mg base 3 (He.ga K "Definitions") "has_slot" (spHasS K (He.ga K "Definitions") (He.ga K "Definition")) [] := ⟨_, _, _, _, clDefinitions, M_Definitions_has_slot, ok_has_slot D_Definitions_has_slot Y ZD m_all_slots, B_Definitions_has_slot, .nil⟩
  have m_has_class_below : Met (PySem.Challenge.rw_livestead_k43_bounds_of_definitions.prog) w K mg base 1 (He.ga K "Definitions") "has_class_below" (spBelC K (He.ga K "Definitions") (He.ga K "Definition")) [] := ⟨_, _, _, _, clDefinitions, M_Definitions_has_class_below, ok_class_below D_Definitions_has_class_below Y ZD, B_Definitions_has_class_below, .nil⟩
  have m_is_slot_below : Met (PySem.Challenge.rw_livestead_k43_bounds_of_definitions.prog) w K mg base 2 (He.ga K "Definitions") "is_slot_below" (spBelS K (He.ga K "Definitions") (He.ga K "Definition")) [] := ⟨_, _, _, _, clDefinitions, M_Definitions_is_slot_below, ok_slot_below D_Definitions_is_slot_below Y ZD m_line, B_Definitions_is_slot_below, .nil⟩
  have m_refuses_class : Met (PySem.Challenge.rw_livestead_k43_bounds_of_definitions.prog) w K mg base 4 (He.ga K "Definitions") "refuses_class" (spRefC K (He.ga K "Definitions") (He.ga K "Definition")) [] := ⟨_, _, _, _, clDefinitions, M_Definitions_refuses_class, ok_refuses_class D_Definitions_refuses_class Y Y2 ZD m_has_slot, B_Definitions_refuses_class, .nil⟩
  have m_refuses_slot : Met (PySem.Challenge.rw_livestead_k43_bounds_of_definitions.prog) w K mg base 4 (He.ga K "Definitions") "refuses_slot" (spRefS K (He.ga K "Definitions") (He.ga K "Definition")) [] := ⟨_, _, _, _, clDefinitions, M_Definitions_refuses_slot, ok_refuses_slot D_Definitions_refuses_slot Y ZD m_has_slot m_is_slot_below, B_Definitions_refuses_slot, .nil⟩
  have m_refuses : Met (PySem.Challenge.rw_livestead_k43_bounds_of_definitions.prog) w K mg base 5 (He.ga K "Definitions") "refuses" (spRefu K (He.ga K "Definitions") (He.ga K "Definition")) [] := ⟨_, _, _, _, clDefinitions, M_Definitions_refuses, ok_refuses D_Definitions_refuses Y ZD m_refuses_class m_refuses_slot m_has_class_below, B_Definitions_refuses, .nil⟩
  have m_carry_out : Met (PySem.Challenge.rw_livestead_k43_bounds_of_definitions.prog) w K mg base 3 (He.ga K "Definitions") "carry_out" (spCarr K (He.ga K "Definitions") (He.ga K "Definition")) [] := ⟨_, _, _, _, clDefinitions, M_Definitions_carry_out, ok_carry_out D_Definitions_carry_out Y ZD c_Definition, B_Definitions_carry_out, .nil⟩
  have c_Journal : Mak (PySem.Challenge.rw_livestead_k43_bounds_of_definitions.prog) w K mg base 5 "Journal" (He.ga K "Journal") (spJnI K (He.ga K "Journal") (He.ga K "Definitions") (He.ga K "Definition")) [] := ⟨_, _, _, _, M_Journal_init, ok_journalI D_Journal_init Y ZJ c_Definitions, He.glo_ok X G (c.fact 15 (f := .glo "Journal") (by rfl)), B_Journal_init, .nil⟩
  have m_told : Met (PySem.Challenge.rw_livestead_k43_bounds_of_definitions.prog) w K mg base 2 (He.ga K "Journal") "told" (spTold K (He.ga K "Journal") (He.ga K "Definitions") (He.ga K "Definition")) [] := ⟨_, _, _, _, clJournal, M_Journal_told, ok_told D_Journal_told Y Y2 ZJ cchange_of, B_Journal_told, .nil⟩
  have h_told : MetH (PySem.Challenge.rw_livestead_k43_bounds_of_definitions.prog) w K mg base 2 (He.ga K "Journal") "told" (spTold K (He.ga K "Journal") (He.ga K "Definitions") (He.ga K "Definition")) := ⟨_, _, _, clJournal, M_Journal_told, ok_toldH D_Journal_told Y Y2 ZJ hchange_of, B_Journal_told⟩
  have m_made_of : MetX (PySem.Challenge.rw_livestead_k43_bounds_of_definitions.prog) w K mg base 6 (He.ga K "Journal") "made_of" (spMade K (He.ga K "Journal") (He.ga K "Definitions") (He.ga K "Definition") (He.ga K "ChangeRefused")) [] := ⟨_, _, _, _, clJournal, M_Journal_made_of, ok_made_of D_Journal_made_of Y ZJ ZD tChg c_Definitions m_refuses m_carry_out, B_Journal_made_of, .nil⟩
  have m_switch : MetX (PySem.Challenge.rw_livestead_k43_bounds_of_definitions.prog) w K mg base 7 (He.ga K "Journal") "switch" (spSwit K (He.ga K "Journal") (He.ga K "Definitions") (He.ga K "Definition") (He.ga K "ChangeRefused")) [] := ⟨_, _, _, _, clJournal, M_Journal_switch, ok_switch D_Journal_switch Y ZJ m_made_of, B_Journal_switch, .nil⟩
  have m_jundo : MetX (PySem.Challenge.rw_livestead_k43_bounds_of_definitions.prog) w K mg base 8 (He.ga K "Journal") "undo" (spUndo K (He.ga K "Journal") (He.ga K "Definitions") (He.ga K "Definition") (He.ga K "ChangeRefused")) [] := ⟨_, _, _, _, clJournal, M_Journal_undo, ok_undo D_Journal_undo Y ZJ tChg m_switch, B_Journal_undo, .nil⟩
  have m_jmake : MetX (PySem.Challenge.rw_livestead_k43_bounds_of_definitions.prog) w K mg base 7 (He.ga K "Journal") "make" (spJMak K (He.ga K "Journal") (He.ga K "Definitions") (He.ga K "Definition") (He.ga K "ChangeRefused") NoM) [] := ⟨_, _, _, _, clJournal, M_Journal_make, ok_make D_Journal_make Y ZJ tChg centry_of m_refuses m_carry_out, B_Journal_make, .nil⟩
  have c_World : Mak (PySem.Challenge.rw_livestead_k43_bounds_of_definitions.prog) w K mg base 7 "World" (He.ga K "World") (spWorI K (He.ga K "World") (He.ga K "Journal") (He.ga K "Definitions") (He.ga K "Definition")) [] := ⟨_, _, _, _, M_World_init, ok_worldI D_World_init Y ZW c_Journal, He.glo_ok X G (c.fact 16 (f := .glo "World") (by rfl)), B_World_init, .nil⟩
  have c_Image : Mak (PySem.Challenge.rw_livestead_k43_bounds_of_definitions.prog) w K mg base 9 "Image" (He.ga K "Image") (spImI K (He.ga K "Image") (He.ga K "World") (He.ga K "Journal") (He.ga K "Definitions") (He.ga K "Definition")) [] := ⟨_, _, _, _, M_Image_init, ok_imageI D_Image_init Y ZW c_World, He.glo_ok X G (c.fact 17 (f := .glo "Image") (by rfl)), B_Image_init, .nil⟩
  have m__known : Met (PySem.Challenge.rw_livestead_k43_bounds_of_definitions.prog) w K mg base 1 (He.ga K "Image") "_known" (spKnown K (He.ga K "Image") (He.ga K "World") (He.ga K "Journal") (He.ga K "Definitions") (He.ga K "Definition")) [] := ⟨_, _, _, _, clImage, M_Image_known, ok_known D_Image_known Y ZW ZJ ZD, B_Image_known, .nil⟩
  have m_imake : MetX (PySem.Challenge.rw_livestead_k43_bounds_of_definitions.prog) w K mg base 8 (He.ga K "Image") "make" (spIMak K (He.ga K "Image") (He.ga K "World") (He.ga K "Journal") (He.ga K "Definitions") (He.ga K "Definition") (He.ga K "ChangeRefused") NoM) [] := ⟨_, _, _, _, clImage, M_Image_make, ok_imake D_Image_make Y ZW m_jmake, B_Image_make, .nil⟩
  have m_iundo : MetX (PySem.Challenge.rw_livestead_k43_bounds_of_definitions.prog) w K mg base 9 (He.ga K "Image") "undo" (spIUnd K (He.ga K "Image") (He.ga K "World") (He.ga K "Journal") (He.ga K "Definitions") (He.ga K "Definition") (He.ga K "ChangeRefused")) [] := ⟨_, _, _, _, clImage, M_Image_undo, ok_iundo D_Image_undo Y ZW m_jundo, B_Image_undo, .nil⟩
  have m_changes : Met (PySem.Challenge.rw_livestead_k43_bounds_of_definitions.prog) w K mg base 3 (He.ga K "Image") "changes" (spIChg K (He.ga K "Image") (He.ga K "World") (He.ga K "Journal") (He.ga K "Definitions") (He.ga K "Definition")) [] := ⟨_, _, _, _, clImage, M_Image_changes, ok_changes D_Image_changes Y ZW m_told, B_Image_changes, .nil⟩
  have h_changes : MetH (PySem.Challenge.rw_livestead_k43_bounds_of_definitions.prog) w K mg base 3 (He.ga K "Image") "changes" (spIChg K (He.ga K "Image") (He.ga K "World") (He.ga K "Journal") (He.ga K "Definitions") (He.ga K "Definition")) := ⟨_, _, _, clImage, M_Image_changes, ok_changesH D_Image_changes Y ZW h_told, B_Image_changes⟩
  have m_classes : Met (PySem.Challenge.rw_livestead_k43_bounds_of_definitions.prog) w K mg base 2 (He.ga K "Image") "classes" (spICls K (He.ga K "Image") (He.ga K "World") (He.ga K "Journal") (He.ga K "Definitions") (He.ga K "Definition")) [] := ⟨_, _, _, _, clImage, M_Image_classes, ok_classes D_Image_classes Y ZW m__known, B_Image_classes, .nil⟩
  have m_slots_of : Met (PySem.Challenge.rw_livestead_k43_bounds_of_definitions.prog) w K mg base 3 (He.ga K "Image") "slots_of" (spISlo K (He.ga K "Image") (He.ga K "World") (He.ga K "Journal") (He.ga K "Definitions") (He.ga K "Definition")) [] := ⟨_, _, _, _, clImage, M_Image_slots_of, ok_slots_of D_Image_slots_of Y ZW ZJ m__known m_all_slots, B_Image_slots_of, .nil⟩
  have c_law_state : Cal (PySem.Challenge.rw_livestead_k43_bounds_of_definitions.prog) w K mg base 1 "_law_state" (spState K) [] := ⟨(He.ga K "_law_state"), _, _, _, ok_law_state F__law_state Y, m__law_state, F__law_state.kp, b__law_state, .nil⟩
  have c_law_draw : Cal (PySem.Challenge.rw_livestead_k43_bounds_of_definitions.prog) w K mg base 1 "_law_draw" spDraw [] := ⟨(He.ga K "_law_draw"), _, _, _, ok_law_draw F__law_draw Y, m__law_draw, F__law_draw.kp, b__law_draw, .nil⟩
  have c_law_words : Cal (PySem.Challenge.rw_livestead_k43_bounds_of_definitions.prog) w K mg base 1 "_law_words" spWords [] := ⟨(He.ga K "_law_words"), _, _, _, ok_law_words F__law_words, m__law_words, F__law_words.kp, b__law_words, .nil⟩
  have c_law_run : Cal (PySem.Challenge.rw_livestead_k43_bounds_of_definitions.prog) w K mg base 2 "_law_run" spRun [] := ⟨(He.ga K "_law_run"), _, _, _, ok_law_run F__law_run Y c_law_draw, m__law_run, F__law_run.kp, b__law_run, .nil⟩
  have c_law_name : Cal (PySem.Challenge.rw_livestead_k43_bounds_of_definitions.prog) w K mg base 3 "_law_name" (spTx IsName) [] := ⟨(He.ga K "_law_name"), _, _, _, ok_law_name F__law_name c_law_run c_law_words, m__law_name, F__law_name.kp, b__law_name, .nil⟩
  have c_law_class : Cal (PySem.Challenge.rw_livestead_k43_bounds_of_definitions.prog) w K mg base 3 "_law_class" (spCla K) [] := ⟨(He.ga K "_law_class"), _, _, _, ok_law_class F__law_class Y c_law_run, m__law_class, F__law_class.kp, b__law_class, .nil⟩
  have c_law_made : Cal (PySem.Challenge.rw_livestead_k43_bounds_of_definitions.prog) w K mg base 9 "_law_made" (spLMad K (He.ga K "Image") (He.ga K "World") (He.ga K "Journal") (He.ga K "Definitions") (He.ga K "Definition")) [] := ⟨(He.ga K "_law_made"), _, _, _, ok_law_made F__law_made Y tChg m_imake m_changes h_changes, m__law_made, F__law_made.kp, b__law_made, .nil⟩
  have c_law_of_slots : Cal (PySem.Challenge.rw_livestead_k43_bounds_of_definitions.prog) w K mg base 10 "_law_of_slots" (spOfS K (He.ga K "Image") (He.ga K "World") (He.ga K "Journal") (He.ga K "Definitions") (He.ga K "Definition")) [] := ⟨(He.ga K "_law_of_slots"), _, _, _, ok_law_of_slots F__law_of_slots Y c_law_draw c_law_class c_law_made m_classes m_slots_of, m__law_of_slots, F__law_of_slots.kp, b__law_of_slots, .nil⟩
  have c_law_of_classes : Cal (PySem.Challenge.rw_livestead_k43_bounds_of_definitions.prog) w K mg base 10 "_law_of_classes" (spOfC K (He.ga K "Image") (He.ga K "World") (He.ga K "Journal") (He.ga K "Definitions") (He.ga K "Definition")) [] := ⟨(He.ga K "_law_of_classes"), _, _, _, ok_law_of_classes F__law_of_classes Y c_law_draw c_law_class c_law_made m_classes, m__law_of_classes, F__law_of_classes.kp, b__law_of_classes, .nil⟩
  have c_law_of_changes : Cal (PySem.Challenge.rw_livestead_k43_bounds_of_definitions.prog) w K mg base 10 "_law_of_changes" (spOfG K (He.ga K "Image") (He.ga K "World") (He.ga K "Journal") (He.ga K "Definitions") (He.ga K "Definition")) [] := ⟨(He.ga K "_law_of_changes"), _, _, _, ok_law_of_changes F__law_of_changes Y c_law_draw c_law_made m_changes m_iundo, m__law_of_changes, F__law_of_changes.kp, b__law_of_changes, .nil⟩
  exact ok_law F_law Y c_law_state c_law_draw c_law_class c_law_name c_Image c_law_of_slots c_law_of_classes c_law_of_changes
end
end Lv
open PySem PySem.W PySem.Calls PyProof.Rows
theorem PySem.Challenge.cw_livestead_k43_bounds_of_definitions_holds : PySem.Challenge.rw_livestead_k43_bounds_of_definitions.Holds := by
  exact HdU.early Lv.facts
#print axioms PySem.Challenge.cw_livestead_k43_bounds_of_definitions_holds
