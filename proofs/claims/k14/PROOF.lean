import PyProof.Rows.All
import Wide.All
import OpenK.AllK
import Wide.FinOn
import HandS.ForMost
import HandS.StrMore
import HandS.IsInst
import HandS.Steps
import HandS.Evl
import HandS.Codes
import HandS.ForExc
import KE.KExcSuper
import HandS.Strs
import HandS.List
import HandS.Iter
import KE.GoesEnum
import KE.KExcIs
import HandS.ExcIs
import HandS.HeadHook3
import HandS.More
import HandS.Dict
import HandS.Defaults
import HandS.TupAny
import HandS.FStr
import HandS.Star
import HandS.TryOnly
import HandS.WordsExc
import PySem.Challenge.RW_livestead_k14_whole_fewest_brackets
set_option Elab.async false
set_option linter.all false
set_option maxRecDepth 100000
set_option maxHeartbeats 2000000
class Wk0 (G : Prop) (G2 : outParam Prop) : Prop where go : G2 → G
class Wk1 (G : Prop) (G2 : outParam Prop) : Prop where go : G2 → G
/-! Readings step by step: one lemma a construct, texts as lists of codes. -/
namespace Lv
open PySem PySem.Spec PyProof.Rows L2

abbrev T (cs : List Nat) : V := .str ⟨cs.toArray⟩
theorem T_eta (x : Str) : V.str x = T x.cps.toList := by
  show V.str x = V.str ⟨x.cps.toList.toArray⟩
  simp
theorem T_inj {a b : List Nat} (h : T a = T b) : a = b := by
  have h1 : (⟨a.toArray⟩ : Str) = ⟨b.toArray⟩ := V.str.inj h
  have h2 : a.toArray = b.toArray := Str.mk.inj h1
  exact congrArg Array.toList h2
theorem len_T (a : List Nat) : (⟨a.toArray⟩ : Str).length = a.length := by
  show a.toArray.size = a.length
  simp

def NewL (xs : List V) (H : Hp) (Q : VK) : Prop := xs.length ≤ sizeLine ∧ ∀ p, H p = none → Q (.ref p) (upd H p (.lst xs))
def NewT (xs : List V) (H : Hp) (Q : VK) : Prop := xs.length ≤ sizeLine ∧ ∀ p, H p = none → Q (.ref p) (upd H p (.tup xs))
section
variable {σ : L2.St} {H : Hp} {Q : VK} {D : Ends} {i : Nat} {v x y : V} {ta tb te : TE} {t u : TS} {g : TG} {r : R2} {K : PySem.W.Frag}
theorem w_var (h : σ[i]? = some (some v)) (k : Q v H) : tVar i σ H Q := ⟨v, h, k⟩
theorem w_c (k : Q v H) : tC v σ H Q := k
instance  : Wk0 (tC v σ H Q) (Q v H) := ⟨w_c⟩
theorem w_cT {cs : List Nat} (k : Q (T cs) H) : tC (T cs) σ H Q := k
instance (priority := 2000) {cs : List Nat} : Wk0 (tC (T cs) σ H Q) (Q (T cs) H) := ⟨w_cT⟩
theorem ex_int {a : Int} {G : Int → Prop} (k : G a) : ∃ i, V.int a = V.int i ∧ G i := ⟨a, rfl, k⟩
instance {a : Int} {G : Int → Prop} : Wk0 (∃ i, V.int a = V.int i ∧ G i) (G a) := ⟨ex_int⟩
theorem ex_bl {a : Bool} {G : Bool → Prop} (k : G a) : ∃ i, V.bl a = V.bl i ∧ G i := ⟨a, rfl, k⟩
instance {a : Bool} {G : Bool → Prop} : Wk0 (∃ i, V.bl a = V.bl i ∧ G i) (G a) := ⟨ex_bl⟩
theorem w_str {x : Str} (k : Q (T x.cps.toList) H) : tC (.str x) σ H Q := by
  show Q (.str x) H
  rw [T_eta]
  exact k
instance (priority := 2000) {x : Str} : Wk0 (tC (.str x) σ H Q) (Q (T x.cps.toList) H) := ⟨w_str⟩
theorem w_seq (k : t { D with nx := u D } σ H) : tSeq t u D σ H := k
instance  : Wk0 (tSeq t u D σ H) (t { D with nx := u D } σ H) := ⟨w_seq⟩
theorem w_next (k : D.nx σ H) : tNext D σ H := k
instance  : Wk0 (tNext D σ H) (D.nx σ H) := ⟨w_next⟩
theorem w_asg (k : te σ H fun x H1 => g x σ H1 D.nx) : tAsg te g D σ H := k
instance  : Wk0 (tAsg te g D σ H) (te σ H fun x H1 => g x σ H1 D.nx) := ⟨w_asg⟩
theorem w_gname {G : L2.St → Hp → Prop} (k : G (σ.set i (some v)) H) : gName i v σ H G := k
instance {G : L2.St → Hp → Prop} : Wk0 (gName i v σ H G) (G (σ.set i (some v)) H) := ⟨w_gname⟩
theorem w_drop (k : te σ H fun _ H1 => D.nx σ H1) : tDrop te D σ H := k
instance  : Wk0 (tDrop te D σ H) (te σ H fun _ H1 => D.nx σ H1) := ⟨w_drop⟩
theorem w_ret (k : te σ H D.rt) : tRet te D σ H := k
instance  : Wk0 (tRet te D σ H) (te σ H D.rt) := ⟨w_ret⟩
theorem w_retN (k : D.rt .non H) : tRetN D σ H := k
instance  : Wk0 (tRetN D σ H) (D.rt .non H) := ⟨w_retN⟩
theorem w_op (k : ta σ H fun x H1 => tb σ H1 fun y H2 => r x y H2 Q) : tOp r ta tb σ H Q := k
instance  : Wk0 (tOp r ta tb σ H Q) (ta σ H fun x H1 => tb σ H1 fun y H2 => r x y H2 Q) := ⟨w_op⟩
theorem w_un {r : V → Hp → VK → Prop} (k : ta σ H fun x H1 => r x H1 Q) : tUn r ta σ H Q := k
instance {r : V → Hp → VK → Prop} : Wk0 (tUn r ta σ H Q) (ta σ H fun x H1 => r x H1 Q) := ⟨w_un⟩
theorem w_i0 {f : Int → Int → V} {a b : Int} (k : Q (f a b) H) : rI0 f (.int a) (.int b) H Q := ⟨a, b, rfl, rfl, k⟩
instance {f : Int → Int → V} {a b : Int} : Wk0 (rI0 f (.int a) (.int b) H Q) (Q (f a b) H) := ⟨w_i0⟩
theorem w_i {C : Int → Int → Prop} {f : Int → Int → V} {a b : Int} (c : C a b) (k : Q (f a b) H) : rI C f (.int a) (.int b) H Q := ⟨a, b, rfl, rfl, c, k⟩
theorem w_mulR {f : Int → Int → V} {a b : Int} (c : -(2 ^ 64) < b ∧ b < 2 ^ 64) (k : Q (f a b) H) : rI CMul f (.int a) (.int b) H Q := ⟨a, b, rfl, rfl, .inr c, k⟩
theorem w_ifS {c : TT} (k : c σ H fun b H1 => if b = true then t D σ H1 else u D σ H1) : tIfS c t u D σ H := k
instance {c : TT} : Wk0 (tIfS c t u D σ H) (c σ H fun b H1 => if b = true then t D σ H1 else u D σ H1) := ⟨w_ifS⟩
theorem w_test {G : Bool → Hp → Prop} (k : te σ H fun x H' => ∃ b, x = .bl b ∧ G b H') : tTest te σ H G := k
instance {G : Bool → Hp → Prop} : Wk0 (tTest te σ H G) (te σ H fun x H' => ∃ b, x = .bl b ∧ G b H') := ⟨w_test⟩
theorem w_tB {G : Bool → Hp → Prop} (k : te σ H fun x H' => ∃ b, x = .bl b ∧ G b H') : tB te σ H G := k
instance {G : Bool → Hp → Prop} : Wk0 (tB te σ H G) (te σ H fun x H' => ∃ b, x = .bl b ∧ G b H') := ⟨w_tB⟩
theorem w_and {t u : TT} {G : Bool → Hp → Prop} (k : t σ H fun c H1 => if c = true then u σ H1 G else G false H1) : tAnd t u σ H G := k
instance {t u : TT} {G : Bool → Hp → Prop} : Wk0 (tAnd t u σ H G) (t σ H fun c H1 => if c = true then u σ H1 G else G false H1) := ⟨w_and⟩
theorem w_or {t u : TT} {G : Bool → Hp → Prop} (k : t σ H fun c H1 => if c = true then G true H1 else u σ H1 G) : tOr t u σ H G := k
instance {t u : TT} {G : Bool → Hp → Prop} : Wk0 (tOr t u σ H G) (t σ H fun c H1 => if c = true then G true H1 else u σ H1 G) := ⟨w_or⟩
theorem w_not {t : TT} {G : Bool → Hp → Prop} (k : t σ H fun c H1 => G (!c) H1) : tNot t σ H G := k
instance {t : TT} {G : Bool → Hp → Prop} : Wk0 (tNot t σ H G) (t σ H fun c H1 => G (!c) H1) := ⟨w_not⟩
theorem w_andV (k : ta σ H fun x H1 => ∃ c, x = .bl c ∧ if c = true then tb σ H1 Q else Q (.bl false) H1) : tAndV ta tb σ H Q := k
instance  : Wk0 (tAndV ta tb σ H Q) (ta σ H fun x H1 => ∃ c, x = .bl c ∧ if c = true then tb σ H1 Q else Q (.bl false) H1) := ⟨w_andV⟩
theorem w_orV (k : ta σ H fun x H1 => ∃ c, x = .bl c ∧ if c = true then Q (.bl true) H1 else tb σ H1 Q) : tOrV ta tb σ H Q := k
instance  : Wk0 (tOrV ta tb σ H Q) (ta σ H fun x H1 => ∃ c, x = .bl c ∧ if c = true then Q (.bl true) H1 else tb σ H1 Q) := ⟨w_orV⟩
theorem w_notV (k : ta σ H fun x H1 => ∃ c, x = .bl c ∧ Q (.bl (!c)) H1) : tNotV ta σ H Q := k
instance  : Wk0 (tNotV ta σ H Q) (ta σ H fun x H1 => ∃ c, x = .bl c ∧ Q (.bl (!c)) H1) := ⟨w_notV⟩
theorem w_eq (s : scal x y = true) (k : Q (.bl (decide (x = y))) H) : rEq x y H Q := ⟨s, k⟩
theorem w_ne (s : scal x y = true) (k : Q (.bl (!decide (x = y))) H) : rNe x y H Q := ⟨s, k⟩
theorem w_call {sp : Sp} {dvs : List V} {E : XK} {t : TA} (k : t σ H fun vs H1 => sp (vs ++ dvs) H1 Q E) : tCall sp dvs E t σ H Q := k
instance {sp : Sp} {dvs : List V} {E : XK} {t : TA} : Wk0 (tCall sp dvs E t σ H Q) (t σ H fun vs H1 => sp (vs ++ dvs) H1 Q E) := ⟨w_call⟩
theorem w_cb {r : List V → Hp → VK → Prop} {t : TA} (k : t σ H fun vs H1 => r vs H1 Q) : tCB r t σ H Q := k
instance {r : List V → Hp → VK → Prop} {t : TA} : Wk0 (tCB r t σ H Q) (t σ H fun vs H1 => r vs H1 Q) := ⟨w_cb⟩
theorem w_nil {G : List V → Hp → Prop} (k : G [] H) : tNil σ H G := k
instance {G : List V → Hp → Prop} : Wk0 (tNil σ H G) (G [] H) := ⟨w_nil⟩
theorem w_cons {tr : TA} {G : List V → Hp → Prop} (k : ta σ H fun x H1 => tr σ H1 fun xs H2 => G (x :: xs) H2) : tCons ta tr σ H G := k
instance {tr : TA} {G : List V → Hp → Prop} : Wk0 (tCons ta tr σ H G) (ta σ H fun x H1 => tr σ H1 fun xs H2 => G (x :: xs) H2) := ⟨w_cons⟩
theorem w_tup {t : TA} (k : t σ H fun xs H1 => NewT xs H1 Q) : tTup t σ H Q := k
instance {t : TA} : Wk0 (tTup t σ H Q) (t σ H fun xs H1 => NewT xs H1 Q) := ⟨w_tup⟩
theorem w_lst {t : TA} (k : t σ H fun xs H1 => NewL xs H1 Q) : tLst t σ H Q := k
instance {t : TA} : Wk0 (tLst t σ H Q) (t σ H fun xs H1 => NewL xs H1 Q) := ⟨w_lst⟩
theorem w_sl {r : V → Option Int → Option Int → Hp → VK → Prop} {tl th : TO} (k : te σ H fun x H1 => tl σ H1 fun l H2 => th σ H2 fun u H3 => r x l u H3 Q) : tSl r te tl th σ H Q := k
instance {r : V → Option Int → Option Int → Hp → VK → Prop} {tl th : TO} : Wk0 (tSl r te tl th σ H Q) (te σ H fun x H1 => tl σ H1 fun l H2 => th σ H2 fun u H3 => r x l u H3 Q) := ⟨w_sl⟩
theorem w_part {G : Option Int → Hp → Prop} (k : te σ H fun x H1 => ∃ i, x = .int i ∧ G (some i) H1) : tPart te σ H G := k
instance {G : Option Int → Hp → Prop} : Wk0 (tPart te σ H G) (te σ H fun x H1 => ∃ i, x = .int i ∧ G (some i) H1) := ⟨w_part⟩
theorem w_nopart {G : Option Int → Hp → Prop} (k : G none H) : tNoPart σ H G := k
instance {G : Option Int → Hp → Prop} : Wk0 (tNoPart σ H G) (G none H) := ⟨w_nopart⟩
theorem w_gsub {to ti : TE} {t : TSet} {G : L2.St → Hp → Prop} (k : to σ H fun o H1 => ti σ H1 fun i H2 => t o i v H2 fun H3 => G σ H3) : gSub to ti t v σ H G := k
instance {to ti : TE} {t : TSet} {G : L2.St → Hp → Prop} : Wk0 (gSub to ti t v σ H G) (to σ H fun o H1 => ti σ H1 fun i H2 => t o i v H2 fun H3 => G σ H3) := ⟨w_gsub⟩
theorem w_bm {Ty : String} {r : V → List V → Hp → VK → Prop} {to : TE} {t : TA} (k : to σ H fun x H1 => tyV K Ty x H1 ∧ t σ H1 fun xs H2 => r x xs H2 Q) : tBM K Ty r to t σ H Q := k
instance {Ty : String} {r : V → List V → Hp → VK → Prop} {to : TE} {t : TA} : Wk0 (tBM K Ty r to t σ H Q) (to σ H fun x H1 => tyV K Ty x H1 ∧ t σ H1 fun xs H2 => r x xs H2 Q) := ⟨w_bm⟩
theorem w_bm0 {Ty : String} {r : V → List V → Hp → VK → Prop} {to : TE} (k : to σ H fun x H1 => tyV K Ty x H1 ∧ r x [] H1 Q) : tBM0 K Ty r to σ H Q := k
instance {Ty : String} {r : V → List V → Hp → VK → Prop} {to : TE} : Wk0 (tBM0 K Ty r to σ H Q) (to σ H fun x H1 => tyV K Ty x H1 ∧ r x [] H1 Q) := ⟨w_bm0⟩
theorem w_aug {ti : TIp} (h : σ[i]? = some (some x)) (k : te σ H fun y H1 => ti x y H1 fun z H2 => D.nx (σ.set i (some z)) H2) : tAug i te ti D σ H := ⟨x, h, k⟩
theorem w_ifE {c : TT} (k : c σ H fun b H1 => if b = true then ta σ H1 Q else tb σ H1 Q) : tIf c ta tb σ H Q := k

instance {c : TT} : Wk0 (tIf c ta tb σ H Q) (c σ H fun b H1 => if b = true then ta σ H1 Q else tb σ H1 Q) := ⟨w_ifE⟩
/-! tests -/
theorem w_if {p A B : Prop} [Decidable p] (h1 : p → A) (h2 : ¬ p → B) : if decide p = true then A else B := by
  by_cases h : p
  · rw [if_pos (decide_eq_true h)]; exact h1 h
  · rw [if_neg (by simp [h])]; exact h2 h
theorem w_ifn {p A B : Prop} [Decidable p] (h1 : ¬ p → A) (h2 : p → B) : if (!decide p) = true then A else B := by
  by_cases h : p
  · rw [if_neg (by simp [h])]; exact h2 h
  · rw [if_pos (by simp [h])]; exact h1 h
theorem w_ifI {a b : Int} {A B : Prop} (h1 : a = b → A) (h2 : a ≠ b → B) : if decide (V.int a = V.int b) = true then A else B :=
  w_if (fun h => h1 (V.int.inj h)) fun h => h2 fun e => h (by rw [e])
theorem w_ifT {a b : List Nat} {A B : Prop} (h1 : a = b → A) (h2 : a ≠ b → B) : if decide (T a = T b) = true then A else B :=
  w_if (fun h => h1 (T_inj h)) fun h => h2 fun e => h (by rw [e])
theorem w_ifIn {a b : Int} {A B : Prop} (h1 : a ≠ b → A) (h2 : a = b → B) : if (!decide (V.int a = V.int b)) = true then A else B :=
  w_ifn (fun h => h1 fun e => h (by rw [e])) fun h => h2 (V.int.inj h)
theorem w_ifTn {a b : List Nat} {A B : Prop} (h1 : a ≠ b → A) (h2 : a = b → B) : if (!decide (T a = T b)) = true then A else B :=
  w_ifn (fun h => h1 fun e => h (by rw [e])) fun h => h2 (T_inj h)
theorem w_nt {A B : Prop} (h : B) : if (!true) = true then A else B := by
  show if false = true then A else B
  exact L2.iteF h
instance {A B : Prop} : Wk0 (if (!true) = true then A else B) (B) := ⟨w_nt⟩
theorem w_nf {A B : Prop} (h : A) : if (!false) = true then A else B := by
  show if true = true then A else B
  exact L2.iteT h
instance {A B : Prop} : Wk0 (if (!false) = true then A else B) (A) := ⟨w_nf⟩
theorem w_ifb {b : Bool} {A B : Prop} (h1 : b = true → A) (h2 : b = false → B) : if b = true then A else B := by
  cases b with
  | true => rw [if_pos rfl]; exact h1 rfl
  | false => rw [if_neg Bool.false_ne_true]; exact h2 rfl

/-! texts -/
def rAddS : R2 := fun x y H Q => ∃ i j, x = .str i ∧ y = .str j ∧ i.length + j.length ≤ sizeLine ∧ Q (.str (i ++ j)) H
theorem op_addS {X : Cx} : OpR X (binaryOp .Add) rAddS := op_add_str
theorem w_addS {a b : List Nat} (z : a.length + b.length ≤ 1000000) (k : Q (T (a ++ b)) H) : rAddS (T a) (T b) H Q := by
  refine ⟨_, _, rfl, rfl, ?_, ?_⟩
  · rw [len_T, len_T]
    exact Nat.le_trans z (by decide)
  · have e : (⟨a.toArray⟩ : Str) ++ ⟨b.toArray⟩ = ⟨(a ++ b).toArray⟩ := by
      show (⟨a.toArray ++ b.toArray⟩ : Str) = _
      simp
    rw [e]
    exact k
def rMulS : R2 := fun x y H Q => ∃ z n, x = .str z ∧ y = .int n ∧ -(2 ^ 63) ≤ n ∧ n < 1000000 ∧ z.length * n.toNat ≤ 1000000 ∧ Q (T (List.replicate n.toNat z.cps.toList).flatten) H
theorem foldl_rep (c : Array Nat) : ∀ (n : Nat) (acc : Array Nat), (List.replicate n c).foldl (· ++ ·) acc = acc ++ (List.replicate n c.toList).flatten.toArray
  | 0, acc => by simp
  | n + 1, acc => by
    rw [List.replicate_succ, List.foldl_cons, foldl_rep c n, List.replicate_succ, List.flatten_cons]
    apply Array.ext'
    simp
theorem op_mulS {X : Cx} : OpR X (binaryOp .Mult) rMulS := by
  intro pins s σ H x y v u Q I rx ry h
  obtain ⟨z, n, rfl, rfl, h1, h2, h3, q⟩ := h
  obtain ⟨t, rfl⟩ := rx
  obtain ⟨t', rfl⟩ := ry
  refine P.mul_str ?_ ?_ ?_ ?_
  · rw [decide_eq_false (by omega), decide_eq_false (by omega)]; rfl
  · intro hn _ hc
    have hz : z.length ≤ 1000000 := by
      have : z.length * 1 ≤ z.length * n.toNat := Nat.mul_le_mul_left _ (by omega)
      omega
    have : (2 ^ 63 - 1 : Int) / n ≥ 9000000000000 := by
      refine (Int.le_ediv_iff_mul_le (by omega)).mpr ?_
      omega
    omega
  · intro hn _
    show decide (sizeLine < z.length * n.toNat) = false
    refine decide_eq_false ?_
    rw [sizeLine_eq]
    omega
  · by_cases hn : n < 1
    · rw [if_pos hn]
      have e : (List.replicate n.toNat z.cps.toList).flatten = [] := by
        rw [show n.toNat = 0 by omega]; rfl
      rw [e] at q
      exact ⟨by decide, T [], H, I.tok _, ⟨_, rfl⟩, q⟩
    · rw [if_neg hn]
      by_cases hc : (n == 1 || z.length == 0) = true
      · rw [if_pos hc]
        have e : (List.replicate n.toNat z.cps.toList).flatten = z.cps.toList := by
          rw [Bool.or_eq_true] at hc
          rcases hc with hc | hc
          · have : n = 1 := by simpa using hc
            subst this
            simp
          · have hz : z.cps.size = 0 := (beq_iff_eq.mp hc : z.length = 0)
            have : z.cps.toList = [] := by
              rw [← List.length_eq_zero_iff]; simpa using hz
            rw [this]; simp
        rw [e, ← T_eta] at q
        exact ⟨.str z, H, I, ⟨_, rfl⟩, q⟩
      · rw [if_neg hc]
        have e : (⟨(List.replicate n.toNat z.cps).foldl (· ++ ·) #[]⟩ : Str) = ⟨((List.replicate n.toNat z.cps.toList).flatten).toArray⟩ := by
          rw [foldl_rep]; simp
        rw [e]
        refine ⟨?_, T _, H, I.tok _, ⟨_, rfl⟩, q⟩
        rw [len_T]
        have : (List.replicate n.toNat z.cps.toList).flatten.length = n.toNat * z.cps.size := by simp
        rw [this, Nat.mul_comm]
        exact Nat.le_trans h3 (by rw [sizeLine_eq]; omega)
theorem w_mulS {a : List Nat} {n : Int} (h1 : -(2 ^ 63) ≤ n) (h2 : n < 1000000) (h3 : a.length * n.toNat ≤ 1000000) (k : Q (T (List.replicate n.toNat a).flatten) H) : rMulS (T a) (.int n) H Q :=
  ⟨_, n, rfl, rfl, h1, h2, by rw [len_T]; exact h3, k⟩
theorem w_ixS {a : List Nat} {j : Int} {c : Nat} (z : a.length ≤ 1000000) (h : atI a j = some c) (k : Q (T [c]) H) : rIxS (T a) (.int j) H Q :=
  ⟨_, j, c, rfl, rfl, by rw [len_T]; exact Nat.le_trans z (by decide), h, k⟩
def cut (a : List Nat) (lo hi : Option Int) : List Nat := (a.drop (HT.sIx a.length 0 lo)).take (HT.sIx a.length a.length hi - HT.sIx a.length 0 lo)
theorem w_slS {a : List Nat} {lo hi : Option Int} (z : a.length ≤ 1000000) (k : Q (T (cut a lo hi)) H) : rSlS (T a) lo hi H Q := by
  refine ⟨_, rfl, by rw [len_T]; exact Nat.le_trans z (by decide), ?_⟩
  have e : cutS ⟨a.toArray⟩ lo hi = ⟨(cut a lo hi).toArray⟩ := by
    unfold cutS cut
    rw [len_T]
  rw [e]
  exact k
def rLenS : List V → Hp → VK → Prop := fun xs H Q => ∃ z, xs = [.str z] ∧ z.length ≤ sizeLine ∧ Q (.int z.length) H
theorem call_lenS {X : Cx} : CallR X (.builtin "len") rLenS := call_len_str
theorem w_lenS {a : List Nat} (z : a.length ≤ 1000000) (k : Q (.int (a.length : Int)) H) : rLenS [T a] H Q :=
  ⟨_, rfl, by rw [len_T]; exact Nat.le_trans z (by decide), by rw [len_T]; exact k⟩
def rLenL (K : PySem.W.Frag) : List V → Hp → VK → Prop := fun xs H Q => ∃ p ys, xs = [.ref p] ∧ (SqL K H p ys ∨ SqT K H p ys) ∧ Q (.int ys.length) H
theorem call_lenL {X : Cx} : CallR X (.builtin "len") (rLenL X.K) := call_len_seq
theorem w_lenL {p : Addr} {ys : List V} (h : SqL K H p ys) (k : Q (.int (ys.length : Int)) H) : rLenL K [.ref p] H Q := ⟨p, ys, rfl, .inl h, k⟩
theorem w_lenT {p : Addr} {ys : List V} (h : SqT K H p ys) (k : Q (.int (ys.length : Int)) H) : rLenL K [.ref p] H Q := ⟨p, ys, rfl, .inr h, k⟩
def rInt1 : List V → Hp → VK → Prop := fun xs H Q => (∃ i, xs = [.int i] ∧ Q (.int i) H) ∨ ∃ k, xs = [.bl k] ∧ Q (.int (if k then 1 else 0)) H
theorem call_intI {X : Cx} : CallR X (.type "int") rInt1 := call_int1
theorem w_intI {a : Int} (k : Q (.int a) H) : rInt1 [.int a] H Q := .inl ⟨a, rfl, k⟩
instance {a : Int} : Wk0 (rInt1 [.int a] H Q) (Q (.int a) H) := ⟨w_intI⟩
theorem w_intB {b : Bool} (k : Q (.int (if b then 1 else 0)) H) : rInt1 [.bl b] H Q := .inr ⟨b, rfl, k⟩
instance {b : Bool} : Wk0 (rInt1 [.bl b] H Q) (Q (.int (if b then 1 else 0)) H) := ⟨w_intB⟩
def rIntS : List V → Hp → VK → Prop := fun xs H Q => ∃ a n, xs = [.str a] ∧ PySem.intText? a = some n ∧ a.length ≤ 640 ∧ Q (.int n) H
theorem call_intS {X : Cx} : CallR X (.type "int") rIntS := call_int_str
theorem w_intS {a : List Nat} {n : Int} (h : PySem.intText? ⟨a.toArray⟩ = some n) (z : a.length ≤ 640) (k : Q (.int n) H) : rIntS [T a] H Q := ⟨_, n, rfl, h, by rw [len_T]; exact z, k⟩
def rMax2 : List V → Hp → VK → Prop := fun xs H Q => ∃ i j, xs = [.int i, .int j] ∧ Q (.int (if j > i then j else i)) H
theorem w_max {a b : Int} (k : Q (.int (if b > a then b else a)) H) : rMax2 [.int a, .int b] H Q := ⟨a, b, rfl, k⟩
instance {a b : Int} : Wk0 (rMax2 [.int a, .int b] H Q) (Q (.int (if b > a then b else a)) H) := ⟨w_max⟩
def rStrI : List V → Hp → VK → Prop := fun xs H Q => ∃ i : Int, xs = [.int i] ∧ i.natAbs.log2 < 1920 ∧ Q (.str (toString i)) H
theorem call_strI {X : Cx} : CallR X (.type "str") rStrI := call_str_int
def rListOf (K : PySem.W.Frag) : List V → Hp → VK → Prop := fun xs H Q => ∃ p ys, xs = [.ref p] ∧ (SqL K H p ys ∨ SqT K H p ys) ∧ ∀ l, H l = none → Q (.ref l) (upd H l (.lst ys))
theorem call_listOf {X : Cx} : CallR X (.type "list") (rListOf X.K) := call_list_of
theorem w_listOf {p : Addr} {ys : List V} (h : SqL K H p ys) (k : ∀ l, H l = none → Q (.ref l) (upd H l (.lst ys))) : rListOf K [.ref p] H Q := ⟨p, ys, rfl, .inl h, k⟩
def rOrd : List V → Hp → VK → Prop := fun xs H Q => ∃ x, xs = [.str x] ∧ x.length = 1 ∧ Q (.int (x.cps.getD 0 0 : Nat)) H
theorem call_ordS {X : Cx} : CallR X (.builtin "ord") rOrd := call_ord
theorem w_ord {c : Nat} (k : Q (.int (c : Int)) H) : rOrd [T [c]] H Q := ⟨_, rfl, rfl, k⟩
instance {c : Nat} : Wk0 (rOrd [T [c]] H Q) (Q (.int (c : Int)) H) := ⟨w_ord⟩
def rInC : R2 := fun x y H Q => ∃ (c : Nat) (z : Str), x = .str ⟨#[c]⟩ ∧ y = .str z ∧ Q (.bl (decide (c ∈ z.cps.toList))) H
theorem op_inC {X : Cx} : OpR X (compareOp .In) rInC := op_in_sign
theorem w_inC {c : Nat} {a : List Nat} (k : Q (.bl (decide (c ∈ a))) H) : rInC (T [c]) (T a) H Q := ⟨c, _, rfl, rfl, k⟩
instance {c : Nat} {a : List Nat} : Wk0 (rInC (T [c]) (T a) H Q) (Q (.bl (decide (c ∈ a))) H) := ⟨w_inC⟩
def rNinC : R2 := fun x y H Q => ∃ (c : Nat) (z : Str), x = .str ⟨#[c]⟩ ∧ y = .str z ∧ Q (.bl (!decide (c ∈ z.cps.toList))) H
theorem w_ninC {c : Nat} {a : List Nat} (k : Q (.bl (!decide (c ∈ a))) H) : rNinC (T [c]) (T a) H Q := ⟨c, _, rfl, rfl, k⟩
instance {c : Nat} {a : List Nat} : Wk0 (rNinC (T [c]) (T a) H Q) (Q (.bl (!decide (c ∈ a))) H) := ⟨w_ninC⟩
theorem eqV_T (a b : List Nat) : eqV (T a) (T b) = decide (a = b) := by
  show ((⟨a.toArray⟩ : Str) == ⟨b.toArray⟩) = _
  by_cases h : a = b
  · subst h; simp
  · rw [decide_eq_false h]
    exact beq_eq_false_iff_ne.mpr fun e => h (T_inj (congrArg V.str e))
theorem inV_T (a : List Nat) (l : List (List Nat)) : inV (T a) (l.map T) = decide (a ∈ l) := by
  induction l with
  | nil => rfl
  | cons b l ih =>
    unfold inV at *
    rw [List.map_cons, List.any_cons, ih, eqV_T]
    by_cases h : b = a
    · subst h; simp
    · have h2 : ¬ a = b := fun e => h e.symm
      simp [h, h2]
theorem flat_T (l : List (List Nat)) : (l.map T).all flatV = true := by
  induction l with
  | nil => rfl
  | cons b l ih => rw [List.map_cons, List.all_cons, ih]; rfl
theorem w_inL {a : List Nat} {p : Addr} {l : List (List Nat)} (h : SqL K H p (l.map T)) (k : Q (.bl (decide (a ∈ l))) H) : rIn K false (T a) (.ref p) H Q :=
  ⟨p, _, rfl, .inl h, rfl, flat_T l, by rw [if_neg Bool.false_ne_true, inV_T]; exact k⟩
theorem w_inT {a : List Nat} {p : Addr} {l : List (List Nat)} (h : SqT K H p (l.map T)) (k : Q (.bl (decide (a ∈ l))) H) : rIn K false (T a) (.ref p) H Q :=
  ⟨p, _, rfl, .inr h, rfl, flat_T l, by rw [if_neg Bool.false_ne_true, inV_T]; exact k⟩
theorem w_ixL {p : Addr} {xs : List V} {j : Int} (h : SqL K H p xs) (e : atI xs j = some v) (k : Q v H) : rIxL K (.ref p) (.int j) H Q := ⟨p, xs, j, v, rfl, rfl, h, e, k⟩
theorem w_ixT {p : Addr} {xs : List V} {j : Int} (h : SqT K H p xs) (e : atI xs j = some v) (k : Q v H) : rIxT K (.ref p) (.int j) H Q := ⟨p, xs, j, v, rfl, rfl, h, e, k⟩
theorem w_setL {p : Addr} {xs : List V} {j : Int} {n : Nat} {G : Hp → Prop} (h : H p = some (.lst xs)) (e : ixN xs.length j = some n) (k : G (upd H p (.lst (xs.set n v)))) : rSetL (.ref p) (.int j) v H G := ⟨p, xs, j, n, rfl, rfl, h, e, k⟩
theorem w_append {p : Addr} {xs : List V} (h : H p = some (.lst xs)) (z : xs.length ≤ 1000000) (k : Q .non (upd H p (.lst (xs ++ [y])))) : rAppend (.ref p) [y] H Q :=
  ⟨p, xs, y, rfl, rfl, h, Nat.lt_of_le_of_lt z (by decide), k⟩
theorem w_cat {p q : Addr} {xs ys : List V} (hp : H p = some (.lst xs)) (hq : H q = some (.lst ys)) (z : xs.length + ys.length ≤ 1000000) (k : ∀ a, H a = none → Q (.ref a) (upd H a (.lst (xs ++ ys)))) : rCat (.ref p) (.ref q) H Q :=
  ⟨p, q, xs, ys, rfl, rfl, hp, hq, Nat.le_trans z (by decide), k⟩
theorem tyL {p : Addr} {xs : List V} (h : SqL K H p xs) : tyV K "list" (.ref p) H := .inl ⟨rfl, xs, h⟩
theorem tyS {a : List Nat} : tyV K "str" (T a) H := rfl
end

/-! new objects, the heap a letter -/
theorem same_new0 {p : Addr} {H : Hp} {o : HO} (h : H p = none) : Same H (upd H p o) := fun b u e => by
  rw [upd_ne (ne_of_none e h)]; exact e
section
variable {H : Hp} {Q : VK} {xs ys : List V} {K : PySem.W.Frag}
theorem w_newL (z : xs.length ≤ 1000000) (k : ∀ p H1, H p = none → Same H H1 → H1 p = some (.lst xs) → Q (.ref p) H1) : NewL xs H Q :=
  ⟨Nat.le_trans z (by decide), fun p hp => k p _ hp (same_new0 hp) upd_same⟩
theorem w_newT (z : xs.length ≤ 1000000) (k : ∀ p H1, H p = none → Same H H1 → H1 p = some (.tup xs) → Q (.ref p) H1) : NewT xs H Q :=
  ⟨Nat.le_trans z (by decide), fun p hp => k p _ hp (same_new0 hp) upd_same⟩
theorem w_cat2 {p q : Addr} (hp : H p = some (.lst xs)) (hq : H q = some (.lst ys)) (z : xs.length + ys.length ≤ 1000000) (k : ∀ a H1, H a = none → Same H H1 → H1 a = some (.lst (xs ++ ys)) → Q (.ref a) H1) : rCat (.ref p) (.ref q) H Q :=
  w_cat hp hq z fun a ha => k a _ ha (same_new0 ha) upd_same
theorem w_app2 {p : Addr} {y : V} (h : H p = some (.lst xs)) (z : xs.length ≤ 1000000) (k : ∀ H1, H1 p = some (.lst (xs ++ [y])) → (∀ b o, b ≠ p → H b = some o → H1 b = some o) → Q .non H1) : rAppend (.ref p) [y] H Q :=
  w_append h z (k _ upd_same fun b o n e => by rw [upd_ne n]; exact e)
end

/-! loops -/
def ForR (g : TG) (tb : TS) (vs : List V) (D : Ends) (σ : L2.St) (H : Hp) : Prop := ∃ j : Int, vs = [.int j] ∧ -(2 ^ 62) ≤ j ∧ j < 2 ^ 62 ∧ ∃ W : Nat → Nat → L2.St → Hp → Prop, (∃ m, W 0 m σ H) ∧ ∀ i m σ H, W i m σ H →
  ((Itr 0 j.toNat).stop i H ∧ D.nx σ H) ∨ ((Itr 0 j.toNat).go i H ∧ ∃ N : L2.St → Hp → Prop, (∀ σ' H', N σ' H' → ∃ m', m' < m ∧ W (i + 1) m' σ' H') ∧ ∀ x H', (Itr 0 j.toNat).yld i H x H' → g x σ H' fun σ2 H2 => tb { D with nx := N, ct := N, bk := D.nx } σ2 H2)
def ForL (K : PySem.W.Frag) (g : TG) (tb : TS) (x : V) (D : Ends) (σ : L2.St) (H : Hp) : Prop := ∃ a, x = .ref a ∧ (∃ xs, SqL K H a xs) ∧ ∃ W : Nat → Nat → L2.St → Hp → Prop, (∃ m, W 0 m σ H) ∧ ∀ i m σ H, W i m σ H →
  ((Itl K a).stop i H ∧ D.nx σ H) ∨ ((Itl K a).go i H ∧ ∃ N : L2.St → Hp → Prop, (∀ σ' H', N σ' H' → ∃ m', m' < m ∧ W (i + 1) m' σ' H') ∧ ∀ x H', (Itl K a).yld i H x H' → g x σ H' fun σ2 H2 => tb { D with nx := N, ct := N, bk := D.nx } σ2 H2)
def ForT (K : PySem.W.Frag) (g : TG) (tb : TS) (x : V) (D : Ends) (σ : L2.St) (H : Hp) : Prop := ∃ a, x = .ref a ∧ (∃ xs, SqT K H a xs) ∧ ∃ W : Nat → Nat → L2.St → Hp → Prop, (∃ m, W 0 m σ H) ∧ ∀ i m σ H, W i m σ H →
  ((Itt K a).stop i H ∧ D.nx σ H) ∨ ((Itt K a).go i H ∧ ∃ N : L2.St → Hp → Prop, (∀ σ' H', N σ' H' → ∃ m', m' < m ∧ W (i + 1) m' σ' H') ∧ ∀ x H', (Itt K a).yld i H x H' → g x σ H' fun σ2 H2 => tb { D with nx := N, ct := N, bk := D.nx } σ2 H2)
def ForS (g : TG) (tb : TS) (x : V) (D : Ends) (σ : L2.St) (H : Hp) : Prop := ∃ z, x = .str z ∧ ∃ W : Nat → Nat → L2.St → Hp → Prop, (∃ m, W 0 m σ H) ∧ ∀ i m σ H, W i m σ H →
  ((Its z).stop i H ∧ D.nx σ H) ∨ ((Its z).go i H ∧ ∃ N : L2.St → Hp → Prop, (∀ σ' H', N σ' H' → ∃ m', m' < m ∧ W (i + 1) m' σ' H') ∧ ∀ x H', (Its z).yld i H x H' → g x σ H' fun σ2 H2 => tb { D with nx := N, ct := N, bk := D.nx } σ2 H2)
section
variable {σ : L2.St} {H : Hp} {D : Ends} {ta : TA} {te : TE} {g : TG} {tb : TS} {K : PySem.W.Frag}
theorem w_forR (k : ta σ H fun vs H1 => ForR g tb vs D σ H1) : tFor (iRng1 ta) g tb D σ H := k
instance  : Wk0 (tFor (iRng1 ta) g tb D σ H) (ta σ H fun vs H1 => ForR g tb vs D σ H1) := ⟨w_forR⟩
theorem w_forL (k : te σ H fun x H1 => ForL K g tb x D σ H1) : tFor (iList K te) g tb D σ H := k
instance  : Wk0 (tFor (iList K te) g tb D σ H) (te σ H fun x H1 => ForL K g tb x D σ H1) := ⟨w_forL⟩
theorem w_forT (k : te σ H fun x H1 => ForT K g tb x D σ H1) : tFor (iTup K te) g tb D σ H := k
instance  : Wk0 (tFor (iTup K te) g tb D σ H) (te σ H fun x H1 => ForT K g tb x D σ H1) := ⟨w_forT⟩
theorem w_forS (k : te σ H fun x H1 => ForS g tb x D σ H1) : tFor (iStr te) g tb D σ H := k
instance  : Wk0 (tFor (iStr te) g tb D σ H) (te σ H fun x H1 => ForS g tb x D σ H1) := ⟨w_forS⟩
theorem for_R {j : Int} (Pv : Nat → L2.St → Hp → Prop) (b0 : 0 ≤ j) (b1 : j < 1000000) (h0 : Pv 0 σ H) (hs : ∀ (i : Nat) σ H, (i : Int) < j → Pv i σ H → g (.int (0 + (i : Int))) σ H fun σ2 H2 => tb { D with nx := Pv (i + 1), ct := Pv (i + 1), bk := D.nx } σ2 H2)
    (hd : ∀ σ H, Pv j.toNat σ H → D.nx σ H) : ForR g tb [.int j] D σ H :=
  ⟨j, rfl, by omega, by omega, for_range (lo := 0) (n := j.toNat) Pv h0 (fun i σ H hi p => hs i σ H (by omega) p) hd⟩
theorem for_L {a : Addr} {xs : List V} (Pv : Nat → L2.St → Hp → Prop) (h0 : Pv 0 σ H) (hl : ∀ i σ H, i ≤ xs.length → Pv i σ H → SqL K H a xs) (hs : ∀ i x σ H, xs[i]? = some x → Pv i σ H → g x σ H fun σ2 H2 => tb { D with nx := Pv (i + 1), ct := Pv (i + 1), bk := D.nx } σ2 H2)
    (hd : ∀ σ H, Pv xs.length σ H → D.nx σ H) : ForL K g tb (.ref a) D σ H :=
  ⟨a, rfl, ⟨xs, hl 0 σ H (Nat.zero_le _) h0⟩, for_list (xs := xs) Pv h0 hl hs hd⟩
theorem for_T {a : Addr} {xs : List V} (Pv : Nat → L2.St → Hp → Prop) (h0 : Pv 0 σ H) (hl : ∀ i σ H, i ≤ xs.length → Pv i σ H → SqT K H a xs) (hs : ∀ i x σ H, xs[i]? = some x → Pv i σ H → g x σ H fun σ2 H2 => tb { D with nx := Pv (i + 1), ct := Pv (i + 1), bk := D.nx } σ2 H2)
    (hd : ∀ σ H, Pv xs.length σ H → D.nx σ H) : ForT K g tb (.ref a) D σ H :=
  ⟨a, rfl, ⟨xs, hl 0 σ H (Nat.zero_le _) h0⟩, for_tup (xs := xs) Pv h0 hl hs hd⟩
theorem for_S {cs : List Nat} (Pv : Nat → L2.St → Hp → Prop) (h0 : Pv 0 σ H) (hs : ∀ i c σ H, cs[i]? = some c → Pv i σ H → g (T [c]) σ H fun σ2 H2 => tb { D with nx := Pv (i + 1), ct := Pv (i + 1), bk := D.nx } σ2 H2)
    (hd : ∀ σ H, Pv cs.length σ H → D.nx σ H) : ForS g tb (T cs) D σ H := by
  refine ⟨⟨cs.toArray⟩, rfl, fun i m σ H => m = cs.length - i ∧ i ≤ cs.length ∧ Pv i σ H, ⟨cs.length, by simp, Nat.zero_le _, h0⟩, ?_⟩
  rintro i m σ H ⟨rfl, hi, p⟩
  by_cases hlt : i < cs.length
  · refine .inr ⟨by show i < cs.toArray.size; simpa using hlt, Pv (i + 1), fun σ' H' p' => ⟨cs.length - (i + 1), by omega, rfl, hlt, p'⟩, fun x H' y => ?_⟩
    obtain ⟨e, c, hc, rfl⟩ := y
    subst e
    have hc' : cs[i]? = some c := by simpa using hc
    exact hs i c σ _ hc' p
  · have e : i = cs.length := by omega
    subst e
    exact .inl ⟨by show cs.toArray.size ≤ cs.length; simp, hd σ H p⟩
theorem pe_c0 {X : Cx} {k j : Nat} {x : Str} {sp : Sp} {dvs : List V} {p pos : Pos} (c : C8.Cal X.prog X.w X.K X.mg X.base k x sp dvs) (hr : Room j X.A) (hk : k ≤ j) (hg : Gl X x) (hdb : (x == ("__debug__" : Str)) = false := by decide) :
    PE X (.Call (.Name x p) [] [] pos) (tCall sp dvs L2.E0 tNil) := by
  obtain ⟨f, fd, ps, ds, F, hm, kp, b, d⟩ := c.ex
  exact pe_call0 F (hr.mono hk) hg hm kp b d pass0 hdb
end

/-! heaps: what stands apart from one object -/
def Fr (S : Addr) (H H' : Hp) : Prop := ∀ b o, b ≠ S → H b = some o → H' b = some o
theorem Fr.refl (S : Addr) (H : Hp) : Fr S H H := fun _ _ _ h => h
theorem Fr.trans {S : Addr} {H H1 H2 : Hp} (a : Fr S H H1) (b : Fr S H1 H2) : Fr S H H2 := fun c o n h => b c o n (a c o n h)
theorem Fr.new {S p : Addr} {H : Hp} {o : HO} (h : H p = none) : Fr S H (upd H p o) := fun b u _ e => by
  rw [upd_ne (ne_of_none e h)]; exact e
theorem Fr.own {S : Addr} {H : Hp} {o : HO} : Fr S H (upd H S o) := fun b u n e => by
  rw [upd_ne n]; exact e
theorem Fr.to {S : Addr} {H H1 H2 : Hp} (a : Fr S H H1) (b : Same H1 H2) : Fr S H H2 := fun c o n h => b c o (a c o n h)
theorem Same.fr {S : Addr} {H H1 : Hp} (b : Same H H1) : Fr S H H1 := fun c o _ h => b c o h
theorem same_new {p : Addr} {H : Hp} {o : HO} (h : H p = none) : Same H (upd H p o) := fun b u e => by
  rw [upd_ne (ne_of_none e h)]; exact e
theorem Fr.sqT {S a : Addr} {K : PySem.W.Frag} {H H' : Hp} {xs : List V} (f : Fr S H H') (n : a ≠ S) (h : SqT K H a xs) : SqT K H' a xs := by
  rcases h with (h | ⟨o, h⟩) | h
  · exact .inl (.inl (f _ _ n h))
  · exact .inl (.inr ⟨o, f _ _ n h⟩)
  · exact .inr h
theorem Same.sqT {a : Addr} {K : PySem.W.Frag} {H H' : Hp} {xs : List V} (f : Same H H') (h : SqT K H a xs) : SqT K H' a xs := by
  rcases h with (h | ⟨o, h⟩) | h
  · exact .inl (.inl (f _ _ h))
  · exact .inl (.inr ⟨o, f _ _ h⟩)
  · exact .inr h
end Lv
/-! An own error whose __init__ tells its text to its base and keeps one field. -/
namespace PySem
namespace SrcX
open PySem.W PySem.Calls PyProof.Rows PySem.HandSPX
/-! ### the text of __init__: the parameter's name is a letter (at, name) -/
def msg : Str := "the source is wrong at position "
def eA : Arguments := { posonlyargs := [], args := [{ arg := "self", annotation := none, pos := ⟨6, 17, 6, 21⟩ }, { arg := "at", annotation := none, pos := ⟨6, 23, 6, 25⟩ }], vararg := none, kwonlyargs := [], kw_defaults := [], kwarg := none, defaults := [] }
def eB : List Stmt :=
  [.Expr (.Call (.Attribute (.Call (.Name "super" ⟨7, 8, 7, 13⟩) [] [] ⟨7, 8, 7, 15⟩) "__init__" ⟨7, 8, 7, 24⟩) [.JoinedStr [.Constant (.str msg) 0 ⟨7, 27, 7, 59⟩, .FormattedValue (.Name "at" ⟨7, 60, 7, 62⟩) (-1) none ⟨7, 59, 7, 63⟩] ⟨7, 25, 7, 64⟩] [] ⟨7, 8, 7, 65⟩) ⟨7, 8, 7, 65⟩,
   .Assign [.Attribute (.Name "self" ⟨8, 8, 8, 12⟩) "at" ⟨8, 8, 8, 15⟩] (.Name "at" ⟨8, 18, 8, 20⟩) ⟨8, 8, 8, 20⟩]
def eS : Scope := { kind := .function, names := [(PySem.Str.ofString "self", .local), (PySem.Str.ofString "at", .local), (PySem.Str.ofString "__class__", .free), (PySem.Str.ofString "super", .globalImplicit)], isGenerator := false, isCoroutine := false, more := [] }
structure SrcTxt (P : Program) (K : Frag) (mg : Str → Option Value) (nm : Str) (C fI : Addr) : Prop where
  gC : mg nm = some (.ref C)
  cls : ∃ nm q N bs bm sn sub ab col dd k0 k1 k2 k3 k5, K.lookup C = some (excClassObj nm q C N bs bm true sn sub ab col dd k0 k1 k2 k3 k5 "ValueError.__new__") ∧ refsVE bm = true
  sa : findIn K (.ref C) "__setattr__" = some (some (.builtin "object.__setattr__"))
  ga : findIn K (.ref C) "__getattribute__" = some (some (.builtin "BaseException.__getattribute__"))
  gg : findIn K (.ref C) "__getattr__" = some none
  noN : findIn K (.ref C) "at" = some none
  iC : findIn K (.ref C) "__init__" = some (some (.ref fI))
  tC : typeIn K (.ref fI) = some (.type "function")
  kC : keepIn K (.ref C) = true
  exC : subIn K (.ref C) (.type "BaseException") = some true
  veC : subIn K (.ref C) (.type "ValueError") = some true
  tyC : typeIn K (.ref C) = some (.type "type")
  hdC : hasDictIn K C = true
  te : exmOne K (.ref C) (.ref C) = some true
  op : nsIn K cStatics "thirdparty.any" = some none
  up : ks_superIn K C C "__init__" = some (some (.builtin "ValueError.__init__"))
  mr : mroIn K C (.ref C) = some true
  su : mg "super" = none
  top : (P.main.scope.names.lookup ("super" : Str)).isSome = false
  fn : ∃ (oc : Value) (od : Option Addr) (doc pm : Value) (an : Option Addr) (cda cc : Addr) (ct : Value) (osl : Array (Option Value)) (qual : Str) (ccl cl : Value) (cdd cld : Option Addr) (ccs csl : Array (Option Value)) (vs : Array Value) (file : Str) (tf : Tok),
    K.lookup fI = some ⟨oc, od, .func (fnX "__init__" qual eA eB eS [("__class__", cc)] .none .none doc pm an (.ref cda) ct), osl⟩ ∧ codeIn K (.ref cda) qual = true ∧
    K.lookup cda = some ⟨ccl, cdd, .fields vs, ccs⟩ ∧ vs[2]? = some (.str file tf) ∧ ((P.main.file : Str) == file) = true ∧ K.lookup cc = some ⟨cl, cld, .cell (some (.ref C)), csl⟩
structure InitEnd (h h' : Heap) (e C dx t1 : Addr) (v : Value) : Prop where
  keep : ∀ b o, b ≠ e → h.get? b = some o → h'.get? b = some o
  obj : h'.get? e = some { cls := .ref C, dict := some dx, data := .fields #[.ref t1, .none, .none, .none, .bool false, .none] }
  dbig : h.objs.size ≤ dx
  dne : dx ≠ e
  ns : h'.Ns1 dx (fun y => if y = "at" then some v else none)
structure OwnMade (h h' : Heap) (e C d : Addr) (v : Value) : Prop where
  keep : ∀ b o, h.get? b = some o → h'.get? b = some o
  new : h.objs.size ≤ e
  obj : ∃ oe vs, h'.get? e = some oe ∧ oe.cls = .ref C ∧ oe.dict = some d ∧ oe.data = .fields vs ∧ vs[1]? = some .none
  dbig : h.objs.size ≤ d
  dne : d ≠ e
  ns : h'.Ns1 d (fun y => if y = "at" then some v else none)
theorem one_size (v : Value) : [v].length ≤ sizeLine := by
  rw [sizeLine_eq]
  exact (by decide : 1 ≤ 16777216)
section
variable {prog : Program} {w : World} {A : Around} {E : Value → Shared → Prop} {R : Result → Shared → Prop} {s : Shared} {K : Frag} {mg mb : Str → Option Value} {nm : Str} {C fI : Addr}
theorem call_mw {h : Heap} {g : Array GenState} {d : Drawn} {t : Nat} {os : OsState} {u e t0 : Addr} {rest : List Value} {Q : Value → Shared → Prop} {nm q : Str} {N : Addr} {bs bm : List Value} {hdct : Bool} {sn : List Str} {sub : List Value} {ab : Bool} {col : Option Bool} {dd : Option Addr} {k0 k1 k2 k3 k5 : Option Value}
    (hC : h.get? C = some (excClassObj nm q C N bs bm hdct sn sub ab col dd k0 k1 k2 k3 k5 "ValueError.__new__")) (he : h.get? e = some (excO C t0)) (hu : h.get? u = some (kxs_mw "ValueError.__init__" e)) (hrest : rest.length ≤ sizeLine)
    (hq : ∀ h' t1, (∀ b o, b ≠ e → h.get? b = some o → h'.get? b = some o) → h'.get? e = some (excO C t1) → Q .none ⟨h', g, d, t, os⟩) :
    wpAny (model prog w) A (call (.ref u) rest) Q E ⟨h, g, d, t, os⟩ := by
  refine wpAny_call (codeAny_of_tree ?_)
  show wpAny _ A.in1 (callAny (.ref u) ⟨rest, []⟩) _ _ _
  simp only [callAny]
  refine wpAny_bind (wpAny_load hu ?_)
  simp only [kxs_mw, show (Value.type "method-wrapper" == Value.type "method" || Value.type "method-wrapper" == Value.type "builtin_function_or_method" || Value.type "method-wrapper" == Value.type "method-wrapper") = true by decide, if_true]
  refine KFB.if_so (by decide) ?_
  refine wpAny_bind (check_bound_init F.excBase_ValueError.toExcCallFacts hC he rfl ?_)
  refine wpAny_bind (wpAny_pure (wpAny_pure ?_))
  refine ⟨plainId_quiet F.excBase_ValueError.init.plain _, codeAny_builtin F.excBase_ValueError.initEntry ?_⟩
  exact exc_init_tree (cls := .ref C) (t0 := t0) (dv := none) (c2 := .none) (c3 := .none) (b4 := .bool false) he hrest fun h' k e' _ => hq h' _ k e'
theorem ldN {M : Model} {env : Env} {m : Str → Option Value} {x : Str} {pos : Pos} {v : Value} {Q : Value → Shared → Prop} (hn : s.heap.Ns env.locals m) (hv : m x = some v) (h : Q v s)
    (hk : env.scope.kind = .function := by rfl) (hl : env.kindOf x = some .local := by rfl) (hd : (x == ("__debug__" : Str)) = false := by decide) :
    wpAny M A (eval (.Name x pos) env) Q E s := wpAny_Name (wpAny_loadName_local hk hl hn hv h) hd
theorem src_init (T : SrcTxt prog K mg nm C fI) {e t0 : Addr} {v : Int} {tv : Tok} (hv : v.natAbs.log2 < 1920) (X : K.In s.heap) (hlim : s.heap.NoLimit) (hg : s.heap.Ns mainGlobals mg) (hb : s.heap.Ns builtinsNs mb) (hmb : mb "super" = some (.type "super"))
    (hx : s.heap.get? e = some (excO C t0)) (hnx : K.lookup e = none) (hroom : A.depth < recursionLimit)
    (hq : ∀ h' tk dx t1, InitEnd s.heap h' e C dx t1 (.int v tv) → R (.ok (.ret .none)) { s with heap := h', toks := tk }) :
    codeAny (model prog w) A (.call (.ref fI) ⟨[.ref e, .int v tv], []⟩) R s := by
  obtain ⟨oc, od, doc, pm, an, cda, cc, ct, osl, qual, ccl, cl, cdd, cld, ccs, csl, vs, file, tf, ho, hcd, hcode, hvs, hfile, hcell⟩ := T.fn
  obtain ⟨nm', q, N, bs, bm, sn, sub, ab, col, dd, k0, k1, k2, k3, k5, hC, hbm⟩ := T.cls
  have hcl : clsIn K C = some { name := nm', bases := bs, mro := .ref C :: bm, ns := N, qualname := q, hasDict := true, slotNames := sn, subclasses := sub, abstract := ab, collection := col, hasDel := false } := by unfold clsIn; rw [hC] <;> rfl
  refine ks_codeAny_call_defAt (binds := [("self", .ref e), ("at", .int v tv)]) hroom (X _ _ ho) rfl hlim (codeRec_of X hcd) rfl (BindsTo.of_eq ?b1) (show ∀ y ∈ eS.names, y.2 ≠ .cell by decide +kernel) (locs rfl) (fun h₁ hns k => ?_) rfl rfl rfl
  case b1 => first | rfl | with_unfolding_all rfl
  have I1 : InstAt s.heap e (excO C t0) C none := ⟨hx, rfl, rfl, trivial⟩
  have hne : e ≠ C := ks_ne X I1 hcl
  obtain ⟨hp, g, d, t, os⟩ := s
  have X₁ : K.In h₁ := X.keeps k
  have hx₁ := k _ _ hx
  -- super().__init__(f'..')
  refine ks_wpAt_execs_cons (ks_wpAt_Expr_any (ks_wpAt_MethodCall ?_ (by with_unfolding_all rfl)))
  have hoH := X₁ _ _ ho
  have hcodeH := X₁ _ _ hcode
  refine' ks_wpAt_super_base (attr := "__init__") (body := eB) (f := fI) (cc := cda) ?a1 ?a2 ?a3 ?a4 ?a5 ?a6 ?a7 ?a8 ?a9 ?a10 hvs hfile T.top ?_
  case a5 => exact hoH
  case a9 => exact hcodeH
  case a1 => rfl
  case a2 => rfl
  case a3 => decide
  case a4 => rfl
  case a6 => rfl
  case a7 => rfl
  case a8 => rfl
  case a10 => rfl
  have hG : h₁.Ns mainGlobals mg := hg.keeps k
  have hB : h₁.Ns builtinsNs mb := hb.keeps k
  refine ks_loadName_global rfl rfl (loadGlobal_builtin hG T.su hB hmb ⟨rfl, ?_⟩)
  refine wpAny_loadName_free rfl rfl rfl ⟨_, X₁ _ _ hcell, rfl⟩ ?_
  refine wpAny_loadName_local rfl rfl hns rfl ?_
  have hCC := X₁ _ _ hC
  refine ks_wpAny_isType_cls hCC rfl ⟨rfl, ?_⟩
  refine ks_wpAny_call_super hCC rfl hx₁ rfl (fun c z => by cases z) (looks_mroIn X₁ T.mr) (fun h₂ hso k₂ => ?_)
  have X₂ : K.In h₂ := X₁.keeps k₂
  have hx₂ := k₂ _ _ hx₁
  have I2 : InstAt h₂ e (excO C t0) C none := ⟨hx₂, rfl, rfl, trivial⟩
  have hI : Looks (model prog w) h₂ (isInstance (.ref e) (.type "ValueError")) true := I2.type.andThen (looks_subIn X₂ T.veC)
  have hup : alongIn K "__init__" (((.ref C :: bm : List Value).dropWhile (· != .ref C)).drop 1) = some (some (.builtin "ValueError.__init__")) := by
    have := T.up
    unfold ks_superIn at this
    rw [hcl] at this
    exact this
  refine kxs_getMethod kxs_ValueError hso (looks_opaque X₂ T.op) (l₀ := .ref C :: bm) ?lk rfl X₂ hup hI hne (by decide) ?_
  case lk => exact fun A Q E s k q => wpAny_bind ((looks_clsIn X₂ hcl) A _ E s k (wpAny_pure q))
  refine kxs_callWith (i := "ValueError.__init__") (x := e) rfl (evalArgs_plain ?_)
  refine Calls.spliced_cons ?_
  -- the text
  have hn₂ : h₂.Ns hp.objs.size _ := hns.keeps k₂
  have hn₃ : (h₂.push (kxs_mw "ValueError.__init__" e)).Ns hp.objs.size _ := hn₂.keeps fun b o z => Heap.get?_push_of_some _ z
  refine wpAny_JoinedStr (pos := ⟨7, 25, 7, 64⟩) ?_
  refine Calls.Constant_str (x := msg) (k := 0) (pos := ⟨7, 27, 7, 59⟩) ?_
  refine ⟨_, _, rfl, by decide +kernel, ?_⟩
  refine wpAny_FormattedValue_plain (value := .Name "at" ⟨7, 60, 7, 62⟩) (pos := ⟨7, 59, 7, 63⟩) (ldN (env := callEnv (fnX "__init__" qual eA eB eS [("__class__", cc)] .none .none doc pm an (.ref cda) ct) hp.objs.size fI) hn₃ rfl (wpAny_formatField_int hv ?_))
  have hsz : ((Str.empty ++ msg) ++ Str.ofString (toString v)).length ≤ sizeLine := by
    rw [strLen_append, PySem.ofString_length, show (Str.empty ++ msg).length = 32 by decide +kernel, sizeLine_eq]
    have := int_text_length_le (k := 1920) (by decide) hv
    omega
  refine ⟨_, _, rfl, hsz, ?_⟩
  refine ⟨hsz, ?_⟩
  refine Calls.spliced_nil ?_
  have hu₃ : (h₂.push (kxs_mw "ValueError.__init__" e)).get? h₂.objs.size = some (kxs_mw "ValueError.__init__" e) := Heap.get?_push_at rfl rfl
  refine ⟨hu₃, ?_⟩
  have k₃ : ∀ b o, h₂.get? b = some o → (h₂.push (kxs_mw "ValueError.__init__" e)).get? b = some o := fun b o z => Heap.get?_push_of_some _ z
  have X₃ : K.In (h₂.push (kxs_mw "ValueError.__init__" e)) := X₂.keeps k₃
  refine call_mw (X₃ _ _ hC) (k₃ _ _ hx₂) hu₃ (one_size _) fun h₄ t1 k₄ hx₄ => ?_
  have X₄ : K.In h₄ := fun a o z => by
    by_cases ha : a = e
    · subst ha
      have := X₃ _ _ z
      have y := k₃ _ _ hx₂
      rw [this] at y
      have nK : K.lookup a = none := hnx
      rw [nK] at z
      cases z
    · exact k₄ _ _ ha (X₃ _ _ z)
  have hn₄ : h₄.Ns hp.objs.size _ := hn₃.at fun o z => k₄ _ _ (Nat.ne_of_gt (Heap.lt_size hx)) z
  -- self.at = at
  refine wpAt_of_wpAny ?_
  refine wpAny_execs_cons (plainObj_wpAny_Assign_Attribute ?_)
  refine ldN (v := .int v tv) hn₄ rfl (ldN (v := .ref e) hn₄ rfl ?_)
  refine set_plain X₄ (ox := excO C t1) (od := none) ⟨hx₄, rfl, rfl, trivial⟩ T.sa ?_
  refine exc_osa X₄ hx₄ hcl (show refsVE (.ref C :: bm) = true from hbm) rfl T.noN (fun h₅ tk₅ dx k₅ dn dne hx₅ hn₅ => ?_)
  refine wpAny_execs_nil ?_
  have keepAll : ∀ b o, b ≠ e → hp.get? b = some o → h₅.get? b = some o := fun b o hb z => k₅ b o hb (k₄ b o hb (k₃ _ _ (k₂ _ _ (k _ _ z))))
  refine hq h₅ tk₅ dx t1 ⟨keepAll, hx₅, ?_, dne, hn₅⟩
  exact Nat.le_trans (Nat.le_of_lt hn₄.lt) dn
theorem src_made (T : SrcTxt prog K mg nm C fI) {v : Int} {tv : Tok} (hv : v.natAbs.log2 < 1920) (X : K.In s.heap) (hlim : s.heap.NoLimit) (hg : s.heap.Ns mainGlobals mg) (hb : s.heap.Ns builtinsNs mb) (hmb : mb "super" = some (.type "super")) (hroom : A.depth + 1 < recursionLimit)
    (hq : ∀ h' tk e d, OwnMade s.heap h' e C d (.int v tv) → R (.ok (.ret (.ref e))) { s with heap := h', toks := tk }) :
    codeAny (model prog w) A (.call (.ref C) ⟨[.int v tv], []⟩) R s := by
  obtain ⟨nm, q, N, bs, bm, sn, sub, ab, col, dd, k0, k1, k2, k3, k5, hC, hbm⟩ := T.cls
  obtain ⟨hp, g, dr, tk, os⟩ := s
  have k : ∀ b o, hp.get? b = some o → ((hp.push (kdv_tup [.int v tv])).push (excO C hp.objs.size)).get? b = some o := fun b o e => Heap.get?_push_of_some _ (Heap.get?_push_of_some _ e)
  have hget : ((hp.push (kdv_tup [.int v tv])).push (excO C hp.objs.size)).get? (hp.objs.size + 1) = some (excO C hp.objs.size) := by heap_get
  have hnx : K.lookup (hp.objs.size + 1) = none := by
    cases e : K.lookup (hp.objs.size + 1) with
    | none => rfl
    | some o =>
      have z : hp.get? (hp.objs.size + 1) = some o := X _ _ e
      exact absurd (Nat.lt_of_succ_lt (Heap.lt_size z)) (Nat.lt_irrefl _)
  refine call_own F.excBase_ValueError (fun X => refsVE_contains X bm hbm) (X _ _ hC) (looks_findIn X T.iC) (fun self => bind_fn X self T.tC) (one_size _) ?_
  refine src_init (s := ⟨(hp.push (kdv_tup [.int v tv])).push (excO C hp.objs.size), g, dr, tk, os⟩) T hv (X.keeps k) (hlim.keeps k) (hg.keeps k) (hb.keeps k) hmb hget hnx ?_ fun h' tk' dx t1 ⟨k', hx, dn, dne, hns⟩ => ?_
  · show A.depth + 1 < recursionLimit
    exact hroom
  · have old : ∀ b o, hp.get? b = some o → h'.get? b = some o := fun b o e => k' b o (Nat.ne_of_lt (Nat.lt_succ_of_lt (Heap.lt_size e))) (k b o e)
    have z : hp.objs.size + 1 + 1 ≤ dx := by
      first
        | (simpa only [Heap.size_push] using dn)
        | exact dn
        | (have q := dn; rw [Heap.size_push, Heap.size_push] at q; exact q)
    exact ⟨rfl, hq h' tk' (hp.objs.size + 1) dx ⟨old, Nat.le_succ _, ⟨_, _, hx, rfl, rfl, rfl, rfl⟩, Nat.le_trans (Nat.le_trans (Nat.le_succ _) (Nat.le_succ _)) z, dne, hns⟩⟩
end
end SrcX
end PySem
namespace L2
open PySem PySem.Spec PyProof.Rows
theorem relO_src {v : V} {v' : Value} (r : RelV v v') (f : Str) : RelO (List.lookup f [(("at" : Str), v)]) (if f = "at" then some v' else none) := by
  by_cases hw : f = "at"
  · subst hw
    rw [if_pos rfl]
    have q : List.lookup ("at" : Str) [(("at" : Str), v)] = some v := by simp [List.lookup]
    rw [q]
    exact r
  · rw [if_neg hw]
    have qw : (f == ("at" : Str)) = false := by simpa using hw
    have q2 : List.lookup f [(("at" : Str), v)] = none := by simp [List.lookup, qw]
    rw [q2]
    trivial
section
variable {X : Cx} {C fI : Addr} {nm : Str}
def tMkSrc (C : Addr) (ta : TA) : St → Hp → XK → Prop := fun σ H Q => ta σ H fun vs H1 => ∃ v : Int, vs = [.int v] ∧ v.natAbs.log2 < 1920 ∧ ∀ d, H1 d = none → Q (.ref C) (some d) (upd H1 d (.xd [(("at" : Str), .int v)]))
theorem pmk_src {a : Expr} {ta : TA} {p pos : Pos} {k : Nat} (T : PySem.SrcX.SrcTxt X.prog X.K X.mg nm C fI) (hr : Room k X.A) (ha : PA X [a] ta) (hg : Gl X nm := by rfl) (hdb : (nm == ("__debug__" : Str)) = false := by decide)
    (he : starEach (a :: []) X.env = (false, eval a X.env) :: starEach [] X.env := by rfl) (hpl : (backTo pos (starEach [] X.env)).any (·.1) = false := by rfl) :
    PMk X (.Call (.Name nm p) [a] [] pos) (tMkSrc C ta) := by
  intro pins s σ H Q I h
  refine wpAny_Call_Name_kw (ld_glob I hg T.gC ?_ hdb)
  refine PySem.W.callWith_K (h₀ := X.base) I.ok.mod.kin T.kC (thn (ha.run pos pins s σ H _ I h) fun us s1 hh => ?_) he hpl
  obtain ⟨vs, H1, I1, r1, v, ev, hv, q1⟩ := hh
  subst ev
  refine ⟨I1.kIn, ?_⟩
  cases r1 with
  | cons rv rn =>
    rename_i v' us'
    cases rn
    obtain ⟨tv, rfl⟩ := rv
    show wpAny _ _ (call (.ref C) [.int v tv]) _ _ _
    have hlim := I1.nolimit
    obtain ⟨mb, hb, hmb⟩ := I1.mod.blt
    have hb1 := hb.keeps I1.bk
    have hg1 := I1.mod.glob.keeps I1.bk
    have hsup : mb "super" = some (.type "super") := (hmb _ (by decide)).trans (by decide +kernel)
    obtain ⟨hp, g, dr, tk, os⟩ := s1
    refine wpAny_call (PySem.SrcX.src_made T hv I1.kIn hlim hg1 hb1 hsup (by have := hr.dp; omega) fun h' tk' e d M => ?_)
    show MkP X pins σ Q (.ref e) ⟨h', g, dr, tk', os⟩
    obtain ⟨oe, fv, hoe, hc, hd, hdat, h1⟩ := M.obj
    have hns := M.ns
    obtain ⟨G', g1, g2⟩ := restrict h' fun b => decide (b ≠ e)
    have gk : ∀ b, b ≠ e → G'.get? b = h'.get? b := fun b hb => g1 b (decide_eq_true hb)
    have ge : G'.get? e = none := g2 e (by simp)
    have old : ∀ b o, hp.get? b = some o → G'.get? b = some o := fun b o q => (gk b (Nat.ne_of_lt (Nat.lt_of_lt_of_le (Heap.lt_size q) M.new))).trans (M.keep b o q)
    have ob : ObjOk X.prog X.w (upd H1 d (.xd [(("at" : Str), .int v)])) G' d (.xd [(("at" : Str), .int v)]) :=
      ⟨_, hns.at (fun o q => (gk d M.dne).trans q), fun f => relO_src (v := .int v) (v' := .int v tv) ⟨tv, rfl⟩ f⟩
    have J : Inv X pins σ (upd H1 d (.xd [(("at" : Str), .int v)])) ⟨G', g, dr, tk', os⟩ := I1.laid (t' := tk') old M.dbig ob
    refine ⟨e, oe, fv, ⟨G', g, dr, tk', os⟩, _, .ref C, some d, rfl, J, fun b o q => ?_, ge, hoe, ⟨hc, hd⟩, hdat, h1, ?_, rfl, I1.bare, raises_own T.exC T.tyC, q1 d (I1.hok.fresh M.dbig)⟩
    · by_cases hb : b = e
      · have q' : G'.get? b = some o := q
        rw [hb, ge] at q'; cases q'
      · exact (gk b hb).symm.trans q
    · rw [upd_ne (Ne.symm M.dne)]
      exact I1.hok.fresh M.new
def tRaiseSrc (C : Addr) (W : WX) (ta : TA) : TS := fun _ σ H => tMkSrc C ta σ H fun cls d H' => W cls d σ H'
theorem ps_raiseSrc {a : Expr} {ta : TA} {W : WX} {p pos pos2 : Pos} {k : Nat} (hc : X.calm = true) (T : PySem.SrcX.SrcTxt X.prog X.K X.mg nm C fI) (hr : Room k X.A) (tk : Takes X W) (ha : PA X [a] ta) (hg : Gl X nm := by rfl) (hdb : (nm == ("__debug__" : Str)) = false := by decide)
    (he : starEach (a :: []) X.env = (false, eval a X.env) :: starEach [] X.env := by rfl) (hpl : (backTo pos (starEach [] X.env)).any (·.1) = false := by rfl) :
    PS X (.Raise (some (.Call (.Name nm p) [a] [] pos)) none pos2) (tRaiseSrc C W ta) := ps_raise hc tk (pmk_src T hr ha hg hdb he hpl)
end
end L2
/-! Defs that may raise, over the same layer; texts searched. -/
namespace Lv
open PySem PySem.Spec PyProof.Rows L2

section
variable {P : Program} {w : World} {K : PySem.W.Frag} {mg : Str → Option Value} {base : Heap} {N : List Str} {q : Str} {sc : Scope} {f : Addr} {cd : Value} {A : Around} {outer : List Env} {s : Shared} {H : Hp} {E : XK}
theorem tk_of : Takes (cxOf (L2.CX P w) P w K mg base N q sc f cd A outer s H E) (fun cls d _ H => E cls d H) := takes_of rfl rfl rfl rfl
theorem px_of : Passes (L2.CX P w) (cxOf (L2.CX P w) P w K mg base N q sc f cd A outer s H E) E := passes_call tk_of (fun _ _ _ _ h => h)
theorem po_of : PassesOwn (model (cxOf (L2.CX P w) P w K mg base N q sc f cd A outer s H E).prog (cxOf (L2.CX P w) P w K mg base N q sc f cd A outer s H E).w) (cxOf (L2.CX P w) P w K mg base N q sc f cd A outer s H E).A (cxOf (L2.CX P w) P w K mg base N q sc f cd A outer s H E).env (cxOf (L2.CX P w) P w K mg base N q sc f cd A outer s H E).xe := passes_of rfl
end
structure CalX (P : Program) (w : World) (K : PySem.W.Frag) (mg : Str → Option Value) (base : Heap) (k : Nat) (x : Str) (sp : Sp) : Prop where
  ex : ∃ (f : Addr) (fd : FuncData) (ps : List Str), FnOk P w K mg base (L2.CX P w) k f fd ps sp ∧ mg x = some (.ref f) ∧ PySem.W.keepIn K (.ref f) = true ∧ Binds K fd ps []
section
variable {X : Cx} {k j : Nat} {x : Str} {sp : Sp} {E : XK} {p pos : Pos} {e : Expr} {es : List Expr} {t : TA}
theorem pe_cx (c : CalX X.prog X.w X.K X.mg X.base k x sp) (hr : Room j X.A) (hk : k ≤ j) (hg : Gl X x) (hx : Passes (L2.CX X.prog X.w) X E) (ha : PA X (e :: es) t)
    (hdb : (x == ("__debug__" : Str)) = false := by decide) (he : starEach (e :: es) X.env = (false, eval e X.env) :: starEach es X.env := by rfl) (hpl : (backTo pos (starEach es X.env)).any (·.1) = false := by rfl) :
    PE X (.Call (.Name x p) (e :: es) [] pos) (tCall sp [] E t) := by
  obtain ⟨f, fd, ps, F, hm, kp, b⟩ := c.ex
  exact pe_call F (hr.mono hk) hg hm kp b .nil hx ha hdb he hpl
end
def Err (C : Addr) (E : XK) (H : Hp) (i : Nat) : Prop := ∀ d H', H d = none → Same H H' → H' d = some (.xd [(("at" : Str), .int (i : Int))]) → E (.ref C) (some d) H'
theorem Err.mono {C : Addr} {E : XK} {H H1 : Hp} {i : Nat} (e : Err C E H i) (s : Same H H1) : Err C E H1 i := fun d H' hd s' h => e d H' (s.free hd) (s.trans s') h
section
variable {σ : L2.St} {H : Hp} {D : Ends} {C : Addr} {E : XK} {ta : TA}
def RaiseI (C : Addr) (E : XK) (vs : List V) (H : Hp) : Prop := ∃ v : Int, vs = [.int v] ∧ v.natAbs.log2 < 1920 ∧ ∀ d, H d = none → E (.ref C) (some d) (upd H d (.xd [(("at" : Str), .int v)]))
theorem w_raise (k : ta σ H fun vs H1 => RaiseI C E vs H1) : tRaiseSrc C (fun cls d _ H => E cls d H) ta D σ H := k
theorem raise_I {i : Nat} (hi : i ≤ 1000000) (h : Err C E H i) : RaiseI C E [.int (i : Int)] H := by
  refine ⟨(i : Int), rfl, ?_, fun d hd => h d _ hd (same_new0 hd) upd_same⟩
  rw [Int.natAbs_natCast]
  by_cases h0 : i = 0
  · subst h0; decide
  · exact Nat.lt_trans ((Nat.log2_lt h0).mpr (show i < 2 ^ 31 by omega)) (by decide)
end

/-! ### texts: order, search -/
def rLeS : R2 := fun x y H Q => ∃ i j, x = .str i ∧ y = .str j ∧ Q (.bl (!decide (j.cps.toList < i.cps.toList))) H
theorem op_leS {X : Cx} : OpR X (compareOp .LtE) rLeS := op_le_str
theorem lt_one (a b : Nat) : (([a] : List Nat) < [b]) ↔ a < b := by
  constructor
  · intro h
    cases h with
    | rel h => exact h
    | cons h => cases h
  · intro h
    exact .rel h
theorem w_leC {Q : VK} {H : Hp} {a b : Nat} (k : Q (.bl (decide (a ≤ b))) H) : rLeS (T [a]) (T [b]) H Q := by
  refine ⟨_, _, rfl, rfl, ?_⟩
  have e : (!decide (([b] : List Nat) < [a])) = decide (a ≤ b) := by
    by_cases h : a ≤ b
    · rw [decide_eq_true h, decide_eq_false (fun z => by have := (lt_one b a).mp z; omega)]; rfl
    · rw [decide_eq_false h, decide_eq_true ((lt_one b a).mpr (by omega))]; rfl
  show Q (.bl (!decide (([b] : List Nat) < [a]))) H
  rw [e]
  exact k
def rFind3 : V → List V → Hp → VK → Prop := fun x xs H Q => ∃ (a b : Str) (i : Int), x = .str a ∧ xs = [.str b, .int i] ∧ Q (.int (Txt.find3 a b i)) H
theorem mt_findS {X : Cx} : MtR X "str.find" rFind3 := mt_find3
def rStarts3 : V → List V → Hp → VK → Prop := fun x xs H Q => ∃ (a b : Str) (i : Int), x = .str a ∧ xs = [.str b, .int i] ∧ Q (.bl (Txt.startswith3 a b i)) H
theorem mt_startsS {X : Cx} : MtR X "str.startswith" rStarts3 := mt_startswith3
def rIsdigit : V → List V → Hp → VK → Prop := fun x xs H Q => ∃ a, x = .str a ∧ xs = [] ∧ True ∧ Q (.bl (Txt.isdigit a)) H
theorem mt_isdigitS {X : Cx} : MtR X "str.isdigit" rIsdigit := mt_isdigit
def findC (cs : List Nat) (c i : Nat) : Int := if i + ((cs.drop i).takeWhile (fun x => x != c)).length < cs.length then ((i + ((cs.drop i).takeWhile (fun x => x != c)).length : Nat) : Int) else -1
theorem tw_get {p : Nat → Bool} : ∀ {l : List Nat} {j : Nat} {x : Nat}, j < (l.takeWhile p).length → l[j]? = some x → p x = true
  | [], _, _, h, _ => by simp at h
  | a :: l, j, x, h, e => by
    rw [List.takeWhile_cons] at h
    by_cases ha : p a = true
    · rw [if_pos ha] at h
      cases j with
      | zero => rw [List.getElem?_cons_zero] at e; cases e; exact ha
      | succ j => exact tw_get (l := l) (j := j) (by simpa using h) (by simpa using e)
    · rw [if_neg ha] at h; simp at h
theorem tw_end {p : Nat → Bool} : ∀ {l : List Nat}, (l.takeWhile p).length < l.length → ∃ x, l[(l.takeWhile p).length]? = some x ∧ p x = false
  | [], h => by simp at h
  | a :: l, h => by
    rw [List.takeWhile_cons] at h ⊢
    by_cases ha : p a = true
    · rw [if_pos ha] at h ⊢
      obtain ⟨x, e, hx⟩ := tw_end (l := l) (by simpa using h)
      exact ⟨x, by simpa using e, hx⟩
    · rw [if_neg ha]
      exact ⟨a, by simp, by simpa using ha⟩
theorem tw_le {p : Nat → Bool} (l : List Nat) : (l.takeWhile p).length ≤ l.length := (List.takeWhile_prefix p).length_le
theorem tw_first {c : Nat} {l : List Nat} {k : Nat} (h1 : l[k]? = some c) (h2 : ∀ j, j < k → l[j]? ≠ some c) : (l.takeWhile (fun x => x != c)).length = k := by
  rcases Nat.lt_trichotomy (l.takeWhile (fun x => x != c)).length k with h | h | h
  · obtain ⟨hk, _⟩ := List.getElem?_eq_some_iff.mp h1
    obtain ⟨x, e, hx⟩ := tw_end (p := fun x => x != c) (l := l) (by omega)
    have : x = c := by simpa using hx
    exact absurd (this ▸ e) (h2 _ h)
  · exact h
  · have := tw_get h h1
    simp at this
theorem find_T {cs : List Nat} {c i : Nat} (hi : i ≤ cs.length) : Txt.find3 ⟨cs.toArray⟩ ⟨#[c]⟩ (i : Int) = findC cs c i := by
  have hf : PySem.fromIndex (⟨cs.toArray⟩ : Str).length (i : Int) = i := by
    rw [len_T]
    unfold PySem.fromIndex
    first
      | (simp; omega)
      | (simp; done)
      | omega
  have gd : ∀ v, v < cs.length → (⟨cs.toArray⟩ : Str).cps.getD v 0 = cs.getD v 0 := fun v hv => by simp [Array.getD, hv, List.getD]
  unfold findC
  rcases StrLaws.find3_spec ⟨cs.toArray⟩ c (i : Int) with ⟨e, hn⟩ | ⟨k, e, h1, h2, h3, h4⟩
  · rw [hf] at hn
    rw [len_T] at hn
    rw [e, if_neg]
    intro hlt
    have hl2 : ((cs.drop i).takeWhile (fun x => x != c)).length < (cs.drop i).length := by rw [List.length_drop]; omega
    obtain ⟨x, ex, hx⟩ := tw_end hl2
    have : x = c := by simpa using hx
    subst this
    rw [List.getElem?_drop] at ex
    obtain ⟨hv, ev⟩ := List.getElem?_eq_some_iff.mp ex
    refine hn _ (Nat.le_add_right _ _) hv ?_
    rw [gd _ hv, List.getD_eq_getElem?_getD, ex]
    rfl
  · rw [hf] at h1 h4
    rw [len_T] at h2
    have hk : (cs.drop i)[k - i]? = some c := by
      rw [List.getElem?_drop, show i + (k - i) = k by omega, List.getElem?_eq_getElem h2]
      rw [gd _ h2, List.getD_eq_getElem?_getD, List.getElem?_eq_getElem h2] at h3
      exact congrArg some h3
    have hb : ∀ j, j < k - i → (cs.drop i)[j]? ≠ some c := fun j hj z => by
      rw [List.getElem?_drop] at z
      obtain ⟨hv, ev⟩ := List.getElem?_eq_some_iff.mp z
      refine h4 (i + j) (Nat.le_add_right _ _) (by omega) ?_
      rw [gd _ hv, List.getD_eq_getElem?_getD, z]
      rfl
    have hl := tw_first hk hb
    rw [e, hl, if_pos (by omega)]
    congr 1
    omega
theorem w_find {Q : VK} {H : Hp} {cs : List Nat} {c i : Nat} (hi : i ≤ cs.length) (k : Q (.int (findC cs c i)) H) : rFind3 (T cs) [T [c], .int (i : Int)] H Q :=
  ⟨_, ⟨#[c]⟩, _, rfl, rfl, by rw [find_T hi]; exact k⟩
theorem starts_T {cs b : List Nat} {i : Nat} (hi : i ≤ cs.length) : Txt.startswith3 ⟨cs.toArray⟩ ⟨b.toArray⟩ (i : Int) = b.isPrefixOf (cs.drop i) := by
  have hf : PySem.fromIndex (⟨cs.toArray⟩ : Str).length (i : Int) = i := by
    rw [len_T]
    unfold PySem.fromIndex
    first
      | (simp; omega)
      | (simp; done)
      | omega
  unfold Txt.startswith3
  rw [hf, len_T, len_T]
  have e : Builtin.Str.subAt ⟨cs.toArray⟩ ⟨b.toArray⟩ i = decide ((cs.drop i).take b.length = b) := by
    unfold Builtin.Str.subAt
    rw [len_T]
    have : (⟨cs.toArray⟩ : Str).cps.extract i (i + b.length) = ((cs.drop i).take b.length).toArray := by
      apply Array.ext'
      simp [List.extract_eq_drop_take, List.take_drop]
    rw [this]
    by_cases h : (cs.drop i).take b.length = b
    · rw [decide_eq_true h, h]; simp
    · rw [decide_eq_false h]
      refine beq_eq_false_iff_ne.mpr fun z => h ?_
      have := congrArg Array.toList z
      simpa using this
  rw [e, Bool.eq_iff_iff, List.isPrefixOf_iff_prefix, Bool.and_eq_true, decide_eq_true_iff, decide_eq_true_iff]
  constructor
  · rintro ⟨_, h⟩
    rw [← h]
    exact List.take_prefix _ _
  · intro h
    have hl := h.length_le
    rw [List.length_drop] at hl
    refine ⟨by have : b.length = 0 ∨ 0 < b.length := by omega
               omega, (List.prefix_iff_eq_take.mp h).symm⟩
theorem w_starts {Q : VK} {H : Hp} {cs b : List Nat} {i : Nat} (hi : i ≤ cs.length) (k : Q (.bl (b.isPrefixOf (cs.drop i))) H) : rStarts3 (T cs) [T b, .int (i : Int)] H Q :=
  ⟨_, ⟨b.toArray⟩, _, rfl, rfl, by rw [starts_T hi]; exact k⟩
theorem dig_ascii : ∀ c, c < 128 → Unicode.isDigit c = (decide (48 ≤ c) && decide (c ≤ 57)) := by decide +kernel
theorem w_isdigit {Q : VK} {H : Hp} {cs : List Nat} (hne : cs ≠ []) (ha : ∀ c ∈ cs, c < 128) (k : Q (.bl (cs.all fun c => decide (48 ≤ c) && decide (c ≤ 57))) H) : rIsdigit (T cs) [] H Q := by
  refine ⟨_, rfl, rfl, trivial, ?_⟩
  have e : Txt.isdigit ⟨cs.toArray⟩ = cs.all fun c => decide (48 ≤ c) && decide (c ≤ 57) := by
    unfold Txt.isdigit
    rw [len_T]
    have h0 : 0 < cs.length := by
      cases cs with
      | nil => exact absurd rfl hne
      | cons _ _ => simp
    have h1 : cs.toArray.all Unicode.isDigit = cs.all fun c => decide (48 ≤ c) && decide (c ≤ 57) := by
      rw [List.all_toArray]
      rw [Bool.eq_iff_iff, List.all_eq_true, List.all_eq_true]
      exact ⟨fun h c hc => by rw [← dig_ascii c (ha c hc)]; exact h c hc, fun h c hc => by rw [dig_ascii c (ha c hc)]; exact h c hc⟩
    show (decide (cs.length > 0) && cs.toArray.all Unicode.isDigit) = _
    rw [h1, decide_eq_true h0, Bool.true_and]
  rw [e]
  exact k
end Lv
/-! Trees of tuples, texts, numbers, truths and None; two of one shape are told the same. -/
namespace Lv
open PySem PySem.Spec PyProof.Rows L2
inductive Tr where
  | s (a : List Nat)
  | i (x : Int)
  | b (x : Bool)
  | n
  | t (l : List Tr)
mutual
inductive TrAt (K : PySem.W.Frag) (H : Hp) : V → Tr → Prop
  | s {a : List Nat} : TrAt K H (T a) (.s a)
  | i {x : Int} : TrAt K H (.int x) (.i x)
  | b {x : Bool} : TrAt K H (.bl x) (.b x)
  | n : TrAt K H .non .n
  | t {p : Addr} {vs : List V} {l : List Tr} : SqT K H p vs → TrsAt K H vs l → TrAt K H (.ref p) (.t l)
inductive TrsAt (K : PySem.W.Frag) (H : Hp) : List V → List Tr → Prop
  | nil : TrsAt K H [] []
  | cons {v : V} {t : Tr} {vs : List V} {l : List Tr} : TrAt K H v t → TrsAt K H vs l → TrsAt K H (v :: vs) (t :: l)
end
mutual
theorem TrAt.imp {K : PySem.W.Frag} {H H' : Hp} (f : ∀ p vs, SqT K H p vs → SqT K H' p vs) : ∀ {v : V} {t : Tr}, TrAt K H v t → TrAt K H' v t
  | _, _, .s => .s
  | _, _, .i => .i
  | _, _, .b => .b
  | _, _, .n => .n
  | _, _, .t h r => .t (f _ _ h) (TrsAt.imp f r)
theorem TrsAt.imp {K : PySem.W.Frag} {H H' : Hp} (f : ∀ p vs, SqT K H p vs → SqT K H' p vs) : ∀ {vs : List V} {l : List Tr}, TrsAt K H vs l → TrsAt K H' vs l
  | _, _, .nil => .nil
  | _, _, .cons h r => .cons (TrAt.imp f h) (TrsAt.imp f r)
end
theorem TrAt.same {K : PySem.W.Frag} {H H1 : Hp} {v : V} {t : Tr} (h : TrAt K H v t) (s : Same H H1) : TrAt K H1 v t := h.imp fun p vs q => Same.sqT s q
theorem TrsAt.same {K : PySem.W.Frag} {H H1 : Hp} {vs : List V} {l : List Tr} (h : TrsAt K H vs l) (s : Same H H1) : TrsAt K H1 vs l := h.imp fun p vs q => Same.sqT s q
theorem sqT_but {K : PySem.W.Frag} {D p : Addr} {H H1 : Hp} {xs vs : List V} (q : SqT K H p vs) (hD : H D = some (.lst xs)) (k : ∀ b o, b ≠ D → H b = some o → H1 b = some o) : SqT K H1 p vs := by
  rcases q with (h | ⟨o, h⟩) | h
  · exact .inl (.inl (k _ _ (fun e => by rw [e, hD] at h; cases h) h))
  · exact .inl (.inr ⟨o, k _ _ (fun e => by rw [e, hD] at h; cases h) h⟩)
  · exact .inr h
theorem TrAt.but {K : PySem.W.Frag} {D : Addr} {H H1 : Hp} {xs : List V} {v : V} {t : Tr} (h : TrAt K H v t) (hD : H D = some (.lst xs)) (k : ∀ b o, b ≠ D → H b = some o → H1 b = some o) : TrAt K H1 v t := h.imp fun _ _ q => sqT_but q hD k
theorem TrsAt.but {K : PySem.W.Frag} {D : Addr} {H H1 : Hp} {xs : List V} {vs : List V} {l : List Tr} (h : TrsAt K H vs l) (hD : H D = some (.lst xs)) (k : ∀ b o, b ≠ D → H b = some o → H1 b = some o) : TrsAt K H1 vs l := h.imp fun _ _ q => sqT_but q hD k
theorem TrsAt.snoc {K : PySem.W.Frag} {H : Hp} {v : V} {t : Tr} (h : TrAt K H v t) : ∀ {vs : List V} {l : List Tr}, TrsAt K H vs l → TrsAt K H (vs ++ [v]) (l ++ [t])
  | _, _, .nil => .cons h .nil
  | _, _, .cons a r => .cons a (TrsAt.snoc h r)
theorem TrsAt.length {K : PySem.W.Frag} {H : Hp} : ∀ {vs : List V} {l : List Tr}, TrsAt K H vs l → vs.length = l.length
  | _, _, .nil => rfl
  | _, _, .cons _ r => by rw [List.length_cons, List.length_cons, TrsAt.length r]
theorem TrsAt.get {K : PySem.W.Frag} {H : Hp} : ∀ {vs : List V} {l : List Tr} {i : Nat}, TrsAt K H vs l → i < l.length → ∃ v t, vs[i]? = some v ∧ l[i]? = some t ∧ TrAt K H v t
  | _, _, _, .nil, h => absurd h (Nat.not_lt_zero _)
  | _, _, 0, .cons h _, _ => ⟨_, _, rfl, rfl, h⟩
  | _, _, i + 1, .cons _ r, h => by
    obtain ⟨v, t, h1, h2, h3⟩ := TrsAt.get r (i := i) (by simpa using h)
    exact ⟨v, t, by simpa using h1, by simpa using h2, h3⟩
theorem trs_texts {K : PySem.W.Frag} {H : Hp} : ∀ l : List (List Nat), TrsAt K H (l.map T) (l.map Tr.s)
  | [] => .nil
  | _ :: l => .cons .s (trs_texts l)
def TrD : Nat → Tr → Prop
  | 0, _ => False
  | n + 1, .t l => l.length < 1000000 ∧ ∀ t ∈ l, TrD n t
  | _ + 1, _ => True
/-! isinstance -/
section
variable {K : PySem.W.Frag} {H : Hp} {Q : VK}
theorem w_isi {x : V} {a ty : String} {r : Bool} (hx : TyX K H x (.type a)) (k : Q (.bl r) H) (hk : kitB a ty = some r := by decide +kernel) : rIsi K [x, .ty ty] H Q := ⟨_, _, _, _, _, rfl, .ty _, hx, kit_ty hk, k⟩
theorem tyx_tup {p : Addr} {vs : List V} (h : SqT K H p vs) : TyX K H (.ref p) (.type "tuple") := by
  rcases h with (h | ⟨o, h⟩) | ⟨o, its, n, h, e1, e2, _⟩
  · exact .base (.tup h)
  · exact .fTuple h
  · exact .kTuple h e1
theorem tyx_s {a : List Nat} : TyX K H (T a) (.type "str") := .base (.str _)
theorem tyx_i {i : Int} : TyX K H (.int i) (.type "int") := .base (.int _)
theorem tyx_b {b : Bool} : TyX K H (.bl b) (.type "bool") := .base (.bl _)
theorem tyx_n : TyX K H .non (.type "NoneType") := .base .non
theorem isi_s_tuple {a : List Nat} (k : Q (.bl false) H) : rIsi K [T a, .ty "tuple"] H Q := w_isi (r := false) tyx_s k
instance {a : List Nat} : Wk1 (rIsi K [T a, .ty "tuple"] H Q) (Q (.bl false) H) := ⟨isi_s_tuple⟩
theorem isi_s_bool {a : List Nat} (k : Q (.bl false) H) : rIsi K [T a, .ty "bool"] H Q := w_isi (r := false) tyx_s k
instance {a : List Nat} : Wk1 (rIsi K [T a, .ty "bool"] H Q) (Q (.bl false) H) := ⟨isi_s_bool⟩
theorem isi_s_int {a : List Nat} (k : Q (.bl false) H) : rIsi K [T a, .ty "int"] H Q := w_isi (r := false) tyx_s k
instance {a : List Nat} : Wk1 (rIsi K [T a, .ty "int"] H Q) (Q (.bl false) H) := ⟨isi_s_int⟩
theorem isi_s_str {a : List Nat} (k : Q (.bl true) H) : rIsi K [T a, .ty "str"] H Q := w_isi (r := true) tyx_s k
instance {a : List Nat} : Wk1 (rIsi K [T a, .ty "str"] H Q) (Q (.bl true) H) := ⟨isi_s_str⟩
theorem isi_i_tuple {i : Int} (k : Q (.bl false) H) : rIsi K [.int i, .ty "tuple"] H Q := w_isi (r := false) tyx_i k
instance {i : Int} : Wk1 (rIsi K [.int i, .ty "tuple"] H Q) (Q (.bl false) H) := ⟨isi_i_tuple⟩
theorem isi_i_bool {i : Int} (k : Q (.bl false) H) : rIsi K [.int i, .ty "bool"] H Q := w_isi (r := false) tyx_i k
instance {i : Int} : Wk1 (rIsi K [.int i, .ty "bool"] H Q) (Q (.bl false) H) := ⟨isi_i_bool⟩
theorem isi_i_int {i : Int} (k : Q (.bl true) H) : rIsi K [.int i, .ty "int"] H Q := w_isi (r := true) tyx_i k
instance {i : Int} : Wk1 (rIsi K [.int i, .ty "int"] H Q) (Q (.bl true) H) := ⟨isi_i_int⟩
theorem isi_i_str {i : Int} (k : Q (.bl false) H) : rIsi K [.int i, .ty "str"] H Q := w_isi (r := false) tyx_i k
instance {i : Int} : Wk1 (rIsi K [.int i, .ty "str"] H Q) (Q (.bl false) H) := ⟨isi_i_str⟩
theorem isi_b_tuple {b : Bool} (k : Q (.bl false) H) : rIsi K [.bl b, .ty "tuple"] H Q := w_isi (r := false) tyx_b k
instance {b : Bool} : Wk1 (rIsi K [.bl b, .ty "tuple"] H Q) (Q (.bl false) H) := ⟨isi_b_tuple⟩
theorem isi_b_bool {b : Bool} (k : Q (.bl true) H) : rIsi K [.bl b, .ty "bool"] H Q := w_isi (r := true) tyx_b k
instance {b : Bool} : Wk1 (rIsi K [.bl b, .ty "bool"] H Q) (Q (.bl true) H) := ⟨isi_b_bool⟩
theorem isi_b_int {b : Bool} (k : Q (.bl true) H) : rIsi K [.bl b, .ty "int"] H Q := w_isi (r := true) tyx_b k
instance {b : Bool} : Wk1 (rIsi K [.bl b, .ty "int"] H Q) (Q (.bl true) H) := ⟨isi_b_int⟩
theorem isi_b_str {b : Bool} (k : Q (.bl false) H) : rIsi K [.bl b, .ty "str"] H Q := w_isi (r := false) tyx_b k
instance {b : Bool} : Wk1 (rIsi K [.bl b, .ty "str"] H Q) (Q (.bl false) H) := ⟨isi_b_str⟩
theorem isi_n_tuple  (k : Q (.bl false) H) : rIsi K [.non, .ty "tuple"] H Q := w_isi (r := false) tyx_n k
instance  : Wk1 (rIsi K [.non, .ty "tuple"] H Q) (Q (.bl false) H) := ⟨isi_n_tuple⟩
theorem isi_n_bool  (k : Q (.bl false) H) : rIsi K [.non, .ty "bool"] H Q := w_isi (r := false) tyx_n k
instance  : Wk1 (rIsi K [.non, .ty "bool"] H Q) (Q (.bl false) H) := ⟨isi_n_bool⟩
theorem isi_n_int  (k : Q (.bl false) H) : rIsi K [.non, .ty "int"] H Q := w_isi (r := false) tyx_n k
instance  : Wk1 (rIsi K [.non, .ty "int"] H Q) (Q (.bl false) H) := ⟨isi_n_int⟩
theorem isi_n_str  (k : Q (.bl false) H) : rIsi K [.non, .ty "str"] H Q := w_isi (r := false) tyx_n k
instance  : Wk1 (rIsi K [.non, .ty "str"] H Q) (Q (.bl false) H) := ⟨isi_n_str⟩
theorem isi_t_tuple {p : Addr} (h : ∃ vs, SqT K H p vs) (k : Q (.bl true) H) : rIsi K [.ref p, .ty "tuple"] H Q := w_isi (r := true) (h.elim fun _ h => tyx_tup h) k
theorem isi_t_bool {p : Addr} (h : ∃ vs, SqT K H p vs) (k : Q (.bl false) H) : rIsi K [.ref p, .ty "bool"] H Q := w_isi (r := false) (h.elim fun _ h => tyx_tup h) k
theorem isi_t_int {p : Addr} (h : ∃ vs, SqT K H p vs) (k : Q (.bl false) H) : rIsi K [.ref p, .ty "int"] H Q := w_isi (r := false) (h.elim fun _ h => tyx_tup h) k
theorem isi_t_str {p : Addr} (h : ∃ vs, SqT K H p vs) (k : Q (.bl false) H) : rIsi K [.ref p, .ty "str"] H Q := w_isi (r := false) (h.elim fun _ h => tyx_tup h) k
end

/-! is it None -/
theorem ifN_s {a : List Nat} {A B : Prop} (k : B) : if decide (T a = V.non) = true then A else B := by rw [if_neg (by simp)]; exact k
instance {a : List Nat} {A B : Prop} : Wk1 (if decide (T a = V.non) = true then A else B) (B) := ⟨ifN_s⟩
theorem ifN_i {a : Int} {A B : Prop} (k : B) : if decide (V.int a = V.non) = true then A else B := by rw [if_neg (by simp)]; exact k
instance {a : Int} {A B : Prop} : Wk1 (if decide (V.int a = V.non) = true then A else B) (B) := ⟨ifN_i⟩
theorem ifN_b {a : Bool} {A B : Prop} (k : B) : if decide (V.bl a = V.non) = true then A else B := by rw [if_neg (by simp)]; exact k
instance {a : Bool} {A B : Prop} : Wk1 (if decide (V.bl a = V.non) = true then A else B) (B) := ⟨ifN_b⟩
theorem ifN_r {a : Addr} {A B : Prop} (k : B) : if decide (V.ref a = V.non) = true then A else B := by rw [if_neg (by simp)]; exact k
instance {a : Addr} {A B : Prop} : Wk1 (if decide (V.ref a = V.non) = true then A else B) (B) := ⟨ifN_r⟩
theorem ifN_n {A B : Prop} (k : A) : if decide (V.non = V.non) = true then A else B := by rw [if_pos (by simp)]; exact k
instance {A B : Prop} : Wk1 (if decide (V.non = V.non) = true then A else B) (A) := ⟨ifN_n⟩
theorem ifM_s {a : List Nat} {A B : Prop} (k : A) : if (!decide (T a = V.non)) = true then A else B := by rw [if_pos (by simp)]; exact k
instance {a : List Nat} {A B : Prop} : Wk1 (if (!decide (T a = V.non)) = true then A else B) (A) := ⟨ifM_s⟩
theorem ifM_i {a : Int} {A B : Prop} (k : A) : if (!decide (V.int a = V.non)) = true then A else B := by rw [if_pos (by simp)]; exact k
instance {a : Int} {A B : Prop} : Wk1 (if (!decide (V.int a = V.non)) = true then A else B) (A) := ⟨ifM_i⟩
theorem ifM_b {a : Bool} {A B : Prop} (k : A) : if (!decide (V.bl a = V.non)) = true then A else B := by rw [if_pos (by simp)]; exact k
instance {a : Bool} {A B : Prop} : Wk1 (if (!decide (V.bl a = V.non)) = true then A else B) (A) := ⟨ifM_b⟩
theorem ifM_r {a : Addr} {A B : Prop} (k : A) : if (!decide (V.ref a = V.non)) = true then A else B := by rw [if_pos (by simp)]; exact k
instance {a : Addr} {A B : Prop} : Wk1 (if (!decide (V.ref a = V.non)) = true then A else B) (A) := ⟨ifM_r⟩
theorem ifM_n {A B : Prop} (k : B) : if (!decide (V.non = V.non)) = true then A else B := by rw [if_neg (by simp)]; exact k
instance {A B : Prop} : Wk1 (if (!decide (V.non = V.non)) = true then A else B) (B) := ⟨ifM_n⟩
theorem ifB_tt {A B : Prop} (k : A) : if decide (V.bl true = V.bl true) = true then A else B := by rw [if_pos (by simp)]; exact k
instance {A B : Prop} : Wk1 (if decide (V.bl true = V.bl true) = true then A else B) (A) := ⟨ifB_tt⟩
theorem ifB_ff {A B : Prop} (k : A) : if decide (V.bl false = V.bl false) = true then A else B := by rw [if_pos (by simp)]; exact k
instance {A B : Prop} : Wk1 (if decide (V.bl false = V.bl false) = true then A else B) (A) := ⟨ifB_ff⟩
theorem ifB_tf {A B : Prop} (k : B) : if decide (V.bl true = V.bl false) = true then A else B := by rw [if_neg (by simp)]; exact k
instance {A B : Prop} : Wk1 (if decide (V.bl true = V.bl false) = true then A else B) (B) := ⟨ifB_tf⟩
theorem ifB_ft {A B : Prop} (k : B) : if decide (V.bl false = V.bl true) = true then A else B := by rw [if_neg (by simp)]; exact k
instance {A B : Prop} : Wk1 (if decide (V.bl false = V.bl true) = true then A else B) (B) := ⟨ifB_ft⟩
end Lv
/-! More steps: a comprehension over a range or a list, the heap a letter; enumerate over a list; a tuple's index; not in. -/
namespace Lv
open PySem PySem.Spec PyProof.Rows L2
def But (D : Addr) (H H1 : Hp) : Prop := ∀ b o, b ≠ D → H b = some o → H1 b = some o
theorem same_of_but {D : Addr} {H H1 H2 : Hp} (hD : H D = none) (s : Same H H1) (k : But D H1 H2) : Same H H2 := fun b o h => k b o (fun e => by rw [e, hD] at h; cases h) (s b o h)
section
variable {σ : L2.St} {H : Hp} {Q : VK} {K : PySem.W.Frag}
def LcR (g : TG) (tt : TT) (te : TE) (vs : List Nat) (ws : List V) (σ : L2.St) (H : Hp) (Q : VK) : Prop := ∃ j : Int, ws = [.int j] ∧ -(2 ^ 62) ≤ j ∧ j < 2 ^ 62 ∧ ∀ D, H D = none → ∃ W : Nat → Nat → Hp → Prop, (∃ m, W 0 m (upd H D (.lst []))) ∧ ∀ i m H, W i m H →
  ((Itr 0 j.toNat).stop i H ∧ Q (.ref D) H) ∨ ((Itr 0 j.toNat).go i H ∧ ∃ Nx : Hp → Prop, (∀ H', Nx H' → ∃ m', m' < m ∧ W (i + 1) m' H') ∧ ∀ x H', (Itr 0 j.toNat).yld i H x H' → g x (wipe σ vs) H' fun σ2 H2 => wipe σ2 vs = wipe σ vs ∧ tt σ2 H2 fun b H3 =>
    if b = true then te σ2 H3 fun y H4 => ∃ acc, H4 D = some (.lst acc) ∧ acc.length < sizeLine ∧ Nx (upd H4 D (.lst (acc ++ [y]))) else Nx H3)
theorem w_lcR {ta : TA} {g : TG} {tt : TT} {te : TE} {vs : List Nat} (k : ta σ H fun ws H1 => LcR g tt te vs ws σ H1 Q) : tLc (iRng1 ta) g tt te vs σ H Q := k
instance {ta : TA} {g : TG} {tt : TT} {te : TE} {vs : List Nat} : Wk1 (tLc (iRng1 ta) g tt te vs σ H Q) (ta σ H fun ws H1 => LcR g tt te vs ws σ H1 Q) := ⟨w_lcR⟩
def LcN (Pv : Addr → Nat → List V → Hp → Prop) (D : Addr) (i : Nat) (H1 : Hp) : Prop := ∃ acc, acc.length ≤ i ∧ H1 D = some (.lst acc) ∧ Pv D i acc H1
theorem lc_skip {Pv : Addr → Nat → List V → Hp → Prop} {D : Addr} {i : Nat} {acc : List V} {H1 : Hp} (hl : acc.length ≤ i) (h : H1 D = some (.lst acc)) (p : Pv D (i + 1) acc H1) : LcN Pv D (i + 1) H1 := ⟨acc, by omega, h, p⟩
theorem lc_keep {Pv : Addr → Nat → List V → Hp → Prop} {D : Addr} {i : Nat} {acc : List V} {y : V} {H1 : Hp} (hl : acc.length ≤ i) (hi : i < 1000000) (h : H1 D = some (.lst acc)) (p : ∀ H5, H5 D = some (.lst (acc ++ [y])) → But D H1 H5 → Pv D (i + 1) (acc ++ [y]) H5) :
    ∃ acc, H1 D = some (.lst acc) ∧ acc.length < sizeLine ∧ LcN Pv D (i + 1) (upd H1 D (.lst (acc ++ [y]))) :=
  ⟨acc, h, Nat.lt_of_le_of_lt hl (Nat.lt_trans hi (by decide)), acc ++ [y], by rw [List.length_append]; show acc.length + 1 ≤ i + 1; omega, upd_same, p _ upd_same fun b o n e => by rw [upd_ne n]; exact e⟩
theorem lc_R {g : TG} {tt : TT} {te : TE} {vs : List Nat} {j : Int} (Pv : Addr → Nat → List V → Hp → Prop) (hj : 0 ≤ j) (hn : j < 1000000)
    (h0 : ∀ D H1, H D = none → Same H H1 → H1 D = some (.lst []) → Pv D 0 [] H1)
    (hs : ∀ D (i : Nat) acc H1, (i : Int) < j → acc.length ≤ i → H1 D = some (.lst acc) → Pv D i acc H1 → g (.int (0 + (i : Int))) (wipe σ vs) H1 fun σ2 H2 => wipe σ2 vs = wipe σ vs ∧ tt σ2 H2 fun b H3 =>
      if b = true then te σ2 H3 fun y H4 => ∃ acc, H4 D = some (.lst acc) ∧ acc.length < sizeLine ∧ LcN Pv D (i + 1) (upd H4 D (.lst (acc ++ [y]))) else LcN Pv D (i + 1) H3)
    (hd : ∀ D acc H1, acc.length ≤ j.toNat → H1 D = some (.lst acc) → Pv D j.toNat acc H1 → Q (.ref D) H1) : LcR g tt te vs [.int j] σ H Q := by
  refine ⟨j, rfl, by omega, by omega, fun D hD => ?_⟩
  refine ⟨fun i m H1 => m = j.toNat - i ∧ i ≤ j.toNat ∧ LcN Pv D i H1, ⟨j.toNat, by simp, Nat.zero_le _, [], Nat.le_refl _, upd_same, h0 D _ hD (same_new0 hD) upd_same⟩, ?_⟩
  rintro i m H1 ⟨rfl, hi, acc, ha, hD1, p⟩
  by_cases hlt : i < j.toNat
  · refine .inr ⟨hlt, LcN Pv D (i + 1), fun H' p' => ⟨j.toNat - (i + 1), by omega, rfl, hlt, p'⟩, fun x H' y => ?_⟩
    obtain ⟨e, y⟩ := y
    subst e y
    exact hs D i acc _ (by omega) ha hD1 p
  · have e : i = j.toNat := by omega
    subst e
    exact .inl ⟨Nat.le_refl _, hd D acc _ ha hD1 p⟩
def LcL (K : PySem.W.Frag) (g : TG) (tt : TT) (te : TE) (vs : List Nat) (x : V) (σ : L2.St) (H : Hp) (Q : VK) : Prop := ∃ a, x = .ref a ∧ (∃ xs, SqL K H a xs) ∧ ∀ D, H D = none → ∃ W : Nat → Nat → Hp → Prop, (∃ m, W 0 m (upd H D (.lst []))) ∧ ∀ i m H, W i m H →
  ((Itl K a).stop i H ∧ Q (.ref D) H) ∨ ((Itl K a).go i H ∧ ∃ Nx : Hp → Prop, (∀ H', Nx H' → ∃ m', m' < m ∧ W (i + 1) m' H') ∧ ∀ x H', (Itl K a).yld i H x H' → g x (wipe σ vs) H' fun σ2 H2 => wipe σ2 vs = wipe σ vs ∧ tt σ2 H2 fun b H3 =>
    if b = true then te σ2 H3 fun y H4 => ∃ acc, H4 D = some (.lst acc) ∧ acc.length < sizeLine ∧ Nx (upd H4 D (.lst (acc ++ [y]))) else Nx H3)
theorem w_lcL {te0 : TE} {g : TG} {tt : TT} {te : TE} {vs : List Nat} (k : te0 σ H fun x H1 => LcL K g tt te vs x σ H1 Q) : tLc (iList K te0) g tt te vs σ H Q := k
instance {te0 : TE} {g : TG} {tt : TT} {te : TE} {vs : List Nat} : Wk1 (tLc (iList K te0) g tt te vs σ H Q) (te0 σ H fun x H1 => LcL K g tt te vs x σ H1 Q) := ⟨w_lcL⟩
theorem lc_L {g : TG} {tt : TT} {te : TE} {vs : List Nat} {a : Addr} {xs : List V} (Pv : Addr → Nat → List V → Hp → Prop) (ha : SqL K H a xs)
    (h0 : ∀ D H1, H D = none → Same H H1 → H1 D = some (.lst []) → Pv D 0 [] H1)
    (hl : ∀ D i acc H1, i ≤ xs.length → Pv D i acc H1 → SqL K H1 a xs)
    (hs : ∀ D (i : Nat) x acc H1, xs[i]? = some x → acc.length ≤ i → H1 D = some (.lst acc) → Pv D i acc H1 → g x (wipe σ vs) H1 fun σ2 H2 => wipe σ2 vs = wipe σ vs ∧ tt σ2 H2 fun b H3 =>
      if b = true then te σ2 H3 fun y H4 => ∃ acc, H4 D = some (.lst acc) ∧ acc.length < sizeLine ∧ LcN Pv D (i + 1) (upd H4 D (.lst (acc ++ [y]))) else LcN Pv D (i + 1) H3)
    (hd : ∀ D acc H1, acc.length ≤ xs.length → H1 D = some (.lst acc) → Pv D xs.length acc H1 → Q (.ref D) H1) : LcL K g tt te vs (.ref a) σ H Q := by
  refine ⟨a, rfl, ⟨xs, ha⟩, fun D hD => ?_⟩
  refine ⟨fun i m H1 => m = xs.length - i ∧ i ≤ xs.length ∧ LcN Pv D i H1, ⟨xs.length, by simp, Nat.zero_le _, [], Nat.le_refl _, upd_same, h0 D _ hD (same_new0 hD) upd_same⟩, ?_⟩
  rintro i m H1 ⟨rfl, hi, acc, hac, hD1, p⟩
  have q := hl D i acc H1 hi p
  by_cases hlt : i < xs.length
  · refine .inr ⟨⟨xs, xs[i], q, List.getElem?_eq_getElem hlt⟩, LcN Pv D (i + 1), fun H' p' => ⟨xs.length - (i + 1), by omega, rfl, hlt, p'⟩, fun x H' y => ?_⟩
    obtain ⟨e, y⟩ := y
    subst e
    exact hs D i x acc _ (y xs q) hac hD1 p
  · have e : i = xs.length := by omega
    subst e
    exact .inl ⟨⟨xs, q, Nat.le_refl _⟩, hd D acc _ hac hD1 p⟩
theorem w_yes {G : Bool → Hp → Prop} (k : G true H) : tYes σ H G := k
instance {G : Bool → Hp → Prop} : Wk1 (tYes σ H G) (G true H) := ⟨w_yes⟩
/-! truth of a value -/
def rTru (K : PySem.W.Frag) (x : V) (H : Hp) (Q : Bool → Hp → Prop) : Prop := ∃ k, TruV K x H k ∧ Q k H
def tTruV (K : PySem.W.Frag) (ta : TE) : TT := fun σ H Q => ta σ H fun x H' => rTru K x H' Q
theorem pt_tru {X : Cx} {a : Expr} {ta : TE} (ha : PE X a ta) (he : ∀ whole, isTrue a X.env whole = (do let v ← whole; standAt a.pos; holding [v] (truthy v)) := by intro _; rfl) : PT X a (tTruV X.K ta) := pt_truth ha he
theorem w_tru {ta : TE} {G : Bool → Hp → Prop} (k : ta σ H fun x H' => rTru K x H' G) : tTruV K ta σ H G := k
instance {ta : TE} {G : Bool → Hp → Prop} : Wk1 (tTruV K ta σ H G) (ta σ H fun x H' => rTru K x H' G) := ⟨w_tru⟩
theorem w_truL {p : Addr} {xs : List V} {G : Bool → Hp → Prop} (h : SqL K H p xs) (k1 : xs ≠ [] → G true H) (k2 : xs = [] → G false H) : rTru K (.ref p) H G := by
  refine ⟨!xs.isEmpty, .inl ⟨xs, h, rfl⟩, ?_⟩
  cases xs with
  | nil => exact k2 rfl
  | cons x xs => exact k1 (List.cons_ne_nil _ _)
theorem w_truT {p : Addr} {xs : List V} {G : Bool → Hp → Prop} (h : SqT K H p xs) (k1 : xs ≠ [] → G true H) (k2 : xs = [] → G false H) : rTru K (.ref p) H G := by
  refine ⟨!xs.isEmpty, .inr (.inl ⟨xs, h, rfl⟩), ?_⟩
  cases xs with
  | nil => exact k2 rfl
  | cons x xs => exact k1 (List.cons_ne_nil _ _)
/-! is None -/
def rIsN : R2 := fun x y H Q => y = .non ∧ Q (.bl (decide (x = .non))) H
theorem op_isN {X : Cx} : OpR X (compareOp .Is) rIsN := L2.op_isN
theorem w_isN {x : V} (k : Q (.bl (decide (x = .non))) H) : rIsN x .non H Q := ⟨rfl, k⟩
instance {x : V} : Wk1 (rIsN x .non H Q) (Q (.bl (decide (x = .non))) H) := ⟨w_isN⟩
def rNotN : R2 := fun x y H Q => y = .non ∧ Q (.bl (!decide (x = .non))) H
theorem op_notN {X : Cx} : OpR X (compareOp .IsNot) rNotN := L2.op_notN
theorem w_notN {x : V} (k : Q (.bl (!decide (x = .non))) H) : rNotN x .non H Q := ⟨rfl, k⟩
instance {x : V} : Wk1 (rNotN x .non H Q) (Q (.bl (!decide (x = .non))) H) := ⟨w_notN⟩
/-! not in -/
theorem w_ninL {a : List Nat} {p : Addr} {l : List (List Nat)} (h : SqL K H p (l.map T)) (k : Q (.bl (!decide (a ∈ l))) H) : rIn K true (T a) (.ref p) H Q :=
  ⟨p, _, rfl, .inl h, rfl, flat_T l, by rw [if_pos rfl, inV_T]; exact k⟩
/-! tuple(list): the new tuple's object is known (it has no dict) -/
def FT (H : Hp) (p : Addr) (xs : List V) : Prop := ∃ o : Obj, o.dict = none ∧ H p = some (.frz o (.tup xs))
theorem FT.sq {p : Addr} {xs : List V} (h : FT H p xs) : SqT K H p xs := by
  obtain ⟨o, _, h⟩ := h
  exact .inl (.inr ⟨o, h⟩)
theorem FT.same {p : Addr} {xs : List V} {H1 : Hp} (h : FT H p xs) (s : Same H H1) : FT H1 p xs := by
  obtain ⟨o, e, h⟩ := h
  exact ⟨o, e, s _ _ h⟩
theorem FT.but {p D : Addr} {xs ys : List V} {H1 : Hp} (h : FT H p xs) (hD : H D = some (.lst ys)) (k : ∀ b o, b ≠ D → H b = some o → H1 b = some o) : FT H1 p xs := by
  obtain ⟨o, e, h⟩ := h
  exact ⟨o, e, k _ _ (fun z => by rw [z, hD] at h; cases h) h⟩
def rTupOf (K : PySem.W.Frag) : List V → Hp → VK → Prop := fun xs H Q => ∃ p ys, xs = [.ref p] ∧ SqL K H p ys ∧ ∀ l o, H l = none → o.dict = none → Q (.ref l) (upd H l (.frz o (.tup ys)))
theorem call_tupleOf {X : Cx} : CallR X (.type "tuple") (rTupOf X.K) := by
  intro pins s σ H xs us Q I r h
  obtain ⟨p, ys, rfl, hq, q⟩ := h
  obtain ⟨u, rfl, rx⟩ := vals1 r
  cases rx
  obtain ⟨its, r', pl, hz⟩ := I.list hq
  have hlen := r'.length
  refine call_tuple_list pl.isList (fun h' kp => ?_) (by simp only [List.size_toArray] <;> omega)
  have I1 : Inv X pins σ H { s with heap := h' } := I.kept (t' := s.toks) kp
  have I2 : Inv X pins σ (upd H h'.objs.size (.frz { cls := .type "tuple", data := .seq its.toArray } (.tup ys))) { s with heap := h'.push { cls := .type "tuple", data := .seq its.toArray } } :=
    I1.laid (t' := s.toks) (fun b o e => Heap.get?_push_of_some _ e) (Nat.le_refl _) (show ObjOk X.prog X.w _ _ _ (.frz _ (.tup ys)) from ⟨Heap.get?_push_size _ rfl, hz, its, r', IsTup.new _ _⟩)
  exact ⟨.ref h'.objs.size, _, I2, rfl, q _ _ (I1.hok.fresh (Nat.le_refl _)) rfl⟩
theorem w_tupOf {p : Addr} {ys : List V} (h : SqL K H p ys) (k : ∀ l H1, H l = none → Same H H1 → FT H1 l ys → Q (.ref l) H1) : rTupOf K [.ref p] H Q :=
  ⟨p, ys, rfl, h, fun l o hl e => k l _ hl (same_new0 hl) ⟨o, e, upd_same⟩⟩
/-! a tuple's own method -/
def tBMT (r : V → List V → Hp → VK → Prop) (to : TE) (t : TA) : TE := fun σ H Q => to σ H fun x H1 => (∃ p xs, x = .ref p ∧ FT H1 p xs) ∧ t σ H1 fun xs H2 => r x xs H2 Q
theorem w_bmT {r : V → List V → Hp → VK → Prop} {to : TE} {t : TA} {σ : L2.St} (k : to σ H fun x H1 => (∃ p xs, x = .ref p ∧ FT H1 p xs) ∧ t σ H1 fun xs H2 => r x xs H2 Q) : tBMT r to t σ H Q := k
instance {r : V → List V → Hp → VK → Prop} {to : TE} {t : TA} {σ : L2.St} : Wk1 (tBMT r to t σ H Q) (to σ H fun x H1 => (∃ p xs, x = .ref p ∧ FT H1 p xs) ∧ t σ H1 fun xs H2 => r x xs H2 Q) := ⟨w_bmT⟩
/-! t.index(x) -/
def S (a : List Nat) : Str := ⟨a.toArray⟩
theorem map_T_S (l : List (List Nat)) : l.map T = (l.map S).map V.str := by rw [List.map_map]; rfl
def rAbs : List V → Hp → VK → Prop := fun xs H Q => ∃ i, xs = [.int i] ∧ Q (.int (if i < 0 then -i else i)) H
theorem w_abs {a : Int} (k : Q (.int (if a < 0 then -a else a)) H) : rAbs [.int a] H Q := ⟨a, rfl, k⟩
instance {a : Int} : Wk1 (rAbs [.int a] H Q) (Q (.int (if a < 0 then -a else a)) H) := ⟨w_abs⟩
theorem w_neg {f : Int → V} {a : Int} (k : Q (f a) H) : rU f (.int a) H Q := ⟨a, rfl, k⟩
instance {f : Int → V} {a : Int} : Wk1 (rU f (.int a) H Q) (Q (f a) H) := ⟨w_neg⟩
def rLtS : R2 := fun x y H Q => ∃ i j, x = .str i ∧ y = .str j ∧ Q (.bl (decide (i.cps.toList < j.cps.toList))) H
theorem w_ltS {a b : List Nat} (k : Q (.bl (decide (a < b))) H) : rLtS (T a) (T b) H Q := ⟨_, _, rfl, rfl, k⟩
instance {a b : List Nat} : Wk1 (rLtS (T a) (T b) H Q) (Q (.bl (decide (a < b))) H) := ⟨w_ltS⟩
def rLeT : R2 := fun x y H Q => ∃ i j, x = .str i ∧ y = .str j ∧ Q (.bl (!decide (j.cps.toList < i.cps.toList))) H
theorem w_leS {a b : List Nat} (k : Q (.bl (!decide (b < a))) H) : rLeT (T a) (T b) H Q := ⟨_, _, rfl, rfl, k⟩
instance {a b : List Nat} : Wk1 (rLeT (T a) (T b) H Q) (Q (.bl (!decide (b < a))) H) := ⟨w_leS⟩
end
/-! for i, x in enumerate(xs), a list -/
section
variable {K : PySem.W.Frag} {ta : TA} {g : TG} {tb : TS} {D : Ends} {σ : L2.St} {H : Hp}
def ForEl (K : PySem.W.Frag) (g : TG) (tb : TS) (vs : List V) (D : Ends) (σ : L2.St) (H : Hp) : Prop := ∃ a xs, vs = [.ref a] ∧ SqL K H a xs ∧ ∃ W : Nat → Nat → L2.St → Hp → Prop, (∃ m, W 0 m σ H) ∧ ∀ i m σ H, W i m σ H →
  ((Ite K a).stop i H ∧ D.nx σ H) ∨ ((Ite K a).go i H ∧ ∃ N : L2.St → Hp → Prop, (∀ σ' H', N σ' H' → ∃ m', m' < m ∧ W (i + 1) m' σ' H') ∧ ∀ x H', (Ite K a).yld i H x H' → g x σ H' fun σ2 H2 => tb { D with nx := N, ct := N, bk := D.nx } σ2 H2)
theorem w_forEl (k : ta σ H fun vs H1 => ForEl K g tb vs D σ H1) : tFor (iEnum K ta) g tb D σ H := k
instance  : Wk1 (tFor (iEnum K ta) g tb D σ H) (ta σ H fun vs H1 => ForEl K g tb vs D σ H1) := ⟨w_forEl⟩
end
end Lv
/-! xs[a:] = ys, both lists of their own. -/
namespace L2
open PySem PySem.Spec PyProof.Rows
theorem bounds_from {a n : Nat} (h : a ≤ n) : sliceBounds (some (a : Int)) none none n = ((a : Int), (n : Int), 1) := by
  have h1 : ¬ ((a : Int) < 0) := by omega
  simp only [sliceBounds, Option.getD_none, h1, if_false, show (1 : Int) > 0 by decide, if_true]
  congr 1
  all_goals first | omega | rfl | (congr 1; omega) | simp
section
variable {prog : Program} {w : World} {A : Around} {E : Value → Shared → Prop} {s : Shared}
theorem set_from {l b sl : Addr} {xs ys : Array Value} {n m a : Nat} {vl : Value} {Q : Unit → Shared → Prop} (e1 : s.heap.get? l = some { cls := .type "list", data := .seq xs n }) (e2 : s.heap.get? b = some { cls := .type "list", data := .seq ys m })
    (ne : l ≠ b) (hs : s.heap.IsSliceOf sl vl .none .none) (pl : IsPart vl (some (a : Int))) (ha : a ≤ xs.size) (hz : xs.size + ys.size ≤ sizeLine) (h : Q () { s with heap := s.heap.update l (Obj.mapSeq fun z => z.extract 0 a ++ ys ++ z.extract xs.size z.size) }) :
    wpAny (model prog w) A (setItem (.ref l) (.ref sl) (.ref b)) Q E s := by
  have L : s.heap.IsList l xs := PySem.IsL.isList e1
  have B : s.heap.IsList b ys := PySem.IsL.isList e2
  obtain ⟨o, ho, hc, hd⟩ := id hs
  have T : s.TypeIs (.ref sl) "slice" := ⟨o, ho, hc⟩
  have nS : Builtin.List.listSameRef (.ref l) (.ref b) = false := by unfold Builtin.List.listSameRef; exact beq_eq_false_iff_ne.mpr ne
  have big : ((fun z : Array Value => z.extract 0 a ++ ys ++ z.extract xs.size z.size) xs).size ≤ sizeLine + 1 := by simp only [Array.size_append, Array.size_extract]; omega
  unfold setItem; try with_reducible refine wpAny_holding ?_
  first | refine wpAny_bind (wpAny_pure ?_) | skip
  refine wpAny_bind (wpAny_sequenceKey L.typeIs (by decide) (wpAny_bind (wpAny_callSpecial?_slot (name := Str.ofString "__setitem__") L.typeIs slot_list_setitem (wpAny_call_entry slot_list_setitem L.typeIs entry_list_setitem ?_ (args_list_setitem _ _ _)))))
  show wpAny _ _ (Builtin.List.listSubscript? (.ref sl) >>= _) _ _ s
  refine wpAny_bind ?_
  unfold Builtin.List.listSubscript?; refine wpAny_bind (wpAny_specialOf T slice_no_index ?_)
  simp only [Option.isNone_none, if_true]; refine wpAny_pure ?_
  show wpAny _ _ (typeOf (.ref sl) >>= _) _ _ s
  refine wpAny_bind (wpAny_typeOf T ?_); first | rw [if_neg (by decide)] | refine PySem.W.KFB.if_not (by decide) ?_
  rw [listSliceParts_eq]; refine wpAny_bind (wpAny_bind (wpAny_field ho hd (x := .none) rfl (wpAny_bind (wpAny_listPart .none ?_))))
  rw [if_neg (show ¬ ((rawPart none == rawInt 0) = true) from Bool.false_ne_true)]
  refine wpAny_bind (wpAny_field ho hd (x := vl) rfl (wpAny_bind (wpAny_listPart pl (wpAny_bind (wpAny_field ho hd (x := .none) rfl (wpAny_bind (wpAny_listPart .none (wpAny_pure ?_))))))))
  first | simp only [nS, Bool.false_eq_true, if_false] | refine PySem.W.KFB.if_not nS ?_ | (dsimp only; rw [if_neg (by rw [nS]; exact Bool.false_ne_true)])
  refine wpAny_bind (m := Builtin.List.listAllItems (.ref b) "must assign iterable to extended slice") ?_
  unfold Builtin.List.listAllItems; refine wpAny_bind (wpAny_typeOf B.typeIs ?_)
  first | refine PySem.W.KFB.if_so (by decide) ?_ | rw [if_pos (by decide)] | simp only [beq_self_eq_true, Bool.true_or, if_true]
  unfold Builtin.List.listItems; refine wpAny_bind (wpAny_seqItems e2 rfl (wpAny_pure (wpAny_bind (wpAny_bind (wpAny_seqItems e1 rfl (wpAny_pure ?_))))))
  refine wpAny_bind (wpAny_of_eq ((sliceIndices_raw (some (a : Int)) none none xs.size (by simp)).trans (congrArg (pure : Int × Int × Int → Sem (Int × Int × Int)) (bounds_from ha))) ?_)
  show wpAny _ _ (if ((1 : Int) == 1) = true then _ else _) _ _ s
  rw [if_pos (by decide)]; refine wpAny_bind (wpAny_rule ?_); first | simp only [notLongL hz, Bool.false_eq_true, if_false] | refine PySem.W.KFB.if_not (notLongL hz) ?_
  first | refine wpAny_bind (wpAny_pure ?_) | skip
  show wpAny _ _ (updateSeq l (fun z => z.extract 0 ((a : Int)).toNat ++ ys ++ z.extract (max (a : Int) (xs.size : Int)).toNat z.size) >>= _) _ _ s
  rw [show (max (a : Int) (xs.size : Int)).toNat = xs.size by omega, Int.toNat_natCast]
  refine wpAny_bind (wpAny_updateSeq (hz := Nat.le_trans (Nat.le_add_right _ _) hz) (_hz' := big) e1 rfl (wpAny_bind (wpAny_letGo ?_)))
  first | exact wpAny_bind (wpAny_pure (wpAny_pure ⟨.none, rfl, wpAny_pure h⟩)) | exact wpAny_pure ⟨.none, rfl, wpAny_pure h⟩
end
section
variable {X : Cx}
theorem run_from {pins : List (Addr × Obj)} {s : Shared} {σ : St} {H : Hp} {l b sl : Addr} {xs ys : List V} {a : Nat} {vl : Value} {Q : Unit → Shared → Prop} (I : Inv X pins σ H s) (hH : H l = some (.lst xs)) (hB : H b = some (.lst ys)) (ne : l ≠ b)
    (hs : s.heap.IsSliceOf sl vl .none .none) (ra : RelV (.int (a : Int)) vl) (ha : a ≤ xs.length) (hz : xs.length + ys.length ≤ sizeLine) (h : ∀ s', Inv X pins σ (upd H l (.lst (xs.take a ++ ys))) s' → Q () s') :
    wpAny (model X.prog X.w) X.A (setItem (.ref l) (.ref sl) (.ref b)) Q X.xe s := by
  obtain ⟨t, rfl⟩ := ra
  obtain ⟨z1, it1, n1, r1, hl1, e1⟩ := I.lstM hH
  obtain ⟨z2, it2, n2, r2, hl2, e2⟩ := I.lstM hB
  have g1 : it1.toArray.size = xs.length := by rw [List.size_toArray]; exact hl1.symm
  have g2 : it2.toArray.size = ys.length := by rw [List.size_toArray]; exact hl2.symm
  refine set_from (a := a) e1 e2 ne hs (.int _ _) (by rw [g1]; exact ha) (by rw [g1, g2]; exact hz) (h _ (I.lset (its' := it1.take a ++ it2) (t' := s.toks) hH e1 ?_ ((r1.take _).append r2) ?_))
  · apply Array.toList_inj.mp
    simp
  · rw [List.length_append, List.length_take]; omega
def gSlF (to : TE) (tl : TO) : TG := fun v σ H G => to σ H fun o H1 => tl σ H1 fun i H2 => ∃ (l b : Addr) (xs ys : List V) (a : Nat), o = .ref l ∧ i = some (a : Int) ∧ v = .ref b ∧ H2 l = some (.lst xs) ∧ H2 b = some (.lst ys) ∧ l ≠ b ∧ a ≤ xs.length ∧ xs.length + ys.length ≤ sizeLine ∧
  G σ (upd H2 l (.lst (xs.take a ++ ys)))
theorem pg_slF {o lo : Expr} {to : TE} {tl : TO} {p2 pos : Pos} (ho : PE X o to) (hl : PO X (some lo) tl)
    (ha : ∀ v, assign (.Subscript o (.Slice (some lo) none none p2) pos) X.env v = (do
      let c ← holding [v] (eval o X.env)
      let i ← holding [v, c] (eval (.Slice (some lo) none none p2) X.env)
      standAt pos
      holding [v, c, i] (setItem c i v)
      release [i, v, c] []) := by intro _; rfl) : PG X (.Subscript o (.Slice (some lo) none none p2) pos) (gSlF to tl) := by
  refine ⟨fun pins s σ H v u Q I r h => ?_⟩
  rw [ha]
  refine wpAny_bind (wpAny_holding (thn (ho.run pins s σ H _ I h) ?_))
  rintro c s1 ⟨x, H1, I1, r1, q1⟩
  refine wpAny_bind (wpAny_holding (wpAny_Slice (thn (hl.run pins s1 σ H1 _ I1 q1) ?_)))
  rintro vl s2 ⟨i, H2, I2, pl, l, b, xs, ys, a, rfl, rfl, rfl, hH, hB, ne, hle, hz, q⟩
  rw [evalPart_none]
  refine wpAny_pure (wpAny_pure ?_)
  cases r1
  cases r
  have I3 : Inv X pins σ H2 { s2 with heap := s2.heap.push { cls := .type "slice", data := .fields #[vl, .none, .none] } } := I2.kept (t' := s2.toks) fun b ob q => Heap.get?_push_of_some _ q
  have ra : RelV (.int (a : Int)) vl := by cases pl; exact ⟨_, rfl⟩
  refine wpAny_bind (wpAny_standAt (wpAny_bind (wpAny_holding (run_from I3 hH hB ne (Heap.IsSliceOf.new ..) ra hle hz ?_))))
  intro s4 I4
  exact wpAny_release ⟨σ, _, I4, q⟩
end
end L2
/-! for k, x in enumerate(t), t a tuple. -/
namespace PySem
open Sem (wp)
theorem meets_enum1 {v : Value} {o : Obj} {H : Heap → Prop} (B : Begins v o H) :
    Meets (Builtin.«enumerate.__new__» ⟨[.type "enumerate", v], []⟩) (fun _ R s => H s.heap ∧ R (.ok (.ret (.ref (s.heap.push o).objs.size))) { s with heap := (s.heap.push o).push { cls := .type "enumerate", data := .fields #[.none, .bool false, .ref s.heap.objs.size, rawInt 0, .none, .none] } }) :=
  .of_wp fun prog w A R s h => by
    obtain ⟨hp, g, d, tk, os⟩ := s
    obtain ⟨h1, h⟩ := h
    have hsub := sub_enumerate
    have q1 : ∀ {A' : Around} {E : Value → Shared → Prop} {Q : Value → Shared → Prop}, Q (.ref hp.objs.size) ⟨hp.push o, g, d, tk, os⟩ → wpAny (model prog w) A' (pyIter v) Q E ⟨hp, g, d, tk, os⟩ := fun q => B.iter prog w _ _ ⟨hp, g, d, tk, os⟩ _ h1 q
    wp_walk using q1
    refine wpAny_stack_any fun st => wpAny_pure ?_
    split
    · rename_i c _ _ _ _ _
      cases (c == Value.type "enumerate")
      all_goals
        wp_walk using q1
        exact ⟨_, rfl, h⟩
    · wp_walk using q1
      exact ⟨_, rfl, h⟩
theorem call_enum1 {prog : Program} {w : World} {A : Around} {E : Value → Shared → Prop} {s : Shared} {v : Value} {o : Obj} {H : Heap → Prop} {Q : Value → Shared → Prop} (B : Begins v o H) (h1 : H s.heap)
    (h : ∀ h', IsEnum h' (s.heap.objs.size + 1) s.heap.objs.size 0 .none → h'.get? s.heap.objs.size = some o → (∀ b u, s.heap.get? b = some u → h'.get? b = some u) → Q (.ref (s.heap.objs.size + 1)) { s with heap := h' }) :
    wpAny (model prog w) A (call (.type "enumerate") [v]) Q E s := by
  refine callType_new F.called_enumerate (by decide) (F.typeCall_enumerate_1 _) (F.newCall_enumerate_1 _) (fun obj => F.args_object_init_2 obj _) F.entry_enumerate_new (meets_enum1 B) ⟨h1, ?_⟩
  have z1 : (s.heap.push o).objs.size = s.heap.objs.size + 1 := Heap.size_push ..
  show _ ∧ _
  rw [z1]
  have e := Heap.get?_push_size (s.heap.push o) (o := { cls := .type "enumerate", data := .fields #[.none, .bool false, .ref s.heap.objs.size, rawInt 0, .none, .none] }) rfl
  rw [z1] at e
  exact ⟨⟨_, e, rfl⟩, h _ e (Heap.get?_push_of_some _ (Heap.get?_push_size _ B.free)) fun b u x => Heap.get?_push_of_some _ (Heap.get?_push_of_some _ x)⟩
end PySem
namespace L2
open PySem PySem.Spec PyProof.Rows
def ItT (K : PySem.W.Frag) (a : Addr) : It :=
  ⟨fun i H => ∃ (xs : List V) (x : V), SqT K H a xs ∧ xs[i]? = some x, fun i H v H' => ∃ p x, v = .ref p ∧ H p = none ∧ H' = upd H p (.tup [.int (i : Nat), x]) ∧ ∀ xs, SqT K H a xs → xs[i]? = some x, fun i H => ∃ xs : List V, SqT K H a xs ∧ xs.length ≤ i⟩
theorem turn_enT {P : Program} {w : World} {K : PySem.W.Frag} {elts : List Expr} {kk : Nat} {tpos : Pos} (a e it : Addr) :
    Turn P w K (.Tuple elts kk tpos) (ItT K a) [e, it] e (fun i h => (∃ old, IsEnum h e it ((i : Nat) : Int) old) ∧ h.IsTupleIter it a i ∧ e ≠ it) where
  mem := by simp
  obj := fun i h st b hb => by
    obtain ⟨⟨old, he⟩, ⟨o, ho, hc, hd⟩, _⟩ := st
    rcases (show b = e ∨ b = it by simpa using hb) with rfl | rfl
    · exact ⟨_, he, fun v q => nomatch q⟩
    · exact ⟨o, ho, fun v q => by rw [hd] at q; cases q⟩
  keep := fun i h h' st k => ⟨st.1.elim fun old he => ⟨old, k e (by simp) _ he⟩, st.2.1.at fun o q => k it (by simp) o q, st.2.2⟩
  item := by
    intro X hP hw hK hc i pins s σ H E I hf st hg
    subst hP hw hK
    obtain ⟨⟨old, he⟩, hit, hne⟩ := st
    obtain ⟨xs, x, hq, hx⟩ := hg
    obtain ⟨its, rv, p, hz⟩ := I.tuple hq
    obtain ⟨u, hu, ru⟩ := rv.get hx
    have el : e < s.heap.objs.size := Heap.lt_size he
    have il : it < s.heap.objs.size := hit.elim fun _ q => Heap.lt_size q.1
    have nai : a ≠ it := fun z => by
      obtain ⟨o1, g1, c1, _⟩ := p
      obtain ⟨o2, g2, c2, _⟩ := hit
      rw [z, g2] at g1
      cases g1
      have := c1.symm.trans c2
      exact absurd (Value.type.inj this) (by decide)
    have nea : e ≠ a := fun z => by
      obtain ⟨o1, g1, c1, _⟩ := p
      rw [← z, show s.heap.get? e = _ from he] at g1
      cases g1
      exact absurd (Value.type.inj c1) (by decide)
    have T : s.heap.IsTuple a its.toArray := p
    refine wpAny_pyNext_enum_itemD (Draws.tuple (A := X.A.in1) (show X.A.in1.handled = none from I.ok.hd hc) it a nai its.toArray) he ⟨hit, T⟩ (by rw [List.size_toArray]; exact (List.getElem?_eq_some_iff.mp hu).1) hne (by simp [hne, nea]) ?_
    intro y h1 tk hy ho st1 hT _ hk
    have ey : y = u := by
      have hy' : its[i]? = some y := by simpa using hy
      rw [hu] at hy'
      exact (Option.some.inj hy').symm
    subst ey
    refine ⟨_, rfl, wpAny_letOwnedTupleGo_enum (s := { s with heap := h1, toks := tk + 1 }) ho fun h2 he2 sb => ?_⟩
    have hT2 : h2.get? s.heap.objs.size = some { cls := .type "tuple", data := .seq #[.int i tk, y] } := (sb.2 _ (Nat.ne_of_gt el)).trans hT
    have ob : ObjOk X.prog X.w (upd H s.heap.objs.size (.tup [.int (i : Nat), x])) h2 s.heap.objs.size (.tup [.int (i : Nat), x]) := ⟨by show 2 ≤ sizeLine; decide, [.int i tk, y], .cons ⟨_, rfl⟩ (.cons ru .nil), ⟨_, hT2, rfl, _, rfl⟩⟩
    have J : Inv X pins σ (upd H s.heap.objs.size (.tup [.int (i : Nat), x])) { s with heap := h2, toks := tk + 1 } := by
      refine I.turnedNew (t' := tk + 1) (ch := [e, it]) (fun b o hb q => (sb.2 b fun z => hb (by simp [z])).trans (hk b o (fun z => hb (by simp [z])) (fun z => hb (by simp [z])) q)) hf (Nat.le_refl _) ob
    refine ⟨.ref s.heap.objs.size, _, J, rfl, ⟨_, x, rfl, I.hok.fresh (Nat.le_refl _), rfl, fun ys hy => by rw [I.tuple_inj hy hq]; exact hx⟩, ⟨⟨y, ?_⟩, st1.1.at fun o q => (sb.2 it (Ne.symm hne)).trans q, hne⟩, fun b hb => ?_⟩
    · rw [show ((i + 1 : Nat) : Int) = (i : Int) + 1 by omega]
      exact he2
    · have hb' : b < s.heap.objs.size := by
        rcases (show b = e ∨ b = it by simpa using hb) with z | z <;> rw [z]
        · exact el
        · exact il
      rw [upd_ne (Nat.ne_of_lt hb')]
      exact (hf b hb).1
  done := by
    intro X hP hw hK hc i pins s σ H E I hf st hg
    subst hP hw hK
    obtain ⟨⟨old, he⟩, hit, hne⟩ := st
    obtain ⟨xs, hq, hx⟩ := hg
    obtain ⟨its, rv, p, hz⟩ := I.tuple hq
    have T : s.heap.IsTuple a its.toArray := p
    obtain ⟨f0, f1, f2, f3, f4, f5⟩ := hf it (by simp)
    have hl := rv.length
    have D : Draws X.prog X.w X.A.in1 it [it, a] i (fun _ _ => True) (fun j h => h.IsTupleIter it a j ∧ h.IsTuple a its.toArray ∧ j = i) :=
      { live := fun _ _ st => let ⟨o, ho, _⟩ := st.1; ⟨o, ho⟩
        frame := fun _ _ _ st hk => ⟨st.1.at fun o e => hk it (by simp) o e, st.2.1.at fun o e => hk a (by simp) o e, st.2.2⟩
        item := fun j s Q E hj st hQ => absurd st.2.2 (by omega)
        done := fun s Q E st hE => wpAny_nextOf_tuple_end (show X.A.in1.handled = none from I.ok.hd hc) st.1 st.2.1 (by rw [st.2.2]; simp; omega) hE }
    exact wpAny_pyNext_enum_endD D he ⟨hit, T, rfl⟩ fun h' eb => ⟨rfl, I.turned (t' := s.toks) (fun b o hb q => eb b o hb q) f0 f1 f3 f4 f5⟩
  self := fun A i s Q E st h => let ⟨⟨_, he⟩, _⟩ := st; wpAny_pyIter_enum he h
def iEnT (K : PySem.W.Frag) (ta : TA) : TI := fun σ H R => ta σ H fun vs H1 => ∃ a xs, vs = [.ref a] ∧ SqT K H1 a xs ∧ R (ItT K a) H1
theorem pi_enT {X : Cx} {e : Expr} {ta : TA} {p pos tpos : Pos} {elts : List Expr} {kk : Nat} (hg : Gl X "enumerate") (hm : X.mg "enumerate" = none) (ha : PA X [e] ta) (hs : starEach [e] X.env = [(false, eval e X.env)] := by rfl) :
    PI X (.Tuple elts kk tpos) (.Call (.Name "enumerate" p) [e] [] pos) (iEnT X.K ta) := by
  refine ⟨fun pins s σ H R I h => Call_ (ld_blt I hg hm boot_enumerate (PyProof.Rows.callWith_type1 (thn (ha.run pos pins s σ H _ I h) ?_) hs rfl))⟩
  rintro us s1 ⟨vs, H1, I1, r1, a, xs, rfl, hq, q⟩
  cases r1 with
  | cons r rr =>
    cases rr
    cases r
    obtain ⟨its, rv, p', hz⟩ := I1.tuple hq
    refine call_enum1 (begins_tuple a its.toArray) (show s1.heap.IsTuple a its.toArray from p') fun h' he hit hk => wpAny_pyIter_enum he ?_
    have I2 : Inv X pins σ H1 { s1 with heap := h' } := I1.kept (t' := s1.toks) hk
    refine ⟨s1.heap.objs.size + 1, [s1.heap.objs.size + 1, s1.heap.objs.size], _, _, H1, rfl, I2, turn_enT a (s1.heap.objs.size + 1) s1.heap.objs.size, ⟨⟨.none, he⟩, ⟨_, hit, rfl, rfl⟩, Nat.succ_ne_self _⟩, fun b hb => ?_, q⟩
    have hle : s1.heap.objs.size ≤ b := by
      rcases (show b = s1.heap.objs.size + 1 ∨ b = s1.heap.objs.size by simpa using hb) with z | z <;> rw [z]
      · exact Nat.le_add_right _ _
      · exact Nat.le_refl _
    exact I1.fpOk hle (I1.hok.fresh hle)
end L2
/-! An own error whose __init__ tells its text to its base and keeps one field. -/
namespace PySem
namespace NamX
open PySem.W PySem.Calls PyProof.Rows PySem.HandSPX
/-! ### the text of __init__: the parameter's name is a letter (at, name) -/
def msg : Str := "the name "
def msg2 : Str := " occurs twice"
def eA : Arguments := { posonlyargs := [], args := [{ arg := "self", annotation := none, pos := ⟨11, 17, 11, 21⟩ }, { arg := "name", annotation := none, pos := ⟨11, 23, 11, 27⟩ }], vararg := none, kwonlyargs := [], kw_defaults := [], kwarg := none, defaults := [] }
def eB : List Stmt :=
  [.Expr (.Call (.Attribute (.Call (.Name "super" ⟨12, 8, 12, 13⟩) [] [] ⟨12, 8, 12, 15⟩) "__init__" ⟨12, 8, 12, 24⟩) [.JoinedStr [.Constant (.str msg) 0 ⟨12, 27, 12, 36⟩, .FormattedValue (.Name "name" ⟨12, 37, 12, 41⟩) (-1) none ⟨12, 36, 12, 42⟩, .Constant (.str msg2) 0 ⟨12, 42, 12, 55⟩] ⟨12, 25, 12, 56⟩] [] ⟨12, 8, 12, 57⟩) ⟨12, 8, 12, 57⟩,
   .Assign [.Attribute (.Name "self" ⟨13, 8, 13, 12⟩) "name" ⟨13, 8, 13, 17⟩] (.Name "name" ⟨13, 20, 13, 24⟩) ⟨13, 8, 13, 24⟩]
def eS : Scope := { kind := .function, names := [(PySem.Str.ofString "self", .local), (PySem.Str.ofString "name", .local), (PySem.Str.ofString "__class__", .free), (PySem.Str.ofString "super", .globalImplicit)], isGenerator := false, isCoroutine := false, more := [] }
structure NamTxt (P : Program) (K : Frag) (mg : Str → Option Value) (nm : Str) (C fI : Addr) : Prop where
  gC : mg nm = some (.ref C)
  cls : ∃ nm q N bs bm sn sub ab col dd k0 k1 k2 k3 k5, K.lookup C = some (excClassObj nm q C N bs bm true sn sub ab col dd k0 k1 k2 k3 k5 "ValueError.__new__") ∧ refsVE bm = true
  sa : findIn K (.ref C) "__setattr__" = some (some (.builtin "object.__setattr__"))
  ga : findIn K (.ref C) "__getattribute__" = some (some (.builtin "BaseException.__getattribute__"))
  gg : findIn K (.ref C) "__getattr__" = some none
  noN : findIn K (.ref C) "name" = some none
  iC : findIn K (.ref C) "__init__" = some (some (.ref fI))
  tC : typeIn K (.ref fI) = some (.type "function")
  kC : keepIn K (.ref C) = true
  exC : subIn K (.ref C) (.type "BaseException") = some true
  veC : subIn K (.ref C) (.type "ValueError") = some true
  tyC : typeIn K (.ref C) = some (.type "type")
  hdC : hasDictIn K C = true
  te : exmOne K (.ref C) (.ref C) = some true
  op : nsIn K cStatics "thirdparty.any" = some none
  up : ks_superIn K C C "__init__" = some (some (.builtin "ValueError.__init__"))
  mr : mroIn K C (.ref C) = some true
  su : mg "super" = none
  top : (P.main.scope.names.lookup ("super" : Str)).isSome = false
  fn : ∃ (oc : Value) (od : Option Addr) (doc pm : Value) (an : Option Addr) (cda cc : Addr) (ct : Value) (osl : Array (Option Value)) (qual : Str) (ccl cl : Value) (cdd cld : Option Addr) (ccs csl : Array (Option Value)) (vs : Array Value) (file : Str) (tf : Tok),
    K.lookup fI = some ⟨oc, od, .func (fnX "__init__" qual eA eB eS [("__class__", cc)] .none .none doc pm an (.ref cda) ct), osl⟩ ∧ codeIn K (.ref cda) qual = true ∧
    K.lookup cda = some ⟨ccl, cdd, .fields vs, ccs⟩ ∧ vs[2]? = some (.str file tf) ∧ ((P.main.file : Str) == file) = true ∧ K.lookup cc = some ⟨cl, cld, .cell (some (.ref C)), csl⟩
structure InitEnd (h h' : Heap) (e C dx t1 : Addr) (v : Value) : Prop where
  keep : ∀ b o, b ≠ e → h.get? b = some o → h'.get? b = some o
  obj : h'.get? e = some { cls := .ref C, dict := some dx, data := .fields #[.ref t1, .none, .none, .none, .bool false, .none] }
  dbig : h.objs.size ≤ dx
  dne : dx ≠ e
  ns : h'.Ns1 dx (fun y => if y = "name" then some v else none)
structure OwnMade (h h' : Heap) (e C d : Addr) (v : Value) : Prop where
  keep : ∀ b o, h.get? b = some o → h'.get? b = some o
  new : h.objs.size ≤ e
  obj : ∃ oe vs, h'.get? e = some oe ∧ oe.cls = .ref C ∧ oe.dict = some d ∧ oe.data = .fields vs ∧ vs[1]? = some .none
  dbig : h.objs.size ≤ d
  dne : d ≠ e
  ns : h'.Ns1 d (fun y => if y = "name" then some v else none)
theorem one_size (v : Value) : [v].length ≤ sizeLine := by
  rw [sizeLine_eq]
  exact (by decide : 1 ≤ 16777216)
section
variable {prog : Program} {w : World} {A : Around} {E : Value → Shared → Prop} {R : Result → Shared → Prop} {s : Shared} {K : Frag} {mg mb : Str → Option Value} {nm : Str} {C fI : Addr}
theorem call_mw {h : Heap} {g : Array GenState} {d : Drawn} {t : Nat} {os : OsState} {u e t0 : Addr} {rest : List Value} {Q : Value → Shared → Prop} {nm q : Str} {N : Addr} {bs bm : List Value} {hdct : Bool} {sn : List Str} {sub : List Value} {ab : Bool} {col : Option Bool} {dd : Option Addr} {k0 k1 k2 k3 k5 : Option Value}
    (hC : h.get? C = some (excClassObj nm q C N bs bm hdct sn sub ab col dd k0 k1 k2 k3 k5 "ValueError.__new__")) (he : h.get? e = some (excO C t0)) (hu : h.get? u = some (kxs_mw "ValueError.__init__" e)) (hrest : rest.length ≤ sizeLine)
    (hq : ∀ h' t1, (∀ b o, b ≠ e → h.get? b = some o → h'.get? b = some o) → h'.get? e = some (excO C t1) → Q .none ⟨h', g, d, t, os⟩) :
    wpAny (model prog w) A (call (.ref u) rest) Q E ⟨h, g, d, t, os⟩ := by
  refine wpAny_call (codeAny_of_tree ?_)
  show wpAny _ A.in1 (callAny (.ref u) ⟨rest, []⟩) _ _ _
  simp only [callAny]
  refine wpAny_bind (wpAny_load hu ?_)
  simp only [kxs_mw, show (Value.type "method-wrapper" == Value.type "method" || Value.type "method-wrapper" == Value.type "builtin_function_or_method" || Value.type "method-wrapper" == Value.type "method-wrapper") = true by decide, if_true]
  refine KFB.if_so (by decide) ?_
  refine wpAny_bind (check_bound_init F.excBase_ValueError.toExcCallFacts hC he rfl ?_)
  refine wpAny_bind (wpAny_pure (wpAny_pure ?_))
  refine ⟨plainId_quiet F.excBase_ValueError.init.plain _, codeAny_builtin F.excBase_ValueError.initEntry ?_⟩
  exact exc_init_tree (cls := .ref C) (t0 := t0) (dv := none) (c2 := .none) (c3 := .none) (b4 := .bool false) he hrest fun h' k e' _ => hq h' _ k e'
theorem ldN {M : Model} {env : Env} {m : Str → Option Value} {x : Str} {pos : Pos} {v : Value} {Q : Value → Shared → Prop} (hn : s.heap.Ns env.locals m) (hv : m x = some v) (h : Q v s)
    (hk : env.scope.kind = .function := by rfl) (hl : env.kindOf x = some .local := by rfl) (hd : (x == ("__debug__" : Str)) = false := by decide) :
    wpAny M A (eval (.Name x pos) env) Q E s := wpAny_Name (wpAny_loadName_local hk hl hn hv h) hd
theorem nam_init (T : NamTxt prog K mg nm C fI) {e t0 : Addr} {v : Str} {tv : Tok} (hv : v.length ≤ 100000) (X : K.In s.heap) (hlim : s.heap.NoLimit) (hg : s.heap.Ns mainGlobals mg) (hb : s.heap.Ns builtinsNs mb) (hmb : mb "super" = some (.type "super"))
    (hx : s.heap.get? e = some (excO C t0)) (hnx : K.lookup e = none) (hroom : A.depth < recursionLimit)
    (hq : ∀ h' tk dx t1, InitEnd s.heap h' e C dx t1 (.str v tv) → R (.ok (.ret .none)) { s with heap := h', toks := tk }) :
    codeAny (model prog w) A (.call (.ref fI) ⟨[.ref e, .str v tv], []⟩) R s := by
  obtain ⟨oc, od, doc, pm, an, cda, cc, ct, osl, qual, ccl, cl, cdd, cld, ccs, csl, vs, file, tf, ho, hcd, hcode, hvs, hfile, hcell⟩ := T.fn
  obtain ⟨nm', q, N, bs, bm, sn, sub, ab, col, dd, k0, k1, k2, k3, k5, hC, hbm⟩ := T.cls
  have hcl : clsIn K C = some { name := nm', bases := bs, mro := .ref C :: bm, ns := N, qualname := q, hasDict := true, slotNames := sn, subclasses := sub, abstract := ab, collection := col, hasDel := false } := by unfold clsIn; rw [hC] <;> rfl
  refine ks_codeAny_call_defAt (binds := [("self", .ref e), ("name", .str v tv)]) hroom (X _ _ ho) rfl hlim (codeRec_of X hcd) rfl (BindsTo.of_eq ?b1) (show ∀ y ∈ eS.names, y.2 ≠ .cell by decide +kernel) (locs rfl) (fun h₁ hns k => ?_) rfl rfl rfl
  case b1 => first | rfl | with_unfolding_all rfl
  have I1 : InstAt s.heap e (excO C t0) C none := ⟨hx, rfl, rfl, trivial⟩
  have hne : e ≠ C := ks_ne X I1 hcl
  obtain ⟨hp, g, d, t, os⟩ := s
  have X₁ : K.In h₁ := X.keeps k
  have hx₁ := k _ _ hx
  -- super().__init__(f'..')
  refine ks_wpAt_execs_cons (ks_wpAt_Expr_any (ks_wpAt_MethodCall ?_ (by with_unfolding_all rfl)))
  have hoH := X₁ _ _ ho
  have hcodeH := X₁ _ _ hcode
  refine' ks_wpAt_super_base (attr := "__init__") (body := eB) (f := fI) (cc := cda) ?a1 ?a2 ?a3 ?a4 ?a5 ?a6 ?a7 ?a8 ?a9 ?a10 hvs hfile T.top ?_
  case a5 => exact hoH
  case a9 => exact hcodeH
  case a1 => rfl
  case a2 => rfl
  case a3 => decide
  case a4 => rfl
  case a6 => rfl
  case a7 => rfl
  case a8 => rfl
  case a10 => rfl
  have hG : h₁.Ns mainGlobals mg := hg.keeps k
  have hB : h₁.Ns builtinsNs mb := hb.keeps k
  refine ks_loadName_global rfl rfl (loadGlobal_builtin hG T.su hB hmb ⟨rfl, ?_⟩)
  refine wpAny_loadName_free rfl rfl rfl ⟨_, X₁ _ _ hcell, rfl⟩ ?_
  refine wpAny_loadName_local rfl rfl hns rfl ?_
  have hCC := X₁ _ _ hC
  refine ks_wpAny_isType_cls hCC rfl ⟨rfl, ?_⟩
  refine ks_wpAny_call_super hCC rfl hx₁ rfl (fun c z => by cases z) (looks_mroIn X₁ T.mr) (fun h₂ hso k₂ => ?_)
  have X₂ : K.In h₂ := X₁.keeps k₂
  have hx₂ := k₂ _ _ hx₁
  have I2 : InstAt h₂ e (excO C t0) C none := ⟨hx₂, rfl, rfl, trivial⟩
  have hI : Looks (model prog w) h₂ (isInstance (.ref e) (.type "ValueError")) true := I2.type.andThen (looks_subIn X₂ T.veC)
  have hup : alongIn K "__init__" (((.ref C :: bm : List Value).dropWhile (· != .ref C)).drop 1) = some (some (.builtin "ValueError.__init__")) := by
    have := T.up
    unfold ks_superIn at this
    rw [hcl] at this
    exact this
  refine kxs_getMethod kxs_ValueError hso (looks_opaque X₂ T.op) (l₀ := .ref C :: bm) ?lk rfl X₂ hup hI hne (by decide) ?_
  case lk => exact fun A Q E s k q => wpAny_bind ((looks_clsIn X₂ hcl) A _ E s k (wpAny_pure q))
  refine kxs_callWith (i := "ValueError.__init__") (x := e) rfl (evalArgs_plain ?_)
  refine Calls.spliced_cons ?_
  -- the text
  have hn₂ : h₂.Ns hp.objs.size _ := hns.keeps k₂
  have hn₃ : (h₂.push (kxs_mw "ValueError.__init__" e)).Ns hp.objs.size _ := hn₂.keeps fun b o z => Heap.get?_push_of_some _ z
  refine wpAny_JoinedStr (pos := ⟨12, 25, 12, 56⟩) ?_
  refine Calls.Constant_str (x := msg) (k := 0) (pos := ⟨12, 27, 12, 36⟩) ?_
  refine ⟨_, _, rfl, by decide +kernel, ?_⟩
  have hs1 : ((Str.empty ++ msg) ++ v).length ≤ sizeLine := by
    rw [strLen_append, show (Str.empty ++ msg).length = 9 by decide +kernel, sizeLine_eq]
    omega
  have hs2 : (((Str.empty ++ msg) ++ v) ++ msg2).length ≤ sizeLine := by
    rw [strLen_append, strLen_append, show (Str.empty ++ msg).length = 9 by decide +kernel, show msg2.length = 13 by decide +kernel, sizeLine_eq]
    omega
  refine wpAny_FormattedValue_plain (value := .Name "name" ⟨12, 37, 12, 41⟩) (pos := ⟨12, 36, 12, 42⟩) (ldN (env := callEnv (fnX "__init__" qual eA eB eS [("__class__", cc)] .none .none doc pm an (.ref cda) ct) hp.objs.size fI) hn₃ rfl (wpAny_formatField_str ?_ ?_))
  all_goals
    refine ⟨_, _, rfl, hs1, ?_⟩
    refine Calls.Constant_str (x := msg2) (k := 0) (pos := ⟨12, 42, 12, 55⟩) ?_
    refine ⟨_, _, rfl, hs2, ?_⟩
    refine ⟨hs2, ?_⟩
    refine Calls.spliced_nil ?_
    have hu₃ : (h₂.push (kxs_mw "ValueError.__init__" e)).get? h₂.objs.size = some (kxs_mw "ValueError.__init__" e) := Heap.get?_push_at rfl rfl
    refine ⟨hu₃, ?_⟩
    have k₃ : ∀ b o, h₂.get? b = some o → (h₂.push (kxs_mw "ValueError.__init__" e)).get? b = some o := fun b o z => Heap.get?_push_of_some _ z
    have X₃ : K.In (h₂.push (kxs_mw "ValueError.__init__" e)) := X₂.keeps k₃
    refine call_mw (X₃ _ _ hC) (k₃ _ _ hx₂) hu₃ (one_size _) fun h₄ t1 k₄ hx₄ => ?_
    have X₄ : K.In h₄ := fun a o z => by
      by_cases ha : a = e
      · subst ha
        have := X₃ _ _ z
        have y := k₃ _ _ hx₂
        rw [this] at y
        have nK : K.lookup a = none := hnx
        rw [nK] at z
        cases z
      · exact k₄ _ _ ha (X₃ _ _ z)
    have hn₄ : h₄.Ns hp.objs.size _ := hn₃.at fun o z => k₄ _ _ (Nat.ne_of_gt (Heap.lt_size hx)) z
    -- self.at = at
    refine wpAt_of_wpAny ?_
    refine wpAny_execs_cons (plainObj_wpAny_Assign_Attribute ?_)
    refine ldN (v := .str v tv) hn₄ rfl (ldN (v := .ref e) hn₄ rfl ?_)
    refine set_plain X₄ (ox := excO C t1) (od := none) ⟨hx₄, rfl, rfl, trivial⟩ T.sa ?_
    refine exc_osa X₄ hx₄ hcl (show refsVE (.ref C :: bm) = true from hbm) rfl T.noN (fun h₅ tk₅ dx k₅ dn dne hx₅ hn₅ => ?_)
    refine wpAny_execs_nil ?_
    have keepAll : ∀ b o, b ≠ e → hp.get? b = some o → h₅.get? b = some o := fun b o hb z => k₅ b o hb (k₄ b o hb (k₃ _ _ (k₂ _ _ (k _ _ z))))
    refine hq h₅ tk₅ dx t1 ⟨keepAll, hx₅, ?_, dne, hn₅⟩
    exact Nat.le_trans (Nat.le_of_lt hn₄.lt) dn
theorem nam_made (T : NamTxt prog K mg nm C fI) {v : Str} {tv : Tok} (hv : v.length ≤ 100000) (X : K.In s.heap) (hlim : s.heap.NoLimit) (hg : s.heap.Ns mainGlobals mg) (hb : s.heap.Ns builtinsNs mb) (hmb : mb "super" = some (.type "super")) (hroom : A.depth + 1 < recursionLimit)
    (hq : ∀ h' tk e d, OwnMade s.heap h' e C d (.str v tv) → R (.ok (.ret (.ref e))) { s with heap := h', toks := tk }) :
    codeAny (model prog w) A (.call (.ref C) ⟨[.str v tv], []⟩) R s := by
  obtain ⟨nm, q, N, bs, bm, sn, sub, ab, col, dd, k0, k1, k2, k3, k5, hC, hbm⟩ := T.cls
  obtain ⟨hp, g, dr, tk, os⟩ := s
  have k : ∀ b o, hp.get? b = some o → ((hp.push (kdv_tup [.str v tv])).push (excO C hp.objs.size)).get? b = some o := fun b o e => Heap.get?_push_of_some _ (Heap.get?_push_of_some _ e)
  have hget : ((hp.push (kdv_tup [.str v tv])).push (excO C hp.objs.size)).get? (hp.objs.size + 1) = some (excO C hp.objs.size) := by heap_get
  have hnx : K.lookup (hp.objs.size + 1) = none := by
    cases e : K.lookup (hp.objs.size + 1) with
    | none => rfl
    | some o =>
      have z : hp.get? (hp.objs.size + 1) = some o := X _ _ e
      exact absurd (Nat.lt_of_succ_lt (Heap.lt_size z)) (Nat.lt_irrefl _)
  refine call_own F.excBase_ValueError (fun X => refsVE_contains X bm hbm) (X _ _ hC) (looks_findIn X T.iC) (fun self => bind_fn X self T.tC) (one_size _) ?_
  refine nam_init (s := ⟨(hp.push (kdv_tup [.str v tv])).push (excO C hp.objs.size), g, dr, tk, os⟩) T hv (X.keeps k) (hlim.keeps k) (hg.keeps k) (hb.keeps k) hmb hget hnx ?_ fun h' tk' dx t1 ⟨k', hx, dn, dne, hns⟩ => ?_
  · show A.depth + 1 < recursionLimit
    exact hroom
  · have old : ∀ b o, hp.get? b = some o → h'.get? b = some o := fun b o e => k' b o (Nat.ne_of_lt (Nat.lt_succ_of_lt (Heap.lt_size e))) (k b o e)
    have z : hp.objs.size + 1 + 1 ≤ dx := by
      first
        | (simpa only [Heap.size_push] using dn)
        | exact dn
        | (have q := dn; rw [Heap.size_push, Heap.size_push] at q; exact q)
    exact ⟨rfl, hq h' tk' (hp.objs.size + 1) dx ⟨old, Nat.le_succ _, ⟨_, _, hx, rfl, rfl, rfl, rfl⟩, Nat.le_trans (Nat.le_trans (Nat.le_succ _) (Nat.le_succ _)) z, dne, hns⟩⟩
end
end NamX
end PySem
namespace L2
open PySem PySem.Spec PyProof.Rows
theorem relO_nam {v : V} {v' : Value} (r : RelV v v') (f : Str) : RelO (List.lookup f [(("name" : Str), v)]) (if f = "name" then some v' else none) := by
  by_cases hw : f = "name"
  · subst hw
    rw [if_pos rfl]
    have q : List.lookup ("name" : Str) [(("name" : Str), v)] = some v := by simp [List.lookup]
    rw [q]
    exact r
  · rw [if_neg hw]
    have qw : (f == ("name" : Str)) = false := by simpa using hw
    have q2 : List.lookup f [(("name" : Str), v)] = none := by simp [List.lookup, qw]
    rw [q2]
    trivial
section
variable {X : Cx} {C fI : Addr} {nm : Str}
def tMkNam (C : Addr) (ta : TA) : St → Hp → XK → Prop := fun σ H Q => ta σ H fun vs H1 => ∃ v : Str, vs = [.str v] ∧ v.length ≤ 100000 ∧ ∀ d, H1 d = none → Q (.ref C) (some d) (upd H1 d (.xd [(("name" : Str), .str v)]))
theorem pmk_nam {a : Expr} {ta : TA} {p pos : Pos} {k : Nat} (T : PySem.NamX.NamTxt X.prog X.K X.mg nm C fI) (hr : Room k X.A) (ha : PA X [a] ta) (hg : Gl X nm := by rfl) (hdb : (nm == ("__debug__" : Str)) = false := by decide)
    (he : starEach (a :: []) X.env = (false, eval a X.env) :: starEach [] X.env := by rfl) (hpl : (backTo pos (starEach [] X.env)).any (·.1) = false := by rfl) :
    PMk X (.Call (.Name nm p) [a] [] pos) (tMkNam C ta) := by
  intro pins s σ H Q I h
  refine wpAny_Call_Name_kw (ld_glob I hg T.gC ?_ hdb)
  refine PySem.W.callWith_K (h₀ := X.base) I.ok.mod.kin T.kC (thn (ha.run pos pins s σ H _ I h) fun us s1 hh => ?_) he hpl
  obtain ⟨vs, H1, I1, r1, v, ev, hv, q1⟩ := hh
  subst ev
  refine ⟨I1.kIn, ?_⟩
  cases r1 with
  | cons rv rn =>
    rename_i v' us'
    cases rn
    obtain ⟨tv, rfl⟩ := rv
    show wpAny _ _ (call (.ref C) [.str v tv]) _ _ _
    have hlim := I1.nolimit
    obtain ⟨mb, hb, hmb⟩ := I1.mod.blt
    have hb1 := hb.keeps I1.bk
    have hg1 := I1.mod.glob.keeps I1.bk
    have hsup : mb "super" = some (.type "super") := (hmb _ (by decide)).trans (by decide +kernel)
    obtain ⟨hp, g, dr, tk, os⟩ := s1
    refine wpAny_call (PySem.NamX.nam_made T hv I1.kIn hlim hg1 hb1 hsup (by have := hr.dp; omega) fun h' tk' e d M => ?_)
    show MkP X pins σ Q (.ref e) ⟨h', g, dr, tk', os⟩
    obtain ⟨oe, fv, hoe, hc, hd, hdat, h1⟩ := M.obj
    have hns := M.ns
    obtain ⟨G', g1, g2⟩ := restrict h' fun b => decide (b ≠ e)
    have gk : ∀ b, b ≠ e → G'.get? b = h'.get? b := fun b hb => g1 b (decide_eq_true hb)
    have ge : G'.get? e = none := g2 e (by simp)
    have old : ∀ b o, hp.get? b = some o → G'.get? b = some o := fun b o q => (gk b (Nat.ne_of_lt (Nat.lt_of_lt_of_le (Heap.lt_size q) M.new))).trans (M.keep b o q)
    have ob : ObjOk X.prog X.w (upd H1 d (.xd [(("name" : Str), .str v)])) G' d (.xd [(("name" : Str), .str v)]) :=
      ⟨_, hns.at (fun o q => (gk d M.dne).trans q), fun f => relO_nam (v := .str v) (v' := .str v tv) ⟨tv, rfl⟩ f⟩
    have J : Inv X pins σ (upd H1 d (.xd [(("name" : Str), .str v)])) ⟨G', g, dr, tk', os⟩ := I1.laid (t' := tk') old M.dbig ob
    refine ⟨e, oe, fv, ⟨G', g, dr, tk', os⟩, _, .ref C, some d, rfl, J, fun b o q => ?_, ge, hoe, ⟨hc, hd⟩, hdat, h1, ?_, rfl, I1.bare, raises_own T.exC T.tyC, q1 d (I1.hok.fresh M.dbig)⟩
    · by_cases hb : b = e
      · have q' : G'.get? b = some o := q
        rw [hb, ge] at q'; cases q'
      · exact (gk b hb).symm.trans q
    · rw [upd_ne (Ne.symm M.dne)]
      exact I1.hok.fresh M.new
def tRaiseNam (C : Addr) (W : WX) (ta : TA) : TS := fun _ σ H => tMkNam C ta σ H fun cls d H' => W cls d σ H'
theorem ps_raiseNam {a : Expr} {ta : TA} {W : WX} {p pos pos2 : Pos} {k : Nat} (hc : X.calm = true) (T : PySem.NamX.NamTxt X.prog X.K X.mg nm C fI) (hr : Room k X.A) (tk : Takes X W) (ha : PA X [a] ta) (hg : Gl X nm := by rfl) (hdb : (nm == ("__debug__" : Str)) = false := by decide)
    (he : starEach (a :: []) X.env = (false, eval a X.env) :: starEach [] X.env := by rfl) (hpl : (backTo pos (starEach [] X.env)).any (·.1) = false := by rfl) :
    PS X (.Raise (some (.Call (.Name nm p) [a] [] pos)) none pos2) (tRaiseNam C W ta) := ps_raise hc tk (pmk_nam T hr ha hg hdb he hpl)
end
end L2
/-! isinstance of a caught error that has a dict of its own; a call in a try. -/
namespace L2
open PySem PySem.Spec PyProof.Rows
end L2
namespace Lv
open PySem PySem.Spec PyProof.Rows L2
section
variable {X : Cx} {k j : Nat} {x : Str} {sp : Sp} {W : WX} {p pos : Pos} {e : Expr} {es : List Expr} {t : TA}
theorem pe_cxs (c : CalX X.prog X.w X.K X.mg X.base k x sp) (hr : Room j X.A) (hk : k ≤ j) (hg : Gl X x) (tk : Takes X W) (ha : PA X (e :: es) t)
    (hdb : (x == ("__debug__" : Str)) = false := by decide) (he : starEach (e :: es) X.env = (false, eval e X.env) :: starEach es X.env := by rfl) (hpl : (backTo pos (starEach es X.env)).any (·.1) = false := by rfl) :
    PE X (.Call (.Name x p) (e :: es) [] pos) (tCallS sp (WE W) t) := by
  obtain ⟨f, fd, ps, F, hm, kp, b⟩ := c.ex
  exact pe_callS F (hr.mono hk) hg hm kp b (fun σ => passAt tk σ) ha hdb he hpl
end
end Lv
namespace Lv
open PySem PySem.Spec PyProof.Rows L2
section
open PySem PySem.Spec PyProof.Rows L2
open TL (numL tl_num numL_digits numL_ne numL_val numL_len numL_lt numL_step)
/-! ### codes -/
def cds (s : String) : List Nat := (Str.ofString s).cps.toList
abbrev aJ : List Nat := cds "abcdefghijklmnopqrstuvwxyzABCDEFGHIJKLMNOPQRSTUVWXYZ0123456789"
abbrev aLow : List Nat := cds "abcdefghijklmnopqrstuvwxyz"
abbrev aUp : List Nat := cds "ABCDEFGHIJKLMNOPQRSTUVWXYZ"
abbrev aDig : List Nat := cds "0123456789"
def WL : List (List Nat) := ["method", "var", "end", "give", "fail", "if", "then", "else", "while", "do", "try", "catch", "keep", "always", "none", "true", "false", "self", "super", "new", "not", "and", "or"].map cds
theorem len_aJ : aJ.length = 62 := by decide +kernel
theorem len_aLow : aLow.length = 26 := by decide +kernel
theorem len_aUp : aUp.length = 26 := by decide +kernel
theorem WL_len : ∀ x ∈ WL, x.length ≤ 6 := by decide +kernel
theorem WL_one : ∀ x ∈ WL, ¬ (x ++ [49]) ∈ WL := by decide +kernel
theorem WL_form : ∀ x ∈ WL, ∃ c r, x = c :: r ∧ c ∈ aLow ∧ (∀ d ∈ r, d ∈ aJ) := by
  have h : ∀ x ∈ WL, x.headD 0 ∈ aLow ∧ (∀ d ∈ x.tail, d ∈ aJ) ∧ x ≠ [] := by decide +kernel
  intro x hx
  obtain ⟨h1, h2, h3⟩ := h x hx
  cases x with
  | nil => exact absurd rfl h3
  | cons c r => exact ⟨c, r, rfl, h1, h2⟩
theorem at_mod {l : List Nat} {n : Nat} (hl : l.length = n) (h0 : 0 < n) (x : Int) : ∃ c, c ∈ l ∧ atI l (x.fmod (n : Int)) = some c := by
  have b0 := Int.fmod_nonneg_of_pos x (show (0 : Int) < n by omega)
  have b1 := Int.fmod_lt_of_pos x (show (0 : Int) < n by omega)
  obtain ⟨j, e⟩ : ∃ j : Nat, x.fmod (n : Int) = (j : Int) := ⟨(x.fmod (n : Int)).toNat, by omega⟩
  have hj : j < l.length := by omega
  refine ⟨l[j], List.getElem_mem hj, ?_⟩
  rw [e]
  exact atI_nat (List.getElem?_eq_getElem hj)
theorem at_lt {l : List Nat} {x : Int} (h0 : 0 ≤ x) (h1 : x < l.length) : ∃ c, c ∈ l ∧ atI l x = some c := by
  obtain ⟨j, rfl⟩ : ∃ j : Nat, x = (j : Int) := ⟨x.toNat, by omega⟩
  have hj : j < l.length := by omega
  exact ⟨l[j], List.getElem_mem hj, atI_nat (List.getElem?_eq_getElem hj)⟩
theorem cut_mem {a : List Nat} {lo hi : Option Int} {c : Nat} (h : c ∈ cut a lo hi) : c ∈ a := List.mem_of_mem_drop (List.mem_of_mem_take h)
theorem cut_len (a : List Nat) (lo hi : Option Int) : (cut a lo hi).length ≤ a.length := by
  unfold cut
  rw [List.length_take, List.length_drop]
  omega
theorem cut_to (a : List Nat) (k : Nat) : cut a none (some (k : Int)) = a.take k := by
  unfold cut
  rw [HT.sIx_none, HT.sIx_nat, List.drop_zero, Nat.sub_zero]
  by_cases h : k ≤ a.length
  · rw [Nat.min_eq_left h]
  · rw [Nat.min_eq_right (by omega), List.take_of_length_le (Nat.le_refl _), List.take_of_length_le (by omega)]
theorem cut_mid (a : List Nat) {i j : Nat} (hj : j ≤ a.length) : cut a (some (i : Int)) (some (j : Int)) = (a.drop i).take (j - i) := by
  unfold cut
  rw [HT.sIx_nat, HT.sIx_nat, Nat.min_eq_left hj]
  by_cases h : i ≤ a.length
  · rw [Nat.min_eq_left h]
  · rw [Nat.min_eq_right (by omega)]
    have e1 : j - a.length = 0 := by omega
    have e2 : j - i = 0 := by omega
    rw [e1, e2]; rfl
theorem mem_rep {n : Nat} {a : List Nat} {c : Nat} (h : c ∈ (List.replicate n a).flatten) : c ∈ a := by
  obtain ⟨l, h1, h2⟩ := List.mem_flatten.mp h
  rw [(List.mem_replicate.mp h1).2] at h2
  exact h2
theorem len_rep (n : Nat) (a : List Nat) : (List.replicate n a).flatten.length = n * a.length := by simp
/-! ### the tokens of a text, as a function of its codes -/
def MLs : List (List Nat) := [":=", "<=", "(", ")", "{", "}", ",", ";", ".", "|", "=", "<", "+", "-", "*", "/"].map cds
def letC (c : Nat) : Bool := decide (c ∈ aJ)
def digC (c : Nat) : Bool := decide (48 ≤ c) && decide (c ≤ 57)
def srcC (c : Nat) : Bool := decide (32 ≤ c) && decide (c ≤ 126) && !decide (c = 37)
theorem aJ_split : aJ = aLow ++ aUp ++ aDig := by decide +kernel
theorem let_or (c : Nat) : letC c = (decide (c ∈ aLow) || (decide (c ∈ aUp) || decide (c ∈ aDig))) := by
  unfold letC
  rw [aJ_split]
  simp only [List.mem_append, Bool.decide_or, Bool.or_assoc]
theorem aJ_ascii : ∀ c ∈ aJ, c < 128 := by decide +kernel
theorem dig_iff (c : Nat) : decide (c ∈ aDig) = digC c := by
  have e : aDig = [48, 49, 50, 51, 52, 53, 54, 55, 56, 57] := by decide +kernel
  unfold digC
  rw [e, Bool.eq_iff_iff, Bool.and_eq_true, decide_eq_true_iff, decide_eq_true_iff, decide_eq_true_iff]
  simp only [List.mem_cons, List.not_mem_nil, or_false]
  omega
theorem dig_let {c : Nat} (h : digC c = true) : letC c = true := by
  rw [let_or, dig_iff, h]; simp
def numRun (a : List Nat) : Option Nat := if (a.all digC && !(decide (a.headD 0 = 48) && decide (1 < a.length)) && decide (a.length ≤ 10) && decide (NumText.digitsVal a ≤ 1000000000)) = true then some (NumText.digitsVal a) else none
def ofRun (a : List Nat) : Option (List Nat × V) :=
  if digC (a.headD 0) = true then (numRun a).map fun n => (cds "number", .int (n : Int))
  else if 20 < a.length then none
  else if a.headD 0 ∈ aUp then some (cds "class", T a)
  else if a ∈ WL then some (cds "word", T a)
  else some (cds "name", T a)
def upQ (r : List Nat) : List Nat := r.takeWhile (fun x => x != 39)
def endTx (r : List Nat) : Option (List Nat) := if (decide ((upQ r).length < r.length) && decide ((upQ r).length ≤ 200) && (upQ r).all srcC) = true then some (upQ r) else none
def one : List Nat → Option (List Nat × V × Nat)
  | [] => none
  | c :: r => if c = 39 then (endTx r).map fun b => (cds "text", T b, b.length + 2)
    else if letC c = true then (ofRun ((c :: r).takeWhile letC)).map fun p => (p.1, p.2, ((c :: r).takeWhile letC).length)
    else (MLs.find? fun m => m.isPrefixOf (c :: r)).map fun m => (cds "mark", T m, m.length)
theorem one_cons (c : Nat) (r : List Nat) : one (c :: r) = if c = 39 then (endTx r).map fun b => (cds "text", T b, b.length + 2)
    else if letC c = true then (ofRun ((c :: r).takeWhile letC)).map fun p => (p.1, p.2, ((c :: r).takeWhile letC).length)
    else (MLs.find? fun m => m.isPrefixOf (c :: r)).map fun m => (cds "mark", T m, m.length) := rfl
abbrev Tk := List Nat × V × Nat
def lex (pos : Nat) : List Nat → List Tk × Option Nat
  | [] => ([], none)
  | c :: r => if c = 32 then lex (pos + 1) r
    else match one (c :: r) with
      | none => ([], some pos)
      | some t => let q := lex (pos + t.2.2) (r.drop (t.2.2 - 1)); ((t.1, t.2.1, pos) :: q.1, q.2)
termination_by l => l.length
decreasing_by
  · simp
  · simp only [List.length_drop, List.length_cons]; omega
theorem lex_nil (pos : Nat) : lex pos [] = ([], none) := by rw [lex]
theorem lex_sp (pos : Nat) (r : List Nat) : lex pos (32 :: r) = lex (pos + 1) r := by rw [lex, if_pos rfl]
theorem lex_wrong {pos c : Nat} {r : List Nat} (h : c ≠ 32) (e : one (c :: r) = none) : lex pos (c :: r) = ([], some pos) := by rw [lex, if_neg h, e]
theorem lex_tok {pos c n : Nat} {r k : List Nat} {v : V} (h : c ≠ 32) (e : one (c :: r) = some (k, v, n)) : lex pos (c :: r) = ((k, v, pos) :: (lex (pos + n) (r.drop (n - 1))).1, (lex (pos + n) (r.drop (n - 1))).2) := by rw [lex, if_neg h, e]
theorem MLs_pos : ∀ m ∈ MLs, 1 ≤ m.length := by decide +kernel
theorem one_pos {l k : List Nat} {v : V} {n : Nat} (h : one l = some (k, v, n)) : 1 ≤ n ∧ n ≤ l.length := by
  cases l with
  | nil => cases h
  | cons c r =>
    rw [one_cons] at h
    by_cases hc : c = 39
    · rw [if_pos hc] at h
      cases e : endTx r with
      | none => rw [e] at h; cases h
      | some b =>
        rw [e] at h
        injection h with h
        injection h with _ h
        injection h with _ h
        unfold endTx at e
        split at e
        · rename_i hb
          cases e
          rw [Bool.and_eq_true, Bool.and_eq_true, decide_eq_true_iff] at hb
          have := hb.1.1
          rw [List.length_cons]
          omega
        · cases e
    · rw [if_neg hc] at h
      by_cases hl : letC c = true
      · rw [if_pos hl] at h
        cases e : ofRun ((c :: r).takeWhile letC) with
        | none => rw [e] at h; cases h
        | some p =>
          rw [e] at h
          injection h with h
          injection h with _ h
          injection h with _ h
          subst h
          refine ⟨?_, tw_le _⟩
          rw [List.takeWhile_cons, if_pos hl]
          simp
      · rw [if_neg hl] at h
        cases e : MLs.find? fun m => m.isPrefixOf (c :: r) with
        | none => rw [e] at h; cases h
        | some m =>
          rw [e] at h
          injection h with h
          injection h with _ h
          injection h with _ h
          subst h
          refine ⟨MLs_pos m (List.mem_of_find?_eq_some e), ?_⟩
          have := List.find?_some e
          exact (List.isPrefixOf_iff_prefix.mp this).length_le
end
section
/-! Tokens as they are written, and their reading. -/
open PySem PySem.Spec PyProof.Rows L2
open TL (numL tl_num numL_digits numL_ne numL_val numL_len numL_lt numL_step)
def RunOf (fs a : List Nat) : Prop := ∃ c r, a = c :: r ∧ c ∈ fs ∧ (∀ d ∈ r, d ∈ aJ) ∧ r.length ≤ 19
def IsName (a : List Nat) : Prop := RunOf aLow a ∧ a ∉ WL
def IsClass (a : List Nat) : Prop := RunOf aUp a
abbrev aTxt : List Nat := cds " !\"#$&()*+,-./0123456789:;<=>?@ABCDEFGHIJKLMNOPQRSTUVWXYZ[\\]^_`abcdefghijklmnopqrstuvwxyz{|}~"
theorem len_aTxt : aTxt.length = 93 := by decide +kernel
def IsText (a : List Nat) : Prop := (∀ d ∈ a, d ∈ aTxt) ∧ a.length ≤ 200
theorem word_name {a : List Nat} (h : a ∈ WL) : IsName (a ++ [49]) := by
  refine ⟨?_, WL_one a h⟩
  obtain ⟨c, r, rfl, hc, hr⟩ := WL_form a h
  refine ⟨c, r ++ [49], rfl, hc, fun d hd => ?_, ?_⟩
  · rcases List.mem_append.mp hd with hd | hd
    · exact hr d hd
    · rw [List.mem_singleton.mp hd]
      decide +kernel
  · have := WL_len _ h
    rw [List.length_cons] at this
    rw [List.length_append]
    simp
    omega
theorem RunOf.len {fs a : List Nat} (h : RunOf fs a) : a.length ≤ 20 := by
  obtain ⟨c, r, rfl, _, _, h⟩ := h
  rw [List.length_cons]
  omega

def touch (b t : List Nat) : Bool := if b = [] then false else if b = [60] then decide (t.head? = some 61) else (match b.getLast?, t.head? with | some c, some d => decide (c ∈ aJ) && decide (d ∈ aJ) | _, _ => false)
inductive Drawn : List Nat → V → List Nat → Prop
  | mark {m : List Nat} : m ∈ MLs → Drawn (cds "mark") (T m) m
  | number {n : Nat} : n ≤ 1000000000 → Drawn (cds "number") (.int n) (numL n)
  | word {a : List Nat} : a ∈ WL → Drawn (cds "word") (T a) a
  | cls {a : List Nat} : IsClass a → Drawn (cds "class") (T a) a
  | text {a : List Nat} : IsText a → Drawn (cds "text") (T a) (39 :: (a ++ [39]))
  | name {a : List Nat} : IsName a → Drawn (cds "name") (T a) a
theorem endTx_some' {r : List Nat} (h1 : (upQ r).length < r.length) (h2 : (upQ r).length ≤ 200) (h3 : (upQ r).all srcC = true) : endTx r = some (upQ r) := by
  unfold endTx
  rw [if_pos]
  rw [Bool.and_eq_true, Bool.and_eq_true, decide_eq_true_iff, decide_eq_true_iff]
  exact ⟨⟨h1, h2⟩, h3⟩

/-! ### a drawn token is read as itself -/
theorem MLs_eq : MLs = [[58, 61], [60, 61], [40], [41], [123], [125], [44], [59], [46], [124], [61], [60], [43], [45], [42], [47]] := by decide +kernel
def Apart (t rest : List Nat) : Prop := rest = [] ∨ touch t rest = false
theorem touch_head (b : List Nat) (d : Nat) (r r' : List Nat) : touch b (d :: r) = touch b (d :: r') := by
  unfold touch
  rfl
theorem touch_space (b r : List Nat) : touch b (32 :: r) = false := by
  unfold touch
  by_cases h : b = []
  · rw [if_pos h]
  · rw [if_neg h]
    by_cases h2 : b = [60]
    · rw [if_pos h2]; exact (by decide : decide (some (32 : Nat) = some 61) = false)
    · rw [if_neg h2, List.head?_cons]
      cases hb : b.getLast? with
      | none => rfl
      | some c =>
        have : decide (32 ∈ aJ) = false := by decide +kernel
        show (decide (c ∈ aJ) && decide (32 ∈ aJ)) = false
        rw [this, Bool.and_false]
theorem tw_run {t rest : List Nat} (hne : t ≠ []) (hJ : ∀ c ∈ t, c ∈ aJ) (h : Apart t rest) : (t ++ rest).takeWhile letC = t := by
  have hall : ∀ c ∈ t, letC c = true := fun c hc => decide_eq_true (hJ c hc)
  rw [List.takeWhile_append_of_pos hall]
  have : rest.takeWhile letC = [] := by
    cases rest with
    | nil => rfl
    | cons d r =>
      rcases h with h | h
      · cases h
      · rw [List.takeWhile_cons, if_neg]
        intro hd
        unfold touch at h
        rw [if_neg hne] at h
        have h60 : ¬ t = [60] := fun e => by
          have := hJ 60 (by rw [e]; simp)
          exact absurd this (by decide +kernel)
        rw [if_neg h60, List.head?_cons, List.getLast?_eq_some_getLast hne] at h
        have h1 : decide (t.getLast hne ∈ aJ) = true := decide_eq_true (hJ _ (List.getLast_mem hne))
        have h2 : (decide (t.getLast hne ∈ aJ) && decide (d ∈ aJ)) = false := h
        rw [h1, Bool.true_and] at h2
        have h3 : decide (d ∈ aJ) = true := hd
        rw [h2] at h3; cases h3
  rw [this, List.append_nil]
theorem low_facts : ∀ c ∈ aLow, digC c = false ∧ c ∉ aUp ∧ c ∈ aJ ∧ c ≠ 39 ∧ c ≠ 32 := by decide +kernel
theorem up_facts : ∀ c ∈ aUp, digC c = false ∧ c ∈ aJ ∧ c ≠ 39 ∧ c ≠ 32 := by decide +kernel
theorem txt_facts : ∀ c ∈ aTxt, srcC c = true ∧ c ≠ 39 := by decide +kernel
theorem numL_head {n : Nat} (h : 0 < n) : (numL n).headD 0 ≠ 48 := by
  induction n using Nat.strongRecOn with
  | _ n ih =>
    by_cases hn : n < 10
    · rw [numL_lt hn]
      show 48 + n ≠ 48
      omega
    · rw [numL_step (by omega)]
      have := ih (n / 10) (by omega) (by omega)
      cases e : numL (n / 10) with
      | nil => exact absurd e (numL_ne _)
      | cons c r =>
        rw [e] at this
        exact this
theorem numRun_num {n : Nat} (h : n ≤ 1000000000) : numRun (numL n) = some n := by
  unfold numRun
  rw [numL_val, if_pos]
  have hd : (numL n).all digC = true := List.all_eq_true.mpr fun c hc => by
    have := numL_digits n c hc
    unfold digC
    rw [Bool.and_eq_true, decide_eq_true_iff, decide_eq_true_iff]
    exact this
  have hlen : (numL n).length ≤ 10 := numL_len (by decide) (by omega)
  rw [Bool.and_eq_true, Bool.and_eq_true, Bool.and_eq_true, decide_eq_true_iff, decide_eq_true_iff]
  refine ⟨⟨⟨hd, ?_⟩, hlen⟩, h⟩
  by_cases h0 : 0 < n
  · rw [decide_eq_false (numL_head h0)]; rfl
  · have : n = 0 := by omega
    subst this
    rw [numL_lt (by decide)]; rfl
theorem runOne {t rest : List Nat} {k : List Nat} {v : V} (hne : t ≠ []) (hJ : ∀ c ∈ t, c ∈ aJ) (h : Apart t rest) (e : ofRun t = some (k, v)) (h39 : t.headD 0 ≠ 39) : one (t ++ rest) = some (k, v, t.length) := by
  obtain ⟨c, r, rfl⟩ : ∃ c r, t = c :: r := by
    cases t with
    | nil => exact absurd rfl hne
    | cons c r => exact ⟨c, r, rfl⟩
  have htw := tw_run hne hJ h
  rw [List.cons_append] at htw ⊢
  have hc : letC c = true := decide_eq_true (hJ c (List.mem_cons_self))
  rw [one_cons, if_neg (show ¬ c = 39 from h39), if_pos hc, htw, e]
  rfl
theorem drawn_one {k t rest : List Nat} {v : V} (d : Drawn k v t) (h : Apart t rest) : one (t ++ rest) = some (k, v, t.length) ∧ ∃ c r, t = c :: r ∧ c ≠ 32 := by
  cases d with
  | mark hm =>
    have two : ∀ c : Nat, c ≠ 39 → letC c = false → ∀ r m, (MLs.find? fun m => m.isPrefixOf (c :: r)) = some m → one (c :: r) = some (cds "mark", T m, m.length) := fun c h1 h2 r m h3 => by
      rw [one_cons, if_neg h1, if_neg (by rw [h2]; exact Bool.false_ne_true), h3]
      rfl
    have hL : ∀ c ∈ [58, 60, 40, 41, 123, 125, 44, 59, 46, 124, 61, 43, 45, 42, 47], c ≠ 39 ∧ letC c = false ∧ c ≠ 32 := by decide +kernel
    rw [MLs_eq] at hm
    simp only [List.mem_cons, List.not_mem_nil, or_false] at hm
    rcases hm with rfl | rfl | rfl | rfl | rfl | rfl | rfl | rfl | rfl | rfl | rfl | rfl | rfl | rfl | rfl | rfl
    all_goals
      refine ⟨?_, _, _, rfl, by decide⟩
      refine two _ (by decide) (by decide +kernel) _ _ ?_
      rw [MLs_eq]
    case inr.inr.inr.inr.inr.inr.inr.inr.inr.inr.inr.inl =>
      cases rest with
      | nil => simp [List.find?, List.isPrefixOf]
      | cons d r =>
        have : ¬ d = 61 := fun e => by
          rcases h with h | h
          · cases h
          · rw [e] at h
            unfold touch at h
            rw [if_neg (by simp), if_pos rfl] at h
            simp at h
        have h2 : ((61 : Nat) == d) = false := by
          refine beq_eq_false_iff_ne.mpr fun e => this e.symm
        simp [List.find?, List.isPrefixOf, h2]
    all_goals simp [List.find?, List.isPrefixOf]
  | @number n hn =>
    have hJ : ∀ c ∈ numL n, c ∈ aJ := fun c hc => by
      have := numL_digits n c hc
      have hd : digC c = true := by unfold digC; rw [Bool.and_eq_true, decide_eq_true_iff, decide_eq_true_iff]; exact this
      exact of_decide_eq_true (dig_let hd)
    obtain ⟨c, r, e⟩ : ∃ c r, numL n = c :: r := by
      cases e : numL n with
      | nil => exact absurd e (numL_ne n)
      | cons c r => exact ⟨c, r, rfl⟩
    have hc := numL_digits n c (by rw [e]; exact List.mem_cons_self)
    refine ⟨runOne (numL_ne n) hJ h ?_ (by rw [e]; show c ≠ 39; omega), c, r, e, by omega⟩
    unfold ofRun
    rw [if_pos (by rw [e]; show digC c = true; unfold digC; rw [Bool.and_eq_true, decide_eq_true_iff, decide_eq_true_iff]; exact hc), numRun_num hn]
    rfl
  | word ha =>
    obtain ⟨c, r, rfl, hc, hr⟩ := WL_form _ ha
    obtain ⟨f1, f2, f3, f4, f5⟩ := low_facts c hc
    refine ⟨runOne (List.cons_ne_nil _ _) (fun d hd => by rcases List.mem_cons.mp hd with rfl | hd; exact f3; exact hr d hd) h ?_ f4, c, r, rfl, f5⟩
    have := WL_len _ ha
    unfold ofRun
    rw [List.headD_cons, if_neg (by rw [f1]; exact Bool.false_ne_true), if_neg (by omega), if_neg f2, if_pos ha]
  | cls ha =>
    have hl := RunOf.len ha
    obtain ⟨c, r, rfl, hc, hr, _⟩ := ha
    obtain ⟨f1, f3, f4, f5⟩ := up_facts c hc
    refine ⟨runOne (List.cons_ne_nil _ _) (fun d hd => by rcases List.mem_cons.mp hd with rfl | hd; exact f3; exact hr d hd) h ?_ f4, c, r, rfl, f5⟩
    unfold ofRun
    rw [List.headD_cons, if_neg (by rw [f1]; exact Bool.false_ne_true), if_neg (by omega), if_pos hc]
  | name ha =>
    have hl := RunOf.len ha.1
    have hw := ha.2
    obtain ⟨c, r, rfl, hc, hr, _⟩ := ha.1
    obtain ⟨f1, f2, f3, f4, f5⟩ := low_facts c hc
    refine ⟨runOne (List.cons_ne_nil _ _) (fun d hd => by rcases List.mem_cons.mp hd with rfl | hd; exact f3; exact hr d hd) h ?_ f4, c, r, rfl, f5⟩
    unfold ofRun
    rw [List.headD_cons, if_neg (by rw [f1]; exact Bool.false_ne_true), if_neg (by omega), if_neg f2, if_neg hw]
  | @text a ha =>
    refine ⟨?_, 39, a ++ [39], rfl, by decide⟩
    have hu : upQ (a ++ 39 :: rest) = a := by
      unfold upQ
      rw [List.takeWhile_append_of_pos (fun c hc => by have := (txt_facts c (ha.1 c hc)).2; simpa using this)]
      simp
    have e1 : 39 :: (a ++ [39]) ++ rest = 39 :: (a ++ 39 :: rest) := by simp
    rw [e1, one_cons, if_pos rfl, endTx_some' (by rw [hu]; simp) (by rw [hu]; exact ha.2) (by rw [hu]; exact List.all_eq_true.mpr fun c hc => (txt_facts c (ha.1 c hc)).1), hu]
    simp

/-! ### the text as it grows -/
def Grown (cs : List Nat) (due : List Tk) (b : List Nat) : Prop := ∀ rest, Apart b rest → lex 0 (cs ++ rest) = (due ++ (lex cs.length rest).1, (lex cs.length rest).2)
theorem lex_spaces : ∀ (n pos : Nat) (r : List Nat), lex pos (List.replicate n 32 ++ r) = lex (pos + n) r
  | 0, _, _ => rfl
  | n + 1, pos, r => by
    rw [List.replicate_succ, List.cons_append, lex_sp, lex_spaces n (pos + 1) r]
    congr 1
    omega
theorem grown_start (n : Nat) : Grown (List.replicate n 32) [] [] := fun rest _ => by
  rw [lex_spaces, List.length_replicate, Nat.zero_add]
  rfl
theorem apart_gap {b t rest : List Nat} {n : Nat} {c : Nat} {r : List Nat} (ht : t = c :: r) (hg : touch b t = true → 1 ≤ n) : Apart b (List.replicate n 32 ++ t ++ rest) := by
  subst ht
  cases n with
  | zero =>
    refine .inr ?_
    show touch b (c :: (r ++ rest)) = false
    rw [touch_head b c _ r]
    cases h : touch b (c :: r) with
    | false => rfl
    | true => exact absurd (hg h) (by decide)
  | succ n => exact .inr (touch_space _ _)
theorem grown_step {cs : List Nat} {due : List Tk} {b k t : List Nat} {v : V} {n : Nat} (g : Grown cs due b) (d : Drawn k v t) (hg : touch b t = true → 1 ≤ n) :
    Grown (cs ++ List.replicate n 32 ++ t) (due ++ [(k, v, cs.length + n)]) t := fun rest hr => by
  obtain ⟨e1, c, r, ht, hc⟩ := drawn_one d hr
  have ha : Apart b (List.replicate n 32 ++ t ++ rest) := apart_gap ht hg
  have e2 := g _ ha
  have e3 : cs ++ List.replicate n 32 ++ t ++ rest = cs ++ (List.replicate n 32 ++ t ++ rest) := by simp
  rw [e3, e2, List.append_assoc (List.replicate n 32), lex_spaces]
  subst ht
  rw [List.cons_append] at e1 ⊢
  rw [lex_tok hc e1]
  have e4 : (r ++ rest).drop ((c :: r).length - 1) = rest := by
    rw [List.length_cons, Nat.add_sub_cancel, List.drop_left]
  have e5 : (cs ++ List.replicate n 32 ++ c :: r).length = cs.length + n + (c :: r).length := by
    rw [List.length_append, List.length_append, List.length_replicate]
  rw [e4, e5, List.append_assoc]
  rfl
theorem grown_end {cs : List Nat} {due : List Tk} {b : List Nat} (g : Grown cs due b) (n : Nat) : lex 0 (cs ++ List.replicate n 32) = (due, none) := by
  have ha : Apart b (List.replicate n 32) := by
    cases n with
    | zero => exact .inl rfl
    | succ n => exact .inr (touch_space _ _)
  have := lex_spaces n cs.length []
  rw [List.append_nil, lex_nil] at this
  rw [g _ ha, this, List.append_nil]
theorem Drawn.len {k t : List Nat} {v : V} (d : Drawn k v t) : t.length ≤ 202 ∧ k.length ≤ 10 ∧ ((∃ a : List Nat, v = T a ∧ (∀ c ∈ a, c < 128)) ∨ ∃ i : Int, v = .int i) ∧ (∀ c ∈ k, c < 128) := by
  cases d with
  | mark hm =>
    have h1 : ∀ m ∈ MLs, m.length ≤ 2 ∧ ∀ c ∈ m, c < 128 := by decide +kernel
    have := h1 _ hm
    exact ⟨by omega, by decide +kernel, .inl ⟨_, rfl, this.2⟩, by decide +kernel⟩
  | @number n hn =>
    have hlen : (numL n).length ≤ 10 := numL_len (by decide) (by omega)
    exact ⟨by omega, by decide +kernel, .inr ⟨_, rfl⟩, by decide +kernel⟩
  | word ha =>
    have := WL_len _ ha
    have h1 : ∀ m ∈ WL, ∀ c ∈ m, c < 128 := by decide +kernel
    exact ⟨by omega, by decide +kernel, .inl ⟨_, rfl, h1 _ ha⟩, by decide +kernel⟩
  | cls ha =>
    have := RunOf.len ha
    obtain ⟨c, r, rfl, hc, hr, _⟩ := ha
    refine ⟨by omega, by decide +kernel, .inl ⟨_, rfl, fun d hd => aJ_ascii d ?_⟩, by decide +kernel⟩
    rcases List.mem_cons.mp hd with rfl | hd
    · exact (up_facts _ hc).2.1
    · exact hr d hd
  | name ha =>
    have := RunOf.len ha.1
    obtain ⟨c, r, rfl, hc, hr, _⟩ := ha.1
    refine ⟨by omega, by decide +kernel, .inl ⟨_, rfl, fun d hd => aJ_ascii d ?_⟩, by decide +kernel⟩
    rcases List.mem_cons.mp hd with rfl | hd
    · exact (low_facts _ hc).2.2.1
    · exact hr d hd
  | text ha =>
    have := ha.2
    have h1 : ∀ c ∈ aTxt, c < 128 := by decide +kernel
    refine ⟨?_, by decide +kernel, .inl ⟨_, rfl, fun d hd => h1 d (ha.1 d hd)⟩, by decide +kernel⟩
    rw [List.length_cons, List.length_append]
    simp
    omega

end
section
/-! The reader as plain functions over its tokens. -/
open PySem PySem.Spec PyProof.Rows L2
/-! ### what a reader does, as a function -/
inductive Res (S α : Type) where
  | ok (a : α) (s : S)
  | bad (i : Nat)
  | stuck
def Res.bind {S α β : Type} (x : Res S α) (k : α → S → Res S β) : Res S β := match x with | .ok a s => k a s | .bad i => .bad i | .stuck => .stuck
def Out {S α : Type} (x : Res S α) (A : α → S → Prop) (B : Nat → Prop) : Prop := match x with | .ok a s => A a s | .bad i => B i | .stuck => False
theorem Out.mono {S α : Type} {x : Res S α} {A A' : α → S → Prop} {B B' : Nat → Prop} (h : Out x A B) (f : ∀ a s, A a s → A' a s) (g : ∀ i, B i → B' i) : Out x A' B' := by
  cases x with
  | ok a s => exact f a s h
  | bad i => exact g i h
  | stuck => exact h.elim
theorem Out.bind {S α β : Type} {x : Res S α} {k : α → S → Res S β} {A : β → S → Prop} {B : Nat → Prop} (h : Out (x.bind k) A B) : Out x (fun a s => Out (k a s) A B) B := by
  cases x with
  | ok a s => exact h
  | bad i => exact h
  | stuck => exact h
theorem Res.bind_assoc {S α β γ : Type} (x : Res S α) (k : α → S → Res S β) (l : β → S → Res S γ) : (x.bind k).bind l = x.bind fun a s => (k a s).bind l := by
  cases x <;> rfl
structure RS where
  n : Nat
  ds : List Nat
  tw : Option (List Nat)
def txtV : V → List Nat
  | .str x => x.cps.toList
  | _ => []
theorem txtV_T (a : List Nat) : txtV (T a) = a := by
  show (⟨a.toArray⟩ : Str).cps.toList = a
  simp
def fixT (t : Tk) : List Nat := if t.1 = cds "word" ∨ t.1 = cds "mark" then txtV t.2.1 else []
def tokN (ts : List Tk) (i : Nat) : Tk := ts.getD i ([], .non, 0)
def posN (ts : List Tk) (i : Nat) : Nat := (tokN ts i).2.2
theorem tokN_get {ts : List Tk} {i : Nat} (h : i < ts.length) : ts[i]? = some (tokN ts i) := by
  unfold tokN
  rw [List.getD_eq_getElem?_getD, List.getElem?_eq_getElem h]
  rfl
/-! the small readings -/
def rFixed (ts : List Tk) (k : Nat) (S : RS) : Res RS (List Nat) := if S.n + k < ts.length then .ok (fixT (tokN ts (S.n + k))) S else .stuck
def rAccept (ts : List Tk) (a : List Nat) (S : RS) : Res RS Bool := (rFixed ts 0 S).bind fun b S => if b = a then .ok true { S with n := S.n + 1 } else .ok false S
def rRefuse {α : Type} (ts : List Tk) (S : RS) : Res RS α := if S.n < ts.length then .bad (posN ts S.n) else .stuck
def rExpect (ts : List Tk) (a : List Nat) (S : RS) : Res RS Unit := (rAccept ts a S).bind fun b S1 => if b = true then .ok () S1 else rRefuse ts S1
def rTake (ts : List Tk) (a : List Nat) (S : RS) : Res RS V := if S.n < ts.length then (if (tokN ts S.n).1 = a then .ok (tokN ts S.n).2.1 { S with n := S.n + 1 } else rRefuse ts S) else .stuck
def rName (ts : List Tk) (S : RS) : Res RS (List Nat) := (rTake ts (cds "name") S).bind fun v S => .ok (txtV v) S
def rNamesGo (ts : List Tk) (most : Nat) : Nat → List (List Nat) → RS → Res RS (List (List Nat))
  | 0, _, _ => .stuck
  | k + 1, l, S => (rAccept ts (cds ",") S).bind fun b S => if b = true then (if l.length = most then rRefuse ts S else (rName ts S).bind fun x S => rNamesGo ts most k (l ++ [x]) S) else .ok l S
def rNames (ts : List Tk) (most : Nat) (S : RS) : Res RS (List (List Nat)) := (rName ts S).bind fun x S => rNamesGo ts most (most + 1) [x] S
def rBegin (ts : List Tk) (d : Nat) (S : RS) : Res RS Unit := if 12 < d then rRefuse ts S else if S.ds.length < 400000 then .ok () { S with ds := S.ds ++ [d] } else .stuck
def maxN : List Nat → Nat
  | [] => 0
  | a :: l => max a (maxN l)
def rDeepen (ts : List Tk) (f : Nat) (S : RS) : Res RS Unit := if S.ds.length ≤ f then .stuck else if 12 < maxN ((S.ds.drop f).map (· + 1)) then rRefuse ts S else .ok () { S with ds := S.ds.take f ++ (S.ds.drop f).map (· + 1) }
def rBefore (ts : List Tk) (ms : List (List Nat)) (S : RS) : Res RS Bool := if S.n < ts.length then (if (tokN ts S.n).1 = cds "name" then (rFixed ts 1 S).bind fun b S => .ok (decide (b ∈ ms)) S else .ok false S) else .stuck
def twGo (l : List (List Nat)) (t : Option (List Nat)) : Nat → Option (List Nat)
  | 0 => t
  | i + 1 => if twGo l t i = none ∧ l.getD i [] ∈ l.take i then some (l.getD i []) else twGo l t i
def rNote (l : List (List Nat)) (S : RS) : Res RS Unit := .ok () { S with tw := twGo l S.tw l.length }
/-! ### the grammar -/
section
variable (ts : List Tk) (ex : Nat → Nat → RS → Res RS Tr) (bo : List (List Nat) → Nat → RS → Res RS (List Tr))
def str (x : String) : Tr := .s (cds x)
def gArgsGo (d : Nat) : Nat → List Tr → RS → Res RS (List Tr)
  | 0, _, _ => .stuck
  | k + 1, l, S => (rAccept ts (cds ",") S).bind fun b S => if b = true then (if l.length = 8 then rRefuse ts S else (ex 1 d S).bind fun t S => gArgsGo d k (l ++ [t]) S) else .ok l S
def gArgs (d : Nat) (S : RS) : Res RS (List Tr) := (rExpect ts (cds "(") S).bind fun _ S => (rAccept ts (cds ")") S).bind fun b S => if b = true then .ok [] S else
  (ex 1 d S).bind fun t S => (gArgsGo ts ex d 9 [t] S).bind fun l S => (rExpect ts (cds ")") S).bind fun _ S => .ok l S
def gBlock (d : Nat) (S : RS) : Res RS Tr := (rExpect ts (cds "{") S).bind fun _ S => (rBefore ts [cds ",", cds "|"] S).bind fun b S =>
  if b = true then (rNames ts 4 S).bind fun ns S => (rExpect ts (cds "|") S).bind fun _ S => (rNote ns S).bind fun _ S => (bo [cds "}"] (d + 1) S).bind fun l S => (rExpect ts (cds "}") S).bind fun _ S => .ok (.t [str "block", .t (ns.map Tr.s), .t l]) S
  else (bo [cds "}"] (d + 1) S).bind fun l S => (rExpect ts (cds "}") S).bind fun _ S => .ok (.t [str "block", .t [], .t l]) S
def gSuper (d : Nat) (S : RS) : Res RS Tr := (rExpect ts (cds "super") S).bind fun _ S => (rExpect ts (cds ".") S).bind fun _ S => (rName ts S).bind fun a S => (gArgs ts ex (d + 1) S).bind fun l S => .ok (.t [str "super", .s a, .t l]) S
end

def plainL : List (List Nat × V) := [(cds "none", .non), (cds "true", .bl true), (cds "false", .bl false)]
def plainTr : V → Tr
  | .int x => .i x
  | .bl b => .b b
  | .str x => .s x.cps.toList
  | _ => .n
section
variable (ts : List Tk) (ex : Nat → Nat → RS → Res RS Tr) (bo : List (List Nat) → Nat → RS → Res RS (List Tr))
def gPrimary (d : Nat) (S : RS) : Res RS Tr := if S.n < ts.length then
    (if (tokN ts S.n).1 = cds "number" ∨ (tokN ts S.n).1 = cds "text" then (rTake ts (tokN ts S.n).1 S).bind fun v S => .ok (.t [str "plain", plainTr v]) S
    else if (tokN ts S.n).1 = cds "name" then (rTake ts (tokN ts S.n).1 S).bind fun v S => .ok (.t [str "name", plainTr v]) S
    else (rFixed ts 0 S).bind fun w S => if w = cds "{" then gBlock ts bo d S else if w = cds "super" then gSuper ts ex d S else
      (rAccept ts (cds "(") S).bind fun b S => if b = true then (ex 1 (d + 1) S).bind fun t S => (rExpect ts (cds ")") S).bind fun _ S => .ok t S else
      (rAccept ts (cds "new") S).bind fun b S => if b = true then (rTake ts (cds "class") S).bind fun v S => .ok (.t [str "new", plainTr v]) S else
      (rAccept ts (cds "self") S).bind fun b S => if b = true then .ok (.t [str "self"]) S else
      match plainL.lookup w with
      | none => rRefuse ts S
      | some v => (rExpect ts w S).bind fun _ S => .ok (.t [str "plain", plainTr v]) S)
  else .stuck
end
def aheadN : List (List Nat × Nat) := [(cds "not", 3), (cds "-", 7)]
def treesN : List (List Nat × List Nat) := [(cds "not", cds "not"), (cds "-", cds "neg")]
section
variable (ts : List Tk) (ex : Nat → Nat → RS → Res RS Tr) (bo : List (List Nat) → Nat → RS → Res RS (List Tr))
def gOpening (p d : Nat) (S : RS) : Res RS (Tr × Nat) := (rFixed ts 0 S).bind fun w S => if (aheadN.lookup w).getD 0 < p then (gPrimary ts ex bo d S).bind fun t S => .ok (t, 9) S else
  (rExpect ts w S).bind fun _ S => match treesN.lookup w with
    | none => .stuck
    | some nm => (ex ((aheadN.lookup w).getD 0) (d + 1) S).bind fun t S => .ok (.t [.s nm, t], (aheadN.lookup w).getD 0) S
end
def behN : List (List Nat × Nat) := [(cds "or", 1), (cds "and", 2), (cds "=", 4), (cds "<", 4), (cds "<=", 4), (cds "+", 5), (cds "-", 5), (cds "*", 6), (cds "/", 6), (cds ".", 8)]
def levB (w : List Nat) : Nat := (behN.lookup w).getD 0
def goOn (w : List Nat) (p lev : Nat) : Bool := decide (p ≤ levB w) && (!decide (levB w = 4) || decide (4 < lev))
section
variable (ts : List Tk) (ex : Nat → Nat → RS → Res RS Tr) (bo : List (List Nat) → Nat → RS → Res RS (List Tr))
def gSign (w : List Nat) (lv d : Nat) (tr : Tr) (S : RS) : Res RS Tr :=
  if w = cds "." then (rName ts S).bind fun a S => (gArgs ts ex (d + 1) S).bind fun l S => .ok (.t [str "send", tr, .s a, .t l]) S
  else if w = cds "and" ∨ w = cds "or" then (ex (lv + 1) (d + 1) S).bind fun t S => .ok (.t [.s w, tr, t]) S
  else (ex (lv + 1) (d + 1) S).bind fun t S => .ok (.t [str "op", .s w, tr, t]) S
def gExprGo (p d first : Nat) : Nat → Tr → Nat → List Nat → RS → Res RS Tr
  | 0, _, _, _, _ => .stuck
  | k + 1, tr, lev, w, S => if goOn w p lev = true then (rDeepen ts first S).bind fun _ S => (rExpect ts w S).bind fun _ S => match behN.lookup w with
      | none => .stuck
      | some lv => (gSign ts ex w lv d tr S).bind fun tr S => (rFixed ts 0 S).bind fun w' S => gExprGo p d first k tr lv w' S
    else .ok tr S
def gExpr (p d : Nat) (S : RS) : Res RS Tr := (rBegin ts d S).bind fun _ S1 => (gOpening ts ex bo p d S1).bind fun o S2 => (rFixed ts 0 S2).bind fun w S3 => gExprGo ts ex p d S.ds.length (ts.length + 1) o.1 o.2 w S3
end
section
variable (ts : List Tk) (ex : Nat → Nat → RS → Res RS Tr) (bo : List (List Nat) → Nat → RS → Res RS (List Tr)) (st : Nat → RS → Res RS Tr)
def gBodyGo (d : Nat) : Nat → List Tr → RS → Res RS (List Tr)
  | 0, _, _ => .stuck
  | k + 1, l, S => (rAccept ts (cds ";") S).bind fun b S => if b = true then (st d S).bind fun t S => gBodyGo d k (l ++ [t]) S else .ok l S
def gBody (ms : List (List Nat)) (d : Nat) (S : RS) : Res RS (List Tr) := (rFixed ts 0 S).bind fun w S => if w ∈ ms then .ok [] S else (st d S).bind fun t S => gBodyGo ts st d (ts.length + 1) [t] S
def gSet (d : Nat) (S : RS) : Res RS Tr := (rName ts S).bind fun a S => (rExpect ts (cds ":=") S).bind fun _ S => (ex 1 (d + 1) S).bind fun t S => .ok (.t [str "set", .s a, t]) S
def gWhile (d : Nat) (S : RS) : Res RS Tr := (rExpect ts (cds "while") S).bind fun _ S => (ex 1 (d + 1) S).bind fun t S => (rExpect ts (cds "do") S).bind fun _ S => (bo [cds "end"] (d + 1) S).bind fun l S => (rExpect ts (cds "end") S).bind fun _ S => .ok (.t [str "while", t, .t l]) S
end
section
variable (ts : List Tk) (ex : Nat → Nat → RS → Res RS Tr) (bo : List (List Nat) → Nat → RS → Res RS (List Tr))
def gTry (d : Nat) (S : RS) : Res RS Tr := (rExpect ts (cds "try") S).bind fun _ S => (bo [cds "catch"] (d + 1) S).bind fun l S => (rExpect ts (cds "catch") S).bind fun _ S => (rName ts S).bind fun a S => (rExpect ts (cds "then") S).bind fun _ S =>
  (bo [cds "end"] (d + 1) S).bind fun l2 S => (rExpect ts (cds "end") S).bind fun _ S => .ok (.t [str "try", .t l, .s a, .t l2]) S
def gKeep (d : Nat) (S : RS) : Res RS Tr := (rExpect ts (cds "keep") S).bind fun _ S => (bo [cds "always"] (d + 1) S).bind fun l S => (rExpect ts (cds "always") S).bind fun _ S =>
  (bo [cds "end"] (d + 1) S).bind fun l2 S => (rExpect ts (cds "end") S).bind fun _ S => .ok (.t [str "keep", .t l, .t l2]) S
def gIf (d : Nat) (S : RS) : Res RS Tr := (rExpect ts (cds "if") S).bind fun _ S => (ex 1 (d + 1) S).bind fun t S => (rExpect ts (cds "then") S).bind fun _ S => (bo [cds "else", cds "end"] (d + 1) S).bind fun l S => (rAccept ts (cds "else") S).bind fun b S =>
  if b = true then (bo [cds "end"] (d + 1) S).bind fun l2 S => (rExpect ts (cds "end") S).bind fun _ S => .ok (.t [str "if", t, .t l, .t l2]) S else (rExpect ts (cds "end") S).bind fun _ S => .ok (.t [str "if", t, .t l, .t []]) S
end
section
variable (ts : List Tk) (ex : Nat → Nat → RS → Res RS Tr) (bo : List (List Nat) → Nat → RS → Res RS (List Tr))
def gSt (d : Nat) (S : RS) : Res RS Tr := (rBegin ts d S).bind fun _ S => (rFixed ts 0 S).bind fun w S =>
  if w = cds "give" ∨ w = cds "fail" then (rExpect ts w S).bind fun _ S => (ex 1 (d + 1) S).bind fun t S => .ok (.t [.s w, t]) S
  else if w = cds "while" then gWhile ts ex bo d S
  else if w = cds "if" then gIf ts ex bo d S
  else if w = cds "try" then gTry ts bo d S
  else if w = cds "keep" then gKeep ts bo d S
  else (rBefore ts [cds ":="] S).bind fun b S => if b = true then gSet ts ex d S else (ex 1 (d + 1) S).bind fun t S => .ok (.t [str "eval", t]) S
end
def exN (ts : List Tk) : Nat → (Nat → Nat → RS → Res RS Tr) × (List (List Nat) → Nat → RS → Res RS (List Tr))
  | 0 => (fun _ _ _ => .stuck, fun _ _ _ => .stuck)
  | n + 1 => (gExpr ts (exN ts n).1 (exN ts n).2, gBody ts (gSt ts (exN ts n).1 (exN ts n).2))
section
variable (ts : List Tk) (bo : List (List Nat) → Nat → RS → Res RS (List Tr))
def gMethod3 (a : List Nat) (ps vs : List (List Nat)) (S : RS) : Res RS Tr := (rNote (ps ++ vs) S).bind fun _ S => (bo [cds "end"] 1 S).bind fun l S => (rExpect ts (cds "end") S).bind fun _ S => .ok (.t [str "method", .s a, .t (ps.map Tr.s), .t (vs.map Tr.s), .t l]) S
def gMethod2 (a : List Nat) (ps : List (List Nat)) (S : RS) : Res RS Tr := (rExpect ts (cds ")") S).bind fun _ S => (rAccept ts (cds "var") S).bind fun b S => if b = true then (rNames ts 8 S).bind fun vs S => (rExpect ts (cds ";") S).bind fun _ S => gMethod3 ts bo a ps vs S else gMethod3 ts bo a ps [] S
def gMethod (S : RS) : Res RS Tr := (rExpect ts (cds "method") S).bind fun _ S => (rName ts S).bind fun a S => (rExpect ts (cds "(") S).bind fun _ S => (rFixed ts 0 S).bind fun w S => if w = cds ")" then gMethod2 ts bo a [] S else (rNames ts 8 S).bind fun ps S => gMethod2 ts bo a ps S
end
def endTks (cs : List Nat) (ts : List Tk) : List Tk := ts ++ [(cds "nothing", T [], cs.length)]
end
section
/-! Derivations of expressions and statements: their tokens are read back. -/
open PySem PySem.Spec PyProof.Rows L2
abbrev Ws := List (List Nat)
def tk (a : List Nat) : List Nat × V := match one a with
  | some (k, v, _) => (k, v)
  | none => ([], .non)
def fx (a : List Nat) : List Nat := fixT ((tk a).1, (tk a).2, 0)
def isNm (a : List Nat) : Prop := tk a = (cds "name", T a)
def commas : Ws → Ws
  | [] => []
  | [a] => [a]
  | a :: b :: l => a :: cds "," :: commas (b :: l)
def binT (s : List Nat) (a b : Tr) : Tr := if s = cds "and" ∨ s = cds "or" then .t [.s s, a, b] else .t [str "op", .s s, a, b]
mutual
/-- an expression: its level, a bound of its height, its tree, its tokens, its blocks' parameters -/
inductive Ex : Nat → Nat → Tr → Ws → List Ws → Prop
  | num {h : Nat} {a : List Nat} {x : Int} : tk a = (cds "number", .int x) → Ex 9 (h + 1) (.t [str "plain", .i x]) [a] []
  | text {h : Nat} {a b : List Nat} : tk a = (cds "text", T b) → Ex 9 (h + 1) (.t [str "plain", .s b]) [a] []
  | word {h : Nat} {a : List Nat} {v : V} : plainL.lookup a = some v → Ex 9 (h + 1) (.t [str "plain", plainTr v]) [a] []
  | self {h : Nat} : Ex 9 (h + 1) (.t [str "self"]) [cds "self"] []
  | new {h : Nat} {a : List Nat} : tk a = (cds "class", T a) → Ex 9 (h + 1) (.t [str "new", .s a]) [cds "new", a] []
  | name {h : Nat} {a : List Nat} : isNm a → Ex 9 (h + 1) (.t [str "name", .s a]) [a] []
  | par {lv h : Nat} {t : Tr} {w : Ws} {ns : List Ws} : 1 ≤ lv → Ex lv h t w ns → Ex 9 (h + 1) t (cds "(" :: (w ++ [cds ")"])) ns
  | neg {lv h : Nat} {t : Tr} {w : Ws} {ns : List Ws} : 7 ≤ lv → Ex lv h t w ns → Ex 7 (h + 1) (.t [str "neg", t]) (cds "-" :: w) ns
  | not {lv h : Nat} {t : Tr} {w : Ws} {ns : List Ws} : 3 ≤ lv → Ex lv h t w ns → Ex 3 (h + 1) (.t [str "not", t]) (cds "not" :: w) ns
  | bin {l lv1 lv2 h : Nat} {s : List Nat} {t1 t2 : Tr} {w1 w2 : Ws} {n1 n2 : List Ws} : behN.lookup s = some l → s ≠ cds "." → (if l = 4 then 5 else l) ≤ lv1 → Ex lv1 h t1 w1 n1 → l + 1 ≤ lv2 → Ex lv2 h t2 w2 n2 → Ex l (h + 1) (binT s t1 t2) (w1 ++ s :: w2) (n1 ++ n2)
  | send {lv h : Nat} {t : Tr} {w : Ws} {ns : List Ws} {x : List Nat} {l : List Tr} {w2 : Ws} {n2 : List Ws} : 8 ≤ lv → Ex lv h t w ns → isNm x → Ar h l w2 n2 → Ex 8 (h + 1) (.t [str "send", t, .s x, .t l]) (w ++ cds "." :: x :: cds "(" :: (w2 ++ [cds ")"])) (ns ++ n2)
  | sup {h : Nat} {x : List Nat} {l : List Tr} {w2 : Ws} {n2 : List Ws} : isNm x → Ar h l w2 n2 → Ex 9 (h + 1) (.t [str "super", .s x, .t l]) (cds "super" :: cds "." :: x :: cds "(" :: (w2 ++ [cds ")"])) n2
  | blk0 {h : Nat} {l : List Tr} {w : Ws} {ns : List Ws} : Bd h l w ns → Ex 9 (h + 1) (.t [str "block", .t [], .t l]) (cds "{" :: (w ++ [cds "}"])) ns
  | blk {h : Nat} {ps : Ws} {l : List Tr} {w : Ws} {ns : List Ws} : ps ≠ [] → ps.length ≤ 4 → (∀ x ∈ ps, isNm x) → Bd h l w ns → Ex 9 (h + 1) (.t [str "block", .t (ps.map Tr.s), .t l]) (cds "{" :: (commas ps ++ cds "|" :: (w ++ [cds "}"]))) (ps :: ns)
/-- arguments behind the first -/
inductive Al : Nat → List Tr → Ws → List Ws → Prop
  | nil {h : Nat} : Al h [] [] []
  | cons {lv h : Nat} {t : Tr} {w : Ws} {ns : List Ws} {l : List Tr} {w2 : Ws} {n2 : List Ws} : 1 ≤ lv → Ex lv h t w ns → Al h l w2 n2 → Al h (t :: l) (cds "," :: (w ++ w2)) (ns ++ n2)
inductive Ar : Nat → List Tr → Ws → List Ws → Prop
  | nil {h : Nat} : Ar h [] [] []
  | cons {lv h : Nat} {t : Tr} {w : Ws} {ns : List Ws} {l : List Tr} {w2 : Ws} {n2 : List Ws} : 1 ≤ lv → Ex lv h t w ns → Al h l w2 n2 → l.length ≤ 7 → Ar h (t :: l) (w ++ w2) (ns ++ n2)
inductive St : Nat → Tr → Ws → List Ws → Prop
  | eval {lv h : Nat} {t : Tr} {w : Ws} {ns : List Ws} : 1 ≤ lv → Ex lv h t w ns → St (h + 1) (.t [str "eval", t]) w ns
  | set {lv h : Nat} {t : Tr} {w : Ws} {ns : List Ws} {x : List Nat} : isNm x → 1 ≤ lv → Ex lv h t w ns → St (h + 1) (.t [str "set", .s x, t]) (x :: cds ":=" :: w) ns
  | gf {lv h : Nat} {t : Tr} {w : Ws} {ns : List Ws} {g : List Nat} : g = cds "give" ∨ g = cds "fail" → 1 ≤ lv → Ex lv h t w ns → St (h + 1) (.t [.s g, t]) (g :: w) ns
  | whl {lv h : Nat} {t : Tr} {w : Ws} {ns : List Ws} {l : List Tr} {w2 : Ws} {n2 : List Ws} : 1 ≤ lv → Ex lv h t w ns → Bd h l w2 n2 → St (h + 1) (.t [str "while", t, .t l]) (cds "while" :: (w ++ cds "do" :: (w2 ++ [cds "end"]))) (ns ++ n2)
  | if0 {lv h : Nat} {t : Tr} {w : Ws} {ns : List Ws} {l : List Tr} {w2 : Ws} {n2 : List Ws} : 1 ≤ lv → Ex lv h t w ns → Bd h l w2 n2 → St (h + 1) (.t [str "if", t, .t l, .t []]) (cds "if" :: (w ++ cds "then" :: (w2 ++ [cds "end"]))) (ns ++ n2)
  | if1 {lv h : Nat} {t : Tr} {w : Ws} {ns : List Ws} {l : List Tr} {w2 : Ws} {n2 : List Ws} {l3 : List Tr} {w3 : Ws} {n3 : List Ws} : 1 ≤ lv → Ex lv h t w ns → Bd h l w2 n2 → Bd h l3 w3 n3 → St (h + 1) (.t [str "if", t, .t l, .t l3]) (cds "if" :: (w ++ cds "then" :: (w2 ++ cds "else" :: (w3 ++ [cds "end"])))) (ns ++ (n2 ++ n3))
  | try_ {h : Nat} {l : List Tr} {w : Ws} {ns : List Ws} {x : List Nat} {l2 : List Tr} {w2 : Ws} {n2 : List Ws} : Bd h l w ns → isNm x → Bd h l2 w2 n2 → St (h + 1) (.t [str "try", .t l, .s x, .t l2]) (cds "try" :: (w ++ cds "catch" :: x :: cds "then" :: (w2 ++ [cds "end"]))) (ns ++ n2)
  | keep {h : Nat} {l : List Tr} {w : Ws} {ns : List Ws} {l2 : List Tr} {w2 : Ws} {n2 : List Ws} : Bd h l w ns → Bd h l2 w2 n2 → St (h + 1) (.t [str "keep", .t l, .t l2]) (cds "keep" :: (w ++ cds "always" :: (w2 ++ [cds "end"]))) (ns ++ n2)
inductive Bl : Nat → List Tr → Ws → List Ws → Prop
  | nil {h : Nat} : Bl h [] [] []
  | cons {h : Nat} {t : Tr} {w : Ws} {ns : List Ws} {l : List Tr} {w2 : Ws} {n2 : List Ws} : St h t w ns → Bl h l w2 n2 → Bl h (t :: l) (cds ";" :: (w ++ w2)) (ns ++ n2)
inductive Bd : Nat → List Tr → Ws → List Ws → Prop
  | nil {h : Nat} : Bd h [] [] []
  | cons {h : Nat} {t : Tr} {w : Ws} {ns : List Ws} {l : List Tr} {w2 : Ws} {n2 : List Ws} : St h t w ns → Bl h l w2 n2 → Bd h (t :: l) (w ++ w2) (ns ++ n2)
end
def noteAll : List Ws → Option (List Nat) → Option (List Nat)
  | [], t => t
  | l :: ls, t => noteAll ls (twGo l t l.length)
theorem noteAll_append (a b : List Ws) (t : Option (List Nat)) : noteAll (a ++ b) t = noteAll b (noteAll a t) := by
  induction a generalizing t with
  | nil => rfl
  | cons l a ih => exact ih _
/-! ### tokens that stand -/
def Seg (ts : List Tk) : Nat → Ws → Prop
  | _, [] => True
  | i, a :: w => (∃ p, ts[i]? = some ((tk a).1, (tk a).2, p)) ∧ Seg ts (i + 1) w
theorem seg_append {ts : List Tk} : ∀ {u v : Ws} {i : Nat}, Seg ts i (u ++ v) ↔ Seg ts i u ∧ Seg ts (i + u.length) v
  | [], v, i => by show Seg ts i v ↔ True ∧ Seg ts (i + 0) v; simp
  | a :: u, v, i => by
    show (_ ∧ Seg ts (i + 1) (u ++ v)) ↔ (_ ∧ Seg ts (i + 1) u) ∧ Seg ts (i + (u.length + 1)) v
    rw [seg_append (u := u), show i + (u.length + 1) = i + 1 + u.length by omega, and_assoc]
def Nx (ts : List Tk) (i : Nat) (z : List Nat) : Prop := ∃ t, ts[i]? = some t ∧ fixT t = z
theorem Seg.nx {ts : List Tk} {i : Nat} {a : List Nat} {w : Ws} (h : Seg ts i (a :: w)) : Nx ts i (fx a) := by
  obtain ⟨⟨p, h⟩, _⟩ := h
  exact ⟨_, h, rfl⟩
section
variable {ts : List Tk} {i : Nat} {ds : List Nat} {tw : Option (List Nat)} {z : List Nat}
theorem ok_bind {S α β : Type} {a : α} {s : S} {k : α → S → Res S β} : (Res.ok a s).bind k = k a s := rfl
theorem tokN_of {t : Tk} (h : ts[i]? = some t) : tokN ts i = t ∧ i < ts.length := by
  obtain ⟨hl, e⟩ := List.getElem?_eq_some_iff.mp h
  refine ⟨?_, hl⟩
  unfold tokN
  rw [List.getD_eq_getElem?_getD, h]
  rfl
theorem fixed0 (h : Nx ts i z) : rFixed ts 0 ⟨i, ds, tw⟩ = .ok z ⟨i, ds, tw⟩ := by
  obtain ⟨t, h, rfl⟩ := h
  obtain ⟨e, hl⟩ := tokN_of h
  show (if i + 0 < ts.length then Res.ok (fixT (tokN ts (i + 0))) _ else _) = _
  rw [Nat.add_zero, if_pos hl, e]
theorem accept_yes (h : Nx ts i z) : rAccept ts z ⟨i, ds, tw⟩ = .ok true ⟨i + 1, ds, tw⟩ := by
  unfold rAccept
  rw [fixed0 h, ok_bind, if_pos rfl]
theorem accept_no {a : List Nat} (h : Nx ts i z) (n : z ≠ a) : rAccept ts a ⟨i, ds, tw⟩ = .ok false ⟨i, ds, tw⟩ := by
  unfold rAccept
  rw [fixed0 h, ok_bind, if_neg n]
theorem begin_ok {d : Nat} (h : d ≤ 12) (hl : ds.length < 400000) : rBegin ts d ⟨i, ds, tw⟩ = .ok () ⟨i, ds ++ [d], tw⟩ := by
  unfold rBegin
  rw [if_neg (by omega), if_pos hl]
end
end
section
open PySem PySem.Spec PyProof.Rows L2
/-! ### words and marks -/
def WM : Ws := ["method", "var", "end", "give", "fail", "if", "then", "else", "while", "do", "try", "catch", "keep", "always", "none", "true", "false", "self", "super", "new", "not", "and", "or", ":=", "<=", "(", ")", "{", "}", ",", ";", ".", "|", "=", "<", "+", "-", "*", "/"].map cds
theorem wm_fx : ∀ a ∈ WM, fx a = a := by decide +kernel
theorem wm_kind : ∀ a ∈ WM, (tk a).1 ≠ cds "number" ∧ (tk a).1 ≠ cds "text" ∧ (tk a).1 ≠ cds "name" := by decide +kernel
theorem beh_wm {s : List Nat} {l : Nat} (h : behN.lookup s = some l) : s ∈ WM ∧ levB s = l ∧ 1 ≤ l ∧ l ≤ 8 ∧ l ≠ 3 ∧ l ≠ 7 ∧ s ≠ cds ":=" ∧ s ≠ cds "," ∧ s ≠ cds "|" := by
  have key : ∀ p ∈ behN, p.1 ∈ WM ∧ 1 ≤ p.2 ∧ p.2 ≤ 8 ∧ p.2 ≠ 3 ∧ p.2 ≠ 7 ∧ p.1 ≠ cds ":=" ∧ p.1 ≠ cds "," ∧ p.1 ≠ cds "|" := by decide +kernel
  have mem : (s, l) ∈ behN := by
    have : ∀ (m : List (List Nat × Nat)), m.lookup s = some l → (s, l) ∈ m := by
      intro m
      induction m with
      | nil => intro h; cases h
      | cons q m ih =>
        intro h
        obtain ⟨a, b⟩ := q
        rw [List.lookup_cons] at h
        cases e : s == a with
        | true => rw [e] at h; cases h; rw [beq_iff_eq.mp e]; exact List.mem_cons_self
        | false => rw [e] at h; exact List.mem_cons_of_mem _ (ih h)
    exact this behN h
  obtain ⟨h1, h2, h3, h4, h5, h6, h7, h8⟩ := key _ mem
  refine ⟨h1, ?_, h2, h3, h4, h5, h6, h7, h8⟩
  unfold levB
  rw [h]
  rfl
theorem fx_kind {a k : List Nat} {v : V} (h : tk a = (k, v)) (h1 : k ≠ cds "word") (h2 : k ≠ cds "mark") : fx a = [] := by
  unfold fx fixT
  rw [h]
  exact if_neg (fun z => z.elim h1 h2)
theorem nm_fx {a : List Nat} (h : isNm a) : fx a = [] := fx_kind h (by decide +kernel) (by decide +kernel)
theorem plain_cases {a : List Nat} {v : V} (h : plainL.lookup a = some v) : (a = cds "none" ∨ a = cds "true" ∨ a = cds "false") := by
  unfold plainL at h
  simp only [List.lookup] at h
  split at h
  · rename_i e; exact .inl (by simpa using e)
  · split at h
    · rename_i e; exact .inr (.inl (by simpa using e))
    · split at h
      · rename_i e; exact .inr (.inr (by simpa using e))
      · cases h
/-! ### how an expression begins -/
def EN : Ws := ["end", "else", "catch", "always", "}"].map cds
def SW : Ws := ["give", "fail", "while", "if", "try", "keep", "end", "else", "catch", "always", "}", ")"].map cds
def Hd (w : Ws) : Prop := ∃ a r, w = a :: r ∧ fx a ∉ SW ∧ ((tk a).1 = cds "name" → r = [] ∨ ∃ b r', r = b :: r' ∧ ∃ l, behN.lookup b = some l)
theorem Hd.append {w v : Ws} (h : Hd w) (hv : ∃ b r', v = b :: r' ∧ ∃ l, behN.lookup b = some l) : Hd (w ++ v) := by
  obtain ⟨a, r, rfl, h1, h2⟩ := h
  refine ⟨a, r ++ v, rfl, h1, fun n => .inr ?_⟩
  rcases h2 n with rfl | ⟨b, r', rfl, hb⟩
  · exact hv
  · exact ⟨b, r' ++ v, rfl, hb⟩
theorem Hd.one {a : List Nat} {r : Ws} (h : fx a ∉ SW) (n : (tk a).1 ≠ cds "name") : Hd (a :: r) := ⟨a, r, rfl, h, fun z => absurd z n⟩
theorem hd_wm {a : List Nat} {r : Ws} (h : a ∈ WM) (hs : a ∉ SW) : Hd (a :: r) := Hd.one (by rw [wm_fx a h]; exact hs) (wm_kind a h).2.2
theorem beh_dot : behN.lookup (cds ".") = some 8 := by decide +kernel
theorem ex_hd : ∀ {h lv : Nat} {t : Tr} {w : Ws} {ns : List Ws}, Ex lv h t w ns → Hd w := by
  intro h
  induction h with
  | zero => intro lv t w ns e; cases e
  | succ h ih =>
    intro lv t w ns e
    cases e with
    | num e => exact Hd.one (by rw [fx_kind e (by decide +kernel) (by decide +kernel)]; decide +kernel) (by rw [e]; show cds "number" ≠ cds "name"; decide +kernel)
    | text e => exact Hd.one (by rw [fx_kind e (by decide +kernel) (by decide +kernel)]; decide +kernel) (by rw [e]; show cds "text" ≠ cds "name"; decide +kernel)
    | word e =>
      rcases plain_cases e with rfl | rfl | rfl
      · exact hd_wm (by decide +kernel) (by decide +kernel)
      · exact hd_wm (by decide +kernel) (by decide +kernel)
      · exact hd_wm (by decide +kernel) (by decide +kernel)
    | self => exact hd_wm (by decide +kernel) (by decide +kernel)
    | new e => exact hd_wm (by decide +kernel) (by decide +kernel)
    | name e => exact ⟨_, [], rfl, by rw [nm_fx e]; decide +kernel, fun _ => .inl rfl⟩
    | par _ e => exact hd_wm (by decide +kernel) (by decide +kernel)
    | neg _ e => exact hd_wm (by decide +kernel) (by decide +kernel)
    | not _ e => exact hd_wm (by decide +kernel) (by decide +kernel)
    | bin hl _ _ e1 _ e2 => exact (ih e1).append ⟨_, _, rfl, _, hl⟩
    | send _ e _ _ => exact (ih e).append ⟨_, _, rfl, _, beh_dot⟩
    | sup _ _ => exact hd_wm (by decide +kernel) (by decide +kernel)
    | blk0 _ => exact hd_wm (by decide +kernel) (by decide +kernel)
    | blk _ _ _ _ => exact hd_wm (by decide +kernel) (by decide +kernel)
def SHd (w : Ws) : Prop := ∃ a r, w = a :: r ∧ fx a ∉ EN ∧ ((tk a).1 = cds "name" → r = [] ∨ ∃ b r', r = b :: r' ∧ fx b ∉ [cds ",", cds "|"])
theorem shd_wm {a : List Nat} {r : Ws} (h : a ∈ WM) (hs : a ∉ EN) : SHd (a :: r) := ⟨a, r, rfl, by rw [wm_fx a h]; exact hs, fun z => absurd z (wm_kind a h).2.2⟩
theorem en_sw : ∀ a ∈ EN, a ∈ SW := by decide +kernel
theorem st_hd {h : Nat} {t : Tr} {w : Ws} {ns : List Ws} (e : St h t w ns) : SHd w := by
  cases e with
  | eval _ e =>
    obtain ⟨a, r, rfl, h1, h2⟩ := ex_hd e
    refine ⟨a, r, rfl, fun z => h1 (en_sw _ z), fun n => ?_⟩
    rcases h2 n with h | ⟨b, r', h, l, hb⟩
    · exact .inl h
    · obtain ⟨hw, _, _, _, _, _, _, h1, h2⟩ := beh_wm hb
      refine .inr ⟨b, r', h, ?_⟩
      rw [wm_fx b hw]
      intro z
      rcases List.mem_cons.mp z with z | z
      · exact h1 z
      · exact h2 (List.mem_singleton.mp z)
  | set n _ e => exact ⟨_, _, rfl, by rw [nm_fx n]; decide +kernel, fun _ => .inr ⟨_, _, rfl, by rw [wm_fx _ (by decide +kernel)]; decide +kernel⟩⟩
  | gf g _ e => rcases g with rfl | rfl <;> exact shd_wm (by decide +kernel) (by decide +kernel)
  | whl _ _ _ => exact shd_wm (by decide +kernel) (by decide +kernel)
  | if0 _ _ _ => exact shd_wm (by decide +kernel) (by decide +kernel)
  | if1 _ _ _ _ => exact shd_wm (by decide +kernel) (by decide +kernel)
  | try_ _ _ _ => exact shd_wm (by decide +kernel) (by decide +kernel)
  | keep _ _ => exact shd_wm (by decide +kernel) (by decide +kernel)
/-! ### the ends of the loop -/
section
variable {ts : List Tk} {ex : Nat → Nat → RS → Res RS Tr} {bo : List (List Nat) → Nat → RS → Res RS (List Tr)} {i d p : Nat} {ds : List Nat} {tw : Option (List Nat)} {z : List Nat}
theorem goOn_lt {lv : Nat} (h : levB z < p) : goOn z p lv = false := by
  unfold goOn
  rw [decide_eq_false (by omega)]
  rfl
theorem go_end {f k lv : Nat} {t : Tr} {S : RS} (h : goOn z p lv = false) (hk : 1 ≤ k) : gExprGo ts ex p d f k t lv z S = .ok t S := by
  cases k with
  | zero => omega
  | succ k =>
    unfold gExprGo
    rw [h]
    exact if_neg Bool.false_ne_true
theorem of_opening {j lv : Nat} {t : Tr} {sg : List Nat} {tw' : Option (List Nat)} (h : gOpening ts ex bo p d ⟨i, ds ++ [d], tw⟩ = .ok (t, lv) ⟨j, ds ++ sg, tw'⟩) (n : Nx ts j z) (hd : d ≤ 12) (hl : ds.length < 400000) :
    gExpr ts ex bo p d ⟨i, ds, tw⟩ = gExprGo ts ex p d ds.length (ts.length + 1) t lv z ⟨j, ds ++ sg, tw'⟩ := by
  unfold gExpr
  rw [begin_ok hd hl, ok_bind, h, ok_bind, fixed0 n, ok_bind]
theorem opening_prim {t : Tr} {S' : RS} (n : Nx ts i z) (h0 : (aheadN.lookup z).getD 0 < p) (h : gPrimary ts ex bo d ⟨i, ds, tw⟩ = .ok t S') : gOpening ts ex bo p d ⟨i, ds, tw⟩ = .ok (t, 9) S' := by
  unfold gOpening
  rw [fixed0 n, ok_bind, if_pos h0, h, ok_bind]
end
end
section
open PySem PySem.Spec PyProof.Rows L2
def EGood (ts : List Tk) (h : Nat) : Prop := ∀ {lv : Nat} {t : Tr} {w : Ws} {ns : List Ws}, Ex lv h t w ns → ∀ {n p d i : Nat} {ds : List Nat} {tw : Option (List Nat)} {z : List Nat}, h ≤ n → 1 ≤ p → p ≤ lv → d + h ≤ 13 → Seg ts i w → Nx ts (i + w.length) z → levB z ≤ lv → ds.length + 2 * w.length ≤ 400001 →
  ∃ (sg : List Nat) (k : Nat), sg ≠ [] ∧ (∀ x ∈ sg, x + 1 ≤ d + h) ∧ sg.length + 1 ≤ 2 * w.length ∧ ts.length + 1 ≤ k + w.length ∧
    gExpr ts (exN ts n).1 (exN ts n).2 p d ⟨i, ds, tw⟩ = gExprGo ts (exN ts n).1 p d ds.length k t lv z ⟨i + w.length, ds ++ sg, noteAll ns tw⟩
def EDone (ts : List Tk) (h : Nat) : Prop := ∀ {lv : Nat} {t : Tr} {w : Ws} {ns : List Ws}, Ex lv h t w ns → ∀ {n p d i : Nat} {ds : List Nat} {tw : Option (List Nat)} {z : List Nat}, h + 1 ≤ n → 1 ≤ p → p ≤ lv → d + h ≤ 13 → Seg ts i w → Nx ts (i + w.length) z → levB z < p → ds.length + 2 * w.length ≤ 400001 →
  ∃ sg : List Nat, sg ≠ [] ∧ (∀ x ∈ sg, x + 1 ≤ d + h) ∧ sg.length + 1 ≤ 2 * w.length ∧ (exN ts n).1 p d ⟨i, ds, tw⟩ = .ok t ⟨i + w.length, ds ++ sg, noteAll ns tw⟩
def SDone (ts : List Tk) (h : Nat) : Prop := ∀ {t : Tr} {w : Ws} {ns : List Ws}, St h t w ns → ∀ {n d i : Nat} {ds : List Nat} {tw : Option (List Nat)} {z : List Nat}, h ≤ n → d + h ≤ 13 → Seg ts i w → Nx ts (i + w.length) z → z ∈ cds ";" :: EN → ds.length + 2 * w.length ≤ 400000 →
  ∃ sg : List Nat, (∀ x ∈ sg, x + 1 ≤ d + h) ∧ sg.length ≤ 2 * w.length ∧ gSt ts (exN ts n).1 (exN ts n).2 d ⟨i, ds, tw⟩ = .ok t ⟨i + w.length, ds ++ sg, noteAll ns tw⟩
def BDone (ts : List Tk) (h : Nat) : Prop := ∀ {l : List Tr} {w : Ws} {ns : List Ws}, Bd h l w ns → ∀ {n d i : Nat} {ms : Ws} {ds : List Nat} {tw : Option (List Nat)} {z : List Nat}, h + 1 ≤ n → (∀ m ∈ ms, m ∈ EN) → z ∈ ms → d + h ≤ 13 → Seg ts i w → Nx ts (i + w.length) z → ds.length + 2 * w.length ≤ 400000 →
  ∃ sg : List Nat, (∀ x ∈ sg, x + 1 ≤ d + h) ∧ sg.length ≤ 2 * w.length ∧ (exN ts n).2 ms d ⟨i, ds, tw⟩ = .ok l ⟨i + w.length, ds ++ sg, noteAll ns tw⟩
theorem seg_len {ts : List Tk} {i : Nat} {w : Ws} {z : List Nat} (h : Nx ts (i + w.length) z) : w.length + 1 ≤ ts.length := by
  obtain ⟨t, h, _⟩ := h
  have := (List.getElem?_eq_some_iff.mp h).1
  omega
theorem EGood.done {ts : List Tk} {h : Nat} (g : EGood ts h) : EDone ts h := by
  intro lv t w ns e n p d i ds tw z hn hp hpl hd hs hx hz hl
  obtain ⟨m, rfl⟩ : ∃ m, n = m + 1 := ⟨n - 1, by omega⟩
  obtain ⟨sg, k, h1, h2, h3, h4, h5⟩ := g e (n := m) (p := p) (d := d) (i := i) (ds := ds) (tw := tw) (z := z) (by omega) hp hpl hd hs hx (by omega) hl
  refine ⟨sg, h1, h2, h3, ?_⟩
  show gExpr ts (exN ts m).1 (exN ts m).2 p d ⟨i, ds, tw⟩ = _
  have := seg_len hx
  rw [h5, go_end (goOn_lt hz) (by omega)]
section
variable {ts : List Tk} {n d i : Nat} {ds : List Nat} {tw : Option (List Nat)} {z : List Nat}
/-! ### names with commas -/
theorem commas_cons (a : List Nat) : ∀ l : Ws, commas (a :: l) = a :: (l.flatMap fun b => [cds ",", b])
  | [] => rfl
  | b :: l => by
    show a :: cds "," :: commas (b :: l) = _
    rw [commas_cons b l]
    rfl
theorem commas_len : ∀ {l : Ws}, l ≠ [] → (commas l).length + 1 = 2 * l.length
  | [], h => absurd rfl h
  | a :: l, _ => by
    rw [commas_cons, List.length_cons, List.length_cons]
    have : ∀ l : Ws, (l.flatMap fun b => [cds ",", b]).length = 2 * l.length := fun l => by
      induction l with
      | nil => rfl
      | cons b l ih => rw [List.flatMap_cons, List.length_append, ih]; simp only [List.length_cons, List.length_nil]; omega
    rw [this]
    omega
end
end
section
open PySem PySem.Spec PyProof.Rows L2
section
variable {ts : List Tk} {n d i : Nat} {ds : List Nat} {tw : Option (List Nat)} {z : List Nat}
theorem bl_done {h : Nat} (E : SDone ts h) : ∀ {l : List Tr} {w : Ws} {ns : List Ws}, Bl h l w ns → ∀ {l0 : List Tr} {i k : Nat} {ds : List Nat} {tw : Option (List Nat)}, h ≤ n → d + h ≤ 13 → Seg ts i w → Nx ts (i + w.length) z → z ∈ EN → l.length + 1 ≤ k → ds.length + 2 * w.length ≤ 400000 →
    ∃ sg : List Nat, (∀ x ∈ sg, x + 1 ≤ d + h) ∧ sg.length ≤ 2 * w.length ∧ gBodyGo ts (gSt ts (exN ts n).1 (exN ts n).2) d k l0 ⟨i, ds, tw⟩ = .ok (l0 ++ l) ⟨i + w.length, ds ++ sg, noteAll ns tw⟩
  | [], w, ns, e, l0, i, k, ds, tw, hn, hd, hs, hx, hz, hk, hl => by
    cases e
    obtain ⟨k, rfl⟩ : ∃ m, k = m + 1 := ⟨k - 1, by omega⟩
    refine ⟨[], fun x hx => absurd hx List.not_mem_nil, Nat.zero_le _, ?_⟩
    have hz2 : z ≠ cds ";" := fun e => by
      have : ∀ a ∈ EN, a ≠ cds ";" := by decide +kernel
      exact this z hz e
    unfold gBodyGo
    rw [accept_no (show Nx ts i z from hx) hz2, ok_bind, if_neg Bool.false_ne_true, List.append_nil, List.append_nil]
    rfl
  | t :: l, w, ns, e, l0, i, k, ds, tw, hn, hd, hs, hx, hz, hk, hl => by
    cases e with
    | @cons _ _ w1 n1 _ w2 n2 e1 e2 =>
      obtain ⟨k, rfl⟩ : ∃ m, k = m + 1 := ⟨k - 1, by omega⟩
      rw [List.length_cons] at hk hx hl
      rw [List.length_append] at hx hl
      have nc := hs.nx
      rw [wm_fx _ (by decide +kernel)] at nc
      obtain ⟨_, hs2⟩ := hs
      obtain ⟨s1, s2⟩ := seg_append.mp hs2
      have hx1 : Nx ts (i + 1 + w1.length) (if l = [] then z else cds ";") := by
        cases e2 with
        | nil =>
          have : i + (w1.length + ([] : Ws).length + 1) = i + 1 + w1.length := by show i + (w1.length + 0 + 1) = _; omega
          rw [if_pos rfl, ← this]
          exact hx
        | cons _ _ =>
          have q := s2.nx
          rw [wm_fx _ (by decide +kernel)] at q
          rw [if_neg (List.cons_ne_nil _ _)]
          exact q
      have hlev : (if l = [] then z else cds ";") ∈ cds ";" :: EN := by split; exact List.mem_cons_of_mem _ hz; exact List.mem_cons_self
      obtain ⟨sg1, g2, g3, g4⟩ := E e1 (n := n) (d := d) (i := i + 1) (ds := ds) (tw := tw) hn hd s1 hx1 hlev (by omega)
      obtain ⟨sg2, q1, q2, q3⟩ := bl_done E e2 (l0 := l0 ++ [t]) (i := i + 1 + w1.length) (k := k) (ds := ds ++ sg1) (tw := noteAll n1 tw) hn hd s2 (by rw [show i + 1 + w1.length + w2.length = i + (w1.length + w2.length + 1) by omega]; exact hx) hz (by omega) (by rw [List.length_append]; omega)
      refine ⟨sg1 ++ sg2, fun x hx => (List.mem_append.mp hx).elim (g2 x) (q1 x), by rw [List.length_append, List.length_cons, List.length_append]; omega, ?_⟩
      unfold gBodyGo
      rw [accept_yes nc, ok_bind, if_pos rfl, g4, ok_bind, q3, noteAll_append, List.append_assoc, List.append_assoc]
      show Res.ok _ (RS.mk _ _ _) = Res.ok _ (RS.mk _ _ _)
      rw [List.length_cons, List.length_append, show i + 1 + w1.length + w2.length = i + (w1.length + w2.length + 1) by omega]
      rfl
theorem bl_len {h : Nat} : ∀ {l : List Tr} {w : Ws} {ns : List Ws}, Bl h l w ns → l.length ≤ w.length
  | [], _, _, _ => Nat.zero_le _
  | t :: l, _, _, .cons _ r => by
    have := bl_len r
    rw [List.length_cons, List.length_cons, List.length_append]
    omega
theorem SDone.body {h : Nat} (E : SDone ts h) : BDone ts h := by
  intro l w ns e n d i ms ds tw z hn hms hz hd hs hx hl
  obtain ⟨n, rfl⟩ : ∃ m, n = m + 1 := ⟨n - 1, by omega⟩
  have hlen := seg_len hx
  show ∃ sg : List Nat, _ ∧ _ ∧ gBody ts (gSt ts (exN ts n).1 (exN ts n).2) ms d ⟨i, ds, tw⟩ = _
  unfold gBody
  cases e with
  | nil =>
    refine ⟨[], fun x hx => absurd hx List.not_mem_nil, Nat.zero_le _, ?_⟩
    rw [fixed0 (show Nx ts i z from hx), ok_bind, if_pos hz, List.append_nil]
    rfl
  | @cons _ t w1 n1 l w2 n2 e1 e2 =>
    rw [List.length_append] at hx hl hlen
    obtain ⟨s1, s2⟩ := seg_append.mp hs
    obtain ⟨a, r, ew, hf, _⟩ := st_hd e1
    have nf : Nx ts i (fx a) := by rw [ew] at s1; exact s1.nx
    have hx1 : Nx ts (i + w1.length) (if l = [] then z else cds ";") := by
      cases e2 with
      | nil => rw [if_pos rfl]; exact hx
      | cons _ _ =>
        have q := s2.nx
        rw [wm_fx _ (by decide +kernel)] at q
        rw [if_neg (List.cons_ne_nil _ _)]
        exact q
    have hlev : (if l = [] then z else cds ";") ∈ cds ";" :: EN := by split; exact List.mem_cons_of_mem _ (hms z hz); exact List.mem_cons_self
    obtain ⟨sg1, g2, g3, g4⟩ := E e1 (n := n) (d := d) (i := i) (ds := ds) (tw := tw) (by omega) hd s1 hx1 hlev (by omega)
    have bl := bl_len e2
    obtain ⟨sg2, z1, z2, z3⟩ := bl_done E e2 (l0 := [t]) (i := i + w1.length) (k := ts.length + 1) (ds := ds ++ sg1) (tw := noteAll n1 tw) (n := n) (by omega) hd s2 (by rw [Nat.add_assoc]; exact hx) (hms z hz) (by omega) (by rw [List.length_append]; omega)
    refine ⟨sg1 ++ sg2, fun x hx => (List.mem_append.mp hx).elim (g2 x) (z1 x), by rw [List.length_append, List.length_append]; omega, ?_⟩
    rw [fixed0 nf, ok_bind, if_neg (fun h => hf (hms _ h)), g4, ok_bind, z3, noteAll_append, List.append_assoc, List.length_append, Nat.add_assoc]
    rfl
/-! ### statements -/
end
end
section
open PySem PySem.Spec PyProof.Rows L2
section
variable {ts : List Tk} {n d i p : Nat} {ds : List Nat} {tw : Option (List Nat)} {z : List Nat}
theorem leaf {h : Nat} {t : Tr} {a : List Nat} (hp : 1 ≤ p) (hd : d + (h + 1) ≤ 13) (hs : Seg ts i [a]) (hx : Nx ts (i + 1) z) (hl : ds.length < 400000) (hf : fx a = []) (g : ∀ q ds, ts[i]? = some ((tk a).1, (tk a).2, q) → gPrimary ts (exN ts n).1 (exN ts n).2 d ⟨i, ds, tw⟩ = .ok t ⟨i + 1, ds, tw⟩) :
    ∃ (sg : List Nat) (k : Nat), sg ≠ [] ∧ (∀ x ∈ sg, x + 1 ≤ d + (h + 1)) ∧ sg.length + 1 ≤ 2 * [a].length ∧ ts.length + 1 ≤ k + [a].length ∧
      gExpr ts (exN ts n).1 (exN ts n).2 p d ⟨i, ds, tw⟩ = gExprGo ts (exN ts n).1 p d ds.length k t 9 z ⟨i + [a].length, ds ++ sg, noteAll [] tw⟩ := by
  have nf := hs.nx
  rw [hf] at nf
  obtain ⟨⟨q, h1⟩, _⟩ := hs
  refine ⟨[d], ts.length + 1, List.cons_ne_nil _ _, fun x hx => by rw [List.mem_singleton.mp hx]; omega, Nat.le_refl _, by omega, ?_⟩
  exact of_opening (opening_prim nf (show 0 < p by omega) (g q _ h1)) hx (by omega) hl
end
end
section
/-! Written rows of tokens, and their reading. -/
open PySem PySem.Spec PyProof.Rows L2
open TL (numL tl_num numL_digits numL_ne numL_val numL_len numL_lt numL_step)
theorem drawn_tk {k a : List Nat} {v : V} (d : Drawn k v a) : tk a = (k, v) := by
  have h := (drawn_one (rest := []) d (.inl rfl)).1
  rw [List.append_nil] at h
  unfold tk
  rw [h]
def Tok (a : List Nat) : Prop := ∃ k v, Drawn k v a
theorem Tok.ne {a : List Nat} (h : Tok a) : a ≠ [] ∧ a.length ≤ 202 := by
  obtain ⟨k, v, d⟩ := h
  obtain ⟨_, c, r, e, _⟩ := drawn_one (rest := []) d (.inl rfl)
  exact ⟨by rw [e]; exact List.cons_ne_nil _ _, d.len.1⟩
theorem name_nm {a : List Nat} (h : IsName a) : isNm a := drawn_tk (.name h)
theorem name_tok {a : List Nat} (h : IsName a) : Tok a := ⟨_, _, .name h⟩
theorem wm_tok : ∀ a ∈ WM, Tok a := by
  have key : ∀ a ∈ WM, a ∈ WL ∨ a ∈ MLs := by decide +kernel
  intro a ha
  rcases key a ha with h | h
  · exact ⟨_, _, .word h⟩
  · exact ⟨_, _, .mark h⟩
def wt : Ws → Nat
  | [] => 0
  | a :: w => a.length + 3 + wt w
theorem wt_append : ∀ u v : Ws, wt (u ++ v) = wt u + wt v
  | [], v => by rw [List.nil_append]; show _ = 0 + _; omega
  | a :: u, v => by show a.length + 3 + wt (u ++ v) = a.length + 3 + wt u + wt v; rw [wt_append u v]; omega
theorem wt_len : ∀ w : Ws, 3 * w.length ≤ wt w
  | [] => Nat.le_refl _
  | a :: w => by have := wt_len w; rw [List.length_cons]; show _ ≤ a.length + 3 + wt w; omega
def dueOf (w : Ws) (ps : List Nat) : List Tk := List.zipWith (fun a p => ((tk a).1, (tk a).2, p)) w ps
theorem due_len {w : Ws} {ps : List Nat} (h : ps.length = w.length) : (dueOf w ps).length = w.length := by
  unfold dueOf
  rw [List.length_zipWith, h, Nat.min_self]
theorem nx_end {w : Ws} {ps : List Nat} {cs : List Nat} (h : ps.length = w.length) : (endTks cs (dueOf w ps))[w.length]? = some (cds "nothing", T [], cs.length) := by
  unfold endTks
  rw [List.getElem?_append_right (by rw [due_len h]; exact Nat.le_refl _), due_len h, Nat.sub_self]
  rfl
theorem note_nodup {l : Ws} (h : l.Nodup) : ∀ {t : Option (List Nat)} {i : Nat}, i ≤ l.length → twGo l t i = t
  | t, 0, _ => rfl
  | t, i + 1, hi => by
    show (if twGo l t i = none ∧ l.getD i [] ∈ l.take i then some (l.getD i []) else twGo l t i) = t
    rw [note_nodup h (t := t) (i := i) (by omega), if_neg]
    intro z
    have hlt : i < l.length := by omega
    have e : l.getD i [] = l[i] := by rw [List.getD_eq_getElem?_getD, List.getElem?_eq_getElem hlt]; rfl
    rw [e] at z
    obtain ⟨j, hj, ej⟩ := List.getElem_of_mem z.2
    rw [List.length_take] at hj
    rw [List.getElem_take] at ej
    have e1 := h.idxOf_getElem j (by omega)
    have e2 := h.idxOf_getElem i hlt
    rw [ej, e2] at e1
    omega
end
section
open PySem PySem.Spec PyProof.Rows L2
mutual
theorem trd_mono : ∀ {t : Tr} {n m : Nat}, TrD n t → n ≤ m → TrD m t
  | .t l, n + 1, m, h, hm => by
    obtain ⟨m, rfl⟩ : ∃ k, m = k + 1 := ⟨m - 1, by omega⟩
    exact ⟨h.1, trds_mono h.2 (by omega)⟩
  | .t _, 0, _, h, _ => False.elim h
  | .s _, n, m, h, hm => by
    cases m with
    | zero => cases n with
      | zero => exact h
      | succ n => omega
    | succ m => exact True.intro
  | .i _, n, m, h, hm => by
    cases m with
    | zero => cases n with
      | zero => exact h
      | succ n => omega
    | succ m => exact True.intro
  | .b _, n, m, h, hm => by
    cases m with
    | zero => cases n with
      | zero => exact h
      | succ n => omega
    | succ m => exact True.intro
  | .n, n, m, h, hm => by
    cases m with
    | zero => cases n with
      | zero => exact h
      | succ n => omega
    | succ m => exact True.intro
theorem trds_mono : ∀ {l : List Tr} {n m : Nat}, (∀ t ∈ l, TrD n t) → n ≤ m → ∀ t ∈ l, TrD m t
  | [], _, _, _, _ => fun t ht => absurd ht List.not_mem_nil
  | x :: l, n, m, h, hm => fun t ht => by
    rcases List.mem_cons.mp ht with e | ht
    · rw [e]; exact trd_mono (h x List.mem_cons_self) hm
    · exact trds_mono (fun t ht => h t (List.mem_cons_of_mem _ ht)) hm t ht
end
theorem trd_t {n : Nat} {l : List Tr} (hl : l.length < 1000000) (h : ∀ t ∈ l, TrD n t) : TrD (n + 1) (.t l) := ⟨hl, h⟩
theorem trd_cons {n : Nat} {x : Tr} {l : List Tr} (h : TrD n x) (r : ∀ t ∈ l, TrD n t) : ∀ t ∈ x :: l, TrD n t := fun t ht => by
  rcases List.mem_cons.mp ht with e | ht
  · rw [e]; exact h
  · exact r t ht
theorem trd_nil {n : Nat} : ∀ t ∈ ([] : List Tr), TrD n t := fun t ht => absurd ht List.not_mem_nil
theorem trd_s {n : Nat} {a : List Nat} : TrD (n + 1) (.s a) := True.intro
theorem trd_plain {n : Nat} (v : V) : TrD (n + 1) (plainTr v) := by cases v <;> exact True.intro
theorem trd_names {n : Nat} {ps : Ws} (h : ps.length ≤ 900000) : TrD (n + 2) (.t (ps.map Tr.s)) := ⟨by rw [List.length_map]; omega, fun t ht => by
  obtain ⟨a, _, rfl⟩ := List.mem_map.mp ht
  exact True.intro⟩
def EDp (h : Nat) : Prop := ∀ {lv : Nat} {t : Tr} {w : Ws} {ns : List Ws}, Ex lv h t w ns → w.length ≤ 900000 → TrD (2 * h + 1) t
def SDp (h : Nat) : Prop := ∀ {t : Tr} {w : Ws} {ns : List Ws}, St h t w ns → w.length ≤ 900000 → TrD (2 * h + 1) t
theorem al_dep {h : Nat} (E : EDp h) : ∀ {l : List Tr} {w : Ws} {ns : List Ws}, Al h l w ns → w.length ≤ 900000 → ∀ t ∈ l, TrD (2 * h + 1) t
  | _, _, _, .nil, _ => trd_nil
  | _, _, _, .cons _ e r, hw => by
    rw [List.length_cons, List.length_append] at hw
    exact trd_cons (E e (by omega)) (al_dep E r (by omega))
theorem ar_dep {h : Nat} (E : EDp h) {l : List Tr} {w : Ws} {ns : List Ws} (a : Ar h l w ns) (hw : w.length ≤ 900000) : TrD (2 * h + 2) (.t l) := by
  cases a with
  | nil => exact trd_t (by show 0 < 1000000; decide) trd_nil
  | cons _ e r h7 =>
    rw [List.length_append] at hw
    exact trd_t (by rw [List.length_cons]; omega) (trd_cons (E e (by omega)) (al_dep E r (by omega)))
theorem bl_dep {h : Nat} (S : SDp h) : ∀ {l : List Tr} {w : Ws} {ns : List Ws}, Bl h l w ns → w.length ≤ 900000 → ∀ t ∈ l, TrD (2 * h + 1) t
  | _, _, _, .nil, _ => trd_nil
  | _, _, _, .cons e r, hw => by
    rw [List.length_cons, List.length_append] at hw
    exact trd_cons (S e (by omega)) (bl_dep S r (by omega))
theorem bd_dep {h : Nat} (S : SDp h) {l : List Tr} {w : Ws} {ns : List Ws} (a : Bd h l w ns) (hw : w.length ≤ 900000) : TrD (2 * h + 2) (.t l) := by
  cases a with
  | nil => exact trd_t (by show 0 < 1000000; decide) trd_nil
  | cons e r =>
    have := bl_len r
    rw [List.length_append] at hw
    exact trd_t (by rw [List.length_cons]; omega) (trd_cons (S e (by omega)) (bl_dep S r (by omega)))
theorem dep_step {h : Nat} (E : EDp h) (S : SDp h) : EDp (h + 1) ∧ SDp (h + 1) := by
  have two : 2 * (h + 1) + 1 = 2 * h + 2 + 1 := by omega
  refine ⟨?_, ?_⟩
  · intro lv t w ns e hw
    rw [two]
    cases e with
    | num _ => exact trd_t (by show 2 < 1000000; decide) (trd_cons trd_s (trd_cons True.intro trd_nil))
    | text _ => exact trd_t (by show 2 < 1000000; decide) (trd_cons trd_s (trd_cons True.intro trd_nil))
    | word _ => exact trd_t (by show 2 < 1000000; decide) (trd_cons trd_s (trd_cons (trd_plain _) trd_nil))
    | self => exact trd_t (by show 1 < 1000000; decide) (trd_cons trd_s trd_nil)
    | new _ => exact trd_t (by show 2 < 1000000; decide) (trd_cons trd_s (trd_cons True.intro trd_nil))
    | name _ => exact trd_t (by show 2 < 1000000; decide) (trd_cons trd_s (trd_cons True.intro trd_nil))
    | par _ e =>
      simp only [List.length_cons, List.length_append, List.length_nil] at hw
      exact trd_mono (E e (by omega)) (by omega)
    | neg _ e =>
      simp only [List.length_cons] at hw
      exact trd_t (by show 2 < 1000000; decide) (trd_cons trd_s (trd_cons (trd_mono (E e (by omega)) (by omega)) trd_nil))
    | not _ e =>
      simp only [List.length_cons] at hw
      exact trd_t (by show 2 < 1000000; decide) (trd_cons trd_s (trd_cons (trd_mono (E e (by omega)) (by omega)) trd_nil))
    | bin _ _ _ e1 _ e2 =>
      simp only [List.length_cons, List.length_append] at hw
      have d1 := trd_mono (E e1 (by omega)) (show 2 * h + 1 ≤ 2 * h + 2 by omega)
      have d2 := trd_mono (E e2 (by omega)) (show 2 * h + 1 ≤ 2 * h + 2 by omega)
      unfold binT
      split
      · exact trd_t (by show 3 < 1000000; decide) (trd_cons trd_s (trd_cons d1 (trd_cons d2 trd_nil)))
      · exact trd_t (by show 4 < 1000000; decide) (trd_cons trd_s (trd_cons trd_s (trd_cons d1 (trd_cons d2 trd_nil))))
    | send _ e _ a =>
      simp only [List.length_cons, List.length_append, List.length_nil] at hw
      exact trd_t (by show 4 < 1000000; decide) (trd_cons trd_s (trd_cons (trd_mono (E e (by omega)) (by omega)) (trd_cons trd_s (trd_cons (ar_dep E a (by omega)) trd_nil))))
    | sup _ a =>
      simp only [List.length_cons, List.length_append, List.length_nil] at hw
      exact trd_t (by show 3 < 1000000; decide) (trd_cons trd_s (trd_cons trd_s (trd_cons (ar_dep E a (by omega)) trd_nil)))
    | blk0 b =>
      simp only [List.length_cons, List.length_append, List.length_nil] at hw
      exact trd_t (by show 3 < 1000000; decide) (trd_cons trd_s (trd_cons (trd_mono (n := 1) (trd_t (by show 0 < 1000000; decide) trd_nil) (by omega)) (trd_cons (bd_dep S b (by omega)) trd_nil)))
    | blk _ h4 _ b =>
      simp only [List.length_cons, List.length_append, List.length_nil] at hw
      exact trd_t (by show 3 < 1000000; decide) (trd_cons trd_s (trd_cons (trd_mono (n := 2) (trd_names (n := 0) (by omega)) (by omega)) (trd_cons (bd_dep S b (by omega)) trd_nil)))
  · intro t w ns e hw
    rw [two]
    cases e with
    | eval _ e => exact trd_t (by show 2 < 1000000; decide) (trd_cons trd_s (trd_cons (trd_mono (E e hw) (by omega)) trd_nil))
    | set _ _ e =>
      simp only [List.length_cons] at hw
      exact trd_t (by show 3 < 1000000; decide) (trd_cons trd_s (trd_cons trd_s (trd_cons (trd_mono (E e (by omega)) (by omega)) trd_nil)))
    | gf _ _ e =>
      simp only [List.length_cons] at hw
      exact trd_t (by show 2 < 1000000; decide) (trd_cons trd_s (trd_cons (trd_mono (E e (by omega)) (by omega)) trd_nil))
    | whl _ e b =>
      simp only [List.length_cons, List.length_append, List.length_nil] at hw
      exact trd_t (by show 3 < 1000000; decide) (trd_cons trd_s (trd_cons (trd_mono (E e (by omega)) (by omega)) (trd_cons (bd_dep S b (by omega)) trd_nil)))
    | if0 _ e b =>
      simp only [List.length_cons, List.length_append, List.length_nil] at hw
      exact trd_t (by show 4 < 1000000; decide) (trd_cons trd_s (trd_cons (trd_mono (E e (by omega)) (by omega)) (trd_cons (bd_dep S b (by omega)) (trd_cons (trd_mono (n := 1) (trd_t (by show 0 < 1000000; decide) trd_nil) (by omega)) trd_nil))))
    | if1 _ e b c =>
      simp only [List.length_cons, List.length_append, List.length_nil] at hw
      exact trd_t (by show 4 < 1000000; decide) (trd_cons trd_s (trd_cons (trd_mono (E e (by omega)) (by omega)) (trd_cons (bd_dep S b (by omega)) (trd_cons (bd_dep S c (by omega)) trd_nil))))
    | try_ b _ c =>
      simp only [List.length_cons, List.length_append, List.length_nil] at hw
      exact trd_t (by show 4 < 1000000; decide) (trd_cons trd_s (trd_cons (bd_dep S b (by omega)) (trd_cons trd_s (trd_cons (bd_dep S c (by omega)) trd_nil))))
    | keep b c =>
      simp only [List.length_cons, List.length_append, List.length_nil] at hw
      exact trd_t (by show 3 < 1000000; decide) (trd_cons trd_s (trd_cons (bd_dep S b (by omega)) (trd_cons (bd_dep S c (by omega)) trd_nil)))
theorem all_dep : ∀ h, EDp h ∧ SDp h
  | 0 => by
    refine ⟨?_, ?_⟩
    · intro lv t w ns e _
      cases e
    · intro t w ns e _
      cases e
  | h + 1 => dep_step (all_dep h).1 (all_dep h).2
end
section
open PySem PySem.Spec PyProof.Rows L2
def entB : List DictEntry → List (List Nat × V) → Bool
  | [], [] => true
  | e :: r, p :: q => (match e.key with
    | .str x _ => decide (x = ⟨p.1.toArray⟩)
    | _ => false) && (He.relB p.2 e.val && entB r q)
  | _, _ => false
theorem ent_any : ∀ {l : List DictEntry} {kvs : List (List Nat × V)}, entB l kvs = true → l.any (·.refKey) = false
  | [], [], _ => rfl
  | [], _ :: _, h => by cases h
  | _ :: _, [], h => by cases h
  | e :: r, p :: q, h => by
    obtain ⟨hs, k, v⟩ := e
    unfold entB at h
    rw [Bool.and_eq_true, Bool.and_eq_true] at h
    obtain ⟨h1, _, h3⟩ := h
    rw [List.any_cons, ent_any h3, Bool.or_false]
    cases k with
    | str x t => rfl
    | _ => cases h1
theorem ent_find : ∀ {l : List DictEntry} {kvs : List (List Nat × V)}, entB l kvs = true → ∀ a : List Nat, match kvs.lookup a with
    | some v => ∃ e, l.find? (·.key.isStr ⟨a.toArray⟩) = some e ∧ RelV v e.val
    | none => l.find? (·.key.isStr ⟨a.toArray⟩) = none
  | [], [], _, a => rfl
  | [], _ :: _, h, _ => by cases h
  | _ :: _, [], h, _ => by cases h
  | e :: r, p :: q, h, a => by
    obtain ⟨hs, k, v⟩ := e
    obtain ⟨pk, pv⟩ := p
    unfold entB at h
    rw [Bool.and_eq_true, Bool.and_eq_true] at h
    obtain ⟨h1, h2, h3⟩ := h
    have ih := ent_find h3 a
    cases k with
    | str x t =>
      have ex : x = ⟨pk.toArray⟩ := of_decide_eq_true h1
      subst ex
      by_cases ha : a = pk
      · subst ha
        have e1 : (a == a) = true := by simp
        rw [List.lookup_cons, e1]
        refine ⟨⟨hs, .str ⟨a.toArray⟩ t, v⟩, ?_, He.relB_ok h2⟩
        rw [List.find?_cons]
        have : (Value.str ⟨a.toArray⟩ t).isStr ⟨a.toArray⟩ = true := by simp [Value.isStr]
        rw [this]
      · have e1 : (a == pk) = false := by simp [ha]
        rw [List.lookup_cons, e1]
        have : (Value.str ⟨pk.toArray⟩ t).isStr ⟨a.toArray⟩ = false := by
          have hne : (⟨pk.toArray⟩ : Str) ≠ ⟨a.toArray⟩ := fun h => ha (by
            have h4 : pk.toArray = a.toArray := congrArg Str.cps h
            have h5 := congrArg Array.toList h4
            exact h5.symm)
          simp [Value.isStr, hne]
        rw [List.find?_cons, this]
        exact ih
    | _ => cases h1
theorem nsIn_ent {K : PySem.W.Frag} {d : Addr} {c : Value} {o : Option Addr} {es : Array DictEntry} {n : Nat} {sl : Array (Option Value)} {kvs : List (List Nat × V)} (l : K.lookup d = some ⟨c, o, .dict es n, sl⟩) (h : entB es.toList kvs = true) (a : List Nat) : match kvs.lookup a with
  | some v => ∃ u, PySem.W.nsIn K d ⟨a.toArray⟩ = some (some u) ∧ RelV v u
  | none => PySem.W.nsIn K d ⟨a.toArray⟩ = some none := by
  have g := ent_find h a
  have g2 := ent_any h
  have e0 : PySem.W.nsIn K d ⟨a.toArray⟩ = (match es.toList.find? (·.key.isStr ⟨a.toArray⟩) with
      | some e => some (some e.val)
      | none => if es.toList.any (·.refKey) then none else some none) := by
    unfold PySem.W.nsIn
    rw [l]
    rfl
  rw [e0]
  cases q : kvs.lookup a with
  | some v =>
    rw [q] at g
    obtain ⟨e, h1, h2⟩ := g
    rw [h1]
    exact ⟨e.val, rfl, h2⟩
  | none =>
    rw [q] at g
    have g3 : es.toList.find? (·.key.isStr ⟨a.toArray⟩) = none := g
    rw [g3, g2]
    rfl
theorem kd_mk {K : PySem.W.Frag} {w : World} {d : Addr} {es : Array DictEntry} {n : Nat} {ks : List Str} (l : K.lookup d = some ⟨.type "dict", none, .dict es n, #[]⟩) (h : es.toList.map He.keyOf = He.keysIn w.params ks) (lo : (d == sysModules) = false) : KDict K w d es n := ⟨l, He.keysLit_of h, lo⟩
end
section
open PySem PySem.Spec PyProof.Rows L2
def NV (w : Ws) : Prop := ∃ a r, w = a :: r ∧ fx a ≠ cds "var"
theorem NV.append {w v : Ws} (h : NV w) : NV (w ++ v) := by
  obtain ⟨a, r, rfl, h⟩ := h
  exact ⟨a, r ++ v, rfl, h⟩
end
section
open PySem PySem.Spec PyProof.Rows L2
def topS (i : Nat) : Stmt := PySem.Challenge.pw_livestead_k14_whole_fewest_brackets.main.body.getD i (.Pass ⟨0, 0, 0, 0⟩)
structure Bn (mg : Str → Option Value) : Prop where
  n_len : mg "len" = none
  n_int : mg "int" = none
  n_list : mg "list" = none
  n_range : mg "range" = none
  n_max : mg "max" = none
  n_str : mg "str" = none
  n_isinstance : mg "isinstance" = none
  n_bool : mg "bool" = none
  n_ord : mg "ord" = none
  n_tuple : mg "tuple" = none
  n_enumerate : mg "enumerate" = none
  n_min : mg "min" = none
  n_abs : mg "abs" = none
  n_all : mg "all" = none
  n_any : mg "any" = none
  n_sorted : mg "sorted" = none
  n_sum : mg "sum" = none

end
section
open PySem PySem.Spec PyProof.Rows L2
open C8 (Cal cal0 pe_c pe_gc pss_cut tCut)

end
local macro_rules | `(tactic| walk_at "r1x") => `(tactic| first
  | refine Wk0.go ?_
  | with_reducible refine w_var (by with_unfolding_all exact rfl) ?_
  | with_reducible refine w_var (by with_unfolding_all exact rfl) ?_
  | with_reducible refine w_raise ?_
  | with_reducible refine w_leC ?_
  | with_reducible refine w_eq (by with_unfolding_all exact rfl) ?_
  | with_reducible refine w_ne (by with_unfolding_all exact rfl) ?_
  | with_reducible refine L2.iteF ?_
  | with_reducible refine L2.iteT ?_)
local macro_rules | `(tactic| walk_at "rdx") => `(tactic| repeat walk_at "r1x")
section
open PySem PySem.Spec PyProof.Rows L2
open C8 (Cal cal0 pe_c pe_gc pss_cut tCut)

structure TokTx (P : Program) (K : PySem.W.Frag) (mg : Str → Option Value) (C fI : Addr) : Prop where
  src : PySem.SrcX.SrcTxt P K mg "SourceError" C fI
  c_WORDS : ∃ a, (∃ u, mg "WORDS" = some u ∧ RelV (.ref a) u) ∧ ∀ H, SqT K H a (WL.map T)
  c_MARKS : ∃ a, (∃ u, mg "MARKS" = some u ∧ RelV (.ref a) u) ∧ ∀ H, SqT K H a (MLs.map T)
  c_SMALL : ∃ u, mg "SMALL" = some u ∧ RelV (T aLow) u
  c_CAPITAL : ∃ u, mg "CAPITAL" = some u ∧ RelV (T aUp) u
  c_DIGITS : ∃ u, mg "DIGITS" = some u ∧ RelV (T aDig) u
  c_QUOTE : ∃ u, mg "QUOTE" = some u ∧ RelV (T [39]) u
  c_PERCENT : ∃ u, mg "PERCENT" = some u ∧ RelV (.int 37) u
  c_LONGEST_NAME : ∃ u, mg "LONGEST_NAME" = some u ∧ RelV (.int 20) u
  c_LONGEST_TEXT : ∃ u, mg "LONGEST_TEXT" = some u ∧ RelV (.int 200) u
  c_GREATEST_NUMBER : ∃ u, mg "GREATEST_NUMBER" = some u ∧ RelV (.int 1000000000) u
  c_MOST_DIGITS : ∃ u, mg "MOST_DIGITS" = some u ∧ RelV (.int 10) u

section
variable {P : Program} {w : World} {K : PySem.W.Frag} {mg : Str → Option Value} {base : Heap} {C fI : Addr}

abbrev s_is_letter_or_digit : Stmt := topS 20
abbrev N_is_letter_or_digit : List Str := ["character"]
theorem sc_is_letter_or_digit : FnScope N_is_letter_or_digit ["character"] (defScope s_is_letter_or_digit) := ⟨rfl, rfl, rfl, by decide +kernel, rfl, by decide +kernel, by decide +kernel⟩
def spLet : Sp := fun vs H Q _ => ∃ c, vs = [T [c]] ∧ Q (.bl (letC c)) H
theorem ok_is_letter_or_digit {f : Addr} {fd : FuncData} (F : Fun K "_is_letter_or_digit" "_is_letter_or_digit" s_is_letter_or_digit f fd) (Z : TokTx P K mg C fI) : FnOk P w K mg base CX0 1 f fd ["character"] spLet := by
  refine F.ok sc_is_letter_or_digit (fun vs H Q E h => ?_) (fun cdv A outer s H vs Q E hr h => ?_)
  · obtain ⟨c, rfl, _⟩ := h
    rfl
  · obtain ⟨c, rfl, kQ⟩ := h
    have nd := sc_is_letter_or_digit.nd
    refine ⟨_, (pss_one (ps_ret (pe_or (pe_cmpR op_inC (pv 0) (pe_gc rfl Z.c_SMALL) (by rfl)) (pe_or (pe_cmpR op_inC (pv 0) (pe_gc rfl Z.c_CAPITAL) (by rfl)) (pe_one (pe_cmpR op_inC (pv 0) (pe_gc rfl Z.c_DIGITS) (by rfl))))))), ?_⟩
    rw [show L2.start N_is_letter_or_digit [T [c]] = [some (T [c])] from rfl]
    walk_at "rdx"
    rw [let_or] at kQ
    refine w_ifb (fun h => ?_) (fun h => ?_)
    · rw [h] at kQ
      exact kQ
    · rw [h, Bool.false_or] at kQ
      walk_at "rdx"
      refine w_ifb (fun h => ?_) (fun h => ?_)
      · rw [h] at kQ
        exact kQ
      · rw [h, Bool.false_or] at kQ
        walk_at "rdx"
        exact kQ

abbrev s_is_source_character : Stmt := topS 19
abbrev N_is_source_character : List Str := ["character"]
theorem sc_is_source_character : FnScope N_is_source_character ["character"] (defScope s_is_source_character) := ⟨rfl, rfl, rfl, by decide +kernel, rfl, by decide +kernel, by decide +kernel⟩
def spSrcC : Sp := fun vs H Q _ => ∃ c, vs = [T [c]] ∧ Q (.bl (srcC c)) H
theorem ok_is_source_character {f : Addr} {fd : FuncData} (F : Fun K "_is_source_character" "_is_source_character" s_is_source_character f fd) (Z : TokTx P K mg C fI) (Y : Bn mg) : FnOk P w K mg base CX0 1 f fd ["character"] spSrcC := by
  refine F.ok sc_is_source_character (fun vs H Q E h => ?_) (fun cdv A outer s H vs Q E hr h => ?_)
  · obtain ⟨c, rfl, _⟩ := h
    rfl
  · obtain ⟨c, rfl, kQ⟩ := h
    have nd := sc_is_source_character.nd
    refine ⟨_, (pss_one (ps_ret (pe_and (pe_cmpR op_leS pe_str (pv 0) (nomark _)) (pe_and (pe_cmpR op_leS (pv 0) pe_str (nomark _)) (pe_one (pe_cmpR op_ne (pe_callB call_ordS (by rfl) Y.n_ord (by decide +kernel) (pa_cons (pv 0) pa_nil)) (pe_gc rfl Z.c_PERCENT) (nomark _))))))), ?_⟩
    rw [show L2.start N_is_source_character [T [c]] = [some (T [c])] from rfl]
    unfold srcC at kQ
    walk_at "rdx"
    rw [show (Str.ofString " ").cps.toList = [32] by decide +kernel]
    walk_at "rdx"
    refine w_ifb (fun h => ?_) (fun h => ?_)
    · rw [h, Bool.true_and] at kQ
      walk_at "rdx"
      rw [show (Str.ofString "~").cps.toList = [126] by decide +kernel]
      walk_at "rdx"
      refine w_ifb (fun h => ?_) (fun h => ?_)
      · rw [h, Bool.true_and] at kQ
        walk_at "rdx"
        have e : decide (V.int (c : Int) = V.int 37) = decide (c = 37) := decide_eq_decide.mpr ⟨fun h => by have := V.int.inj h; omega, fun h => by rw [h]; rfl⟩
        rw [e]
        exact kQ
      · rw [h, Bool.false_and] at kQ
        exact kQ
    · rw [h, Bool.false_and, Bool.false_and] at kQ
      exact kQ

abbrev s_end_of_run : Stmt := topS 21
abbrev N_end_of_run : List Str := ["text", "at", "end"]
theorem sc_end_of_run : FnScope N_end_of_run ["text", "at"] (defScope s_end_of_run) := ⟨rfl, rfl, rfl, by decide +kernel, rfl, by decide +kernel, by decide +kernel⟩
def spEndRun : Sp := fun vs H Q _ => ∃ (cs : List Nat) (i : Nat), vs = [T cs, .int (i : Int)] ∧ i ≤ cs.length ∧ cs.length ≤ 100000 ∧ Q (.int ((i + ((cs.drop i).takeWhile letC).length : Nat) : Int)) H
theorem ok_end_of_run {f : Addr} {fd : FuncData} (F : Fun K "_end_of_run" "_end_of_run" s_end_of_run f fd) (Y : Bn mg) (c_is_letter_or_digit : Cal P w K mg base 1 "_is_letter_or_digit" spLet []) : FnOk P w K mg base CX0 2 f fd ["text", "at"] spEndRun := by
  refine F.ok sc_end_of_run (fun vs H Q E h => ?_) (fun cdv A outer s H vs Q E hr h => ?_)
  · obtain ⟨cs, i, rfl, _⟩ := h
    rfl
  · obtain ⟨cs, i, rfl, hi, hl, kQ⟩ := h
    have nd := sc_end_of_run.nd
    refine ⟨_, (pss_cons (ps_set (i := 2) nd rfl (Or.inl rfl) (pv 1))
      (pss_cons (ps_while PassesOwn.never (PW.pt (pw_and (pt_cmpR op_lt (pv 2) (pe_callB call_lenS (by rfl) Y.n_len (by decide +kernel) (pa_cons (pv 0) pa_nil)) (nomark _)) (pw_and1 (pt_val (pe_c c_is_letter_or_digit hr (by decide) rfl (pa_cons (pe_ix ix_str (pv 0) (pv 2) (fun _ _ => rfl)) pa_nil)))))) (pss_one (ps_aug (i := 2) nd rfl (Or.inl rfl) pe_int ip_add)))
      (pss_one (ps_ret (pv 2))))), ?_⟩
    rw [show L2.start N_end_of_run [T cs, .int (i : Int)] = [some (T cs), some (.int (i : Int)), none] from rfl]
    walk_at "rdx"
    generalize hT : ((cs.drop i).takeWhile letC).length = n at kQ
    have hn : i + n ≤ cs.length := by
      have := tw_le (p := letC) (cs.drop i)
      rw [hT, List.length_drop] at this
      omega
    refine ⟨fun m σ' H' => ∃ j : Nat, σ' = [some (T cs), some (.int (i : Int)), some (.int ((i + j : Nat) : Int))] ∧ H' = H ∧ j ≤ n ∧ m = n - j, ⟨n, 0, rfl, rfl, Nat.zero_le _, rfl⟩, ?_⟩
    rintro m σ' H' ⟨j, rfl, rfl, hj, rfl⟩
    have fin : ¬ (j < n) → Q (.int ((i + j : Nat) : Int)) H' := fun h => by
      have : j = n := by omega
      rw [this]; exact kQ
    have hget : ∀ x, cs[i + j]? = some x → (letC x = true ↔ j < n) := fun x hx => by
      have hx2 : (cs.drop i)[j]? = some x := by rw [List.getElem?_drop]; exact hx
      constructor
      · intro hl
        refine Nat.lt_of_not_le fun hle => ?_
        have : j = n := by omega
        subst this
        rw [← hT] at hx2
        obtain ⟨y, ey, hy⟩ := tw_end (p := letC) (l := cs.drop i) (by
          obtain ⟨h1, _⟩ := List.getElem?_eq_some_iff.mp hx2
          exact h1)
        rw [hx2] at ey
        cases ey
        rw [hl] at hy; cases hy
      · intro h
        exact tw_get (by rw [hT]; exact h) hx2
    walk_at "rdx"
    refine w_lenS (by omega) ?_
    walk_at "rdx"
    refine w_if (fun h => ?_) (fun h => ?_)
    · walk_at "rdx"
      have hlt : i + j < cs.length := by omega
      refine w_ixS (by omega) (atI_nat (List.getElem?_eq_getElem hlt)) ?_
      walk_at "rdx"
      refine ⟨_, rfl, ?_⟩
      walk_at "rdx"
      have hg := hget _ (List.getElem?_eq_getElem hlt)
      refine w_ifb (fun hb => ?_) (fun hb => ?_)
      · have hjn := hg.mp hb
        refine ⟨fun σ' H'' => σ' = [some (T cs), some (.int (i : Int)), some (.int ((i + (j + 1) : Nat) : Int))] ∧ H'' = H', fun σ'' H'' ⟨e1, e2⟩ => ⟨n - (j + 1), by omega, j + 1, e1, e2, by omega, rfl⟩, ?_⟩
        refine w_aug (by with_unfolding_all exact rfl) ?_
        walk_at "rdx"
        refine ⟨_, _, rfl, rfl, ?_⟩
        exact ⟨rfl, rfl⟩
      · walk_at "rdx"
        refine fin fun hjn => ?_
        rw [hg.mpr hjn] at hb; cases hb
    · walk_at "rdx"
      exact fin (by omega)
end
end
section
open PySem PySem.Spec PyProof.Rows L2
open C8 (Cal cal0 pe_c pe_gc pss_cut tCut)

theorem at_zeroX {c : Nat} {r : List Nat} : atI (c :: r) 0 = some c := atI_nat (xs := c :: r) (j := 0) rfl
theorem tw_take {p : Nat → Bool} : ∀ l : List Nat, l.takeWhile p = l.take (l.takeWhile p).length
  | [] => rfl
  | a :: l => by
    rw [List.takeWhile_cons]
    by_cases h : p a = true
    · rw [if_pos h, List.length_cons, List.take_succ_cons, ← tw_take l]
    · rw [if_neg h]; rfl
theorem endTx_none {r : List Nat} (h : ¬ ((upQ r).length < r.length ∧ (upQ r).length ≤ 200 ∧ (upQ r).all srcC = true)) : endTx r = none := by
  unfold endTx
  rw [if_neg]
  intro z
  rw [Bool.and_eq_true, Bool.and_eq_true, decide_eq_true_iff, decide_eq_true_iff] at z
  exact h ⟨z.1.1, z.1.2, z.2⟩
theorem endTx_some {r : List Nat} (h1 : (upQ r).length < r.length) (h2 : (upQ r).length ≤ 200) (h3 : (upQ r).all srcC = true) : endTx r = some (upQ r) := by
  unfold endTx
  rw [if_pos]
  rw [Bool.and_eq_true, Bool.and_eq_true, decide_eq_true_iff, decide_eq_true_iff]
  exact ⟨⟨h1, h2⟩, h3⟩

section
variable {P : Program} {w : World} {K : PySem.W.Frag} {mg : Str → Option Value} {base : Heap} {C fI : Addr}

abbrev s_end_of_text : Stmt := topS 18
abbrev N_end_of_text : List Str := ["text", "at", "end", "character"]
theorem sc_end_of_text : FnScope N_end_of_text ["text", "at"] (defScope s_end_of_text) := ⟨rfl, rfl, rfl, by decide +kernel, rfl, by decide +kernel, by decide +kernel⟩
def spEndTx (C : Addr) : Sp := fun vs H Q E => ∃ (cs : List Nat) (i : Nat), vs = [T cs, .int (i : Int)] ∧ i < cs.length ∧ cs.length ≤ 100000 ∧
  (∀ b, endTx (cs.drop (i + 1)) = some b → Q (.int ((i + b.length + 2 : Nat) : Int)) H) ∧ (endTx (cs.drop (i + 1)) = none → Err C E H i)
theorem ok_end_of_text {f : Addr} {fd : FuncData} (F : Fun K "_end_of_text" "_end_of_text" s_end_of_text f fd) (Z : TokTx P K mg C fI) (c_is_source_character : Cal P w K mg base 1 "_is_source_character" spSrcC []) : FnOk P w K mg base (L2.CX P w) 2 f fd ["text", "at"] (spEndTx C) := by
  refine F.okX sc_end_of_text (fun vs H Q E h => ?_) (fun cdv A outer s H vs Q E hr h => ?_)
  · obtain ⟨cs, i, rfl, _⟩ := h
    rfl
  · obtain ⟨cs, i, rfl, hi, hl, kQ, kE⟩ := h
    have nd := sc_end_of_text.nd
    refine ⟨_, (pss_cons (ps_set (i := 2) nd rfl (Or.inl rfl) (pe_bm PySem.F.plainAttrs_str PySem.F.slot_str_find PySem.F.type_str_find mt_findS (pv 0) (pa_cons (pe_gc rfl Z.c_QUOTE) (pa_cons (pe_op op_add (pv 1) pe_int) pa_nil))))
      (pss_cons (ps_if (PW.pt (pw_or (pt_cmpR op_lt (pv 2) pe_int (nomark _)) (pw_or1 (pt_cmpR op_gt (pe_op op_sub (pe_op op_sub (pv 2) (pv 1)) pe_int) (pe_gc rfl Z.c_LONGEST_TEXT) (nomark _))))) (pss_one (ps_raiseSrc rfl Z.src hr tk_of (pa_cons (pv 1) pa_nil))) pss_nil)
      (pss_cons (ps_for po_of rfl (pi_str (pe_slice sl_str (pv 0) (po_some (pe_op op_add (pv 1) pe_int)) (po_some (pv 2)))) (pg_name (i := 3) nd rfl (Or.inl rfl)) (pss_one (ps_if (pt_not (pt_val (pe_c c_is_source_character hr (by decide) rfl (pa_cons (pv 3) pa_nil)))) (pss_one (ps_raiseSrc rfl Z.src hr tk_of (pa_cons (pv 1) pa_nil))) pss_nil)))
      (pss_one (ps_ret (pe_op op_add (pv 2) pe_int)))))), ?_⟩
    rw [show L2.start N_end_of_text [T cs, .int (i : Int)] = [some (T cs), some (.int (i : Int)), none, none] from rfl]
    walk_at "rdx"
    refine ⟨tyS, ?_⟩
    walk_at "rdx"
    refine w_find (i := i + 1) (by omega) ?_
    walk_at "rdx"
    have hb : upQ (cs.drop (i + 1)) = (cs.drop (i + 1)).take (upQ (cs.drop (i + 1))).length := tw_take _
    have hbl : (upQ (cs.drop (i + 1))).length ≤ (cs.drop (i + 1)).length := tw_le _
    have hf : findC cs 39 (i + 1) = if (upQ (cs.drop (i + 1))).length < (cs.drop (i + 1)).length then ((i + 1 + (upQ (cs.drop (i + 1))).length : Nat) : Int) else -1 := by
      unfold findC
      rw [List.length_drop] at hbl ⊢
      by_cases h : (upQ (cs.drop (i + 1))).length < cs.length - (i + 1)
      · rw [if_pos h, if_pos (show i + 1 + ((cs.drop (i + 1)).takeWhile fun x => x != 39).length < cs.length from by show i + 1 + (upQ (cs.drop (i + 1))).length < _; omega)]
        rfl
      · rw [if_neg h, if_neg (show ¬ i + 1 + ((cs.drop (i + 1)).takeWhile fun x => x != 39).length < cs.length from by show ¬ i + 1 + (upQ (cs.drop (i + 1))).length < _; omega)]
    rw [hf]
    generalize hB : upQ (cs.drop (i + 1)) = b at hb hbl
    have bad : ¬ (b.length < (cs.drop (i + 1)).length ∧ b.length ≤ 200 ∧ b.all srcC = true) → Err C E H i := fun h => kE (endTx_none (by rw [hB]; exact h))
    rw [List.length_drop] at hbl bad ⊢
    by_cases hlt : b.length < cs.length - (i + 1)
    · rw [if_pos hlt]
      refine w_if (fun h => absurd h (by omega)) (fun _ => ?_)
      walk_at "rdx"
      refine w_if (fun h => ?_) (fun h => ?_)
      · walk_at "rdx"
        exact raise_I (by omega) (bad fun z => by omega)
      · walk_at "rdx"
        refine w_slS (by omega) ?_
        have ec : cut cs (some ((i : Int) + 1)) (some ((i + 1 + b.length : Nat) : Int)) = b := by
          have e1 : ((i : Int) + 1) = ((i + 1 : Nat) : Int) := by omega
          rw [e1, cut_mid cs (by omega), show i + 1 + b.length - (i + 1) = b.length by omega]
          exact hb.symm
        rw [ec]
        refine for_S (fun j σ' H' => ∃ x, σ' = [some (T cs), some (.int (i : Int)), some (.int ((i + 1 + b.length : Nat) : Int)), x] ∧ H' = H ∧ ∀ k x, k < j → b[k]? = some x → srcC x = true)
          ⟨none, rfl, rfl, fun k x h => absurd h (Nat.not_lt_zero _)⟩ ?_ ?_
        · rintro j c σ' H' hc ⟨x, rfl, rfl, hall⟩
          walk_at "rdx"
          refine ⟨c, rfl, ?_⟩
          walk_at "rdx"
          have e : (!srcC c) = true ↔ srcC c = false := by cases srcC c <;> simp
          refine w_ifb (fun hn => ?_) (fun hn => ?_)
          · walk_at "rdx"
            refine raise_I (by omega) (bad fun z => ?_)
            have := List.all_eq_true.mp z.2.2 c (List.mem_of_getElem? hc)
            rw [this] at hn; cases hn
          · refine ⟨_, rfl, rfl, fun k y hk hy => ?_⟩
            by_cases hkj : k < j
            · exact hall k y hkj hy
            · have : k = j := by omega
              subst this
              rw [hc] at hy
              cases hy
              cases hs : srcC c with
              | true => rfl
              | false => rw [hs] at hn; cases hn
        · rintro σ' H' ⟨x, rfl, rfl, hall⟩
          walk_at "rdx"
          have hsrc : b.all srcC = true := List.all_eq_true.mpr fun c hc => by
            obtain ⟨k, hk, e⟩ := List.mem_iff_getElem.mp hc
            exact hall k c hk (by rw [List.getElem?_eq_getElem hk, e])
          have := kQ b (by rw [endTx_some (by rw [hB, List.length_drop]; exact hlt) (by rw [hB]; omega) (by rw [hB]; exact hsrc), hB])
          rw [show ((i + 1 + b.length : Nat) : Int) + 1 = ((i + b.length + 2 : Nat) : Int) by omega]
          exact this
    · rw [if_neg hlt]
      refine w_if (fun _ => ?_) (fun h => absurd (show (-1 : Int) < 0 by decide) h)
      walk_at "rdx"
      exact raise_I (by omega) (bad fun z => hlt z.1)

abbrev s_number_of : Stmt := topS 23
abbrev N_number_of : List Str := ["run", "at"]
theorem sc_number_of : FnScope N_number_of ["run", "at"] (defScope s_number_of) := ⟨rfl, rfl, rfl, by decide +kernel, rfl, by decide +kernel, by decide +kernel⟩
def spNumOf (C : Addr) : Sp := fun vs H Q E => ∃ (a : List Nat) (i : Nat), vs = [T a, .int (i : Int)] ∧ a ≠ [] ∧ (∀ c ∈ a, c ∈ aJ) ∧ a.length ≤ 100000 ∧ i ≤ 1000000 ∧ (∀ n : Nat, numRun a = some n → Q (.int (n : Int)) H) ∧ (numRun a = none → Err C E H i)
theorem ok_number_of {f : Addr} {fd : FuncData} (F : Fun K "_number_of" "_number_of" s_number_of f fd) (Z : TokTx P K mg C fI) (Y : Bn mg) : FnOk P w K mg base (L2.CX P w) 1 f fd ["run", "at"] (spNumOf C) := by
  refine F.okX sc_number_of (fun vs H Q E h => ?_) (fun cdv A outer s H vs Q E hr h => ?_)
  · obtain ⟨a, i, rfl, _⟩ := h
    rfl
  · obtain ⟨a, i, rfl, hne, hJ, hl, hi, kQ, kE⟩ := h
    have nd := sc_number_of.nd
    refine ⟨_, (pss_cons (ps_if (PW.pt (pw_or (pt_not (pt_val (pe_bm0 PySem.F.plainAttrs_str PySem.F.slot_str_isdigit PySem.F.type_str_isdigit mt_isdigitS (pv 0)))) (pw_or1 (PW.pt (pw_and (pt_cmpR op_eq (pe_ix ix_str (pv 0) pe_int (fun _ _ => rfl)) pe_str (nomark _)) (pw_and1 (pt_cmpR op_gt (pe_callB call_lenS (by rfl) Y.n_len (by decide +kernel) (pa_cons (pv 0) pa_nil)) pe_int (nomark _)))))))) (pss_one (ps_raiseSrc rfl Z.src hr tk_of (pa_cons (pv 1) pa_nil))) pss_nil)
      (pss_cons (ps_if (PW.pt (pw_or (pt_cmpR op_gt (pe_callB call_lenS (by rfl) Y.n_len (by decide +kernel) (pa_cons (pv 0) pa_nil)) (pe_gc rfl Z.c_MOST_DIGITS) (nomark _)) (pw_or1 (pt_cmpR op_gt (pe_callTy call_intS (by rfl) Y.n_int (by decide +kernel) (pa_cons (pv 0) pa_nil)) (pe_gc rfl Z.c_GREATEST_NUMBER) (nomark _))))) (pss_one (ps_raiseSrc rfl Z.src hr tk_of (pa_cons (pv 1) pa_nil))) pss_nil)
      (pss_one (ps_ret (pe_callTy call_intS (by rfl) Y.n_int (by decide +kernel) (pa_cons (pv 0) pa_nil)))))), ?_⟩
    rw [show L2.start N_number_of [T a, .int (i : Int)] = [some (T a), some (.int (i : Int))] from rfl]
    obtain ⟨c, r, rfl⟩ : ∃ c r, a = c :: r := by
      cases a with
      | nil => exact absurd rfl hne
      | cons c r => exact ⟨c, r, rfl⟩
    have e0 : (Str.ofString "0").cps.toList = ([48] : List Nat) := by decide +kernel
    have bad : ¬ ((c :: r).all digC = true ∧ ¬ (c = 48 ∧ 1 < (c :: r).length) ∧ (c :: r).length ≤ 10 ∧ NumText.digitsVal (c :: r) ≤ 1000000000) → Err C E H i := fun h => kE (by
      unfold numRun
      rw [if_neg]
      intro z
      simp only [Bool.and_eq_true, Bool.not_eq_true', decide_eq_true_iff, List.headD_cons] at z
      refine h ⟨z.1.1.1, fun y => ?_, z.1.2, z.2⟩
      rcases Bool.and_eq_false_iff.mp z.1.1.2 with h | h
      · exact of_decide_eq_false h y.1
      · exact of_decide_eq_false h y.2)
    have good : (c :: r).all digC = true → ¬ (c = 48 ∧ 1 < (c :: r).length) → (c :: r).length ≤ 10 → NumText.digitsVal (c :: r) ≤ 1000000000 → Q (.int ((NumText.digitsVal (c :: r) : Nat) : Int)) H := fun h1 h2 h3 h4 => kQ _ (by
      unfold numRun
      rw [if_pos]
      simp only [Bool.and_eq_true, Bool.not_eq_true', decide_eq_true_iff, List.headD_cons]
      refine ⟨⟨⟨h1, ?_⟩, h3⟩, h4⟩
      by_cases hc : c = 48
      · refine Bool.and_eq_false_iff.mpr (.inr (decide_eq_false fun z => h2 ⟨hc, z⟩))
      · exact Bool.and_eq_false_iff.mpr (.inl (decide_eq_false hc)))
    walk_at "rdx"
    refine ⟨tyS, ?_⟩
    refine w_isdigit hne (fun d hd => aJ_ascii d (hJ d hd)) ?_
    walk_at "rdx"
    refine w_ifb (fun hd => ?_) (fun hd => ?_)
    · walk_at "rdx"
      refine raise_I hi (bad fun z => ?_)
      have h1 : (c :: r).all digC = true := z.1
      have h2 : (!((c :: r).all digC)) = true := hd
      rw [h1] at h2; cases h2
    · have hall : (c :: r).all digC = true := by
        have h2 : (!((c :: r).all digC)) = false := hd
        cases h3 : (c :: r).all digC with
        | true => rfl
        | false => rw [h3] at h2; cases h2
      walk_at "rdx"
      refine w_ixS (by omega) at_zeroX ?_
      walk_at "rdx"
      rw [e0]
      have hz : (c = 48 ∧ 1 < (c :: r).length) → Err C E H i := fun y => bad fun z => z.2.1 y
      have hdig : NumText.AllDigits (c :: r) := fun d hd => by
        have := List.all_eq_true.mp hall d hd
        unfold digC at this
        rw [Bool.and_eq_true, decide_eq_true_iff, decide_eq_true_iff] at this
        exact this
      have hval : (c :: r).length ≤ 10 → PySem.intText? ⟨(c :: r).toArray⟩ = some ((NumText.digitsVal (c :: r) : Nat) : Int) := fun hl => PySem.intText_digits (x := ⟨(c :: r).toArray⟩) hdig hne (by rw [len_T]; omega)
      refine w_ifT (fun h48 => ?_) (fun h48 => ?_)
      · have hc : c = 48 := (List.cons.inj h48).1
        walk_at "rdx"
        refine w_lenS (by omega) ?_
        walk_at "rdx"
        refine w_if (fun h1 => ?_) (fun h1 => ?_)
        · walk_at "rdx"
          exact raise_I hi (hz ⟨hc, by omega⟩)
        · walk_at "rdx"
          have hlen : (c :: r).length ≤ 1 := by omega
          refine w_lenS (by omega) ?_
          walk_at "rdx"
          refine w_if (fun h2 => ?_) (fun h2 => ?_)
          · exact absurd h2 (by omega)
          · walk_at "rdx"
            refine w_intS (hval (by omega)) (by omega) ?_
            walk_at "rdx"
            refine w_if (fun h3 => ?_) (fun h3 => ?_)
            · walk_at "rdx"
              exact raise_I hi (bad fun z => by omega)
            · walk_at "rdx"
              refine w_intS (hval (by omega)) (by omega) ?_
              exact good hall (fun y => by omega) (by omega) (by omega)
      · have hc : ¬ c = 48 := fun e => h48 (by rw [e])
        walk_at "rdx"
        refine w_lenS (by omega) ?_
        walk_at "rdx"
        refine w_if (fun h2 => ?_) (fun h2 => ?_)
        · walk_at "rdx"
          exact raise_I hi (bad fun z => by omega)
        · walk_at "rdx"
          refine w_intS (hval (by omega)) (by omega) ?_
          walk_at "rdx"
          refine w_if (fun h3 => ?_) (fun h3 => ?_)
          · walk_at "rdx"
            exact raise_I hi (bad fun z => by omega)
          · walk_at "rdx"
            refine w_intS (hval (by omega)) (by omega) ?_
            exact good hall (fun y => hc y.1) (by omega) (by omega)

abbrev s_token_of_run : Stmt := topS 22
abbrev N_token_of_run : List Str := ["run", "at"]
theorem sc_token_of_run : FnScope N_token_of_run ["run", "at"] (defScope s_token_of_run) := ⟨rfl, rfl, rfl, by decide +kernel, rfl, by decide +kernel, by decide +kernel⟩
def spTokRun (C : Addr) : Sp := fun vs H Q E => ∃ (a : List Nat) (i : Nat), vs = [T a, .int (i : Int)] ∧ a ≠ [] ∧ (∀ c ∈ a, c ∈ aJ) ∧ a.length ≤ 100000 ∧ i ≤ 1000000 ∧
  (∀ (k : List Nat) (v : V), ofRun a = some (k, v) → ∀ p H', H p = none → Same H H' → H' p = some (.tup [T k, v]) → Q (.ref p) H') ∧ (ofRun a = none → Err C E H i)
theorem w_inWords {a : List Nat} {p : Addr} {H : Hp} {Q : VK} (h : ∀ H, SqT K H p (WL.map T)) (k : Q (.bl (decide (a ∈ WL))) H) : rIn K false (T a) (.ref p) H Q := w_inT (h H) k
theorem ok_token_of_run {f : Addr} {fd : FuncData} (F : Fun K "_token_of_run" "_token_of_run" s_token_of_run f fd) (Z : TokTx P K mg C fI) (Y : Bn mg) (c_number_of : CalX P w K mg base 1 "_number_of" (spNumOf C)) : FnOk P w K mg base (L2.CX P w) 2 f fd ["run", "at"] (spTokRun C) := by
  obtain ⟨aW, gW, hW⟩ := Z.c_WORDS
  refine F.okX sc_token_of_run (fun vs H Q E h => ?_) (fun cdv A outer s H vs Q E hr h => ?_)
  · obtain ⟨a, i, rfl, _⟩ := h
    rfl
  · obtain ⟨a, i, rfl, hne, hJ, hl, hi, kQ, kE⟩ := h
    have nd := sc_token_of_run.nd
    refine ⟨_, (pss_cons (ps_if (pt_cmpR op_inC (pe_ix ix_str (pv 0) pe_int (fun _ _ => rfl)) (pe_gc rfl Z.c_DIGITS) (by rfl)) (pss_one (ps_ret (pe_tup (pa_cons pe_str (pa_cons (pe_cx c_number_of hr (by decide) rfl px_of (pa_cons (pv 0) (pa_cons (pv 1) pa_nil))) pa_nil))))) pss_nil)
      (pss_cons (ps_if (pt_cmpR op_gt (pe_callB call_lenS (by rfl) Y.n_len (by decide +kernel) (pa_cons (pv 0) pa_nil)) (pe_gc rfl Z.c_LONGEST_NAME) (nomark _)) (pss_one (ps_raiseSrc rfl Z.src hr tk_of (pa_cons (pv 1) pa_nil))) pss_nil)
      (pss_cons (ps_if (pt_cmpR op_inC (pe_ix ix_str (pv 0) pe_int (fun _ _ => rfl)) (pe_gc rfl Z.c_CAPITAL) (by rfl)) (pss_one (ps_ret (pe_tup (pa_cons pe_str (pa_cons (pv 0) pa_nil))))) pss_nil)
      (pss_cons (ps_if (pt_cmpR op_in_seq (pv 0) (pe_gc rfl gW) (by rfl)) (pss_one (ps_ret (pe_tup (pa_cons pe_str (pa_cons (pv 0) pa_nil))))) pss_nil)
      (pss_one (ps_ret (pe_tup (pa_cons pe_str (pa_cons (pv 0) pa_nil))))))))), ?_⟩
    rw [show L2.start N_token_of_run [T a, .int (i : Int)] = [some (T a), some (.int (i : Int))] from rfl]
    obtain ⟨c, r, rfl⟩ : ∃ c r, a = c :: r := by
      cases a with
      | nil => exact absurd rfl hne
      | cons c r => exact ⟨c, r, rfl⟩
    unfold ofRun at kQ kE
    rw [List.headD_cons] at kQ kE
    walk_at "rdx"
    refine w_ixS (by omega) at_zeroX ?_
    walk_at "rdx"
    have ed := dig_iff c
    refine w_if (fun hd => ?_) (fun hd => ?_)
    · rw [decide_eq_true hd] at ed
      rw [if_pos ed.symm] at kQ kE
      walk_at "rdx"
      refine ⟨c :: r, i, rfl, hne, hJ, hl, hi, fun n hn => ?_, fun hn => kE (by rw [hn]; rfl)⟩
      walk_at "rdx"
      refine w_newT (by show 2 ≤ 1000000; decide) fun p H1 hp s1 h1 => ?_
      exact kQ _ _ (by rw [hn]; rfl) p H1 hp s1 h1
    · rw [decide_eq_false hd] at ed
      rw [if_neg (by rw [← ed]; exact Bool.false_ne_true)] at kQ kE
      walk_at "rdx"
      refine w_lenS (by omega) ?_
      walk_at "rdx"
      refine w_if (fun h20 => ?_) (fun h20 => ?_)
      · rw [if_pos (by omega)] at kE
        walk_at "rdx"
        exact raise_I hi (kE rfl)
      · rw [if_neg (by omega)] at kQ
        walk_at "rdx"
        refine w_ixS (by omega) at_zeroX ?_
        walk_at "rdx"
        refine w_if (fun hu => ?_) (fun hu => ?_)
        · rw [if_pos hu] at kQ
          walk_at "rdx"
          exact w_newT (by show 2 ≤ 1000000; decide) fun p H1 hp s1 h1 => kQ _ _ rfl p H1 hp s1 h1
        · rw [if_neg hu] at kQ
          walk_at "rdx"
          refine w_inWords hW ?_
          walk_at "rdx"
          refine w_if (fun hw => ?_) (fun hw => ?_)
          · rw [if_pos hw] at kQ
            walk_at "rdx"
            exact w_newT (by show 2 ≤ 1000000; decide) fun p H1 hp s1 h1 => kQ _ _ rfl p H1 hp s1 h1
          · rw [if_neg hw] at kQ
            walk_at "rdx"
            exact w_newT (by show 2 ≤ 1000000; decide) fun p H1 hp s1 h1 => kQ _ _ rfl p H1 hp s1 h1

abbrev s_mark_at : Stmt := topS 24
abbrev N_mark_at : List Str := ["text", "at", "mark"]
theorem sc_mark_at : FnScope N_mark_at ["text", "at"] (defScope s_mark_at) := ⟨rfl, rfl, rfl, by decide +kernel, rfl, by decide +kernel, by decide +kernel⟩
def spMark (C : Addr) : Sp := fun vs H Q E => ∃ (cs : List Nat) (i : Nat), vs = [T cs, .int (i : Int)] ∧ i ≤ cs.length ∧ cs.length ≤ 100000 ∧
  (∀ m, (MLs.find? fun m => m.isPrefixOf (cs.drop i)) = some m → Q (T m) H) ∧ ((MLs.find? fun m => m.isPrefixOf (cs.drop i)) = none → Err C E H i)
theorem find_here' {p : List Nat → Bool} : ∀ {l : List (List Nat)} {j : Nat} {m : List Nat}, l[j]? = some m → p m = true → (∀ k x, k < j → l[k]? = some x → p x = false) → l.find? p = some m
  | [], _, _, h, _, _ => by simp at h
  | a :: l, 0, m, h, hp, _ => by
    rw [List.getElem?_cons_zero] at h
    cases h
    rw [List.find?_cons, hp]
  | a :: l, j + 1, m, h, hp, hn => by
    rw [List.find?_cons, hn 0 a (Nat.zero_lt_succ j) rfl]
    exact find_here' (l := l) (j := j) (by simpa using h) hp fun k x hk hx => hn (k + 1) x (by omega) (by simpa using hx)
theorem ok_mark_at {f : Addr} {fd : FuncData} (F : Fun K "_mark_at" "_mark_at" s_mark_at f fd) (Z : TokTx P K mg C fI) : FnOk P w K mg base (L2.CX P w) 1 f fd ["text", "at"] (spMark C) := by
  obtain ⟨aM, gM, hM⟩ := Z.c_MARKS
  refine F.okX sc_mark_at (fun vs H Q E h => ?_) (fun cdv A outer s H vs Q E hr h => ?_)
  · obtain ⟨cs, i, rfl, _⟩ := h
    rfl
  · obtain ⟨cs, i, rfl, hi, hl, kQ, kE⟩ := h
    have nd := sc_mark_at.nd
    refine ⟨_, (pss_cons (ps_for po_of rfl (pi_tup (pe_gc rfl gM)) (pg_name (i := 2) nd rfl (Or.inl rfl)) (pss_one (ps_if (pt_val (pe_bm PySem.F.plainAttrs_str PySem.F.slot_str_startswith PySem.F.type_str_startswith mt_startsS (pv 0) (pa_cons (pv 2) (pa_cons (pv 1) pa_nil)))) (pss_one (ps_ret (pv 2))) pss_nil)))
      (pss_one (ps_raiseSrc rfl Z.src hr tk_of (pa_cons (pv 1) pa_nil)))), ?_⟩
    rw [show L2.start N_mark_at [T cs, .int (i : Int)] = [some (T cs), some (.int (i : Int)), none] from rfl]
    walk_at "rdx"
    refine for_T (xs := MLs.map T) (fun j σ' H' => ∃ x, σ' = [some (T cs), some (.int (i : Int)), x] ∧ H' = H ∧ ∀ k m, k < j → MLs[k]? = some m → m.isPrefixOf (cs.drop i) = false)
      ⟨none, rfl, rfl, fun k x h => absurd h (Nat.not_lt_zero _)⟩ (fun _ _ H' _ _ => hM H') ?_ ?_
    · rintro j x σ' H' hx ⟨y, rfl, rfl, hn⟩
      obtain ⟨m, hm, rfl⟩ : ∃ m, MLs[j]? = some m ∧ x = T m := by
        rw [List.getElem?_map] at hx
        cases e : MLs[j]? with
        | none => rw [e] at hx; cases hx
        | some m => rw [e] at hx; exact ⟨m, rfl, (Option.some.inj hx).symm⟩
      walk_at "rdx"
      refine ⟨tyS, ?_⟩
      walk_at "rdx"
      refine w_starts hi ?_
      walk_at "rdx"
      refine w_ifb (fun hp => ?_) (fun hp => ?_)
      · walk_at "rdx"
        exact kQ m (find_here' hm hp hn)
      · refine ⟨_, rfl, rfl, fun k m' hk hm' => ?_⟩
        by_cases hkj : k < j
        · exact hn k m' hkj hm'
        · have : k = j := by omega
          subst this
          rw [hm] at hm'
          cases hm'
          exact hp
    · rintro σ' H' ⟨y, rfl, rfl, hn⟩
      walk_at "rdx"
      refine raise_I (by omega) (kE ?_)
      rw [List.find?_eq_none]
      intro m hm
      obtain ⟨k, hk, e⟩ := List.mem_iff_getElem.mp hm
      have := hn k m (by rw [List.length_map]; exact hk) (by rw [List.getElem?_eq_getElem hk, e])
      rw [this]
      exact Bool.false_ne_true
end
end
section
open PySem PySem.Spec PyProof.Rows L2
open C8 (Cal cal0 pe_c pe_gc pss_cut tCut)

section
variable {P : Program} {w : World} {K : PySem.W.Frag} {mg : Str → Option Value} {base : Heap} {C fI : Addr}
theorem drop_cons {cs : List Nat} {i : Nat} (h : i < cs.length) : cs.drop i = cs[i] :: cs.drop (i + 1) := List.drop_eq_getElem_cons h
theorem sqT_of {p : Addr} {xs : List V} {H : Hp} (h : H p = some (.tup xs)) : SqT K H p xs := Or.inl (Or.inl h)
abbrev s_token_at : Stmt := topS 17
abbrev N_token_at : List Str := ["text", "at", "end", "kind", "value", "mark"]
theorem sc_token_at : FnScope N_token_at ["text", "at"] (defScope s_token_at) := ⟨rfl, rfl, rfl, by decide +kernel, rfl, by decide +kernel, by decide +kernel⟩
def spTokAt (C : Addr) : Sp := fun vs H Q E => ∃ (cs : List Nat) (i : Nat), vs = [T cs, .int (i : Int)] ∧ i < cs.length ∧ cs.length ≤ 100000 ∧
  (∀ (k : List Nat) (v : V) (n : Nat), one (cs.drop i) = some (k, v, n) → ∀ p H', H p = none → Same H H' → H' p = some (.tup [T k, v, .int ((i + n : Nat) : Int)]) → Q (.ref p) H') ∧ (one (cs.drop i) = none → Err C E H i)
theorem ok_token_at {f : Addr} {fd : FuncData} (F : Fun K "_token_at" "_token_at" s_token_at f fd) (Z : TokTx P K mg C fI) (Y : Bn mg) (c_is_letter_or_digit : Cal P w K mg base 1 "_is_letter_or_digit" spLet []) (c_end_of_run : Cal P w K mg base 2 "_end_of_run" spEndRun [])
    (c_end_of_text : CalX P w K mg base 2 "_end_of_text" (spEndTx C)) (c_token_of_run : CalX P w K mg base 2 "_token_of_run" (spTokRun C)) (c_mark_at : CalX P w K mg base 1 "_mark_at" (spMark C)) : FnOk P w K mg base (L2.CX P w) 3 f fd ["text", "at"] (spTokAt C) := by
  refine F.okX sc_token_at (fun vs H Q E h => ?_) (fun cdv A outer s H vs Q E hr h => ?_)
  · obtain ⟨cs, i, rfl, _⟩ := h
    rfl
  · obtain ⟨cs, i, rfl, hi, hl, kQ, kE⟩ := h
    have nd := sc_token_at.nd
    refine ⟨_, (pss_cons (ps_if (pt_cmpR op_eq (pe_ix ix_str (pv 0) (pv 1) (fun _ _ => rfl)) (pe_gc rfl Z.c_QUOTE) (nomark _)) (pss_cons (ps_set (i := 2) nd rfl (Or.inl rfl) (pe_cx c_end_of_text hr (by decide) rfl px_of (pa_cons (pv 0) (pa_cons (pv 1) pa_nil))))
      (pss_one (ps_ret (pe_tup (pa_cons pe_str (pa_cons (pe_slice sl_str (pv 0) (po_some (pe_op op_add (pv 1) pe_int)) (po_some (pe_op op_sub (pv 2) pe_int))) (pa_cons (pv 2) pa_nil))))))) pss_nil)
      (pss_cons (ps_if (pt_val (pe_c c_is_letter_or_digit hr (by decide) rfl (pa_cons (pe_ix ix_str (pv 0) (pv 1) (fun _ _ => rfl)) pa_nil))) (pss_cons (ps_set (i := 2) nd rfl (Or.inl rfl) (pe_c c_end_of_run hr (by decide) rfl (pa_cons (pv 0) (pa_cons (pv 1) pa_nil))))
      (pss_cons (ps_asg (pe_cx c_token_of_run hr (by decide) rfl px_of (pa_cons (pe_slice sl_str (pv 0) (po_some (pv 1)) (po_some (pv 2))) (pa_cons (pv 1) pa_nil))) (pg_tup (by rfl) (pgs_cons (pg_name (i := 3) nd rfl (Or.inl rfl)) (pgs_cons (pg_name (i := 4) nd rfl (Or.inl rfl)) pgs_nil))))
      (pss_one (ps_ret (pe_tup (pa_cons (pv 3) (pa_cons (pv 4) (pa_cons (pv 2) pa_nil)))))))) pss_nil)
      (pss_cons (ps_set (i := 5) nd rfl (Or.inl rfl) (pe_cx c_mark_at hr (by decide) rfl px_of (pa_cons (pv 0) (pa_cons (pv 1) pa_nil))))
      (pss_one (ps_ret (pe_tup (pa_cons pe_str (pa_cons (pv 5) (pa_cons (pe_op op_add (pv 1) (pe_callB call_lenS (by rfl) Y.n_len (by decide +kernel) (pa_cons (pv 5) pa_nil))) pa_nil))))))))), ?_⟩
    rw [show L2.start N_token_at [T cs, .int (i : Int)] = [some (T cs), some (.int (i : Int)), none, none, none, none] from rfl]
    rw [drop_cons hi, one_cons] at kQ kE
    have hat := atI_nat (List.getElem?_eq_getElem hi)
    walk_at "rdx"
    refine w_ixS (by omega) hat ?_
    walk_at "rdx"
    refine w_ifT (fun hq => ?_) (fun hq => ?_)
    · have hc : cs[i] = 39 := (List.cons.inj hq).1
      rw [if_pos hc] at kQ kE
      walk_at "rdx"
      refine ⟨cs, i, rfl, hi, hl, fun b hb => ?_, fun hn => kE (by rw [hn]; rfl)⟩
      walk_at "rdx"
      refine w_slS (by omega) ?_
      have hbl : b = upQ (cs.drop (i + 1)) ∧ i + 1 + b.length < cs.length := by
        unfold endTx at hb
        split at hb
        · rename_i hz
          cases hb
          rw [Bool.and_eq_true, Bool.and_eq_true, decide_eq_true_iff] at hz
          have := hz.1.1
          rw [List.length_drop] at this
          exact ⟨rfl, by omega⟩
        · cases hb
      have ec : cut cs (some ((i : Int) + 1)) (some (((i + b.length + 2 : Nat) : Int) - 1)) = b := by
        have e1 : ((i : Int) + 1) = ((i + 1 : Nat) : Int) := by omega
        have e2 : (((i + b.length + 2 : Nat) : Int) - 1) = ((i + 1 + b.length : Nat) : Int) := by omega
        rw [e1, e2, cut_mid cs (by omega), show i + 1 + b.length - (i + 1) = b.length by omega]
        have := tw_take (p := fun x => x != 39) (cs.drop (i + 1))
        rw [hbl.1]
        exact this.symm
      rw [ec]
      walk_at "rdx"
      refine w_newT (by show 3 ≤ 1000000; decide) fun p H1 hp s1 h1 => ?_
      refine kQ _ _ (b.length + 2) (by rw [hb]; rfl) p H1 hp s1 ?_
      rw [h1]
      rfl
    · have hc : ¬ cs[i] = 39 := fun e => hq (by rw [e])
      rw [if_neg hc] at kQ kE
      walk_at "rdx"
      refine w_ixS (by omega) hat ?_
      walk_at "rdx"
      refine ⟨_, rfl, ?_⟩
      walk_at "rdx"
      refine w_ifb (fun hlt => ?_) (fun hlt => ?_)
      · rw [if_pos hlt] at kQ kE
        rw [← drop_cons hi] at kQ kE
        walk_at "rdx"
        refine ⟨cs, i, rfl, by omega, hl, ?_⟩
        walk_at "rdx"
        refine w_slS (by omega) ?_
        have hn := tw_le (p := letC) (cs.drop i)
        rw [List.length_drop] at hn
        have ec : cut cs (some (i : Int)) (some ((i + ((cs.drop i).takeWhile letC).length : Nat) : Int)) = (cs.drop i).takeWhile letC := by
          rw [cut_mid cs (by omega), show i + ((cs.drop i).takeWhile letC).length - i = ((cs.drop i).takeWhile letC).length by omega]
          exact (tw_take _).symm
        rw [ec]
        have hne : (cs.drop i).takeWhile letC ≠ [] := by
          rw [drop_cons hi, List.takeWhile_cons, if_pos hlt]
          exact List.cons_ne_nil _ _
        have hJ : ∀ c ∈ (cs.drop i).takeWhile letC, c ∈ aJ := fun c hc => by
          obtain ⟨k, hk, e⟩ := List.mem_iff_getElem.mp hc
          have hx : ((cs.drop i).takeWhile letC)[k]? = some c := by rw [List.getElem?_eq_getElem hk, e]
          rw [tw_take, List.getElem?_take_of_lt hk] at hx
          exact of_decide_eq_true (tw_get hk hx)
        walk_at "rdx"
        refine ⟨_, i, rfl, hne, hJ, by omega, by omega, fun k v hk p H1 hp s1 h1 => ?_, fun hn => kE (by rw [hn]; rfl)⟩
        walk_at "rdx"
        refine ⟨p, _, rfl, sqT_of h1, rfl, ?_⟩
        refine ⟨_, _, rfl, ?_⟩
        walk_at "rdx"
        refine ⟨_, _, rfl, ?_⟩
        walk_at "rdx"
        refine ⟨rfl, ?_⟩
        walk_at "rdx"
        refine w_newT (by show 3 ≤ 1000000; decide) fun p2 H2 hp2 s2 h2 => ?_
        exact kQ _ _ _ (by rw [hk]; rfl) p2 H2 (s1.free hp2) (s1.trans s2) h2
      · rw [if_neg (by rw [hlt]; exact Bool.false_ne_true)] at kQ kE
        rw [← drop_cons hi] at kQ kE
        walk_at "rdx"
        refine ⟨cs, i, rfl, by omega, hl, fun m hm => ?_, fun hn => kE (by rw [hn]; rfl)⟩
        have hml : m.length ≤ cs.length := by
          have := List.find?_some hm
          have := (List.isPrefixOf_iff_prefix.mp this).length_le
          rw [List.length_drop] at this
          omega
        walk_at "rdx"
        refine w_lenS (by omega) ?_
        walk_at "rdx"
        refine w_newT (by show 3 ≤ 1000000; decide) fun p H1 hp s1 h1 => ?_
        refine kQ _ _ m.length (by rw [hm]; rfl) p H1 hp s1 ?_
        rw [h1]
        rfl

def TokAt (H : Hp) (ps : List Addr) (ts : List Tk) : Prop := Paired (fun p (t : Tk) => H p = some (.tup [T t.1, t.2.1, .int (t.2.2 : Int)])) ps ts
theorem TokAt.same {H H' : Hp} (s : Same H H') : ∀ {ps : List Addr} {ts : List Tk}, TokAt H ps ts → TokAt H' ps ts
  | _, _, .nil => .nil
  | _, _, .cons h t => .cons (s _ _ h) (TokAt.same s t)
theorem TokAt.snoc {H : Hp} {p : Addr} {t : Tk} (h : H p = some (.tup [T t.1, t.2.1, .int (t.2.2 : Int)])) : ∀ {ps : List Addr} {ts : List Tk}, TokAt H ps ts → TokAt H (ps ++ [p]) (ts ++ [t])
  | _, _, .nil => .cons h .nil
  | _, _, .cons a r => .cons a (TokAt.snoc h r)
theorem TokAt.but {H H' : Hp} {D : Addr} (k : ∀ b o, b ≠ D → H b = some o → H' b = some o) (hD : ∀ t, H D ≠ some (.tup t)) : ∀ {ps : List Addr} {ts : List Tk}, TokAt H ps ts → TokAt H' ps ts
  | _, _, .nil => .nil
  | _, _, .cons h t => .cons (k _ _ (fun e => hD _ (e ▸ h)) h) (TokAt.but k hD t)
abbrev s_tokenize : Stmt := topS 16
abbrev N_tokenize : List Str := ["text", "tokens", "at", "kind", "value", "end"]
theorem sc_tokenize : FnScope N_tokenize ["text"] (defScope s_tokenize) := ⟨rfl, rfl, rfl, by decide +kernel, rfl, by decide +kernel, by decide +kernel⟩
def spTokenize (C : Addr) : Sp := fun vs H Q E => ∃ (cs : List Nat), vs = [T cs] ∧ cs.length ≤ 100000 ∧
  (∀ ts, lex 0 cs = (ts, none) → ∀ p ps H', H p = none → Same H H' → H' p = some (.lst (ps.map V.ref)) → TokAt H' ps ts → ts.length ≤ cs.length → Q (.ref p) H') ∧ (∀ ts i, lex 0 cs = (ts, some i) → Err C E H i)
theorem ok_tokenize {f : Addr} {fd : FuncData} (F : Fun K "tokenize" "tokenize" s_tokenize f fd) (Y : Bn mg) (c_token_at : CalX P w K mg base 3 "_token_at" (spTokAt C)) : FnOk P w K mg base (L2.CX P w) 4 f fd ["text"] (spTokenize C) := by
  refine F.okX sc_tokenize (fun vs H Q E h => ?_) (fun cdv A outer s H vs Q E hr h => ?_)
  · obtain ⟨cs, rfl, _⟩ := h
    rfl
  · obtain ⟨cs, rfl, hl, kQ, kE⟩ := h
    have nd := sc_tokenize.nd
    refine ⟨_, (pss_cons (ps_set (i := 1) nd rfl (Or.inl rfl) (pe_lst pa_nil))
      (pss_cons (ps_set (i := 2) nd rfl (Or.inl rfl) pe_int)
      (pss_cons (ps_while po_of (pt_cmpR op_lt (pv 2) (pe_callB call_lenS (by rfl) Y.n_len (by decide +kernel) (pa_cons (pv 0) pa_nil)) (nomark _)) (pss_one (ps_if (pt_cmpR op_eq (pe_ix ix_str (pv 0) (pv 2) (fun _ _ => rfl)) pe_str (nomark _)) (pss_one (ps_aug (i := 2) nd rfl (Or.inl rfl) pe_int ip_add)) (pss_cons (ps_asg (pe_cx c_token_at hr (by decide) rfl px_of (pa_cons (pv 0) (pa_cons (pv 2) pa_nil))) (pg_tup (by rfl) (pgs_cons (pg_name (i := 3) nd rfl (Or.inl rfl)) (pgs_cons (pg_name (i := 4) nd rfl (Or.inl rfl)) (pgs_cons (pg_name (i := 5) nd rfl (Or.inl rfl)) pgs_nil)))))
      (pss_cons (ps_expr (pe_bm PySem.F.plainAttrs_list PySem.F.slot_list_append PySem.F.type_list_append mt_append (pv 1) (pa_cons (pe_tup (pa_cons (pv 3) (pa_cons (pv 4) (pa_cons (pv 2) pa_nil)))) pa_nil)))
      (pss_one (ps_set (i := 2) nd rfl (Or.inl rfl) (pv 5))))))))
      (pss_one (ps_ret (pv 1)))))), ?_⟩
    rw [show L2.start N_tokenize [T cs] = [some (T cs), none, none, none, none, none] from rfl]
    walk_at "rdx"
    refine w_newL (by show 0 ≤ 1000000; decide) fun D H1 hD s1 h1 => ?_
    walk_at "rdx"
    refine ⟨fun m σ' H' => ∃ (i : Nat) (ps : List Addr) (ts : List Tk) (x y z : Option V), σ' = [some (T cs), some (.ref D), some (.int (i : Int)), x, y, z] ∧ i ≤ cs.length ∧ m = cs.length - i ∧ Same H H' ∧ H' D = some (.lst (ps.map V.ref)) ∧ TokAt H' ps ts ∧ ts.length ≤ i ∧
        lex 0 cs = (ts ++ (lex i (cs.drop i)).1, (lex i (cs.drop i)).2), ⟨cs.length, 0, [], [], none, none, none, rfl, Nat.zero_le _, rfl, s1, h1, .nil, Nat.zero_le _, rfl⟩, ?_⟩
    rintro m σ' H' ⟨i, ps, ts, x, y, z, rfl, hi, rfl, sm, hL, hT, hlen, hlex⟩
    walk_at "rdx"
    refine w_lenS (by omega) ?_
    walk_at "rdx"
    refine w_if (fun hlt => ?_) (fun hlt => ?_)
    · have hi2 : i < cs.length := by omega
      refine ⟨fun σ' H' => ∃ (i' : Nat) (ps : List Addr) (ts : List Tk) (x y z : Option V), i < i' ∧ σ' = [some (T cs), some (.ref D), some (.int (i' : Int)), x, y, z] ∧ i' ≤ cs.length ∧ Same H H' ∧ H' D = some (.lst (ps.map V.ref)) ∧ TokAt H' ps ts ∧ ts.length ≤ i' ∧
        lex 0 cs = (ts ++ (lex i' (cs.drop i')).1, (lex i' (cs.drop i')).2), fun σ'' H'' ⟨i', ps, ts, x, y, z, h1, h2, h3, h4, h5, h6, h7, h8⟩ => ⟨cs.length - i', by omega, i', ps, ts, x, y, z, h2, h3, rfl, h4, h5, h6, h7, h8⟩, ?_⟩
      rw [drop_cons hi2] at hlex
      walk_at "rdx"
      refine w_ixS (by omega) (atI_nat (List.getElem?_eq_getElem hi2)) ?_
      walk_at "rdx"
      rw [show (Str.ofString " ").cps.toList = [32] by decide +kernel]
      refine w_ifT (fun hs => ?_) (fun hs => ?_)
      · have hc : cs[i] = 32 := (List.cons.inj hs).1
        rw [hc, lex_sp] at hlex
        refine w_aug (by with_unfolding_all exact rfl) ?_
        walk_at "rdx"
        refine ⟨_, _, rfl, rfl, ?_⟩
        exact ⟨i + 1, ps, ts, x, y, z, by omega, rfl, by omega, sm, hL, hT, by omega, hlex⟩
      · have hc : ¬ cs[i] = 32 := fun e => hs (by rw [e])
        walk_at "rdx"
        refine ⟨cs, i, rfl, hi2, hl, fun k v n hk p H2 hp s2 h2 => ?_, fun hn => ?_⟩
        · rw [drop_cons hi2] at hk
          have hpos := one_pos hk
          rw [← drop_cons hi2, List.length_drop] at hpos
          rw [lex_tok hc hk] at hlex
          walk_at "rdx"
          refine ⟨p, _, rfl, sqT_of h2, rfl, ?_⟩
          refine ⟨_, _, rfl, ?_⟩
          walk_at "rdx"
          refine ⟨_, _, rfl, ?_⟩
          walk_at "rdx"
          refine ⟨_, _, rfl, ?_⟩
          walk_at "rdx"
          refine ⟨rfl, ?_⟩
          walk_at "rdx"
          have hL2 := s2 _ _ hL
          refine ⟨tyL (SqL.of hL2), ?_⟩
          walk_at "rdx"
          refine w_newT (by show 3 ≤ 1000000; decide) fun p3 H3 hp3 s3 h3 => ?_
          walk_at "rdx"
          have hpl : ps.length = ts.length := hT.length
          refine w_app2 (s3 _ _ hL2) (by rw [List.length_map]; omega) fun H4 h4 k4 => ?_
          walk_at "rdx"
          have hDt : ∀ t, H3 D ≠ some (.tup t) := fun t e => by rw [s3 _ _ hL2] at e; cases e
          have sm4 : Same H H4 := fun b o hb => k4 b o (ne_of_none hb hD) (s3 _ _ (s2 _ _ (sm _ _ hb)))
          refine ⟨i + n, ps ++ [p3], ts ++ [(k, v, i)], _, _, _, by omega, rfl, by omega, sm4, ?_, ?_, ?_, ?_⟩
          · rw [h4, List.map_append]; rfl
          · refine TokAt.but k4 hDt (TokAt.snoc h3 ((hT.same s2).same s3))
          · rw [List.length_append]; show ts.length + 1 ≤ i + n; omega
          · rw [hlex, List.append_assoc, List.drop_drop]
            have : i + 1 + (n - 1) = i + n := by omega
            rw [this]
            rfl
        · rw [drop_cons hi2] at hn
          rw [lex_wrong hc hn] at hlex
          exact (kE _ _ hlex).mono sm
    · have : i = cs.length := by omega
      subst this
      rw [List.drop_length, lex_nil, List.append_nil] at hlex
      walk_at "rdx"
      exact kQ ts hlex D ps H' hD sm hL hT hlen
end
end
section
open PySem PySem.Spec PyProof.Rows L2
open C8 (Cal cal0 pe_c pe_gc pss_cut tCut)

end
local macro_rules | `(tactic| walk_at "r1y") => `(tactic| first
  | refine Wk0.go ?_
  | refine Wk1.go ?_
  | with_reducible refine w_var (by with_unfolding_all exact rfl) ?_
  | with_reducible refine w_var (by with_unfolding_all exact rfl) ?_
  | ((with_reducible refine isi_t_tuple ?hSq ?_); (case hSq => exact ⟨_, by assumption⟩))
  | ((with_reducible refine isi_t_bool ?hSq ?_); (case hSq => exact ⟨_, by assumption⟩))
  | ((with_reducible refine isi_t_int ?hSq ?_); (case hSq => exact ⟨_, by assumption⟩))
  | ((with_reducible refine isi_t_str ?hSq ?_); (case hSq => exact ⟨_, by assumption⟩))
  | ((with_reducible show rLenL _ [V.ref _] _ _); first | refine w_lenL (SqL.of (by assumption)) ?_ | refine w_lenL (by assumption) ?_ | refine w_lenT (by assumption) ?_)
  | ((with_reducible show rIxL _ (V.ref _) (V.int _) _ _); refine w_ixL (SqL.of (by assumption)) (by with_unfolding_all exact rfl) ?_)
  | ((with_reducible show rIxT _ (V.ref _) (V.int _) _ _); refine w_ixT (by assumption) (by with_unfolding_all exact rfl) ?_)
  | with_reducible refine w_eq (by with_unfolding_all exact rfl) ?_
  | with_reducible refine w_ne (by with_unfolding_all exact rfl) ?_
  | with_reducible refine L2.iteF ?_
  | with_reducible refine L2.iteT ?_)
local macro_rules | `(tactic| walk_at "rdy") => `(tactic| repeat walk_at "r1y")
local macro_rules | `(tactic| walk_at "upy") => `(tactic| (refine ⟨_, _, rfl, .inl (.inl (by assumption)), (by rfl), ?_⟩; refine ⟨_, _, rfl, ?_⟩; walk_at "rdy"; refine ⟨_, _, rfl, ?_⟩; walk_at "rdy"; refine ⟨rfl, ?_⟩; walk_at "rdy"))
section
open PySem PySem.Spec PyProof.Rows L2
open C8 (Cal cal0 pe_c pe_gc pss_cut tCut)

def spSameB (K : PySem.W.Frag) (n : Nat) : Sp := fun vs H Q _ => ∃ (x y : V) (t u : Tr), vs = [x, y] ∧ TrAt K H x t ∧ TrAt K H y u ∧ TrD n u ∧ ∀ (b : Bool) H', (b = true ↔ t = u) → Same H H' → Q (.bl b) H'
theorem trs_ext : ∀ {l m : List Tr}, l.length = m.length → (∀ i, i < l.length → l[i]? = m[i]?) → l = m
  | [], [], _, _ => rfl
  | [], _ :: _, h, _ => by simp at h
  | _ :: _, [], h, _ => by simp at h
  | a :: l, b :: m, h, g => by
    have h0 := g 0 (Nat.succ_pos _)
    have e : a = b := by simpa using h0
    rw [e, trs_ext (l := l) (m := m) (by simpa using h) fun i hi => by have := g (i + 1) (Nat.succ_lt_succ hi); simpa using this]
section
variable {P : Program} {w : World} {K : PySem.W.Frag} {mg : Str → Option Value} {base : Heap}
abbrev s_law_same : Stmt := topS 75
abbrev N_law_same : List Str := ["one", "two", "k"]
theorem sc_law_same : FnScope N_law_same ["one", "two"] (defScope s_law_same) := ⟨rfl, rfl, rfl, by decide +kernel, rfl, by decide +kernel, by decide +kernel⟩
theorem ok_sameB0 {f : Addr} {fd : FuncData} (F : Fun K "_law_same" "_law_same" s_law_same f fd) : FnOk P w K mg base CX0 1 f fd ["one", "two"] (spSameB K 0) :=
  F.ok sc_law_same (fun vs H Q E ⟨x, y, t, u, e, _⟩ => by rw [e]; rfl) fun cdv A outer s H vs Q E hr ⟨x, y, t, u, e, _, _, h, _⟩ => False.elim h
theorem ok_sameB1 {n : Nat} {f : Addr} {fd : FuncData} (F : Fun K "_law_same" "_law_same" s_law_same f fd) (Y : Bn mg) (c_law_same : Cal P w K mg base (n + 1) "_law_same" (spSameB K n) []) : FnOk P w K mg base CX0 (n + 2) f fd ["one", "two"] (spSameB K (n + 1)) := by
  refine F.ok sc_law_same (fun vs H Q E h => ?_) (fun cdv A outer s H vs Q E hr h => ?_)
  · obtain ⟨x, y, t, u, rfl, _⟩ := h
    rfl
  · obtain ⟨x, y, t, u, rfl, hx, hy, hd, kQ⟩ := h
    have nd := sc_law_same.nd
    have no : ∀ H', Same H H' → t ≠ u → Q (.bl false) H' := fun H' s n => kQ false H' ⟨fun h => (nomatch h), fun h => absurd h n⟩ s
    have kQ0 := kQ (H' := H) (b := true)
    have no0 := no H fun _ _ h => h
    refine ⟨_, (pss_cons (ps_if (PW.pt (pw_or (pt_val (pe_callB call_isi (by rfl) Y.n_isinstance (by decide +kernel) (pa_cons (pv 0) (pa_cons (pe_bltn (v := .ty "tuple") (by rfl) Y.n_tuple (by decide +kernel) rfl) pa_nil)))) (pw_or1 (pt_val (pe_callB call_isi (by rfl) Y.n_isinstance (by decide +kernel) (pa_cons (pv 1) (pa_cons (pe_bltn (v := .ty "tuple") (by rfl) Y.n_tuple (by decide +kernel) rfl) pa_nil))))))) (pss_cons (ps_if (PW.pt (pw_or (pt_not (pt_val (pe_callB call_isi (by rfl) Y.n_isinstance (by decide +kernel) (pa_cons (pv 0) (pa_cons (pe_bltn (v := .ty "tuple") (by rfl) Y.n_tuple (by decide +kernel) rfl) pa_nil))))) (pw_or (pt_not (pt_val (pe_callB call_isi (by rfl) Y.n_isinstance (by decide +kernel) (pa_cons (pv 1) (pa_cons (pe_bltn (v := .ty "tuple") (by rfl) Y.n_tuple (by decide +kernel) rfl) pa_nil))))) (pw_or1 (pt_cmpR op_ne (pe_callB call_lenL (by rfl) Y.n_len (by decide +kernel) (pa_cons (pv 0) pa_nil)) (pe_callB call_lenL (by rfl) Y.n_len (by decide +kernel) (pa_cons (pv 1) pa_nil)) (nomark _)))))) (pss_one (ps_ret pe_bl)) pss_nil)
      (pss_one (ps_ret (pe_cmpR op_eq (pe_callB call_lenL (by rfl) Y.n_len (by decide +kernel) (pa_cons (pe_lc (own := [("k", 2)]) (g := gName 2) (tt := tNot (tB (tCall (spSameB K n) [] L2.E0 (tCons (tOp (rIxT K) (tVar 0) (tVar 2)) (tCons (tOp (rIxT K) (tVar 1) (tVar 2)) tNil))))) rfl nd (pi_range1 rfl Y.n_range (pa_cons (pe_callB call_lenL (by rfl) Y.n_len (by decide +kernel) (pa_cons (pv 0) pa_nil)) pa_nil)) (blkOk_by (own := [("k", 2)]) (N := N_law_same) (sc := defScope s_law_same) (by decide +kernel)) (fun _ _ _ _ _ => pg_name (i := 2) nd rfl (Or.inl rfl)) (fun _ _ _ _ _ => pts_one (pt_not (pt_val (pe_c c_law_same hr (by omega) rfl (pa_cons (pe_ix ix_tup (pv 0) (pv 2) (fun _ _ => rfl)) (pa_cons (pe_ix ix_tup (pv 1) (pv 2) (fun _ _ => rfl)) pa_nil)))))) (fun _ _ _ _ _ => (pv 2))) pa_nil)) pe_int (nomark _))))) pss_nil)
      (pss_cons (ps_if (PW.pt (pw_or (pt_cmpR op_isN (pv 0) pe_non (nomark _)) (pw_or1 (pt_cmpR op_isN (pv 1) pe_non (nomark _))))) (pss_one (ps_ret (pe_and (pe_cmpR op_isN (pv 0) pe_non (nomark _)) (pe_one (pe_cmpR op_isN (pv 1) pe_non (nomark _)))))) pss_nil)
      (pss_cons (ps_if (PW.pt (pw_or (pt_val (pe_callB call_isi (by rfl) Y.n_isinstance (by decide +kernel) (pa_cons (pv 0) (pa_cons (pe_bltn (v := .ty "bool") (by rfl) Y.n_bool (by decide +kernel) rfl) pa_nil)))) (pw_or1 (pt_val (pe_callB call_isi (by rfl) Y.n_isinstance (by decide +kernel) (pa_cons (pv 1) (pa_cons (pe_bltn (v := .ty "bool") (by rfl) Y.n_bool (by decide +kernel) rfl) pa_nil))))))) (pss_one (ps_ret (pe_and (pe_callB call_isi (by rfl) Y.n_isinstance (by decide +kernel) (pa_cons (pv 0) (pa_cons (pe_bltn (v := .ty "bool") (by rfl) Y.n_bool (by decide +kernel) rfl) pa_nil))) (pe_and (pe_callB call_isi (by rfl) Y.n_isinstance (by decide +kernel) (pa_cons (pv 1) (pa_cons (pe_bltn (v := .ty "bool") (by rfl) Y.n_bool (by decide +kernel) rfl) pa_nil))) (pe_one (pe_cmpR op_eq (pv 0) (pv 1) (nomark _))))))) pss_nil)
      (pss_cons (ps_if (pt_val (pe_callB call_isi (by rfl) Y.n_isinstance (by decide +kernel) (pa_cons (pv 0) (pa_cons (pe_bltn (v := .ty "int") (by rfl) Y.n_int (by decide +kernel) rfl) pa_nil)))) (pss_one (ps_ret (pe_and (pe_callB call_isi (by rfl) Y.n_isinstance (by decide +kernel) (pa_cons (pv 1) (pa_cons (pe_bltn (v := .ty "int") (by rfl) Y.n_int (by decide +kernel) rfl) pa_nil))) (pe_one (pe_cmpR op_eq (pv 0) (pv 1) (nomark _)))))) pss_nil)
      (pss_one (ps_ret (pe_and (pe_callB call_isi (by rfl) Y.n_isinstance (by decide +kernel) (pa_cons (pv 0) (pa_cons (pe_bltn (v := .ty "str") (by rfl) Y.n_str (by decide +kernel) rfl) pa_nil))) (pe_and (pe_callB call_isi (by rfl) Y.n_isinstance (by decide +kernel) (pa_cons (pv 1) (pa_cons (pe_bltn (v := .ty "str") (by rfl) Y.n_str (by decide +kernel) rfl) pa_nil))) (pe_one (pe_cmpR op_eq (pv 0) (pv 1) (nomark _))))))))))), ?_⟩
    rw [show L2.start N_law_same [x, y] = [some x, some y, none] from rfl]
    cases hx with
    | @s a =>
      cases hy with
      | @s c =>
        walk_at "rdy"
        refine kQ _ H ⟨fun h => ?_, fun h => ?_⟩ fun _ _ h => h
        · rw [T_inj (of_decide_eq_true h)]
        · cases h; exact decide_eq_true rfl
      | i => walk_at "rdy"; exact no0 (fun e => nomatch e)
      | b => walk_at "rdy"; exact no0 (fun e => nomatch e)
      | n => walk_at "rdy"; exact no0 (fun e => nomatch e)
      | t hp _ => walk_at "rdy"; exact no0 (fun e => nomatch e)
    | @i a =>
      cases hy with
      | s => walk_at "rdy"; exact no0 (fun e => nomatch e)
      | @i c =>
        walk_at "rdy"
        refine kQ _ H ⟨fun h => ?_, fun h => ?_⟩ fun _ _ h => h
        · rw [V.int.inj (of_decide_eq_true h)]
        · cases h; exact decide_eq_true rfl
      | b => walk_at "rdy"; exact no0 (fun e => nomatch e)
      | n => walk_at "rdy"; exact no0 (fun e => nomatch e)
      | t hp _ => walk_at "rdy"; exact no0 (fun e => nomatch e)
    | @b a =>
      cases hy with
      | s => walk_at "rdy"; exact no0 (fun e => nomatch e)
      | i => walk_at "rdy"; exact no0 (fun e => nomatch e)
      | @b c =>
        walk_at "rdy"
        refine kQ _ H ⟨fun h => ?_, fun h => ?_⟩ fun _ _ h => h
        · rw [V.bl.inj (of_decide_eq_true h)]
        · cases h; exact decide_eq_true rfl
      | n => walk_at "rdy"; exact no0 (fun e => nomatch e)
      | t hp _ => walk_at "rdy"; exact no0 (fun e => nomatch e)
    | n =>
      cases hy with
      | s => walk_at "rdy"; exact no0 (fun e => nomatch e)
      | i => walk_at "rdy"; exact no0 (fun e => nomatch e)
      | b => walk_at "rdy"; exact no0 (fun e => nomatch e)
      | n =>
        walk_at "rdy"
        refine kQ _ H ⟨fun h => rfl, fun h => ?_⟩ fun _ _ h => h
        exact decide_eq_true rfl
      | t hp _ => walk_at "rdy"; exact no0 (fun e => nomatch e)
    | @t p vs l hp hl =>
      cases hy with
      | s => walk_at "rdy"; exact no0 (fun e => nomatch e)
      | i => walk_at "rdy"; exact no0 (fun e => nomatch e)
      | b => walk_at "rdy"; exact no0 (fun e => nomatch e)
      | n => walk_at "rdy"; exact no0 (fun e => nomatch e)
      | @t p2 vs2 m hp2 hl2 =>
        obtain ⟨hlen, hall⟩ := hd
        have e1 := hl.length
        have e2 := hl2.length
        walk_at "rdy"
        rw [e1, e2]
        refine w_ifIn (fun h => ?_) (fun h => ?_)
        · walk_at "rdy"
          exact no0 (fun e => h (by cases e; rfl))
        · have hlm : l.length = m.length := by omega
          walk_at "rdy"
          refine lc_R (j := (vs.length : Int)) (fun D i acc H' => (acc = [] ↔ ∀ j, j < i → l[j]? = m[j]?) ∧ Same H H' ∧ H D = none) (by omega) (by omega) (fun D H1 hD s1 h1 => ⟨⟨fun _ j hj => absurd hj (Nat.not_lt_zero _), fun _ => rfl⟩, s1, hD⟩) ?_ ?_
          · rintro D i acc H1 hi hal hD1 ⟨hac, s1, hDn⟩
            obtain ⟨v, t, g1, g2, g3⟩ := hl.get (i := i) (by omega)
            obtain ⟨v2, t2, k1, k2, k3⟩ := hl2.get (i := i) (by omega)
            walk_at "rdy"
            refine ⟨rfl, ?_⟩
            walk_at "rdy"
            have i0 : (0 : Int) + (i : Int) = (i : Int) := Int.zero_add _
            rw [i0]
            refine w_ixT (Same.sqT s1 hp) (atI_nat g1) ?_
            walk_at "rdy"
            refine w_ixT (Same.sqT s1 hp2) (atI_nat k1) ?_
            walk_at "rdy"
            refine ⟨v, v2, t, t2, rfl, g3.same s1, k3.same s1, hall t2 (List.mem_of_getElem? k2), fun b H2 hb s2 => ?_⟩
            walk_at "rdy"
            cases b with
            | true =>
              walk_at "rdy"
              have et := hb.mp rfl
              refine lc_skip hal (s2 _ _ hD1) ⟨hac.trans ⟨fun g j hj => ?_, fun g j hj => g j (by omega)⟩, s1.trans s2, hDn⟩
              by_cases c : j < i
              · exact g j c
              · have : j = i := by omega
                subst this
                rw [g2, k2, et]
            | false =>
              walk_at "rdy"
              have et : t ≠ t2 := fun e => nomatch hb.mpr e
              refine lc_keep hal (by omega) (s2 _ _ hD1) fun H5 h5 k5 => ⟨⟨fun h => by simp at h, fun g => ?_⟩, same_of_but hDn (s1.trans s2) k5, hDn⟩
              have := g i (Nat.lt_succ_self _)
              rw [g2, k2] at this
              exact absurd (Option.some.inj this) et
          · rintro D acc H1 _ hD1 ⟨hac, s1, _⟩
            walk_at "rdy"
            refine kQ _ H1 ⟨fun h => ?_, fun h => ?_⟩ s1
            · have hz : acc = [] := by
                have := V.int.inj (of_decide_eq_true h)
                cases acc with
                | nil => rfl
                | cons a l => simp at this; omega
              have g := hac.mp hz
              rw [Int.toNat_natCast] at g
              rw [trs_ext hlm fun i hi => g i (by omega)]
            · cases h
              have hz : acc = [] := hac.mpr fun j _ => rfl
              subst hz
              exact decide_eq_true rfl
end
end
section
open PySem PySem.Spec PyProof.Rows L2
open C8 (Cal cal0 pe_c pe_gc pss_cut tCut)

end
local macro_rules | `(tactic| walk_at "r1o") => `(tactic| first
  | refine Wk0.go ?_
  | with_reducible refine w_var (by with_unfolding_all exact rfl) ?_
  | with_reducible refine w_var (by with_unfolding_all exact rfl) ?_
  | with_reducible refine w_eq (by with_unfolding_all exact rfl) ?_
  | with_reducible refine w_ne (by with_unfolding_all exact rfl) ?_
  | with_reducible refine L2.iteF ?_
  | with_reducible refine L2.iteT ?_)
local macro_rules | `(tactic| walk_at "rdo") => `(tactic| repeat walk_at "r1o")
section
open PySem PySem.Spec PyProof.Rows L2
open C8 (Cal cal0 pe_c pe_gc pss_cut tCut)

def StL (L : Addr) (i c k : Int) (b : Bool) (r f : Int) : List V := [.ref L, .int i, .int c, .int k, .bl b, .int r, .int f]
def StR (H : Hp) (S L : Addr) (r f : Int) : Prop := ∃ (ns : List Int) (i c k : Int) (b : Bool), L ≠ S ∧ H L = some (.lst (ns.map V.int)) ∧ 0 ≤ i ∧ H S = some (.lst (StL L i c k b r f))
theorem StR.mono {H H' : Hp} {S L : Addr} {r z : Int} (h : StR H S L r z) (f : Same H H') : StR H' S L r z := by
  obtain ⟨ns, i, c, k, b, h1, h2, h3, h4⟩ := h
  exact ⟨ns, i, c, k, b, h1, f _ _ h2, h3, f _ _ h4⟩

theorem w_stset {H : Hp} {S : Addr} {xs : List V} {j : Int} {n : Nat} {v : V} {G : Hp → Prop} (hS : H S = some (.lst xs)) (e : ixN xs.length j = some n)
    (k : ∀ H2, H2 S = some (.lst (xs.set n v)) → Fr S H H2 → G H2) : rSetL (.ref S) (.int j) v H G := w_setL hS e (k _ upd_same Fr.own)
theorem at_ints {ns : List Int} {i : Int} (h0 : 0 ≤ i) (h1 : ¬ (ns.map V.int).length ≤ i) : ∃ z, atI (ns.map V.int) i = some (V.int z) := by
  have h2 : i.toNat < ns.length := by rw [List.length_map] at h1; omega
  obtain ⟨j, rfl⟩ : ∃ j : Nat, i = (j : Int) := ⟨i.toNat, by omega⟩
  rw [Int.toNat_natCast] at h2
  refine ⟨ns[j], atI_nat ?_⟩
  rw [List.getElem?_map, List.getElem?_eq_getElem h2]
  rfl

section
variable {P : Program} {w : World} {K : PySem.W.Frag} {mg : Str → Option Value} {base : Heap}

abbrev s_law_state : Stmt := topS 55
abbrev N_law_state : List Str := ["script", "spare"]
theorem sc_law_state : FnScope N_law_state ["script", "spare"] (defScope s_law_state) := ⟨rfl, rfl, rfl, by decide +kernel, rfl, by decide +kernel, by decide +kernel⟩
def spState (K : PySem.W.Frag) : Sp := fun vs H Q _ => ∃ (a : Addr) (ns : List Int) (z : Int), vs = [.ref a, .int z] ∧ SqL K H a (ns.map V.int) ∧ ∀ S L H', StR H' S L 500 z → Same H H' → H S = none → H L = none → Q (.ref S) H'
theorem ok_law_state {f : Addr} {fd : FuncData} (F : Fun K "_law_state" "_law_state" s_law_state f fd) (Y : Bn mg) : FnOk P w K mg base CX0 1 f fd ["script", "spare"] (spState K) := by
  refine F.ok sc_law_state (fun vs H Q E h => ?_) (fun cdv A outer s H vs Q E hr h => ?_)
  · obtain ⟨a, ns, z, rfl, _⟩ := h
    rfl
  · obtain ⟨a, ns, z, rfl, hS, kQ⟩ := h
    have nd := sc_law_state.nd
    refine ⟨_, (pss_one (ps_ret (pe_lst (pa_cons (pe_callTy call_listOf (by rfl) Y.n_list (by decide +kernel) (pa_cons (pv 0) pa_nil)) (pa_cons pe_int (pa_cons pe_int (pa_cons pe_int (pa_cons pe_bl (pa_cons pe_int (pa_cons (pv 1) pa_nil)))))))))), ?_⟩
    rw [show L2.start N_law_state [.ref a, .int z] = [some (.ref a), some (.int z)] from rfl]
    walk_at "rdo"
    refine w_listOf hS fun l hl => ?_
    walk_at "rdo"
    refine ⟨by show 7 ≤ sizeLine; decide, fun p hp => ?_⟩
    have nlp : l ≠ p := fun e => by rw [← e, upd_same] at hp; cases hp
    refine kQ p l _ ⟨ns, 0, 0, 0, false, nlp, ?_, by decide, upd_same⟩ ((same_new hl).trans (same_new hp)) ((same_new hl).free hp) hl
    rw [upd_ne nlp, upd_same]

abbrev s_law_draw : Stmt := topS 56
abbrev N_law_draw : List Str := ["state", "limit", "cell", "digit", "mixed"]
theorem sc_law_draw : FnScope N_law_draw ["state", "limit"] (defScope s_law_draw) := ⟨rfl, rfl, rfl, by decide +kernel, rfl, by decide +kernel, by decide +kernel⟩
def spDraw : Sp := fun vs H Q _ => ∃ (S L : Addr) (r z m : Int), vs = [.ref S, .int m] ∧ StR H S L r z ∧ 0 < m ∧ m < 1073741824 ∧ ∀ x H', 0 ≤ x → x < m → StR H' S L r z → Fr S H H' → Q (.int x) H'
theorem ok_law_draw {f : Addr} {fd : FuncData} (F : Fun K "_law_draw" "_law_draw" s_law_draw f fd) (Y : Bn mg) : FnOk P w K mg base CX0 1 f fd ["state", "limit"] spDraw := by
  refine F.ok sc_law_draw (fun vs H Q E h => ?_) (fun cdv A outer s H vs Q E hr h => ?_)
  · obtain ⟨S, L, r, z, m, rfl, _⟩ := h
    rfl
  · obtain ⟨S, L, r, z, m, rfl, ⟨ns, i, c, k, b, hLS, hL, hi, hS⟩, hm, hm2, kQ⟩ := h
    have nd := sc_law_draw.nd
    refine ⟨_, (pss_cut (ps_if (pt_cmpR op_eq (pe_ix ix_list (pv 0) pe_int (fun _ _ => rfl)) pe_int (nomark _)) (pss_cons (ps_if (pt_cmpR op_ge (pe_ix ix_list (pv 0) pe_int (fun _ _ => rfl)) (pe_callB call_lenL (by rfl) Y.n_len (by decide +kernel) (pa_cons (pe_ix ix_list (pv 0) pe_int (fun _ _ => rfl)) pa_nil)) (nomark _)) (pss_one (ps_ret pe_int)) pss_nil)
      (pss_cons (ps_set (i := 2) nd rfl (Or.inl rfl) (pe_ix ix_list (pe_ix ix_list (pv 0) pe_int (fun _ _ => rfl)) (pe_ix ix_list (pv 0) pe_int (fun _ _ => rfl)) (fun _ _ => rfl)))
      (pss_cut (ps_if (pt_cmpR op_lt (pv 2) pe_int (nomark _)) (pss_one (ps_set (i := 2) nd rfl (Or.inl rfl) (pe_op op_sub (pe_un un_neg pe_int) (pv 2)))) pss_nil)
      (pss_cons (ps_asg (pe_op op_add (pe_ix ix_list (pv 0) pe_int (fun _ _ => rfl)) pe_int) (pg_sub (pv 0) pe_int set_list))
      (pss_cons (ps_asg (pv 2) (pg_sub (pv 0) pe_int set_list))
      (pss_cons (ps_asg (pe_cmpR op_ge (pv 2) (pe_op op_pow pe_int pe_int) (nomark _)) (pg_sub (pv 0) pe_int set_list))
      (pss_cons (ps_asg pe_int (pg_sub (pv 0) pe_int set_list))
      (pss_one (ps_if (pt_val (pe_ix ix_list (pv 0) pe_int (fun _ _ => rfl))) (pss_one (ps_asg pe_int (pg_sub (pv 0) pe_int set_list))) pss_nil))))))))) pss_nil)
      (pss_cons (ps_asg (pe_op op_sub (pe_ix ix_list (pv 0) pe_int (fun _ _ => rfl)) pe_int) (pg_sub (pv 0) pe_int set_list))
      (pss_cons (ps_if (pt_val (pe_ix ix_list (pv 0) pe_int (fun _ _ => rfl))) (pss_cons (ps_set (i := 3) nd rfl (Or.inl rfl) (pe_op op_modN (pe_callTy call_intI (by rfl) Y.n_int (by decide +kernel) (pa_cons (pe_ix ix_list (pv 0) pe_int (fun _ _ => rfl)) pa_nil)) (pv 1)))
      (pss_cons (ps_asg (pe_op op_fdivN (pe_ix ix_list (pv 0) pe_int (fun _ _ => rfl)) (pv 1)) (pg_sub (pv 0) pe_int set_list))
      (pss_cons (ps_if (pt_cmpR op_eq (pe_ix ix_list (pv 0) pe_int (fun _ _ => rfl)) pe_int (nomark _)) (pss_one (ps_asg pe_int (pg_sub (pv 0) pe_int set_list))) pss_nil)
      (pss_one (ps_ret (pv 3)))))) pss_nil)
      (pss_cons (ps_set (i := 4) nd rfl (Or.inl rfl) (pe_op op_modN (pe_callTy call_intI (by rfl) Y.n_int (by decide +kernel) (pa_cons (pe_op op_add (pe_op op_add (pe_op op_mul (pe_ix ix_list (pv 0) pe_int (fun _ _ => rfl)) pe_int) (pe_op op_mul (pe_ix ix_list (pv 0) pe_int (fun _ _ => rfl)) pe_int)) pe_int) pa_nil)) pe_int))
      (pss_cons (ps_set (i := 4) nd rfl (Or.inl rfl) (pe_op op_modN (pe_callTy call_intI (by rfl) Y.n_int (by decide +kernel) (pa_cons (pe_op op_add (pe_op op_add (pe_op op_mul (pv 4) (pv 4)) (pe_op op_mul (pe_ix ix_list (pv 0) pe_int (fun _ _ => rfl)) pe_int)) (pe_ix ix_list (pv 0) pe_int (fun _ _ => rfl))) pa_nil)) pe_int))
      (pss_one (ps_ret (pe_op op_modN (pe_callTy call_intI (by rfl) Y.n_int (by decide +kernel) (pa_cons (pv 4) pa_nil)) (pv 1))))))))), ?_⟩
    rw [show L2.start N_law_draw [.ref S, .int m] = [some (.ref S), some (.int m), none, none, none] from rfl]
    refine ⟨fun σ' H' => ∃ x, σ' = [some (.ref S), some (.int m), x, none, none] ∧ (∃ (i c k : Int) (b : Bool), 0 ≤ i ∧ H' L = some (.lst (ns.map V.int)) ∧ H' S = some (.lst (StL L i c k b r z))) ∧ Fr S H H', ?_, ?_⟩
    · walk_at "rdo"
      refine w_ixL (SqL.of hS) rfl ?_
      walk_at "rdo"
      refine w_ifI (fun hk => ?_) (fun hk => ?_)
      · walk_at "rdo"
        refine w_ixL (SqL.of hS) rfl ?_
        walk_at "rdo"
        refine w_ixL (SqL.of hS) rfl ?_
        walk_at "rdo"
        refine w_lenL (SqL.of hL) ?_
        walk_at "rdo"
        refine w_if (fun hl => ?_) (fun hl => ?_)
        · walk_at "rdo"
          exact kQ 0 H (by decide) hm ⟨ns, i, c, k, b, hLS, hL, hi, hS⟩ (Fr.refl S H)
        · walk_at "rdo"
          refine w_ixL (SqL.of hS) rfl ?_
          walk_at "rdo"
          refine w_ixL (SqL.of hS) rfl ?_
          obtain ⟨y, hy⟩ := at_ints hi hl
          refine w_ixL (SqL.of hL) hy ?_
          walk_at "rdo"
          refine ⟨fun σ' H' => H' = H ∧ ∃ y, σ' = [some (.ref S), some (.int m), some (.int y), none, none], ?_, ?_⟩
          · walk_at "rdo"
            refine w_if (fun _ => ?_) (fun _ => ?_)
            · walk_at "rdo"
              refine ⟨_, rfl, ?_⟩
              walk_at "rdo"
              exact ⟨rfl, _, rfl⟩
            · exact ⟨rfl, _, rfl⟩
          · rintro σ' H' ⟨rfl, y, rfl⟩
            walk_at "rdo"
            refine w_ixL (SqL.of hS) rfl ?_
            walk_at "rdo"
            refine w_stset hS rfl fun H1 hS1 f1 => ?_
            walk_at "rdo"
            refine w_stset hS1 rfl fun H2 hS2 f2 => ?_
            walk_at "rdo"
            refine w_i ⟨by decide, by decide, by decide⟩ ?_
            walk_at "rdo"
            refine w_stset hS2 rfl fun H3 hS3 f3 => ?_
            walk_at "rdo"
            refine w_stset hS3 rfl fun H4 hS4 f4 => ?_
            walk_at "rdo"
            refine w_ixL (SqL.of hS4) rfl ?_
            have f := ((f1.trans f2).trans f3).trans f4
            walk_at "rdo"
            refine w_if (fun _ => ?_) (fun _ => ?_)
            · walk_at "rdo"
              refine w_stset hS4 rfl fun H5 hS5 f5 => ?_
              exact ⟨_, rfl, ⟨_, _, _, _, Int.add_nonneg hi (by decide), (f.trans f5) _ _ hLS hL, hS5⟩, f.trans f5⟩
            · exact ⟨_, rfl, ⟨_, _, _, _, Int.add_nonneg hi (by decide), f _ _ hLS hL, hS4⟩, f⟩
      · exact ⟨_, rfl, ⟨i, c, k, b, hi, hL, hS⟩, Fr.refl S H⟩
    · rintro σ' H0 ⟨x, rfl, ⟨i, c, k, b, hi, hL, hS⟩, fr⟩
      walk_at "rdo"
      refine w_ixL (SqL.of hS) rfl ?_
      walk_at "rdo"
      refine w_stset hS rfl fun H1 hS1 f1 => ?_
      walk_at "rdo"
      refine w_ixL (SqL.of hS1) rfl ?_
      walk_at "rdo"
      refine w_ifb (fun _ => ?_) (fun _ => ?_)
      · walk_at "rdo"
        refine w_ixL (SqL.of hS1) rfl ?_
        walk_at "rdo"
        refine w_i (by omega) ?_
        walk_at "rdo"
        refine w_ixL (SqL.of hS1) rfl ?_
        walk_at "rdo"
        refine w_i ⟨by omega, by omega⟩ ?_
        walk_at "rdo"
        refine w_stset hS1 rfl fun H2 hS2 f2 => ?_
        walk_at "rdo"
        refine w_ixL (SqL.of hS2) rfl ?_
        walk_at "rdo"
        have b0 := Int.fmod_nonneg_of_pos c hm
        have b1 := Int.fmod_lt_of_pos c hm
        refine w_ifI (fun _ => ?_) (fun _ => ?_)
        · walk_at "rdo"
          refine w_stset hS2 rfl fun H3 hS3 f3 => ?_
          walk_at "rdo"
          have f := ((fr.trans f1).trans f2).trans f3
          exact kQ _ H3 b0 b1 ⟨ns, _, _, _, _, hLS, ((f1.trans f2).trans f3) _ _ hLS hL, hi, hS3⟩ f
        · walk_at "rdo"
          exact kQ _ H2 b0 b1 ⟨ns, _, _, _, _, hLS, (f1.trans f2) _ _ hLS hL, hi, hS2⟩ ((fr.trans f1).trans f2)
      · walk_at "rdo"
        refine w_ixL (SqL.of hS1) rfl ?_
        walk_at "rdo"
        refine w_mulR (by decide) ?_
        walk_at "rdo"
        refine w_ixL (SqL.of hS1) rfl ?_
        walk_at "rdo"
        refine w_mulR (by decide) ?_
        walk_at "rdo"
        refine w_i (by decide) ?_
        walk_at "rdo"
        refine w_mulR ?_ ?_
        · have b0 := Int.fmod_nonneg_of_pos (c * 48271 + (k - 1) * 69621 + 7) (show (0 : Int) < 2147483647 by decide)
          have b1 := Int.fmod_lt_of_pos (c * 48271 + (k - 1) * 69621 + 7) (show (0 : Int) < 2147483647 by decide)
          omega
        walk_at "rdo"
        refine w_ixL (SqL.of hS1) rfl ?_
        walk_at "rdo"
        refine w_mulR (by decide) ?_
        walk_at "rdo"
        refine w_ixL (SqL.of hS1) rfl ?_
        walk_at "rdo"
        refine w_i (by decide) ?_
        walk_at "rdo"
        refine w_i (by omega) ?_
        exact kQ _ H1 (Int.fmod_nonneg_of_pos _ hm) (Int.fmod_lt_of_pos _ hm) ⟨ns, _, _, _, _, hLS, f1 _ _ hLS hL, hi, hS1⟩ (fr.trans f1)
end
end
section
open PySem PySem.Spec PyProof.Rows L2
open C8 (Cal cal0 pe_c pe_gc pss_cut tCut)

section
variable {P : Program} {w : World} {K : PySem.W.Frag} {mg : Str → Option Value} {base : Heap}

abbrev s_law_words : Stmt := topS 57
abbrev N_law_words : List Str := ["words"]
theorem sc_law_words : FnScope N_law_words [] (defScope s_law_words) := ⟨rfl, rfl, rfl, by decide +kernel, rfl, by decide +kernel, by decide +kernel⟩
def spWords : Sp := fun vs H Q _ => vs = [] ∧ ∀ p H', Same H H' → H p = none → H' p = some (.lst (WL.map T)) → Q (.ref p) H'
theorem ok_law_words {f : Addr} {fd : FuncData} (F : Fun K "_law_words" "_law_words" s_law_words f fd) : FnOk P w K mg base CX0 1 f fd [] spWords := by
  refine F.ok sc_law_words (fun vs H Q E h => ?_) (fun cdv A outer s H vs Q E hr h => ?_)
  · obtain ⟨rfl, _⟩ := h
    rfl
  · obtain ⟨rfl, kQ⟩ := h
    have nd := sc_law_words.nd
    refine ⟨_, (pss_cons (ps_set (i := 0) nd rfl (Or.inl rfl) (pe_lst (pa_cons pe_str (pa_cons pe_str (pa_cons pe_str (pa_cons pe_str (pa_cons pe_str (pa_cons pe_str (pa_cons pe_str (pa_cons pe_str (pa_cons pe_str (pa_cons pe_str (pa_cons pe_str (pa_cons pe_str (pa_cons pe_str pa_nil)))))))))))))))
      (pss_one (ps_ret (pe_op op_cat (pv 0) (pe_lst (pa_cons pe_str (pa_cons pe_str (pa_cons pe_str (pa_cons pe_str (pa_cons pe_str (pa_cons pe_str (pa_cons pe_str (pa_cons pe_str (pa_cons pe_str (pa_cons pe_str pa_nil))))))))))))))), ?_⟩
    rw [show L2.start N_law_words [] = [none] from rfl]
    walk_at "rdo"
    refine w_newL (by show 13 ≤ 1000000; decide) fun p H1 _ s1 hp => ?_
    walk_at "rdo"
    refine w_newL (by show 10 ≤ 1000000; decide) fun q H2 _ s2 hq => ?_
    refine w_cat2 (s2 _ _ hp) hq (by show 13 + 10 ≤ 1000000; decide) fun a H3 ha s3 h3 => ?_
    exact kQ a _ ((s1.trans s2).trans s3) ((s1.trans s2).free ha) h3

abbrev s_law_run : Stmt := topS 58
abbrev N_law_run : List Str := ["state", "first", "other", "number", "run", "tail"]
theorem sc_law_run : FnScope N_law_run ["state", "first"] (defScope s_law_run) := ⟨rfl, rfl, rfl, by decide +kernel, rfl, by decide +kernel, by decide +kernel⟩
def spRun : Sp := fun vs H Q _ => ∃ (S L : Addr) (fs : List Nat) (r z : Int), vs = [.ref S, T fs] ∧ StR H S L r z ∧ fs.length = 26 ∧ ∀ a H', RunOf fs a → StR H' S L (r - a.length) z → Fr S H H' → Q (T a) H'
theorem use_draw {S L : Addr} {r z m : Int} {H : Hp} {Q : VK} {E : XK} (h : StR H S L r z) (h0 : 0 < m) (h1 : m < 1073741824) (k : ∀ x H', 0 ≤ x → x < m → StR H' S L r z → Fr S H H' → Q (.int x) H') : spDraw ([.ref S, .int m] ++ []) H Q E :=
  ⟨S, L, r, z, m, rfl, h, h0, h1, k⟩
theorem StR.obj {H : Hp} {S L : Addr} {r z : Int} (h : StR H S L r z) : ∃ (i c k : Int) (b : Bool), H S = some (.lst (StL L i c k b r z)) := by
  obtain ⟨_, i, c, k, b, _, _, _, h⟩ := h
  exact ⟨i, c, k, b, h⟩
theorem StR.put5 {H H' : Hp} {S L : Addr} {i c k : Int} {b : Bool} {r z y : Int} (h : StR H S L r z) (hS : H S = some (.lst (StL L i c k b r z))) (h2 : H' S = some (.lst ((StL L i c k b r z).set 5 (.int y)))) (f : Fr S H H') : StR H' S L y z := by
  obtain ⟨ns, i', c', k', b', h1, h3, h4, h5⟩ := h
  rw [hS] at h5
  injection h5 with h5
  injection h5 with h5
  injection h5 with _ h5
  injection h5 with e1 h5
  injection e1 with e1
  subst e1
  exact ⟨ns, i, c, k, b, h1, f _ _ h1 h3, h4, h2⟩
theorem ok_law_run {f : Addr} {fd : FuncData} (F : Fun K "_law_run" "_law_run" s_law_run f fd) (Y : Bn mg) (c_law_draw : Cal P w K mg base 1 "_law_draw" spDraw []) : FnOk P w K mg base CX0 2 f fd ["state", "first"] spRun := by
  refine F.ok sc_law_run (fun vs H Q E h => ?_) (fun cdv A outer s H vs Q E hr h => ?_)
  · obtain ⟨S, L, fs, r, z, rfl, _⟩ := h
    rfl
  · obtain ⟨S, L, fs, r, z, rfl, hSt, hfs, kQ⟩ := h
    have nd := sc_law_run.nd
    refine ⟨_, (pss_cons (ps_set (i := 2) nd rfl (Or.inl rfl) pe_str)
      (pss_cons (ps_set (i := 3) nd rfl (Or.inl rfl) (pe_c c_law_draw hr (by omega) rfl (pa_cons (pv 0) (pa_cons pe_int pa_nil))))
      (pss_cons (ps_set (i := 4) nd rfl (Or.inl rfl) (pe_ix ix_str (pv 1) (pe_op op_modN (pe_callTy call_intI (by rfl) Y.n_int (by decide +kernel) (pa_cons (pe_op op_fdivN (pv 3) pe_int) pa_nil)) pe_int) (fun _ _ => rfl)))
      (pss_cons (ps_set (i := 5) nd rfl (Or.inl rfl) (pe_op op_addS (pe_op op_addS (pe_ix ix_str (pv 2) (pe_op op_modN (pe_callTy call_intI (by rfl) Y.n_int (by decide +kernel) (pa_cons (pe_op op_fdivN (pv 3) pe_int) pa_nil)) pe_int) (fun _ _ => rfl)) (pe_ix ix_str (pv 2) (pe_op op_modN (pe_callTy call_intI (by rfl) Y.n_int (by decide +kernel) (pa_cons (pe_op op_fdivN (pv 3) pe_int) pa_nil)) pe_int) (fun _ _ => rfl))) (pe_ix ix_str (pv 2) (pe_op op_modN (pe_callTy call_intI (by rfl) Y.n_int (by decide +kernel) (pa_cons (pv 3) pa_nil)) pe_int) (fun _ _ => rfl))))
      (pss_cut (ps_if (pt_cmpR op_eq (pe_c c_law_draw hr (by omega) rfl (pa_cons (pv 0) (pa_cons pe_int pa_nil))) pe_int (nomark _)) (pss_one (ps_set (i := 4) nd rfl (Or.inl rfl) (pe_slice sl_str (pe_op op_addS (pv 4) (pe_op op_mulS (pv 5) pe_int)) po_none (po_some (pe_op op_add pe_int (pe_c c_law_draw hr (by omega) rfl (pa_cons (pv 0) (pa_cons pe_int pa_nil)))))))) (pss_one (ps_set (i := 4) nd rfl (Or.inl rfl) (pe_op op_addS (pv 4) (pe_slice sl_str (pv 5) po_none (po_some (pe_op op_modN (pe_callTy call_intI (by rfl) Y.n_int (by decide +kernel) (pa_cons (pv 3) pa_nil)) pe_int)))))))
      (pss_cons (ps_asg (pe_op op_sub (pe_ix ix_list (pv 0) pe_int (fun _ _ => rfl)) (pe_callB call_lenS (by rfl) Y.n_len (by decide +kernel) (pa_cons (pv 4) pa_nil))) (pg_sub (pv 0) pe_int set_list))
      (pss_one (ps_ret (pv 4))))))))), ?_⟩
    rw [show L2.start N_law_run [.ref S, T fs] = [some (.ref S), some (T fs), none, none, none, none] from rfl]
    walk_at "rdo"
    refine use_draw hSt (by decide) (by decide) fun n H1 n0 n1 hSt1 f1 => ?_
    walk_at "rdo"
    refine w_i ⟨by decide, by decide⟩ ?_
    walk_at "rdo"
    refine w_i (by decide) ?_
    obtain ⟨c, hc, ec⟩ := at_mod hfs (by decide) (n.fdiv 4)
    refine w_ixS (by omega) ec ?_
    walk_at "rdo"
    refine w_i ⟨by decide, by decide⟩ ?_
    walk_at "rdo"
    refine w_i (by decide) ?_
    obtain ⟨d1, hd1, e1⟩ := at_mod len_aJ (by decide) (n.fdiv 104)
    refine w_ixS (by decide +kernel) e1 ?_
    walk_at "rdo"
    refine w_i ⟨by decide, by decide⟩ ?_
    walk_at "rdo"
    refine w_i (by decide) ?_
    obtain ⟨d2, hd2, e2⟩ := at_mod len_aJ (by decide) (n.fdiv 6448)
    refine w_ixS (by decide +kernel) e2 ?_
    refine w_addS (by show 1 + 1 ≤ 1000000; decide) ?_
    walk_at "rdo"
    refine w_i (by decide) ?_
    obtain ⟨d3, hd3, e3⟩ := at_lt (l := aJ) (Int.fmod_nonneg_of_pos n (show (0 : Int) < 61 by decide)) (Int.lt_trans (Int.fmod_lt_of_pos n (show (0 : Int) < 61 by decide)) (by decide +kernel))
    refine w_ixS (by decide +kernel) e3 ?_
    refine w_addS (by show 2 + 1 ≤ 1000000; decide) ?_
    have hm : ∀ d, d ∈ ([d1] ++ [d2] ++ [d3] : List Nat) → d ∈ aJ := by
      intro d hd
      rcases List.mem_append.mp hd with hd | hd
      · rcases List.mem_append.mp hd with hd | hd
        · rw [List.mem_singleton.mp hd]; exact hd1
        · rw [List.mem_singleton.mp hd]; exact hd2
      · rw [List.mem_singleton.mp hd]; exact hd3
    walk_at "rdo"
    generalize hT : ([d1] ++ [d2] ++ [d3] : List Nat) = tl at hm ⊢
    have hl : tl.length = 3 := by rw [← hT]; rfl
    refine ⟨fun σ' H' => ∃ a, σ' = [some (.ref S), some (T fs), some (T aJ), some (.int n), some (T a), some (T tl)] ∧ RunOf fs a ∧ StR H' S L r z ∧ Fr S H H', ?_, ?_⟩
    · walk_at "rdo"
      refine use_draw hSt1 (by decide) (by decide) fun b H2 b0 b1 hSt2 f2 => ?_
      walk_at "rdo"
      refine w_ifI (fun _ => ?_) (fun _ => ?_)
      · walk_at "rdo"
        refine w_mulS (by decide) (by decide) (by rw [hl]; decide) ?_
        refine w_addS (by rw [len_rep, hl]; show 1 + 21 ≤ 1000000; decide) ?_
        walk_at "rdo"
        refine use_draw hSt2 (by decide) (by decide) fun e H3 e0 e1 hSt3 f3 => ?_
        walk_at "rdo"
        refine w_slS (by rw [List.length_append, len_rep, hl]; show 1 + 21 ≤ 1000000; decide) ?_
        refine ⟨_, rfl, ⟨c, ((List.replicate (Int.toNat 7) tl).flatten).take (4 + e.toNat), ?_, hc, fun d hd => hm d (mem_rep (List.mem_of_mem_take hd)), ?_⟩, hSt3, (f1.trans f2).trans f3⟩
        · have e2 : (5 + e : Int) = ((5 + e.toNat : Nat) : Int) := by omega
          rw [e2, cut_to]
          show List.take (5 + e.toNat) (c :: _) = _
          rw [show 5 + e.toNat = (4 + e.toNat) + 1 by omega, List.take_succ_cons]
          rfl
        · rw [List.length_take]
          omega
      · walk_at "rdo"
        refine w_i (by decide) ?_
        walk_at "rdo"
        refine w_slS (by omega) ?_
        refine w_addS ?_ ?_
        · have := cut_len tl none (some (n.fmod 4))
          rw [hl] at this
          show 1 + _ ≤ 1000000
          omega
        · refine ⟨_, rfl, ⟨c, cut tl none (some (n.fmod 4)), rfl, hc, fun d hd => hm d (cut_mem hd), ?_⟩, hSt2, f1.trans f2⟩
          have := cut_len tl none (some (n.fmod 4))
          omega
    · rintro σ' H2 ⟨a, rfl, ha, hSt2, f2⟩
      have hal : a.length ≤ 20 := by
        obtain ⟨c, _, rfl, _, _, h⟩ := ha
        rw [List.length_cons]
        omega
      obtain ⟨i, c', k, b, hS⟩ := hSt2.obj
      walk_at "rdo"
      refine w_ixL (SqL.of hS) rfl ?_
      walk_at "rdo"
      refine w_lenS (by omega) ?_
      walk_at "rdo"
      refine w_stset hS rfl fun H3 h3 f3 => ?_
      walk_at "rdo"
      exact kQ a _ ha (hSt2.put5 hS h3 f3) (f2.trans f3)
end
end
section
open PySem PySem.Spec PyProof.Rows L2
open C8 (Cal cal0 pe_c pe_gc pss_cut tCut)

section
variable {P : Program} {w : World} {K : PySem.W.Frag} {mg : Str → Option Value} {base : Heap}
theorem use_run {S L : Addr} {fs : List Nat} {r z : Int} {H : Hp} {Q : VK} {E : XK} (h : StR H S L r z) (hf : fs.length = 26) (k : ∀ a H', RunOf fs a → StR H' S L (r - a.length) z → Fr S H H' → Q (T a) H') : spRun ([.ref S, T fs] ++ []) H Q E :=
  ⟨S, L, fs, r, z, rfl, h, hf, k⟩
def spTx (Ok : List Nat → Prop) (c : Nat) : Sp := fun vs H Q _ => ∃ (S L : Addr) (r z : Int), vs = [.ref S] ∧ StR H S L r z ∧ ∀ a r' H', Ok a → r' + (a.length : Int) ≤ r + c → r' ≤ r → StR H' S L r' z → Fr S H H' → Q (T a) H'
theorem use_tx {Ok : List Nat → Prop} {c : Nat} {S L : Addr} {r z : Int} {H : Hp} {Q : VK} {E : XK} (h : StR H S L r z) (k : ∀ a r' H', Ok a → r' + (a.length : Int) ≤ r + c → r' ≤ r → StR H' S L r' z → Fr S H H' → Q (T a) H') : spTx Ok c ([.ref S] ++ []) H Q E := ⟨S, L, r, z, rfl, h, k⟩

abbrev s_law_name : Stmt := topS 59
abbrev N_law_name : List Str := ["state", "name"]
theorem sc_law_name : FnScope N_law_name ["state"] (defScope s_law_name) := ⟨rfl, rfl, rfl, by decide +kernel, rfl, by decide +kernel, by decide +kernel⟩
theorem ok_law_name {f : Addr} {fd : FuncData} (F : Fun K "_law_name" "_law_name" s_law_name f fd) (c_law_run : Cal P w K mg base 2 "_law_run" spRun []) (c_law_words : Cal P w K mg base 1 "_law_words" spWords []) : FnOk P w K mg base CX0 3 f fd ["state"] (spTx IsName 1) := by
  refine F.ok sc_law_name (fun vs H Q E h => ?_) (fun cdv A outer s H vs Q E hr h => ?_)
  · obtain ⟨S, L, r, z, rfl, _⟩ := h
    rfl
  · obtain ⟨S, L, r, z, rfl, hSt, kQ⟩ := h
    have nd := sc_law_name.nd
    refine ⟨_, (pss_cons (ps_set (i := 1) nd rfl (Or.inl rfl) (pe_c c_law_run hr (by decide) rfl (pa_cons (pv 0) (pa_cons pe_str pa_nil))))
      (pss_cons (ps_if (pt_cmpR op_in_seq (pv 1) (pe_c0 c_law_words hr (by decide) rfl) (by rfl)) (pss_one (ps_ret (pe_op op_addS (pv 1) pe_str))) pss_nil)
      (pss_one (ps_ret (pv 1))))), ?_⟩
    rw [show L2.start N_law_name [.ref S] = [some (.ref S), none] from rfl]
    walk_at "rdo"
    refine use_run hSt len_aLow fun a H1 ha hSt1 f1 => ?_
    walk_at "rdo"
    refine ⟨rfl, fun p H2 s2 _ hp => ?_⟩
    refine w_inL (SqL.of hp) ?_
    walk_at "rdo"
    refine w_if (fun h => ?_) (fun h => ?_)
    · walk_at "rdo"
      refine w_addS (by have := ha.len; show a.length + 1 ≤ 1000000; omega) ?_
      exact kQ _ _ _ (word_name h) (by rw [List.length_append]; show _ + ((a.length + 1 : Nat) : Int) ≤ _; omega) (by omega) (hSt1.mono s2) (f1.to s2)
    · walk_at "rdo"
      exact kQ _ _ _ ⟨ha, h⟩ (by omega) (by omega) (hSt1.mono s2) (f1.to s2)

abbrev s_law_class : Stmt := topS 60
abbrev N_law_class : List Str := ["state"]
theorem sc_law_class : FnScope N_law_class ["state"] (defScope s_law_class) := ⟨rfl, rfl, rfl, by decide +kernel, rfl, by decide +kernel, by decide +kernel⟩
theorem ok_law_class {f : Addr} {fd : FuncData} (F : Fun K "_law_class" "_law_class" s_law_class f fd) (c_law_run : Cal P w K mg base 2 "_law_run" spRun []) : FnOk P w K mg base CX0 3 f fd ["state"] (spTx IsClass 0) := by
  refine F.ok sc_law_class (fun vs H Q E h => ?_) (fun cdv A outer s H vs Q E hr h => ?_)
  · obtain ⟨S, L, r, z, rfl, _⟩ := h
    rfl
  · obtain ⟨S, L, r, z, rfl, hSt, kQ⟩ := h
    have nd := sc_law_class.nd
    refine ⟨_, (pss_one (ps_ret (pe_c c_law_run hr (by decide) rfl (pa_cons (pv 0) (pa_cons pe_str pa_nil))))), ?_⟩
    rw [show L2.start N_law_class [.ref S] = [some (.ref S)] from rfl]
    walk_at "rdo"
    exact use_run hSt len_aUp fun a H1 ha hSt1 f1 => kQ a _ H1 ha (by omega) (by omega) hSt1 f1

abbrev s_law_number : Stmt := topS 61
abbrev N_law_number : List Str := ["state", "kind"]
theorem sc_law_number : FnScope N_law_number ["state"] (defScope s_law_number) := ⟨rfl, rfl, rfl, by decide +kernel, rfl, by decide +kernel, by decide +kernel⟩
def spNum : Sp := fun vs H Q _ => ∃ (S L : Addr) (r z : Int), vs = [.ref S] ∧ StR H S L r z ∧ ∀ (n : Nat) H', n ≤ 1000000000 → StR H' S L r z → Fr S H H' → Q (.int n) H'
theorem ok_law_number {f : Addr} {fd : FuncData} (F : Fun K "_law_number" "_law_number" s_law_number f fd) (c_law_draw : Cal P w K mg base 1 "_law_draw" spDraw []) : FnOk P w K mg base CX0 3 f fd ["state"] spNum := by
  refine F.ok sc_law_number (fun vs H Q E h => ?_) (fun cdv A outer s H vs Q E hr h => ?_)
  · obtain ⟨S, L, r, z, rfl, _⟩ := h
    rfl
  · obtain ⟨S, L, r, z, rfl, hSt, kQ⟩ := h
    have nd := sc_law_number.nd
    refine ⟨_, (pss_cons (ps_set (i := 1) nd rfl (Or.inl rfl) (pe_c c_law_draw hr (by omega) rfl (pa_cons (pv 0) (pa_cons pe_int pa_nil))))
      (pss_cons (ps_if (pt_cmpR op_eq (pv 1) pe_int (nomark _)) (pss_one (ps_ret (pe_c c_law_draw hr (by omega) rfl (pa_cons (pv 0) (pa_cons pe_int pa_nil))))) pss_nil)
      (pss_cons (ps_if (pt_cmpR op_eq (pv 1) pe_int (nomark _)) (pss_one (ps_ret (pe_op op_sub pe_int (pe_c c_law_draw hr (by omega) rfl (pa_cons (pv 0) (pa_cons pe_int pa_nil)))))) pss_nil)
      (pss_one (ps_ret (pe_c c_law_draw hr (by omega) rfl (pa_cons (pv 0) (pa_cons pe_int pa_nil)))))))), ?_⟩
    rw [show L2.start N_law_number [.ref S] = [some (.ref S), none] from rfl]
    have go : ∀ (y : Int) H', 0 ≤ y → y ≤ 1000000000 → StR H' S L r z → Fr S H H' → Q (.int y) H' := fun y H' h0 h1 h2 h3 => by
      have := kQ y.toNat H' (by omega) h2 h3
      rw [Int.toNat_of_nonneg h0] at this
      exact this
    walk_at "rdo"
    refine use_draw hSt (by decide) (by decide) fun b H1 b0 b1 hSt1 f1 => ?_
    walk_at "rdo"
    refine w_ifI (fun _ => ?_) (fun _ => ?_)
    · walk_at "rdo"
      exact use_draw hSt1 (by decide) (by decide) fun n H2 n0 n1 hSt2 f2 => go n H2 n0 (by omega) hSt2 (f1.trans f2)
    · walk_at "rdo"
      refine w_ifI (fun _ => ?_) (fun _ => ?_)
      · walk_at "rdo"
        refine use_draw hSt1 (by decide) (by decide) fun n H2 n0 n1 hSt2 f2 => ?_
        walk_at "rdo"
        exact go _ H2 (by omega) (by omega) hSt2 (f1.trans f2)
      · walk_at "rdo"
        exact use_draw hSt1 (by decide) (by decide) fun n H2 n0 n1 hSt2 f2 => go n H2 n0 (by omega) hSt2 (f1.trans f2)

abbrev s_law_characters : Stmt := topS 62
abbrev N_law_characters : List Str := ["state", "signs", "text", "k"]
theorem sc_law_characters : FnScope N_law_characters ["state"] (defScope s_law_characters) := ⟨rfl, rfl, rfl, by decide +kernel, rfl, by decide +kernel, by decide +kernel⟩
theorem ok_law_characters {f : Addr} {fd : FuncData} (F : Fun K "_law_characters" "_law_characters" s_law_characters f fd) (Y : Bn mg) (c_law_draw : Cal P w K mg base 1 "_law_draw" spDraw []) : FnOk P w K mg base CX0 3 f fd ["state"] (spTx IsText 0) := by
  refine F.ok sc_law_characters (fun vs H Q E h => ?_) (fun cdv A outer s H vs Q E hr h => ?_)
  · obtain ⟨S, L, r, z, rfl, _⟩ := h
    rfl
  · obtain ⟨S, L, r, z, rfl, hSt, kQ⟩ := h
    have nd := sc_law_characters.nd
    refine ⟨_, (pss_cons (ps_set (i := 1) nd rfl (Or.inl rfl) pe_str)
      (pss_cons (ps_set (i := 2) nd rfl (Or.inl rfl) pe_str)
      (pss_cons (ps_for PassesOwn.never rfl (pi_range1 rfl Y.n_range (pa_cons (pe_c c_law_draw hr (by omega) rfl (pa_cons (pv 0) (pa_cons pe_int pa_nil))) pa_nil)) (pg_name (i := 3) nd rfl (Or.inl rfl)) (pss_one (ps_set (i := 2) nd rfl (Or.inl rfl) (pe_op op_addS (pv 2) (pe_ix ix_str (pv 1) (pe_c c_law_draw hr (by omega) rfl (pa_cons (pv 0) (pa_cons pe_int pa_nil))) (fun _ _ => rfl))))))
      (pss_cut (ps_if (pt_cmpR op_eq (pe_c c_law_draw hr (by omega) rfl (pa_cons (pv 0) (pa_cons pe_int pa_nil))) pe_int (nomark _)) (pss_one (ps_set (i := 2) nd rfl (Or.inl rfl) (pe_slice sl_str (pe_op op_mulS (pe_op op_addS (pv 2) pe_str) pe_int) po_none (po_some (pe_op op_sub pe_int (pe_c c_law_draw hr (by omega) rfl (pa_cons (pv 0) (pa_cons pe_int pa_nil)))))))) pss_nil)
      (pss_cons (ps_asg (pe_op op_sub (pe_ix ix_list (pv 0) pe_int (fun _ _ => rfl)) (pe_callB call_lenS (by rfl) Y.n_len (by decide +kernel) (pa_cons (pv 2) pa_nil))) (pg_sub (pv 0) pe_int set_list))
      (pss_one (ps_ret (pv 2)))))))), ?_⟩
    rw [show L2.start N_law_characters [.ref S] = [some (.ref S), none, none, none] from rfl]
    walk_at "rdo"
    refine use_draw hSt (by decide) (by decide) fun n H1 n0 n1 hSt1 f1 => ?_
    walk_at "rdo"
    refine for_R (fun i σ' H' => ∃ (a : List Nat) (x : Option V), σ' = [some (.ref S), some (T aTxt), some (T a), x] ∧ (∀ d ∈ a, d ∈ aTxt) ∧ a.length = i ∧ StR H' S L r z ∧ Fr S H H') n0 (by omega)
      ⟨[], none, by rw [show (Str.ofString "").cps.toList = ([] : List Nat) by decide +kernel]; rfl, fun d hd => (List.not_mem_nil hd).elim, rfl, hSt1, f1⟩ ?_ ?_
    · rintro i σ' H2 hi ⟨a, x, rfl, ha, hl, hSt2, f2⟩
      walk_at "rdo"
      refine use_draw hSt2 (by decide) (by decide) fun m H3 m0 m1 hSt3 f3 => ?_
      obtain ⟨c, hc, ec⟩ := at_lt (l := aTxt) m0 (by rw [len_aTxt]; exact m1)
      refine w_ixS (by rw [len_aTxt]; decide) ec ?_
      refine w_addS (by show a.length + 1 ≤ 1000000; omega) ?_
      walk_at "rdo"
      refine ⟨a ++ [c], _, rfl, fun d hd => ?_, by rw [List.length_append, hl]; rfl, hSt3, f2.trans f3⟩
      rcases List.mem_append.mp hd with hd | hd
      · exact ha d hd
      · rw [List.mem_singleton.mp hd]; exact hc
    · rintro σ' H2 ⟨a, x, rfl, ha, hl, hSt2, f2⟩
      walk_at "rdo"
      refine ⟨fun σ' H' => ∃ (a : List Nat), σ' = [some (.ref S), some (T aTxt), some (T a), x] ∧ IsText a ∧ StR H' S L r z ∧ Fr S H H', ?_, ?_⟩
      · walk_at "rdo"
        refine use_draw hSt2 (by decide) (by decide) fun m H3 m0 m1 hSt3 f3 => ?_
        walk_at "rdo"
        refine w_ifI (fun _ => ?_) (fun _ => ?_)
        · walk_at "rdo"
          refine w_addS (by show a.length + 2 ≤ 1000000; omega) ?_
          walk_at "rdo"
          have e2 : (cds "z ").length = 2 := by decide +kernel
          have l2 : (a ++ cds "z ").length ≤ 8 := by rw [List.length_append, e2]; omega
          refine w_mulS (by decide) (by decide) (Nat.le_trans (Nat.mul_le_mul_right _ l2) (by decide)) ?_
          walk_at "rdo"
          refine use_draw hSt3 (by decide) (by decide) fun e H4 e0 e1 hSt4 f4 => ?_
          walk_at "rdo"
          refine w_slS (by rw [len_rep]; exact Nat.le_trans (Nat.mul_le_mul_left _ l2) (by decide)) ?_
          refine ⟨_, rfl, ⟨fun d hd => ?_, ?_⟩, hSt4, (f2.trans f3).trans f4⟩
          · have := mem_rep (cut_mem hd)
            rcases List.mem_append.mp this with hd | hd
            · exact ha d hd
            · exact (by decide +kernel : ∀ d ∈ cds "z ", d ∈ aTxt) d hd
          · have e3 : (200 - e : Int) = (((200 - e).toNat : Nat) : Int) := by omega
            rw [e3, cut_to, List.length_take]
            omega
        · exact ⟨a, rfl, ⟨ha, by omega⟩, hSt3, f2.trans f3⟩
      · rintro σ' H3 ⟨a, rfl, ha, hSt3, f3⟩
        obtain ⟨i, c', k, b, hS⟩ := hSt3.obj
        walk_at "rdo"
        refine w_ixL (SqL.of hS) rfl ?_
        walk_at "rdo"
        refine w_lenS (by have := ha.2; omega) ?_
        walk_at "rdo"
        refine w_stset hS rfl fun H4 h4 f4 => ?_
        walk_at "rdo"
        exact kQ a _ _ ha (by omega) (by omega) (hSt3.put5 hS h4 f4) (f3.trans f4)
end
end
section
open PySem PySem.Spec PyProof.Rows L2
open TL (numL tl_num numL_digits numL_ne numL_val numL_len numL_lt numL_step)
open C8 (Cal cal0 pe_c pe_gc pss_cut tCut)

theorem StR.new {H : Hp} {S L D : Addr} {r z : Int} (h : StR H S L r z) (hD : H D = none) : D ≠ S ∧ D ≠ L := by
  obtain ⟨ns, i, c, k, b, h1, h2, h3, h4⟩ := h
  exact ⟨fun e => (by rw [e, h4] at hD; cases hD), fun e => (by rw [e, h2] at hD; cases hD)⟩
theorem StR.grow {H H1 : Hp} {S L D : Addr} {r z : Int} (h : StR H S L r z) (n : D ≠ S ∧ D ≠ L) (k : ∀ b o, b ≠ D → H b = some o → H1 b = some o) : StR H1 S L r z := by
  obtain ⟨ns, i, c, k', b, h1, h2, h3, h4⟩ := h
  exact ⟨ns, i, c, k', b, h1, k _ _ n.2.symm h2, h3, k _ _ n.1.symm h4⟩
theorem Fr.grow {S D : Addr} {H H1 H2 : Hp} (f : Fr S H H1) (hD : H D = none) (k : ∀ b o, b ≠ D → H1 b = some o → H2 b = some o) : Fr S H H2 := fun b o n e => k b o (fun z => by rw [z, hD] at e; cases e) (f b o n e)
theorem Fr.free {S D : Addr} {H H1 : Hp} (f : Fr S H H1) (n : D ≠ S) (hD : H1 D = none) : H D = none := by
  cases e : H D with
  | none => rfl
  | some o => rw [f _ _ n e] at hD; cases hD
def Tl (H : Hp) (q : Addr) (w : Ws) : Prop := H q = some (.lst (w.map T))
theorem StR.tr {K : PySem.W.Frag} {H H1 : Hp} {S L : Addr} {r z : Int} {v : V} {t : Tr} (h : StR H S L r z) (f : Fr S H H1) (a : TrAt K H v t) : TrAt K H1 v t := by
  obtain ⟨ns, i, c, k', b, h1, h2, h3, h4⟩ := h
  exact a.but h4 f
theorem StR.trs {K : PySem.W.Frag} {H H1 : Hp} {S L : Addr} {r z : Int} {v : List V} {t : List Tr} (h : StR H S L r z) (f : Fr S H H1) (a : TrsAt K H v t) : TrsAt K H1 v t := by
  obtain ⟨ns, i, c, k', b, h1, h2, h3, h4⟩ := h
  exact a.but h4 f
theorem Tl.fr {H H1 : Hp} {S q : Addr} {w : Ws} (f : Fr S H H1) (n : q ≠ S) (a : Tl H q w) : Tl H1 q w := f _ _ n a
theorem pick_at {l : List (List Nat)} {n : Nat} (hl : l.length = n) {r : Int} (h0 : 0 ≤ r) (h1 : r < (n : Int)) : ∃ a, a ∈ l ∧ atI (l.map T) r = some (T a) := by
  have hr2 : r.toNat < l.length := by omega
  obtain ⟨q, rfl⟩ : ∃ q : Nat, r = (q : Int) := ⟨r.toNat, by omega⟩
  rw [Int.toNat_natCast] at hr2
  exact ⟨l[q], List.getElem_mem hr2, atI_nat (by rw [List.getElem?_map, List.getElem?_eq_getElem hr2]; rfl)⟩
theorem plain_some' {a : List Nat} {v : V} (h : plainL.lookup a = some v) : v = .non ∨ v = .bl true ∨ v = .bl false := by
  unfold plainL at h
  simp only [List.lookup] at h
  split at h
  · cases h; exact .inl rfl
  · split at h
    · cases h; exact .inr (.inl rfl)
    · split at h
      · cases h; exact .inr (.inr rfl)
      · cases h
def Phi (r : Int) : Int := if 0 < r then 40 * r + 400 else 0
theorem Phi_mono {r s : Int} (h : r ≤ s) : Phi r ≤ Phi s := by unfold Phi; split <;> split <;> omega
theorem Phi_nn (r : Int) : 0 ≤ Phi r := by unfold Phi; split <;> omega
theorem w_strN {H : Hp} {Q : VK} {n : Nat} (hn : n ≤ 1000000000000) (k : Q (T (numL n)) H) : rStrI [.int (n : Int)] H Q := by
  refine ⟨(n : Int), rfl, ?_, ?_⟩
  · rw [Int.natAbs_natCast]
    by_cases h0 : n = 0
    · subst h0; decide
    · exact Nat.lt_trans ((Nat.log2_lt h0).mpr (show n < 2 ^ 41 by omega)) (by decide)
  · have e : V.str (toString (n : Int)) = T (numL n) := by rw [T_eta]; exact congrArg T (tl_num n)
    rw [e]
    exact k
section
variable {P : Program} {w : World} {K : PySem.W.Frag} {mg : Str → Option Value} {base : Heap}
abbrev s_law_names : Stmt := topS 63
abbrev N_law_names : List Str := ["state", "count", "taken", "names", "k", "name"]
theorem sc_law_names : FnScope N_law_names ["state", "count", "taken"] (defScope s_law_names) := ⟨rfl, rfl, rfl, by decide +kernel, rfl, by decide +kernel, by decide +kernel⟩
def spGNames : Sp := fun vs H Q _ => ∃ (S L N : Addr) (r z m : Int) (tk : Ws), vs = [.ref S, .int m, .ref N] ∧ StR H S L r z ∧ Tl H N tk ∧ N ≠ S ∧ 0 ≤ m ∧ m ≤ 1000 ∧
  ∀ (q : Addr) (l : Ws) (r' : Int) (H' : Hp), l.Nodup → (∀ x ∈ l, x ∉ tk) → (∀ x ∈ l, IsName x) → (l.length : Int) ≤ m → Tl H' q l → H q = none → r' ≤ r → StR H' S L r' z → Fr S H H' → Q (.ref q) H'
theorem ok_law_names {f : Addr} {fd : FuncData} (F : Fun K "_law_names" "_law_names" s_law_names f fd) (Y : Bn mg) (c_law_name : Cal P w K mg base 3 "_law_name" (spTx IsName 1) []) : FnOk P w K mg base CX0 4 f fd ["state", "count", "taken"] spGNames := by
  refine F.ok sc_law_names (fun vs H Q E h => ?_) (fun cdv A outer s H vs Q E hr h => ?_)
  · obtain ⟨S, L, N, r, z, m, tk, rfl, _⟩ := h
    rfl
  · obtain ⟨S, L, N, r, z, m, tk, rfl, hSt, hN, nN, m0, m1, kQ⟩ := h
    have nd := sc_law_names.nd
    refine ⟨_, (pss_cons (ps_set (i := 3) nd rfl (Or.inl rfl) (pe_lst pa_nil))
      (pss_cons (ps_for PassesOwn.never rfl (pi_range1 rfl Y.n_range (pa_cons (pv 1) pa_nil)) (pg_name (i := 4) nd rfl (Or.inl rfl)) (pss_cons (ps_set (i := 5) nd rfl (Or.inl rfl) (pe_c c_law_name hr (by omega) rfl (pa_cons (pv 0) pa_nil)))
      (pss_one (ps_if (PW.pt (pw_and (pt_cmpR op_notIn_seq (pv 5) (pv 3) (by rfl)) (pw_and1 (pt_cmpR op_notIn_seq (pv 5) (pv 2) (by rfl))))) (pss_one (ps_expr (pe_bm PySem.F.plainAttrs_list PySem.F.slot_list_append PySem.F.type_list_append mt_append (pv 3) (pa_cons (pv 5) pa_nil)))) pss_nil))))
      (pss_one (ps_ret (pv 3))))), ?_⟩
    rw [show L2.start N_law_names [.ref S, .int m, .ref N] = [some (.ref S), some (.int m), some (.ref N), none, none, none] from rfl]
    walk_at "rdy"
    refine w_newL (by show 0 ≤ 1000000; decide) fun D H1 hD s1 h1 => ?_
    walk_at "rdy"
    have nD := hSt.new hD
    have nND : N ≠ D := fun e => by unfold Tl at hN; rw [e, hD] at hN; cases hN
    refine for_R (fun i σ' H' => ∃ (l : Ws) (r' : Int) (x4 x5 : Option V), σ' = [some (.ref S), some (.int m), some (.ref N), some (.ref D), x4, x5] ∧ StR H' S L r' z ∧ r' ≤ r ∧ Fr S H H' ∧ H' D = some (.lst (l.map T)) ∧ l.Nodup ∧ (∀ x ∈ l, x ∉ tk) ∧ (∀ x ∈ l, IsName x) ∧ l.length ≤ i) m0 (by omega)
      ⟨[], r, none, none, rfl, hSt.mono s1, Int.le_refl _, (Fr.refl S H).to s1, h1, List.nodup_nil, (fun x hx => absurd hx List.not_mem_nil), (fun x hx => absurd hx List.not_mem_nil), Nat.le_refl _⟩ ?_ ?_
    · rintro i σ' H2 hi ⟨l, r2, x4, x5, rfl, hSt2, hr2, f2, h2, hnd, htk, hnm, hl⟩
      walk_at "rdy"
      refine use_tx hSt2 fun a r3 H3 ha hra hr3 hSt3 f3 => ?_
      have h3 := f3 _ _ nD.1 h2
      have hN3 := f3 _ _ nN (f2 _ _ nN hN)
      walk_at "rdy"
      refine w_ninL (SqL.of h3) ?_
      refine ⟨_, rfl, ?_⟩
      refine w_ifn (fun hin => ?_) (fun hin => ?_)
      · walk_at "rdy"
        refine w_ninL (SqL.of hN3) ?_
        refine ⟨_, rfl, ?_⟩
        refine w_ifn (fun hin2 => ?_) (fun hin2 => ?_)
        · walk_at "rdy"
          refine ⟨tyL (SqL.of h3), ?_⟩
          walk_at "rdy"
          refine w_app2 h3 (by rw [List.length_map]; omega) fun H4 h4 k4 => ?_
          walk_at "rdy"
          refine ⟨l ++ [a], r3, _, _, rfl, hSt3.grow nD k4, by omega, (f2.trans f3).grow hD k4, by rw [h4, List.map_append]; rfl, ?_, ?_, ?_, by rw [List.length_append]; show l.length + 1 ≤ i + 1; omega⟩
          · exact List.nodup_append.mpr ⟨hnd, List.nodup_cons.mpr ⟨List.not_mem_nil, List.nodup_nil⟩, fun x hx y hy e => hin (by rw [List.mem_singleton.mp hy] at e; rw [← e]; exact hx)⟩
          · intro x hx
            rcases List.mem_append.mp hx with hx | hx
            · exact htk x hx
            · rw [List.mem_singleton.mp hx]; exact hin2
          · intro x hx
            rcases List.mem_append.mp hx with hx | hx
            · exact hnm x hx
            · rw [List.mem_singleton.mp hx]; exact ha
        · exact ⟨l, r3, _, _, rfl, hSt3, by omega, f2.trans f3, h3, hnd, htk, hnm, by omega⟩
      · exact ⟨l, r3, _, _, rfl, hSt3, by omega, f2.trans f3, h3, hnd, htk, hnm, by omega⟩
    · rintro σ' H2 ⟨l, r2, x4, x5, rfl, hSt2, hr2, f2, h2, hnd, htk, hnm, hl⟩
      walk_at "rdy"
      exact kQ D l r2 H2 hnd htk hnm (by omega) h2 hD hr2 hSt2 f2
abbrev s_law_commas : Stmt := topS 64
abbrev N_law_commas : List Str := ["names", "tokens", "name"]
theorem sc_law_commas : FnScope N_law_commas ["names"] (defScope s_law_commas) := ⟨rfl, rfl, rfl, by decide +kernel, rfl, by decide +kernel, by decide +kernel⟩
def spCommas : Sp := fun vs H Q _ => ∃ (N : Addr) (l : Ws), vs = [.ref N] ∧ Tl H N l ∧ l.length ≤ 1000 ∧ ∀ q H', Tl H' q (commas l) → H q = none → Same H H' → Q (.ref q) H'
theorem commas_snoc (a : List Nat) : ∀ {l : Ws}, l ≠ [] → commas (l ++ [a]) = commas l ++ [cds ",", a]
  | [], h => absurd rfl h
  | [b], _ => rfl
  | b :: c :: l, _ => by
    show b :: cds "," :: commas (c :: l ++ [a]) = b :: cds "," :: commas (c :: l) ++ [cds ",", a]
    rw [commas_snoc a (List.cons_ne_nil c l)]
    rfl
theorem ok_law_commas {f : Addr} {fd : FuncData} (F : Fun K "_law_commas" "_law_commas" s_law_commas f fd) (Y : Bn mg) : FnOk P w K mg base CX0 1 f fd ["names"] spCommas := by
  refine F.ok sc_law_commas (fun vs H Q E h => ?_) (fun cdv A outer s H vs Q E hr h => ?_)
  · obtain ⟨N, l, rfl, _⟩ := h
    rfl
  · obtain ⟨N, l, rfl, hN, hl, kQ⟩ := h
    have nd := sc_law_commas.nd
    refine ⟨_, (pss_cons (ps_set (i := 1) nd rfl (Or.inl rfl) (pe_lst pa_nil))
      (pss_cons (ps_for PassesOwn.never rfl (pi_list (pv 0)) (pg_name (i := 2) nd rfl (Or.inl rfl)) (pss_cons (ps_if (pt_tru (pv 1)) (pss_one (ps_expr (pe_bm PySem.F.plainAttrs_list PySem.F.slot_list_append PySem.F.type_list_append mt_append (pv 1) (pa_cons pe_str pa_nil)))) pss_nil)
      (pss_one (ps_expr (pe_bm PySem.F.plainAttrs_list PySem.F.slot_list_append PySem.F.type_list_append mt_append (pv 1) (pa_cons (pv 2) pa_nil))))))
      (pss_one (ps_ret (pv 1))))), ?_⟩
    rw [show L2.start N_law_commas [.ref N] = [some (.ref N), none, none] from rfl]
    walk_at "rdy"
    refine w_newL (by show 0 ≤ 1000000; decide) fun D H1 hD s1 h1 => ?_
    walk_at "rdy"
    have nND : N ≠ D := fun e => by unfold Tl at hN; rw [e, hD] at hN; cases hN
    have lc : ∀ i, (commas (l.take i)).length ≤ 2 * l.length := fun i => by
      by_cases h0 : l.take i = []
      · rw [h0]; exact Nat.zero_le _
      · have := commas_len h0
        rw [List.length_take] at this
        omega
    refine for_L (xs := l.map T) (fun i σ' H' => ∃ x : Option V, σ' = [some (.ref N), some (.ref D), x] ∧ Same H H' ∧ H' D = some (.lst ((commas (l.take i)).map T))) ⟨none, rfl, s1, h1⟩ (fun i σ' H' _ h => h.elim fun x h => SqL.of (h.2.1 _ _ hN)) ?_ ?_
    · rintro i v σ' H2 hv ⟨x, rfl, s2, h2⟩
      obtain ⟨a, ha, rfl⟩ : ∃ a, l[i]? = some a ∧ v = T a := by
        rw [List.getElem?_map] at hv
        cases e : l[i]? with
        | none => rw [e] at hv; cases hv
        | some a => rw [e] at hv; exact ⟨a, rfl, (Option.some.inj hv).symm⟩
      obtain ⟨hil, ea⟩ := List.getElem?_eq_some_iff.mp ha
      have et : l.take (i + 1) = l.take i ++ [a] := by rw [List.take_succ_eq_append_getElem hil, ea]
      have hli := lc i
      have fin : ∀ H3, Same H H3 → H3 D = some (.lst ((commas (l.take i)).map T ++ if l.take i = [] then [] else [T (cds ",")])) → ∀ H4, H4 D = some (.lst (((commas (l.take i)).map T ++ if l.take i = [] then [] else [T (cds ",")]) ++ [T a])) → But D H3 H4 → Same H H4 ∧ H4 D = some (.lst ((commas (l.take (i + 1))).map T)) := fun H3 s3 h3 H4 h4 k4 => by
        refine ⟨same_of_but hD s3 k4, ?_⟩
        rw [h4, et]
        by_cases h0 : l.take i = []
        · rw [h0]; rfl
        · rw [commas_snoc a h0, if_neg h0, List.map_append, List.append_assoc]; rfl
      walk_at "rdy"
      refine w_truL (SqL.of h2) (fun hne => ?_) (fun hem => ?_)
      · have h0 : l.take i ≠ [] := fun e => hne (by rw [e]; rfl)
        rw [if_neg h0] at fin
        walk_at "rdy"
        refine ⟨tyL (SqL.of h2), ?_⟩
        walk_at "rdy"
        refine w_app2 h2 (by rw [List.length_map]; omega) fun H3 h3 k3 => ?_
        walk_at "rdy"
        refine ⟨tyL (SqL.of h3), ?_⟩
        walk_at "rdy"
        refine w_app2 h3 (by rw [List.length_append, List.length_map]; show _ + 1 ≤ 1000000; omega) fun H4 h4 k4 => ?_
        walk_at "rdy"
        obtain ⟨z1, z2⟩ := fin H3 (same_of_but hD s2 k3) h3 H4 h4 k4
        exact ⟨_, rfl, z1, z2⟩
      · have h0 : l.take i = [] := by
          cases e : l.take i with
          | nil => rfl
          | cons b m => rw [e, commas_cons] at hem; cases hem
        rw [if_pos h0, List.append_nil] at fin
        walk_at "rdy"
        refine ⟨tyL (SqL.of h2), ?_⟩
        walk_at "rdy"
        refine w_app2 h2 (by rw [List.length_map]; omega) fun H4 h4 k4 => ?_
        walk_at "rdy"
        obtain ⟨z1, z2⟩ := fin H2 s2 h2 H4 h4 k4
        exact ⟨_, rfl, z1, z2⟩
    · rintro σ' H2 ⟨x, rfl, s2, h2⟩
      rw [List.length_map, List.take_length] at h2
      walk_at "rdy"
      exact kQ D H2 h2 hD s2
abbrev s_law_leaf : Stmt := topS 65
abbrev N_law_leaf : List Str := ["state", "kind", "number", "value", "word", "name", "text"]
theorem sc_law_leaf : FnScope N_law_leaf ["state"] (defScope s_law_leaf) := ⟨rfl, rfl, rfl, by decide +kernel, rfl, by decide +kernel, by decide +kernel⟩
def spLeaf (K : PySem.W.Frag) : Sp := fun vs H Q _ => ∃ (S L : Addr) (r z : Int), vs = [.ref S] ∧ StR H S L r z ∧
  ∀ (p : Addr) (v : V) (q : Addr) (t : Tr) (w : Ws) (r' : Int) (H' : Hp), H' p = some (.tup [v, .ref q]) → TrAt K H' v t → Tl H' q w → (∀ h, Ex 9 (h + 1) t w []) → (∀ a ∈ w, Tok a) → (wt w : Int) + Phi r' ≤ Phi r + 30 → (r ≤ 0 → wt w ≤ 4) → r' ≤ r → H q = none → StR H' S L r' z → Fr S H H' → Q (.ref p) H'
theorem numL_9 : ∀ n < 10, (numL n).length = 1 := by decide +kernel
theorem tok1 {a : List Nat} (h : Tok a) : ∀ x ∈ [a], Tok x := fun x hx => by rw [List.mem_singleton.mp hx]; exact h
theorem ok_law_leaf {f : Addr} {fd : FuncData} (F : Fun K "_law_leaf" "_law_leaf" s_law_leaf f fd) (Y : Bn mg) (c_law_draw : Cal P w K mg base 1 "_law_draw" spDraw []) (c_law_number : Cal P w K mg base 3 "_law_number" spNum []) (c_law_class : Cal P w K mg base 3 "_law_class" (spTx IsClass 0) [])
    (c_law_characters : Cal P w K mg base 3 "_law_characters" (spTx IsText 0) []) (c_law_name : Cal P w K mg base 3 "_law_name" (spTx IsName 1) []) : FnOk P w K mg base CX0 4 f fd ["state"] (spLeaf K) := by
  refine F.ok sc_law_leaf (fun vs H Q E h => ?_) (fun cdv A outer s H vs Q E hr h => ?_)
  · obtain ⟨S, L, r, z, rfl, _⟩ := h
    rfl
  · obtain ⟨S, L, r, z, rfl, hSt, kQ⟩ := h
    have nd := sc_law_leaf.nd
    refine ⟨_, (pss_cons (ps_set (i := 1) nd rfl (Or.inl rfl) (pe_c c_law_draw hr (by omega) rfl (pa_cons (pv 0) (pa_cons pe_int pa_nil))))
      (pss_cons (ps_if (PW.pt (pw_or (pt_cmpR op_le (pe_ix ix_list (pv 0) pe_int (fun _ _ => rfl)) pe_int (nomark _)) (pw_or1 (pt_cmpR op_eq (pv 1) pe_int (nomark _))))) (pss_cons (ps_set (i := 2) nd rfl (Or.inl rfl) (pe_c c_law_draw hr (by omega) rfl (pa_cons (pv 0) (pa_cons pe_int pa_nil))))
      (pss_one (ps_ret (pe_tup (pa_cons (pe_tup (pa_cons pe_str (pa_cons (pv 2) pa_nil))) (pa_cons (pe_lst (pa_cons (pe_callTy call_strI (by rfl) Y.n_str (by decide +kernel) (pa_cons (pv 2) pa_nil)) pa_nil)) pa_nil)))))) pss_nil)
      (pss_cons (ps_if (pt_cmpR op_eq (pv 1) pe_int (nomark _)) (pss_cons (ps_set (i := 2) nd rfl (Or.inl rfl) (pe_c c_law_number hr (by decide) rfl (pa_cons (pv 0) pa_nil)))
      (pss_one (ps_ret (pe_tup (pa_cons (pe_tup (pa_cons pe_str (pa_cons (pv 2) pa_nil))) (pa_cons (pe_lst (pa_cons (pe_callTy call_strI (by rfl) Y.n_str (by decide +kernel) (pa_cons (pv 2) pa_nil)) pa_nil)) pa_nil)))))) pss_nil)
      (pss_cons (ps_if (pt_cmpR op_eq (pv 1) pe_int (nomark _)) (pss_cons (ps_asg (pe_ix ix_list (pe_lst (pa_cons (pe_tup (pa_cons pe_non (pa_cons pe_str pa_nil))) (pa_cons (pe_tup (pa_cons pe_bl (pa_cons pe_str pa_nil))) (pa_cons (pe_tup (pa_cons pe_bl (pa_cons pe_str pa_nil))) pa_nil)))) (pe_c c_law_draw hr (by omega) rfl (pa_cons (pv 0) (pa_cons pe_int pa_nil))) (fun _ _ => rfl)) (pg_tup (by rfl) (pgs_cons (pg_name (i := 3) nd rfl (Or.inl rfl)) (pgs_cons (pg_name (i := 4) nd rfl (Or.inl rfl)) pgs_nil))))
      (pss_one (ps_ret (pe_tup (pa_cons (pe_tup (pa_cons pe_str (pa_cons (pv 3) pa_nil))) (pa_cons (pe_lst (pa_cons (pv 4) pa_nil)) pa_nil)))))) pss_nil)
      (pss_cons (ps_if (pt_cmpR op_eq (pv 1) pe_int (nomark _)) (pss_one (ps_ret (pe_tup (pa_cons (pe_tup (pa_cons pe_str pa_nil)) (pa_cons (pe_lst (pa_cons pe_str pa_nil)) pa_nil))))) pss_nil)
      (pss_cons (ps_if (pt_cmpR op_eq (pv 1) pe_int (nomark _)) (pss_cons (ps_set (i := 5) nd rfl (Or.inl rfl) (pe_c c_law_class hr (by decide) rfl (pa_cons (pv 0) pa_nil)))
      (pss_one (ps_ret (pe_tup (pa_cons (pe_tup (pa_cons pe_str (pa_cons (pv 5) pa_nil))) (pa_cons (pe_lst (pa_cons pe_str (pa_cons (pv 5) pa_nil))) pa_nil)))))) pss_nil)
      (pss_cons (ps_if (pt_cmpR op_eq (pv 1) pe_int (nomark _)) (pss_cons (ps_set (i := 6) nd rfl (Or.inl rfl) (pe_c c_law_characters hr (by decide) rfl (pa_cons (pv 0) pa_nil)))
      (pss_one (ps_ret (pe_tup (pa_cons (pe_tup (pa_cons pe_str (pa_cons (pv 6) pa_nil))) (pa_cons (pe_lst (pa_cons (pe_op op_addS (pe_op op_addS pe_str (pv 6)) pe_str) pa_nil)) pa_nil)))))) pss_nil)
      (pss_cons (ps_set (i := 5) nd rfl (Or.inl rfl) (pe_c c_law_name hr (by omega) rfl (pa_cons (pv 0) pa_nil)))
      (pss_one (ps_ret (pe_tup (pa_cons (pe_tup (pa_cons pe_str (pa_cons (pv 5) pa_nil))) (pa_cons (pe_lst (pa_cons (pv 5) pa_nil)) pa_nil))))))))))))), ?_⟩
    rw [show L2.start N_law_leaf [.ref S] = [some (.ref S), none, none, none, none, none, none] from rfl]
    walk_at "rdy"
    refine use_draw hSt (by decide) (by decide) fun y H1 y0 y1 hSt1 f1 => ?_
    obtain ⟨i0, c0, k0, b0, hS1⟩ := hSt1.obj
    walk_at "rdy"
    have fin : ∀ {u : Ws} {vs : List V} {t : List Tr} {r' : Int} {H2 H3 H4 H5 : Hp} {p q m : Addr}, StR H2 S L r' z → Fr S H H2 → TrsAt K H2 vs t → (∀ h, Ex 9 (h + 1) (.t t) u []) → (∀ a ∈ u, Tok a) → (wt u : Int) + Phi r' ≤ Phi r + 30 → (r ≤ 0 → wt u ≤ 4) → r' ≤ r →
        Same H2 H3 → H3 p = some (.tup vs) → H3 q = none → Same H3 H4 → H4 q = some (.lst (u.map T)) → Same H4 H5 → H5 m = some (.tup [.ref p, .ref q]) → Q (.ref m) H5 := fun {u vs t r' H2 H3 H4 H5 p q m} hS2 f2 ht e tok c1 c2 c3 s3 h3 hq s4 h4 s5 h5 =>
      kQ m (.ref p) q _ u r' H5 h5 (.t (.inl (.inl (s5 _ _ (s4 _ _ h3)))) ((ht.same (s3.trans s4)).same s5)) (s5 _ _ h4) e tok c1 c2 c3 ((f2.to s3).free ((hS2.mono s3).new hq).1 hq) (((hS2.mono s3).mono s4).mono s5) (((f2.to s3).to s4).to s5)
    have leaves : ∀ {a : List Nat} {n : Nat}, a.length ≤ n → n ≤ 27 → ((wt [a] : Nat) : Int) + Phi r ≤ Phi r + 30 := fun {a n} h1 h2 => by
      show ((a.length + 3 + 0 : Nat) : Int) + _ ≤ _
      omega
    have num : ∀ {n : Nat} {H2 H3 H4 H5 : Hp} {p q m : Addr}, n ≤ 1000000000 → (r ≤ 0 → n < 10) → StR H2 S L r z → Fr S H H2 → Same H2 H3 → H3 p = some (.tup [T (cds "plain"), .int (n : Int)]) → H3 q = none → Same H3 H4 → H4 q = some (.lst [T (numL n)]) → Same H4 H5 → H5 m = some (.tup [.ref p, .ref q]) → Q (.ref m) H5 := fun {n H2 H3 H4 H5 p q m} hn h10 hS2 f2 s3 h3 hq s4 h4 s5 h5 =>
      fin (u := [numL n]) (t := [str "plain", .i (n : Int)]) hS2 f2 (.cons .s (.cons .i .nil)) (fun h => .num (drawn_tk (.number hn))) (tok1 ⟨_, _, .number hn⟩) (leaves (numL_len (n := n) (k := 10) (by decide) (by omega)) (by decide)) (fun h => by show (numL n).length + 3 + 0 ≤ 4; rw [numL_9 n (h10 h)]; exact Nat.le_refl _) (Int.le_refl _) s3 h3 hq s4 h4 s5 h5
    walk_at "rdy"
    refine w_if (fun hr0 => ?_) (fun hr0 => ?_)
    · walk_at "rdy"
      refine use_draw hSt1 (by decide) (by decide) fun n H2 n0 n1 hS2 f2 => ?_
      obtain ⟨n, rfl⟩ : ∃ q : Nat, n = (q : Int) := ⟨n.toNat, by omega⟩
      walk_at "rdy"
      refine w_newT (by show 2 ≤ 1000000; decide) fun p H3 hp s3 h3 => ?_
      walk_at "rdy"
      refine w_strN (by omega) ?_
      walk_at "rdy"
      refine w_newL (by show 1 ≤ 1000000; decide) fun q H4 hq s4 h4 => ?_
      walk_at "rdy"
      refine w_newT (by show 2 ≤ 1000000; decide) fun m H5 hm s5 h5 => ?_
      exact num (by omega) (fun _ => by omega) hS2 (f1.trans f2) s3 h3 hq s4 h4 s5 h5
    · walk_at "rdy"
      refine w_ifI (fun _ => ?_) (fun _ => ?_)
      · walk_at "rdy"
        refine use_draw hSt1 (by decide) (by decide) fun n H2 n0 n1 hS2 f2 => ?_
        obtain ⟨n, rfl⟩ : ∃ q : Nat, n = (q : Int) := ⟨n.toNat, by omega⟩
        walk_at "rdy"
        refine w_newT (by show 2 ≤ 1000000; decide) fun p H3 hp s3 h3 => ?_
        walk_at "rdy"
        refine w_strN (by omega) ?_
        walk_at "rdy"
        refine w_newL (by show 1 ≤ 1000000; decide) fun q H4 hq s4 h4 => ?_
        walk_at "rdy"
        refine w_newT (by show 2 ≤ 1000000; decide) fun m H5 hm s5 h5 => ?_
        exact num (by omega) (fun _ => by omega) hS2 (f1.trans f2) s3 h3 hq s4 h4 s5 h5
      · walk_at "rdy"
        refine w_ifI (fun _ => ?_) (fun _ => ?_)
        · walk_at "rdy"
          refine ⟨S, L, r, z, rfl, hSt1, fun n H2 hn hS2 f2 => ?_⟩
          walk_at "rdy"
          refine w_newT (by show 2 ≤ 1000000; decide) fun p H3 hp s3 h3 => ?_
          walk_at "rdy"
          refine w_strN (by omega) ?_
          walk_at "rdy"
          refine w_newL (by show 1 ≤ 1000000; decide) fun q H4 hq s4 h4 => ?_
          walk_at "rdy"
          refine w_newT (by show 2 ≤ 1000000; decide) fun m H5 hm s5 h5 => ?_
          exact num hn (fun h => absurd h (by omega)) hS2 (f1.trans f2) s3 h3 hq s4 h4 s5 h5
        · walk_at "rdy"
          refine w_ifI (fun _ => ?_) (fun _ => ?_)
          · walk_at "rdy"
            refine w_newT (by show 2 ≤ 1000000; decide) fun p1 H2 hp1 s2 h2 => ?_
            walk_at "rdy"
            refine w_newT (by show 2 ≤ 1000000; decide) fun p2 H3 hp2 s3 h3 => ?_
            walk_at "rdy"
            refine w_newT (by show 2 ≤ 1000000; decide) fun p3 H4 hp3 s4 h4 => ?_
            walk_at "rdy"
            refine w_newL (by show 3 ≤ 1000000; decide) fun q0 H5 hq0 s5 h5 => ?_
            walk_at "rdy"
            have hS5 := (((hSt1.mono s2).mono s3).mono s4).mono s5
            have f5 := (((f1.to s2).to s3).to s4).to s5
            have nq0 := (((hSt1.mono s2).mono s3).mono s4).new hq0
            refine use_draw hS5 (by decide) (by decide) fun n H6 n0 n1 hS6 f6 => ?_
            have g1 := f6 _ _ (hSt1.new hp1).1 (s5 _ _ (s4 _ _ (s3 _ _ h2)))
            have g2 := f6 _ _ ((hSt1.mono s2).new hp2).1 (s5 _ _ (s4 _ _ h3))
            have g3 := f6 _ _ (((hSt1.mono s2).mono s3).new hp3).1 (s5 _ _ h4)
            have g5 := f6 _ _ nq0.1 h5
            obtain ⟨pp, v, a, he, hpp, ha, hv⟩ : ∃ (pp : Addr) (v : V) (a : List Nat), atI [V.ref p1, .ref p2, .ref p3] n = some (.ref pp) ∧ H6 pp = some (.tup [v, T a]) ∧ a ∈ [cds "none", cds "true", cds "false"] ∧ plainL.lookup a = some v := by
              rcases (show n = 0 ∨ n = 1 ∨ n = 2 by omega) with rfl | rfl | rfl
              · exact ⟨p1, _, _, rfl, g1, by decide +kernel, by decide +kernel⟩
              · exact ⟨p2, _, _, rfl, g2, by decide +kernel, by decide +kernel⟩
              · exact ⟨p3, _, _, rfl, g3, by decide +kernel, by decide +kernel⟩
            refine w_ixL (SqL.of g5) he ?_
            walk_at "rdy"
            refine ⟨pp, _, rfl, .inl (.inl hpp), rfl, ?_⟩
            refine ⟨_, _, rfl, ?_⟩
            walk_at "rdy"
            refine ⟨_, _, rfl, ?_⟩
            walk_at "rdy"
            refine ⟨rfl, ?_⟩
            walk_at "rdy"
            refine w_newT (by show 2 ≤ 1000000; decide) fun p H3 hp s3 h3 => ?_
            walk_at "rdy"
            refine w_newL (by show 1 ≤ 1000000; decide) fun q H4 hq s4 h4 => ?_
            walk_at "rdy"
            refine w_newT (by show 2 ≤ 1000000; decide) fun m H5 hm s5 h5 => ?_
            have vt : ∀ H, TrAt K H v (plainTr v) := fun H => by
              rcases plain_some' hv with rfl | rfl | rfl
              · exact .n
              · exact .b
              · exact .b
            have al : a.length ≤ 5 := (by decide +kernel : ∀ a ∈ [cds "none", cds "true", cds "false"], a.length ≤ 5) a ha
            have aw : a ∈ WM := (by decide +kernel : ∀ a ∈ [cds "none", cds "true", cds "false"], a ∈ WM) a ha
            exact fin (u := [a]) (t := [str "plain", plainTr v]) hS6 (f5.trans f6) (.cons .s (.cons (vt _) .nil)) (fun h => .word hv) (tok1 (wm_tok a aw)) (leaves al (by decide)) (fun h => absurd h (by omega)) (Int.le_refl _) s3 h3 hq s4 h4 s5 h5
          · walk_at "rdy"
            refine w_ifI (fun _ => ?_) (fun _ => ?_)
            · walk_at "rdy"
              refine w_newT (by show 1 ≤ 1000000; decide) fun p H3 hp s3 h3 => ?_
              walk_at "rdy"
              refine w_newL (by show 1 ≤ 1000000; decide) fun q H4 hq s4 h4 => ?_
              walk_at "rdy"
              refine w_newT (by show 2 ≤ 1000000; decide) fun m H5 hm s5 h5 => ?_
              exact fin (u := [cds "self"]) (t := [str "self"]) hSt1 f1 (.cons .s .nil) (fun h => .self) (tok1 (wm_tok _ (by decide +kernel))) (leaves (n := 4) (by decide +kernel) (by decide)) (fun h => absurd h (by omega)) (Int.le_refl _) s3 h3 hq s4 h4 s5 h5
            · walk_at "rdy"
              refine w_ifI (fun _ => ?_) (fun _ => ?_)
              · walk_at "rdy"
                refine use_tx hSt1 fun a r2 H2 ha hra hr2 hS2 f2 => ?_
                walk_at "rdy"
                refine w_newT (by show 2 ≤ 1000000; decide) fun p H3 hp s3 h3 => ?_
                walk_at "rdy"
                refine w_newL (by show 2 ≤ 1000000; decide) fun q H4 hq s4 h4 => ?_
                walk_at "rdy"
                refine w_newT (by show 2 ≤ 1000000; decide) fun m H5 hm s5 h5 => ?_
                have al : a.length ≤ 20 := RunOf.len ha
                have e3 : (cds "new").length = 3 := by decide +kernel
                refine fin (u := [cds "new", a]) (t := [str "new", .s a]) hS2 (f1.trans f2) (.cons .s (.cons .s .nil)) (fun h => .new (drawn_tk (.cls ha))) (fun x hx => ?_) ?_ (fun h => absurd h (by omega)) hr2 s3 h3 hq s4 h4 s5 h5
                · rcases List.mem_cons.mp hx with rfl | hx
                  · exact wm_tok _ (by decide +kernel)
                  · rw [List.mem_singleton.mp hx]; exact ⟨_, _, .cls ha⟩
                · have := Phi_mono hr2
                  show (((cds "new").length + 3 + (a.length + 3 + 0) : Nat) : Int) + _ ≤ _
                  omega
              · walk_at "rdy"
                refine w_ifI (fun _ => ?_) (fun _ => ?_)
                · walk_at "rdy"
                  refine use_tx hSt1 fun a r2 H2 ha hra hr2 hS2 f2 => ?_
                  walk_at "rdy"
                  refine w_newT (by show 2 ≤ 1000000; decide) fun p H3 hp s3 h3 => ?_
                  walk_at "rdy"
                  have al : a.length ≤ 200 := ha.2
                  have eq1 : (Str.ofString "'").cps.toList = [39] := by decide +kernel
                  rw [eq1]
                  refine w_addS (by show 1 + _ ≤ _; omega) ?_
                  walk_at "rdy"
                  rw [eq1]
                  refine w_addS (by show ([39] ++ a).length + 1 ≤ _; rw [List.length_append]; show 1 + _ + 1 ≤ _; omega) ?_
                  walk_at "rdy"
                  refine w_newL (by show 1 ≤ 1000000; decide) fun q H4 hq s4 h4 => ?_
                  walk_at "rdy"
                  refine w_newT (by show 2 ≤ 1000000; decide) fun m H5 hm s5 h5 => ?_
                  refine fin (u := [39 :: (a ++ [39])]) (t := [str "plain", .s a]) hS2 (f1.trans f2) (.cons .s (.cons .s .nil)) (fun h => .text (drawn_tk (.text ha))) (tok1 ⟨_, _, .text ha⟩) ?_ (fun h => absurd h (by omega)) hr2 s3 h3 hq s4 h4 s5 h5
                  show (((39 :: (a ++ [39])).length + 3 + 0 : Nat) : Int) + _ ≤ _
                  rw [List.length_cons, List.length_append]
                  unfold Phi
                  rw [if_pos (show 0 < r by omega)]
                  split
                  · show ((a.length + 1 + 1 + 3 + 0 : Nat) : Int) + _ ≤ _; omega
                  · show ((a.length + 1 + 1 + 3 + 0 : Nat) : Int) + _ ≤ _; omega
                · walk_at "rdy"
                  refine use_tx hSt1 fun a r2 H2 ha hra hr2 hS2 f2 => ?_
                  walk_at "rdy"
                  refine w_newT (by show 2 ≤ 1000000; decide) fun p H3 hp s3 h3 => ?_
                  walk_at "rdy"
                  refine w_newL (by show 1 ≤ 1000000; decide) fun q H4 hq s4 h4 => ?_
                  walk_at "rdy"
                  refine w_newT (by show 2 ≤ 1000000; decide) fun m H5 hm s5 h5 => ?_
                  have al : a.length ≤ 20 := RunOf.len ha.1
                  refine fin (u := [a]) (t := [str "name", .s a]) hS2 (f1.trans f2) (.cons .s (.cons .s .nil)) (fun h => .name (name_nm ha)) (tok1 (name_tok ha)) ?_ (fun h => absurd h (by omega)) hr2 s3 h3 hq s4 h4 s5 h5
                  have := Phi_mono hr2
                  show ((a.length + 3 + 0 : Nat) : Int) + _ ≤ _
                  omega
end
end
section
open PySem PySem.Spec PyProof.Rows L2
open C8 (Cal cal0 pe_c pe_gc pss_cut tCut)

theorem al_snoc {h lv : Nat} {t : Tr} {w1 : Ws} {n1 : List Ws} (hl : 1 ≤ lv) (e : Ex lv h t w1 n1) : ∀ {l : List Tr} {w : Ws} {ns : List Ws}, Al h l w ns → Al h (l ++ [t]) (w ++ cds "," :: w1) (ns ++ n1)
  | _, _, _, .nil => by
    have := Al.cons (w2 := []) (n2 := []) hl e .nil
    rw [List.append_nil, List.append_nil] at this
    exact this
  | _, _, _, .cons a b c => by
    have := Al.cons a b (al_snoc hl e c)
    rw [← List.append_assoc, ← List.append_assoc] at this
    exact this
theorem ar_snoc {h lv : Nat} {t : Tr} {w1 : Ws} {n1 : List Ws} (hl : 1 ≤ lv) (e : Ex lv h t w1 n1) {l : List Tr} {w : Ws} {ns : List Ws} (a : Ar h l w ns) (h7 : l.length ≤ 7) : Ar h (l ++ [t]) ((if l = [] then w else w ++ [cds ","]) ++ w1) (ns ++ n1) := by
  cases a with
  | nil =>
    have := Ar.cons (w2 := []) (n2 := []) hl e .nil (Nat.zero_le _)
    rw [List.append_nil, List.append_nil] at this
    rw [if_pos rfl]
    exact this
  | cons a b c d =>
    rw [List.length_cons] at h7
    have := Ar.cons a b (al_snoc hl e c) (by rw [List.length_append]; show _ + 1 ≤ 7; omega)
    rw [if_neg (List.cons_ne_nil _ _), List.append_assoc, List.append_assoc, List.append_assoc]
    exact this
theorem bl_snoc {h : Nat} {t : Tr} {w1 : Ws} {n1 : List Ws} (e : St h t w1 n1) : ∀ {l : List Tr} {w : Ws} {ns : List Ws}, Bl h l w ns → Bl h (l ++ [t]) (w ++ cds ";" :: w1) (ns ++ n1)
  | _, _, _, .nil => by
    have := Bl.cons (w2 := []) (n2 := []) e .nil
    rw [List.append_nil, List.append_nil] at this
    exact this
  | _, _, _, .cons b c => by
    have := Bl.cons b (bl_snoc e c)
    rw [← List.append_assoc, ← List.append_assoc] at this
    exact this
theorem bd_snoc {h : Nat} {t : Tr} {w1 : Ws} {n1 : List Ws} (e : St h t w1 n1) {l : List Tr} {w : Ws} {ns : List Ws} (a : Bd h l w ns) : Bd h (l ++ [t]) ((if l = [] then w else w ++ [cds ";"]) ++ w1) (ns ++ n1) := by
  cases a with
  | nil =>
    have := Bd.cons (w2 := []) (n2 := []) e .nil
    rw [List.append_nil, List.append_nil] at this
    rw [if_pos rfl]
    exact this
  | cons b c =>
    have := Bd.cons b (bl_snoc e c)
    rw [if_neg (List.cons_ne_nil _ _), List.append_assoc, List.append_assoc, List.append_assoc]
    exact this
def Give (S L : Addr) (r z : Int) (H : Hp) (Q : VK) (ok : V → Hp → Ws → List Ws → Prop) (c : Int) : Prop := ∀ (p : Addr) (v : V) (q : Addr) (w : Ws) (ns : List Ws) (r' : Int) (H' : Hp), H' p = some (.tup [v, .ref q]) → ok v H' w ns → Tl H' q w → (∀ l ∈ ns, l.Nodup) → (∀ a ∈ w, Tok a) → (wt w : Int) + Phi r' ≤ Phi r + c → r' ≤ r → H q = none → StR H' S L r' z → Fr S H H' → Q (.ref p) H'
def okE (K : PySem.W.Frag) (n : Nat) (lo : Nat → Prop) : V → Hp → Ws → List Ws → Prop := fun v H w ns => ∃ lv t, lo lv ∧ TrAt K H v t ∧ Ex lv n t w ns
def okL (K : PySem.W.Frag) (n : Nat) : V → Hp → Ws → List Ws → Prop := fun v H w ns => ∃ l w0, w = cds "(" :: (w0 ++ [cds ")"]) ∧ TrAt K H v (.t l) ∧ Ar n l w0 ns
def okB (K : PySem.W.Frag) (n : Nat) : V → Hp → Ws → List Ws → Prop := fun v H w ns => ∃ l, TrAt K H v (.t l) ∧ Bd n l w ns
def okS (K : PySem.W.Frag) (n : Nat) : V → Hp → Ws → List Ws → Prop := fun v H w ns => ∃ t, TrAt K H v t ∧ St n t w ns
def spExpr (K : PySem.W.Frag) (n : Nat) : Sp := fun vs H Q _ => ∃ (S L : Addr) (r z : Int) (m a : Nat), vs = [.ref S, .int (m : Int), .int (a : Int)] ∧ StR H S L r z ∧ r ≤ 500 ∧ 1 ≤ m ∧ m ≤ n ∧ a ≤ 9 ∧ Give S L r z H Q (okE K m fun lv => a ≤ lv ∧ 1 ≤ lv) (if 0 < r then -100 else 20)
def spStmt (K : PySem.W.Frag) (n : Nat) : Sp := fun vs H Q _ => ∃ (S L : Addr) (r z : Int) (m : Nat), vs = [.ref S, .int (m : Int)] ∧ StR H S L r z ∧ r ≤ 500 ∧ 0 < r ∧ 2 ≤ m ∧ m ≤ n ∧ Give S L r z H Q (okS K m) (-100)
def spList (K : PySem.W.Frag) (n : Nat) : Sp := fun vs H Q _ => ∃ (S L : Addr) (r z : Int) (m : Nat), vs = [.ref S, .int (m : Int)] ∧ StR H S L r z ∧ r ≤ 500 ∧ 1 ≤ m ∧ m ≤ n ∧ Give S L r z H Q (okL K m) 8
def spBody (K : PySem.W.Frag) (n : Nat) : Sp := fun vs H Q _ => ∃ (S L : Addr) (r z : Int) (m : Nat) (u : Int), vs = [.ref S, .int (m : Int), .int u] ∧ StR H S L r z ∧ r ≤ 500 ∧ m ≤ n ∧ 0 < u ∧ u ≤ 1000 ∧ Give S L r z H Q (okB K m) 0
theorem Phi_500 {r : Int} (h : r ≤ 500) : Phi r ≤ 20400 := by unfold Phi; split <;> omega
theorem w_len_of {w : Ws} {r r' c : Int} (h : (wt w : Int) + Phi r' ≤ Phi r + c) (hr : r ≤ 500) (hc : c ≤ 1000) : w.length ≤ 7200 := by
  have := wt_len w
  have := Phi_500 hr
  have := Phi_nn r'
  omega
theorem tl_cat {H : Hp} {Q : VK} {p q : Addr} {u v : Ws} (hp : Tl H p u) (hq : Tl H q v) (z : u.length + v.length ≤ 1000000) (k : ∀ a H1, H a = none → Same H H1 → Tl H1 a (u ++ v) → Q (.ref a) H1) : rCat (.ref p) (.ref q) H Q :=
  w_cat2 hp hq (by rw [List.length_map, List.length_map]; exact z) fun a H1 h0 s h1 => k a H1 h0 s (by unfold Tl; rw [h1, List.map_append])
theorem tl_new {H : Hp} {Q : VK} {u : Ws} {xs : List V} (e : xs = u.map T) (z : xs.length ≤ 1000000) (k : ∀ p H1, H p = none → Same H H1 → Tl H1 p u → Q (.ref p) H1) : NewL xs H Q :=
  w_newL z fun p H1 h0 s h1 => k p H1 h0 s (by unfold Tl; rw [h1, e])
theorem Tl.same {H H1 : Hp} {q : Addr} {w : Ws} (h : Tl H q w) (s : Same H H1) : Tl H1 q w := s _ _ h
theorem wm1 {a : List Nat} (h : a ∈ WM) : ∀ x ∈ [a], Tok x := tok1 (wm_tok a h)
theorem tok_app {u v : Ws} (h : ∀ x ∈ u, Tok x) (g : ∀ x ∈ v, Tok x) : ∀ x ∈ u ++ v, Tok x := fun x hx => (List.mem_append.mp hx).elim (h x) (g x)
theorem nod_app {u v : List Ws} (h : ∀ x ∈ u, x.Nodup) (g : ∀ x ∈ v, x.Nodup) : ∀ x ∈ u ++ v, x.Nodup := fun x hx => (List.mem_append.mp hx).elim (h x) (g x)
section
variable {P : Program} {w : World} {K : PySem.W.Frag} {mg : Str → Option Value} {base : Heap} {k n : Nat}
abbrev s_law_list : Stmt := topS 67
abbrev N_law_list : List Str := ["state", "room", "count", "trees", "tokens", "k", "tree", "more"]
theorem sc_law_list : FnScope N_law_list ["state", "room"] (defScope s_law_list) := ⟨rfl, rfl, rfl, by decide +kernel, rfl, by decide +kernel, by decide +kernel⟩
theorem ok_law_list {f : Addr} {fd : FuncData} (F : Fun K "_law_list" "_law_list" s_law_list f fd) (Y : Bn mg) (hk : 1 ≤ k) (c_law_draw : Cal P w K mg base 1 "_law_draw" spDraw []) (c_law_expression : Cal P w K mg base k "_law_expression" (spExpr K n) []) : FnOk P w K mg base CX0 (k + 1) f fd ["state", "room"] (spList K n) := by
  refine F.ok sc_law_list (fun vs H Q E h => ?_) (fun cdv A outer s H vs Q E hr h => ?_)
  · obtain ⟨S, L, r, z, m, rfl, _⟩ := h
    rfl
  · obtain ⟨S, L, r, z, m, rfl, hSt, hr5, hm1, hmn, kQ⟩ := h
    have nd := sc_law_list.nd
    refine ⟨_, (pss_cons (ps_set (i := 2) nd rfl (Or.inl rfl) (pe_c c_law_draw hr (by omega) rfl (pa_cons (pv 0) (pa_cons pe_int pa_nil))))
      (pss_cut (ps_if (pt_cmpR op_eq (pe_c c_law_draw hr (by omega) rfl (pa_cons (pv 0) (pa_cons pe_int pa_nil))) pe_int (nomark _)) (pss_one (ps_set (i := 2) nd rfl (Or.inl rfl) pe_int)) pss_nil)
      (pss_cons (ps_set (i := 3) nd rfl (Or.inl rfl) (pe_lst pa_nil))
      (pss_cons (ps_set (i := 4) nd rfl (Or.inl rfl) (pe_lst pa_nil))
      (pss_cons (ps_for PassesOwn.never rfl (pi_range1 rfl Y.n_range (pa_cons (pv 2) pa_nil)) (pg_name (i := 5) nd rfl (Or.inl rfl)) (pss_one (ps_if (pt_cmpR op_gt (pe_ix ix_list (pv 0) pe_int (fun _ _ => rfl)) pe_int (nomark _)) (pss_cons (ps_asg (pe_c c_law_expression hr (by omega) rfl (pa_cons (pv 0) (pa_cons (pv 1) (pa_cons pe_int pa_nil)))) (pg_tup (by rfl) (pgs_cons (pg_name (i := 6) nd rfl (Or.inl rfl)) (pgs_cons (pg_name (i := 7) nd rfl (Or.inl rfl)) pgs_nil))))
      (pss_cut (ps_if (pt_tru (pv 3)) (pss_one (ps_set (i := 4) nd rfl (Or.inl rfl) (pe_op op_cat (pv 4) (pe_lst (pa_cons pe_str pa_nil))))) pss_nil)
      (pss_cons (ps_expr (pe_bm PySem.F.plainAttrs_list PySem.F.slot_list_append PySem.F.type_list_append mt_append (pv 3) (pa_cons (pv 6) pa_nil)))
      (pss_one (ps_set (i := 4) nd rfl (Or.inl rfl) (pe_op op_cat (pv 4) (pv 7))))))) pss_nil)))
      (pss_one (ps_ret (pe_tup (pa_cons (pe_callTy call_tupleOf (by rfl) Y.n_tuple (by decide +kernel) (pa_cons (pv 3) pa_nil)) (pa_cons (pe_op op_cat (pe_op op_cat (pe_lst (pa_cons pe_str pa_nil)) (pv 4)) (pe_lst (pa_cons pe_str pa_nil))) pa_nil)))))))))), ?_⟩
    rw [show L2.start N_law_list [.ref S, .int (m : Int)] = [some (.ref S), some (.int (m : Int)), none, none, none, none, none, none] from rfl]
    walk_at "rdy"
    refine use_draw hSt (by decide) (by decide) fun c H1 c0 c1 hSt1 f1 => ?_
    walk_at "rdy"
    refine ⟨fun σ' H' => ∃ c : Int, σ' = [some (.ref S), some (.int (m : Int)), some (.int c), none, none, none, none, none] ∧ 0 ≤ c ∧ c ≤ 8 ∧ StR H' S L r z ∧ Fr S H H', ?_, ?_⟩
    · walk_at "rdy"
      refine use_draw hSt1 (by decide) (by decide) fun y H2 y0 y1 hSt2 f2 => ?_
      walk_at "rdy"
      refine w_ifI (fun _ => ?_) (fun _ => ?_)
      · walk_at "rdy"
        exact ⟨8, rfl, by decide, by decide, hSt2, f1.trans f2⟩
      · exact ⟨c, rfl, c0, by omega, hSt2, f1.trans f2⟩
    · rintro σ' H2 ⟨c, rfl, c0, c8, hSt2, f2⟩
      walk_at "rdy"
      refine w_newL (by show 0 ≤ 1000000; decide) fun D H3 hD s3 h3 => ?_
      walk_at "rdy"
      refine tl_new (u := []) rfl (by show 0 ≤ 1000000; decide) fun q0 H4 hq0 s4 h4 => ?_
      walk_at "rdy"
      have nD := hSt2.new hD
      have nq0 := (hSt2.mono s3).new hq0
      have hD0 : H D = none := f2.free nD.1 hD
      refine for_R (fun i σ' H' => ∃ (q : Addr) (vs : List V) (l : List Tr) (w0 : Ws) (ns : List Ws) (r' : Int) (x5 x6 x7 : Option V), σ' = [some (.ref S), some (.int (m : Int)), some (.int c), some (.ref D), some (.ref q), x5, x6, x7] ∧ StR H' S L r' z ∧ r' ≤ r ∧ Fr S H H' ∧ H' D = some (.lst vs) ∧ TrsAt K H' vs l ∧ l.length ≤ i ∧ q ≠ S ∧ q ≠ D ∧ Tl H' q w0 ∧ Ar m l w0 ns ∧ (∀ a ∈ w0, Tok a) ∧ (∀ x ∈ ns, x.Nodup) ∧ (wt w0 : Int) + Phi r' ≤ Phi r) c0 (by omega)
        ⟨q0, [], [], [], [], r, none, none, none, rfl, (hSt2.mono s3).mono s4, Int.le_refl _, (f2.to s3).to s4, s4 _ _ h3, .nil, Nat.le_refl _, nq0.1, (fun e => by rw [e, h3] at hq0; cases hq0), h4, .nil, (fun x hx => absurd hx List.not_mem_nil), (fun x hx => absurd hx List.not_mem_nil), (by show ((0 : Nat) : Int) + _ ≤ _; omega)⟩ ?_ ?_
      · rintro i σ' H5 hi ⟨q, vs, l, w0, ns, r5, x5, x6, x7, rfl, hSt5, hr5', f5, hD5, hT5, hl5, nq, nqD, hw5, ha5, ht5, hn5, hc5⟩
        obtain ⟨i0, c0', k0, b0, hS5⟩ := hSt5.obj
        walk_at "rdy"
        refine w_if (fun hpos => ?_) (fun hpos => ?_)
        · walk_at "rdy"
          refine ⟨S, L, r5, z, m, 1, rfl, hSt5, by omega, hm1, hmn, by decide, fun p v q2 w1 n1 r6 H6 hp hok hw6 hn6 ht6 hc6 hr6 nq2 hSt6 f6 => ?_⟩
          obtain ⟨lv, t, hlv, hv, e⟩ := hok
          rw [if_pos hpos] at hc6
          walk_at "upy"
          have hD6 := f6 _ _ nD.1 hD5
          have hT6 := hSt5.trs f6 hT5
          have hw06 := Tl.fr f6 nq hw5
          have hvl := hT6.length
          have nDq2 : q2 ≠ D := fun e => by rw [e, hD5] at nq2; cases nq2
          have nq2S := (hSt5.new nq2).1
          have lw0 := w_len_of (c := 0) (by rw [Int.add_zero]; exact hc5) hr5 (by decide)
          have lw1 : w1.length ≤ 7200 := w_len_of hc6 (by omega) (by decide)
          refine ⟨fun σ' H' => ∃ q3, σ' = [some (.ref S), some (.int (m : Int)), some (.int c), some (.ref D), some (.ref q3), some (.int (0 + (i : Int))), some v, some (.ref q2)] ∧ Same H6 H' ∧ q3 ≠ S ∧ q3 ≠ D ∧ Tl H' q3 (if l = [] then w0 else w0 ++ [cds ","]), ?_, ?_⟩
          · walk_at "rdy"
            refine w_truL (SqL.of hD6) (fun hne => ?_) (fun hem => ?_)
            · walk_at "rdy"
              refine tl_new (u := [cds ","]) rfl (by show 1 ≤ 1000000; decide) fun q4 H7 hq4 s7 h7 => ?_
              refine tl_cat (hw06.same s7) h7 (by show w0.length + 1 ≤ 1000000; omega) fun q5 H8 hq5 s8 h8 => ?_
              walk_at "rdy"
              have h0 : l ≠ [] := fun e => hne (by rw [e] at hvl; exact List.length_eq_zero_iff.mp hvl)
              refine ⟨q5, rfl, s7.trans s8, ((hSt6.mono s7).new hq5).1, (fun e => by rw [e, s7 _ _ hD6] at hq5; cases hq5), ?_⟩
              rw [if_neg h0]
              exact h8
            · have h0 : l = [] := List.length_eq_zero_iff.mp (by rw [← hvl, hem]; rfl)
              refine ⟨q, rfl, fun _ _ h => h, nq, nqD, ?_⟩
              rw [if_pos h0]
              exact hw06
          · rintro σ' H7 ⟨q3, rfl, s7, nq3, nq3D, hw3⟩
            walk_at "rdy"
            have hD7 := s7 _ _ hD6
            refine ⟨tyL (SqL.of hD7), ?_⟩
            walk_at "rdy"
            refine w_app2 hD7 (by omega) fun H8 h8 k8 => ?_
            walk_at "rdy"
            have hw38 : Tl H8 q3 _ := k8 _ _ nq3D hw3
            have hw18 : Tl H8 q2 _ := k8 _ _ nDq2 (hw6.same s7)
            refine tl_cat hw38 hw18 (by split; omega; rw [List.length_append]; show w0.length + 1 + _ ≤ _; omega) fun q6 H9 hq6 s9 h9 => ?_
            walk_at "rdy"
            have hSt8 := (hSt6.mono s7).grow nD k8
            have hT8 := TrsAt.snoc ((hv.same s7).but hD7 k8) ((hT6.same s7).but hD7 k8)
            refine ⟨q6, vs ++ [v], l ++ [t], _, ns ++ n1, r6, _, _, _, rfl, hSt8.mono s9, by omega, (((f5.trans f6).to s7).grow hD0 k8).to s9, s9 _ _ h8, hT8.same s9, by rw [List.length_append]; show l.length + 1 ≤ i + 1; omega, (hSt8.new hq6).1, (fun e => by rw [e, h8] at hq6; cases hq6), h9, ar_snoc hlv.2 e ha5 (by omega), ?_, nod_app hn5 hn6, ?_⟩
            · refine tok_app ?_ ht6
              split
              · exact ht5
              · exact tok_app ht5 (wm1 (by decide +kernel))
            · have ec : wt [cds ","] = 4 := by decide +kernel
              rw [wt_append]
              split
              · omega
              · rw [wt_append, ec]; omega
        · exact ⟨q, vs, l, w0, ns, r5, _, _, _, rfl, hSt5, hr5', f5, hD5, hT5, by omega, nq, nqD, hw5, ha5, ht5, hn5, hc5⟩
      · rintro σ' H5 ⟨q, vs, l, w0, ns, r5, x5, x6, x7, rfl, hSt5, hr5', f5, hD5, hT5, hl5, nq, nqD, hw5, ha5, ht5, hn5, hc5⟩
        have lw0 := w_len_of (c := 0) (by rw [Int.add_zero]; exact hc5) hr5 (by decide)
        walk_at "rdy"
        refine w_tupOf (SqL.of hD5) fun p H6 hp s6 h6 => ?_
        walk_at "rdy"
        refine tl_new (u := [cds "("]) rfl (by show 1 ≤ 1000000; decide) fun q1 H7 hq1 s7 h7 => ?_
        walk_at "rdy"
        refine tl_cat h7 ((hw5.same s6).same s7) (by show 1 + w0.length ≤ 1000000; omega) fun q2 H8 hq2 s8 h8 => ?_
        walk_at "rdy"
        refine tl_new (u := [cds ")"]) rfl (by show 1 ≤ 1000000; decide) fun q3 H9 hq3 s9 h9 => ?_
        refine tl_cat (h8.same s9) h9 (by show _ + 1 ≤ 1000000; rw [List.length_append]; show 1 + w0.length + 1 ≤ 1000000; omega) fun q4 H10 hq4 s10 h10 => ?_
        walk_at "rdy"
        refine w_newT (by show 2 ≤ 1000000; decide) fun p2 H11 hp2 s11 h11 => ?_
        have s56 := (((s6.trans s7).trans s8).trans s9).trans s10
        have s511 := s56.trans s11
        have e1 : wt [cds "("] = 4 := by decide +kernel
        have e2 : wt [cds ")"] = 4 := by decide +kernel
        refine kQ p2 (.ref p) q4 _ ns r5 H11 h11 ⟨l, w0, rfl, .t (h6.same ((((s7.trans s8).trans s9).trans s10).trans s11)).sq (hT5.same s511), ha5⟩ (h10.same s11) hn5 (tok_app (tok_app (wm1 (by decide +kernel)) ht5) (wm1 (by decide +kernel))) ?_ hr5' ?_ (hSt5.mono s511) (f5.to s511)
        · have e3 : wt (cds "(" :: (w0 ++ [cds ")"])) = 4 + (wt w0 + 4) := by
            show (cds "(").length + 3 + wt (w0 ++ _) = _
            rw [wt_append, e2]
            have : (cds "(").length = 1 := by decide +kernel
            omega
          omega
        · exact (f5.to (((s6.trans s7).trans s8).trans s9)).free ((hSt5.mono (((s6.trans s7).trans s8).trans s9)).new hq4).1 hq4
abbrev s_law_body : Stmt := topS 71
abbrev N_law_body : List Str := ["state", "room", "most", "trees", "tokens", "k", "tree", "more"]
theorem sc_law_body : FnScope N_law_body ["state", "room", "most"] (defScope s_law_body) := ⟨rfl, rfl, rfl, by decide +kernel, rfl, by decide +kernel, by decide +kernel⟩
theorem ok_law_body {f : Addr} {fd : FuncData} (F : Fun K "_law_body" "_law_body" s_law_body f fd) (Y : Bn mg) (hk : 1 ≤ k) (c_law_draw : Cal P w K mg base 1 "_law_draw" spDraw []) (c_law_statement : Cal P w K mg base k "_law_statement" (spStmt K n) []) : FnOk P w K mg base CX0 (k + 1) f fd ["state", "room", "most"] (spBody K n) := by
  refine F.ok sc_law_body (fun vs H Q E h => ?_) (fun cdv A outer s H vs Q E hr h => ?_)
  · obtain ⟨S, L, r, z, m, u, rfl, _⟩ := h
    rfl
  · obtain ⟨S, L, r, z, m, u, rfl, hSt, hr5, hmn, u0, u1, kQ⟩ := h
    have nd := sc_law_body.nd
    refine ⟨_, (pss_cons (ps_set (i := 3) nd rfl (Or.inl rfl) (pe_lst pa_nil))
      (pss_cons (ps_set (i := 4) nd rfl (Or.inl rfl) (pe_lst pa_nil))
      (pss_cons (ps_for PassesOwn.never rfl (pi_range1 rfl Y.n_range (pa_cons (pe_c c_law_draw hr (by omega) rfl (pa_cons (pv 0) (pa_cons (pv 2) pa_nil))) pa_nil)) (pg_name (i := 5) nd rfl (Or.inl rfl)) (pss_one (ps_if (PW.pt (pw_and (pt_cmpR op_gt (pv 1) pe_int (nomark _)) (pw_and1 (pt_cmpR op_gt (pe_ix ix_list (pv 0) pe_int (fun _ _ => rfl)) pe_int (nomark _))))) (pss_cons (ps_asg (pe_c c_law_statement hr (by omega) rfl (pa_cons (pv 0) (pa_cons (pv 1) pa_nil))) (pg_tup (by rfl) (pgs_cons (pg_name (i := 6) nd rfl (Or.inl rfl)) (pgs_cons (pg_name (i := 7) nd rfl (Or.inl rfl)) pgs_nil))))
      (pss_cut (ps_if (pt_tru (pv 3)) (pss_one (ps_set (i := 4) nd rfl (Or.inl rfl) (pe_op op_cat (pv 4) (pe_lst (pa_cons pe_str pa_nil))))) pss_nil)
      (pss_cons (ps_expr (pe_bm PySem.F.plainAttrs_list PySem.F.slot_list_append PySem.F.type_list_append mt_append (pv 3) (pa_cons (pv 6) pa_nil)))
      (pss_one (ps_set (i := 4) nd rfl (Or.inl rfl) (pe_op op_cat (pv 4) (pv 7))))))) pss_nil)))
      (pss_one (ps_ret (pe_tup (pa_cons (pe_callTy call_tupleOf (by rfl) Y.n_tuple (by decide +kernel) (pa_cons (pv 3) pa_nil)) (pa_cons (pv 4) pa_nil)))))))), ?_⟩
    rw [show L2.start N_law_body [.ref S, .int (m : Int), .int u] = [some (.ref S), some (.int (m : Int)), some (.int u), none, none, none, none, none] from rfl]
    walk_at "rdy"
    refine w_newL (by show 0 ≤ 1000000; decide) fun D H3 hD s3 h3 => ?_
    walk_at "rdy"
    refine tl_new (u := []) rfl (by show 0 ≤ 1000000; decide) fun q0 H4 hq0 s4 h4 => ?_
    walk_at "rdy"
    have nD := hSt.new hD
    have nq0 := (hSt.mono s3).new hq0
    have hD0 : H D = none := hD
    have nq0D : q0 ≠ D := fun e => by rw [e, h3] at hq0; cases hq0
    refine use_draw ((hSt.mono s3).mono s4) (by omega) (by omega) fun c H4' c0 c1 hSt4 f4 => ?_
    refine for_R (fun i σ' H' => ∃ (q : Addr) (vs : List V) (l : List Tr) (w0 : Ws) (ns : List Ws) (r' : Int) (x5 x6 x7 : Option V), σ' = [some (.ref S), some (.int (m : Int)), some (.int u), some (.ref D), some (.ref q), x5, x6, x7] ∧ StR H' S L r' z ∧ r' ≤ r ∧ Fr S H H' ∧ H' D = some (.lst vs) ∧ TrsAt K H' vs l ∧ l.length ≤ i ∧ H q = none ∧ q ≠ S ∧ q ≠ D ∧ Tl H' q w0 ∧ Bd m l w0 ns ∧ (∀ a ∈ w0, Tok a) ∧ (∀ x ∈ ns, x.Nodup) ∧ (wt w0 : Int) + Phi r' ≤ Phi r) c0 (by omega)
      ⟨q0, [], [], [], [], r, none, none, none, rfl, hSt4, Int.le_refl _, (((Fr.refl S H).to s3).to s4).trans f4, f4 _ _ nD.1 (s4 _ _ h3), .nil, Nat.le_refl _, s3.free hq0, nq0.1, nq0D, f4 _ _ nq0.1 h4, .nil, (fun x hx => absurd hx List.not_mem_nil), (fun x hx => absurd hx List.not_mem_nil), (by show ((0 : Nat) : Int) + _ ≤ _; omega)⟩ ?_ ?_
    · rintro i σ' H5 hi ⟨q, vs, l, w0, ns, r5, x5, x6, x7, rfl, hSt5, hr5', f5, hD5, hT5, hl5, nq0', nq, nqD, hw5, ha5, ht5, hn5, hc5⟩
      obtain ⟨i0, c0', k0, b0, hS5⟩ := hSt5.obj
      walk_at "rdy"
      refine w_if (fun hroom => ?_) (fun hroom => ?_)
      · walk_at "rdy"
        refine w_if (fun hpos => ?_) (fun hpos => ?_)
        · walk_at "rdy"
          refine ⟨S, L, r5, z, m, rfl, hSt5, by omega, hpos, by omega, hmn, fun p v q2 w1 n1 r6 H6 hp hok hw6 hn6 ht6 hc6 hr6 nq2 hSt6 f6 => ?_⟩
          obtain ⟨t, hv, e⟩ := hok
          walk_at "upy"
          have hD6 := f6 _ _ nD.1 hD5
          have hT6 := hSt5.trs f6 hT5
          have hw06 := Tl.fr f6 nq hw5
          have hvl := hT6.length
          have nDq2 : q2 ≠ D := fun e => by rw [e, hD5] at nq2; cases nq2
          have nq2S := (hSt5.new nq2).1
          have lw0 := w_len_of (c := 0) (by rw [Int.add_zero]; exact hc5) hr5 (by decide)
          have lw1 : w1.length ≤ 7200 := w_len_of hc6 (by omega) (by decide)
          refine ⟨fun σ' H' => ∃ q3, σ' = [some (.ref S), some (.int (m : Int)), some (.int u), some (.ref D), some (.ref q3), some (.int (0 + (i : Int))), some v, some (.ref q2)] ∧ Same H6 H' ∧ q3 ≠ S ∧ q3 ≠ D ∧ Tl H' q3 (if l = [] then w0 else w0 ++ [cds ";"]), ?_, ?_⟩
          · walk_at "rdy"
            refine w_truL (SqL.of hD6) (fun hne => ?_) (fun hem => ?_)
            · walk_at "rdy"
              refine tl_new (u := [cds ";"]) rfl (by show 1 ≤ 1000000; decide) fun q4 H7 hq4 s7 h7 => ?_
              refine tl_cat (hw06.same s7) h7 (by show w0.length + 1 ≤ 1000000; omega) fun q5 H8 hq5 s8 h8 => ?_
              walk_at "rdy"
              have h0 : l ≠ [] := fun e => hne (by rw [e] at hvl; exact List.length_eq_zero_iff.mp hvl)
              refine ⟨q5, rfl, s7.trans s8, ((hSt6.mono s7).new hq5).1, (fun e => by rw [e, s7 _ _ hD6] at hq5; cases hq5), ?_⟩
              rw [if_neg h0]
              exact h8
            · have h0 : l = [] := List.length_eq_zero_iff.mp (by rw [← hvl, hem]; rfl)
              refine ⟨q, rfl, fun _ _ h => h, nq, nqD, ?_⟩
              rw [if_pos h0]
              exact hw06
          · rintro σ' H7 ⟨q3, rfl, s7, nq3, nq3D, hw3⟩
            walk_at "rdy"
            have hD7 := s7 _ _ hD6
            refine ⟨tyL (SqL.of hD7), ?_⟩
            walk_at "rdy"
            refine w_app2 hD7 (by omega) fun H8 h8 k8 => ?_
            walk_at "rdy"
            have hw38 : Tl H8 q3 _ := k8 _ _ nq3D hw3
            have hw18 : Tl H8 q2 _ := k8 _ _ nDq2 (hw6.same s7)
            refine tl_cat hw38 hw18 (by split; omega; rw [List.length_append]; show w0.length + 1 + _ ≤ _; omega) fun q6 H9 hq6 s9 h9 => ?_
            walk_at "rdy"
            have hSt8 := (hSt6.mono s7).grow nD k8
            have hT8 := TrsAt.snoc ((hv.same s7).but hD7 k8) ((hT6.same s7).but hD7 k8)
            have f8 := ((f5.trans f6).to s7).grow hD0 k8
            refine ⟨q6, vs ++ [v], l ++ [t], _, ns ++ n1, r6, _, _, _, rfl, hSt8.mono s9, by omega, f8.to s9, s9 _ _ h8, hT8.same s9, by rw [List.length_append]; show l.length + 1 ≤ i + 1; omega, f8.free (hSt8.new hq6).1 hq6, (hSt8.new hq6).1, (fun e => by rw [e, h8] at hq6; cases hq6), h9, bd_snoc e ha5, ?_, nod_app hn5 hn6, ?_⟩
            · refine tok_app ?_ ht6
              split
              · exact ht5
              · exact tok_app ht5 (wm1 (by decide +kernel))
            · have ec : wt [cds ";"] = 4 := by decide +kernel
              rw [wt_append]
              split
              · omega
              · rw [wt_append, ec]; omega
        · exact ⟨q, vs, l, w0, ns, r5, _, _, _, rfl, hSt5, hr5', f5, hD5, hT5, by omega, nq0', nq, nqD, hw5, ha5, ht5, hn5, hc5⟩
      · exact ⟨q, vs, l, w0, ns, r5, _, _, _, rfl, hSt5, hr5', f5, hD5, hT5, by omega, nq0', nq, nqD, hw5, ha5, ht5, hn5, hc5⟩
    · rintro σ' H5 ⟨q, vs, l, w0, ns, r5, x5, x6, x7, rfl, hSt5, hr5', f5, hD5, hT5, hl5, nq0', nq, nqD, hw5, ha5, ht5, hn5, hc5⟩
      walk_at "rdy"
      refine w_tupOf (SqL.of hD5) fun p H6 hp s6 h6 => ?_
      walk_at "rdy"
      refine w_newT (by show 2 ≤ 1000000; decide) fun p2 H11 hp2 s11 h11 => ?_
      have s511 := s6.trans s11
      exact kQ p2 (.ref p) q _ ns r5 H11 h11 ⟨l, .t (h6.same s11).sq (hT5.same s511), ha5⟩ (hw5.same s511) hn5 ht5 (by rw [Int.add_zero]; exact hc5) hr5' nq0' (hSt5.mono s511) (f5.to s511)
end
end
section
open PySem PySem.Spec PyProof.Rows L2
open C8 (Cal cal0 pe_c pe_gc pss_cut tCut)

def lvK (k : Int) : Nat := if k = 4 then 7 else if k = 5 then 3 else if k = 6 then 1 else if k = 7 then 2 else if k = 8 then 4 else if k = 9 then 5 else if k = 10 then 6 else if k ≤ 12 then 8 else 9
theorem wt1 {a : List Nat} {n : Nat} (h : a.length = n) : wt [a] = n + 3 := by show a.length + 3 + 0 = _; omega
theorem wt_cons (a : List Nat) (w : Ws) : wt (a :: w) = a.length + 3 + wt w := rfl
def spSides (K : PySem.W.Frag) (n : Nat) : Sp := fun vs H Q _ => ∃ (S L : Addr) (r z : Int) (kk : Int) (m : Nat), vs = [.ref S, .int kk, .int ((m + 1 : Nat) : Int)] ∧ StR H S L r z ∧ r ≤ 500 ∧ 0 < r ∧ 6 ≤ kk ∧ kk ≤ 10 ∧ 1 ≤ m ∧ m ≤ n ∧ Give S L r z H Q (okE K (m + 1) fun lv => lv = lvK kk) 0
def spGBlock (K : PySem.W.Frag) (n : Nat) : Sp := fun vs H Q _ => ∃ (S L : Addr) (r z : Int) (m : Nat), vs = [.ref S, .int ((m + 1 : Nat) : Int)] ∧ StR H S L r z ∧ r ≤ 500 ∧ m ≤ n ∧ Give S L r z H Q (okE K (m + 1) fun lv => lv = 9) 150
def spComp (K : PySem.W.Frag) (n : Nat) : Sp := fun vs H Q _ => ∃ (S L : Addr) (r z : Int) (kk : Int) (m : Nat), vs = [.ref S, .int kk, .int ((m + 1 : Nat) : Int)] ∧ StR H S L r z ∧ r ≤ 500 ∧ 0 < r ∧ 4 ≤ kk ∧ kk ≤ 15 ∧ 1 ≤ m ∧ m ≤ n ∧ Give S L r z H Q (okE K (m + 1) fun lv => lv = lvK kk) 160
theorem sides_pick {kk : Int} (h6 : 6 ≤ kk) (h10 : kk ≤ 10) {a1 a2 a3 a4 a5 : V} : ∃ (i : Nat), i < 5 ∧ kk = 6 + (i : Int) ∧ atI [a1, a2, a3, a4, a5] (kk - 6) = [a1, a2, a3, a4, a5][i]? := by
  obtain ⟨i, hi⟩ : ∃ i : Nat, kk = 6 + (i : Int) := ⟨(kk - 6).toNat, by omega⟩
  refine ⟨i, by omega, hi, ?_⟩
  have e : kk - 6 = (i : Int) := by omega
  rw [e]
  have hlt : i < [a1, a2, a3, a4, a5].length := by show i < 5; omega
  rw [List.getElem?_eq_getElem hlt]
  exact atI_nat (List.getElem?_eq_getElem hlt)
def sgL : List Ws := [[cds "or"], [cds "and"], [cds "=", cds "<", cds "<="], [cds "+", cds "-"], [cds "*", cds "/"]]
def sdL : List (Nat × Nat) := [(1, 2), (2, 3), (5, 5), (5, 6), (6, 7)]
theorem sg_facts : ∀ i < 5, ∀ s ∈ sgL.getD i [], behN.lookup s = some (lvK (6 + (i : Int))) ∧ s ≠ cds "." ∧ (if lvK (6 + (i : Int)) = 4 then 5 else lvK (6 + (i : Int))) ≤ (sdL.getD i (0, 0)).1 ∧ lvK (6 + (i : Int)) + 1 ≤ (sdL.getD i (0, 0)).2 ∧ (sdL.getD i (0, 0)).1 ≤ 9 ∧ (sdL.getD i (0, 0)).2 ≤ 9 ∧ s.length ≤ 3 ∧ s ∈ WM ∧ ((s = cds "and" ∨ s = cds "or") ↔ i < 2) := by decide +kernel
theorem sg_len : ∀ i < 5, 0 < (sgL.getD i []).length ∧ (sgL.getD i []).length ≤ 3 := by decide +kernel
section
variable {P : Program} {w : World} {K : PySem.W.Frag} {mg : Str → Option Value} {base : Heap} {k n : Nat}
abbrev s_law_sides : Stmt := topS 66
abbrev N_law_sides : List Str := ["state", "kind", "room", "left", "right", "signs", "sign", "one", "tokens", "two", "more"]
theorem sc_law_sides : FnScope N_law_sides ["state", "kind", "room"] (defScope s_law_sides) := ⟨rfl, rfl, rfl, by decide +kernel, rfl, by decide +kernel, by decide +kernel⟩
theorem ok_law_sides {f : Addr} {fd : FuncData} (F : Fun K "_law_sides" "_law_sides" s_law_sides f fd) (Y : Bn mg) (hk : 1 ≤ k) (c_law_draw : Cal P w K mg base 1 "_law_draw" spDraw []) (c_law_expression : Cal P w K mg base k "_law_expression" (spExpr K n) []) : FnOk P w K mg base CX0 (k + 1) f fd ["state", "kind", "room"] (spSides K n) := by
  refine F.ok sc_law_sides (fun vs H Q E h => ?_) (fun cdv A outer s H vs Q E hr h => ?_)
  · obtain ⟨S, L, r, z, kk, m, rfl, _⟩ := h
    rfl
  · obtain ⟨S, L, r, z, kk, m, rfl, hSt, hr5, hr0, h6, h10, hm1, hmn, kQ⟩ := h
    have nd := sc_law_sides.nd
    refine ⟨_, (pss_cons (ps_asg (pe_ix ix_list (pe_lst (pa_cons (pe_tup (pa_cons pe_int (pa_cons pe_int pa_nil))) (pa_cons (pe_tup (pa_cons pe_int (pa_cons pe_int pa_nil))) (pa_cons (pe_tup (pa_cons pe_int (pa_cons pe_int pa_nil))) (pa_cons (pe_tup (pa_cons pe_int (pa_cons pe_int pa_nil))) (pa_cons (pe_tup (pa_cons pe_int (pa_cons pe_int pa_nil))) pa_nil)))))) (pe_op op_sub (pv 1) pe_int) (fun _ _ => rfl)) (pg_tup (by rfl) (pgs_cons (pg_name (i := 3) nd rfl (Or.inl rfl)) (pgs_cons (pg_name (i := 4) nd rfl (Or.inl rfl)) pgs_nil))))
      (pss_cons (ps_set (i := 5) nd rfl (Or.inl rfl) (pe_ix ix_list (pe_lst (pa_cons (pe_lst (pa_cons pe_str pa_nil)) (pa_cons (pe_lst (pa_cons pe_str pa_nil)) (pa_cons (pe_lst (pa_cons pe_str (pa_cons pe_str (pa_cons pe_str pa_nil)))) (pa_cons (pe_lst (pa_cons pe_str (pa_cons pe_str pa_nil))) (pa_cons (pe_lst (pa_cons pe_str (pa_cons pe_str pa_nil))) pa_nil)))))) (pe_op op_sub (pv 1) pe_int) (fun _ _ => rfl)))
      (pss_cons (ps_set (i := 6) nd rfl (Or.inl rfl) (pe_ix ix_list (pv 5) (pe_c c_law_draw hr (by omega) rfl (pa_cons (pv 0) (pa_cons (pe_callB call_lenL (by rfl) Y.n_len (by decide +kernel) (pa_cons (pv 5) pa_nil)) pa_nil))) (fun _ _ => rfl)))
      (pss_cons (ps_asg (pe_c c_law_expression hr (by omega) rfl (pa_cons (pv 0) (pa_cons (pe_op op_sub (pv 2) pe_int) (pa_cons (pv 3) pa_nil)))) (pg_tup (by rfl) (pgs_cons (pg_name (i := 7) nd rfl (Or.inl rfl)) (pgs_cons (pg_name (i := 8) nd rfl (Or.inl rfl)) pgs_nil))))
      (pss_cons (ps_asg (pe_c c_law_expression hr (by omega) rfl (pa_cons (pv 0) (pa_cons (pe_op op_sub (pv 2) pe_int) (pa_cons (pv 4) pa_nil)))) (pg_tup (by rfl) (pgs_cons (pg_name (i := 9) nd rfl (Or.inl rfl)) (pgs_cons (pg_name (i := 10) nd rfl (Or.inl rfl)) pgs_nil))))
      (pss_cons (ps_if (pt_cmpR op_lt (pv 1) pe_int (nomark _)) (pss_one (ps_ret (pe_tup (pa_cons (pe_tup (pa_cons (pv 6) (pa_cons (pv 7) (pa_cons (pv 9) pa_nil)))) (pa_cons (pe_op op_cat (pe_op op_cat (pv 8) (pe_lst (pa_cons (pv 6) pa_nil))) (pv 10)) pa_nil))))) pss_nil)
      (pss_one (ps_ret (pe_tup (pa_cons (pe_tup (pa_cons pe_str (pa_cons (pv 6) (pa_cons (pv 7) (pa_cons (pv 9) pa_nil))))) (pa_cons (pe_op op_cat (pe_op op_cat (pv 8) (pe_lst (pa_cons (pv 6) pa_nil))) (pv 10)) pa_nil))))))))))), ?_⟩
    rw [show L2.start N_law_sides [.ref S, .int kk, .int ((m + 1 : Nat) : Int)] = [some (.ref S), some (.int kk), some (.int ((m + 1 : Nat) : Int)), none, none, none, none, none, none, none, none] from rfl]
    have em : ((m + 1 : Nat) : Int) - 1 = (m : Int) := by omega
    walk_at "rdy"
    refine w_newT (by show 2 ≤ 1000000; decide) fun p1 H1 hp1 s1 h1 => ?_
    walk_at "rdy"
    refine w_newT (by show 2 ≤ 1000000; decide) fun p2 H2 hp2 s2 h2 => ?_
    walk_at "rdy"
    refine w_newT (by show 2 ≤ 1000000; decide) fun p3 H3 hp3 s3 h3 => ?_
    walk_at "rdy"
    refine w_newT (by show 2 ≤ 1000000; decide) fun p4 H4 hp4 s4 h4 => ?_
    walk_at "rdy"
    refine w_newT (by show 2 ≤ 1000000; decide) fun p5 H5 hp5 s5 h5 => ?_
    walk_at "rdy"
    refine w_newL (by show 5 ≤ 1000000; decide) fun q0 H6 hq0 s6 h6' => ?_
    walk_at "rdy"
    obtain ⟨i, hi, ek, eat⟩ := sides_pick h6 h10 (a1 := V.ref p1) (a2 := .ref p2) (a3 := .ref p3) (a4 := .ref p4) (a5 := .ref p5)
    obtain ⟨pp, epp, hpp⟩ : ∃ pp, [V.ref p1, .ref p2, .ref p3, .ref p4, .ref p5][i]? = some (.ref pp) ∧ H6 pp = some (.tup [.int (((sdL.getD i (0, 0)).1 : Nat) : Int), .int (((sdL.getD i (0, 0)).2 : Nat) : Int)]) := by
      rcases (show i = 0 ∨ i = 1 ∨ i = 2 ∨ i = 3 ∨ i = 4 by omega) with rfl | rfl | rfl | rfl | rfl
      · exact ⟨p1, rfl, s6 _ _ (s5 _ _ (s4 _ _ (s3 _ _ (s2 _ _ h1))))⟩
      · exact ⟨p2, rfl, s6 _ _ (s5 _ _ (s4 _ _ (s3 _ _ h2)))⟩
      · exact ⟨p3, rfl, s6 _ _ (s5 _ _ (s4 _ _ h3))⟩
      · exact ⟨p4, rfl, s6 _ _ (s5 _ _ h4)⟩
      · exact ⟨p5, rfl, s6 _ _ h5⟩
    refine w_ixL (SqL.of h6') (by rw [eat, epp]) ?_
    walk_at "upy"
    have s16 := ((((s1.trans s2).trans s3).trans s4).trans s5).trans s6
    have hSt6 := hSt.mono s16
    refine tl_new (u := [cds "or"]) rfl (by show 1 ≤ 1000000; decide) fun t1 H7 ht1 s7 h7 => ?_
    walk_at "rdy"
    refine tl_new (u := [cds "and"]) rfl (by show 1 ≤ 1000000; decide) fun t2 H8 ht2 s8 h8 => ?_
    walk_at "rdy"
    refine tl_new (u := [cds "=", cds "<", cds "<="]) rfl (by show 3 ≤ 1000000; decide) fun t3 H9 ht3 s9 h9 => ?_
    walk_at "rdy"
    refine tl_new (u := [cds "+", cds "-"]) rfl (by show 2 ≤ 1000000; decide) fun t4 H10 ht4 s10 h10' => ?_
    walk_at "rdy"
    refine tl_new (u := [cds "*", cds "/"]) rfl (by show 2 ≤ 1000000; decide) fun t5 H11 ht5 s11 h11 => ?_
    walk_at "rdy"
    refine w_newL (by show 5 ≤ 1000000; decide) fun q1 H12 hq1 s12 h12 => ?_
    walk_at "rdy"
    obtain ⟨j, hj, ej, ejat⟩ := sides_pick h6 h10 (a1 := V.ref t1) (a2 := .ref t2) (a3 := .ref t3) (a4 := .ref t4) (a5 := .ref t5)
    have eji : j = i := by omega
    subst eji
    have s612 := ((((s7.trans s8).trans s9).trans s10).trans s11).trans s12
    have hSt12 := hSt6.mono s612
    obtain ⟨sa, esa, hsa, nsa⟩ : ∃ sa, [V.ref t1, .ref t2, .ref t3, .ref t4, .ref t5][j]? = some (.ref sa) ∧ Tl H12 sa (sgL.getD j []) ∧ sa ≠ S := by
      rcases (show j = 0 ∨ j = 1 ∨ j = 2 ∨ j = 3 ∨ j = 4 by omega) with rfl | rfl | rfl | rfl | rfl
      · exact ⟨t1, rfl, s12 _ _ (s11 _ _ (s10 _ _ (s9 _ _ (s8 _ _ h7)))), (hSt6.new ht1).1⟩
      · exact ⟨t2, rfl, s12 _ _ (s11 _ _ (s10 _ _ (s9 _ _ h8))), ((hSt6.mono s7).new ht2).1⟩
      · exact ⟨t3, rfl, s12 _ _ (s11 _ _ (s10 _ _ h9)), ((hSt6.mono (s7.trans s8)).new ht3).1⟩
      · exact ⟨t4, rfl, s12 _ _ (s11 _ _ h10'), ((hSt6.mono ((s7.trans s8).trans s9)).new ht4).1⟩
      · exact ⟨t5, rfl, s12 _ _ h11, ((hSt6.mono (((s7.trans s8).trans s9).trans s10)).new ht5).1⟩
    refine w_ixL (SqL.of h12) (by rw [ejat, esa]) ?_
    walk_at "rdy"
    obtain ⟨sl0, sl3⟩ := sg_len j hi
    refine use_draw hSt12 (by rw [List.length_map]; omega) (by rw [List.length_map]; omega) fun y H13 y0 y1 hSt13 f13 => ?_
    rw [List.length_map] at y1
    obtain ⟨sg, hsg, esg⟩ := pick_at (l := sgL.getD j []) rfl y0 y1
    refine w_ixL (SqL.of (Tl.fr f13 nsa hsa)) esg ?_
    walk_at "rdy"
    obtain ⟨b1, b2, b3, b4, b5, b6, b7, b8, b9⟩ := sg_facts j hi sg hsg
    rw [← ek] at b1 b3 b4
    rw [em]
    have f0 : Fr S H H13 := (((Fr.refl S H).to s16).to s612).trans f13
    refine ⟨S, L, r, z, m, _, rfl, hSt13, hr5, hm1, hmn, b5, fun pa va qa wa na ra Ha hpa oka hwa hna hta hca hra nqa hSta fa => ?_⟩
    obtain ⟨lva, ta, hlva, hva, ea⟩ := oka
    rw [if_pos hr0] at hca
    walk_at "upy"
    rw [em]
    refine ⟨S, L, ra, z, m, _, rfl, hSta, by omega, hm1, hmn, b6, fun pb vb qb wb nb rb Hb hpb okb hwb hnb htb hcb hrb nqb hStb fb => ?_⟩
    obtain ⟨lvb, tb, hlvb, hvb, eb⟩ := okb
    have hcb2 : (wt wb : Int) + Phi rb ≤ Phi ra + 20 := by split at hcb <;> omega
    walk_at "upy"
    have nqaS := (hSt13.new nqa).1
    have hva2 := hSta.tr fb hva
    have hwa2 := Tl.fr fb nqaS hwa
    have lwa : wa.length ≤ 7200 := w_len_of hca hr5 (by decide)
    have lwb : wb.length ≤ 7200 := w_len_of hcb2 (by omega) (by decide)
    have fin : ∀ {Hc Hd He Hf Hg : Hp} {pt q4 q5 q6 p6 : Addr} {vs : List V}, vs = (if (j < 2) then [T sg, va, vb] else [T (cds "op"), T sg, va, vb]) → Same Hb Hc → Hc pt = some (.tup vs) → Same Hc Hd → Same Hd He → Same He Hf → Hf q6 = some (.lst ((wa ++ [sg] ++ wb).map T)) → He q6 = none → Same Hf Hg → Hg p6 = some (.tup [.ref pt, .ref q6]) → Q (.ref p6) Hg := fun {Hc Hd He Hf Hg pt q4 q5 q6 p6 vs} hvs sc hc sd se sf hf hq6 sg' hg => by
      have sbg := (((sc.trans sd).trans se).trans sf).trans sg'
      have stc := sd.trans (se.trans (sf.trans sg'))
      have e := Ex.bin b1 b2 (Nat.le_trans b3 hlva.1) ea (Nat.le_trans b4 hlvb.1) eb
      have htr : TrAt K Hg (.ref pt) (binT sg ta tb) := by
        unfold binT
        by_cases h2 : j < 2
        · rw [if_pos h2] at hvs
          rw [if_pos (b9.mpr h2)]
          subst hvs
          exact .t (.inl (.inl (stc _ _ hc))) (.cons .s (.cons (hva2.same sbg) (.cons (hvb.same sbg) .nil)))
        · rw [if_neg h2] at hvs
          rw [if_neg (fun z => h2 (b9.mp z))]
          subst hvs
          exact .t (.inl (.inl (stc _ _ hc))) (.cons .s (.cons .s (.cons (hva2.same sbg) (.cons (hvb.same sbg) .nil))))
      have ew : wa ++ [sg] ++ wb = wa ++ sg :: wb := by rw [List.append_assoc]; rfl
      rw [ew] at hf
      have fbf : Fr S H He := (((((f0.trans fa).trans fb).to sc).to sd).to se)
      refine kQ p6 (.ref pt) q6 _ (na ++ nb) rb Hg hg ⟨lvK kk, _, rfl, htr, e⟩ (sg' _ _ hf) (nod_app hna hnb) ?_ ?_ (by omega) (fbf.free ((((hStb.mono sc).mono sd).mono se).new hq6).1 hq6) (((((hStb.mono sc).mono sd).mono se).mono sf).mono sg') ((fbf.to sf).to sg')
      · intro x hx
        rcases List.mem_append.mp hx with hx | hx
        · exact hta x hx
        · rcases List.mem_cons.mp hx with rfl | hx
          · exact wm_tok _ b8
          · exact htb x hx
      · rw [wt_append, wt_cons]; omega
    refine w_if (fun h8 => ?_) (fun h8 => ?_)
    · walk_at "rdy"
      refine w_newT (by show 3 ≤ 1000000; decide) fun pt Hc hpt sc hc => ?_
      walk_at "rdy"
      refine tl_new (u := [sg]) rfl (by show 1 ≤ 1000000; decide) fun q4 Hd hq4 sd hd => ?_
      refine tl_cat ((hwa2.same sc).same sd) hd (by show _ + 1 ≤ _; omega) fun q5 He hq5 se he => ?_
      walk_at "rdy"
      refine tl_cat he (((hwb.same sc).same sd).same se) (by rw [List.length_append]; show _ + 1 + _ ≤ _; omega) fun q6 Hf hq6 sf hf => ?_
      walk_at "rdy"
      refine w_newT (by show 2 ≤ 1000000; decide) fun p6 Hg hp6 sg' hg => ?_
      exact fin (q4 := q4) (q5 := q5) (by rw [if_pos (by omega)]) sc hc sd se sf hf hq6 sg' hg
    · walk_at "rdy"
      refine w_newT (by show 4 ≤ 1000000; decide) fun pt Hc hpt sc hc => ?_
      walk_at "rdy"
      refine tl_new (u := [sg]) rfl (by show 1 ≤ 1000000; decide) fun q4 Hd hq4 sd hd => ?_
      refine tl_cat ((hwa2.same sc).same sd) hd (by show _ + 1 ≤ _; omega) fun q5 He hq5 se he => ?_
      walk_at "rdy"
      refine tl_cat he (((hwb.same sc).same sd).same se) (by rw [List.length_append]; show _ + 1 + _ ≤ _; omega) fun q6 Hf hq6 sf hf => ?_
      walk_at "rdy"
      refine w_newT (by show 2 ≤ 1000000; decide) fun p6 Hg hp6 sg' hg => ?_
      exact fin (q4 := q4) (q5 := q5) (by rw [if_neg (by omega)]; rfl) sc hc sd se sf hf hq6 sg' hg
abbrev s_law_block : Stmt := topS 68
abbrev N_law_block : List Str := ["state", "room", "names", "trees", "tokens"]
theorem sc_law_block : FnScope N_law_block ["state", "room"] (defScope s_law_block) := ⟨rfl, rfl, rfl, by decide +kernel, rfl, by decide +kernel, by decide +kernel⟩
theorem ok_law_block {f : Addr} {fd : FuncData} (F : Fun K "_law_block" "_law_block" s_law_block f fd) (Y : Bn mg) (hk : 4 ≤ k) (c_law_draw : Cal P w K mg base 1 "_law_draw" spDraw []) (c_law_names : Cal P w K mg base 4 "_law_names" spGNames []) (c_law_commas : Cal P w K mg base 1 "_law_commas" spCommas []) (c_law_body : Cal P w K mg base k "_law_body" (spBody K n) []) : FnOk P w K mg base CX0 (k + 1) f fd ["state", "room"] (spGBlock K n) := by
  refine F.ok sc_law_block (fun vs H Q E h => ?_) (fun cdv A outer s H vs Q E hr h => ?_)
  · obtain ⟨S, L, r, z, m, rfl, _⟩ := h
    rfl
  · obtain ⟨S, L, r, z, m, rfl, hSt, hr5, hmn, kQ⟩ := h
    have nd := sc_law_block.nd
    refine ⟨_, (pss_cons (ps_set (i := 2) nd rfl (Or.inl rfl) (pe_c c_law_names hr (by omega) rfl (pa_cons (pv 0) (pa_cons (pe_c c_law_draw hr (by omega) rfl (pa_cons (pv 0) (pa_cons pe_int pa_nil))) (pa_cons (pe_lst pa_nil) pa_nil)))))
      (pss_cons (ps_asg (pe_c c_law_body hr (by omega) rfl (pa_cons (pv 0) (pa_cons (pe_op op_sub (pv 1) pe_int) (pa_cons pe_int pa_nil)))) (pg_tup (by rfl) (pgs_cons (pg_name (i := 3) nd rfl (Or.inl rfl)) (pgs_cons (pg_name (i := 4) nd rfl (Or.inl rfl)) pgs_nil))))
      (pss_cut (ps_if (pt_tru (pv 2)) (pss_one (ps_set (i := 4) nd rfl (Or.inl rfl) (pe_op op_cat (pe_op op_cat (pe_c c_law_commas hr (by omega) rfl (pa_cons (pv 2) pa_nil)) (pe_lst (pa_cons pe_str pa_nil))) (pv 4)))) pss_nil)
      (pss_one (ps_ret (pe_tup (pa_cons (pe_tup (pa_cons pe_str (pa_cons (pe_callTy call_tupleOf (by rfl) Y.n_tuple (by decide +kernel) (pa_cons (pv 2) pa_nil)) (pa_cons (pv 3) pa_nil)))) (pa_cons (pe_op op_cat (pe_op op_cat (pe_lst (pa_cons pe_str pa_nil)) (pv 4)) (pe_lst (pa_cons pe_str pa_nil))) pa_nil)))))))), ?_⟩
    rw [show L2.start N_law_block [.ref S, .int ((m + 1 : Nat) : Int)] = [some (.ref S), some (.int ((m + 1 : Nat) : Int)), none, none, none] from rfl]
    have em : ((m + 1 : Nat) : Int) - 1 = (m : Int) := by omega
    walk_at "rdy"
    refine use_draw hSt (by decide) (by decide) fun c H1 c0 c1 hSt1 f1 => ?_
    walk_at "rdy"
    refine tl_new (u := []) rfl (by show 0 ≤ 1000000; decide) fun q0 H2 hq0 s2 h2 => ?_
    walk_at "rdy"
    refine ⟨S, L, q0, r, z, c, [], rfl, hSt1.mono s2, h2, (hSt1.new hq0).1, c0, by omega, fun qn ps r3 H3 hnd _ hnm hpl hqn nqn hr3 hSt3 f3 => ?_⟩
    walk_at "rdy"
    rw [em]
    have f03 := (f1.to s2).trans f3
    refine ⟨S, L, r3, z, m, 3, rfl, hSt3, by omega, hmn, by decide, by decide, fun pb vb qb wb nb rb H4 hpb okb hwb hnb htb hcb hrb nqb hSt4 f4 => ?_⟩
    obtain ⟨l, hl, eb⟩ := okb
    walk_at "upy"
    have nqnS := ((hSt1.mono s2).new nqn).1
    have hqn4 := Tl.fr f4 nqnS hqn
    have lwb : wb.length ≤ 7200 := w_len_of hcb (by omega) (by decide)
    have f04 := f03.trans f4
    have nqbS := (hSt3.new nqb).1
    have pml := Phi_mono hr3
    have wps : ∀ {l : Ws}, (∀ x ∈ l, IsName x) → wt (commas l) ≤ 28 * l.length := fun {l} hn => by
      have wf : ∀ l : Ws, (∀ x ∈ l, IsName x) → wt (l.flatMap fun b => [cds ",", b]) ≤ 28 * l.length := fun l => by
        induction l with
        | nil => intro _; exact Nat.le_refl _
        | cons b l ih =>
          intro hn
          have := ih fun x hx => hn x (List.mem_cons_of_mem _ hx)
          have hb := RunOf.len (hn b List.mem_cons_self).1
          have e1 : (cds ",").length = 1 := by decide +kernel
          rw [List.flatMap_cons, wt_append, List.length_cons]
          show (cds ",").length + 3 + (b.length + 3 + 0) + _ ≤ _
          omega
      cases l with
      | nil => exact Nat.le_refl _
      | cons a l =>
        have := wf l fun x hx => hn x (List.mem_cons_of_mem _ hx)
        have hb := RunOf.len (hn a List.mem_cons_self).1
        rw [commas_cons, wt_cons, List.length_cons]
        omega
    have tps : ∀ {l : Ws}, (∀ x ∈ l, IsName x) → ∀ x ∈ commas l, Tok x := fun {l} hn => by
      cases l with
      | nil => intro x hx; exact absurd hx List.not_mem_nil
      | cons a l =>
        intro x hx
        rw [commas_cons] at hx
        rcases List.mem_cons.mp hx with rfl | hx
        · exact name_tok (hn _ List.mem_cons_self)
        · obtain ⟨b, hb, hx⟩ := List.mem_flatMap.mp hx
          rcases List.mem_cons.mp hx with rfl | hx
          · exact wm_tok _ (by decide +kernel)
          · rw [List.mem_singleton.mp hx]; exact name_tok (hn b (List.mem_cons_of_mem _ hb))
    have hps4 : ps.length ≤ 4 := by omega
    refine ⟨fun σ' H' => ∃ (q5 : Addr) (w5 : Ws), σ' = [some (.ref S), some (.int ((m + 1 : Nat) : Int)), some (.ref qn), some vb, some (.ref q5)] ∧ Same H4 H' ∧ Tl H' q5 w5 ∧ w5 = (if ps = [] then wb else commas ps ++ cds "|" :: wb), ?_, ?_⟩
    · walk_at "rdy"
      refine w_truL (SqL.of hqn4) (fun hne => ?_) (fun hem => ?_)
      · have hp0 : ps ≠ [] := fun e => hne (by rw [e]; rfl)
        have cl := commas_len hp0
        walk_at "rdy"
        refine ⟨qn, ps, rfl, hqn4, by omega, fun qc H5 hqc nqc s5 => ?_⟩
        walk_at "rdy"
        refine tl_new (u := [cds "|"]) rfl (by show 1 ≤ 1000000; decide) fun q6 H6 hq6 s6 h6 => ?_
        refine tl_cat (hqc.same s6) h6 (by show _ + 1 ≤ _; omega) fun q7 H7 hq7 s7 h7 => ?_
        walk_at "rdy"
        refine tl_cat h7 (((hwb.same s5).same s6).same s7) (by rw [List.length_append]; show _ + 1 + _ ≤ _; omega) fun q8 H8 hq8 s8 h8 => ?_
        walk_at "rdy"
        refine ⟨q8, _, rfl, ((s5.trans s6).trans s7).trans s8, h8, ?_⟩
        rw [if_neg hp0, List.append_assoc]
        rfl
      · have hp0 : ps = [] := by
          cases ps with
          | nil => rfl
          | cons a l => cases hem
        exact ⟨qb, wb, rfl, fun _ _ h => h, hwb, by rw [if_pos hp0]⟩
    · rintro σ' H5 ⟨q5, w5, rfl, s5, h5, ew5⟩
      have lw5 : w5.length ≤ 7300 := by
        rw [ew5]
        split
        · omega
        · rename_i hp0
          have cl := commas_len hp0
          rw [List.length_append, List.length_cons]; omega
      walk_at "rdy"
      refine w_tupOf (SqL.of (hqn4.same s5)) fun pn H6 hpn s6 h6 => ?_
      walk_at "rdy"
      refine w_newT (by show 3 ≤ 1000000; decide) fun pt H7 hpt s7 h7 => ?_
      walk_at "rdy"
      refine tl_new (u := [cds "{"]) rfl (by show 1 ≤ 1000000; decide) fun q8 H8 hq8 s8 h8 => ?_
      walk_at "rdy"
      refine tl_cat h8 (((h5.same s6).same s7).same s8) (by show 1 + _ ≤ _; omega) fun q9 H9 hq9 s9 h9 => ?_
      walk_at "rdy"
      refine tl_new (u := [cds "}"]) rfl (by show 1 ≤ 1000000; decide) fun q10 H10 hq10 s10 h10 => ?_
      refine tl_cat (h9.same s10) h10 (by rw [List.length_append]; show 1 + _ + 1 ≤ _; omega) fun q11 H11 hq11 s11 h11 => ?_
      walk_at "rdy"
      refine w_newT (by show 2 ≤ 1000000; decide) fun p12 H12 hp12 s12 h12 => ?_
      have s7e := (((s8.trans s9).trans s10).trans s11).trans s12
      have s4e := ((s5.trans s6).trans s7).trans s7e
      have s10' := ((((((s5.trans s6).trans s7).trans s8).trans s9).trans s10))
      have e1 : (cds "{").length = 1 := by decide +kernel
      have e2 : (cds "}").length = 1 := by decide +kernel
      have e3 : (cds "|").length = 1 := by decide +kernel
      have ew : [cds "{"] ++ w5 ++ [cds "}"] = cds "{" :: (w5 ++ [cds "}"]) := rfl
      rw [ew] at h11
      have hnod : ∀ x ∈ (if ps = [] then nb else ps :: nb), x.Nodup := by
        split
        · exact hnb
        · intro x hx
          rcases List.mem_cons.mp hx with rfl | hx
          · exact hnd
          · exact hnb x hx
      have hnm' : ∀ x ∈ ps, isNm x := fun x hx => name_nm (hnm x hx)
      have htr : TrAt K H12 (.ref pt) (.t [str "block", .t (ps.map Tr.s), .t l]) := .t (.inl (.inl (s7e _ _ h7))) (.cons .s (.cons (.t (h6.same (s7.trans s7e)).sq (trs_texts ps)) (.cons (hl.same s4e) .nil)))
      have hex : Ex 9 (m + 1) (.t [str "block", .t (ps.map Tr.s), .t l]) (cds "{" :: (w5 ++ [cds "}"])) (if ps = [] then nb else ps :: nb) := by
        rw [ew5]
        by_cases hp0 : ps = []
        · rw [if_pos hp0, if_pos hp0, hp0]; exact .blk0 eb
        · rw [if_neg hp0, if_neg hp0, List.append_assoc]; exact .blk hp0 hps4 hnm' eb
      refine kQ p12 (.ref pt) q11 _ _ rb H12 h12 ⟨9, _, rfl, htr, hex⟩ (h11.same s12) hnod ?_ ?_ (by omega) ((f04.to s10').free ((hSt4.mono s10').new hq11).1 hq11) (hSt4.mono s4e) (f04.to s4e)
      · intro x hx
        rcases List.mem_cons.mp hx with rfl | hx
        · exact wm_tok _ (by decide +kernel)
        · rcases List.mem_append.mp hx with hx | hx
          · rw [ew5] at hx
            split at hx
            · exact htb x hx
            · rcases List.mem_append.mp hx with hx | hx
              · exact tps hnm x hx
              · rcases List.mem_cons.mp hx with rfl | hx
                · exact wm_tok _ (by decide +kernel)
                · exact htb x hx
          · rw [List.mem_singleton.mp hx]; exact wm_tok _ (by decide +kernel)
      · have ec : wt [cds "}"] = 4 := by decide +kernel
        have ww := wps hnm
        rw [wt_cons, wt_append, ec, e1, ew5]
        split
        · omega
        · rw [wt_append, wt_cons, e3]; omega
abbrev s_law_compound : Stmt := topS 69
abbrev N_law_compound : List Str := ["state", "kind", "room", "tree", "tokens", "name", "parts", "more"]
theorem sc_law_compound : FnScope N_law_compound ["state", "kind", "room"] (defScope s_law_compound) := ⟨rfl, rfl, rfl, by decide +kernel, rfl, by decide +kernel, by decide +kernel⟩
theorem ok_law_compound {f : Addr} {fd : FuncData} (F : Fun K "_law_compound" "_law_compound" s_law_compound f fd) (Y : Bn mg) (hk : 3 ≤ k) (c_law_expression : Cal P w K mg base k "_law_expression" (spExpr K n) []) (c_law_sides : Cal P w K mg base k "_law_sides" (spSides K n) []) (c_law_name : Cal P w K mg base 3 "_law_name" (spTx IsName 1) [])
    (c_law_list : Cal P w K mg base k "_law_list" (spList K n) []) (c_law_block : Cal P w K mg base k "_law_block" (spGBlock K n) []) : FnOk P w K mg base CX0 (k + 1) f fd ["state", "kind", "room"] (spComp K n) := by
  refine F.ok sc_law_compound (fun vs H Q E h => ?_) (fun cdv A outer s H vs Q E hr h => ?_)
  · obtain ⟨S, L, r, z, kk, m, rfl, _⟩ := h
    rfl
  · obtain ⟨S, L, r, z, kk, m, rfl, hSt, hr5, hr0, h4, h15, hm1, hmn, kQ⟩ := h
    have nd := sc_law_compound.nd
    refine ⟨_, (pss_cons (ps_if (pt_cmpR op_eq (pv 1) pe_int (nomark _)) (pss_cons (ps_asg (pe_c c_law_expression hr (by omega) rfl (pa_cons (pv 0) (pa_cons (pe_op op_sub (pv 2) pe_int) (pa_cons pe_int pa_nil)))) (pg_tup (by rfl) (pgs_cons (pg_name (i := 3) nd rfl (Or.inl rfl)) (pgs_cons (pg_name (i := 4) nd rfl (Or.inl rfl)) pgs_nil))))
      (pss_one (ps_ret (pe_tup (pa_cons (pe_tup (pa_cons pe_str (pa_cons (pv 3) pa_nil))) (pa_cons (pe_op op_cat (pe_lst (pa_cons pe_str pa_nil)) (pv 4)) pa_nil)))))) pss_nil)
      (pss_cons (ps_if (pt_cmpR op_eq (pv 1) pe_int (nomark _)) (pss_cons (ps_asg (pe_c c_law_expression hr (by omega) rfl (pa_cons (pv 0) (pa_cons (pe_op op_sub (pv 2) pe_int) (pa_cons pe_int pa_nil)))) (pg_tup (by rfl) (pgs_cons (pg_name (i := 3) nd rfl (Or.inl rfl)) (pgs_cons (pg_name (i := 4) nd rfl (Or.inl rfl)) pgs_nil))))
      (pss_one (ps_ret (pe_tup (pa_cons (pe_tup (pa_cons pe_str (pa_cons (pv 3) pa_nil))) (pa_cons (pe_op op_cat (pe_lst (pa_cons pe_str pa_nil)) (pv 4)) pa_nil)))))) pss_nil)
      (pss_cons (ps_if (pt_cmpR op_lt (pv 1) pe_int (nomark _)) (pss_one (ps_ret (pe_c c_law_sides hr (by omega) rfl (pa_cons (pv 0) (pa_cons (pv 1) (pa_cons (pv 2) pa_nil)))))) pss_nil)
      (pss_cons (ps_if (pt_cmpR op_lt (pv 1) pe_int (nomark _)) (pss_cons (ps_asg (pe_c c_law_expression hr (by omega) rfl (pa_cons (pv 0) (pa_cons (pe_op op_sub (pv 2) pe_int) (pa_cons pe_int pa_nil)))) (pg_tup (by rfl) (pgs_cons (pg_name (i := 3) nd rfl (Or.inl rfl)) (pgs_cons (pg_name (i := 4) nd rfl (Or.inl rfl)) pgs_nil))))
      (pss_cons (ps_set (i := 5) nd rfl (Or.inl rfl) (pe_c c_law_name hr (by omega) rfl (pa_cons (pv 0) pa_nil)))
      (pss_cons (ps_asg (pe_c c_law_list hr (by omega) rfl (pa_cons (pv 0) (pa_cons (pe_op op_sub (pv 2) pe_int) pa_nil))) (pg_tup (by rfl) (pgs_cons (pg_name (i := 6) nd rfl (Or.inl rfl)) (pgs_cons (pg_name (i := 7) nd rfl (Or.inl rfl)) pgs_nil))))
      (pss_one (ps_ret (pe_tup (pa_cons (pe_tup (pa_cons pe_str (pa_cons (pv 3) (pa_cons (pv 5) (pa_cons (pv 6) pa_nil))))) (pa_cons (pe_op op_cat (pe_op op_cat (pv 4) (pe_lst (pa_cons pe_str (pa_cons (pv 5) pa_nil)))) (pv 7)) pa_nil)))))))) pss_nil)
      (pss_cons (ps_if (pt_cmpR op_eq (pv 1) pe_int (nomark _)) (pss_cons (ps_set (i := 5) nd rfl (Or.inl rfl) (pe_c c_law_name hr (by omega) rfl (pa_cons (pv 0) pa_nil)))
      (pss_cons (ps_asg (pe_c c_law_list hr (by omega) rfl (pa_cons (pv 0) (pa_cons (pe_op op_sub (pv 2) pe_int) pa_nil))) (pg_tup (by rfl) (pgs_cons (pg_name (i := 6) nd rfl (Or.inl rfl)) (pgs_cons (pg_name (i := 7) nd rfl (Or.inl rfl)) pgs_nil))))
      (pss_one (ps_ret (pe_tup (pa_cons (pe_tup (pa_cons pe_str (pa_cons (pv 5) (pa_cons (pv 6) pa_nil)))) (pa_cons (pe_op op_cat (pe_lst (pa_cons pe_str (pa_cons pe_str (pa_cons (pv 5) pa_nil)))) (pv 7)) pa_nil))))))) pss_nil)
      (pss_one (ps_ret (pe_c c_law_block hr (by omega) rfl (pa_cons (pv 0) (pa_cons (pv 2) pa_nil)))))))))), ?_⟩
    rw [show L2.start N_law_compound [.ref S, .int kk, .int ((m + 1 : Nat) : Int)] = [some (.ref S), some (.int kk), some (.int ((m + 1 : Nat) : Int)), none, none, none, none, none] from rfl]
    have em : ((m + 1 : Nat) : Int) - 1 = (m : Int) := by omega
    walk_at "rdy"
    refine w_ifI (fun k4 => ?_) (fun k4 => ?_)
    · walk_at "rdy"
      rw [em]
      refine ⟨S, L, r, z, m, 7, rfl, hSt, hr5, hm1, hmn, by decide, fun pa va qa wa na ra Ha hpa oka hwa hna hta hca hra nqa hSta fa => ?_⟩
      obtain ⟨lva, ta, hlva, hva, ea⟩ := oka
      rw [if_pos hr0] at hca
      have lwa : wa.length ≤ 7200 := w_len_of hca hr5 (by decide)
      walk_at "upy"
      refine w_newT (by show 2 ≤ 1000000; decide) fun pt Hc hpt sc hc => ?_
      walk_at "rdy"
      refine tl_new (u := [cds "-"]) rfl (by show 1 ≤ 1000000; decide) fun q4 Hd hq4 sd hd => ?_
      walk_at "rdy"
      refine tl_cat hd ((hwa.same sc).same sd) (by show 1 + _ ≤ _; omega) fun q5 He hq5 se he => ?_
      walk_at "rdy"
      refine w_newT (by show 2 ≤ 1000000; decide) fun p6 Hg hp6 sg hg => ?_
      have e1 : (cds "-").length = 1 := by decide +kernel
      refine kQ p6 (.ref pt) q5 _ na ra Hg hg ⟨7, _, by rw [k4]; rfl, .t (.inl (.inl (sg _ _ (se _ _ (sd _ _ hc))))) (.cons .s (.cons (hva.same (((sc.trans sd).trans se).trans sg)) .nil)), .neg hlva.1 ea⟩ (he.same sg) hna (fun x hx => ?_) ?_ hra (((fa.to sc).to sd).free (((hSta.mono sc).mono sd).new hq5).1 hq5) ((((hSta.mono sc).mono sd).mono se).mono sg) ((((fa.to sc).to sd).to se).to sg)
      · rcases List.mem_cons.mp hx with rfl | hx
        · exact wm_tok _ (by decide +kernel)
        · exact hta x hx
      · show ((wt (cds "-" :: wa) : Nat) : Int) + _ ≤ _
        rw [wt_cons]; omega
    · walk_at "rdy"
      refine w_ifI (fun k5 => ?_) (fun k5 => ?_)
      · walk_at "rdy"
        rw [em]
        refine ⟨S, L, r, z, m, 3, rfl, hSt, hr5, hm1, hmn, by decide, fun pa va qa wa na ra Ha hpa oka hwa hna hta hca hra nqa hSta fa => ?_⟩
        obtain ⟨lva, ta, hlva, hva, ea⟩ := oka
        rw [if_pos hr0] at hca
        have lwa : wa.length ≤ 7200 := w_len_of hca hr5 (by decide)
        walk_at "upy"
        refine w_newT (by show 2 ≤ 1000000; decide) fun pt Hc hpt sc hc => ?_
        walk_at "rdy"
        refine tl_new (u := [cds "not"]) rfl (by show 1 ≤ 1000000; decide) fun q4 Hd hq4 sd hd => ?_
        walk_at "rdy"
        refine tl_cat hd ((hwa.same sc).same sd) (by show 1 + _ ≤ _; omega) fun q5 He hq5 se he => ?_
        walk_at "rdy"
        refine w_newT (by show 2 ≤ 1000000; decide) fun p6 Hg hp6 sg hg => ?_
        have e1 : (cds "not").length = 3 := by decide +kernel
        refine kQ p6 (.ref pt) q5 _ na ra Hg hg ⟨3, _, by rw [k5]; rfl, .t (.inl (.inl (sg _ _ (se _ _ (sd _ _ hc))))) (.cons .s (.cons (hva.same (((sc.trans sd).trans se).trans sg)) .nil)), .not hlva.1 ea⟩ (he.same sg) hna (fun x hx => ?_) ?_ hra (((fa.to sc).to sd).free (((hSta.mono sc).mono sd).new hq5).1 hq5) ((((hSta.mono sc).mono sd).mono se).mono sg) ((((fa.to sc).to sd).to se).to sg)
        · rcases List.mem_cons.mp hx with rfl | hx
          · exact wm_tok _ (by decide +kernel)
          · exact hta x hx
        · show ((wt (cds "not" :: wa) : Nat) : Int) + _ ≤ _
          rw [wt_cons]; omega
      · walk_at "rdy"
        refine w_if (fun k11 => ?_) (fun k11 => ?_)
        · walk_at "rdy"
          refine ⟨S, L, r, z, kk, m, rfl, hSt, hr5, hr0, by omega, by omega, hm1, hmn, fun pa va qa wa na ra Ha hpa oka hwa hna hta hca hra nqa hSta fa => ?_⟩
          exact kQ pa va qa wa na ra Ha hpa oka hwa hna hta (by omega) hra nqa hSta fa
        · walk_at "rdy"
          refine w_if (fun k13 => ?_) (fun k13 => ?_)
          · walk_at "rdy"
            rw [em]
            refine ⟨S, L, r, z, m, 8, rfl, hSt, hr5, hm1, hmn, by decide, fun pa va qa wa na ra Ha hpa oka hwa hna hta hca hra nqa hSta fa => ?_⟩
            obtain ⟨lva, ta, hlva, hva, ea⟩ := oka
            rw [if_pos hr0] at hca
            have lwa : wa.length ≤ 7200 := w_len_of hca hr5 (by decide)
            walk_at "upy"
            refine use_tx hSta fun x rx Hx hx hxr hxr2 hStx fx => ?_
            walk_at "rdy"
            rw [em]
            refine ⟨S, L, rx, z, m, rfl, hStx, by omega, hm1, hmn, fun pb vb qb wb nb rb Hb hpb okb hwb hnb htb hcb hrb nqb hStb fb => ?_⟩
            obtain ⟨l, w0, ew0, hl, eb⟩ := okb
            have lwb : wb.length ≤ 7200 := w_len_of hcb (by omega) (by decide)
            walk_at "upy"
            have nqaS := (hSt.new nqa).1
            have hva2 := hStx.tr fb (hSta.tr fx hva)
            have hwa2 := Tl.fr fb nqaS (Tl.fr fx nqaS hwa)
            refine w_newT (by show 4 ≤ 1000000; decide) fun pt Hc hpt sc hc => ?_
            walk_at "rdy"
            refine tl_new (u := [cds ".", x]) rfl (by show 2 ≤ 1000000; decide) fun q4 Hd hq4 sd hd => ?_
            refine tl_cat ((hwa2.same sc).same sd) hd (by show _ + 2 ≤ _; omega) fun q5 He hq5 se he => ?_
            walk_at "rdy"
            refine tl_cat he (((hwb.same sc).same sd).same se) (by rw [List.length_append]; show _ + 2 + _ ≤ _; omega) fun q6 Hf hq6 sf hf => ?_
            walk_at "rdy"
            refine w_newT (by show 2 ≤ 1000000; decide) fun p6 Hg hp6 sg hg => ?_
            have e1 : (cds ".").length = 1 := by decide +kernel
            have xl := RunOf.len hx.1
            have pm := Phi_mono hxr2
            have ew : wa ++ [cds ".", x] ++ wb = wa ++ cds "." :: x :: cds "(" :: (w0 ++ [cds ")"]) := by rw [List.append_assoc, ew0]; rfl
            have elv : (8 : Nat) = lvK kk := by
              unfold lvK
              rw [if_neg k4, if_neg k5, if_neg (by omega), if_neg (by omega), if_neg (by omega), if_neg (by omega), if_neg (by omega), if_pos (by omega)]
            have f3 := (fa.trans fx).trans fb
            refine kQ p6 (.ref pt) q6 _ (na ++ nb) rb Hg hg ⟨8, _, elv, .t (.inl (.inl (sg _ _ (sf _ _ (se _ _ (sd _ _ hc)))))) (.cons .s (.cons (hva2.same ((((sc.trans sd).trans se).trans sf).trans sg)) (.cons .s (.cons (hl.same ((((sc.trans sd).trans se).trans sf).trans sg)) .nil)))), (by rw [ew]; exact .send hlva.1 ea (name_nm hx) eb)⟩ (hf.same sg) (nod_app hna hnb) (fun y hy => ?_) ?_ (by omega) ((((f3.to sc).to sd).to se).free ((((hStb.mono sc).mono sd).mono se).new hq6).1 hq6) (((((hStb.mono sc).mono sd).mono se).mono sf).mono sg) (((((f3.to sc).to sd).to se).to sf).to sg)
            · rcases List.mem_append.mp hy with hy | hy
              · rcases List.mem_append.mp hy with hy | hy
                · exact hta y hy
                · rcases List.mem_cons.mp hy with rfl | hy
                  · exact wm_tok _ (by decide +kernel)
                  · rw [List.mem_singleton.mp hy]; exact name_tok hx
              · exact htb y hy
            · have ec : wt [cds ".", x] = 4 + (x.length + 3) := by rw [wt_cons, e1, wt1 rfl]
              rw [wt_append, wt_append, ec]; omega
          · walk_at "rdy"
            refine w_ifI (fun k13' => ?_) (fun k13' => ?_)
            · walk_at "rdy"
              refine use_tx hSt fun x rx Hx hx hxr hxr2 hStx fx => ?_
              walk_at "rdy"
              rw [em]
              refine ⟨S, L, rx, z, m, rfl, hStx, by omega, hm1, hmn, fun pb vb qb wb nb rb Hb hpb okb hwb hnb htb hcb hrb nqb hStb fb => ?_⟩
              obtain ⟨l, w0, ew0, hl, eb⟩ := okb
              have lwb : wb.length ≤ 7200 := w_len_of hcb (by omega) (by decide)
              walk_at "upy"
              refine w_newT (by show 3 ≤ 1000000; decide) fun pt Hc hpt sc hc => ?_
              walk_at "rdy"
              refine tl_new (u := [cds "super", cds ".", x]) rfl (by show 3 ≤ 1000000; decide) fun q4 Hd hq4 sd hd => ?_
              walk_at "rdy"
              refine tl_cat hd ((hwb.same sc).same sd) (by show 3 + _ ≤ _; omega) fun q5 He hq5 se he => ?_
              walk_at "rdy"
              refine w_newT (by show 2 ≤ 1000000; decide) fun p6 Hg hp6 sg hg => ?_
              have e1 : (cds ".").length = 1 := by decide +kernel
              have e2 : (cds "super").length = 5 := by decide +kernel
              have xl := RunOf.len hx.1
              have pm := Phi_mono hxr2
              have ew : [cds "super", cds ".", x] ++ wb = cds "super" :: cds "." :: x :: cds "(" :: (w0 ++ [cds ")"]) := by rw [ew0]; rfl
              have elv : (9 : Nat) = lvK kk := by rw [k13']; rfl
              have f3 := fx.trans fb
              refine kQ p6 (.ref pt) q5 _ nb rb Hg hg ⟨9, _, elv, .t (.inl (.inl (sg _ _ (se _ _ (sd _ _ hc))))) (.cons .s (.cons .s (.cons (hl.same (((sc.trans sd).trans se).trans sg)) .nil))), (by rw [ew]; exact .sup (name_nm hx) eb)⟩ (he.same sg) hnb (fun y hy => ?_) ?_ (by omega) (((f3.to sc).to sd).free (((hStb.mono sc).mono sd).new hq5).1 hq5) ((((hStb.mono sc).mono sd).mono se).mono sg) ((((f3.to sc).to sd).to se).to sg)
              · rcases List.mem_append.mp hy with hy | hy
                · rcases List.mem_cons.mp hy with rfl | hy
                  · exact wm_tok _ (by decide +kernel)
                  · rcases List.mem_cons.mp hy with rfl | hy
                    · exact wm_tok _ (by decide +kernel)
                    · rw [List.mem_singleton.mp hy]; exact name_tok hx
                · exact htb y hy
              · have ec : wt [cds "super", cds ".", x] = 8 + (4 + (x.length + 3)) := by rw [wt_cons, e2, wt_cons, e1, wt1 rfl]
                rw [wt_append, ec]; omega
            · walk_at "rdy"
              refine ⟨S, L, r, z, m, rfl, hSt, hr5, hmn, fun pa va qa wa na ra Ha hpa oka hwa hna hta hca hra nqa hSta fa => ?_⟩
              obtain ⟨lva, ta, hlva, hva, ea⟩ := oka
              have elv : (9 : Nat) = lvK kk := by
                unfold lvK
                rw [if_neg k4, if_neg k5, if_neg (by omega), if_neg (by omega), if_neg (by omega), if_neg (by omega), if_neg (by omega), if_neg (by omega)]
              exact kQ pa va qa wa na ra Ha hpa ⟨lva, ta, by rw [hlva, elv], hva, ea⟩ hwa hna hta (by omega) hra nqa hSta fa
end
end
section
open PySem PySem.Spec PyProof.Rows L2
open C8 (Cal cal0 pe_c pe_gc pss_cut tCut)

def lvA (k : Int) : Nat := if k < 4 then 9 else lvK k
theorem lv_pick {kk : Int} (h0 : 0 ≤ kk) (h1 : kk < 16) : atI [V.int 9, .int 9, .int 9, .int 9, .int 7, .int 3, .int 1, .int 2, .int 4, .int 5, .int 6, .int 8, .int 8, .int 9, .int 9, .int 9] kk = some (.int ((lvA kk : Nat) : Int)) := by
  have : kk = 0 ∨ kk = 1 ∨ kk = 2 ∨ kk = 3 ∨ kk = 4 ∨ kk = 5 ∨ kk = 6 ∨ kk = 7 ∨ kk = 8 ∨ kk = 9 ∨ kk = 10 ∨ kk = 11 ∨ kk = 12 ∨ kk = 13 ∨ kk = 14 ∨ kk = 15 := by omega
  rcases this with rfl | rfl | rfl | rfl | rfl | rfl | rfl | rfl | rfl | rfl | rfl | rfl | rfl | rfl | rfl | rfl <;> rfl
theorem lvA_pos (kk : Int) : 1 ≤ lvA kk := by unfold lvA lvK; repeat' split
                                              all_goals omega
def spChc (K : PySem.W.Frag) (n : Nat) : Sp := fun vs H Q _ => ∃ (S L : Addr) (r z : Int) (m : Nat), vs = [.ref S, .int ((m + 1 : Nat) : Int)] ∧ StR H S L r z ∧ r ≤ 500 ∧ 1 ≤ m ∧ m ≤ n ∧ Give S L r z H Q (okS K (m + 1)) 60
section
variable {P : Program} {w : World} {K : PySem.W.Frag} {mg : Str → Option Value} {base : Heap} {k n : Nat}
abbrev s_law_expression : Stmt := topS 70
abbrev N_law_expression : List Str := ["state", "room", "asked", "kind", "spare", "level", "bracket", "tree", "tokens"]
theorem sc_law_expression : FnScope N_law_expression ["state", "room", "asked"] (defScope s_law_expression) := ⟨rfl, rfl, rfl, by decide +kernel, rfl, by decide +kernel, by decide +kernel⟩
theorem ok_law_expression {f : Addr} {fd : FuncData} (F : Fun K "_law_expression" "_law_expression" s_law_expression f fd) (Y : Bn mg) (hk : 4 ≤ k) (c_law_draw : Cal P w K mg base 1 "_law_draw" spDraw []) (c_law_leaf : Cal P w K mg base 4 "_law_leaf" (spLeaf K) []) (c_law_compound : Cal P w K mg base k "_law_compound" (spComp K n) []) :
    FnOk P w K mg base CX0 (k + 1) f fd ["state", "room", "asked"] (spExpr K (n + 1)) := by
  refine F.ok sc_law_expression (fun vs H Q E h => ?_) (fun cdv A outer s H vs Q E hr h => ?_)
  · obtain ⟨S, L, r, z, m, a, rfl, _⟩ := h
    rfl
  · obtain ⟨S, L, r, z, m, a, rfl, hSt, hr5, hm1, hmn, ha9, kQ⟩ := h
    have nd := sc_law_expression.nd
    refine ⟨_, (pss_cons (ps_set (i := 3) nd rfl (Or.inl rfl) (pe_c c_law_draw hr (by omega) rfl (pa_cons (pv 0) (pa_cons pe_int pa_nil))))
      (pss_cons (ps_asg (pe_op op_sub (pe_ix ix_list (pv 0) pe_int (fun _ _ => rfl)) pe_int) (pg_sub (pv 0) pe_int set_list))
      (pss_cut (ps_set (i := 4) nd rfl (Or.inl rfl) (pe_and (pe_cmpR op_gt (pe_ix ix_list (pv 0) pe_int (fun _ _ => rfl)) pe_int (nomark _)) (pe_one (pe_cmpR op_eq (pe_c c_law_draw hr (by omega) rfl (pa_cons (pv 0) (pa_cons pe_int pa_nil))) pe_int (nomark _)))))
      (pss_cons (ps_set (i := 5) nd rfl (Or.inl rfl) (pe_ix ix_list (pe_lst (pa_cons pe_int (pa_cons pe_int (pa_cons pe_int (pa_cons pe_int (pa_cons pe_int (pa_cons pe_int (pa_cons pe_int (pa_cons pe_int (pa_cons pe_int (pa_cons pe_int (pa_cons pe_int (pa_cons pe_int (pa_cons pe_int (pa_cons pe_int (pa_cons pe_int (pa_cons pe_int pa_nil))))))))))))))))) (pv 3) (fun _ _ => rfl)))
      (pss_cut (ps_set (i := 6) nd rfl (Or.inl rfl) (pe_or (pv 4) (pe_one (pe_cmpR op_lt (pv 5) (pv 2) (nomark _)))))
      (pss_cut (ps_if (PW.pt (pw_or (pt_cmpR op_le (pe_ix ix_list (pv 0) pe_int (fun _ _ => rfl)) pe_int (nomark _)) (pw_or (pt_cmpR op_lt (pv 3) pe_int (nomark _)) (pw_or1 (pt_cmpR op_lt (pe_op op_sub (pv 1) (pe_callTy call_intI (by rfl) Y.n_int (by decide +kernel) (pa_cons (pv 6) pa_nil))) pe_int (nomark _)))))) (pss_cons (ps_set (i := 6) nd rfl (Or.inl rfl) (pe_and (pv 4) (pe_one (pe_cmpR op_gt (pv 1) pe_int (nomark _)))))
      (pss_one (ps_asg (pe_c c_law_leaf hr (by omega) rfl (pa_cons (pv 0) pa_nil)) (pg_tup (by rfl) (pgs_cons (pg_name (i := 7) nd rfl (Or.inl rfl)) (pgs_cons (pg_name (i := 8) nd rfl (Or.inl rfl)) pgs_nil)))))) (pss_one (ps_asg (pe_c c_law_compound hr (by omega) rfl (pa_cons (pv 0) (pa_cons (pv 3) (pa_cons (pe_op op_sub (pv 1) (pe_callTy call_intI (by rfl) Y.n_int (by decide +kernel) (pa_cons (pv 6) pa_nil))) pa_nil)))) (pg_tup (by rfl) (pgs_cons (pg_name (i := 7) nd rfl (Or.inl rfl)) (pgs_cons (pg_name (i := 8) nd rfl (Or.inl rfl)) pgs_nil))))))
      (pss_cut (ps_if (pt_val (pv 6)) (pss_one (ps_set (i := 8) nd rfl (Or.inl rfl) (pe_op op_cat (pe_op op_cat (pe_lst (pa_cons pe_str pa_nil)) (pv 8)) (pe_lst (pa_cons pe_str pa_nil))))) pss_nil)
      (pss_one (ps_ret (pe_tup (pa_cons (pv 7) (pa_cons (pv 8) pa_nil)))))))))))), ?_⟩
    rw [show L2.start N_law_expression [.ref S, .int (m : Int), .int (a : Int)] = [some (.ref S), some (.int (m : Int)), some (.int (a : Int)), none, none, none, none, none, none] from rfl]
    walk_at "rdy"
    refine use_draw hSt (by decide) (by decide) fun kk H1 k0 k15 hSt1 f1 => ?_
    obtain ⟨i1, c1, x1, b1, hS1⟩ := hSt1.obj
    walk_at "rdy"
    refine w_stset hS1 rfl fun H2 hS2 f2 => ?_
    have hSt2 := hSt1.put5 hS1 hS2 f2
    have f12 := f1.trans f2
    walk_at "rdy"
    refine ⟨fun σ' H' => ∃ b : Bool, σ' = [some (.ref S), some (.int (m : Int)), some (.int (a : Int)), some (.int kk), some (.bl b), none, none, none, none] ∧ StR H' S L (r - 8) z ∧ Fr S H H', ?_, ?_⟩
    · walk_at "rdy"
      refine w_if (fun hz => ?_) (fun hz => ?_)
      · walk_at "rdy"
        refine use_draw hSt2 (by decide) (by decide) fun y H3 y0 y1 hSt3 f3 => ?_
        walk_at "rdy"
        exact ⟨_, rfl, hSt3, f12.trans f3⟩
      · walk_at "rdy"
        exact ⟨_, rfl, hSt2, f12⟩
    · rintro σ' H3 ⟨b, rfl, hSt3, f3⟩
      walk_at "rdy"
      refine w_newL (by show 16 ≤ 1000000; decide) fun qL H4 hqL s4 h4 => ?_
      walk_at "rdy"
      refine w_ixL (SqL.of h4) (lv_pick k0 k15) ?_
      walk_at "rdy"
      have hSt4 := hSt3.mono s4
      have f4 := f3.to s4
      refine ⟨fun σ' H' => H' = H4 ∧ ∃ brk : Bool, σ' = [some (.ref S), some (.int (m : Int)), some (.int (a : Int)), some (.int kk), some (.bl b), some (.int ((lvA kk : Nat) : Int)), some (.bl brk), none, none] ∧ (brk = false → a ≤ lvA kk), ?_, ?_⟩
      · walk_at "rdy"
        refine w_ifb (fun hb => ?_) (fun hb => ?_)
        · walk_at "rdy"
          exact ⟨rfl, true, rfl, fun h => Bool.noConfusion h⟩
        · walk_at "rdy"
          refine ⟨rfl, _, rfl, fun h => ?_⟩
          have := of_decide_eq_false h
          omega
      · rintro σ' H5 ⟨rfl, brk, rfl, hbrk⟩
        obtain ⟨i4, c4, x4, b4, hS4⟩ := hSt4.obj
        walk_at "rdy"
        refine ⟨fun σ' H' => ∃ (bk : Bool) (v : V) (q : Addr) (t : Tr) (lv hm : Nat) (w0 : Ws) (ns : List Ws) (r' : Int), σ' = [some (.ref S), some (.int (m : Int)), some (.int (a : Int)), some (.int kk), some (.bl b), some (.int ((lvA kk : Nat) : Int)), some (.bl bk), some v, some (.ref q)] ∧
            StR H' S L r' z ∧ Fr S H H' ∧ TrAt K H' v t ∧ Tl H' q w0 ∧ Ex lv hm t w0 ns ∧ m = hm + (if bk = true then 1 else 0) ∧ 1 ≤ hm ∧ (bk = false → a ≤ lv) ∧ 1 ≤ lv ∧ (∀ l ∈ ns, l.Nodup) ∧ (∀ x ∈ w0, Tok x) ∧ (wt w0 : Int) + Phi r' ≤ Phi r + (if 0 < r then -110 else 12) ∧ r' ≤ r ∧ H q = none, ?_, ?_⟩
        · have lf : ∀ bk : Bool, (bk = true → 2 ≤ m) → ∃ hm, m = (hm + 1) + (if bk = true then 1 else 0) := fun bk hbk => by
            cases bk with
            | true => exact ⟨m - 2, by have := hbk rfl; rw [if_pos rfl]; omega⟩
            | false => exact ⟨m - 1, by rw [if_neg Bool.false_ne_true]; omega⟩
          have doLeaf : ∀ bk : Bool, (bk = true → 2 ≤ m) → ∀ {G : V → Hp → Prop}, (∀ p v q t hm w0 r' H', H' p = some (.tup [v, .ref q]) → StR H' S L r' z → Fr S H H' → TrAt K H' v t → Tl H' q w0 → Ex 9 (hm + 1) t w0 [] → m = (hm + 1) + (if bk = true then 1 else 0) → (∀ x ∈ w0, Tok x) → (wt w0 : Int) + Phi r' ≤ Phi r + (if 0 < r then -110 else 12) → r' ≤ r → H q = none → G (.ref p) H') → spLeaf K ([.ref S] ++ []) H5 G L2.E0 := fun bk hbk {G} k => by
            obtain ⟨hm, ehm⟩ := lf bk hbk
            exact ⟨S, L, r - 8, z, rfl, hSt4, fun p v q t w0 r' H' hp hv hw e ht hc hc2 hr' nq hS' f' => k p v q t hm w0 r' H' hp hS' (f4.trans f') hv hw (e hm) ehm ht (by
              by_cases hs : 0 < r - 8
              · have e1 : Phi (r - 8) = Phi r - 320 := by unfold Phi; rw [if_pos hs, if_pos (by omega)]; omega
                rw [if_pos (by omega)]; omega
              · have e0 : Phi r' = 0 := by unfold Phi; rw [if_neg (by omega)]
                have := hc2 (by omega)
                by_cases hr0 : 0 < r
                · have e1 : 440 ≤ Phi r := by unfold Phi; rw [if_pos hr0]; omega
                  rw [if_pos hr0]; omega
                · have e1 : Phi r = 0 := by unfold Phi; rw [if_neg hr0]
                  rw [if_neg hr0]; omega) (by omega) (f4.free (hSt4.new nq).1 nq)⟩
          walk_at "rdy"
          refine w_if (fun hs0 => ?_) (fun hs0 => ?_)
          · walk_at "rdy"
            refine w_ifb (fun hb => ?_) (fun hb => ?_)
            · walk_at "rdy"
              refine doLeaf (decide (1 < (m : Int))) (fun h => by have := of_decide_eq_true h; omega) fun p v q t hm w0 r' H' hp hS' f' hv hw e em ht hc hr' nq => ?_
              walk_at "upy"
              exact ⟨_, v, q, t, 9, hm + 1, w0, [], r', rfl, hS', f', hv, hw, e, em, by omega, fun _ => ha9, by decide, (fun l hl => absurd hl List.not_mem_nil), ht, hc, hr', nq⟩
            · walk_at "rdy"
              refine doLeaf false (fun h => Bool.noConfusion h) fun p v q t hm w0 r' H' hp hS' f' hv hw e em ht hc hr' nq => ?_
              walk_at "upy"
              exact ⟨_, v, q, t, 9, hm + 1, w0, [], r', rfl, hS', f', hv, hw, e, em, by omega, fun _ => ha9, by decide, (fun l hl => absurd hl List.not_mem_nil), ht, hc, hr', nq⟩
          · walk_at "rdy"
            refine w_if (fun hk4 => ?_) (fun hk4 => ?_)
            · walk_at "rdy"
              refine w_ifb (fun hb => ?_) (fun hb => ?_)
              · walk_at "rdy"
                refine doLeaf (decide (1 < (m : Int))) (fun h => by have := of_decide_eq_true h; omega) fun p v q t hm w0 r' H' hp hS' f' hv hw e em ht hc hr' nq => ?_
                walk_at "upy"
                exact ⟨_, v, q, t, 9, hm + 1, w0, [], r', rfl, hS', f', hv, hw, e, em, by omega, fun _ => ha9, by decide, (fun l hl => absurd hl List.not_mem_nil), ht, hc, hr', nq⟩
              · walk_at "rdy"
                refine doLeaf false (fun h => Bool.noConfusion h) fun p v q t hm w0 r' H' hp hS' f' hv hw e em ht hc hr' nq => ?_
                walk_at "upy"
                exact ⟨_, v, q, t, 9, hm + 1, w0, [], r', rfl, hS', f', hv, hw, e, em, by omega, fun _ => ha9, by decide, (fun l hl => absurd hl List.not_mem_nil), ht, hc, hr', nq⟩
            · walk_at "rdy"
              refine w_if (fun hm2 => ?_) (fun hm2 => ?_)
              · walk_at "rdy"
                refine w_ifb (fun hb => ?_) (fun hb => ?_)
                · walk_at "rdy"
                  refine doLeaf (decide (1 < (m : Int))) (fun h => by have := of_decide_eq_true h; omega) fun p v q t hm w0 r' H' hp hS' f' hv hw e em ht hc hr' nq => ?_
                  walk_at "upy"
                  exact ⟨_, v, q, t, 9, hm + 1, w0, [], r', rfl, hS', f', hv, hw, e, em, by omega, fun _ => ha9, by decide, (fun l hl => absurd hl List.not_mem_nil), ht, hc, hr', nq⟩
                · walk_at "rdy"
                  refine doLeaf false (fun h => Bool.noConfusion h) fun p v q t hm w0 r' H' hp hS' f' hv hw e em ht hc hr' nq => ?_
                  walk_at "upy"
                  exact ⟨_, v, q, t, 9, hm + 1, w0, [], r', rfl, hS', f', hv, hw, e, em, by omega, fun _ => ha9, by decide, (fun l hl => absurd hl List.not_mem_nil), ht, hc, hr', nq⟩
              · walk_at "rdy"
                obtain ⟨m', em', em''⟩ : ∃ m' : Nat, (m : Int) - (if brk = true then 1 else 0) = ((m' + 1 : Nat) : Int) ∧ m = m' + 1 + (if brk = true then 1 else 0) := by
                  cases brk with
                  | true => exact ⟨m - 2, by rw [if_pos rfl] at hm2 ⊢; omega, by rw [if_pos rfl] at hm2 ⊢; omega⟩
                  | false => exact ⟨m - 1, by rw [if_neg Bool.false_ne_true] at hm2 ⊢; omega, by rw [if_neg Bool.false_ne_true] at hm2 ⊢; omega⟩
                rw [em'] at hm2 ⊢
                refine ⟨S, L, r - 8, z, kk, m', rfl, hSt4, by omega, by omega, by omega, by omega, by omega, by (cases brk with | true => rw [if_pos rfl] at em''; omega | false => rw [if_neg Bool.false_ne_true] at em''; omega), fun p v q w0 ns r' H' hp hok hw hn ht hc hr' nq hS' f' => ?_⟩
                obtain ⟨lv, t, hlv, hv, e⟩ := hok
                walk_at "upy"
                have elv : lvA kk = lv := by rw [hlv]; exact if_neg (by omega)
                refine ⟨brk, v, q, t, lv, m' + 1, w0, ns, r', rfl, hS', f4.trans f', hv, hw, e, em'', by omega, fun h => by rw [← elv]; exact hbrk h, by rw [← elv]; exact lvA_pos kk, hn, ht, ?_, by omega, f4.free (hSt4.new nq).1 nq⟩
                have e1 : Phi (r - 8) = Phi r - 320 := by unfold Phi; rw [if_pos (by omega), if_pos (by omega)]; omega
                rw [if_pos (by omega)]; omega
        · rintro σ' H6 ⟨bk, v, q, t, lv, hm, w0, ns, r6, rfl, hSt6, f6, hv6, hw6, e6, em6, hm6, hbk6, hlv6, hn6, ht6, hc6, hr6, nq6⟩
          have lw0 : w0.length ≤ 7200 := w_len_of hc6 hr5 (by split <;> decide)
          walk_at "rdy"
          refine ⟨fun σ' H' => ∃ (q' : Addr) (w1 : Ws), σ' = [some (.ref S), some (.int (m : Int)), some (.int (a : Int)), some (.int kk), some (.bl b), some (.int ((lvA kk : Nat) : Int)), some (.bl bk), some v, some (.ref q')] ∧ Same H6 H' ∧ Tl H' q' w1 ∧ H q' = none ∧ w1 = (if bk = true then cds "(" :: (w0 ++ [cds ")"]) else w0), ?_, ?_⟩
          · walk_at "rdy"
            refine w_ifb (fun hb => ?_) (fun hb => ?_)
            · walk_at "rdy"
              refine tl_new (u := [cds "("]) rfl (by show 1 ≤ 1000000; decide) fun q8 H8 hq8 s8 h8 => ?_
              walk_at "rdy"
              refine tl_cat h8 (hw6.same s8) (by show 1 + _ ≤ _; omega) fun q9 H9 hq9 s9 h9 => ?_
              walk_at "rdy"
              refine tl_new (u := [cds ")"]) rfl (by show 1 ≤ 1000000; decide) fun q10 H10 hq10 s10 h10 => ?_
              refine tl_cat (h9.same s10) h10 (by rw [List.length_append]; show 1 + _ + 1 ≤ _; omega) fun q11 H11 hq11 s11 h11 => ?_
              walk_at "rdy"
              exact ⟨q11, _, rfl, ((s8.trans s9).trans s10).trans s11, h11, (f6.to ((s8.trans s9).trans s10)).free ((hSt6.mono ((s8.trans s9).trans s10)).new hq11).1 hq11, by rw [if_pos hb]; rfl⟩
            · exact ⟨q, w0, rfl, fun _ _ h => h, hw6, nq6, by rw [if_neg (by rw [hb]; exact Bool.false_ne_true)]⟩
          · rintro σ' H7 ⟨q', w1, rfl, s7, hw7, nq7, ew1⟩
            walk_at "rdy"
            refine w_newT (by show 2 ≤ 1000000; decide) fun p8 H8 hp8 s8 h8 => ?_
            have s78 := s7.trans s8
            cases bk with
            | true =>
              rw [if_pos rfl] at ew1 em6
              subst ew1
              have e1 : (cds "(").length = 1 := by decide +kernel
              have ec : wt [cds ")"] = 4 := by decide +kernel
              subst em6
              refine kQ p8 v q' _ ns r6 H8 h8 ⟨9, t, ⟨ha9, by decide⟩, hv6.same s78, .par hlv6 e6⟩ (hw7.same s8) hn6 (fun x hx => ?_) ?_ hr6 nq7 (hSt6.mono s78) (f6.to s78)
              · rcases List.mem_cons.mp hx with rfl | hx
                · exact wm_tok _ (by decide +kernel)
                · rcases List.mem_append.mp hx with hx | hx
                  · exact ht6 x hx
                  · rw [List.mem_singleton.mp hx]; exact wm_tok _ (by decide +kernel)
              · rw [wt_cons, wt_append, ec, e1]
                split at hc6 <;> split <;> omega
            | false =>
              rw [if_neg Bool.false_ne_true] at ew1 em6
              subst ew1
              have em : m = hm := em6
              subst em
              refine kQ p8 v q' _ ns r6 H8 h8 ⟨lv, t, ⟨hbk6 rfl, hlv6⟩, hv6.same s78, e6⟩ (hw7.same s8) hn6 ht6 ?_ hr6 nq7 (hSt6.mono s78) (f6.to s78)
              split at hc6 <;> split <;> omega
abbrev s_law_choice : Stmt := topS 72
abbrev N_law_choice : List Str := ["state", "room", "test", "tokens", "body", "more", "other", "last"]
theorem sc_law_choice : FnScope N_law_choice ["state", "room"] (defScope s_law_choice) := ⟨rfl, rfl, rfl, by decide +kernel, rfl, by decide +kernel, by decide +kernel⟩
theorem ok_law_choice {f : Addr} {fd : FuncData} (F : Fun K "_law_choice" "_law_choice" s_law_choice f fd) (Y : Bn mg) (hk : 1 ≤ k) (c_law_draw : Cal P w K mg base 1 "_law_draw" spDraw []) (c_law_expression : Cal P w K mg base k "_law_expression" (spExpr K n) []) (c_law_body : Cal P w K mg base k "_law_body" (spBody K n) []) :
    FnOk P w K mg base CX0 (k + 1) f fd ["state", "room"] (spChc K n) := by
  refine F.ok sc_law_choice (fun vs H Q E h => ?_) (fun cdv A outer s H vs Q E hr h => ?_)
  · obtain ⟨S, L, r, z, m, rfl, _⟩ := h
    rfl
  · obtain ⟨S, L, r, z, m, rfl, hSt, hr5, hm1, hmn, kQ⟩ := h
    have nd := sc_law_choice.nd
    refine ⟨_, (pss_cons (ps_asg (pe_c c_law_expression hr (by omega) rfl (pa_cons (pv 0) (pa_cons (pe_op op_sub (pv 1) pe_int) (pa_cons pe_int pa_nil)))) (pg_tup (by rfl) (pgs_cons (pg_name (i := 2) nd rfl (Or.inl rfl)) (pgs_cons (pg_name (i := 3) nd rfl (Or.inl rfl)) pgs_nil))))
      (pss_cons (ps_asg (pe_c c_law_body hr (by omega) rfl (pa_cons (pv 0) (pa_cons (pe_op op_sub (pv 1) pe_int) (pa_cons pe_int pa_nil)))) (pg_tup (by rfl) (pgs_cons (pg_name (i := 4) nd rfl (Or.inl rfl)) (pgs_cons (pg_name (i := 5) nd rfl (Or.inl rfl)) pgs_nil))))
      (pss_cons (ps_asg (pe_c c_law_body hr (by omega) rfl (pa_cons (pv 0) (pa_cons (pe_op op_sub (pv 1) pe_int) (pa_cons pe_int pa_nil)))) (pg_tup (by rfl) (pgs_cons (pg_name (i := 6) nd rfl (Or.inl rfl)) (pgs_cons (pg_name (i := 7) nd rfl (Or.inl rfl)) pgs_nil))))
      (pss_cons (ps_set (i := 3) nd rfl (Or.inl rfl) (pe_op op_cat (pe_op op_cat (pe_op op_cat (pe_lst (pa_cons pe_str pa_nil)) (pv 3)) (pe_lst (pa_cons pe_str pa_nil))) (pv 5)))
      (pss_cut (ps_if (PW.pt (pw_or (pt_tru (pv 6)) (pw_or1 (PW.pt (pw_and (pt_cmpR op_gt (pe_ix ix_list (pv 0) pe_int (fun _ _ => rfl)) pe_int (nomark _)) (pw_and1 (pt_cmpR op_eq (pe_c c_law_draw hr (by omega) rfl (pa_cons (pv 0) (pa_cons pe_int pa_nil))) pe_int (nomark _)))))))) (pss_one (ps_set (i := 3) nd rfl (Or.inl rfl) (pe_op op_cat (pe_op op_cat (pv 3) (pe_lst (pa_cons pe_str pa_nil))) (pv 7)))) pss_nil)
      (pss_one (ps_ret (pe_tup (pa_cons (pe_tup (pa_cons pe_str (pa_cons (pv 2) (pa_cons (pv 4) (pa_cons (pv 6) pa_nil))))) (pa_cons (pe_op op_cat (pv 3) (pe_lst (pa_cons pe_str pa_nil))) pa_nil)))))))))), ?_⟩
    rw [show L2.start N_law_choice [.ref S, .int ((m + 1 : Nat) : Int)] = [some (.ref S), some (.int ((m + 1 : Nat) : Int)), none, none, none, none, none, none] from rfl]
    have em : ((m + 1 : Nat) : Int) - 1 = (m : Int) := by omega
    walk_at "rdy"
    rw [em]
    refine ⟨S, L, r, z, m, 1, rfl, hSt, hr5, hm1, hmn, by decide, fun pa va qa wa na ra Ha hpa oka hwa hna hta hca hra nqa hSta fa => ?_⟩
    obtain ⟨lva, ta, hlva, hva, ea⟩ := oka
    have hca2 : (wt wa : Int) + Phi ra ≤ Phi r + 20 := by split at hca <;> omega
    walk_at "upy"
    rw [em]
    refine ⟨S, L, ra, z, m, 4, rfl, hSta, by omega, hmn, by decide, by decide, fun pb vb qb wb nb rb Hb hpb okb hwb hnb htb hcb hrb nqb hStb fb => ?_⟩
    obtain ⟨lb, hvb, eb⟩ := okb
    walk_at "upy"
    rw [em]
    refine ⟨S, L, rb, z, m, 3, rfl, hStb, by omega, hmn, by decide, by decide, fun pc vc qc wc nc rc Hc hpc okc hwc hnc htc hcc hrc nqc hStc fc => ?_⟩
    obtain ⟨lc, hvc, ec⟩ := okc
    walk_at "upy"
    have nqaS := (hSt.new nqa).1
    have nqbS := (hSta.new nqb).1
    have lwa : wa.length ≤ 7200 := w_len_of hca2 hr5 (by decide)
    have lwb : wb.length ≤ 7200 := w_len_of hcb (by omega) (by decide)
    have lwc : wc.length ≤ 7200 := w_len_of hcc (by omega) (by decide)
    have hvac := hStb.tr fc (hSta.tr fb hva)
    have hvbc := hStb.tr fc hvb
    have hwac := Tl.fr fc nqaS (Tl.fr fb nqaS hwa)
    have hwbc := Tl.fr fc nqbS hwb
    have f3 := (fa.trans fb).trans fc
    refine tl_new (u := [cds "if"]) rfl (by show 1 ≤ 1000000; decide) fun q4 Hd hq4 sd hd => ?_
    walk_at "rdy"
    refine tl_cat hd (hwac.same sd) (by show 1 + _ ≤ _; omega) fun q5 He hq5 se he => ?_
    walk_at "rdy"
    refine tl_new (u := [cds "then"]) rfl (by show 1 ≤ 1000000; decide) fun q6 Hf hq6 sf hf => ?_
    refine tl_cat (he.same sf) hf (by rw [List.length_append]; show 1 + _ + 1 ≤ _; omega) fun q7 Hg hq7 sg hg => ?_
    walk_at "rdy"
    refine tl_cat hg ((((hwbc.same sd).same se).same sf).same sg) (by rw [List.length_append, List.length_append]; show 1 + _ + 1 + _ ≤ _; omega) fun q8 Hh hq8 sh hh => ?_
    walk_at "rdy"
    have sch := (((sd.trans se).trans sf).trans sg).trans sh
    obtain ⟨pco, vco, hpco, hvco⟩ : ∃ (pc' : Addr) (vs : List V), vc = .ref pc' ∧ (SqT K Hh pc' vs ∧ TrsAt K Hh vs lc) := by
      cases hvc.same sch with
      | t a b => exact ⟨_, _, rfl, a, b⟩
    have hSth := hStc.mono sch
    have nq8 := (hStc.mono (((sd.trans se).trans sf).trans sg)).new hq8
    obtain ⟨i8, c8, x8, b8, hS8⟩ := hSth.obj
    refine ⟨fun σ' H' => ∃ (q9 : Addr) (w9 : Ws), σ' = [some (.ref S), some (.int ((m + 1 : Nat) : Int)), some va, some (.ref q9), some vb, some (.ref qb), some vc, some (.ref qc)] ∧ StR H' S L rc z ∧ Fr S Hh H' ∧ Tl H' q9 w9 ∧ ((w9 = [cds "if"] ++ wa ++ [cds "then"] ++ wb ∧ lc = []) ∨ w9 = [cds "if"] ++ wa ++ [cds "then"] ++ wb ++ [cds "else"] ++ wc), ?_, ?_⟩
    · have tails : ∀ H2, StR H2 S L rc z → Fr S Hh H2 → rCat (.ref q8) (.ref q8) H2 (fun _ _ => True) → True := fun _ _ _ _ => True.intro
      subst hpco
      walk_at "rdy"
      refine w_truT hvco.1 (fun hne => ?_) (fun hem => ?_)
      · walk_at "rdy"
        refine tl_new (u := [cds "else"]) rfl (by show 1 ≤ 1000000; decide) fun q9 Hi hq9 si hi => ?_
        refine tl_cat (hh.same si) hi (by rw [List.length_append, List.length_append, List.length_append]; show 1 + _ + 1 + _ + 1 ≤ _; omega) fun q10 Hj hq10 sj hj => ?_
        walk_at "rdy"
        refine tl_cat hj (((hwc.same sch).same si).same sj) (by rw [List.length_append, List.length_append, List.length_append, List.length_append]; show 1 + _ + 1 + _ + 1 + _ ≤ _; omega) fun q11 Hk hq11 sk hk' => ?_
        walk_at "rdy"
        exact ⟨q11, _, rfl, ((hSth.mono si).mono sj).mono sk, (((Fr.refl S Hh).to si).to sj).to sk, hk', .inr rfl⟩
      · have hlc : lc = [] := List.length_eq_zero_iff.mp (by rw [← hvco.2.length, hem]; rfl)
        walk_at "rdy"
        refine w_if (fun hz => ?_) (fun hz => ?_)
        · walk_at "rdy"
          refine use_draw hSth (by decide) (by decide) fun y Hi y0 y1 hSti fi => ?_
          walk_at "rdy"
          refine w_ifI (fun _ => ?_) (fun _ => ?_)
          · walk_at "rdy"
            refine tl_new (u := [cds "else"]) rfl (by show 1 ≤ 1000000; decide) fun q9 Hj hq9 sj hj => ?_
            have hhj := (Tl.fr fi nq8.1 hh).same sj
            refine tl_cat hhj hj (by rw [List.length_append, List.length_append, List.length_append]; show 1 + _ + 1 + _ + 1 ≤ _; omega) fun q10 Hk hq10 sk hk' => ?_
            walk_at "rdy"
            have hwck := ((Tl.fr fi (hStb.new nqc).1 (hwc.same sch)).same sj).same sk
            refine tl_cat hk' hwck (by rw [List.length_append, List.length_append, List.length_append, List.length_append]; show 1 + _ + 1 + _ + 1 + _ ≤ _; omega) fun q11 Hl hq11 sl hl' => ?_
            walk_at "rdy"
            exact ⟨q11, _, rfl, ((hSti.mono sj).mono sk).mono sl, ((fi.to sj).to sk).to sl, hl', .inr rfl⟩
          · exact ⟨q8, _, rfl, hSti, fi, Tl.fr fi nq8.1 hh, .inl ⟨rfl, hlc⟩⟩
        · exact ⟨q8, _, rfl, hSth, Fr.refl S Hh, hh, .inl ⟨rfl, hlc⟩⟩
    · rintro σ' Hi ⟨q9, w9, rfl, hSti, fi, hw9, ew9⟩
      have lw9 : w9.length ≤ 22000 := by
        rcases ew9 with ⟨e, _⟩ | e
        · rw [e]; simp only [List.length_append, List.length_cons, List.length_nil]; omega
        · rw [e]; simp only [List.length_append, List.length_cons, List.length_nil]; omega
      walk_at "rdy"
      refine w_newT (by show 4 ≤ 1000000; decide) fun pt Hj hpt sj hj => ?_
      walk_at "rdy"
      refine tl_new (u := [cds "end"]) rfl (by show 1 ≤ 1000000; decide) fun q10 Hk hq10 sk hk' => ?_
      refine tl_cat ((hw9.same sj).same sk) hk' (by show _ + 1 ≤ _; omega) fun q11 Hl hq11 sl hl' => ?_
      walk_at "rdy"
      refine w_newT (by show 2 ≤ 1000000; decide) fun p6 Hm hp6 sm hm' => ?_
      have sjm := ((sj.trans sk).trans sl).trans sm
      have hva2 := (hSth.tr fi (hvac.same sch)).same sjm
      have hvb2 := (hSth.tr fi (hvbc.same sch)).same sjm
      have hvc2 := (hSth.tr fi (hvc.same sch)).same sjm
      have e1 : wt [cds "if"] = 5 := by decide +kernel
      have e2 : wt [cds "then"] = 7 := by decide +kernel
      have e3 : wt [cds "else"] = 7 := by decide +kernel
      have e4 : wt [cds "end"] = 6 := by decide +kernel
      have ff := (f3.to sch).trans fi
      have htr : TrAt K Hm (.ref pt) (.t [str "if", ta, .t lb, .t lc]) := .t (.inl (.inl (sm _ _ (sl _ _ (sk _ _ hj))))) (.cons .s (.cons hva2 (.cons hvb2 (.cons hvc2 .nil))))
      have t1 : ∀ x ∈ [cds "if"] ++ wa ++ [cds "then"] ++ wb, Tok x := tok_app (tok_app (tok_app (wm1 (by decide +kernel)) hta) (wm1 (by decide +kernel))) htb
      rcases ew9 with ⟨e, hlc⟩ | e
      · subst e hlc
        have hex : St (m + 1) (.t [str "if", ta, .t lb, .t []]) ([cds "if"] ++ wa ++ [cds "then"] ++ wb ++ [cds "end"]) (na ++ nb) := by
          have := St.if0 hlva.2 ea eb
          simpa using this
        refine kQ p6 (.ref pt) q11 _ (na ++ nb) rc Hm hm' ⟨_, htr, hex⟩ (hl'.same sm) (nod_app hna hnb) (tok_app t1 (wm1 (by decide +kernel))) ?_ (by omega) ((ff.to (sj.trans sk)).free ((hSti.mono (sj.trans sk)).new hq11).1 hq11) (hSti.mono sjm) (ff.to sjm)
        rw [wt_append, wt_append, wt_append, wt_append, e1, e2, e4]; omega
      · subst e
        have hex : St (m + 1) (.t [str "if", ta, .t lb, .t lc]) ([cds "if"] ++ wa ++ [cds "then"] ++ wb ++ [cds "else"] ++ wc ++ [cds "end"]) (na ++ (nb ++ nc)) := by
          have := St.if1 hlva.2 ea eb ec
          simpa using this
        refine kQ p6 (.ref pt) q11 _ (na ++ (nb ++ nc)) rc Hm hm' ⟨_, htr, hex⟩ (hl'.same sm) (nod_app hna (nod_app hnb hnc)) (tok_app (tok_app (tok_app t1 (wm1 (by decide +kernel))) htc) (wm1 (by decide +kernel))) ?_ (by omega) ((ff.to (sj.trans sk)).free ((hSti.mono (sj.trans sk)).new hq11).1 hq11) (hSti.mono sjm) (ff.to sjm)
        rw [wt_append, wt_append, wt_append, wt_append, wt_append, wt_append, e1, e2, e3, e4]; omega
end
end
section
open PySem PySem.Spec PyProof.Rows L2
open C8 (Cal cal0 pe_c pe_gc pss_cut tCut)

section
variable {P : Program} {w : World} {K : PySem.W.Frag} {mg : Str → Option Value} {base : Heap} {k n : Nat}
abbrev s_law_statement : Stmt := topS 73
abbrev N_law_statement : List Str := ["state", "room", "kind", "test", "tokens", "body", "more", "name", "other", "tree", "word"]
theorem sc_law_statement : FnScope N_law_statement ["state", "room"] (defScope s_law_statement) := ⟨rfl, rfl, rfl, by decide +kernel, rfl, by decide +kernel, by decide +kernel⟩
theorem ok_law_statement {f : Addr} {fd : FuncData} (F : Fun K "_law_statement" "_law_statement" s_law_statement f fd) (Y : Bn mg) (hk : 3 ≤ k) (c_law_draw : Cal P w K mg base 1 "_law_draw" spDraw []) (c_law_choice : Cal P w K mg base k "_law_choice" (spChc K n) []) (c_law_expression : Cal P w K mg base k "_law_expression" (spExpr K n) []) (c_law_body : Cal P w K mg base k "_law_body" (spBody K n) [])
    (c_law_name : Cal P w K mg base 3 "_law_name" (spTx IsName 1) []) : FnOk P w K mg base CX0 (k + 1) f fd ["state", "room"] (spStmt K (n + 1)) := by
  refine F.ok sc_law_statement (fun vs H Q E h => ?_) (fun cdv A outer s H vs Q E hr h => ?_)
  · obtain ⟨S, L, r, z, m, rfl, _⟩ := h
    rfl
  · obtain ⟨S, L, r0, z, m0, rfl, hSt0, hr5, hr0, hm2, hmn, kQ⟩ := h
    obtain ⟨m, rfl⟩ : ∃ m, m0 = m + 1 := ⟨m0 - 1, by omega⟩
    have nd := sc_law_statement.nd
    refine ⟨_, (pss_cons (ps_set (i := 2) nd rfl (Or.inl rfl) (pe_c c_law_draw hr (by omega) rfl (pa_cons (pv 0) (pa_cons pe_int pa_nil))))
      (pss_cons (ps_asg (pe_op op_sub (pe_ix ix_list (pv 0) pe_int (fun _ _ => rfl)) pe_int) (pg_sub (pv 0) pe_int set_list))
      (pss_cons (ps_if (PW.pt (pw_or (pt_cmpR op_eq (pv 2) pe_int (nomark _)) (pw_or1 (pt_cmpR op_eq (pv 2) pe_int (nomark _))))) (pss_one (ps_ret (pe_c c_law_choice hr (by omega) rfl (pa_cons (pv 0) (pa_cons (pv 1) pa_nil))))) pss_nil)
      (pss_cons (ps_if (pt_cmpR op_eq (pv 2) pe_int (nomark _)) (pss_cons (ps_asg (pe_c c_law_expression hr (by omega) rfl (pa_cons (pv 0) (pa_cons (pe_op op_sub (pv 1) pe_int) (pa_cons pe_int pa_nil)))) (pg_tup (by rfl) (pgs_cons (pg_name (i := 3) nd rfl (Or.inl rfl)) (pgs_cons (pg_name (i := 4) nd rfl (Or.inl rfl)) pgs_nil))))
      (pss_cons (ps_asg (pe_c c_law_body hr (by omega) rfl (pa_cons (pv 0) (pa_cons (pe_op op_sub (pv 1) pe_int) (pa_cons pe_int pa_nil)))) (pg_tup (by rfl) (pgs_cons (pg_name (i := 5) nd rfl (Or.inl rfl)) (pgs_cons (pg_name (i := 6) nd rfl (Or.inl rfl)) pgs_nil))))
      (pss_one (ps_ret (pe_tup (pa_cons (pe_tup (pa_cons pe_str (pa_cons (pv 3) (pa_cons (pv 5) pa_nil)))) (pa_cons (pe_op op_cat (pe_op op_cat (pe_op op_cat (pe_op op_cat (pe_lst (pa_cons pe_str pa_nil)) (pv 4)) (pe_lst (pa_cons pe_str pa_nil))) (pv 6)) (pe_lst (pa_cons pe_str pa_nil))) pa_nil))))))) pss_nil)
      (pss_cons (ps_if (pt_cmpR op_eq (pv 2) pe_int (nomark _)) (pss_cons (ps_set (i := 7) nd rfl (Or.inl rfl) (pe_c c_law_name hr (by omega) rfl (pa_cons (pv 0) pa_nil)))
      (pss_cons (ps_asg (pe_c c_law_body hr (by omega) rfl (pa_cons (pv 0) (pa_cons (pe_op op_sub (pv 1) pe_int) (pa_cons pe_int pa_nil)))) (pg_tup (by rfl) (pgs_cons (pg_name (i := 5) nd rfl (Or.inl rfl)) (pgs_cons (pg_name (i := 4) nd rfl (Or.inl rfl)) pgs_nil))))
      (pss_cons (ps_asg (pe_c c_law_body hr (by omega) rfl (pa_cons (pv 0) (pa_cons (pe_op op_sub (pv 1) pe_int) (pa_cons pe_int pa_nil)))) (pg_tup (by rfl) (pgs_cons (pg_name (i := 8) nd rfl (Or.inl rfl)) (pgs_cons (pg_name (i := 6) nd rfl (Or.inl rfl)) pgs_nil))))
      (pss_one (ps_ret (pe_tup (pa_cons (pe_tup (pa_cons pe_str (pa_cons (pv 5) (pa_cons (pv 7) (pa_cons (pv 8) pa_nil))))) (pa_cons (pe_op op_cat (pe_op op_cat (pe_op op_cat (pe_op op_cat (pe_lst (pa_cons pe_str pa_nil)) (pv 4)) (pe_lst (pa_cons pe_str (pa_cons (pv 7) (pa_cons pe_str pa_nil))))) (pv 6)) (pe_lst (pa_cons pe_str pa_nil))) pa_nil)))))))) pss_nil)
      (pss_cons (ps_if (pt_cmpR op_eq (pv 2) pe_int (nomark _)) (pss_cons (ps_asg (pe_c c_law_body hr (by omega) rfl (pa_cons (pv 0) (pa_cons (pe_op op_sub (pv 1) pe_int) (pa_cons pe_int pa_nil)))) (pg_tup (by rfl) (pgs_cons (pg_name (i := 5) nd rfl (Or.inl rfl)) (pgs_cons (pg_name (i := 4) nd rfl (Or.inl rfl)) pgs_nil))))
      (pss_cons (ps_asg (pe_c c_law_body hr (by omega) rfl (pa_cons (pv 0) (pa_cons (pe_op op_sub (pv 1) pe_int) (pa_cons pe_int pa_nil)))) (pg_tup (by rfl) (pgs_cons (pg_name (i := 8) nd rfl (Or.inl rfl)) (pgs_cons (pg_name (i := 6) nd rfl (Or.inl rfl)) pgs_nil))))
      (pss_one (ps_ret (pe_tup (pa_cons (pe_tup (pa_cons pe_str (pa_cons (pv 5) (pa_cons (pv 8) pa_nil)))) (pa_cons (pe_op op_cat (pe_op op_cat (pe_op op_cat (pe_op op_cat (pe_lst (pa_cons pe_str pa_nil)) (pv 4)) (pe_lst (pa_cons pe_str pa_nil))) (pv 6)) (pe_lst (pa_cons pe_str pa_nil))) pa_nil))))))) pss_nil)
      (pss_cons (ps_asg (pe_c c_law_expression hr (by omega) rfl (pa_cons (pv 0) (pa_cons (pe_op op_sub (pv 1) pe_int) (pa_cons pe_int pa_nil)))) (pg_tup (by rfl) (pgs_cons (pg_name (i := 9) nd rfl (Or.inl rfl)) (pgs_cons (pg_name (i := 4) nd rfl (Or.inl rfl)) pgs_nil))))
      (pss_cons (ps_if (pt_cmpR op_eq (pv 2) pe_int (nomark _)) (pss_cons (ps_set (i := 7) nd rfl (Or.inl rfl) (pe_c c_law_name hr (by omega) rfl (pa_cons (pv 0) pa_nil)))
      (pss_one (ps_ret (pe_tup (pa_cons (pe_tup (pa_cons pe_str (pa_cons (pv 7) (pa_cons (pv 9) pa_nil)))) (pa_cons (pe_op op_cat (pe_lst (pa_cons (pv 7) (pa_cons pe_str pa_nil))) (pv 4)) pa_nil)))))) pss_nil)
      (pss_cons (ps_if (pt_cmpR op_eq (pv 2) pe_int (nomark _)) (pss_cons (ps_set (i := 10) nd rfl (Or.inl rfl) (pe_ix ix_list (pe_lst (pa_cons pe_str (pa_cons pe_str pa_nil))) (pe_c c_law_draw hr (by omega) rfl (pa_cons (pv 0) (pa_cons pe_int pa_nil))) (fun _ _ => rfl)))
      (pss_one (ps_ret (pe_tup (pa_cons (pe_tup (pa_cons (pv 10) (pa_cons (pv 9) pa_nil))) (pa_cons (pe_op op_cat (pe_lst (pa_cons (pv 10) pa_nil)) (pv 4)) pa_nil)))))) pss_nil)
      (pss_one (ps_ret (pe_tup (pa_cons (pe_tup (pa_cons pe_str (pa_cons (pv 9) pa_nil))) (pa_cons (pv 4) pa_nil)))))))))))))), ?_⟩
    rw [show L2.start N_law_statement [.ref S, .int ((m + 1 : Nat) : Int)] = [some (.ref S), some (.int ((m + 1 : Nat) : Int)), none, none, none, none, none, none, none, none, none] from rfl]
    have em : ((m + 1 : Nat) : Int) - 1 = (m : Int) := by omega
    walk_at "rdy"
    refine use_draw hSt0 (by decide) (by decide) fun kk H1 k0 k9 hSt1 f1 => ?_
    obtain ⟨i1, c1, x1, b1, hS1⟩ := hSt1.obj
    walk_at "rdy"
    refine w_stset hS1 rfl fun H2 hS2 f2 => ?_
    have hSt := hSt1.put5 hS1 hS2 f2
    have f0 := f1.trans f2
    generalize hr : r0 - 16 = r at hSt
    have hc0 : Phi r ≤ Phi r0 - 440 := by
      unfold Phi
      rw [if_pos hr0]
      split <;> omega
    have kQ' : Give S L r z H2 Q (okS K (m + 1)) 60 := fun p v q w ns r' H' hp ok hw hn ht hc hr' nq hS' f' => kQ p v q w ns r' H' hp ok hw hn ht (by omega) (by omega) (f0.free (hSt.new nq).1 nq) hS' (f0.trans f')
    have hr5' : r ≤ 500 := by omega
    have hm1 : 1 ≤ m := by omega
    have hmn' : m ≤ n := by omega
    clear kQ
    have e1 : (cds "end").length = 3 := by decide +kernel
    walk_at "rdy"
    refine w_ifI (fun _ => ?_) (fun k3 => ?_)
    · walk_at "rdy"
      exact ⟨S, L, r, z, m, rfl, hSt, hr5', hm1, hmn', kQ'⟩
    walk_at "rdy"
    refine w_ifI (fun _ => ?_) (fun k4 => ?_)
    · walk_at "rdy"
      exact ⟨S, L, r, z, m, rfl, hSt, hr5', hm1, hmn', kQ'⟩
    walk_at "rdy"
    refine w_ifI (fun _ => ?_) (fun k5 => ?_)
    · walk_at "rdy"
      rw [em]
      refine ⟨S, L, r, z, m, 1, rfl, hSt, hr5', hm1, hmn', by decide, fun pa va qa wa na ra Ha hpa oka hwa hna hta hca hra nqa hSta fa => ?_⟩
      obtain ⟨lva, ta, hlva, hva, ea⟩ := oka
      have hca2 : (wt wa : Int) + Phi ra ≤ Phi r + 20 := by split at hca <;> omega
      walk_at "upy"
      rw [em]
      refine ⟨S, L, ra, z, m, 4, rfl, hSta, by omega, hmn', by decide, by decide, fun pb vb qb wb nb rb Hb hpb okb hwb hnb htb hcb hrb nqb hStb fb => ?_⟩
      obtain ⟨lb, hvb, eb⟩ := okb
      walk_at "upy"
      have nqaS := (hSt.new nqa).1
      have lwa : wa.length ≤ 7200 := w_len_of hca2 hr5' (by decide)
      have lwb : wb.length ≤ 7200 := w_len_of hcb (by omega) (by decide)
      have hva2 := hSta.tr fb hva
      have hwa2 := Tl.fr fb nqaS hwa
      refine w_newT (by show 3 ≤ 1000000; decide) fun pt Hc hpt sc hc => ?_
      walk_at "rdy"
      refine tl_new (u := [cds "while"]) rfl (by show 1 ≤ 1000000; decide) fun q4 Hd hq4 sd hd => ?_
      walk_at "rdy"
      refine tl_cat hd ((hwa2.same sc).same sd) (by show 1 + _ ≤ _; omega) fun q5 He hq5 se he => ?_
      walk_at "rdy"
      refine tl_new (u := [cds "do"]) rfl (by show 1 ≤ 1000000; decide) fun q6 Hf hq6 sf hf => ?_
      refine tl_cat (he.same sf) hf (by rw [List.length_append]; show 1 + _ + 1 ≤ _; omega) fun q7 Hg hq7 sg hg => ?_
      walk_at "rdy"
      refine tl_cat hg (((((hwb.same sc).same sd).same se).same sf).same sg) (by rw [List.length_append, List.length_append]; show 1 + _ + 1 + _ ≤ _; omega) fun q8 Hh hq8 sh hh => ?_
      walk_at "rdy"
      refine tl_new (u := [cds "end"]) rfl (by show 1 ≤ 1000000; decide) fun q9 Hi hq9 si hi => ?_
      refine tl_cat (hh.same si) hi (by rw [List.length_append, List.length_append, List.length_append]; show 1 + _ + 1 + _ + 1 ≤ _; omega) fun q10 Hj hq10 sj hj => ?_
      walk_at "rdy"
      refine w_newT (by show 2 ≤ 1000000; decide) fun p6 Hk hp6 sk hk' => ?_
      have sdk := ((((((sd.trans se).trans sf).trans sg).trans sh).trans si).trans sj).trans sk
      have sci := (((((sc.trans sd).trans se).trans sf).trans sg).trans sh).trans si
      have sck := (sci.trans sj).trans sk
      have w1 : wt [cds "while"] = 8 := by decide +kernel
      have w2 : wt [cds "do"] = 5 := by decide +kernel
      have w3 : wt [cds "end"] = 6 := by decide +kernel
      have ff := fa.trans fb
      have hex : St (m + 1) (.t [str "while", ta, .t lb]) ([cds "while"] ++ wa ++ [cds "do"] ++ wb ++ [cds "end"]) (na ++ nb) := by
        have := St.whl hlva.2 ea eb
        simpa using this
      refine kQ' p6 (.ref pt) q10 _ (na ++ nb) rb Hk hk' ⟨_, .t (.inl (.inl (sdk _ _ hc))) (.cons .s (.cons (hva2.same sck) (.cons (hvb.same sck) .nil))), hex⟩ (hj.same sk) (nod_app hna hnb) (tok_app (tok_app (tok_app (tok_app (wm1 (by decide +kernel)) hta) (wm1 (by decide +kernel))) htb) (wm1 (by decide +kernel))) ?_ (by omega) ((ff.to sci).free ((hStb.mono sci).new hq10).1 hq10) (hStb.mono sck) (ff.to sck)
      rw [wt_append, wt_append, wt_append, wt_append, w1, w2, w3]; omega
    walk_at "rdy"
    refine w_ifI (fun _ => ?_) (fun k6 => ?_)
    · walk_at "rdy"
      refine use_tx hSt fun x rx Hx hx hxr hxr2 hStx fx => ?_
      have xl := RunOf.len hx.1
      have pm := Phi_mono hxr2
      walk_at "rdy"
      rw [em]
      refine ⟨S, L, rx, z, m, 4, rfl, hStx, by omega, hmn', by decide, by decide, fun pa va qa wa na ra Ha hpa oka hwa hna hta hca hra nqa hSta fa => ?_⟩
      obtain ⟨la, hva, ea⟩ := oka
      walk_at "upy"
      rw [em]
      refine ⟨S, L, ra, z, m, 3, rfl, hSta, by omega, hmn', by decide, by decide, fun pb vb qb wb nb rb Hb hpb okb hwb hnb htb hcb hrb nqb hStb fb => ?_⟩
      obtain ⟨lb, hvb, eb⟩ := okb
      walk_at "upy"
      have nqaS := (hStx.new nqa).1
      have lwa : wa.length ≤ 7200 := w_len_of hca (by omega) (by decide)
      have lwb : wb.length ≤ 7200 := w_len_of hcb (by omega) (by decide)
      have hva2 := hSta.tr fb hva
      have hwa2 := Tl.fr fb nqaS hwa
      refine w_newT (by show 4 ≤ 1000000; decide) fun pt Hc hpt sc hc => ?_
      walk_at "rdy"
      refine tl_new (u := [cds "try"]) rfl (by show 1 ≤ 1000000; decide) fun q4 Hd hq4 sd hd => ?_
      walk_at "rdy"
      refine tl_cat hd ((hwa2.same sc).same sd) (by show 1 + _ ≤ _; omega) fun q5 He hq5 se he => ?_
      walk_at "rdy"
      refine tl_new (u := [cds "catch", x, cds "then"]) rfl (by show 3 ≤ 1000000; decide) fun q6 Hf hq6 sf hf => ?_
      refine tl_cat (he.same sf) hf (by rw [List.length_append]; show 1 + _ + 3 ≤ _; omega) fun q7 Hg hq7 sg hg => ?_
      walk_at "rdy"
      refine tl_cat hg (((((hwb.same sc).same sd).same se).same sf).same sg) (by rw [List.length_append, List.length_append]; show 1 + _ + 3 + _ ≤ _; omega) fun q8 Hh hq8 sh hh => ?_
      walk_at "rdy"
      refine tl_new (u := [cds "end"]) rfl (by show 1 ≤ 1000000; decide) fun q9 Hi hq9 si hi => ?_
      refine tl_cat (hh.same si) hi (by rw [List.length_append, List.length_append, List.length_append]; show 1 + _ + 3 + _ + 1 ≤ _; omega) fun q10 Hj hq10 sj hj => ?_
      walk_at "rdy"
      refine w_newT (by show 2 ≤ 1000000; decide) fun p6 Hk hp6 sk hk' => ?_
      have sdk := ((((((sd.trans se).trans sf).trans sg).trans sh).trans si).trans sj).trans sk
      have sci := (((((sc.trans sd).trans se).trans sf).trans sg).trans sh).trans si
      have sck := (sci.trans sj).trans sk
      have w1 : wt [cds "try"] = 6 := by decide +kernel
      have l1 : (cds "catch").length = 5 := by decide +kernel
      have l2 : (cds "then").length = 4 := by decide +kernel
      have w2 : wt [cds "catch", x, cds "then"] = 8 + (x.length + 3 + 7) := by rw [wt_cons, wt_cons, wt1 l2, l1]
      have w3 : wt [cds "end"] = 6 := by decide +kernel
      have ff := (fx.trans fa).trans fb
      have hex : St (m + 1) (.t [str "try", .t la, .s x, .t lb]) ([cds "try"] ++ wa ++ [cds "catch", x, cds "then"] ++ wb ++ [cds "end"]) (na ++ nb) := by
        have := St.try_ ea (name_nm hx) eb
        simpa using this
      refine kQ' p6 (.ref pt) q10 _ (na ++ nb) rb Hk hk' ⟨_, .t (.inl (.inl (sdk _ _ hc))) (.cons .s (.cons (hva2.same sck) (.cons .s (.cons (hvb.same sck) .nil)))), hex⟩ (hj.same sk) (nod_app hna hnb) (tok_app (tok_app (tok_app (tok_app (wm1 (by decide +kernel)) hta) (fun y hy => ?_)) htb) (wm1 (by decide +kernel))) ?_ (by omega) ((ff.to sci).free ((hStb.mono sci).new hq10).1 hq10) (hStb.mono sck) (ff.to sck)
      · rcases List.mem_cons.mp hy with rfl | hy
        · exact wm_tok _ (by decide +kernel)
        · rcases List.mem_cons.mp hy with rfl | hy
          · exact name_tok hx
          · rw [List.mem_singleton.mp hy]; exact wm_tok _ (by decide +kernel)
      · rw [wt_append, wt_append, wt_append, wt_append, w1, w2, w3]; omega
    walk_at "rdy"
    refine w_ifI (fun _ => ?_) (fun k7 => ?_)
    · walk_at "rdy"
      rw [em]
      refine ⟨S, L, r, z, m, 4, rfl, hSt, by omega, hmn', by decide, by decide, fun pa va qa wa na ra Ha hpa oka hwa hna hta hca hra nqa hSta fa => ?_⟩
      obtain ⟨la, hva, ea⟩ := oka
      walk_at "upy"
      rw [em]
      refine ⟨S, L, ra, z, m, 3, rfl, hSta, by omega, hmn', by decide, by decide, fun pb vb qb wb nb rb Hb hpb okb hwb hnb htb hcb hrb nqb hStb fb => ?_⟩
      obtain ⟨lb, hvb, eb⟩ := okb
      walk_at "upy"
      have nqaS := (hSt.new nqa).1
      have lwa : wa.length ≤ 7200 := w_len_of hca (by omega) (by decide)
      have lwb : wb.length ≤ 7200 := w_len_of hcb (by omega) (by decide)
      have hva2 := hSta.tr fb hva
      have hwa2 := Tl.fr fb nqaS hwa
      refine w_newT (by show 3 ≤ 1000000; decide) fun pt Hc hpt sc hc => ?_
      walk_at "rdy"
      refine tl_new (u := [cds "keep"]) rfl (by show 1 ≤ 1000000; decide) fun q4 Hd hq4 sd hd => ?_
      walk_at "rdy"
      refine tl_cat hd ((hwa2.same sc).same sd) (by show 1 + _ ≤ _; omega) fun q5 He hq5 se he => ?_
      walk_at "rdy"
      refine tl_new (u := [cds "always"]) rfl (by show 1 ≤ 1000000; decide) fun q6 Hf hq6 sf hf => ?_
      refine tl_cat (he.same sf) hf (by rw [List.length_append]; show 1 + _ + 1 ≤ _; omega) fun q7 Hg hq7 sg hg => ?_
      walk_at "rdy"
      refine tl_cat hg (((((hwb.same sc).same sd).same se).same sf).same sg) (by rw [List.length_append, List.length_append]; show 1 + _ + 1 + _ ≤ _; omega) fun q8 Hh hq8 sh hh => ?_
      walk_at "rdy"
      refine tl_new (u := [cds "end"]) rfl (by show 1 ≤ 1000000; decide) fun q9 Hi hq9 si hi => ?_
      refine tl_cat (hh.same si) hi (by rw [List.length_append, List.length_append, List.length_append]; show 1 + _ + 1 + _ + 1 ≤ _; omega) fun q10 Hj hq10 sj hj => ?_
      walk_at "rdy"
      refine w_newT (by show 2 ≤ 1000000; decide) fun p6 Hk hp6 sk hk' => ?_
      have sdk := ((((((sd.trans se).trans sf).trans sg).trans sh).trans si).trans sj).trans sk
      have sci := (((((sc.trans sd).trans se).trans sf).trans sg).trans sh).trans si
      have sck := (sci.trans sj).trans sk
      have w1 : wt [cds "keep"] = 7 := by decide +kernel
      have w2 : wt [cds "always"] = 9 := by decide +kernel
      have w3 : wt [cds "end"] = 6 := by decide +kernel
      have ff := fa.trans fb
      have hex : St (m + 1) (.t [str "keep", .t la, .t lb]) ([cds "keep"] ++ wa ++ [cds "always"] ++ wb ++ [cds "end"]) (na ++ nb) := by
        have := St.keep ea eb
        simpa using this
      refine kQ' p6 (.ref pt) q10 _ (na ++ nb) rb Hk hk' ⟨_, .t (.inl (.inl (sdk _ _ hc))) (.cons .s (.cons (hva2.same sck) (.cons (hvb.same sck) .nil))), hex⟩ (hj.same sk) (nod_app hna hnb) (tok_app (tok_app (tok_app (tok_app (wm1 (by decide +kernel)) hta) (wm1 (by decide +kernel))) htb) (wm1 (by decide +kernel))) ?_ (by omega) ((ff.to sci).free ((hStb.mono sci).new hq10).1 hq10) (hStb.mono sck) (ff.to sck)
      rw [wt_append, wt_append, wt_append, wt_append, w1, w2, w3]; omega
    walk_at "rdy"
    rw [em]
    refine ⟨S, L, r, z, m, 1, rfl, hSt, hr5', hm1, hmn', by decide, fun pa va qa wa na ra Ha hpa oka hwa hna hta hca hra nqa hSta fa => ?_⟩
    obtain ⟨lva, ta, hlva, hva, ea⟩ := oka
    have hca2 : (wt wa : Int) + Phi ra ≤ Phi r + 20 := by split at hca <;> omega
    have lwa : wa.length ≤ 7200 := w_len_of hca2 hr5' (by decide)
    have nqaS := (hSt.new nqa).1
    walk_at "upy"
    refine w_ifI (fun _ => ?_) (fun k1 => ?_)
    · walk_at "rdy"
      refine use_tx hSta fun x rx Hx hx hxr hxr2 hStx fx => ?_
      have xl := RunOf.len hx.1
      have pm := Phi_mono hxr2
      walk_at "rdy"
      refine w_newT (by show 3 ≤ 1000000; decide) fun pt Hc hpt sc hc => ?_
      walk_at "rdy"
      refine tl_new (u := [x, cds ":="]) rfl (by show 2 ≤ 1000000; decide) fun q4 Hd hq4 sd hd => ?_
      walk_at "rdy"
      refine tl_cat hd (((Tl.fr fx nqaS hwa).same sc).same sd) (by show 2 + _ ≤ _; omega) fun q5 He hq5 se he => ?_
      walk_at "rdy"
      refine w_newT (by show 2 ≤ 1000000; decide) fun p6 Hk hp6 sk hk' => ?_
      have l1 : (cds ":=").length = 2 := by decide +kernel
      have w1 : wt [x, cds ":="] = x.length + 3 + 5 := by rw [wt_cons, wt1 l1]
      have ff := fa.trans fx
      have sck := ((sc.trans sd).trans se).trans sk
      refine kQ' p6 (.ref pt) q5 _ na rx Hk hk' ⟨_, .t (.inl (.inl (sk _ _ (se _ _ (sd _ _ hc))))) (.cons .s (.cons .s (.cons ((hSta.tr fx hva).same sck) .nil))), .set (name_nm hx) hlva.2 ea⟩ (he.same sk) hna (tok_app (u := [x, cds ":="]) (fun y hy => ?_) hta) ?_ (by omega) ((ff.to (sc.trans sd)).free ((hStx.mono (sc.trans sd)).new hq5).1 hq5) (hStx.mono sck) (ff.to sck)
      · rcases List.mem_cons.mp hy with rfl | hy
        · exact name_tok hx
        · rw [List.mem_singleton.mp hy]; exact wm_tok _ (by decide +kernel)
      · show ((wt ([x, cds ":="] ++ wa) : Nat) : Int) + _ ≤ _
        rw [wt_append, w1]; omega
    walk_at "rdy"
    refine w_ifI (fun _ => ?_) (fun k2 => ?_)
    · walk_at "rdy"
      refine tl_new (u := [cds "give", cds "fail"]) rfl (by show 2 ≤ 1000000; decide) fun q3 Hb hq3 sb hb => ?_
      walk_at "rdy"
      have nq3 := (hSta.new hq3).1
      refine use_draw (hSta.mono sb) (by decide) (by decide) fun y Hx y0 y1 hStx fx => ?_
      obtain ⟨g, hg, eg⟩ := pick_at (l := [cds "give", cds "fail"]) (n := 2) rfl y0 y1
      refine w_ixL (SqL.of (Tl.fr fx nq3 hb)) eg ?_
      have hg2 : g = cds "give" ∨ g = cds "fail" := by
        rcases List.mem_cons.mp hg with h | h
        · exact .inl h
        · exact .inr (List.mem_singleton.mp h)
      have gw : g ∈ WM ∧ g.length = 4 := by rcases hg2 with rfl | rfl <;> decide +kernel
      walk_at "rdy"
      refine w_newT (by show 2 ≤ 1000000; decide) fun pt Hc hpt sc hc => ?_
      walk_at "rdy"
      refine tl_new (u := [g]) rfl (by show 1 ≤ 1000000; decide) fun q4 Hd hq4 sd hd => ?_
      walk_at "rdy"
      refine tl_cat hd (((Tl.fr fx nqaS (hwa.same sb)).same sc).same sd) (by show 1 + _ ≤ _; omega) fun q5 He hq5 se he => ?_
      walk_at "rdy"
      refine w_newT (by show 2 ≤ 1000000; decide) fun p6 Hk hp6 sk hk' => ?_
      have w1 : wt [g] = 7 := wt1 gw.2
      have ff := (fa.to sb).trans fx
      have sck := ((sc.trans sd).trans se).trans sk
      refine kQ' p6 (.ref pt) q5 _ na ra Hk hk' ⟨_, .t (.inl (.inl (sk _ _ (se _ _ (sd _ _ hc))))) (.cons .s (.cons (((hSta.mono sb).tr fx (hva.same sb)).same sck) .nil)), .gf hg2 hlva.2 ea⟩ (he.same sk) hna (tok_app (wm1 gw.1) hta) ?_ (by omega) ((ff.to (sc.trans sd)).free ((hStx.mono (sc.trans sd)).new hq5).1 hq5) (hStx.mono sck) (ff.to sck)
      show ((wt ([g] ++ wa) : Nat) : Int) + _ ≤ _
      rw [wt_append, w1]; omega
    walk_at "rdy"
    refine w_newT (by show 2 ≤ 1000000; decide) fun pt Hc hpt sc hc => ?_
    walk_at "rdy"
    refine w_newT (by show 2 ≤ 1000000; decide) fun p6 Hk hp6 sk hk' => ?_
    exact kQ' p6 (.ref pt) qa _ na ra Hk hk' ⟨_, .t (.inl (.inl (sk _ _ hc))) (.cons .s (.cons ((hva.same sc).same sk) .nil)), .eval hlva.2 ea⟩ ((hwa.same sc).same sk) hna hta (by omega) hra nqa ((hSta.mono sc).mono sk) ((fa.to sc).to sk)
theorem ok_expr0 {f : Addr} {fd : FuncData} (F : Fun K "_law_expression" "_law_expression" s_law_expression f fd) : FnOk P w K mg base CX0 (k + 1) f fd ["state", "room", "asked"] (spExpr K 0) :=
  F.ok sc_law_expression (fun vs H Q E ⟨S, L, r, z, m, a, e, _⟩ => by rw [e]; rfl) fun cdv A outer s H vs Q E hr ⟨S, L, r, z, m, a, e, _, _, h1, h2, _⟩ => by omega
theorem ok_stmt0 {f : Addr} {fd : FuncData} (F : Fun K "_law_statement" "_law_statement" s_law_statement f fd) : FnOk P w K mg base CX0 (k + 1) f fd ["state", "room"] (spStmt K 0) :=
  F.ok sc_law_statement (fun vs H Q E ⟨S, L, r, z, m, e, _⟩ => by rw [e]; rfl) fun cdv A outer s H vs Q E hr ⟨S, L, r, z, m, e, _, _, _, h1, h2, _⟩ => by omega
end
end
section
open PySem PySem.Spec PyProof.Rows L2
open C8 (Cal cal0 pe_c pe_gc pss_cut tCut)

structure DefC (K : PySem.W.Frag) (mg : Str → Option Value) (x : Str) (st : Stmt) (ps : List Str) : Prop where
  ex : ∃ (f : Addr) (fd : FuncData), Fun K x x st f fd ∧ mg x = some (.ref f) ∧ PySem.W.keepIn K (.ref f) = true ∧ Binds K fd ps []
theorem DefC.cal {P : Program} {w : World} {K : PySem.W.Frag} {mg : Str → Option Value} {base : Heap} {x : Str} {st : Stmt} {ps : List Str} {k : Nat} {sp : Sp} (c : DefC K mg x st ps) (h : ∀ f fd, Fun K x x st f fd → FnOk P w K mg base CX0 k f fd ps sp) : Cal P w K mg base k x sp [] := by
  obtain ⟨f, fd, F, m, kp, b⟩ := c.ex
  exact ⟨f, fd, ps, [], h f fd F, m, kp, b, .nil⟩
theorem cal_mono {P : Program} {w : World} {K : PySem.W.Frag} {mg : Str → Option Value} {base : Heap} {x : Str} {k j : Nat} {sp : Sp} {dvs : List V} (c : Cal P w K mg base k x sp dvs) (h : k ≤ j) : Cal P w K mg base j x sp dvs := by
  obtain ⟨f, fd, ps, ds, F, m, kp, b, d⟩ := c.ex
  exact ⟨f, fd, ps, ds, F.mono h, m, kp, b, d⟩
section
variable {P : Program} {w : World} {K : PySem.W.Frag} {mg : Str → Option Value} {base : Heap}
structure GenC (P : Program) (w : World) (K : PySem.W.Frag) (mg : Str → Option Value) (base : Heap) : Prop where
  Y : Bn mg
  draw : Cal P w K mg base 1 "_law_draw" spDraw []
  name : Cal P w K mg base 3 "_law_name" (spTx IsName 1) []
  names : Cal P w K mg base 4 "_law_names" spGNames []
  commas : Cal P w K mg base 1 "_law_commas" spCommas []
  leaf : Cal P w K mg base 4 "_law_leaf" (spLeaf K) []
  d_expression : DefC K mg "_law_expression" s_law_expression ["state", "room", "asked"]
  d_compound : DefC K mg "_law_compound" s_law_compound ["state", "kind", "room"]
  d_sides : DefC K mg "_law_sides" s_law_sides ["state", "kind", "room"]
  d_list : DefC K mg "_law_list" s_law_list ["state", "room"]
  d_block : DefC K mg "_law_block" s_law_block ["state", "room"]
  d_body : DefC K mg "_law_body" s_law_body ["state", "room", "most"]
  d_choice : DefC K mg "_law_choice" s_law_choice ["state", "room"]
  d_statement : DefC K mg "_law_statement" s_law_statement ["state", "room"]
theorem GenC.all (C : GenC P w K mg base) : ∀ n, Cal P w K mg base (10 * n + 5) "_law_expression" (spExpr K n) [] ∧ Cal P w K mg base (10 * n + 5) "_law_statement" (spStmt K n) []
  | 0 => ⟨C.d_expression.cal fun f fd F => ok_expr0 (k := 4) F, C.d_statement.cal fun f fd F => ok_stmt0 (k := 4) F⟩
  | n + 1 => by
    obtain ⟨e, s⟩ := C.all n
    generalize hk : 10 * n + 5 = k at e s
    have li : Cal P w K mg base (k + 1) "_law_list" (spList K n) [] := C.d_list.cal fun f fd F => ok_law_list F C.Y (by omega) C.draw e
    have bo : Cal P w K mg base (k + 1) "_law_body" (spBody K n) [] := C.d_body.cal fun f fd F => ok_law_body F C.Y (by omega) C.draw s
    have bl : Cal P w K mg base (k + 2) "_law_block" (spGBlock K n) [] := C.d_block.cal fun f fd F => ok_law_block F C.Y (by omega) C.draw C.names C.commas bo
    have si : Cal P w K mg base (k + 1) "_law_sides" (spSides K n) [] := C.d_sides.cal fun f fd F => ok_law_sides F C.Y (by omega) C.draw e
    have co : Cal P w K mg base (k + 3) "_law_compound" (spComp K n) [] := C.d_compound.cal fun f fd F => ok_law_compound (k := k + 2) F C.Y (by omega) (cal_mono e (by omega)) (cal_mono si (by omega)) C.name (cal_mono li (by omega)) bl
    have ex : Cal P w K mg base (k + 4) "_law_expression" (spExpr K (n + 1)) [] := C.d_expression.cal fun f fd F => ok_law_expression (k := k + 3) F C.Y (by omega) C.draw C.leaf co
    have ch : Cal P w K mg base (k + 2) "_law_choice" (spChc K n) [] := C.d_choice.cal fun f fd F => ok_law_choice (k := k + 1) F C.Y (by omega) C.draw (cal_mono e (by omega)) bo
    have st : Cal P w K mg base (k + 3) "_law_statement" (spStmt K (n + 1)) [] := C.d_statement.cal fun f fd F => ok_law_statement (k := k + 2) F C.Y (by omega) C.draw ch (cal_mono e (by omega)) (cal_mono bo (by omega)) C.name
    exact ⟨cal_mono ex (by omega), cal_mono st (by omega)⟩
theorem GenC.body (C : GenC P w K mg base) (n : Nat) : Cal P w K mg base (10 * n + 6) "_law_body" (spBody K n) [] := C.d_body.cal fun f fd F => ok_law_body F C.Y (by omega) C.draw (C.all n).2
end
end
section
open PySem PySem.Spec PyProof.Rows L2
open C8 (Cal cal0 pe_c pe_gc pss_cut tCut)

section
variable {P : Program} {w : World} {K : PySem.W.Frag} {mg : Str → Option Value} {base : Heap} {k : Nat}
end
end
section
open PySem PySem.Spec PyProof.Rows L2
open C8 (Cal cal0 pe_c pe_gc pss_cut tCut)
/-! ### methods that may raise -/
structure MetX (P : Program) (w : World) (K : PySem.W.Frag) (mg : Str → Option Value) (base : Heap) (k : Nat) (C : Addr) (m : Str) (sp : Sp) (dvs : List V) : Prop where
  ex : ∃ (f : Addr) (fd : FuncData) (ps : List Str) (ds : List Value), Cls K C ∧ Meth K C m f ∧ FnOk P w K mg base (L2.CX P w) k f fd ps sp ∧ Binds K fd ps ds ∧ Vals dvs ds
section
variable {X : Cx} {k j : Nat} {C : Addr} {m : Str} {sp : Sp} {dvs : List V} {E : XK} {o e : Expr} {es : List Expr} {ta : TE} {t : TA} {apos pos : Pos}
theorem pe_mx {pl : Sem Bool} (c : MetX X.prog X.w X.K X.mg X.base k C m sp dvs) (hr : Room j X.A) (hk : k ≤ j) (hx : Passes (L2.CX X.prog X.w) X E) (he : PE X o ta) (ha : PA X (e :: es) t)
    (h1 : starEach (e :: es) X.env = (false, eval e X.env) :: starEach es X.env := by rfl) (h2 : (backTo pos (starEach es X.env)).any (·.1) = false := by rfl)
    (h3 : eval (.Call (.Attribute o m apos) (e :: es) [] pos) X.env = (do
      let z ← eval o X.env
      standAt apos.atName
      let (f, first) ← holding [z] (getMethod z m pl)
      callWith pos f first (backTo pos (starEach (e :: es) X.env)) (backToKw pos (keywordEach [] X.env))) := by rfl) :
    PE X (.Call (.Attribute o m apos) (e :: es) [] pos) (tMeth C m sp dvs E ta t) := by
  obtain ⟨f, fd, ps, ds, hc, hm, F, b, d⟩ := c.ex
  exact pe_meth (pl := pl) he hc hm F (hr.mono hk) b d hx ha h1 h2 h3
theorem pe_mx0 {pl : Sem Bool} (c : MetX X.prog X.w X.K X.mg X.base k C m sp dvs) (hr : Room j X.A) (hk : k ≤ j) (hx : Passes (L2.CX X.prog X.w) X E) (he : PE X o ta)
    (h3 : eval (.Call (.Attribute o m apos) [] [] pos) X.env = (do
      let z ← eval o X.env
      standAt apos.atName
      let (f, first) ← holding [z] (getMethod z m pl)
      callWith pos f first (backTo pos (starEach [] X.env)) (backToKw pos (keywordEach [] X.env))) := by rfl) :
    PE X (.Call (.Attribute o m apos) [] [] pos) (tMeth C m sp dvs E ta tNil) := by
  obtain ⟨f, fd, ps, ds, hc, hm, F, b, d⟩ := c.ex
  exact pe_meth0 (pl := pl) he hc hm F (hr.mono hk) b d hx h3
end

/-! ### d.get(text, default), d a dict of the module -/
def tKGet (K : PySem.W.Frag) (d : Addr) (td ty tx : TE) : TE := fun σ H Q => td σ H fun x H1 => x = .ref d ∧ ty σ H1 fun y H2 => tx σ H2 fun z H3 => ∃ (n : Str) (r : Option Value) (v : V), y = .str n ∧ PySem.W.nsIn K d n = some r ∧ (∀ u, r = some u → RelV v u) ∧ (r = none → v = z) ∧ Q v H3
theorem pe_kget {X : Cx} {d : Addr} {es : Array DictEntry} {n : Nat} {o e f : Expr} {td ty tx : TE} {apos cpos : Pos} (D : KDict X.K X.w d es n) (ho : PE X o td) (he : PE X e ty) (hf : PE X f tx) (m : M2 X o "get" apos e f cpos) :
    PE X (.Call (.Attribute o "get" apos) [e, f] [] cpos) (tKGet X.K d td ty tx) := by
  refine ⟨fun pins s σ H Q I h => wpAny_Call_method m.base m.few m.line PySem.F.plainAttrs_dict PySem.F.slot_dict_get PySem.F.type_dict_get (thn (ho.run pins s σ H _ I h) ?_)⟩
  rintro u s1 ⟨x, H1, I1, rx, ex, q1⟩
  subst ex
  obtain rfl : u = Value.ref d := rx
  have hm := PySem.W.mapOf_K (prog := X.prog) (w := X.w) I1.kIn D.at_ D.lit
  refine ⟨hm.typeIs, hm.noDict, ?_⟩
  rw [m.trees]
  refine Calls.callWith_builtin rfl (Calls.evalArgs_plain (Calls.spliced_cons (thn (he.run pins s1 σ H1 _ I1 q1) ?_)))
  rintro iv s2 ⟨y, H2, I2, ry, q2⟩
  refine Calls.spliced_cons (thn (hf.run pins s2 σ H2 _ I2 q2) ?_)
  rintro fv s3 ⟨z, H3, I3, rz, nn, r, v, ey, er, hr1, hr2, q3⟩
  subst ey
  obtain ⟨t, rfl⟩ := ry
  refine Calls.spliced_nil ?_
  have hm3 := PySem.W.mapOf_K (prog := X.prog) (w := X.w) I3.kIn D.at_ D.lit
  refine call_meetsIn PySem.F.slot_dict_get hm3.typeIs PySem.F.entry_dict_get (PySem.F.args_dict_get_3 _ _ _) (meets_dict_get_default (PySem.strKind X.prog X.w) d (PySem.strKind_is X.prog X.w nn t) D.low fv) ⟨_, hm3, ?_⟩
  rw [PySem.W.find_K D.at_ er]
  cases r with
  | none => exact ⟨v, H3, I3.tok _, by rw [hr2 rfl]; exact rz, q3⟩
  | some u => exact ⟨v, H3, I3.tok _, hr1 u rfl, q3⟩

def twV : Option (List Nat) → V
  | none => .non
  | some a => T a
abbrev fldsR (tl : Addr) (n : Int) (dl : Addr) (tw : V) : List (Str × V) := [("tokens", .ref tl), ("now", .int n), ("depths", .ref dl), ("twice", tw)]
structure TOk (ts : List Tk) : Prop where
  txt : ∀ t ∈ ts, t.1 ≠ cds "number" → ∃ b : List Nat, t.2.1 = T b ∧ b.length ≤ 100000
  num : ∀ t ∈ ts, t.1 = cds "number" → ∃ x : Nat, t.2.1 = .int (x : Int)
  len : ts.length ≤ 200000
  pos : ∀ t ∈ ts, t.2.2 ≤ 1000000
def RdS (RC : Addr) (r dl tl : Addr) (ts : List Tk) (S : RS) (H : Hp) : Prop := ∃ (dx : Addr) (ps : List Addr), tl ≠ dl ∧ tl ≠ r ∧ dl ≠ r ∧ H r = some (.ins RC dx (fldsR tl S.n dl (twV S.tw))) ∧ H tl = some (.lst (ps.map V.ref)) ∧ TokAt H ps ts ∧
  H dl = some (.lst (S.ds.map fun d : Nat => V.int (d : Int))) ∧ S.ds.length ≤ 400000
def Fr2 (r dl : Addr) (H H' : Hp) : Prop := (∀ b o, b ≠ r → b ≠ dl → H b = some o → H' b = some o) ∧ ∀ b, H' b = none → H b = none
theorem Fr2.refl (r dl : Addr) (H : Hp) : Fr2 r dl H H := ⟨fun _ _ _ _ h => h, fun _ h => h⟩
theorem Fr2.trans {r dl : Addr} {H H1 H2 : Hp} (a : Fr2 r dl H H1) (b : Fr2 r dl H1 H2) : Fr2 r dl H H2 := ⟨fun c o n m h => b.1 c o n m (a.1 c o n m h), fun c h => a.2 c (b.2 c h)⟩
theorem Fr2.same {r dl : Addr} {H H1 : Hp} (s : Same H H1) : Fr2 r dl H H1 := ⟨fun b o _ _ h => s b o h, fun b h => s.free h⟩
theorem Fr2.own {r dl : Addr} {H : Hp} {o u : HO} (h : H r = some u) : Fr2 r dl H (upd H r o) := ⟨fun b v n _ e => by rw [upd_ne n]; exact e, fun b e => by
  by_cases z : b = r
  · rw [z, upd_same] at e; cases e
  · rw [upd_ne z] at e; exact e⟩
theorem Fr2.own2 {r dl : Addr} {H : Hp} {o u : HO} (h : H dl = some u) : Fr2 r dl H (upd H dl o) := ⟨fun b v _ n e => by rw [upd_ne n]; exact e, fun b e => by
  by_cases z : b = dl
  · rw [z, upd_same] at e; cases e
  · rw [upd_ne z] at e; exact e⟩
theorem RdS.same {RC r dl tl : Addr} {ts : List Tk} {S : RS} {H H1 : Hp} (h : RdS RC r dl tl ts S H) (s : Same H H1) : RdS RC r dl tl ts S H1 := by
  obtain ⟨dx, ps, a, b, c, d, e, f, g, z⟩ := h
  exact ⟨dx, ps, a, b, c, s _ _ d, s _ _ e, f.same s, s _ _ g, z⟩
def Err2 (C : Addr) (E : XK) (r dl : Addr) (H : Hp) (i : Nat) : Prop := ∀ d H', H d = none → Fr2 r dl H H' → H' d = some (.xd [(("at" : Str), .int (i : Int))]) → E (.ref C) (some d) H'
theorem Err2.to {C : Addr} {E : XK} {r dl : Addr} {H H1 : Hp} {i : Nat} (e : Err2 C E r dl H i) (f : Fr2 r dl H H1) : Err2 C E r dl H1 i := fun d H' hd f' h => e d H' (f.2 d hd) (f.trans f') h
theorem Err2.err {C : Addr} {E : XK} {r dl : Addr} {H : Hp} {i : Nat} (e : Err2 C E r dl H i) : Err C E H i := fun d H' hd s h => e d H' hd (Fr2.same s) h
def Does {α : Type} (C RC : Addr) (r dl tl : Addr) (ts : List Tk) (x : Res RS α) (R : V → α → Hp → Prop) (H : Hp) (Q : VK) (E : XK) : Prop :=
  Out x (fun a S' => ∀ v H', R v a H' → RdS RC r dl tl ts S' H' → Fr2 r dl H H' → Q v H') (fun i => Err2 C E r dl H i)
theorem Does.to {α : Type} {C RC r dl tl : Addr} {ts : List Tk} {x : Res RS α} {R : V → α → Hp → Prop} {H H1 : Hp} {Q : VK} {E : XK} (h : Does C RC r dl tl ts x R H Q E) (f : Fr2 r dl H H1) : Does C RC r dl tl ts x R H1 Q E :=
  Out.mono h (fun a S' k v H' q1 q2 q3 => k v H' q1 q2 (f.trans q3)) fun i e => e.to f
theorem Does.call {α β : Type} {C RC r dl tl : Addr} {ts : List Tk} {x : Res RS α} {k : α → RS → Res RS β} {R : V → α → Hp → Prop} {R2 : V → β → Hp → Prop} {H H1 : Hp} {Q Q2 : VK} {E : XK} (h : Does C RC r dl tl ts (x.bind k) R2 H Q2 E) (f : Fr2 r dl H H1)
    (go : ∀ a S' v H', R v a H' → RdS RC r dl tl ts S' H' → Fr2 r dl H H' → Does C RC r dl tl ts (k a S') R2 H' Q2 E → Q v H') : Does C RC r dl tl ts x R H1 Q E :=
  Out.mono (Out.bind h) (fun a S' q v H' q1 q2 q3 => go a S' v H' q1 q2 (f.trans q3) (Does.to q (f.trans q3))) fun i e => e.to f
theorem Does.ok {α : Type} {C RC r dl tl : Addr} {ts : List Tk} {a : α} {S' : RS} {R : V → α → Hp → Prop} {H H' : Hp} {Q : VK} {E : XK} (h : Does C RC r dl tl ts (.ok a S') R H Q E) {v : V} (q1 : R v a H') (q2 : RdS RC r dl tl ts S' H') (q3 : Fr2 r dl H H') : Q v H' := h v H' q1 q2 q3
def isU : V → Unit → Hp → Prop := fun v _ _ => v = .non
def isB : V → Bool → Hp → Prop := fun v b _ => v = .bl b
def isT : V → List Nat → Hp → Prop := fun v a _ => v = T a
def isV (k : List Nat) : V → V → Hp → Prop := fun v a _ => v = a ∧ (k ≠ cds "number" → a = T (txtV a) ∧ (txtV a).length ≤ 100000) ∧ (k = cds "number" → ∃ x : Nat, a = .int (x : Int))
def isTs (K : PySem.W.Frag) : V → List (List Nat) → Hp → Prop := fun v l H => ∃ p, v = .ref p ∧ SqT K H p (l.map T) ∧ l.length ≤ 2000
theorem TokAt.at {H : Hp} {ps : List Addr} {ts : List Tk} {i : Nat} {t : Tk} (h : TokAt H ps ts) (e : ts[i]? = some t) : ∃ p, ps[i]? = some p ∧ H p = some (.tup [T t.1, t.2.1, .int (t.2.2 : Int)]) := by
  induction h generalizing i with
  | nil => simp at e
  | cons hd tl ih =>
    cases i with
    | zero => rw [List.getElem?_cons_zero] at e; cases e; exact ⟨_, rfl, hd⟩
    | succ i => exact ih (by simpa using e)
end
section
open PySem PySem.Spec PyProof.Rows L2
open C8 (Cal cal0 pe_c pe_gc pss_cut tCut)
def FldR (K : PySem.W.Frag) (f : Str) (x : V) (H : Hp) (Q : VK) : Prop := ∃ a C dx fs v, x = .ref a ∧ H a = some (.ins C dx fs) ∧ Cls K C ∧ NoAttr K C f ∧ fs.lookup f = some v ∧ Q v H
def MethR (C : Addr) (m : Str) (sp : Sp) (dvs : List V) (E : XK) (t : TA) (σ : L2.St) (x : V) (H : Hp) (Q : VK) : Prop := ∃ a dx fs, x = .ref a ∧ H a = some (.ins C dx fs) ∧ fs.lookup m = none ∧ t σ H fun vs H2 => sp (x :: (vs ++ dvs)) H2 Q E
def FldS (K : PySem.W.Frag) (f : Str) (y x : V) (H : Hp) (G : Hp → Prop) : Prop := ∃ a C dx fs, x = .ref a ∧ H a = some (.ins C dx fs) ∧ Cls K C ∧ NoAttr K C f ∧ fs.length < 1000 ∧ G (upd H a (.ins C dx (putF f y fs)))
def FldA (K : PySem.W.Frag) (tv : TE) (rd : V → V → Hp → VK → Prop) (f : Str) (σ : L2.St) (x : V) (H : Hp) (G : Hp → Prop) : Prop := ∃ a C dx fs v, x = .ref a ∧ H a = some (.ins C dx fs) ∧ Cls K C ∧ NoAttr K C f ∧ fs.lookup f = some v ∧
  tv σ H fun y H2 => rd v y H2 fun z H3 => ∃ dx' fs', H3 a = some (.ins C dx' fs') ∧ fs'.length < 1000 ∧ G (upd H3 a (.ins C dx' (putF f z fs')))
section
variable {σ : L2.St} {H : Hp} {Q : VK} {D : Ends} {v x y : V} {ta tv : TE} {t : TA} {K : PySem.W.Frag} {f m : Str} {C r dx : Addr} {fs : List (Str × V)} {sp : Sp} {dvs : List V} {E : XK} {rd : V → V → Hp → VK → Prop} {G : Hp → Prop}
theorem w_fld (k : ta σ H fun x H1 => FldR K f x H1 Q) : tFld K ta f σ H Q := k
theorem w_meth (k : ta σ H fun x H1 => MethR C m sp dvs E t σ x H1 Q) : tMeth C m sp dvs E ta t σ H Q := k
theorem w_fldS (k : tv σ H fun y H1 => ta σ H1 fun x H2 => FldS K f y x H2 fun H3 => D.nx σ H3) : sFld K ta tv f D σ H := k
theorem w_fldA (k : ta σ H fun x H1 => FldA K tv rd f σ x H1 fun H3 => D.nx σ H3) : sFldAug K ta tv rd f D σ H := k
theorem fld_at (h : H r = some (.ins C dx fs)) (c : Cls K C) (n : NoAttr K C f) (l : fs.lookup f = some v) (k : Q v H) : FldR K f (.ref r) H Q := ⟨r, C, dx, fs, v, rfl, h, c, n, l, k⟩
theorem meth_at (h : H r = some (.ins C dx fs)) (l : fs.lookup m = none) (k : t σ H fun vs H2 => sp (.ref r :: (vs ++ dvs)) H2 Q E) : MethR C m sp dvs E t σ (.ref r) H Q := ⟨r, dx, fs, rfl, h, l, k⟩
theorem fld_set (h : H r = some (.ins C dx fs)) (c : Cls K C) (n : NoAttr K C f) (l : fs.length < 1000) (k : ∀ H3, H3 r = some (.ins C dx (putF f y fs)) → (∀ b o, b ≠ r → H b = some o → H3 b = some o) → (∀ b, H3 b = none → H b = none) → G H3) : FldS K f y (.ref r) H G :=
  ⟨r, C, dx, fs, rfl, h, c, n, l, k _ upd_same (fun b o n e => by rw [upd_ne n]; exact e) fun b e => by
    by_cases z : b = r
    · rw [z, upd_same] at e; cases e
    · rw [upd_ne z] at e; exact e⟩
theorem fld_add {a b : Int} (h : H r = some (.ins C dx fs)) (c : Cls K C) (n : NoAttr K C f) (l : fs.lookup f = some (.int a)) (z : fs.length < 1000) (k : ∀ H3, H3 r = some (.ins C dx (putF f (.int (a + b)) fs)) → (∀ b o, b ≠ r → H b = some o → H3 b = some o) → (∀ b, H3 b = none → H b = none) → G H3) : FldA K (tC (.int b)) L2.rAdd f σ (.ref r) H G :=
  ⟨r, C, dx, fs, _, rfl, h, c, n, l, a, b, rfl, rfl, dx, fs, h, z, k _ upd_same (fun b o n e => by rw [upd_ne n]; exact e) fun b e => by
    by_cases z : b = r
    · rw [z, upd_same] at e; cases e
    · rw [upd_ne z] at e; exact e⟩
end

end
local macro_rules | `(tactic| walk_at "r1r") => `(tactic| first
  | refine Wk0.go ?_
  | with_reducible refine w_var (by with_unfolding_all exact rfl) ?_
  | with_reducible refine w_var (by with_unfolding_all exact rfl) ?_
  | with_reducible refine w_fld ?_
  | with_reducible refine w_meth ?_
  | with_reducible refine w_fldS ?_
  | with_reducible refine w_fldA ?_
  | with_reducible refine w_raise ?_
  | with_reducible refine w_leC ?_
  | with_reducible refine w_eq (by with_unfolding_all exact rfl) ?_
  | with_reducible refine w_ne (by with_unfolding_all exact rfl) ?_
  | with_reducible refine L2.iteF ?_
  | with_reducible refine L2.iteT ?_)
local macro_rules | `(tactic| walk_at "rdr") => `(tactic| repeat walk_at "r1r")
section
open PySem PySem.Spec PyProof.Rows L2
open C8 (Cal cal0 pe_c pe_gc pss_cut tCut)

structure RdTx (P : Program) (w : World) (K : PySem.W.Frag) (mg : Str → Option Value) (C fI RC : Addr) : Prop where
  src : PySem.SrcX.SrcTxt P K mg "SourceError" C fI
  cl : Cls K RC
  n_tokens : NoAttr K RC "tokens"
  n_now : NoAttr K RC "now"
  n_depths : NoAttr K RC "depths"
  n_twice : NoAttr K RC "twice"
  n_len : mg "len" = none
  n_tuple : mg "tuple" = none
  n_max : mg "max" = none
  n_enumerate : mg "enumerate" = none
  c_DEEPEST : ∃ u, mg "DEEPEST" = some u ∧ RelV (.int 12) u
  c_MOST_PARAMETERS : ∃ u, mg "MOST_PARAMETERS" = some u ∧ RelV (.int 8) u
  c_MOST_VARIABLES : ∃ u, mg "MOST_VARIABLES" = some u ∧ RelV (.int 8) u
  c_MOST_BLOCK_PARAMETERS : ∃ u, mg "MOST_BLOCK_PARAMETERS" = some u ∧ RelV (.int 4) u
  c_MOST_ARGUMENTS : ∃ u, mg "MOST_ARGUMENTS" = some u ∧ RelV (.int 8) u
  c_LOOSEST : ∃ u, mg "LOOSEST" = some u ∧ RelV (.int 1) u
  c_COMPARING : ∃ u, mg "COMPARING" = some u ∧ RelV (.int 4) u
  c_TIGHTEST : ∃ u, mg "TIGHTEST" = some u ∧ RelV (.int 9) u

section
variable {P : Program} {w : World} {K : PySem.W.Frag} {mg : Str → Option Value} {base : Heap} {C fI RC : Addr}
abbrev s_Reader_fixed : Stmt := inClass (topS 40) 3
abbrev N_Reader_fixed : List Str := ["self", "ahead", "kind", "value", "_"]
theorem sc_Reader_fixed : FnScope N_Reader_fixed ["self", "ahead"] (defScope s_Reader_fixed) := ⟨rfl, rfl, rfl, by decide +kernel, rfl, by decide +kernel, by decide +kernel⟩
def spFixed (C RC : Addr) : Sp := fun vs H Q E => ∃ (r dl tl : Addr) (ts : List Tk) (S : RS) (k : Nat), vs = [.ref r, .int (k : Int)] ∧ RdS RC r dl tl ts S H ∧ TOk ts ∧ Does C RC r dl tl ts (rFixed ts k S) isT H Q E
theorem ok_fixed {f : Addr} {fd : FuncData} (F : FunD K "fixed" "Reader.fixed" (defArgs s_Reader_fixed) (defBody s_Reader_fixed) (defScope s_Reader_fixed) [.int 0] [] f fd) (Z : RdTx P w K mg C fI RC) : FnOk P w K mg base (L2.CX P w) 1 f fd ["self", "ahead"] (spFixed C RC) := by
  refine F.ok (CX := L2.CX P w) sc_Reader_fixed (fun vs H Q E h => ?_) (fun cdv A outer s H vs Q E hr h => ?_)
  · obtain ⟨r, dl, tl, ts, S, k, rfl, _⟩ := h
    rfl
  · obtain ⟨r, dl, tl, ts, S, k, rfl, hR, ok, kD⟩ := h
    obtain ⟨dx, ps, n1, n2, n3, hr', htl, hT, hdl, hz⟩ := id hR
    have nd := sc_Reader_fixed.nd
    unfold rFixed at kD
    have hk : S.n + k < ts.length := by
      by_cases h : S.n + k < ts.length
      · exact h
      · rw [if_neg h] at kD; exact False.elim kD
    rw [if_pos hk] at kD
    have kQ : Q (T (fixT (tokN ts (S.n + k)))) H := kD _ _ rfl hR (Fr2.refl _ _ _)
    refine ⟨_, (pss_cons (ps_asg (pe_ix ix_list (pe_fld (pv 0) rfl) (pe_op op_add (pe_fld (pv 0) rfl) (pv 1)) (fun _ _ => rfl)) (pg_tup (by rfl) (pgs_cons (pg_name (i := 2) nd rfl (Or.inl rfl)) (pgs_cons (pg_name (i := 3) nd rfl (Or.inl rfl)) (pgs_cons (pg_name (i := 4) nd rfl (Or.inl rfl)) pgs_nil)))))
      (pss_cons (ps_if (PW.pt (pw_or (pt_cmpR op_eq (pv 2) pe_str (nomark _)) (pw_or1 (pt_cmpR op_eq (pv 2) pe_str (nomark _))))) (pss_one (ps_ret (pv 3))) pss_nil)
      (pss_one (ps_ret pe_str)))), ?_⟩
    rw [show L2.start N_Reader_fixed [.ref r, .int (k : Int)] = [some (.ref r), some (.int (k : Int)), none, none, none] from rfl]
    walk_at "rdr"
    refine fld_at hr' Z.cl Z.n_tokens (by rfl) ?_
    walk_at "rdr"
    refine fld_at hr' Z.cl Z.n_now (by rfl) ?_
    walk_at "rdr"
    obtain ⟨p, hp, htp⟩ := hT.at (tokN_get hk)
    generalize ht : tokN ts (S.n + k) = t at htp kQ
    have hmem : t ∈ ts := by
      have := tokN_get hk
      rw [ht] at this
      exact List.mem_of_getElem? this
    refine w_ixL (v := .ref p) (SqL.of htl) (atI_nat (j := S.n + k) (by rw [List.getElem?_map, hp]; rfl)) ?_
    refine ⟨p, _, rfl, sqT_of htp, rfl, ?_⟩
    refine ⟨_, _, rfl, ?_⟩
    walk_at "rdr"
    refine ⟨_, _, rfl, ?_⟩
    walk_at "rdr"
    refine ⟨_, _, rfl, ?_⟩
    walk_at "rdr"
    refine ⟨rfl, ?_⟩
    walk_at "rdr"
    have ew : (Str.ofString "word").cps.toList = cds "word" := rfl
    have em : (Str.ofString "mark").cps.toList = cds "mark" := rfl
    have e0 : (Str.ofString "").cps.toList = ([] : List Nat) := by decide +kernel
    have yes : t.1 = cds "word" ∨ t.1 = cds "mark" → Q t.2.1 H := fun h => by
      have hn : t.1 ≠ cds "number" := by
        rcases h with h | h <;> rw [h] <;> decide +kernel
      obtain ⟨b, hb, _⟩ := ok.txt t hmem hn
      unfold fixT at kQ
      rw [if_pos h, hb, txtV_T] at kQ
      rw [hb]
      exact kQ
    refine w_ifT (fun h => ?_) (fun h => ?_)
    · walk_at "rdr"
      exact yes (.inl h)
    · walk_at "rdr"
      refine w_ifT (fun h2 => ?_) (fun h2 => ?_)
      · walk_at "rdr"
        exact yes (.inr h2)
      · walk_at "rdr"
        rw [e0]
        unfold fixT at kQ
        rw [if_neg (fun z => by rcases z with z | z
                                · exact h z
                                · exact h2 z)] at kQ
        exact kQ

theorem RdS.put {r dl : Addr} {ts : List Tk} {S : RS} {H H3 : Hp} {dx tl : Addr} {ps : List Addr} {n : Nat} {tw : Option (List Nat)} (n1 : tl ≠ dl) (n2 : tl ≠ r) (n3 : dl ≠ r) (hr' : H r = some (.ins RC dx (fldsR tl (S.n : Int) dl (twV S.tw)))) (htl : H tl = some (.lst (ps.map V.ref))) (hT : TokAt H ps ts)
    (hdl : H dl = some (.lst (S.ds.map fun d : Nat => V.int (d : Int)))) (hz : S.ds.length ≤ 400000) (h3 : H3 r = some (.ins RC dx (fldsR tl (n : Int) dl (twV tw)))) (k : ∀ b o, b ≠ r → H b = some o → H3 b = some o) : RdS RC r dl tl ts ⟨n, S.ds, tw⟩ H3 :=
  ⟨dx, ps, n1, n2, n3, h3, k _ _ n2 htl, TokAt.but k (fun t e => by rw [hr'] at e; cases e) hT, k _ _ n3 hdl, hz⟩
theorem Fr2.at {r dl : Addr} {H H3 : Hp} (k : ∀ b o, b ≠ r → H b = some o → H3 b = some o) (z : ∀ b, H3 b = none → H b = none) : Fr2 r dl H H3 := ⟨fun b o n _ e => k b o n e, z⟩

abbrev s_Reader_refuse : Stmt := inClass (topS 40) 2
abbrev N_Reader_refuse : List Str := ["self"]
theorem sc_Reader_refuse : FnScope N_Reader_refuse ["self"] (defScope s_Reader_refuse) := ⟨rfl, rfl, rfl, by decide +kernel, rfl, by decide +kernel, by decide +kernel⟩
def spRefuse (C RC : Addr) : Sp := fun vs H _ E => ∃ (r dl tl : Addr) (ts : List Tk) (S : RS), vs = [.ref r] ∧ RdS RC r dl tl ts S H ∧ TOk ts ∧ Out (rRefuse (α := Unit) ts S) (fun _ _ => False) (fun i => Err2 C E r dl H i)
theorem ok_refuse {f : Addr} {fd : FuncData} (F : Fun K "refuse" "Reader.refuse" s_Reader_refuse f fd) (Z : RdTx P w K mg C fI RC) : FnOk P w K mg base (L2.CX P w) 1 f fd ["self"] (spRefuse C RC) := by
  refine F.okX sc_Reader_refuse (fun vs H Q E h => ?_) (fun cdv A outer s H vs Q E hr h => ?_)
  · obtain ⟨r, dl, tl, ts, S, rfl, _⟩ := h
    rfl
  · obtain ⟨r, dl, tl, ts, S, rfl, ⟨dx, ps, n1, n2, n3, hr', htl, hT, hdl, hz⟩, ok, kD⟩ := h
    have nd := sc_Reader_refuse.nd
    unfold rRefuse at kD
    have hk : S.n < ts.length := by
      by_cases h : S.n < ts.length
      · exact h
      · rw [if_neg h] at kD; exact False.elim kD
    rw [if_pos hk] at kD
    have kE : Err2 C E r dl H (posN ts S.n) := kD
    refine ⟨_, (pss_one (ps_raiseSrc rfl Z.src hr tk_of (pa_cons (pe_ix ix_tup (pe_ix ix_list (pe_fld (pv 0) rfl) (pe_fld (pv 0) rfl) (fun _ _ => rfl)) pe_int (fun _ _ => rfl)) pa_nil))), ?_⟩
    rw [show L2.start N_Reader_refuse [.ref r] = [some (.ref r)] from rfl]
    obtain ⟨p, hp, htp⟩ := hT.at (tokN_get hk)
    have hmem := List.mem_of_getElem? (tokN_get hk)
    walk_at "rdr"
    refine fld_at hr' Z.cl Z.n_tokens (by rfl) ?_
    walk_at "rdr"
    refine fld_at hr' Z.cl Z.n_now (by rfl) ?_
    refine w_ixL (v := .ref p) (SqL.of htl) (atI_nat (j := S.n) (by rw [List.getElem?_map, hp]; rfl)) ?_
    walk_at "rdr"
    refine w_ixT (sqT_of htp) (v := .int ((tokN ts S.n).2.2 : Int)) rfl ?_
    walk_at "rdr"
    exact raise_I (ok.pos _ hmem) kE.err

theorem use_refuse {α : Type} {r dl tl : Addr} {ts : List Tk} {S : RS} {H H1 : Hp} {R : V → α → Hp → Prop} {Q Q2 : VK} {E : XK} (hR : RdS RC r dl tl ts S H1) (ok : TOk ts) (f : Fr2 r dl H H1) (h : Does C RC r dl tl ts (rRefuse ts S : Res RS α) R H Q E) : spRefuse C RC (.ref r :: ([] ++ [])) H1 Q2 E := by
  refine ⟨r, dl, tl, ts, S, rfl, hR, ok, ?_⟩
  unfold Does rRefuse at h
  unfold rRefuse
  by_cases hk : S.n < ts.length
  · rw [if_pos hk] at h ⊢
    have h' : Err2 C E r dl H (posN ts S.n) := h
    exact h'.to f
  · rw [if_neg hk] at h
    exact False.elim h
abbrev s_Reader_accept : Stmt := inClass (topS 40) 4
abbrev N_Reader_accept : List Str := ["self", "wanted"]
theorem sc_Reader_accept : FnScope N_Reader_accept ["self", "wanted"] (defScope s_Reader_accept) := ⟨rfl, rfl, rfl, by decide +kernel, rfl, by decide +kernel, by decide +kernel⟩
def spAccept (C RC : Addr) : Sp := fun vs H Q E => ∃ (r dl tl : Addr) (ts : List Tk) (S : RS) (a : List Nat), vs = [.ref r, T a] ∧ RdS RC r dl tl ts S H ∧ TOk ts ∧ Does C RC r dl tl ts (rAccept ts a S) isB H Q E
theorem ok_accept {f : Addr} {fd : FuncData} (F : Fun K "accept" "Reader.accept" s_Reader_accept f fd) (Z : RdTx P w K mg C fI RC) (m_fixed : MetX P w K mg base 1 RC "fixed" (spFixed C RC) [.int 0]) : FnOk P w K mg base (L2.CX P w) 2 f fd ["self", "wanted"] (spAccept C RC) := by
  refine F.okX sc_Reader_accept (fun vs H Q E h => ?_) (fun cdv A outer s H vs Q E hr h => ?_)
  · obtain ⟨r, dl, tl, ts, S, a, rfl, _⟩ := h
    rfl
  · obtain ⟨r, dl, tl, ts, S, a, rfl, hR, ok, kQ⟩ := h
    obtain ⟨dx, ps, n1, n2, n3, hr', htl, hT, hdl, hz⟩ := id hR
    have nd := sc_Reader_accept.nd
    refine ⟨_, (pss_cons (ps_if (pt_cmpR op_ne (pe_mx0 m_fixed hr (by decide) px_of (pv 0)) (pv 1) (nomark _)) (pss_one (ps_ret pe_bl)) pss_nil)
      (pss_cons (ps_fldaug (pv 0) pe_int in_add)
      (pss_one (ps_ret pe_bl)))), ?_⟩
    rw [show L2.start N_Reader_accept [.ref r, T a] = [some (.ref r), some (T a)] from rfl]
    unfold rAccept at kQ
    walk_at "rdr"
    refine meth_at hr' (by rfl) ?_
    walk_at "rdr"
    refine ⟨r, dl, tl, ts, S, 0, rfl, hR, ok, Does.call kQ (Fr2.refl _ _ _) ?_⟩
    rintro b S1 v H1 rfl hR1 f1 kQ1
    obtain ⟨dx, ps, n1, n2, n3, hr', htl, hT, hdl, hz⟩ := id hR1
    walk_at "rdr"
    refine w_ifTn (fun h => ?_) (fun h => ?_)
    · rw [if_neg h] at kQ1
      walk_at "rdr"
      exact kQ1.ok rfl hR1 (Fr2.refl _ _ _)
    · rw [if_pos h] at kQ1
      walk_at "rdr"
      refine fld_add hr' Z.cl Z.n_now (by rfl) (show 4 < 1000 by decide) fun H3 h3 k3 z3 => ?_
      walk_at "rdr"
      have hR3 : RdS RC r dl tl ts ⟨S1.n + 1, S1.ds, S1.tw⟩ H3 := RdS.put n1 n2 n3 hr' htl hT hdl hz h3 k3
      exact kQ1.ok rfl hR3 (Fr2.at k3 z3)

abbrev s_Reader_expect : Stmt := inClass (topS 40) 5
abbrev N_Reader_expect : List Str := ["self", "wanted"]
theorem sc_Reader_expect : FnScope N_Reader_expect ["self", "wanted"] (defScope s_Reader_expect) := ⟨rfl, rfl, rfl, by decide +kernel, rfl, by decide +kernel, by decide +kernel⟩
def spExpect (C RC : Addr) : Sp := fun vs H Q E => ∃ (r dl tl : Addr) (ts : List Tk) (S : RS) (a : List Nat), vs = [.ref r, T a] ∧ RdS RC r dl tl ts S H ∧ TOk ts ∧ Does C RC r dl tl ts (rExpect ts a S) isU H Q E
theorem ok_expect {f : Addr} {fd : FuncData} (F : Fun K "expect" "Reader.expect" s_Reader_expect f fd) (Z : RdTx P w K mg C fI RC) (m_accept : MetX P w K mg base 2 RC "accept" (spAccept C RC) []) (m_refuse : MetX P w K mg base 1 RC "refuse" (spRefuse C RC) []) : FnOk P w K mg base (L2.CX P w) 3 f fd ["self", "wanted"] (spExpect C RC) := by
  refine F.okX sc_Reader_expect (fun vs H Q E h => ?_) (fun cdv A outer s H vs Q E hr h => ?_)
  · obtain ⟨r, dl, tl, ts, S, a, rfl, _⟩ := h
    rfl
  · obtain ⟨r, dl, tl, ts, S, a, rfl, hR, ok, kQ⟩ := h
    obtain ⟨dx, ps, n1, n2, n3, hr', htl, hT, hdl, hz⟩ := id hR
    have nd := sc_Reader_expect.nd
    refine ⟨_, (pss_one (ps_if (pt_not (pt_val (pe_mx m_accept hr (by decide) px_of (pv 0) (pa_cons (pv 1) pa_nil)))) (pss_one (ps_expr (pe_mx0 m_refuse hr (by decide) px_of (pv 0)))) pss_nil)), ?_⟩
    rw [show L2.start N_Reader_expect [.ref r, T a] = [some (.ref r), some (T a)] from rfl]
    unfold rExpect at kQ
    walk_at "rdr"
    refine meth_at hr' (by rfl) ?_
    walk_at "rdr"
    refine ⟨r, dl, tl, ts, S, a, rfl, hR, ok, Does.call kQ (Fr2.refl _ _ _) ?_⟩
    rintro b S1 v H1 rfl hR1 f1 kQ1
    obtain ⟨dx, ps, n1, n2, n3, hr', _⟩ := id hR1
    refine ⟨b, rfl, ?_⟩
    cases b with
    | true =>
      rw [if_pos rfl] at kQ1
      walk_at "rdr"
      exact kQ1.ok rfl hR1 (Fr2.refl _ _ _)
    | false =>
      rw [if_neg Bool.false_ne_true] at kQ1
      walk_at "rdr"
      refine meth_at hr' (by rfl) ?_
      walk_at "rdr"
      exact use_refuse hR1 ok (Fr2.refl _ _ _) kQ1

abbrev s_Reader_take : Stmt := inClass (topS 40) 6
abbrev N_Reader_take : List Str := ["self", "wanted", "kind", "value", "_"]
theorem sc_Reader_take : FnScope N_Reader_take ["self", "wanted"] (defScope s_Reader_take) := ⟨rfl, rfl, rfl, by decide +kernel, rfl, by decide +kernel, by decide +kernel⟩
def spTake (C RC : Addr) : Sp := fun vs H Q E => ∃ (r dl tl : Addr) (ts : List Tk) (S : RS) (a : List Nat), vs = [.ref r, T a] ∧ RdS RC r dl tl ts S H ∧ TOk ts ∧ Does C RC r dl tl ts (rTake ts a S) (isV a) H Q E
theorem ok_take {f : Addr} {fd : FuncData} (F : Fun K "take" "Reader.take" s_Reader_take f fd) (Z : RdTx P w K mg C fI RC) (m_refuse : MetX P w K mg base 1 RC "refuse" (spRefuse C RC) []) : FnOk P w K mg base (L2.CX P w) 2 f fd ["self", "wanted"] (spTake C RC) := by
  refine F.okX sc_Reader_take (fun vs H Q E h => ?_) (fun cdv A outer s H vs Q E hr h => ?_)
  · obtain ⟨r, dl, tl, ts, S, a, rfl, _⟩ := h
    rfl
  · obtain ⟨r, dl, tl, ts, S, a, rfl, hR, ok, kQ⟩ := h
    obtain ⟨dx, ps, n1, n2, n3, hr', htl, hT, hdl, hz⟩ := id hR
    have nd := sc_Reader_take.nd
    refine ⟨_, (pss_cons (ps_asg (pe_ix ix_list (pe_fld (pv 0) rfl) (pe_fld (pv 0) rfl) (fun _ _ => rfl)) (pg_tup (by rfl) (pgs_cons (pg_name (i := 2) nd rfl (Or.inl rfl)) (pgs_cons (pg_name (i := 3) nd rfl (Or.inl rfl)) (pgs_cons (pg_name (i := 4) nd rfl (Or.inl rfl)) pgs_nil)))))
      (pss_cons (ps_if (pt_cmpR op_ne (pv 2) (pv 1) (nomark _)) (pss_one (ps_expr (pe_mx0 m_refuse hr (by decide) px_of (pv 0)))) pss_nil)
      (pss_cons (ps_fldaug (pv 0) pe_int in_add)
      (pss_one (ps_ret (pv 3)))))), ?_⟩
    rw [show L2.start N_Reader_take [.ref r, T a] = [some (.ref r), some (T a), none, none, none] from rfl]
    unfold rTake at kQ
    have hk : S.n < ts.length := by
      by_cases h : S.n < ts.length
      · exact h
      · rw [if_neg h] at kQ; exact False.elim kQ
    rw [if_pos hk] at kQ
    obtain ⟨p, hp, htp⟩ := hT.at (tokN_get hk)
    have hmem := List.mem_of_getElem? (tokN_get hk)
    walk_at "rdr"
    refine fld_at hr' Z.cl Z.n_tokens (by rfl) ?_
    walk_at "rdr"
    refine fld_at hr' Z.cl Z.n_now (by rfl) ?_
    refine w_ixL (v := .ref p) (SqL.of htl) (atI_nat (j := S.n) (by rw [List.getElem?_map, hp]; rfl)) ?_
    refine ⟨p, _, rfl, sqT_of htp, rfl, ?_⟩
    refine ⟨_, _, rfl, ?_⟩
    walk_at "rdr"
    refine ⟨_, _, rfl, ?_⟩
    walk_at "rdr"
    refine ⟨_, _, rfl, ?_⟩
    walk_at "rdr"
    refine ⟨rfl, ?_⟩
    walk_at "rdr"
    refine w_ifTn (fun h => ?_) (fun h => ?_)
    · rw [if_neg h] at kQ
      walk_at "rdr"
      refine meth_at hr' (by rfl) ?_
      walk_at "rdr"
      exact use_refuse hR ok (Fr2.refl _ _ _) kQ
    · rw [if_pos h] at kQ
      walk_at "rdr"
      refine fld_add hr' Z.cl Z.n_now (by rfl) (show 4 < 1000 by decide) fun H3 h3 k3 z3 => ?_
      walk_at "rdr"
      have hR3 : RdS RC r dl tl ts ⟨S.n + 1, S.ds, S.tw⟩ H3 := RdS.put n1 n2 n3 hr' htl hT hdl hz h3 k3
      refine kQ.ok ⟨rfl, fun hn => ?_, fun hn => ok.num _ hmem (by rw [h]; exact hn)⟩ hR3 (Fr2.at k3 z3)
      obtain ⟨b, hb, hl⟩ := ok.txt _ hmem (by rw [h]; exact hn)
      rw [hb, txtV_T]
      exact ⟨rfl, hl⟩
end
end
section
open PySem PySem.Spec PyProof.Rows L2
open C8 (Cal cal0 pe_c pe_gc pss_cut tCut)

def rTupOfR (K : PySem.W.Frag) : List V → Hp → VK → Prop := fun xs H Q => ∃ p ys, xs = [.ref p] ∧ ((SqL K H p ys ∧ ∀ l, H l = none → Q (.ref l) (upd H l (.tup ys))) ∨ (SqT K H p ys ∧ Q (.ref p) H))
theorem call_tupleOfR {X : Cx} : CallR X (.type "tuple") (rTupOfR X.K) := call_tuple_of
theorem w_tupOfR {K : PySem.W.Frag} {H : Hp} {Q : VK} {p : Addr} {ys : List V} (h : H p = some (.lst ys)) (k : ∀ l H1, H l = none → Same H H1 → H1 l = some (.tup ys) → Q (.ref l) H1) : rTupOfR K [.ref p] H Q :=
  ⟨p, ys, rfl, .inl ⟨SqL.of h, fun l hl => k l _ hl (same_new0 hl) upd_same⟩⟩
theorem Fr2.lst {r dl l : Addr} {H H1 : Hp} {o : HO} (f : Fr2 r dl H H1) (n1 : l ≠ r) (n2 : l ≠ dl) (h : H l = some o) : H1 l = some o := f.1 _ _ n1 n2 h
theorem RdS.new {RC r dl tl l : Addr} {ts : List Tk} {S : RS} {H : Hp} (h : RdS RC r dl tl ts S H) (hl : H l = none) : l ≠ r ∧ l ≠ dl ∧ l ≠ tl := by
  obtain ⟨dx, ps, a, b, c, d, e, f, g, z⟩ := h
  exact ⟨fun e' => (by rw [e', d] at hl; cases hl), fun e' => (by rw [e', g] at hl; cases hl), fun e' => (by rw [e', e] at hl; cases hl)⟩
theorem w_app3 {H : Hp} {Q : VK} {p : Addr} {xs : List V} {y : V} (h : H p = some (.lst xs)) (z : xs.length ≤ 1000000) (k : ∀ H1, H1 p = some (.lst (xs ++ [y])) → (∀ b o, b ≠ p → H b = some o → H1 b = some o) → (∀ b, H1 b = none → H b = none) → Q .non H1) : rAppend (.ref p) [y] H Q :=
  w_append h z (k _ upd_same (fun b o n e => by rw [upd_ne n]; exact e) fun b e => by
    by_cases z : b = p
    · rw [z, upd_same] at e; cases e
    · rw [upd_ne z] at e; exact e)
theorem Does.callA {α β : Type} {C RC r dl tl : Addr} {ts : List Tk} {x : Res RS α} {k : α → RS → Res RS β} {R : V → α → Hp → Prop} {R2 : V → β → Hp → Prop} {H H1 : Hp} {Q Q2 : VK} {E : XK} (h : Does C RC r dl tl ts (x.bind k) R2 H Q2 E) (f : Fr2 r dl H H1)
    (go : ∀ a S' v H', R v a H' → RdS RC r dl tl ts S' H' → Fr2 r dl H1 H' → Does C RC r dl tl ts (k a S') R2 H Q2 E → Q v H') : Does C RC r dl tl ts x R H1 Q E :=
  Out.mono (Out.bind h) (fun a S' q v H' q1 q2 q3 => go a S' v H' q1 q2 q3 q) fun i e => e.to f
theorem Fr2.grow {r dl l : Addr} {H H4 H5 : Hp} (f : Fr2 r dl H H4) (h0 : H l = none) (k : ∀ b o, b ≠ l → H4 b = some o → H5 b = some o) (z : ∀ b, H5 b = none → H4 b = none) : Fr2 r dl H H5 :=
  ⟨fun b o n m h => k b o (fun e => by rw [e, h0] at h; cases h) (f.1 b o n m h), fun b h => f.2 b (z b h)⟩
theorem RdS.grow {RC r dl tl l : Addr} {ts : List Tk} {S : RS} {H H1 : Hp} (h : RdS RC r dl tl ts S H) (n1 : l ≠ r) (n2 : l ≠ dl) (n3 : l ≠ tl) (hl : ∀ t, H l ≠ some (.tup t)) (k : ∀ b o, b ≠ l → H b = some o → H1 b = some o) : RdS RC r dl tl ts S H1 := by
  obtain ⟨dx, ps, a, b, c, d, e, f, g, z⟩ := h
  exact ⟨dx, ps, a, b, c, k _ _ (Ne.symm n1) d, k _ _ (Ne.symm n3) e, TokAt.but k hl f, k _ _ (Ne.symm n2) g, z⟩

section
variable {P : Program} {w : World} {K : PySem.W.Frag} {mg : Str → Option Value} {base : Heap} {C fI RC : Addr}
abbrev s_Reader_name_stands_before : Stmt := inClass (topS 40) 7
abbrev N_Reader_name_stands_before : List Str := ["self", "marks"]
theorem sc_Reader_name_stands_before : FnScope N_Reader_name_stands_before ["self", "marks"] (defScope s_Reader_name_stands_before) := ⟨rfl, rfl, rfl, by decide +kernel, rfl, by decide +kernel, by decide +kernel⟩
def spBefore (K : PySem.W.Frag) (C RC : Addr) : Sp := fun vs H Q E => ∃ (r dl tl q : Addr) (ts : List Tk) (S : RS) (ms : List (List Nat)), vs = [.ref r, .ref q] ∧ SqT K H q (ms.map T) ∧ RdS RC r dl tl ts S H ∧ TOk ts ∧ Does C RC r dl tl ts (rBefore ts ms S) isB H Q E
theorem sqT_fr {K : PySem.W.Frag} {r dl tl q : Addr} {RC : Addr} {ts : List Tk} {S : RS} {H H1 : Hp} {xs : List V} (h : SqT K H q xs) (hR : RdS RC r dl tl ts S H) (f : Fr2 r dl H H1) : SqT K H1 q xs := by
  obtain ⟨dx, ps, a, b, c, d, e, f', g, z⟩ := hR
  rcases h with (h | ⟨o, h⟩) | h
  · exact .inl (.inl (f.1 _ _ (fun e => by rw [e, d] at h; cases h) (fun e => by rw [e, g] at h; cases h) h))
  · exact .inl (.inr ⟨o, f.1 _ _ (fun e => by rw [e, d] at h; cases h) (fun e => by rw [e, g] at h; cases h) h⟩)
  · exact .inr h
theorem ok_before {f : Addr} {fd : FuncData} (F : Fun K "name_stands_before" "Reader.name_stands_before" s_Reader_name_stands_before f fd) (Z : RdTx P w K mg C fI RC) (m_fixed : MetX P w K mg base 1 RC "fixed" (spFixed C RC) []) : FnOk P w K mg base (L2.CX P w) 2 f fd ["self", "marks"] (spBefore K C RC) := by
  refine F.okX sc_Reader_name_stands_before (fun vs H Q E h => ?_) (fun cdv A outer s H vs Q E hr h => ?_)
  · obtain ⟨r, dl, tl, q, ts, S, ms, rfl, _⟩ := h
    rfl
  · obtain ⟨r, dl, tl, q, ts, S, ms, rfl, hq, hR, ok, kQ⟩ := h
    obtain ⟨dx, ps, n1, n2, n3, hr', htl, hT, hdl, hz⟩ := id hR
    have nd := sc_Reader_name_stands_before.nd
    refine ⟨_, (pss_one (ps_ret (pe_and (pe_cmpR op_eq (pe_ix ix_tup (pe_ix ix_list (pe_fld (pv 0) rfl) (pe_fld (pv 0) rfl) (fun _ _ => rfl)) pe_int (fun _ _ => rfl)) pe_str (nomark _)) (pe_one (pe_cmpR op_in_seq (pe_mx m_fixed hr (by decide) px_of (pv 0) (pa_cons pe_int pa_nil)) (pv 1) (by rfl)))))), ?_⟩
    rw [show L2.start N_Reader_name_stands_before [.ref r, .ref q] = [some (.ref r), some (.ref q)] from rfl]
    unfold rBefore at kQ
    have hk : S.n < ts.length := by
      by_cases h : S.n < ts.length
      · exact h
      · rw [if_neg h] at kQ; exact False.elim kQ
    rw [if_pos hk] at kQ
    obtain ⟨p, hp, htp⟩ := hT.at (tokN_get hk)
    walk_at "rdr"
    refine fld_at hr' Z.cl Z.n_tokens (by rfl) ?_
    walk_at "rdr"
    refine fld_at hr' Z.cl Z.n_now (by rfl) ?_
    refine w_ixL (v := .ref p) (SqL.of htl) (atI_nat (j := S.n) (by rw [List.getElem?_map, hp]; rfl)) ?_
    walk_at "rdr"
    refine w_ixT (sqT_of htp) (v := T (tokN ts S.n).1) rfl ?_
    walk_at "rdr"
    refine w_ifT (fun h => ?_) (fun h => ?_)
    · have h' : (tokN ts S.n).1 = cds "name" := h
      rw [if_pos h'] at kQ
      walk_at "rdr"
      refine meth_at hr' (by rfl) ?_
      walk_at "rdr"
      refine ⟨r, dl, tl, ts, S, 1, rfl, hR, ok, Does.call kQ (Fr2.refl _ _ _) ?_⟩
      rintro b S1 v H1 rfl hR1 f1 kQ1
      walk_at "rdr"
      refine w_inT (sqT_fr hq hR f1) ?_
      exact kQ1.ok rfl hR1 (Fr2.refl _ _ _)
    · have h' : ¬ (tokN ts S.n).1 = cds "name" := h
      rw [if_neg h'] at kQ
      exact kQ.ok (v := .bl false) rfl hR (Fr2.refl _ _ _)

abbrev s_Reader_begin : Stmt := inClass (topS 40) 10
abbrev N_Reader_begin : List Str := ["self", "depth"]
theorem sc_Reader_begin : FnScope N_Reader_begin ["self", "depth"] (defScope s_Reader_begin) := ⟨rfl, rfl, rfl, by decide +kernel, rfl, by decide +kernel, by decide +kernel⟩
def spBegin (C RC : Addr) : Sp := fun vs H Q E => ∃ (r dl tl : Addr) (ts : List Tk) (S : RS) (d : Nat), vs = [.ref r, .int (d : Int)] ∧ RdS RC r dl tl ts S H ∧ TOk ts ∧ Does C RC r dl tl ts (rBegin ts d S) isU H Q E
theorem ok_begin {f : Addr} {fd : FuncData} (F : Fun K "begin" "Reader.begin" s_Reader_begin f fd) (Z : RdTx P w K mg C fI RC) (m_refuse : MetX P w K mg base 1 RC "refuse" (spRefuse C RC) []) : FnOk P w K mg base (L2.CX P w) 2 f fd ["self", "depth"] (spBegin C RC) := by
  refine F.okX sc_Reader_begin (fun vs H Q E h => ?_) (fun cdv A outer s H vs Q E hr h => ?_)
  · obtain ⟨r, dl, tl, ts, S, d, rfl, _⟩ := h
    rfl
  · obtain ⟨r, dl, tl, ts, S, d, rfl, hR, ok, kQ⟩ := h
    obtain ⟨dx, ps, n1, n2, n3, hr', htl, hT, hdl, hz⟩ := id hR
    have nd := sc_Reader_begin.nd
    refine ⟨_, (pss_cons (ps_if (pt_cmpR op_gt (pv 1) (pe_gc rfl Z.c_DEEPEST) (nomark _)) (pss_one (ps_expr (pe_mx0 m_refuse hr (by decide) px_of (pv 0)))) pss_nil)
      (pss_one (ps_expr (pe_bm PySem.F.plainAttrs_list PySem.F.slot_list_append PySem.F.type_list_append mt_append (pe_fld (pv 0) rfl) (pa_cons (pv 1) pa_nil))))), ?_⟩
    rw [show L2.start N_Reader_begin [.ref r, .int (d : Int)] = [some (.ref r), some (.int (d : Int))] from rfl]
    unfold rBegin at kQ
    walk_at "rdr"
    refine w_if (fun h => ?_) (fun h => ?_)
    · rw [if_pos (by omega)] at kQ
      walk_at "rdr"
      refine meth_at hr' (by rfl) ?_
      walk_at "rdr"
      exact use_refuse hR ok (Fr2.refl _ _ _) kQ
    · rw [if_neg (by omega)] at kQ
      walk_at "rdr"
      refine fld_at hr' Z.cl Z.n_depths (by rfl) ?_
      refine ⟨tyL (SqL.of hdl), ?_⟩
      walk_at "rdr"
      have hlen : S.ds.length < 400000 := by
        by_cases h : S.ds.length < 400000
        · exact h
        · rw [if_neg h] at kQ; exact False.elim kQ
      rw [if_pos hlen] at kQ
      refine w_app3 hdl (by rw [List.length_map]; omega) fun H1 h1 k1 z1 => ?_
      walk_at "rdr"
      refine kQ.ok rfl ⟨dx, ps, n1, n2, n3, k1 _ _ (Ne.symm n3) hr', k1 _ _ n1 htl, TokAt.but k1 (fun t e => by rw [hdl] at e; cases e) hT, by rw [h1, List.map_append]; rfl, by rw [List.length_append]; show S.ds.length + 1 ≤ 400000; omega⟩ ⟨fun b o _ n e => k1 b o n e, z1⟩
end
end
section
open PySem PySem.Spec PyProof.Rows L2
open C8 (Cal cal0 pe_c pe_gc pss_cut tCut)

section
variable {P : Program} {w : World} {K : PySem.W.Frag} {mg : Str → Option Value} {base : Heap} {C fI RC : Addr}
abbrev s_Reader_names : Stmt := inClass (topS 40) 8
abbrev N_Reader_names : List Str := ["self", "most", "found"]
theorem sc_Reader_names : FnScope N_Reader_names ["self", "most"] (defScope s_Reader_names) := ⟨rfl, rfl, rfl, by decide +kernel, rfl, by decide +kernel, by decide +kernel⟩
def spNames (K : PySem.W.Frag) (C RC : Addr) : Sp := fun vs H Q E => ∃ (r dl tl : Addr) (ts : List Tk) (S : RS) (most : Nat), vs = [.ref r, .int (most : Int)] ∧ RdS RC r dl tl ts S H ∧ TOk ts ∧ most ≤ 1000 ∧ Does C RC r dl tl ts (rNames ts most S) (isTs K) H Q E
theorem ok_names {f : Addr} {fd : FuncData} (F : Fun K "names" "Reader.names" s_Reader_names f fd) (Z : RdTx P w K mg C fI RC) (m_refuse : MetX P w K mg base 1 RC "refuse" (spRefuse C RC) []) (m_take : MetX P w K mg base 2 RC "take" (spTake C RC) []) (m_accept : MetX P w K mg base 2 RC "accept" (spAccept C RC) []) :
    FnOk P w K mg base (L2.CX P w) 3 f fd ["self", "most"] (spNames K C RC) := by
  refine F.okX sc_Reader_names (fun vs H Q E h => ?_) (fun cdv A outer s H vs Q E hr h => ?_)
  · obtain ⟨r, dl, tl, ts, S, most, rfl, _⟩ := h
    rfl
  · obtain ⟨r, dl, tl, ts, S, most, rfl, hR, ok, hm, kQ⟩ := h
    obtain ⟨dx, ps, n1, n2, n3, hr', htl, hT, hdl, hz⟩ := id hR
    have nd := sc_Reader_names.nd
    refine ⟨_, (pss_cons (ps_set (i := 2) nd rfl (Or.inl rfl) (pe_lst (pa_cons (pe_mx m_take hr (by decide) px_of (pv 0) (pa_cons pe_str pa_nil)) pa_nil)))
      (pss_cons (ps_while po_of (pt_val (pe_mx m_accept hr (by decide) px_of (pv 0) (pa_cons pe_str pa_nil))) (pss_cons (ps_if (pt_cmpR op_eq (pe_callB call_lenL (by rfl) Z.n_len (by decide +kernel) (pa_cons (pv 2) pa_nil)) (pv 1) (nomark _)) (pss_one (ps_expr (pe_mx0 m_refuse hr (by decide) px_of (pv 0)))) pss_nil)
      (pss_one (ps_expr (pe_bm PySem.F.plainAttrs_list PySem.F.slot_list_append PySem.F.type_list_append mt_append (pv 2) (pa_cons (pe_mx m_take hr (by decide) px_of (pv 0) (pa_cons pe_str pa_nil)) pa_nil))))))
      (pss_one (ps_ret (pe_callTy call_tupleOfR (by rfl) Z.n_tuple (by decide +kernel) (pa_cons (pv 2) pa_nil)))))), ?_⟩
    rw [show L2.start N_Reader_names [.ref r, .int (most : Int)] = [some (.ref r), some (.int (most : Int)), none] from rfl]
    unfold rNames rName at kQ
    rw [Res.bind_assoc] at kQ
    walk_at "rdr"
    refine meth_at hr' (by rfl) ?_
    walk_at "rdr"
    refine ⟨r, dl, tl, ts, S, cds "name", rfl, hR, ok, Does.callA kQ (Fr2.refl _ _ _) ?_⟩
    rintro v S1 x H1 ⟨rfl, hx, _⟩ hR1 f1 kQ1
    obtain ⟨hx1, hx2⟩ := hx (by decide +kernel)
    walk_at "rdr"
    refine w_newL (by show 1 ≤ 1000000; decide) fun l H2 hl s2 h2 => ?_
    walk_at "rdr"
    obtain ⟨nl1, nl2, nl3⟩ := hR1.new hl
    refine ⟨fun m σ' H' => ∃ (found : List (List Nat)) (S' : RS), σ' = [some (.ref r), some (.int (most : Int)), some (.ref l)] ∧ RdS RC r dl tl ts S' H' ∧ H' l = some (.lst (found.map T)) ∧ found.length + m ≤ 2000 ∧ Fr2 r dl H H' ∧ Does C RC r dl tl ts (rNamesGo ts most m found S') (isTs K) H Q E,
      ⟨most + 1, [txtV x], S1, rfl, hR1.same s2, by rw [h2, hx1]; rw [txtV_T]; rfl, by show 1 + (most + 1) ≤ 2000; omega, f1.trans (Fr2.same s2), kQ1⟩, ?_⟩
    have hl0 : H l = none := f1.2 l hl
    rintro m σ' H' ⟨found, S', rfl, hR', hl', hlen, f', kQ'⟩
    cases m with
    | zero => exact False.elim kQ'
    | succ k =>
      unfold rNamesGo at kQ'
      obtain ⟨dx1, ps1, _, _, _, hr1, _⟩ := id hR'
      walk_at "rdr"
      refine meth_at hr1 (by rfl) ?_
      walk_at "rdr"
      refine ⟨r, dl, tl, ts, S', cds ",", rfl, hR', ok, Does.callA kQ' f' ?_⟩
      rintro b S2 v H3 rfl hR3 f3 kQ3
      have hl3 := f3.lst nl1 nl2 hl'
      refine ⟨b, rfl, ?_⟩
      cases b with
      | true =>
        rw [if_pos rfl] at kQ3
        refine L2.iteT ?_
        refine ⟨fun σ' H' => ∃ (found : List (List Nat)) (S' : RS), σ' = [some (.ref r), some (.int (most : Int)), some (.ref l)] ∧ RdS RC r dl tl ts S' H' ∧ H' l = some (.lst (found.map T)) ∧ found.length + k ≤ 2000 ∧ Fr2 r dl H H' ∧ Does C RC r dl tl ts (rNamesGo ts most k found S') (isTs K) H Q E,
          fun σ'' H'' h => ⟨k, Nat.lt_succ_self k, h⟩, ?_⟩
        walk_at "rdr"
        refine w_lenL (SqL.of hl3) ?_
        walk_at "rdr"
        rw [List.length_map]
        obtain ⟨dx3, ps3, _, _, _, hr3, _⟩ := id hR3
        refine w_ifI (fun h => ?_) (fun h => ?_)
        · rw [if_pos (by omega)] at kQ3
          walk_at "rdr"
          refine meth_at hr3 (by rfl) ?_
          walk_at "rdr"
          exact use_refuse hR3 ok (f'.trans f3) kQ3
        · rw [if_neg (by omega)] at kQ3
          unfold rName at kQ3
          rw [Res.bind_assoc] at kQ3
          walk_at "rdr"
          refine ⟨tyL (SqL.of hl3), ?_⟩
          walk_at "rdr"
          refine meth_at hr3 (by rfl) ?_
          walk_at "rdr"
          refine ⟨r, dl, tl, ts, S2, cds "name", rfl, hR3, ok, Does.callA kQ3 (f'.trans f3) ?_⟩
          rintro v S4 x4 H4 ⟨rfl, hx4, _⟩ hR4 f4 kQ4
          obtain ⟨hy1, hy2⟩ := hx4 (by decide +kernel)
          walk_at "rdr"
          have hl4 := f4.lst nl1 nl2 hl3
          refine w_app3 hl4 (by rw [List.length_map]; omega) fun H5 h5 k5 z5 => ?_
          walk_at "rdr"
          refine ⟨found ++ [txtV x4], S4, rfl, hR4.grow nl1 nl2 nl3 (fun t e => by rw [hl4] at e; cases e) k5, ?_, by rw [List.length_append]; show found.length + 1 + k ≤ 2000; omega, ((f'.trans f3).trans f4).grow hl0 k5 z5, kQ4⟩
          · rw [h5, List.map_append, hy1, txtV_T]; rfl
      | false =>
        rw [if_neg Bool.false_ne_true] at kQ3
        refine L2.iteF ?_
        walk_at "rdr"
        refine w_tupOfR hl3 fun p H4 hp s4 h4 => ?_
        exact kQ3.ok ⟨p, rfl, sqT_of h4, by omega⟩ (hR3.same s4) ((f'.trans f3).trans (Fr2.same s4))
end
end
section
open PySem PySem.Spec PyProof.Rows L2
open C8 (Cal cal0 pe_c pe_gc pss_cut tCut)

theorem w_yesR {σ : L2.St} {H : Hp} {A B : Hp → Prop} (k : A H) : tYes σ H fun b H3 => if b = true then A H3 else B H3 := by
  show if true = true then A H else B H
  exact L2.iteT k
theorem w_slF {to : TE} {tl : TO} {v : V} {σ : L2.St} {H : Hp} {G : L2.St → Hp → Prop} (k : to σ H fun o H1 => tl σ H1 fun i H2 => ∃ (l b : Addr) (xs ys : List V) (a : Nat), o = .ref l ∧ i = some (a : Int) ∧ v = .ref b ∧ H2 l = some (.lst xs) ∧ H2 b = some (.lst ys) ∧ l ≠ b ∧ a ≤ xs.length ∧ xs.length + ys.length ≤ sizeLine ∧
  G σ (upd H2 l (.lst (xs.take a ++ ys)))) : gSlF to tl v σ H G := k
theorem maxN_leM : ∀ {l : List Nat} {x : Nat}, x ∈ l → x ≤ maxN l
  | a :: l, x, h => by
    unfold maxN
    rcases List.mem_cons.mp h with rfl | h
    · exact Nat.le_max_left _ _
    · exact Nat.le_trans (maxN_leM h) (Nat.le_max_right _ _)
theorem maxN_mem : ∀ {l : List Nat}, l ≠ [] → maxN l ∈ l
  | [], h => absurd rfl h
  | [a], _ => by unfold maxN maxN; rw [Nat.max_zero]; exact List.mem_cons_self
  | a :: b :: l, _ => by
    have ih := maxN_mem (l := b :: l) (List.cons_ne_nil _ _)
    show max a (maxN (b :: l)) ∈ a :: b :: l
    rcases Nat.le_total a (maxN (b :: l)) with h | h
    · rw [Nat.max_eq_right h]; exact List.mem_cons_of_mem _ ih
    · rw [Nat.max_eq_left h]; exact List.mem_cons_self
theorem maxN_eq {l : List Nat} {m : Int} (h1 : m ∈ l.map fun x : Nat => (x : Int)) (h2 : ∀ y ∈ l.map fun x : Nat => (x : Int), y ≤ m) : m = ((maxN l : Nat) : Int) := by
  obtain ⟨x, hx, rfl⟩ := List.mem_map.mp h1
  have a := maxN_leM hx
  have hne : l ≠ [] := fun e => by rw [e] at hx; cases hx
  have b := h2 _ (List.mem_map.mpr ⟨_, maxN_mem hne, rfl⟩)
  omega
section
variable {P : Program} {w : World} {K : PySem.W.Frag} {mg : Str → Option Value} {base : Heap} {C fI RC : Addr}
abbrev s_Reader_deepen : Stmt := inClass (topS 40) 11
abbrev N_Reader_deepen : List Str := ["self", "first", "depth", "parts"]
theorem sc_Reader_deepen : FnScope N_Reader_deepen ["self", "first"] (defScope s_Reader_deepen) := ⟨rfl, rfl, rfl, by decide +kernel, rfl, by decide +kernel, by decide +kernel⟩
def spDeepen (C RC : Addr) : Sp := fun vs H Q E => ∃ (r dl tl : Addr) (ts : List Tk) (S : RS) (a : Nat), vs = [.ref r, .int (a : Int)] ∧ RdS RC r dl tl ts S H ∧ TOk ts ∧ Does C RC r dl tl ts (rDeepen ts a S) isU H Q E
theorem ok_deepen {f : Addr} {fd : FuncData} (F : Fun K "deepen" "Reader.deepen" s_Reader_deepen f fd) (Z : RdTx P w K mg C fI RC) (m_refuse : MetX P w K mg base 1 RC "refuse" (spRefuse C RC) []) : FnOk P w K mg base (L2.CX P w) 2 f fd ["self", "first"] (spDeepen C RC) := by
  refine F.okX sc_Reader_deepen (fun vs H Q E h => ?_) (fun cdv A outer s H vs Q E hr h => ?_)
  · obtain ⟨r, dl, tl, ts, S, a, rfl, _⟩ := h
    rfl
  · obtain ⟨r, dl, tl, ts, S, a, rfl, hR, ok, kQ⟩ := h
    obtain ⟨dx, ps, n1, n2, n3, hr', htl, hT, hdl, hz⟩ := id hR
    have nd := sc_Reader_deepen.nd
    refine ⟨_, (pss_cons (ps_setLc (i := 3) (own := [("depth", 2)]) (g := gName 2) (tt := tYes) rfl nd rfl rfl (sw_true rfl rfl rfl (by decide +kernel)) (pi_list (pe_slice sl_list (pe_fld (pv 0) rfl) (po_some (pv 1)) po_none)) (blkOk_by (own := [("depth", 2)]) (N := N_Reader_deepen) (sc := defScope s_Reader_deepen) (by decide +kernel)) (fun _ _ _ _ _ => pg_name (i := 2) nd rfl (Or.inl rfl)) (fun _ _ _ _ _ => pts_nil) (fun _ _ _ _ _ => (pe_op op_add (pv 2) pe_int)))
      (pss_cons (ps_if (pt_cmpR op_gt (pe_callB (cr_max rfl) (by rfl) Z.n_max (by decide +kernel) (pa_cons (pv 3) pa_nil)) (pe_gc rfl Z.c_DEEPEST) (nomark _)) (pss_one (ps_expr (pe_mx0 m_refuse hr (by decide) px_of (pv 0)))) pss_nil)
      (pss_one (ps_asg (pv 3) (pg_slF (pe_fld (pv 0) rfl) (po_some (pv 1))))))), ?_⟩
    rw [show L2.start N_Reader_deepen [.ref r, .int (a : Int)] = [some (.ref r), some (.int (a : Int)), none, none] from rfl]
    unfold rDeepen at kQ
    have ha : a < S.ds.length := by
      by_cases h : S.ds.length ≤ a
      · rw [if_pos h] at kQ; exact False.elim kQ
      · omega
    rw [if_neg (by omega)] at kQ
    walk_at "rdr"
    refine ⟨.ref r, rfl, r, RC, dx, _, .ref dl, rfl, hr', Z.cl, Z.n_depths, by rfl, ?_⟩
    walk_at "rdr"
    refine ⟨dl, _, rfl, SqL.of hdl, fun q hq => ?_⟩
    have s1 : Same H (upd H q (.lst (cutV (S.ds.map fun d : Nat => V.int (d : Int)) (some (a : Int)) none))) := same_new hq
    have h1 : upd H q (.lst (cutV (S.ds.map fun d : Nat => V.int (d : Int)) (some (a : Int)) none)) q = some (.lst (cutV (S.ds.map fun d : Nat => V.int (d : Int)) (some (a : Int)) none)) := upd_same
    have ec : cutV (S.ds.map fun d : Nat => V.int (d : Int)) (some (a : Int)) none = (S.ds.drop a).map fun d : Nat => V.int (d : Int) := by
      unfold cutV
      rw [HT.sIx_nat, HT.sIx_none, List.length_map, Nat.min_eq_left (by omega), ← List.map_drop, List.take_of_length_le (by rw [List.length_map, List.length_drop]; omega)]
    rw [ec] at s1 h1 ⊢
    generalize hH1 : upd H q (.lst ((S.ds.drop a).map fun d : Nat => V.int (d : Int))) = H1 at s1 h1
    refine ⟨q, rfl, ⟨_, SqL.of h1⟩, fun D hD => ?_⟩
    have sD : Same H1 (upd H1 D (.lst [])) := same_new hD
    refine lc_list (K := K) (a := q) (xs := (S.ds.drop a).map fun d : Nat => V.int (d : Int)) (fun i H9 => Same H1 H9 ∧ H9 D = some (.lst (((S.ds.drop a).take i).map fun d : Nat => V.int ((d + 1 : Nat) : Int)))) ⟨sD, upd_same⟩ (fun _ H9 _ hP => SqL.of (hP.1 _ _ h1)) ?_ ?_
    · rintro i x H9 hx ⟨s9, h9⟩
      obtain ⟨d, hd, rfl⟩ : ∃ d, (S.ds.drop a)[i]? = some d ∧ x = V.int (d : Int) := by
        rw [List.getElem?_map] at hx
        cases e : (S.ds.drop a)[i]? with
        | none => rw [e] at hx; cases hx
        | some d => rw [e] at hx; exact ⟨d, rfl, (Option.some.inj hx).symm⟩
      have hlt : i < (S.ds.drop a).length := (List.getElem?_eq_some_iff.mp hd).1
      refine ⟨rfl, ?_⟩
      refine w_yesR ?_
      walk_at "rdr"
      refine ⟨_, h9, ?_, fun b o hb => ?_, ?_⟩
      · rw [List.length_map, List.length_take]
        rw [List.length_drop] at hlt
        exact Nat.lt_of_le_of_lt (Nat.min_le_left _ _) (Nat.lt_of_lt_of_le (show i < 1000000 by omega) (by decide))
      · rw [upd_ne (fun e => by rw [e] at hb; rw [hD] at hb; cases hb)]
        exact s9 _ _ hb
      · rw [upd_same, List.take_succ, hd, List.map_append]
        rfl
    · rintro H9 ⟨s9, h9⟩
      rw [List.length_map, List.take_length] at h9
      have hR9 := (hR.same s1).same s9
      obtain ⟨dx9, ps9, _, _, _, hr9, htl9, hT9, hdl9, hz9⟩ := id hR9
      have hD0 : H D = none := s1.free hD
      walk_at "rdr"
      refine ⟨D, (S.ds.drop a).map fun d : Nat => ((d + 1 : Nat) : Int), rfl, SqL.of (by rw [h9, List.map_map]; rfl), by rw [List.length_map, List.length_drop]; omega, fun m hm1 hm2 => ?_⟩
      have em : m = ((maxN ((S.ds.drop a).map (· + 1)) : Nat) : Int) := maxN_eq (by rw [List.map_map]; exact hm1) (by rw [List.map_map]; exact hm2)
      rw [em]
      walk_at "rdr"
      have fA : Fr2 r dl H H9 := (Fr2.same s1).trans (Fr2.same s9)
      refine w_if (fun h => ?_) (fun h => ?_)
      · rw [if_pos (by omega)] at kQ
        walk_at "rdr"
        refine meth_at hr9 (by rfl) ?_
        walk_at "rdr"
        exact use_refuse hR9 ok fA kQ
      · rw [if_neg (by omega)] at kQ
        walk_at "rdr"
        refine w_slF ?_
        walk_at "rdr"
        refine fld_at hr9 Z.cl Z.n_depths (by rfl) ?_
        walk_at "rdr"
        have nD : dl ≠ D := fun e => by rw [← e] at hD0; rw [hdl] at hD0; cases hD0
        refine ⟨dl, D, _, _, a, rfl, rfl, rfl, hdl9, h9, nD, by rw [List.length_map]; omega, ?_, ?_⟩
        · rw [List.length_map, List.length_map, List.length_drop]
          exact Nat.le_trans (show _ ≤ 1000000 by omega) (by decide)
        · have hold : ∀ b o, b ≠ dl → H9 b = some o → upd H9 dl (.lst (((S.ds.map fun d : Nat => V.int (d : Int)).take a) ++ (S.ds.drop a).map fun d : Nat => V.int ((d + 1 : Nat) : Int))) b = some o := fun b o n e => by rw [upd_ne n]; exact e
          refine kQ.ok rfl ⟨dx9, ps9, n1, n2, n3, hold _ _ (Ne.symm n3) hr9, hold _ _ n1 htl9, TokAt.but hold (fun t e => by rw [hdl9] at e; cases e) hT9, ?_, ?_⟩ (fA.trans (Fr2.own2 hdl9))
          · rw [upd_same, ← List.map_take, List.map_append, List.map_map]
            rfl
          · rw [List.length_append, List.length_map, List.length_take, List.length_drop]
            omega
end
end
section
open PySem PySem.Spec PyProof.Rows L2
open C8 (Cal cal0 pe_c pe_gc pss_cut tCut)

def ForEn (K : PySem.W.Frag) (g : TG) (tb : TS) (vs : List V) (D : Ends) (σ : L2.St) (H : Hp) : Prop := ∃ a xs, vs = [.ref a] ∧ SqT K H a xs ∧ ∃ W : Nat → Nat → L2.St → Hp → Prop, (∃ m, W 0 m σ H) ∧ ∀ i m σ H, W i m σ H →
  ((ItT K a).stop i H ∧ D.nx σ H) ∨ ((ItT K a).go i H ∧ ∃ N : L2.St → Hp → Prop, (∀ σ' H', N σ' H' → ∃ m', m' < m ∧ W (i + 1) m' σ' H') ∧ ∀ x H', (ItT K a).yld i H x H' → g x σ H' fun σ2 H2 => tb { D with nx := N, ct := N, bk := D.nx } σ2 H2)
theorem w_forEn {K : PySem.W.Frag} {ta : TA} {g : TG} {tb : TS} {D : Ends} {σ : L2.St} {H : Hp} (k : ta σ H fun vs H1 => ForEn K g tb vs D σ H1) : tFor (iEnT K ta) g tb D σ H := k
theorem for_En {K : PySem.W.Frag} {g : TG} {tb : TS} {D : Ends} {σ : L2.St} {H : Hp} {a : Addr} {xs : List V} (Pv : Nat → L2.St → Hp → Prop) (h0 : Pv 0 σ H) (hl : ∀ i σ H, i ≤ xs.length → Pv i σ H → SqT K H a xs)
    (hs : ∀ i x σ H p H', xs[i]? = some x → Pv i σ H → H p = none → Same H H' → H' p = some (.tup [.int (i : Int), x]) → g (.ref p) σ H' fun σ2 H2 => tb { D with nx := Pv (i + 1), ct := Pv (i + 1), bk := D.nx } σ2 H2)
    (hd : ∀ σ H, Pv xs.length σ H → D.nx σ H) : ForEn K g tb [.ref a] D σ H := by
  refine ⟨a, xs, rfl, hl 0 σ H (Nat.zero_le _) h0, fun i m σ H => m = xs.length - i ∧ i ≤ xs.length ∧ Pv i σ H, ⟨xs.length, by simp, Nat.zero_le _, h0⟩, ?_⟩
  rintro i m σ H ⟨rfl, hi, p⟩
  by_cases hlt : i < xs.length
  · refine .inr ⟨⟨xs, xs[i], hl i σ H hi p, List.getElem?_eq_getElem hlt⟩, Pv (i + 1), fun σ' H' p' => ⟨xs.length - (i + 1), by omega, rfl, hlt, p'⟩, fun x H' y => ?_⟩
    obtain ⟨q, z, rfl, hq, rfl, hz⟩ := y
    exact hs i z σ H q _ (hz xs (hl i σ H hi p)) p hq (same_new hq) upd_same
  · have e : i = xs.length := by omega
    subst e
    exact .inl ⟨⟨xs, hl _ σ H hi p, Nat.le_refl _⟩, hd σ H p⟩
theorem twV_non (t : Option (List Nat)) : decide (twV t = .non) = decide (t = none) := by
  cases t with
  | none => rfl
  | some a => rfl
theorem Same.sqTq {K : PySem.W.Frag} {q : Addr} {H H1 : Hp} {xs : List V} (s : Same H H1) (h : SqT K H q xs) : SqT K H1 q xs := by
  rcases h with (h | ⟨o, h⟩) | h
  · exact .inl (.inl (s _ _ h))
  · exact .inl (.inr ⟨o, s _ _ h⟩)
  · exact .inr h

section
variable {P : Program} {w : World} {K : PySem.W.Frag} {mg : Str → Option Value} {base : Heap} {C fI RC : Addr}
abbrev s_Reader_note_twice : Stmt := inClass (topS 40) 9
abbrev N_Reader_note_twice : List Str := ["self", "names", "k", "name"]
theorem sc_Reader_note_twice : FnScope N_Reader_note_twice ["self", "names"] (defScope s_Reader_note_twice) := ⟨rfl, rfl, rfl, by decide +kernel, rfl, by decide +kernel, by decide +kernel⟩
def spNote (K : PySem.W.Frag) (C RC : Addr) : Sp := fun vs H Q E => ∃ (r dl tl q : Addr) (ts : List Tk) (S : RS) (l : List (List Nat)), vs = [.ref r, .ref q] ∧ SqT K H q (l.map T) ∧ RdS RC r dl tl ts S H ∧ TOk ts ∧ Does C RC r dl tl ts (rNote l S) isU H Q E
theorem ok_note {f : Addr} {fd : FuncData} (F : Fun K "note_twice" "Reader.note_twice" s_Reader_note_twice f fd) (Z : RdTx P w K mg C fI RC) : FnOk P w K mg base (L2.CX P w) 1 f fd ["self", "names"] (spNote K C RC) := by
  refine F.okX sc_Reader_note_twice (fun vs H Q E h => ?_) (fun cdv A outer s H vs Q E hr h => ?_)
  · obtain ⟨r, dl, tl, q, ts, S, l, rfl, _⟩ := h
    rfl
  · obtain ⟨r, dl, tl, q, ts, S, l, rfl, hq, hR, ok, kQ⟩ := h
    have nd := sc_Reader_note_twice.nd
    refine ⟨_, (pss_one (ps_for po_of rfl (pi_enT (by rfl) Z.n_enumerate (pa_cons (pv 1) pa_nil)) (pg_tup (by rfl) (pgs_cons (pg_name (i := 2) nd rfl (Or.inl rfl)) (pgs_cons (pg_name (i := 3) nd rfl (Or.inl rfl)) pgs_nil))) (pss_one (ps_if (PW.pt (pw_and (pt_cmpR op_isN (pe_fld (pv 0) rfl) pe_non (nomark _)) (pw_and1 (pt_cmpR op_in_seq (pv 3) (pe_slice sl_tup (pv 1) po_none (po_some (pv 2))) (by rfl))))) (pss_one (ps_fld (pv 0) (pv 3) rfl)) pss_nil)))), ?_⟩
    rw [show L2.start N_Reader_note_twice [.ref r, .ref q] = [some (.ref r), some (.ref q), none, none] from rfl]
    walk_at "rdr"
    refine w_forEn ?_
    walk_at "rdr"
    refine for_En (xs := l.map T) (fun i σ' H' => ∃ x y : Option V, σ' = [some (.ref r), some (.ref q), x, y] ∧ RdS RC r dl tl ts ⟨S.n, S.ds, twGo l S.tw i⟩ H' ∧ Fr2 r dl H H' ∧ SqT K H' q (l.map T)) ⟨none, none, rfl, hR, Fr2.refl _ _ _, hq⟩ (fun i σ' H' _ h => h.elim fun x h => h.elim fun y h => h.2.2.2) ?_ ?_
    · rintro i v σ' H1 p H2 hv ⟨x, y, rfl, hR1, f1, hq1⟩ hp s2 h2
      obtain ⟨a, ha, rfl⟩ : ∃ a, l[i]? = some a ∧ v = T a := by
        rw [List.getElem?_map] at hv
        cases e : l[i]? with
        | none => rw [e] at hv; cases hv
        | some a => rw [e] at hv; exact ⟨a, rfl, (Option.some.inj hv).symm⟩
      have hil : i < l.length := (List.getElem?_eq_some_iff.mp ha).1
      have hgd : l.getD i [] = a := by rw [List.getD_eq_getElem?_getD, ha]; rfl
      have hR2 := hR1.same s2
      have hq2 := Same.sqTq s2 hq1
      have f2 := f1.trans (Fr2.same s2)
      obtain ⟨dx, ps, n1, n2, n3, hr', htl, hT, hdl, hz⟩ := id hR2
      refine ⟨p, _, rfl, sqT_of h2, rfl, ?_⟩
      refine ⟨_, _, rfl, ?_⟩
      walk_at "rdr"
      refine ⟨_, _, rfl, ?_⟩
      walk_at "rdr"
      refine ⟨rfl, ?_⟩
      walk_at "rdr"
      refine fld_at hr' Z.cl Z.n_twice (by rfl) ?_
      walk_at "rdr"
      refine w_isN ?_
      rw [twV_non]
      walk_at "rdr"
      refine w_if (fun h => ?_) (fun h => ?_)
      · walk_at "rdr"
        refine ⟨q, _, rfl, hq2, fun z => (by have z2 := z.2; rw [HT.sIx_nat, List.length_map, Nat.min_eq_left (by omega)] at z2; omega), fun u hu => ?_⟩
        have s3 : Same H2 (upd H2 u (.tup (cutV (l.map T) none (some (i : Int))))) := same_new hu
        have h3 : upd H2 u (.tup (cutV (l.map T) none (some (i : Int)))) u = some (.tup (cutV (l.map T) none (some (i : Int)))) := upd_same
        have ec : cutV (l.map T) none (some (i : Int)) = (l.take i).map T := by
          unfold cutV
          rw [HT.sIx_none, HT.sIx_nat, List.length_map, Nat.min_eq_left (by omega), List.drop_zero, Nat.sub_zero, List.map_take]
        rw [ec] at s3 h3 ⊢
        generalize hH3 : upd H2 u (.tup ((l.take i).map T)) = H3 at s3 h3
        have hR3 := hR2.same s3
        have f3 := f2.trans (Fr2.same s3)
        have hq3 := Same.sqTq s3 hq2
        obtain ⟨dx3, ps3, n1, n2, n3, hr3, htl3, hT3, hdl3, hz3⟩ := id hR3
        refine w_inT (sqT_of h3) ?_
        refine ⟨_, rfl, ?_⟩
        refine w_if (fun h4 => ?_) (fun h4 => ?_)
        · walk_at "rdr"
          refine fld_set hr3 Z.cl Z.n_twice (show 4 < 1000 by decide) fun H4 h5 k4 z4 => ?_
          refine ⟨_, _, rfl, ?_, f3.trans (Fr2.at k4 z4), sqT_fr hq3 hR3 (Fr2.at k4 z4)⟩
          have e : twGo l S.tw (i + 1) = some a := by
            show (if twGo l S.tw i = none ∧ l.getD i [] ∈ l.take i then some (l.getD i []) else twGo l S.tw i) = _
            rw [hgd, if_pos ⟨h, h4⟩]
          rw [e]
          exact RdS.put (S := ⟨S.n, S.ds, twGo l S.tw i⟩) n1 n2 n3 hr3 htl3 hT3 hdl3 hz3 h5 k4
        · refine ⟨_, _, rfl, ?_, f3, hq3⟩
          have e : twGo l S.tw (i + 1) = twGo l S.tw i := by
            show (if twGo l S.tw i = none ∧ l.getD i [] ∈ l.take i then some (l.getD i []) else twGo l S.tw i) = _
            rw [hgd, if_neg (fun z => h4 z.2)]
          rw [e]
          exact hR3
      · refine ⟨_, _, rfl, ?_, f2, hq2⟩
        have e : twGo l S.tw (i + 1) = twGo l S.tw i := by
          show (if twGo l S.tw i = none ∧ _ then _ else _) = _
          rw [if_neg (fun z => h z.1)]
        rw [e]
        exact hR2
    · rintro σ' H' ⟨x, y, rfl, hR1, f1, hq1⟩
      rw [List.length_map] at hR1
      exact kQ.ok rfl hR1 f1
end
end
section
open PySem PySem.Spec PyProof.Rows L2
open C8 (Cal cal0 pe_c pe_gc pss_cut tCut)
theorem TrAt.fr {K : PySem.W.Frag} {RC r dl tl : Addr} {ts : List Tk} {S : RS} {H H1 : Hp} {v : V} {t : Tr} (h : TrAt K H v t) (hR : RdS RC r dl tl ts S H) (f : Fr2 r dl H H1) : TrAt K H1 v t := h.imp fun p vs q => sqT_fr q hR f
theorem TrsAt.fr {K : PySem.W.Frag} {RC r dl tl : Addr} {ts : List Tk} {S : RS} {H H1 : Hp} {vs : List V} {l : List Tr} (h : TrsAt K H vs l) (hR : RdS RC r dl tl ts S H) (f : Fr2 r dl H H1) : TrsAt K H1 vs l := h.imp fun p vs q => sqT_fr q hR f
def isTr (K : PySem.W.Frag) : V → Tr → Hp → Prop := fun v t H => TrAt K H v t
def isTrs (K : PySem.W.Frag) : V → List Tr → Hp → Prop := fun v l H => TrAt K H v (.t l)

section
variable {P : Program} {w : World} {K : PySem.W.Frag} {mg : Str → Option Value} {base : Heap} {C fI RC : Addr} {ex : Nat → Nat → RS → Res RS Tr} {bo : List (List Nat) → Nat → RS → Res RS (List Tr)} {k : Nat}
theorem refuse_bind {α β : Type} {r dl tl : Addr} {ts : List Tk} {S : RS} {H : Hp} {R : V → β → Hp → Prop} {Q : VK} {E : XK} {k : α → RS → Res RS β} (h : Does C RC r dl tl ts ((rRefuse ts S : Res RS α).bind k) R H Q E) : Does C RC r dl tl ts (rRefuse ts S : Res RS β) R H Q E := by
  unfold rRefuse at h ⊢
  by_cases z : S.n < ts.length
  · rw [if_pos z] at h ⊢; exact h
  · rw [if_neg z] at h; exact False.elim h
def spEx (K : PySem.W.Frag) (C RC : Addr) (ex : List Tk → Nat → Nat → RS → Res RS Tr) : Sp := fun vs H Q E => ∃ (r dl tl : Addr) (ts : List Tk) (S : RS) (p d : Nat), vs = [.ref r, .int (p : Int), .int (d : Int)] ∧ RdS RC r dl tl ts S H ∧ TOk ts ∧ Does C RC r dl tl ts (ex ts p d S) (isTr K) H Q E
def spBo (K : PySem.W.Frag) (C RC : Addr) (bo : List Tk → List (List Nat) → Nat → RS → Res RS (List Tr)) : Sp := fun vs H Q E => ∃ (r dl tl q : Addr) (ts : List Tk) (S : RS) (ms : List (List Nat)) (d : Nat), vs = [.ref r, .ref q, .int (d : Int)] ∧ SqT K H q (ms.map T) ∧ RdS RC r dl tl ts S H ∧ TOk ts ∧ Does C RC r dl tl ts (bo ts ms d S) (isTrs K) H Q E
abbrev s_Reader_arguments : Stmt := inClass (topS 40) 25
abbrev N_Reader_arguments : List Str := ["self", "depth", "found"]
theorem sc_Reader_arguments : FnScope N_Reader_arguments ["self", "depth"] (defScope s_Reader_arguments) := ⟨rfl, rfl, rfl, by decide +kernel, rfl, by decide +kernel, by decide +kernel⟩
def spArgs (K : PySem.W.Frag) (C RC : Addr) (ex : List Tk → Nat → Nat → RS → Res RS Tr) : Sp := fun vs H Q E => ∃ (r dl tl : Addr) (ts : List Tk) (S : RS) (d : Nat), vs = [.ref r, .int (d : Int)] ∧ RdS RC r dl tl ts S H ∧ TOk ts ∧ Does C RC r dl tl ts (gArgs ts (ex ts) d S) (isTrs K) H Q E
theorem ok_arguments {ex : List Tk → Nat → Nat → RS → Res RS Tr} {f : Addr} {fd : FuncData} (F : Fun K "arguments" "Reader.arguments" s_Reader_arguments f fd) (Z : RdTx P w K mg C fI RC) (hk : 3 ≤ k) (m_refuse : MetX P w K mg base 1 RC "refuse" (spRefuse C RC) [])
    (m_accept : MetX P w K mg base 2 RC "accept" (spAccept C RC) []) (m_expect : MetX P w K mg base 3 RC "expect" (spExpect C RC) []) (m_expression : MetX P w K mg base k RC "expression" (spEx K C RC ex) []) :
    FnOk P w K mg base (L2.CX P w) (k + 1) f fd ["self", "depth"] (spArgs K C RC ex) := by
  refine F.okX sc_Reader_arguments (fun vs H Q E h => ?_) (fun cdv A outer s H vs Q E hr h => ?_)
  · obtain ⟨r, dl, tl, ts, S, d, rfl, _⟩ := h
    rfl
  · obtain ⟨r, dl, tl, ts, S, d, rfl, hR, ok, kQ⟩ := h
    obtain ⟨dx, ps, n1, n2, n3, hr', htl, hT, hdl, hz⟩ := id hR
    have nd := sc_Reader_arguments.nd
    refine ⟨_, (pss_cons (ps_expr (pe_mx m_expect hr (by omega) px_of (pv 0) (pa_cons pe_str pa_nil)))
      (pss_cons (ps_if (pt_val (pe_mx m_accept hr (by omega) px_of (pv 0) (pa_cons pe_str pa_nil))) (pss_one (ps_ret (pe_tup pa_nil))) pss_nil)
      (pss_cons (ps_set (i := 2) nd rfl (Or.inl rfl) (pe_lst (pa_cons (pe_mx m_expression hr (by omega) px_of (pv 0) (pa_cons (pe_gc rfl Z.c_LOOSEST) (pa_cons (pv 1) pa_nil))) pa_nil)))
      (pss_cons (ps_while po_of (pt_val (pe_mx m_accept hr (by omega) px_of (pv 0) (pa_cons pe_str pa_nil))) (pss_cons (ps_if (pt_cmpR op_eq (pe_callB call_lenL (by rfl) Z.n_len (by decide +kernel) (pa_cons (pv 2) pa_nil)) (pe_gc rfl Z.c_MOST_ARGUMENTS) (nomark _)) (pss_one (ps_expr (pe_mx0 m_refuse hr (by omega) px_of (pv 0)))) pss_nil)
      (pss_one (ps_expr (pe_bm PySem.F.plainAttrs_list PySem.F.slot_list_append PySem.F.type_list_append mt_append (pv 2) (pa_cons (pe_mx m_expression hr (by omega) px_of (pv 0) (pa_cons (pe_gc rfl Z.c_LOOSEST) (pa_cons (pv 1) pa_nil))) pa_nil))))))
      (pss_cons (ps_expr (pe_mx m_expect hr (by omega) px_of (pv 0) (pa_cons pe_str pa_nil)))
      (pss_one (ps_ret (pe_callTy call_tupleOfR (by rfl) Z.n_tuple (by decide +kernel) (pa_cons (pv 2) pa_nil))))))))), ?_⟩
    rw [show L2.start N_Reader_arguments [.ref r, .int (d : Int)] = [some (.ref r), some (.int (d : Int)), none] from rfl]
    unfold gArgs at kQ
    walk_at "rdr"
    refine meth_at hr' (by rfl) ?_
    walk_at "rdr"
    refine ⟨r, dl, tl, ts, S, cds "(", rfl, hR, ok, Does.callA kQ (Fr2.refl _ _ _) ?_⟩
    rintro _ S1 v H1 rfl hR1 f1 kQ1
    obtain ⟨dx, ps, _, _, _, hr1, _⟩ := id hR1
    walk_at "rdr"
    refine meth_at hr1 (by rfl) ?_
    walk_at "rdr"
    refine ⟨r, dl, tl, ts, S1, cds ")", rfl, hR1, ok, Does.callA kQ1 f1 ?_⟩
    rintro b S2 v H2 rfl hR2 f2 kQ2
    have f12 := f1.trans f2
    obtain ⟨dx, ps, _, _, _, hr2, _⟩ := id hR2
    refine ⟨b, rfl, ?_⟩
    cases b with
    | true =>
      rw [if_pos rfl] at kQ2
      refine L2.iteT ?_
      walk_at "rdr"
      refine w_newT (by show 0 ≤ 1000000; decide) fun p H3 hp s3 h3 => ?_
      exact kQ2.ok (.t (sqT_of h3) .nil) (hR2.same s3) (f12.trans (Fr2.same s3))
    | false =>
      rw [if_neg Bool.false_ne_true] at kQ2
      refine L2.iteF ?_
      walk_at "rdr"
      refine meth_at hr2 (by rfl) ?_
      walk_at "rdr"
      refine ⟨r, dl, tl, ts, S2, 1, d, rfl, hR2, ok, Does.callA kQ2 f12 ?_⟩
      rintro t S3 v H3 ht hR3 f3 kQ3
      have f13 := f12.trans f3
      walk_at "rdr"
      refine w_newL (by show 1 ≤ 1000000; decide) fun l H4 hl s4 h4 => ?_
      walk_at "rdr"
      obtain ⟨nl1, nl2, nl3⟩ := hR3.new hl
      have hl0 : H l = none := f13.2 l hl
      refine ⟨fun m σ' H' => ∃ (xs : List V) (trs : List Tr) (S' : RS), σ' = [some (.ref r), some (.int (d : Int)), some (.ref l)] ∧ RdS RC r dl tl ts S' H' ∧ H' l = some (.lst xs) ∧ TrsAt K H' xs trs ∧ trs.length + m ≤ 2000 ∧ Fr2 r dl H H' ∧
          Does C RC r dl tl ts ((gArgsGo ts (ex ts) d m trs S').bind fun l S => (rExpect ts (cds ")") S).bind fun _ S => .ok l S) (isTrs K) H Q E,
        ⟨9, [v], [t], S3, rfl, hR3.same s4, h4, .cons (TrAt.same ht s4) .nil, show 1 + 9 ≤ 2000 by decide, f13.trans (Fr2.same s4), kQ3⟩, ?_⟩
      rintro m σ' H' ⟨xs, trs, S', rfl, hR', hl', hts, hlen, f', kQ'⟩
      cases m with
      | zero => exact False.elim kQ'
      | succ k =>
        have hxl := hts.length
        unfold gArgsGo at kQ'
        rw [Res.bind_assoc] at kQ'
        obtain ⟨dx1, ps1, _, _, _, hr1', _⟩ := id hR'
        walk_at "rdr"
        refine meth_at hr1' (by rfl) ?_
        walk_at "rdr"
        refine ⟨r, dl, tl, ts, S', cds ",", rfl, hR', ok, Does.callA kQ' f' ?_⟩
        rintro b S5 v5 H5 rfl hR5 f5 kQ5
        have hl5 := f5.lst nl1 nl2 hl'
        have hts5 := hts.fr hR' f5
        have f15 := f'.trans f5
        obtain ⟨dx5, ps5, _, _, _, hr5, _⟩ := id hR5
        refine ⟨b, rfl, ?_⟩
        cases b with
        | true =>
          rw [if_pos rfl] at kQ5
          refine L2.iteT ?_
          refine ⟨fun σ' H' => ∃ (xs : List V) (trs : List Tr) (S' : RS), σ' = [some (.ref r), some (.int (d : Int)), some (.ref l)] ∧ RdS RC r dl tl ts S' H' ∧ H' l = some (.lst xs) ∧ TrsAt K H' xs trs ∧ trs.length + k ≤ 2000 ∧ Fr2 r dl H H' ∧
              Does C RC r dl tl ts ((gArgsGo ts (ex ts) d k trs S').bind fun l S => (rExpect ts (cds ")") S).bind fun _ S => .ok l S) (isTrs K) H Q E, fun σ'' H'' h => ⟨k, Nat.lt_succ_self k, h⟩, ?_⟩
          walk_at "rdr"
          refine w_lenL (SqL.of hl5) ?_
          walk_at "rdr"
          refine w_ifI (fun h => ?_) (fun h => ?_)
          · rw [if_pos (by omega)] at kQ5
            walk_at "rdr"
            refine meth_at hr5 (by rfl) ?_
            walk_at "rdr"
            exact use_refuse hR5 ok f15 (refuse_bind kQ5)
          · rw [if_neg (by omega), Res.bind_assoc] at kQ5
            walk_at "rdr"
            refine ⟨tyL (SqL.of hl5), ?_⟩
            walk_at "rdr"
            refine meth_at hr5 (by rfl) ?_
            walk_at "rdr"
            refine ⟨r, dl, tl, ts, S5, 1, d, rfl, hR5, ok, Does.callA kQ5 f15 ?_⟩
            rintro t6 S6 v6 H6 ht6 hR6 f6 kQ6
            walk_at "rdr"
            have hl6 := f6.lst nl1 nl2 hl5
            have hts6 := hts5.fr hR5 f6
            refine w_app3 hl6 (by omega) fun H7 h7 k7 z7 => ?_
            walk_at "rdr"
            refine ⟨xs ++ [v6], trs ++ [t6], S6, rfl, hR6.grow nl1 nl2 nl3 (fun t e => by rw [hl6] at e; cases e) k7, h7, TrsAt.but (TrsAt.snoc ht6 hts6) hl6 k7, by rw [List.length_append]; show trs.length + 1 + k ≤ 2000; omega, (f15.trans f6).grow hl0 k7 z7, kQ6⟩
        | false =>
          rw [if_neg Bool.false_ne_true] at kQ5
          have kQ5' : Does C RC r dl tl ts ((rExpect ts (cds ")") S5).bind fun _ S => .ok trs S) (isTrs K) H Q E := kQ5
          refine L2.iteF ?_
          walk_at "rdr"
          refine meth_at hr5 (by rfl) ?_
          walk_at "rdr"
          refine ⟨r, dl, tl, ts, S5, cds ")", rfl, hR5, ok, Does.callA kQ5' f15 ?_⟩
          rintro _ S6 v6 H6 rfl hR6 f6 kQ6
          walk_at "rdr"
          have hl6 := f6.lst nl1 nl2 hl5
          have hts6 := hts5.fr hR5 f6
          refine w_tupOfR hl6 fun p H7 hp s7 h7 => ?_
          exact kQ6.ok (.t (sqT_of h7) (TrsAt.same hts6 s7)) (hR6.same s7) ((f15.trans f6).trans (Fr2.same s7))
end
end
section
open PySem PySem.Spec PyProof.Rows L2
open C8 (Cal cal0 pe_c pe_gc pss_cut tCut)

section
variable {P : Program} {w : World} {K : PySem.W.Frag} {mg : Str → Option Value} {base : Heap} {C fI RC : Addr} {k : Nat}
abbrev s_Reader_super_send : Stmt := inClass (topS 40) 24
abbrev N_Reader_super_send : List Str := ["self", "depth", "name"]
theorem sc_Reader_super_send : FnScope N_Reader_super_send ["self", "depth"] (defScope s_Reader_super_send) := ⟨rfl, rfl, rfl, by decide +kernel, rfl, by decide +kernel, by decide +kernel⟩
def spSuper (K : PySem.W.Frag) (C RC : Addr) (ex : List Tk → Nat → Nat → RS → Res RS Tr) : Sp := fun vs H Q E => ∃ (r dl tl : Addr) (ts : List Tk) (S : RS) (d : Nat), vs = [.ref r, .int (d : Int)] ∧ RdS RC r dl tl ts S H ∧ TOk ts ∧ Does C RC r dl tl ts (gSuper ts (ex ts) d S) (isTr K) H Q E
theorem ok_super_send {ex : List Tk → Nat → Nat → RS → Res RS Tr} {f : Addr} {fd : FuncData} (F : Fun K "super_send" "Reader.super_send" s_Reader_super_send f fd) (Z : RdTx P w K mg C fI RC) (hk : 3 ≤ k)
    (m_take : MetX P w K mg base 2 RC "take" (spTake C RC) []) (m_expect : MetX P w K mg base 3 RC "expect" (spExpect C RC) []) (m_arguments : MetX P w K mg base k RC "arguments" (spArgs K C RC ex) []) :
    FnOk P w K mg base (L2.CX P w) (k + 1) f fd ["self", "depth"] (spSuper K C RC ex) := by
  refine F.okX sc_Reader_super_send (fun vs H Q E h => ?_) (fun cdv A outer s H vs Q E hr h => ?_)
  · obtain ⟨r, dl, tl, ts, S, d, rfl, _⟩ := h
    rfl
  · obtain ⟨r, dl, tl, ts, S, d, rfl, hR, ok, kQ⟩ := h
    obtain ⟨dx, ps, n1, n2, n3, hr', htl, hT, hdl, hz⟩ := id hR
    have nd := sc_Reader_super_send.nd
    refine ⟨_, (pss_cons (ps_expr (pe_mx m_expect hr (by omega) px_of (pv 0) (pa_cons pe_str pa_nil)))
      (pss_cons (ps_expr (pe_mx m_expect hr (by omega) px_of (pv 0) (pa_cons pe_str pa_nil)))
      (pss_cons (ps_set (i := 2) nd rfl (Or.inl rfl) (pe_mx m_take hr (by omega) px_of (pv 0) (pa_cons pe_str pa_nil)))
      (pss_one (ps_ret (pe_tup (pa_cons pe_str (pa_cons (pv 2) (pa_cons (pe_mx m_arguments hr (by omega) px_of (pv 0) (pa_cons (pe_op op_add (pv 1) pe_int) pa_nil)) pa_nil))))))))), ?_⟩
    rw [show L2.start N_Reader_super_send [.ref r, .int (d : Int)] = [some (.ref r), some (.int (d : Int)), none] from rfl]
    unfold gSuper rName at kQ
    walk_at "rdr"
    refine meth_at hr' (by rfl) ?_
    walk_at "rdr"
    refine ⟨r, dl, tl, ts, S, cds "super", rfl, hR, ok, Does.callA kQ (Fr2.refl _ _ _) ?_⟩
    rintro _ S1 v H1 rfl hR1 f1 kQ1
    obtain ⟨dx, ps, _, _, _, hr1, _⟩ := id hR1
    walk_at "rdr"
    refine meth_at hr1 (by rfl) ?_
    walk_at "rdr"
    refine ⟨r, dl, tl, ts, S1, cds ".", rfl, hR1, ok, Does.callA kQ1 f1 ?_⟩
    rintro _ S2 v H2 rfl hR2 f2 kQ2
    have f12 := f1.trans f2
    obtain ⟨dx, ps, _, _, _, hr2, _⟩ := id hR2
    rw [Res.bind_assoc] at kQ2
    walk_at "rdr"
    refine meth_at hr2 (by rfl) ?_
    walk_at "rdr"
    refine ⟨r, dl, tl, ts, S2, cds "name", rfl, hR2, ok, Does.callA kQ2 f12 ?_⟩
    rintro x S3 v3 H3 ⟨rfl, hx, _⟩ hR3 f3 kQ3
    obtain ⟨hx1, hx2⟩ := hx (by decide +kernel)
    have f13 := f12.trans f3
    obtain ⟨dx, ps, _, _, _, hr3, _⟩ := id hR3
    walk_at "rdr"
    refine meth_at hr3 (by rfl) ?_
    walk_at "rdr"
    refine ⟨r, dl, tl, ts, S3, d + 1, rfl, hR3, ok, Does.callA kQ3 f13 ?_⟩
    rintro l S4 v4 H4 hl hR4 f4 kQ4
    walk_at "rdr"
    refine w_newT (by show 3 ≤ 1000000; decide) fun p H5 hp s5 h5 => ?_
    refine kQ4.ok (.t (sqT_of h5) (.cons .s (.cons ?_ (.cons (TrAt.same hl s5) .nil)))) (hR4.same s5) ((f13.trans f4).trans (Fr2.same s5))
    rw [hx1, txtV_T]
    exact .s

abbrev s_Reader_block : Stmt := inClass (topS 40) 23
abbrev N_Reader_block : List Str := ["self", "depth", "params", "body"]
theorem sc_Reader_block : FnScope N_Reader_block ["self", "depth"] (defScope s_Reader_block) := ⟨rfl, rfl, rfl, by decide +kernel, rfl, by decide +kernel, by decide +kernel⟩
def spBlock (K : PySem.W.Frag) (C RC : Addr) (bo : List Tk → List (List Nat) → Nat → RS → Res RS (List Tr)) : Sp := fun vs H Q E => ∃ (r dl tl : Addr) (ts : List Tk) (S : RS) (d : Nat), vs = [.ref r, .int (d : Int)] ∧ RdS RC r dl tl ts S H ∧ TOk ts ∧ Does C RC r dl tl ts (gBlock ts (bo ts) d S) (isTr K) H Q E
theorem ok_block {bo : List Tk → List (List Nat) → Nat → RS → Res RS (List Tr)} {f : Addr} {fd : FuncData} (F : Fun K "block" "Reader.block" s_Reader_block f fd) (Z : RdTx P w K mg C fI RC) (hk : 3 ≤ k)
    (m_expect : MetX P w K mg base 3 RC "expect" (spExpect C RC) []) (m_name_stands_before : MetX P w K mg base 2 RC "name_stands_before" (spBefore K C RC) []) (m_names : MetX P w K mg base 3 RC "names" (spNames K C RC) [])
    (m_note_twice : MetX P w K mg base 1 RC "note_twice" (spNote K C RC) []) (m_body : MetX P w K mg base k RC "body" (spBo K C RC bo) []) :
    FnOk P w K mg base (L2.CX P w) (k + 1) f fd ["self", "depth"] (spBlock K C RC bo) := by
  refine F.okX sc_Reader_block (fun vs H Q E h => ?_) (fun cdv A outer s H vs Q E hr h => ?_)
  · obtain ⟨r, dl, tl, ts, S, d, rfl, _⟩ := h
    rfl
  · obtain ⟨r, dl, tl, ts, S, d, rfl, hR, ok, kQ⟩ := h
    obtain ⟨dx, ps, n1, n2, n3, hr', htl, hT, hdl, hz⟩ := id hR
    have nd := sc_Reader_block.nd
    refine ⟨_, (pss_cons (ps_expr (pe_mx m_expect hr (by omega) px_of (pv 0) (pa_cons pe_str pa_nil)))
      (pss_cons (ps_set (i := 2) nd rfl (Or.inl rfl) (pe_tup pa_nil))
      (pss_cut (ps_if (pt_val (pe_mx m_name_stands_before hr (by omega) px_of (pv 0) (pa_cons (pe_tup (pa_cons pe_str (pa_cons pe_str pa_nil))) pa_nil))) (pss_cons (ps_set (i := 2) nd rfl (Or.inl rfl) (pe_mx m_names hr (by omega) px_of (pv 0) (pa_cons (pe_gc rfl Z.c_MOST_BLOCK_PARAMETERS) pa_nil)))
      (pss_cons (ps_expr (pe_mx m_expect hr (by omega) px_of (pv 0) (pa_cons pe_str pa_nil)))
      (pss_one (ps_expr (pe_mx m_note_twice hr (by omega) px_of (pv 0) (pa_cons (pv 2) pa_nil)))))) pss_nil)
      (pss_cons (ps_set (i := 3) nd rfl (Or.inl rfl) (pe_mx m_body hr (by omega) px_of (pv 0) (pa_cons (pe_tup (pa_cons pe_str pa_nil)) (pa_cons (pe_op op_add (pv 1) pe_int) pa_nil))))
      (pss_cons (ps_expr (pe_mx m_expect hr (by omega) px_of (pv 0) (pa_cons pe_str pa_nil)))
      (pss_one (ps_ret (pe_tup (pa_cons pe_str (pa_cons (pv 2) (pa_cons (pv 3) pa_nil))))))))))), ?_⟩
    rw [show L2.start N_Reader_block [.ref r, .int (d : Int)] = [some (.ref r), some (.int (d : Int)), none, none] from rfl]
    unfold gBlock at kQ
    walk_at "rdr"
    refine meth_at hr' (by rfl) ?_
    walk_at "rdr"
    refine ⟨r, dl, tl, ts, S, cds "{", rfl, hR, ok, Does.callA kQ (Fr2.refl _ _ _) ?_⟩
    rintro _ S1 v H1 rfl hR1 f1 kQ1
    walk_at "rdr"
    refine w_newT (by show 0 ≤ 1000000; decide) fun p0 H2 hp0 s2 h2 => ?_
    walk_at "rdr"
    have hR2 := hR1.same s2
    have f2 := f1.trans (Fr2.same s2)
    obtain ⟨dx, ps, _, _, _, hr2, _⟩ := id hR2
    refine ⟨fun σ' H' => ∃ (q : Addr) (ns : List (List Nat)) (S' : RS), σ' = [some (.ref r), some (.int (d : Int)), some (.ref q), none] ∧ SqT K H' q (ns.map T) ∧ RdS RC r dl tl ts S' H' ∧ Fr2 r dl H H' ∧
      Does C RC r dl tl ts ((bo ts [cds "}"] (d + 1) S').bind fun l S => (rExpect ts (cds "}") S).bind fun _ S => .ok (.t [str "block", .t (ns.map Tr.s), .t l]) S) (isTr K) H Q E, ?_, ?_⟩
    · walk_at "rdr"
      refine meth_at hr2 (by rfl) ?_
      walk_at "rdr"
      refine w_newT (by show 2 ≤ 1000000; decide) fun p3 H3 hp3 s3 h3 => ?_
      walk_at "rdr"
      have hR3 := hR2.same s3
      have f3 := f2.trans (Fr2.same s3)
      refine ⟨r, dl, tl, p3, ts, S1, [cds ",", cds "|"], rfl, sqT_of h3, hR3, ok, Does.callA kQ1 f3 ?_⟩
      rintro b S4 v4 H4 rfl hR4 f4 kQ4
      have f14 := f3.trans f4
      obtain ⟨dx, ps, _, _, _, hr4, _⟩ := id hR4
      refine ⟨b, rfl, ?_⟩
      cases b with
      | true =>
        rw [if_pos rfl] at kQ4
        refine L2.iteT ?_
        walk_at "rdr"
        refine meth_at hr4 (by rfl) ?_
        walk_at "rdr"
        refine ⟨r, dl, tl, ts, S4, 4, rfl, hR4, ok, by decide, Does.callA kQ4 f14 ?_⟩
        rintro ns S5 v5 H5 ⟨q, rfl, hq, _⟩ hR5 f5 kQ5
        have f15 := f14.trans f5
        obtain ⟨dx, ps, _, _, _, hr5, _⟩ := id hR5
        walk_at "rdr"
        refine meth_at hr5 (by rfl) ?_
        walk_at "rdr"
        refine ⟨r, dl, tl, ts, S5, cds "|", rfl, hR5, ok, Does.callA kQ5 f15 ?_⟩
        rintro _ S6 v6 H6 rfl hR6 f6 kQ6
        have f16 := f15.trans f6
        have hq6 := sqT_fr hq hR5 f6
        obtain ⟨dx, ps, _, _, _, hr6, _⟩ := id hR6
        walk_at "rdr"
        refine meth_at hr6 (by rfl) ?_
        walk_at "rdr"
        refine ⟨r, dl, tl, q, ts, S6, ns, rfl, hq6, hR6, ok, Does.callA kQ6 f16 ?_⟩
        · rintro _ S7 v7 H7 rfl hR7 f7 kQ7
          walk_at "rdr"
          exact ⟨q, ns, S7, rfl, sqT_fr hq6 hR6 f7, hR7, f16.trans f7, kQ7⟩
      | false =>
        rw [if_neg Bool.false_ne_true] at kQ4
        refine L2.iteF ?_
        refine ⟨p0, [], S4, rfl, sqT_fr (sqT_of (s3 _ _ h2)) hR3 f4, hR4, f14, kQ4⟩
    · rintro σ' H3 ⟨q, ns, S3, rfl, hq, hR3, f3, kQ3⟩
      obtain ⟨dx, ps, _, _, _, hr3, _⟩ := id hR3
      walk_at "rdr"
      refine meth_at hr3 (by rfl) ?_
      walk_at "rdr"
      refine w_newT (by show 1 ≤ 1000000; decide) fun p4 H4 hp4 s4 h4 => ?_
      walk_at "rdr"
      have hR4 := hR3.same s4
      refine ⟨r, dl, tl, p4, ts, S3, [cds "}"], d + 1, rfl, sqT_of h4, hR4, ok, Does.callA kQ3 (f3.trans (Fr2.same s4)) ?_⟩
      rintro l S5 v5 H5 hl hR5 f5 kQ5
      have f15 := (f3.trans (Fr2.same s4)).trans f5
      obtain ⟨dx, ps, _, _, _, hr5, _⟩ := id hR5
      walk_at "rdr"
      refine meth_at hr5 (by rfl) ?_
      walk_at "rdr"
      refine ⟨r, dl, tl, ts, S5, cds "}", rfl, hR5, ok, Does.callA kQ5 f15 ?_⟩
      rintro _ S6 v6 H6 rfl hR6 f6 kQ6
      walk_at "rdr"
      refine w_newT (by show 3 ≤ 1000000; decide) fun p7 H7 hp7 s7 h7 => ?_
      have hq6 := sqT_fr (sqT_fr (Same.sqTq s4 hq) hR4 f5) hR5 f6
      exact kQ6.ok (.t (sqT_of h7) (.cons .s (.cons (.t (Same.sqTq s7 hq6) (trs_texts ns)) (.cons (TrAt.same (TrAt.fr hl hR5 f6) s7) .nil)))) (hR6.same s7) ((f15.trans f6).trans (Fr2.same s7))
end
end
section
open PySem PySem.Spec PyProof.Rows L2
open C8 (Cal cal0 pe_c pe_gc pss_cut tCut)
/-! ### dicts of the module -/
section
variable {X : Cx} {d : Addr} {es : Array DictEntry} {n : Nat}
def rKNin (K : PySem.W.Frag) (d : Addr) : R2 := fun x y H Q => ∃ (z : Str) (r : Option Value), x = .str z ∧ y = .ref d ∧ PySem.W.nsIn K d z = some r ∧ Q (.bl (!r.isSome)) H
def rKIx (K : PySem.W.Frag) (d : Addr) : R2 := fun x y H Q => ∃ (z : Str) (u0 : Value) (v0 : V), x = .ref d ∧ y = .str z ∧ PySem.W.nsIn K d z = some (some u0) ∧ RelV v0 u0 ∧ Q v0 H
theorem op_notIn_kdn (D : KDict X.K X.w d es n) : OpR X (compareOp .NotIn) (rKNin X.K d) := op_notIn_kd D
theorem ix_kdn (D : KDict X.K X.w d es n) : IxR X (rKIx X.K d) := by
  intro value slice pins s σ H x y v u Q I rx ry h hs
  obtain ⟨z, u0, v0, rfl, rfl, e, r, q⟩ := h
  cases rx
  obtain ⟨t, rfl⟩ := ry
  exact tail_any (kd_type D I) PySem.F.slot_dict_getitem.lookup (wpAny_getItem_of (PySem.strKind_is X.prog X.w z t) (PySem.W.mapOf_K (prog := X.prog) I.kIn D.at_ D.lit) (PySem.W.find_K D.at_ e) ⟨v0, H, I.tok _, r, q⟩) hs
end
def KGives (K : PySem.W.Frag) (d : Addr) (kvs : List (List Nat × V)) : Prop := ∀ a : List Nat, match kvs.lookup a with
  | some v => ∃ u, PySem.W.nsIn K d ⟨a.toArray⟩ = some (some u) ∧ RelV v u
  | none => PySem.W.nsIn K d ⟨a.toArray⟩ = some none
structure DictK (K : PySem.W.Frag) (w : World) (mg : Str → Option Value) (x : Str) (kvs : List (List Nat × V)) : Prop where
  ex : ∃ (d : Addr) (es : Array DictEntry) (n : Nat), (∃ u, mg x = some u ∧ RelV (.ref d) u) ∧ KDict K w d es n ∧ KGives K d kvs
theorem plain_some {a : List Nat} {v : V} (h : plainL.lookup a = some v) : v = .non ∨ v = .bl true ∨ v = .bl false := by
  unfold plainL at h
  simp only [List.lookup] at h
  split at h
  · cases h; exact .inl rfl
  · split at h
    · cases h; exact .inr (.inl rfl)
    · split at h
      · cases h; exact .inr (.inr rfl)
      · cases h

section
variable {P : Program} {w : World} {K : PySem.W.Frag} {mg : Str → Option Value} {base : Heap} {C fI RC : Addr} {k : Nat}
abbrev s_Reader_primary : Stmt := inClass (topS 40) 22
abbrev N_Reader_primary : List Str := ["self", "depth", "kind", "word", "tree"]
theorem sc_Reader_primary : FnScope N_Reader_primary ["self", "depth"] (defScope s_Reader_primary) := ⟨rfl, rfl, rfl, by decide +kernel, rfl, by decide +kernel, by decide +kernel⟩
def spPrimary (K : PySem.W.Frag) (C RC : Addr) (ex : List Tk → Nat → Nat → RS → Res RS Tr) (bo : List Tk → List (List Nat) → Nat → RS → Res RS (List Tr)) : Sp := fun vs H Q E => ∃ (r dl tl : Addr) (ts : List Tk) (S : RS) (d : Nat), vs = [.ref r, .int (d : Int)] ∧ RdS RC r dl tl ts S H ∧ TOk ts ∧ Does C RC r dl tl ts (gPrimary ts (ex ts) (bo ts) d S) (isTr K) H Q E
theorem ok_primary {ex : List Tk → Nat → Nat → RS → Res RS Tr} {bo : List Tk → List (List Nat) → Nat → RS → Res RS (List Tr)} {f : Addr} {fd : FuncData} (F : Fun K "primary" "Reader.primary" s_Reader_primary f fd) (Z : RdTx P w K mg C fI RC) (hk : 3 ≤ k) (dP : DictK K w mg "PLAIN" plainL)
    (m_fixed : MetX P w K mg base 1 RC "fixed" (spFixed C RC) [.int 0]) (m_refuse : MetX P w K mg base 1 RC "refuse" (spRefuse C RC) []) (m_take : MetX P w K mg base 2 RC "take" (spTake C RC) []) (m_accept : MetX P w K mg base 2 RC "accept" (spAccept C RC) []) (m_expect : MetX P w K mg base 3 RC "expect" (spExpect C RC) [])
    (m_block : MetX P w K mg base k RC "block" (spBlock K C RC bo) []) (m_super_send : MetX P w K mg base k RC "super_send" (spSuper K C RC ex) []) (m_expression : MetX P w K mg base k RC "expression" (spEx K C RC ex) []) :
    FnOk P w K mg base (L2.CX P w) (k + 1) f fd ["self", "depth"] (spPrimary K C RC ex bo) := by
  obtain ⟨aP, esP, nP, gPLAIN, DPLAIN, hP⟩ := dP.ex
  refine F.okX sc_Reader_primary (fun vs H Q E h => ?_) (fun cdv A outer s H vs Q E hr h => ?_)
  · obtain ⟨r, dl, tl, ts, S, d, rfl, _⟩ := h
    rfl
  · obtain ⟨r, dl, tl, ts, S, d, rfl, hR, ok, kQ⟩ := h
    obtain ⟨dx, ps, n1, n2, n3, hr', htl, hT, hdl, hz⟩ := id hR
    have nd := sc_Reader_primary.nd
    refine ⟨_, (pss_cons (ps_set (i := 2) nd rfl (Or.inl rfl) (pe_ix ix_tup (pe_ix ix_list (pe_fld (pv 0) rfl) (pe_fld (pv 0) rfl) (fun _ _ => rfl)) pe_int (fun _ _ => rfl)))
      (pss_cons (ps_if (PW.pt (pw_or (pt_cmpR op_eq (pv 2) pe_str (nomark _)) (pw_or1 (pt_cmpR op_eq (pv 2) pe_str (nomark _))))) (pss_one (ps_ret (pe_tup (pa_cons pe_str (pa_cons (pe_mx m_take hr (by omega) px_of (pv 0) (pa_cons (pv 2) pa_nil)) pa_nil))))) pss_nil)
      (pss_cons (ps_if (pt_cmpR op_eq (pv 2) pe_str (nomark _)) (pss_one (ps_ret (pe_tup (pa_cons pe_str (pa_cons (pe_mx m_take hr (by omega) px_of (pv 0) (pa_cons (pv 2) pa_nil)) pa_nil))))) pss_nil)
      (pss_cons (ps_set (i := 3) nd rfl (Or.inl rfl) (pe_mx0 m_fixed hr (by omega) px_of (pv 0)))
      (pss_cons (ps_if (pt_cmpR op_eq (pv 3) pe_str (nomark _)) (pss_one (ps_ret (pe_mx m_block hr (by omega) px_of (pv 0) (pa_cons (pv 1) pa_nil)))) pss_nil)
      (pss_cons (ps_if (pt_cmpR op_eq (pv 3) pe_str (nomark _)) (pss_one (ps_ret (pe_mx m_super_send hr (by omega) px_of (pv 0) (pa_cons (pv 1) pa_nil)))) pss_nil)
      (pss_cons (ps_if (pt_val (pe_mx m_accept hr (by omega) px_of (pv 0) (pa_cons pe_str pa_nil))) (pss_cons (ps_set (i := 4) nd rfl (Or.inl rfl) (pe_mx m_expression hr (by omega) px_of (pv 0) (pa_cons (pe_gc rfl Z.c_LOOSEST) (pa_cons (pe_op op_add (pv 1) pe_int) pa_nil))))
      (pss_cons (ps_expr (pe_mx m_expect hr (by omega) px_of (pv 0) (pa_cons pe_str pa_nil)))
      (pss_one (ps_ret (pv 4))))) pss_nil)
      (pss_cons (ps_if (pt_val (pe_mx m_accept hr (by omega) px_of (pv 0) (pa_cons pe_str pa_nil))) (pss_one (ps_ret (pe_tup (pa_cons pe_str (pa_cons (pe_mx m_take hr (by omega) px_of (pv 0) (pa_cons pe_str pa_nil)) pa_nil))))) pss_nil)
      (pss_cons (ps_if (pt_val (pe_mx m_accept hr (by omega) px_of (pv 0) (pa_cons pe_str pa_nil))) (pss_one (ps_ret (pe_tup (pa_cons pe_str pa_nil)))) pss_nil)
      (pss_cons (ps_if (pt_cmpR (op_notIn_kdn DPLAIN) (pv 3) (pe_gc rfl gPLAIN) (by rfl)) (pss_one (ps_expr (pe_mx0 m_refuse hr (by omega) px_of (pv 0)))) pss_nil)
      (pss_cons (ps_expr (pe_mx m_expect hr (by omega) px_of (pv 0) (pa_cons (pv 3) pa_nil)))
      (pss_one (ps_ret (pe_tup (pa_cons pe_str (pa_cons (pe_ix (ix_kdn DPLAIN) (pe_gc rfl gPLAIN) (pv 3) (fun _ _ => rfl)) pa_nil)))))))))))))))), ?_⟩
    rw [show L2.start N_Reader_primary [.ref r, .int (d : Int)] = [some (.ref r), some (.int (d : Int)), none, none, none] from rfl]
    unfold gPrimary at kQ
    have hk2 : S.n < ts.length := by
      by_cases h : S.n < ts.length
      · exact h
      · rw [if_neg h] at kQ; exact False.elim kQ
    rw [if_pos hk2] at kQ
    obtain ⟨p, hp, htp⟩ := hT.at (tokN_get hk2)
    walk_at "rdr"
    refine fld_at hr' Z.cl Z.n_tokens (by rfl) ?_
    walk_at "rdr"
    refine fld_at hr' Z.cl Z.n_now (by rfl) ?_
    refine w_ixL (v := .ref p) (SqL.of htl) (atI_nat (j := S.n) (by rw [List.getElem?_map, hp]; rfl)) ?_
    walk_at "rdr"
    refine w_ixT (sqT_of htp) (v := T (tokN ts S.n).1) rfl ?_
    generalize hkd : (tokN ts S.n).1 = kd at kQ
    walk_at "rdr"
    have eNum : (Str.ofString "number").cps.toList = cds "number" := rfl
    have eTxt : (Str.ofString "text").cps.toList = cds "text" := rfl
    have tr_of : ∀ (kk : List Nat) (v x : V) (H' : Hp), isV kk v x H' → TrAt K H' v (plainTr x) := fun kk v x H' h => by
      obtain ⟨rfl, h1, h2⟩ := h
      by_cases hn : kk = cds "number"
      · obtain ⟨z, hz⟩ := h2 hn
        rw [hz]
        exact .i
      · obtain ⟨e, _⟩ := h1 hn
        rw [e]
        show TrAt K H' (T (txtV v)) (.s (⟨(txtV v).toArray⟩ : Str).cps.toList)
        simp only [Str.cps]
        exact .s
    have pair : ∀ (lab : String) (kk : List Nat) (S1 : RS) (H0 : Hp) (t : TA) (σ : L2.St), (∀ G : List V → Hp → Prop, G [T kk] H0 → t σ H0 G) → RdS RC r dl tl ts S1 H0 → Fr2 r dl H H0 → Does C RC r dl tl ts ((rTake ts kk S1).bind fun v S => .ok (.t [str lab, plainTr v]) S) (isTr K) H Q E →
        MethR RC "take" (spTake C RC) [] E t σ (.ref r) H0 fun x H1 => NewT [T (cds lab), x] H1 Q := fun lab kk S1 H0 t σ ht hR0 f0 kD => by
      obtain ⟨dx0, ps0, _, _, _, hr0, _⟩ := id hR0
      refine meth_at hr0 (by rfl) (ht _ ?_)
      refine ⟨r, dl, tl, ts, S1, kk, rfl, hR0, ok, Does.callA kD f0 ?_⟩
      rintro x S2 v H2 hv hR2 f2 kD2
      refine w_newT (by show 2 ≤ 1000000; decide) fun q H3 hq s3 h3 => ?_
      exact kD2.ok (.t (sqT_of h3) (.cons .s (.cons (TrAt.same (tr_of _ _ _ _ hv) s3) .nil))) (hR2.same s3) ((f0.trans f2).trans (Fr2.same s3))
    refine w_ifT (fun h => ?_) (fun h1 => ?_)
    · rw [if_pos (.inl h)] at kQ
      walk_at "rdr"
      exact pair "plain" kd S H _ _ (fun G g => ⟨_, rfl, g⟩) hR (Fr2.refl _ _ _) kQ
    · walk_at "rdr"
      refine w_ifT (fun h => ?_) (fun h2 => ?_)
      · rw [if_pos (.inr h)] at kQ
        walk_at "rdr"
        exact pair "plain" kd S H _ _ (fun G g => ⟨_, rfl, g⟩) hR (Fr2.refl _ _ _) kQ
      · have h1' : ¬ kd = cds "number" := h1
        have h2' : ¬ kd = cds "text" := h2
        rw [if_neg (fun z => z.elim h1' h2')] at kQ
        walk_at "rdr"
        refine w_ifT (fun h => ?_) (fun h3 => ?_)
        · have h' : kd = cds "name" := h
          rw [if_pos h'] at kQ
          walk_at "rdr"
          exact pair "name" kd S H _ _ (fun G g => ⟨_, rfl, g⟩) hR (Fr2.refl _ _ _) kQ
        · have h3' : ¬ kd = cds "name" := h3
          rw [if_neg h3'] at kQ
          walk_at "rdr"
          refine meth_at hr' (by rfl) ?_
          walk_at "rdr"
          refine ⟨r, dl, tl, ts, S, 0, rfl, hR, ok, Does.callA kQ (Fr2.refl _ _ _) ?_⟩
          rintro wd S1 v1 H1 rfl hR1 f1 kQ1
          obtain ⟨dx, ps, _, _, _, hr1, _⟩ := id hR1
          walk_at "rdr"
          refine w_ifT (fun h => ?_) (fun h4 => ?_)
          · have h' : wd = cds "{" := h
            rw [if_pos h'] at kQ1
            walk_at "rdr"
            refine meth_at hr1 (by rfl) ?_
            walk_at "rdr"
            exact ⟨r, dl, tl, ts, S1, d, rfl, hR1, ok, Does.to kQ1 f1⟩
          · have h4' : ¬ wd = cds "{" := h4
            rw [if_neg h4'] at kQ1
            walk_at "rdr"
            refine w_ifT (fun h => ?_) (fun h5 => ?_)
            · have h' : wd = cds "super" := h
              rw [if_pos h'] at kQ1
              walk_at "rdr"
              refine meth_at hr1 (by rfl) ?_
              walk_at "rdr"
              exact ⟨r, dl, tl, ts, S1, d, rfl, hR1, ok, Does.to kQ1 f1⟩
            · have h5' : ¬ wd = cds "super" := h5
              rw [if_neg h5'] at kQ1
              walk_at "rdr"
              refine meth_at hr1 (by rfl) ?_
              walk_at "rdr"
              refine ⟨r, dl, tl, ts, S1, cds "(", rfl, hR1, ok, Does.callA kQ1 f1 ?_⟩
              rintro b S2 v2 H2 rfl hR2 f2 kQ2
              have f12 := f1.trans f2
              obtain ⟨dx, ps, _, _, _, hr2, _⟩ := id hR2
              refine ⟨b, rfl, ?_⟩
              cases b with
              | true =>
                rw [if_pos rfl] at kQ2
                refine L2.iteT ?_
                walk_at "rdr"
                refine meth_at hr2 (by rfl) ?_
                walk_at "rdr"
                refine ⟨r, dl, tl, ts, S2, 1, d + 1, rfl, hR2, ok, Does.callA kQ2 f12 ?_⟩
                rintro t S3 v3 H3 ht hR3 f3 kQ3
                obtain ⟨dx, ps, _, _, _, hr3, _⟩ := id hR3
                walk_at "rdr"
                refine meth_at hr3 (by rfl) ?_
                walk_at "rdr"
                refine ⟨r, dl, tl, ts, S3, cds ")", rfl, hR3, ok, Does.callA kQ3 (f12.trans f3) ?_⟩
                rintro _ S4 v4 H4 rfl hR4 f4 kQ4
                walk_at "rdr"
                exact kQ4.ok (TrAt.fr ht hR3 f4) hR4 ((f12.trans f3).trans f4)
              | false =>
                rw [if_neg Bool.false_ne_true] at kQ2
                refine L2.iteF ?_
                walk_at "rdr"
                refine meth_at hr2 (by rfl) ?_
                walk_at "rdr"
                refine ⟨r, dl, tl, ts, S2, cds "new", rfl, hR2, ok, Does.callA kQ2 f12 ?_⟩
                rintro b S3 v3 H3 rfl hR3 f3 kQ3
                have f13 := f12.trans f3
                obtain ⟨dx, ps, _, _, _, hr3, _⟩ := id hR3
                refine ⟨b, rfl, ?_⟩
                cases b with
                | true =>
                  rw [if_pos rfl] at kQ3
                  refine L2.iteT ?_
                  walk_at "rdr"
                  exact pair "new" (cds "class") S3 H3 _ _ (fun G g => by walk_at "rdr"; exact g) hR3 f13 kQ3
                | false =>
                  rw [if_neg Bool.false_ne_true] at kQ3
                  refine L2.iteF ?_
                  walk_at "rdr"
                  refine meth_at hr3 (by rfl) ?_
                  walk_at "rdr"
                  refine ⟨r, dl, tl, ts, S3, cds "self", rfl, hR3, ok, Does.callA kQ3 f13 ?_⟩
                  rintro b S4 v4 H4 rfl hR4 f4 kQ4
                  have f14 := f13.trans f4
                  obtain ⟨dx, ps, _, _, _, hr4, _⟩ := id hR4
                  refine ⟨b, rfl, ?_⟩
                  cases b with
                  | true =>
                    rw [if_pos rfl] at kQ4
                    refine L2.iteT ?_
                    walk_at "rdr"
                    refine w_newT (by show 1 ≤ 1000000; decide) fun q H5 hq s5 h5 => ?_
                    exact kQ4.ok (.t (sqT_of h5) (.cons .s .nil)) (hR4.same s5) (f14.trans (Fr2.same s5))
                  | false =>
                    rw [if_neg Bool.false_ne_true] at kQ4
                    refine L2.iteF ?_
                    have hg := hP wd
                    walk_at "rdr"
                    cases hw : plainL.lookup wd with
                    | none =>
                      rw [hw] at hg kQ4
                      refine ⟨_, _, rfl, rfl, hg, true, rfl, ?_⟩
                      walk_at "rdr"
                      refine meth_at hr4 (by rfl) ?_
                      walk_at "rdr"
                      exact use_refuse hR4 ok f14 kQ4
                    | some pv =>
                      rw [hw] at hg kQ4
                      obtain ⟨u, hu, ru⟩ := hg
                      refine ⟨_, _, rfl, rfl, hu, false, rfl, ?_⟩
                      walk_at "rdr"
                      refine meth_at hr4 (by rfl) ?_
                      walk_at "rdr"
                      refine ⟨r, dl, tl, ts, S4, wd, rfl, hR4, ok, Does.callA kQ4 f14 ?_⟩
                      rintro _ S5 v5 H5 rfl hR5 f5 kQ5
                      walk_at "rdr"
                      refine ⟨_, u, pv, rfl, rfl, hu, ru, ?_⟩
                      walk_at "rdr"
                      refine w_newT (by show 2 ≤ 1000000; decide) fun q H6 hq s6 h6 => ?_
                      refine kQ5.ok (.t (sqT_of h6) (.cons .s (.cons ?_ .nil))) (hR5.same s6) ((f14.trans f5).trans (Fr2.same s6))
                      have : pv = .non ∨ pv = .bl true ∨ pv = .bl false := plain_some hw
                      rcases this with rfl | rfl | rfl
                      · exact .n
                      · exact .b
                      · exact .b
end
end
section
open PySem PySem.Spec PyProof.Rows L2
open C8 (Cal cal0 pe_c pe_gc pss_cut tCut)
theorem w_kget {K : PySem.W.Frag} {a : Addr} {td ty tx : TE} {σ : L2.St} {H : Hp} {Q : VK} (k : td σ H fun x H1 => x = .ref a ∧ ty σ H1 fun y H2 => tx σ H2 fun z H3 => ∃ (n : Str) (r : Option Value) (v : V), y = .str n ∧ PySem.W.nsIn K a n = some r ∧ (∀ u, r = some u → RelV v u) ∧ (r = none → v = z) ∧ Q v H3) : tKGet K a td ty tx σ H Q := k
def numsV (l : List (List Nat × Nat)) : List (List Nat × V) := l.map fun p => (p.1, .int (p.2 : Int))
def txtsV (l : List (List Nat × List Nat)) : List (List Nat × V) := l.map fun p => (p.1, T p.2)
theorem nums_look (a : List Nat) : ∀ l : List (List Nat × Nat), (numsV l).lookup a = (l.lookup a).map fun n : Nat => V.int (n : Int)
  | [] => rfl
  | (b, n) :: l => by
    unfold numsV
    rw [List.map_cons, List.lookup_cons, List.lookup_cons]
    cases h : a == b with
    | true => rfl
    | false => exact nums_look a l
theorem txts_look (a : List Nat) : ∀ l : List (List Nat × List Nat), (txtsV l).lookup a = (l.lookup a).map T
  | [] => rfl
  | (b, n) :: l => by
    unfold txtsV
    rw [List.map_cons, List.lookup_cons, List.lookup_cons]
    cases h : a == b with
    | true => rfl
    | false => exact txts_look a l
theorem kget_num {K : PySem.W.Frag} {a : Addr} {l : List (List Nat × Nat)} {w : List Nat} {H : Hp} {Q : VK} (h : KGives K a (numsV l)) (k : Q (.int (((l.lookup w).getD 0 : Nat) : Int)) H) :
    ∃ (n : Str) (r : Option Value) (v : V), T w = .str n ∧ PySem.W.nsIn K a n = some r ∧ (∀ u, r = some u → RelV v u) ∧ (r = none → v = .int 0) ∧ Q v H := by
  have g := h w
  rw [nums_look] at g
  cases e : l.lookup w with
  | none =>
    rw [e] at g k
    exact ⟨_, _, .int 0, rfl, g, (fun u hu => nomatch hu), (fun _ => rfl), k⟩
  | some n =>
    rw [e] at g k
    obtain ⟨u, hu, ru⟩ := g
    exact ⟨_, _, _, rfl, hu, (fun u' hu' => by cases hu'; exact ru), (fun z => nomatch z), k⟩
def isOp (K : PySem.W.Frag) : V → Tr × Nat → Hp → Prop := fun v a H => ∃ p x, v = .ref p ∧ SqT K H p [x, .int (a.2 : Int)] ∧ TrAt K H x a.1

section
variable {P : Program} {w : World} {K : PySem.W.Frag} {mg : Str → Option Value} {base : Heap} {C fI RC : Addr} {k : Nat}
abbrev s_Reader_opening : Stmt := inClass (topS 40) 21
abbrev N_Reader_opening : List Str := ["self", "place", "depth", "sign", "level"]
theorem sc_Reader_opening : FnScope N_Reader_opening ["self", "place", "depth"] (defScope s_Reader_opening) := ⟨rfl, rfl, rfl, by decide +kernel, rfl, by decide +kernel, by decide +kernel⟩
def spOpening (K : PySem.W.Frag) (C RC : Addr) (ex : List Tk → Nat → Nat → RS → Res RS Tr) (bo : List Tk → List (List Nat) → Nat → RS → Res RS (List Tr)) : Sp := fun vs H Q E => ∃ (r dl tl : Addr) (ts : List Tk) (S : RS) (p d : Nat), vs = [.ref r, .int (p : Int), .int (d : Int)] ∧ RdS RC r dl tl ts S H ∧ TOk ts ∧ Does C RC r dl tl ts (gOpening ts (ex ts) (bo ts) p d S) (isOp K) H Q E
theorem ok_opening {ex : List Tk → Nat → Nat → RS → Res RS Tr} {bo : List Tk → List (List Nat) → Nat → RS → Res RS (List Tr)} {f : Addr} {fd : FuncData} (F : Fun K "opening" "Reader.opening" s_Reader_opening f fd) (Z : RdTx P w K mg C fI RC) (hk : 3 ≤ k) (dA : DictK K w mg "LEVELS_AHEAD" (numsV aheadN)) (dT : DictK K w mg "TREES_AHEAD" (txtsV treesN))
    (m_fixed : MetX P w K mg base 1 RC "fixed" (spFixed C RC) [.int 0]) (m_expect : MetX P w K mg base 3 RC "expect" (spExpect C RC) [])
    (m_primary : MetX P w K mg base k RC "primary" (spPrimary K C RC ex bo) []) (m_expression : MetX P w K mg base k RC "expression" (spEx K C RC ex) []) :
    FnOk P w K mg base (L2.CX P w) (k + 1) f fd ["self", "place", "depth"] (spOpening K C RC ex bo) := by
  obtain ⟨aA, esA, nA, gLEVELS_AHEAD, DLEVELS_AHEAD, hA⟩ := dA.ex
  obtain ⟨aT, esT, nT, gTREES_AHEAD, DTREES_AHEAD, hTr⟩ := dT.ex
  refine F.okX sc_Reader_opening (fun vs H Q E h => ?_) (fun cdv A outer s H vs Q E hr h => ?_)
  · obtain ⟨r, dl, tl, ts, S, p, d, rfl, _⟩ := h
    rfl
  · obtain ⟨r, dl, tl, ts, S, p, d, rfl, hR, ok, kQ⟩ := h
    obtain ⟨dx, ps, n1, n2, n3, hr', htl, hT, hdl, hz⟩ := id hR
    have nd := sc_Reader_opening.nd
    refine ⟨_, (pss_cons (ps_set (i := 3) nd rfl (Or.inl rfl) (pe_mx0 m_fixed hr (by omega) px_of (pv 0)))
      (pss_cons (ps_set (i := 4) nd rfl (Or.inl rfl) (pe_kget DLEVELS_AHEAD (pe_gc rfl gLEVELS_AHEAD) (pv 3) pe_int ⟨rfl, rfl, rfl, rfl⟩))
      (pss_cons (ps_if (pt_cmpR op_lt (pv 4) (pv 1) (nomark _)) (pss_one (ps_ret (pe_tup (pa_cons (pe_mx m_primary hr (by omega) px_of (pv 0) (pa_cons (pv 2) pa_nil)) (pa_cons (pe_gc rfl Z.c_TIGHTEST) pa_nil))))) pss_nil)
      (pss_cons (ps_expr (pe_mx m_expect hr (by omega) px_of (pv 0) (pa_cons (pv 3) pa_nil)))
      (pss_one (ps_ret (pe_tup (pa_cons (pe_tup (pa_cons (pe_ix (ix_kdn DTREES_AHEAD) (pe_gc rfl gTREES_AHEAD) (pv 3) (fun _ _ => rfl)) (pa_cons (pe_mx m_expression hr (by omega) px_of (pv 0) (pa_cons (pv 4) (pa_cons (pe_op op_add (pv 2) pe_int) pa_nil))) pa_nil))) (pa_cons (pv 4) pa_nil))))))))), ?_⟩
    rw [show L2.start N_Reader_opening [.ref r, .int (p : Int), .int (d : Int)] = [some (.ref r), some (.int (p : Int)), some (.int (d : Int)), none, none] from rfl]
    unfold gOpening at kQ
    walk_at "rdr"
    refine meth_at hr' (by rfl) ?_
    walk_at "rdr"
    refine ⟨r, dl, tl, ts, S, 0, rfl, hR, ok, Does.callA kQ (Fr2.refl _ _ _) ?_⟩
    rintro wd S1 v1 H1 rfl hR1 f1 kQ1
    obtain ⟨dx, ps, _, _, _, hr1, _⟩ := id hR1
    walk_at "rdr"
    refine w_kget ?_
    walk_at "rdr"
    refine ⟨rfl, ?_⟩
    walk_at "rdr"
    refine kget_num hA ?_
    generalize hlv : (aheadN.lookup wd).getD 0 = lv at kQ1
    walk_at "rdr"
    refine w_if (fun h => ?_) (fun h => ?_)
    · rw [if_pos (by omega)] at kQ1
      walk_at "rdr"
      refine meth_at hr1 (by rfl) ?_
      walk_at "rdr"
      refine ⟨r, dl, tl, ts, S1, d, rfl, hR1, ok, Does.callA kQ1 f1 ?_⟩
      rintro t S2 v2 H2 ht hR2 f2 kQ2
      walk_at "rdr"
      refine w_newT (by show 2 ≤ 1000000; decide) fun q H3 hq s3 h3 => ?_
      exact kQ2.ok ⟨q, v2, rfl, sqT_of h3, TrAt.same ht s3⟩ (hR2.same s3) ((f1.trans f2).trans (Fr2.same s3))
    · rw [if_neg (by omega)] at kQ1
      walk_at "rdr"
      refine meth_at hr1 (by rfl) ?_
      walk_at "rdr"
      refine ⟨r, dl, tl, ts, S1, wd, rfl, hR1, ok, Does.callA kQ1 f1 ?_⟩
      rintro _ S2 v2 H2 rfl hR2 f2 kQ2
      have f12 := f1.trans f2
      obtain ⟨dx, ps, _, _, _, hr2, _⟩ := id hR2
      have g := hTr wd
      rw [txts_look] at g
      cases e : treesN.lookup wd with
      | none => rw [e] at kQ2; exact False.elim kQ2
      | some nm =>
        rw [e] at kQ2 g
        obtain ⟨u, hu, ru⟩ := g
        walk_at "rdr"
        refine ⟨_, u, T nm, rfl, rfl, hu, ru, ?_⟩
        walk_at "rdr"
        refine meth_at hr2 (by rfl) ?_
        walk_at "rdr"
        refine ⟨r, dl, tl, ts, S2, lv, d + 1, rfl, hR2, ok, Does.callA kQ2 f12 ?_⟩
        rintro t S3 v3 H3 ht hR3 f3 kQ3
        walk_at "rdr"
        refine w_newT (by show 2 ≤ 1000000; decide) fun q H4 hq s4 h4 => ?_
        walk_at "rdr"
        refine w_newT (by show 2 ≤ 1000000; decide) fun q2 H5 hq2 s5 h5 => ?_
        exact kQ3.ok ⟨q2, .ref q, rfl, sqT_of h5, .t (sqT_of (s5 _ _ h4)) (.cons .s (.cons (TrAt.same (TrAt.same ht s4) s5) .nil))⟩ ((hR3.same s4).same s5) (((f12.trans f3).trans (Fr2.same s4)).trans (Fr2.same s5))
end
end
section
open PySem PySem.Spec PyProof.Rows L2
open C8 (Cal cal0 pe_c pe_gc pss_cut tCut)

section
variable {P : Program} {w : World} {K : PySem.W.Frag} {mg : Str → Option Value} {base : Heap} {C fI RC : Addr} {k : Nat}
abbrev s_can_go_on : Stmt := topS 39
abbrev N_can_go_on : List Str := ["sign", "place", "left", "level"]
theorem sc_can_go_on : FnScope N_can_go_on ["sign", "place", "left"] (defScope s_can_go_on) := ⟨rfl, rfl, rfl, by decide +kernel, rfl, by decide +kernel, by decide +kernel⟩
def spGo : Sp := fun vs H Q _ => ∃ (a : List Nat) (p lev : Nat), vs = [T a, .int (p : Int), .int (lev : Int)] ∧ Q (.bl (goOn a p lev)) H
theorem ok_can_go_on {f : Addr} {fd : FuncData} (F : Fun K "_can_go_on" "_can_go_on" s_can_go_on f fd) (Z : RdTx P w K mg C fI RC) (dB : DictK K w mg "LEVELS_BEHIND" (numsV behN)) : FnOk P w K mg base CX0 1 f fd ["sign", "place", "left"] spGo := by
  obtain ⟨aB, esB, nB, gLEVELS_BEHIND, DLEVELS_BEHIND, hB⟩ := dB.ex
  refine F.ok sc_can_go_on (fun vs H Q E h => ?_) (fun cdv A outer s H vs Q E hr h => ?_)
  · obtain ⟨a, p, lev, rfl, _⟩ := h
    rfl
  · obtain ⟨a, p, lev, rfl, kQ⟩ := h
    have nd := sc_can_go_on.nd
    refine ⟨_, (pss_cons (ps_set (i := 3) nd rfl (Or.inl rfl) (pe_kget DLEVELS_BEHIND (pe_gc rfl gLEVELS_BEHIND) (pv 0) pe_int ⟨rfl, rfl, rfl, rfl⟩))
      (pss_one (ps_ret (pe_and (pe_cmpR op_ge (pv 3) (pv 1) (nomark _)) (pe_one (pe_or (pe_cmpR op_ne (pv 3) (pe_gc rfl Z.c_COMPARING) (nomark _)) (pe_one (pe_cmpR op_gt (pv 2) (pe_gc rfl Z.c_COMPARING) (nomark _))))))))), ?_⟩
    rw [show L2.start N_can_go_on [T a, .int (p : Int), .int (lev : Int)] = [some (T a), some (.int (p : Int)), some (.int (lev : Int)), none] from rfl]
    walk_at "rdr"
    refine w_kget ?_
    walk_at "rdr"
    refine ⟨rfl, ?_⟩
    walk_at "rdr"
    refine kget_num hB ?_
    have kQ' : Q (.bl (decide (p ≤ levB a) && (!decide (levB a = 4) || decide (4 < lev)))) H := kQ
    have e0 : (behN.lookup a).getD 0 = levB a := rfl
    rw [e0]
    generalize levB a = lv at kQ'
    walk_at "rdr"
    refine w_if (fun h => ?_) (fun h => ?_)
    · rw [decide_eq_true (show p ≤ lv by omega), Bool.true_and] at kQ'
      walk_at "rdr"
      refine w_ifIn (fun h2 => ?_) (fun h2 => ?_)
      · rw [decide_eq_false (show ¬ lv = 4 by omega)] at kQ'
        exact kQ'
      · rw [decide_eq_true (show lv = 4 by omega)] at kQ'
        walk_at "rdr"
        have e : decide ((4 : Int) < (lev : Int)) = decide (4 < lev) := decide_eq_decide.mpr (by omega)
        rw [e]
        exact kQ'
    · rw [decide_eq_false (show ¬ p ≤ lv by omega), Bool.false_and] at kQ'
      exact kQ'

abbrev s_Reader_expression : Stmt := inClass (topS 40) 20
abbrev N_Reader_expression : List Str := ["self", "place", "depth", "first", "tree", "level", "sign", "name"]
theorem sc_Reader_expression : FnScope N_Reader_expression ["self", "place", "depth"] (defScope s_Reader_expression) := ⟨rfl, rfl, rfl, by decide +kernel, rfl, by decide +kernel, by decide +kernel⟩
theorem ok_expression {ex : List Tk → Nat → Nat → RS → Res RS Tr} {bo : List Tk → List (List Nat) → Nat → RS → Res RS (List Tr)} {f : Addr} {fd : FuncData} (F : Fun K "expression" "Reader.expression" s_Reader_expression f fd) (Z : RdTx P w K mg C fI RC) (hk : 3 ≤ k) (dB : DictK K w mg "LEVELS_BEHIND" (numsV behN))
    (c_can_go_on : Cal P w K mg base 1 "_can_go_on" spGo []) (m_begin : MetX P w K mg base 2 RC "begin" (spBegin C RC) []) (m_deepen : MetX P w K mg base 2 RC "deepen" (spDeepen C RC) [])
    (m_fixed : MetX P w K mg base 1 RC "fixed" (spFixed C RC) [.int 0]) (m_expect : MetX P w K mg base 3 RC "expect" (spExpect C RC) []) (m_take : MetX P w K mg base 2 RC "take" (spTake C RC) [])
    (m_opening : MetX P w K mg base k RC "opening" (spOpening K C RC ex bo) []) (m_arguments : MetX P w K mg base k RC "arguments" (spArgs K C RC ex) []) (m_expression : MetX P w K mg base k RC "expression" (spEx K C RC ex) []) :
    FnOk P w K mg base (L2.CX P w) (k + 1) f fd ["self", "place", "depth"] (spEx K C RC fun ts => gExpr ts (ex ts) (bo ts)) := by
  obtain ⟨aB, esB, nB, gLEVELS_BEHIND, DLEVELS_BEHIND, hB⟩ := dB.ex
  refine F.okX sc_Reader_expression (fun vs H Q E h => ?_) (fun cdv A outer s H vs Q E hr h => ?_)
  · obtain ⟨r, dl, tl, ts, S, p, d, rfl, _⟩ := h
    rfl
  · obtain ⟨r, dl, tl, ts, S, p, d, rfl, hR, ok, kQ⟩ := h
    obtain ⟨dx, ps, n1, n2, n3, hr', htl, hT, hdl, hz⟩ := id hR
    have nd := sc_Reader_expression.nd
    refine ⟨_, (pss_cons (ps_set (i := 3) nd rfl (Or.inl rfl) (pe_callB call_lenL (by rfl) Z.n_len (by decide +kernel) (pa_cons (pe_fld (pv 0) rfl) pa_nil)))
      (pss_cons (ps_expr (pe_mx m_begin hr (by omega) px_of (pv 0) (pa_cons (pv 2) pa_nil)))
      (pss_cons (ps_asg (pe_mx m_opening hr (by omega) px_of (pv 0) (pa_cons (pv 1) (pa_cons (pv 2) pa_nil))) (pg_tup (by rfl) (pgs_cons (pg_name (i := 4) nd rfl (Or.inl rfl)) (pgs_cons (pg_name (i := 5) nd rfl (Or.inl rfl)) pgs_nil))))
      (pss_cons (ps_set (i := 6) nd rfl (Or.inl rfl) (pe_mx0 m_fixed hr (by omega) px_of (pv 0)))
      (pss_cons (ps_while po_of (pt_val (pe_c c_can_go_on hr (by omega) rfl (pa_cons (pv 6) (pa_cons (pv 1) (pa_cons (pv 5) pa_nil))))) (pss_cons (ps_expr (pe_mx m_deepen hr (by omega) px_of (pv 0) (pa_cons (pv 3) pa_nil)))
      (pss_cons (ps_expr (pe_mx m_expect hr (by omega) px_of (pv 0) (pa_cons (pv 6) pa_nil)))
      (pss_cons (ps_set (i := 5) nd rfl (Or.inl rfl) (pe_ix (ix_kdn DLEVELS_BEHIND) (pe_gc rfl gLEVELS_BEHIND) (pv 6) (fun _ _ => rfl)))
      (pss_cut (ps_if (pt_cmpR op_eq (pv 6) pe_str (nomark _)) (pss_cons (ps_set (i := 7) nd rfl (Or.inl rfl) (pe_mx m_take hr (by omega) px_of (pv 0) (pa_cons pe_str pa_nil)))
      (pss_one (ps_set (i := 4) nd rfl (Or.inl rfl) (pe_tup (pa_cons pe_str (pa_cons (pv 4) (pa_cons (pv 7) (pa_cons (pe_mx m_arguments hr (by omega) px_of (pv 0) (pa_cons (pe_op op_add (pv 2) pe_int) pa_nil)) pa_nil)))))))) (pss_one (ps_if (PW.pt (pw_or (pt_cmpR op_eq (pv 6) pe_str (nomark _)) (pw_or1 (pt_cmpR op_eq (pv 6) pe_str (nomark _))))) (pss_one (ps_set (i := 4) nd rfl (Or.inl rfl) (pe_tup (pa_cons (pv 6) (pa_cons (pv 4) (pa_cons (pe_mx m_expression hr (by omega) px_of (pv 0) (pa_cons (pe_op op_add (pv 5) pe_int) (pa_cons (pe_op op_add (pv 2) pe_int) pa_nil))) pa_nil)))))) (pss_one (ps_set (i := 4) nd rfl (Or.inl rfl) (pe_tup (pa_cons pe_str (pa_cons (pv 6) (pa_cons (pv 4) (pa_cons (pe_mx m_expression hr (by omega) px_of (pv 0) (pa_cons (pe_op op_add (pv 5) pe_int) (pa_cons (pe_op op_add (pv 2) pe_int) pa_nil))) pa_nil))))))))))
      (pss_one (ps_set (i := 6) nd rfl (Or.inl rfl) (pe_mx0 m_fixed hr (by omega) px_of (pv 0)))))))))
      (pss_one (ps_ret (pv 4)))))))), ?_⟩
    rw [show L2.start N_Reader_expression [.ref r, .int (p : Int), .int (d : Int)] = [some (.ref r), some (.int (p : Int)), some (.int (d : Int)), none, none, none, none, none] from rfl]
    replace kQ : Does C RC r dl tl ts (gExpr ts (ex ts) (bo ts) p d S) (isTr K) H Q E := kQ
    unfold gExpr at kQ
    walk_at "rdr"
    refine fld_at hr' Z.cl Z.n_depths (by rfl) ?_
    walk_at "rdr"
    refine w_lenL (SqL.of hdl) ?_
    walk_at "rdr"
    rw [List.length_map]
    obtain ⟨first, hfirst⟩ : ∃ f, f = S.ds.length := ⟨_, rfl⟩
    rw [← hfirst] at kQ ⊢
    refine meth_at hr' (by rfl) ?_
    walk_at "rdr"
    refine ⟨r, dl, tl, ts, S, d, rfl, hR, ok, Does.callA kQ (Fr2.refl _ _ _) ?_⟩
    rintro _ S1 v1 H1 rfl hR1 f1 kQ1
    obtain ⟨dx, ps, _, _, _, hr1, _⟩ := id hR1
    walk_at "rdr"
    refine meth_at hr1 (by rfl) ?_
    walk_at "rdr"
    refine ⟨r, dl, tl, ts, S1, p, d, rfl, hR1, ok, Does.callA kQ1 f1 ?_⟩
    rintro ⟨tr, lev⟩ S2 v2 H2 ⟨q, x, rfl, hq, htr⟩ hR2 f2 kQ2
    have f12 := f1.trans f2
    obtain ⟨dx, ps, _, _, _, hr2, _⟩ := id hR2
    refine ⟨q, _, rfl, hq, rfl, ?_⟩
    refine ⟨_, _, rfl, ?_⟩
    walk_at "rdr"
    refine ⟨_, _, rfl, ?_⟩
    walk_at "rdr"
    refine ⟨rfl, ?_⟩
    walk_at "rdr"
    refine meth_at hr2 (by rfl) ?_
    walk_at "rdr"
    refine ⟨r, dl, tl, ts, S2, 0, rfl, hR2, ok, Does.callA kQ2 f12 ?_⟩
    rintro wd S3 v3 H3 rfl hR3 f3 kQ3
    walk_at "rdr"
    refine ⟨fun m σ' H' => ∃ (tr : Tr) (lev : Nat) (wd : List Nat) (S' : RS) (x : V) (nm : Option V), σ' = [some (.ref r), some (.int (p : Int)), some (.int (d : Int)), some (.int (first : Int)), some x, some (.int (lev : Int)), some (T wd), nm] ∧ TrAt K H' x tr ∧ RdS RC r dl tl ts S' H' ∧ Fr2 r dl H H' ∧
        Does C RC r dl tl ts (gExprGo ts (ex ts) p d first m tr lev wd S') (isTr K) H Q E,
      ⟨ts.length + 1, tr, lev, wd, S3, x, none, rfl, htr.fr hR2 f3, hR3, f12.trans f3, kQ3⟩, ?_⟩
    rintro m σ' H4 ⟨tr, lev, wd, S4, x, nm, rfl, htr4, hR4, f4, kQ4⟩
    cases m with
    | zero => exact False.elim kQ4
    | succ k =>
      unfold gExprGo at kQ4
      obtain ⟨dx, ps, _, _, _, hr4, _⟩ := id hR4
      walk_at "rdr"
      refine ⟨wd, p, lev, rfl, ?_⟩
      refine ⟨_, rfl, ?_⟩
      refine w_ifb (fun hg => ?_) (fun hg => ?_)
      · rw [if_pos hg] at kQ4
        refine ⟨fun σ' H' => ∃ (tr : Tr) (lev : Nat) (wd : List Nat) (S' : RS) (x : V) (nm : Option V), σ' = [some (.ref r), some (.int (p : Int)), some (.int (d : Int)), some (.int (first : Int)), some x, some (.int (lev : Int)), some (T wd), nm] ∧ TrAt K H' x tr ∧ RdS RC r dl tl ts S' H' ∧ Fr2 r dl H H' ∧
            Does C RC r dl tl ts (gExprGo ts (ex ts) p d first k tr lev wd S') (isTr K) H Q E, fun σ'' H'' h => ⟨k, Nat.lt_succ_self k, h⟩, ?_⟩
        walk_at "rdr"
        refine meth_at hr4 (by rfl) ?_
        walk_at "rdr"
        refine ⟨r, dl, tl, ts, S4, first, rfl, hR4, ok, Does.callA kQ4 f4 ?_⟩
        rintro _ S5 v5 H5 rfl hR5 f5 kQ5
        have f45 := f4.trans f5
        have htr5 := htr4.fr hR4 f5
        obtain ⟨dx, ps, _, _, _, hr5, _⟩ := id hR5
        walk_at "rdr"
        refine meth_at hr5 (by rfl) ?_
        walk_at "rdr"
        refine ⟨r, dl, tl, ts, S5, wd, rfl, hR5, ok, Does.callA kQ5 f45 ?_⟩
        rintro _ S6 v6 H6 rfl hR6 f6 kQ6
        have f46 := f45.trans f6
        have htr6 := htr5.fr hR5 f6
        obtain ⟨dx, ps, _, _, _, hr6, _⟩ := id hR6
        have g := hB wd
        rw [nums_look] at g
        cases e : behN.lookup wd with
        | none => rw [e] at kQ6; exact False.elim kQ6
        | some lv =>
          rw [e] at kQ6 g
          obtain ⟨u, hu, ru⟩ := g
          have kQ6' : Does C RC r dl tl ts ((gSign ts (ex ts) wd lv d tr S6).bind fun tr S => (rFixed ts 0 S).bind fun w' S => gExprGo ts (ex ts) p d first k tr lv w' S) (isTr K) H Q E := kQ6
          walk_at "rdr"
          refine ⟨_, u, .int (lv : Int), rfl, rfl, hu, ru, ?_⟩
          walk_at "rdr"
          refine ⟨fun σ' H' => ∃ (tr : Tr) (S' : RS) (x : V) (nm : Option V), σ' = [some (.ref r), some (.int (p : Int)), some (.int (d : Int)), some (.int (first : Int)), some x, some (.int (lv : Int)), some (T wd), nm] ∧ TrAt K H' x tr ∧ RdS RC r dl tl ts S' H' ∧ Fr2 r dl H H' ∧
              Does C RC r dl tl ts ((rFixed ts 0 S').bind fun w' S => gExprGo ts (ex ts) p d first k tr lv w' S) (isTr K) H Q E, ?_, ?_⟩
          · walk_at "rdr"
            unfold gSign at kQ6'
            refine w_ifT (fun h => ?_) (fun h1 => ?_)
            · have h' : wd = cds "." := h
              rw [if_pos h', Res.bind_assoc] at kQ6'
              unfold rName at kQ6'
              rw [Res.bind_assoc] at kQ6'
              walk_at "rdr"
              refine meth_at hr6 (by rfl) ?_
              walk_at "rdr"
              refine ⟨r, dl, tl, ts, S6, cds "name", rfl, hR6, ok, Does.callA kQ6' f46 ?_⟩
              rintro a S7 v7 H7 ⟨rfl, ha, _⟩ hR7 f7 kQ7
              obtain ⟨ha1, _⟩ := ha (by decide +kernel)
              have kQ7' : Does C RC r dl tl ts (((gArgs ts (ex ts) (d + 1) S7).bind fun l S => .ok (.t [str "send", tr, .s (txtV v7), .t l]) S).bind fun tr S => (rFixed ts 0 S).bind fun w' S => gExprGo ts (ex ts) p d first k tr lv w' S) (isTr K) H Q E := kQ7
              rw [Res.bind_assoc] at kQ7'
              have htr7 := htr6.fr hR6 f7
              obtain ⟨dx, ps, _, _, _, hr7, _⟩ := id hR7
              walk_at "rdr"
              refine meth_at hr7 (by rfl) ?_
              walk_at "rdr"
              refine ⟨r, dl, tl, ts, S7, d + 1, rfl, hR7, ok, Does.callA kQ7' (f46.trans f7) ?_⟩
              rintro l S8 v8 H8 hl hR8 f8 kQ8
              walk_at "rdr"
              refine w_newT (by show 4 ≤ 1000000; decide) fun q9 H9 hq9 s9 h9 => ?_
              refine ⟨_, S8, _, _, rfl, .t (sqT_of h9) (.cons .s (.cons (TrAt.same (htr7.fr hR7 f8) s9) (.cons ?_ (.cons (TrAt.same hl s9) .nil)))), hR8.same s9, ((f46.trans f7).trans f8).trans (Fr2.same s9), kQ8⟩
              rw [ha1, txtV_T]
              exact .s
            · have h1' : ¬ wd = cds "." := h1
              rw [if_neg h1'] at kQ6'
              have two : (wd = cds "and" ∨ wd = cds "or") → Does C RC r dl tl ts ((ex ts (lv + 1) (d + 1) S6).bind fun t S => (rFixed ts 0 S).bind fun w' S => gExprGo ts (ex ts) p d first k (.t [.s wd, tr, t]) lv w' S) (isTr K) H Q E := fun h => by
                rw [if_pos h, Res.bind_assoc] at kQ6'
                exact kQ6'
              walk_at "rdr"
              refine w_ifT (fun h2 => ?_) (fun h2 => ?_)
              · walk_at "rdr"
                refine meth_at hr6 (by rfl) ?_
                walk_at "rdr"
                refine ⟨r, dl, tl, ts, S6, lv + 1, d + 1, rfl, hR6, ok, Does.callA (two (.inl h2)) f46 ?_⟩
                rintro t S8 v8 H8 ht hR8 f8 kQ8
                walk_at "rdr"
                refine w_newT (by show 3 ≤ 1000000; decide) fun q9 H9 hq9 s9 h9 => ?_
                exact ⟨_, S8, _, _, rfl, .t (sqT_of h9) (.cons .s (.cons (TrAt.same (htr6.fr hR6 f8) s9) (.cons (TrAt.same ht s9) .nil))), hR8.same s9, (f46.trans f8).trans (Fr2.same s9), kQ8⟩
              · walk_at "rdr"
                refine w_ifT (fun h3 => ?_) (fun h3 => ?_)
                · walk_at "rdr"
                  refine meth_at hr6 (by rfl) ?_
                  walk_at "rdr"
                  refine ⟨r, dl, tl, ts, S6, lv + 1, d + 1, rfl, hR6, ok, Does.callA (two (.inr h3)) f46 ?_⟩
                  rintro t S8 v8 H8 ht hR8 f8 kQ8
                  walk_at "rdr"
                  refine w_newT (by show 3 ≤ 1000000; decide) fun q9 H9 hq9 s9 h9 => ?_
                  exact ⟨_, S8, _, _, rfl, .t (sqT_of h9) (.cons .s (.cons (TrAt.same (htr6.fr hR6 f8) s9) (.cons (TrAt.same ht s9) .nil))), hR8.same s9, (f46.trans f8).trans (Fr2.same s9), kQ8⟩
                · have h2' : ¬ wd = cds "and" := h2
                  have h3' : ¬ wd = cds "or" := h3
                  rw [if_neg (fun z => z.elim h2' h3'), Res.bind_assoc] at kQ6'
                  walk_at "rdr"
                  refine meth_at hr6 (by rfl) ?_
                  walk_at "rdr"
                  refine ⟨r, dl, tl, ts, S6, lv + 1, d + 1, rfl, hR6, ok, Does.callA kQ6' f46 ?_⟩
                  rintro t S8 v8 H8 ht hR8 f8 kQ8
                  walk_at "rdr"
                  refine w_newT (by show 4 ≤ 1000000; decide) fun q9 H9 hq9 s9 h9 => ?_
                  exact ⟨_, S8, _, _, rfl, .t (sqT_of h9) (.cons .s (.cons .s (.cons (TrAt.same (htr6.fr hR6 f8) s9) (.cons (TrAt.same ht s9) .nil)))), hR8.same s9, (f46.trans f8).trans (Fr2.same s9), kQ8⟩
          · rintro σ' H7 ⟨tr7, S7, x7, nm7, rfl, ht7, hR7, f7, kQ7⟩
            obtain ⟨dx, ps, _, _, _, hr7, _⟩ := id hR7
            walk_at "rdr"
            refine meth_at hr7 (by rfl) ?_
            walk_at "rdr"
            refine ⟨r, dl, tl, ts, S7, 0, rfl, hR7, ok, Does.callA kQ7 f7 ?_⟩
            rintro wd8 S8 v8 H8 rfl hR8 f8 kQ8
            walk_at "rdr"
            exact ⟨tr7, lv, wd8, S8, x7, nm7, rfl, ht7.fr hR7 f8, hR8, f7.trans f8, kQ8⟩
      · rw [if_neg (by rw [hg]; exact Bool.false_ne_true)] at kQ4
        walk_at "rdr"
        exact kQ4.ok htr4 hR4 f4
end
end
section
open PySem PySem.Spec PyProof.Rows L2
open C8 (Cal cal0 pe_c pe_gc pss_cut tCut)

section
variable {P : Program} {w : World} {K : PySem.W.Frag} {mg : Str → Option Value} {base : Heap} {C fI RC : Addr} {k : Nat}
def spSt (K : PySem.W.Frag) (C RC : Addr) (g : List Tk → Nat → RS → Res RS Tr) : Sp := fun vs H Q E => ∃ (r dl tl : Addr) (ts : List Tk) (S : RS) (d : Nat), vs = [.ref r, .int (d : Int)] ∧ RdS RC r dl tl ts S H ∧ TOk ts ∧ Does C RC r dl tl ts (g ts d S) (isTr K) H Q E
abbrev s_Reader_set_statement : Stmt := inClass (topS 40) 15
abbrev N_Reader_set_statement : List Str := ["self", "depth", "name"]
theorem sc_Reader_set_statement : FnScope N_Reader_set_statement ["self", "depth"] (defScope s_Reader_set_statement) := ⟨rfl, rfl, rfl, by decide +kernel, rfl, by decide +kernel, by decide +kernel⟩
theorem ok_set {ex : List Tk → Nat → Nat → RS → Res RS Tr} {f : Addr} {fd : FuncData} (F : Fun K "set_statement" "Reader.set_statement" s_Reader_set_statement f fd) (Z : RdTx P w K mg C fI RC) (hk : 3 ≤ k)
    (m_take : MetX P w K mg base 2 RC "take" (spTake C RC) []) (m_expect : MetX P w K mg base 3 RC "expect" (spExpect C RC) []) (m_expression : MetX P w K mg base k RC "expression" (spEx K C RC ex) []) :
    FnOk P w K mg base (L2.CX P w) (k + 1) f fd ["self", "depth"] (spSt K C RC fun ts => gSet ts (ex ts)) := by
  refine F.okX sc_Reader_set_statement (fun vs H Q E h => ?_) (fun cdv A outer s H vs Q E hr h => ?_)
  · obtain ⟨r, dl, tl, ts, S, d, rfl, _⟩ := h
    rfl
  · obtain ⟨r, dl, tl, ts, S, d, rfl, hR, ok, kQ⟩ := h
    obtain ⟨dx, ps, n1, n2, n3, hr', htl, hT, hdl, hz⟩ := id hR
    have nd := sc_Reader_set_statement.nd
    refine ⟨_, (pss_cons (ps_set (i := 2) nd rfl (Or.inl rfl) (pe_mx m_take hr (by omega) px_of (pv 0) (pa_cons pe_str pa_nil)))
      (pss_cons (ps_expr (pe_mx m_expect hr (by omega) px_of (pv 0) (pa_cons pe_str pa_nil)))
      (pss_one (ps_ret (pe_tup (pa_cons pe_str (pa_cons (pv 2) (pa_cons (pe_mx m_expression hr (by omega) px_of (pv 0) (pa_cons (pe_gc rfl Z.c_LOOSEST) (pa_cons (pe_op op_add (pv 1) pe_int) pa_nil))) pa_nil)))))))), ?_⟩
    rw [show L2.start N_Reader_set_statement [.ref r, .int (d : Int)] = [some (.ref r), some (.int (d : Int)), none] from rfl]
    replace kQ : Does C RC r dl tl ts (gSet ts (ex ts) d S) (isTr K) H Q E := kQ
    unfold gSet rName at kQ
    rw [Res.bind_assoc] at kQ
    walk_at "rdr"
    refine meth_at hr' (by rfl) ?_
    walk_at "rdr"
    refine ⟨r, dl, tl, ts, S, cds "name", rfl, hR, ok, Does.callA kQ (Fr2.refl _ _ _) ?_⟩
    rintro a S1 v1 H1 ⟨rfl, ha, _⟩ hR1 f1 kQ1
    obtain ⟨ha1, _⟩ := ha (by decide +kernel)
    obtain ⟨dx, ps, _, _, _, hr1, _⟩ := id hR1
    walk_at "rdr"
    refine meth_at hr1 (by rfl) ?_
    walk_at "rdr"
    refine ⟨r, dl, tl, ts, S1, cds ":=", rfl, hR1, ok, Does.callA kQ1 f1 ?_⟩
    rintro _ S2 v2 H2 rfl hR2 f2 kQ2
    have f12 := f1.trans f2
    obtain ⟨dx, ps, _, _, _, hr2, _⟩ := id hR2
    walk_at "rdr"
    refine meth_at hr2 (by rfl) ?_
    walk_at "rdr"
    refine ⟨r, dl, tl, ts, S2, 1, d + 1, rfl, hR2, ok, Does.callA kQ2 f12 ?_⟩
    rintro t S3 v3 H3 ht hR3 f3 kQ3
    walk_at "rdr"
    refine w_newT (by show 3 ≤ 1000000; decide) fun p H5 hp s5 h5 => ?_
    refine kQ3.ok (.t (sqT_of h5) (.cons .s (.cons ?_ (.cons (TrAt.same ht s5) .nil)))) (hR3.same s5) ((f12.trans f3).trans (Fr2.same s5))
    rw [ha1, txtV_T]
    exact .s

abbrev s_Reader_while_statement : Stmt := inClass (topS 40) 16
abbrev N_Reader_while_statement : List Str := ["self", "depth", "test", "body"]
theorem sc_Reader_while_statement : FnScope N_Reader_while_statement ["self", "depth"] (defScope s_Reader_while_statement) := ⟨rfl, rfl, rfl, by decide +kernel, rfl, by decide +kernel, by decide +kernel⟩
theorem ok_while {ex : List Tk → Nat → Nat → RS → Res RS Tr} {bo : List Tk → List (List Nat) → Nat → RS → Res RS (List Tr)} {f : Addr} {fd : FuncData} (F : Fun K "while_statement" "Reader.while_statement" s_Reader_while_statement f fd) (Z : RdTx P w K mg C fI RC) (hk : 3 ≤ k)
    (m_expect : MetX P w K mg base 3 RC "expect" (spExpect C RC) []) (m_expression : MetX P w K mg base k RC "expression" (spEx K C RC ex) []) (m_body : MetX P w K mg base k RC "body" (spBo K C RC bo) []) :
    FnOk P w K mg base (L2.CX P w) (k + 1) f fd ["self", "depth"] (spSt K C RC fun ts => gWhile ts (ex ts) (bo ts)) := by
  refine F.okX sc_Reader_while_statement (fun vs H Q E h => ?_) (fun cdv A outer s H vs Q E hr h => ?_)
  · obtain ⟨r, dl, tl, ts, S, d, rfl, _⟩ := h
    rfl
  · obtain ⟨r, dl, tl, ts, S, d, rfl, hR, ok, kQ⟩ := h
    obtain ⟨dx, ps, n1, n2, n3, hr', htl, hT, hdl, hz⟩ := id hR
    have nd := sc_Reader_while_statement.nd
    refine ⟨_, (pss_cons (ps_expr (pe_mx m_expect hr (by omega) px_of (pv 0) (pa_cons pe_str pa_nil)))
      (pss_cons (ps_set (i := 2) nd rfl (Or.inl rfl) (pe_mx m_expression hr (by omega) px_of (pv 0) (pa_cons (pe_gc rfl Z.c_LOOSEST) (pa_cons (pe_op op_add (pv 1) pe_int) pa_nil))))
      (pss_cons (ps_expr (pe_mx m_expect hr (by omega) px_of (pv 0) (pa_cons pe_str pa_nil)))
      (pss_cons (ps_set (i := 3) nd rfl (Or.inl rfl) (pe_mx m_body hr (by omega) px_of (pv 0) (pa_cons (pe_tup (pa_cons pe_str pa_nil)) (pa_cons (pe_op op_add (pv 1) pe_int) pa_nil))))
      (pss_cons (ps_expr (pe_mx m_expect hr (by omega) px_of (pv 0) (pa_cons pe_str pa_nil)))
      (pss_one (ps_ret (pe_tup (pa_cons pe_str (pa_cons (pv 2) (pa_cons (pv 3) pa_nil))))))))))), ?_⟩
    rw [show L2.start N_Reader_while_statement [.ref r, .int (d : Int)] = [some (.ref r), some (.int (d : Int)), none, none] from rfl]
    replace kQ : Does C RC r dl tl ts (gWhile ts (ex ts) (bo ts) d S) (isTr K) H Q E := kQ
    unfold gWhile at kQ
    walk_at "rdr"
    refine meth_at hr' (by rfl) ?_
    walk_at "rdr"
    refine ⟨r, dl, tl, ts, S, cds "while", rfl, hR, ok, Does.callA kQ (Fr2.refl _ _ _) ?_⟩
    rintro _ S1 v1 H1 rfl hR1 f1 kQ1
    obtain ⟨dx, ps, _, _, _, hr1, _⟩ := id hR1
    walk_at "rdr"
    refine meth_at hr1 (by rfl) ?_
    walk_at "rdr"
    refine ⟨r, dl, tl, ts, S1, 1, d + 1, rfl, hR1, ok, Does.callA kQ1 f1 ?_⟩
    rintro t S2 v2 H2 ht hR2 f2 kQ2
    have f12 := f1.trans f2
    obtain ⟨dx, ps, _, _, _, hr2, _⟩ := id hR2
    walk_at "rdr"
    refine meth_at hr2 (by rfl) ?_
    walk_at "rdr"
    refine ⟨r, dl, tl, ts, S2, cds "do", rfl, hR2, ok, Does.callA kQ2 f12 ?_⟩
    rintro _ S3 v3 H3 rfl hR3 f3 kQ3
    have f13 := f12.trans f3
    have ht3 := TrAt.fr ht hR2 f3
    obtain ⟨dx, ps, _, _, _, hr3, _⟩ := id hR3
    walk_at "rdr"
    refine meth_at hr3 (by rfl) ?_
    walk_at "rdr"
    refine w_newT (by show 1 ≤ 1000000; decide) fun q H4 hq s4 h4 => ?_
    walk_at "rdr"
    have hR4 := hR3.same s4
    have ht4 := TrAt.same ht3 s4
    refine ⟨r, dl, tl, q, ts, S3, [cds "end"], d + 1, rfl, sqT_of h4, hR4, ok, Does.callA kQ3 (f13.trans (Fr2.same s4)) ?_⟩
    rintro l S5 v5 H5 hl hR5 f5 kQ5
    have f15 := (f13.trans (Fr2.same s4)).trans f5
    have ht5 := TrAt.fr ht4 hR4 f5
    obtain ⟨dx, ps, _, _, _, hr5, _⟩ := id hR5
    walk_at "rdr"
    refine meth_at hr5 (by rfl) ?_
    walk_at "rdr"
    refine ⟨r, dl, tl, ts, S5, cds "end", rfl, hR5, ok, Does.callA kQ5 f15 ?_⟩
    rintro _ S6 v6 H6 rfl hR6 f6 kQ6
    walk_at "rdr"
    refine w_newT (by show 3 ≤ 1000000; decide) fun p H7 hp s7 h7 => ?_
    exact kQ6.ok (.t (sqT_of h7) (.cons .s (.cons (TrAt.same (TrAt.fr ht5 hR5 f6) s7) (.cons (TrAt.same (TrAt.fr hl hR5 f6) s7) .nil)))) (hR6.same s7) ((f15.trans f6).trans (Fr2.same s7))

abbrev s_Reader_body : Stmt := inClass (topS 40) 13
abbrev N_Reader_body : List Str := ["self", "ends", "depth", "statements"]
theorem sc_Reader_body : FnScope N_Reader_body ["self", "ends", "depth"] (defScope s_Reader_body) := ⟨rfl, rfl, rfl, by decide +kernel, rfl, by decide +kernel, by decide +kernel⟩
theorem ok_body {g : List Tk → Nat → RS → Res RS Tr} {f : Addr} {fd : FuncData} (F : Fun K "body" "Reader.body" s_Reader_body f fd) (Z : RdTx P w K mg C fI RC) (hk : 3 ≤ k)
    (m_fixed : MetX P w K mg base 1 RC "fixed" (spFixed C RC) [.int 0]) (m_accept : MetX P w K mg base 2 RC "accept" (spAccept C RC) []) (m_statement : MetX P w K mg base k RC "statement" (spSt K C RC g) []) :
    FnOk P w K mg base (L2.CX P w) (k + 1) f fd ["self", "ends", "depth"] (spBo K C RC fun ts => gBody ts (g ts)) := by
  refine F.okX sc_Reader_body (fun vs H Q E h => ?_) (fun cdv A outer s H vs Q E hr h => ?_)
  · obtain ⟨r, dl, tl, q, ts, S, ms, d, rfl, _⟩ := h
    rfl
  · obtain ⟨r, dl, tl, q, ts, S, ms, d, rfl, hq, hR, ok, kQ⟩ := h
    obtain ⟨dx, ps, n1, n2, n3, hr', htl, hT, hdl, hz⟩ := id hR
    have nd := sc_Reader_body.nd
    refine ⟨_, (pss_cons (ps_if (pt_cmpR op_in_seq (pe_mx0 m_fixed hr (by omega) px_of (pv 0)) (pv 1) (by rfl)) (pss_one (ps_ret (pe_tup pa_nil))) pss_nil)
      (pss_cons (ps_set (i := 3) nd rfl (Or.inl rfl) (pe_lst (pa_cons (pe_mx m_statement hr (by omega) px_of (pv 0) (pa_cons (pv 2) pa_nil)) pa_nil)))
      (pss_cons (ps_while po_of (pt_val (pe_mx m_accept hr (by omega) px_of (pv 0) (pa_cons pe_str pa_nil))) (pss_one (ps_expr (pe_bm PySem.F.plainAttrs_list PySem.F.slot_list_append PySem.F.type_list_append mt_append (pv 3) (pa_cons (pe_mx m_statement hr (by omega) px_of (pv 0) (pa_cons (pv 2) pa_nil)) pa_nil)))))
      (pss_one (ps_ret (pe_callTy call_tupleOfR (by rfl) Z.n_tuple (by decide +kernel) (pa_cons (pv 3) pa_nil))))))), ?_⟩
    rw [show L2.start N_Reader_body [.ref r, .ref q, .int (d : Int)] = [some (.ref r), some (.ref q), some (.int (d : Int)), none] from rfl]
    replace kQ : Does C RC r dl tl ts (gBody ts (g ts) ms d S) (isTrs K) H Q E := kQ
    unfold gBody at kQ
    walk_at "rdr"
    refine meth_at hr' (by rfl) ?_
    walk_at "rdr"
    refine ⟨r, dl, tl, ts, S, 0, rfl, hR, ok, Does.callA kQ (Fr2.refl _ _ _) ?_⟩
    rintro wd S1 v1 H1 rfl hR1 f1 kQ1
    have hq1 := sqT_fr hq hR f1
    obtain ⟨dx, ps, _, _, _, hr1, _⟩ := id hR1
    walk_at "rdr"
    refine w_inT hq1 ?_
    walk_at "rdr"
    refine w_if (fun h => ?_) (fun h => ?_)
    · rw [if_pos h] at kQ1
      walk_at "rdr"
      refine w_newT (by show 0 ≤ 1000000; decide) fun p H3 hp s3 h3 => ?_
      exact kQ1.ok (.t (sqT_of h3) .nil) (hR1.same s3) (f1.trans (Fr2.same s3))
    · rw [if_neg h] at kQ1
      walk_at "rdr"
      refine meth_at hr1 (by rfl) ?_
      walk_at "rdr"
      refine ⟨r, dl, tl, ts, S1, d, rfl, hR1, ok, Does.callA kQ1 f1 ?_⟩
      rintro t S3 v H3 ht hR3 f3 kQ3
      have f13 := f1.trans f3
      walk_at "rdr"
      refine w_newL (by show 1 ≤ 1000000; decide) fun l H4 hl s4 h4 => ?_
      walk_at "rdr"
      obtain ⟨nl1, nl2, nl3⟩ := hR3.new hl
      have hl0 : H l = none := f13.2 l hl
      have hts0 := ok.len
      refine ⟨fun m σ' H' => ∃ (xs : List V) (trs : List Tr) (S' : RS), σ' = [some (.ref r), some (.ref q), some (.int (d : Int)), some (.ref l)] ∧ RdS RC r dl tl ts S' H' ∧ H' l = some (.lst xs) ∧ TrsAt K H' xs trs ∧ trs.length + m ≤ 300000 ∧ Fr2 r dl H H' ∧
          Does C RC r dl tl ts (gBodyGo ts (g ts) d m trs S') (isTrs K) H Q E,
        ⟨ts.length + 1, [v], [t], S3, rfl, hR3.same s4, h4, .cons (TrAt.same ht s4) .nil, by show 1 + (ts.length + 1) ≤ 300000; omega, f13.trans (Fr2.same s4), kQ3⟩, ?_⟩
      rintro m σ' H' ⟨xs, trs, S', rfl, hR', hl', hts, hlen, f', kQ'⟩
      cases m with
      | zero => exact False.elim kQ'
      | succ k =>
        have hxl := hts.length
        unfold gBodyGo at kQ'
        obtain ⟨dx1, ps1, _, _, _, hr1', _⟩ := id hR'
        walk_at "rdr"
        refine meth_at hr1' (by rfl) ?_
        walk_at "rdr"
        refine ⟨r, dl, tl, ts, S', cds ";", rfl, hR', ok, Does.callA kQ' f' ?_⟩
        rintro b S5 v5 H5 rfl hR5 f5 kQ5
        have hl5 := f5.lst nl1 nl2 hl'
        have hts5 := hts.fr hR' f5
        have f15 := f'.trans f5
        obtain ⟨dx5, ps5, _, _, _, hr5, _⟩ := id hR5
        refine ⟨b, rfl, ?_⟩
        cases b with
        | true =>
          rw [if_pos rfl] at kQ5
          refine L2.iteT ?_
          refine ⟨fun σ' H' => ∃ (xs : List V) (trs : List Tr) (S' : RS), σ' = [some (.ref r), some (.ref q), some (.int (d : Int)), some (.ref l)] ∧ RdS RC r dl tl ts S' H' ∧ H' l = some (.lst xs) ∧ TrsAt K H' xs trs ∧ trs.length + k ≤ 300000 ∧ Fr2 r dl H H' ∧
              Does C RC r dl tl ts (gBodyGo ts (g ts) d k trs S') (isTrs K) H Q E, fun σ'' H'' h => ⟨k, Nat.lt_succ_self k, h⟩, ?_⟩
          walk_at "rdr"
          refine ⟨tyL (SqL.of hl5), ?_⟩
          walk_at "rdr"
          refine meth_at hr5 (by rfl) ?_
          walk_at "rdr"
          refine ⟨r, dl, tl, ts, S5, d, rfl, hR5, ok, Does.callA kQ5 f15 ?_⟩
          rintro t6 S6 v6 H6 ht6 hR6 f6 kQ6
          walk_at "rdr"
          have hl6 := f6.lst nl1 nl2 hl5
          have hts6 := hts5.fr hR5 f6
          refine w_app3 hl6 (by omega) fun H7 h7 k7 z7 => ?_
          walk_at "rdr"
          exact ⟨xs ++ [v6], trs ++ [t6], S6, rfl, hR6.grow nl1 nl2 nl3 (fun t e => by rw [hl6] at e; cases e) k7, h7, TrsAt.but (TrsAt.snoc ht6 hts6) hl6 k7, by rw [List.length_append]; show trs.length + 1 + k ≤ 300000; omega, (f15.trans f6).grow hl0 k7 z7, kQ6⟩
        | false =>
          rw [if_neg Bool.false_ne_true] at kQ5
          refine L2.iteF ?_
          walk_at "rdr"
          refine w_tupOfR hl5 fun p H7 hp s7 h7 => ?_
          exact kQ5.ok (.t (sqT_of h7) (TrsAt.same hts5 s7)) (hR5.same s7) (f15.trans (Fr2.same s7))
end
end
section
open PySem PySem.Spec PyProof.Rows L2
open C8 (Cal cal0 pe_c pe_gc pss_cut tCut)

section
variable {P : Program} {w : World} {K : PySem.W.Frag} {mg : Str → Option Value} {base : Heap} {C fI RC : Addr} {k : Nat}
abbrev s_Reader_keep_statement : Stmt := inClass (topS 40) 19
abbrev N_Reader_keep_statement : List Str := ["self", "depth", "body", "last"]
theorem sc_Reader_keep_statement : FnScope N_Reader_keep_statement ["self", "depth"] (defScope s_Reader_keep_statement) := ⟨rfl, rfl, rfl, by decide +kernel, rfl, by decide +kernel, by decide +kernel⟩
theorem ok_keep {bo : List Tk → List (List Nat) → Nat → RS → Res RS (List Tr)} {f : Addr} {fd : FuncData} (F : Fun K "keep_statement" "Reader.keep_statement" s_Reader_keep_statement f fd) (Z : RdTx P w K mg C fI RC) (hk : 3 ≤ k)
    (m_expect : MetX P w K mg base 3 RC "expect" (spExpect C RC) []) (m_body : MetX P w K mg base k RC "body" (spBo K C RC bo) []) :
    FnOk P w K mg base (L2.CX P w) (k + 1) f fd ["self", "depth"] (spSt K C RC fun ts => gKeep ts (bo ts)) := by
  refine F.okX sc_Reader_keep_statement (fun vs H Q E h => ?_) (fun cdv A outer s H vs Q E hr h => ?_)
  · obtain ⟨r, dl, tl, ts, S, d, rfl, _⟩ := h
    rfl
  · obtain ⟨r, dl, tl, ts, S, d, rfl, hR, ok, kQ⟩ := h
    obtain ⟨dx, ps, n1, n2, n3, hr', htl, hT, hdl, hz⟩ := id hR
    have nd := sc_Reader_keep_statement.nd
    refine ⟨_, (pss_cons (ps_expr (pe_mx m_expect hr (by omega) px_of (pv 0) (pa_cons pe_str pa_nil)))
      (pss_cons (ps_set (i := 2) nd rfl (Or.inl rfl) (pe_mx m_body hr (by omega) px_of (pv 0) (pa_cons (pe_tup (pa_cons pe_str pa_nil)) (pa_cons (pe_op op_add (pv 1) pe_int) pa_nil))))
      (pss_cons (ps_expr (pe_mx m_expect hr (by omega) px_of (pv 0) (pa_cons pe_str pa_nil)))
      (pss_cons (ps_set (i := 3) nd rfl (Or.inl rfl) (pe_mx m_body hr (by omega) px_of (pv 0) (pa_cons (pe_tup (pa_cons pe_str pa_nil)) (pa_cons (pe_op op_add (pv 1) pe_int) pa_nil))))
      (pss_cons (ps_expr (pe_mx m_expect hr (by omega) px_of (pv 0) (pa_cons pe_str pa_nil)))
      (pss_one (ps_ret (pe_tup (pa_cons pe_str (pa_cons (pv 2) (pa_cons (pv 3) pa_nil))))))))))), ?_⟩
    rw [show L2.start N_Reader_keep_statement [.ref r, .int (d : Int)] = [some (.ref r), some (.int (d : Int)), none, none] from rfl]
    replace kQ : Does C RC r dl tl ts (gKeep ts (bo ts) d S) (isTr K) H Q E := kQ
    unfold gKeep at kQ
    walk_at "rdr"
    refine meth_at hr' (by rfl) ?_
    walk_at "rdr"
    refine ⟨r, dl, tl, ts, S, cds "keep", rfl, hR, ok, Does.callA kQ (Fr2.refl _ _ _) ?_⟩
    rintro _ S1 v1 H1 rfl hR1 f1 kQ1
    obtain ⟨dx, ps, _, _, _, hr1, _⟩ := id hR1
    walk_at "rdr"
    refine meth_at hr1 (by rfl) ?_
    walk_at "rdr"
    refine w_newT (by show 1 ≤ 1000000; decide) fun q H2 hq s2 h2 => ?_
    walk_at "rdr"
    have hR2 := hR1.same s2
    have f2 := f1.trans (Fr2.same s2)
    refine ⟨r, dl, tl, q, ts, S1, [cds "always"], d + 1, rfl, sqT_of h2, hR2, ok, Does.callA kQ1 f2 ?_⟩
    rintro l S3 v3 H3 hl hR3 f3 kQ3
    have f13 := f2.trans f3
    obtain ⟨dx, ps, _, _, _, hr3, _⟩ := id hR3
    walk_at "rdr"
    refine meth_at hr3 (by rfl) ?_
    walk_at "rdr"
    refine ⟨r, dl, tl, ts, S3, cds "always", rfl, hR3, ok, Does.callA kQ3 f13 ?_⟩
    rintro _ S4 v4 H4 rfl hR4 f4 kQ4
    have f14 := f13.trans f4
    have hl4 := TrAt.fr hl hR3 f4
    obtain ⟨dx, ps, _, _, _, hr4, _⟩ := id hR4
    walk_at "rdr"
    refine meth_at hr4 (by rfl) ?_
    walk_at "rdr"
    refine w_newT (by show 1 ≤ 1000000; decide) fun q5 H5 hq5 s5 h5 => ?_
    walk_at "rdr"
    have hR5 := hR4.same s5
    have hl5 := TrAt.same hl4 s5
    refine ⟨r, dl, tl, q5, ts, S4, [cds "end"], d + 1, rfl, sqT_of h5, hR5, ok, Does.callA kQ4 (f14.trans (Fr2.same s5)) ?_⟩
    rintro l2 S6 v6 H6 hl2 hR6 f6 kQ6
    have f16 := (f14.trans (Fr2.same s5)).trans f6
    have hl6 := TrAt.fr hl5 hR5 f6
    obtain ⟨dx, ps, _, _, _, hr6, _⟩ := id hR6
    walk_at "rdr"
    refine meth_at hr6 (by rfl) ?_
    walk_at "rdr"
    refine ⟨r, dl, tl, ts, S6, cds "end", rfl, hR6, ok, Does.callA kQ6 f16 ?_⟩
    rintro _ S7 v7 H7 rfl hR7 f7 kQ7
    walk_at "rdr"
    refine w_newT (by show 3 ≤ 1000000; decide) fun p H8 hp s8 h8 => ?_
    exact kQ7.ok (.t (sqT_of h8) (.cons .s (.cons (TrAt.same (TrAt.fr hl6 hR6 f7) s8) (.cons (TrAt.same (TrAt.fr hl2 hR6 f7) s8) .nil)))) (hR7.same s8) ((f16.trans f7).trans (Fr2.same s8))

abbrev s_Reader_try_statement : Stmt := inClass (topS 40) 18
abbrev N_Reader_try_statement : List Str := ["self", "depth", "body", "name", "handler"]
theorem sc_Reader_try_statement : FnScope N_Reader_try_statement ["self", "depth"] (defScope s_Reader_try_statement) := ⟨rfl, rfl, rfl, by decide +kernel, rfl, by decide +kernel, by decide +kernel⟩
theorem ok_try {bo : List Tk → List (List Nat) → Nat → RS → Res RS (List Tr)} {f : Addr} {fd : FuncData} (F : Fun K "try_statement" "Reader.try_statement" s_Reader_try_statement f fd) (Z : RdTx P w K mg C fI RC) (hk : 3 ≤ k)
    (m_take : MetX P w K mg base 2 RC "take" (spTake C RC) []) (m_expect : MetX P w K mg base 3 RC "expect" (spExpect C RC) []) (m_body : MetX P w K mg base k RC "body" (spBo K C RC bo) []) :
    FnOk P w K mg base (L2.CX P w) (k + 1) f fd ["self", "depth"] (spSt K C RC fun ts => gTry ts (bo ts)) := by
  refine F.okX sc_Reader_try_statement (fun vs H Q E h => ?_) (fun cdv A outer s H vs Q E hr h => ?_)
  · obtain ⟨r, dl, tl, ts, S, d, rfl, _⟩ := h
    rfl
  · obtain ⟨r, dl, tl, ts, S, d, rfl, hR, ok, kQ⟩ := h
    obtain ⟨dx, ps, n1, n2, n3, hr', htl, hT, hdl, hz⟩ := id hR
    have nd := sc_Reader_try_statement.nd
    refine ⟨_, (pss_cons (ps_expr (pe_mx m_expect hr (by omega) px_of (pv 0) (pa_cons pe_str pa_nil)))
      (pss_cons (ps_set (i := 2) nd rfl (Or.inl rfl) (pe_mx m_body hr (by omega) px_of (pv 0) (pa_cons (pe_tup (pa_cons pe_str pa_nil)) (pa_cons (pe_op op_add (pv 1) pe_int) pa_nil))))
      (pss_cons (ps_expr (pe_mx m_expect hr (by omega) px_of (pv 0) (pa_cons pe_str pa_nil)))
      (pss_cons (ps_set (i := 3) nd rfl (Or.inl rfl) (pe_mx m_take hr (by omega) px_of (pv 0) (pa_cons pe_str pa_nil)))
      (pss_cons (ps_expr (pe_mx m_expect hr (by omega) px_of (pv 0) (pa_cons pe_str pa_nil)))
      (pss_cons (ps_set (i := 4) nd rfl (Or.inl rfl) (pe_mx m_body hr (by omega) px_of (pv 0) (pa_cons (pe_tup (pa_cons pe_str pa_nil)) (pa_cons (pe_op op_add (pv 1) pe_int) pa_nil))))
      (pss_cons (ps_expr (pe_mx m_expect hr (by omega) px_of (pv 0) (pa_cons pe_str pa_nil)))
      (pss_one (ps_ret (pe_tup (pa_cons pe_str (pa_cons (pv 2) (pa_cons (pv 3) (pa_cons (pv 4) pa_nil)))))))))))))), ?_⟩
    rw [show L2.start N_Reader_try_statement [.ref r, .int (d : Int)] = [some (.ref r), some (.int (d : Int)), none, none, none] from rfl]
    replace kQ : Does C RC r dl tl ts (gTry ts (bo ts) d S) (isTr K) H Q E := kQ
    unfold gTry at kQ
    walk_at "rdr"
    refine meth_at hr' (by rfl) ?_
    walk_at "rdr"
    refine ⟨r, dl, tl, ts, S, cds "try", rfl, hR, ok, Does.callA kQ (Fr2.refl _ _ _) ?_⟩
    rintro _ S1 v1 H1 rfl hR1 f1 kQ1
    obtain ⟨dx, ps, _, _, _, hr1, _⟩ := id hR1
    walk_at "rdr"
    refine meth_at hr1 (by rfl) ?_
    walk_at "rdr"
    refine w_newT (by show 1 ≤ 1000000; decide) fun q H2 hq s2 h2 => ?_
    walk_at "rdr"
    have hR2 := hR1.same s2
    have f2 := f1.trans (Fr2.same s2)
    refine ⟨r, dl, tl, q, ts, S1, [cds "catch"], d + 1, rfl, sqT_of h2, hR2, ok, Does.callA kQ1 f2 ?_⟩
    rintro l S3 v3 H3 hl hR3 f3 kQ3
    have f13 := f2.trans f3
    obtain ⟨dx, ps, _, _, _, hr3, _⟩ := id hR3
    walk_at "rdr"
    refine meth_at hr3 (by rfl) ?_
    walk_at "rdr"
    refine ⟨r, dl, tl, ts, S3, cds "catch", rfl, hR3, ok, Does.callA kQ3 f13 ?_⟩
    rintro _ S4 v4 H4 rfl hR4 f4 kQ4
    have f14 := f13.trans f4
    have hl4 := TrAt.fr hl hR3 f4
    obtain ⟨dx, ps, _, _, _, hr4, _⟩ := id hR4
    unfold rName at kQ4
    rw [Res.bind_assoc] at kQ4
    walk_at "rdr"
    refine meth_at hr4 (by rfl) ?_
    walk_at "rdr"
    refine ⟨r, dl, tl, ts, S4, cds "name", rfl, hR4, ok, Does.callA kQ4 f14 ?_⟩
    rintro a Sa va Ha ⟨rfl, ha, _⟩ hRa fa kQa
    obtain ⟨ha1, _⟩ := ha (by decide +kernel)
    have f1a := f14.trans fa
    have hla := TrAt.fr hl4 hR4 fa
    obtain ⟨dx, ps, _, _, _, hra, _⟩ := id hRa
    walk_at "rdr"
    refine meth_at hra (by rfl) ?_
    walk_at "rdr"
    refine ⟨r, dl, tl, ts, Sa, cds "then", rfl, hRa, ok, Does.callA kQa f1a ?_⟩
    rintro _ Sb vb Hb rfl hRb fb kQb
    have f1b := f1a.trans fb
    have hlb := TrAt.fr hla hRa fb
    obtain ⟨dx, ps, _, _, _, hrb, _⟩ := id hRb
    walk_at "rdr"
    refine meth_at hrb (by rfl) ?_
    walk_at "rdr"
    refine w_newT (by show 1 ≤ 1000000; decide) fun q5 H5 hq5 s5 h5 => ?_
    walk_at "rdr"
    have hR5 := hRb.same s5
    have hl5 := TrAt.same hlb s5
    refine ⟨r, dl, tl, q5, ts, Sb, [cds "end"], d + 1, rfl, sqT_of h5, hR5, ok, Does.callA kQb (f1b.trans (Fr2.same s5)) ?_⟩
    rintro l2 S6 v6 H6 hl2 hR6 f6 kQ6
    have f16 := (f1b.trans (Fr2.same s5)).trans f6
    have hl6 := TrAt.fr hl5 hR5 f6
    obtain ⟨dx, ps, _, _, _, hr6, _⟩ := id hR6
    walk_at "rdr"
    refine meth_at hr6 (by rfl) ?_
    walk_at "rdr"
    refine ⟨r, dl, tl, ts, S6, cds "end", rfl, hR6, ok, Does.callA kQ6 f16 ?_⟩
    rintro _ S7 v7 H7 rfl hR7 f7 kQ7
    walk_at "rdr"
    refine w_newT (by show 4 ≤ 1000000; decide) fun p H8 hp s8 h8 => ?_
    refine kQ7.ok (.t (sqT_of h8) (.cons .s (.cons (TrAt.same (TrAt.fr hl6 hR6 f7) s8) (.cons ?_ (.cons (TrAt.same (TrAt.fr hl2 hR6 f7) s8) .nil))))) (hR7.same s8) ((f16.trans f7).trans (Fr2.same s8))
    rw [ha1, txtV_T]
    exact .s

abbrev s_Reader_if_statement : Stmt := inClass (topS 40) 17
abbrev N_Reader_if_statement : List Str := ["self", "depth", "test", "body", "other"]
theorem sc_Reader_if_statement : FnScope N_Reader_if_statement ["self", "depth"] (defScope s_Reader_if_statement) := ⟨rfl, rfl, rfl, by decide +kernel, rfl, by decide +kernel, by decide +kernel⟩
theorem ok_if {ex : List Tk → Nat → Nat → RS → Res RS Tr} {bo : List Tk → List (List Nat) → Nat → RS → Res RS (List Tr)} {f : Addr} {fd : FuncData} (F : Fun K "if_statement" "Reader.if_statement" s_Reader_if_statement f fd) (Z : RdTx P w K mg C fI RC) (hk : 3 ≤ k)
    (m_accept : MetX P w K mg base 2 RC "accept" (spAccept C RC) []) (m_expect : MetX P w K mg base 3 RC "expect" (spExpect C RC) []) (m_expression : MetX P w K mg base k RC "expression" (spEx K C RC ex) []) (m_body : MetX P w K mg base k RC "body" (spBo K C RC bo) []) :
    FnOk P w K mg base (L2.CX P w) (k + 1) f fd ["self", "depth"] (spSt K C RC fun ts => gIf ts (ex ts) (bo ts)) := by
  refine F.okX sc_Reader_if_statement (fun vs H Q E h => ?_) (fun cdv A outer s H vs Q E hr h => ?_)
  · obtain ⟨r, dl, tl, ts, S, d, rfl, _⟩ := h
    rfl
  · obtain ⟨r, dl, tl, ts, S, d, rfl, hR, ok, kQ⟩ := h
    obtain ⟨dx, ps, n1, n2, n3, hr', htl, hT, hdl, hz⟩ := id hR
    have nd := sc_Reader_if_statement.nd
    refine ⟨_, (pss_cons (ps_expr (pe_mx m_expect hr (by omega) px_of (pv 0) (pa_cons pe_str pa_nil)))
      (pss_cons (ps_set (i := 2) nd rfl (Or.inl rfl) (pe_mx m_expression hr (by omega) px_of (pv 0) (pa_cons (pe_gc rfl Z.c_LOOSEST) (pa_cons (pe_op op_add (pv 1) pe_int) pa_nil))))
      (pss_cons (ps_expr (pe_mx m_expect hr (by omega) px_of (pv 0) (pa_cons pe_str pa_nil)))
      (pss_cons (ps_set (i := 3) nd rfl (Or.inl rfl) (pe_mx m_body hr (by omega) px_of (pv 0) (pa_cons (pe_tup (pa_cons pe_str (pa_cons pe_str pa_nil))) (pa_cons (pe_op op_add (pv 1) pe_int) pa_nil))))
      (pss_cons (ps_set (i := 4) nd rfl (Or.inl rfl) (pe_tup pa_nil))
      (pss_cut (ps_if (pt_val (pe_mx m_accept hr (by omega) px_of (pv 0) (pa_cons pe_str pa_nil))) (pss_one (ps_set (i := 4) nd rfl (Or.inl rfl) (pe_mx m_body hr (by omega) px_of (pv 0) (pa_cons (pe_tup (pa_cons pe_str pa_nil)) (pa_cons (pe_op op_add (pv 1) pe_int) pa_nil))))) pss_nil)
      (pss_cons (ps_expr (pe_mx m_expect hr (by omega) px_of (pv 0) (pa_cons pe_str pa_nil)))
      (pss_one (ps_ret (pe_tup (pa_cons pe_str (pa_cons (pv 2) (pa_cons (pv 3) (pa_cons (pv 4) pa_nil)))))))))))))), ?_⟩
    rw [show L2.start N_Reader_if_statement [.ref r, .int (d : Int)] = [some (.ref r), some (.int (d : Int)), none, none, none] from rfl]
    replace kQ : Does C RC r dl tl ts (gIf ts (ex ts) (bo ts) d S) (isTr K) H Q E := kQ
    unfold gIf at kQ
    walk_at "rdr"
    refine meth_at hr' (by rfl) ?_
    walk_at "rdr"
    refine ⟨r, dl, tl, ts, S, cds "if", rfl, hR, ok, Does.callA kQ (Fr2.refl _ _ _) ?_⟩
    rintro _ S1 v1 H1 rfl hR1 f1 kQ1
    obtain ⟨dx, ps, _, _, _, hr1, _⟩ := id hR1
    walk_at "rdr"
    refine meth_at hr1 (by rfl) ?_
    walk_at "rdr"
    refine ⟨r, dl, tl, ts, S1, 1, d + 1, rfl, hR1, ok, Does.callA kQ1 f1 ?_⟩
    rintro t S2 v2 H2 ht hR2 f2 kQ2
    have f12 := f1.trans f2
    obtain ⟨dx, ps, _, _, _, hr2, _⟩ := id hR2
    walk_at "rdr"
    refine meth_at hr2 (by rfl) ?_
    walk_at "rdr"
    refine ⟨r, dl, tl, ts, S2, cds "then", rfl, hR2, ok, Does.callA kQ2 f12 ?_⟩
    rintro _ S3 v3 H3 rfl hR3 f3 kQ3
    have f13 := f12.trans f3
    have ht3 := TrAt.fr ht hR2 f3
    obtain ⟨dx, ps, _, _, _, hr3, _⟩ := id hR3
    walk_at "rdr"
    refine meth_at hr3 (by rfl) ?_
    walk_at "rdr"
    refine w_newT (by show 2 ≤ 1000000; decide) fun q H4 hq s4 h4 => ?_
    walk_at "rdr"
    have hR4 := hR3.same s4
    have ht4 := TrAt.same ht3 s4
    refine ⟨r, dl, tl, q, ts, S3, [cds "else", cds "end"], d + 1, rfl, sqT_of h4, hR4, ok, Does.callA kQ3 (f13.trans (Fr2.same s4)) ?_⟩
    rintro l S5 v5 H5 hl hR5 f5 kQ5
    have f15 := (f13.trans (Fr2.same s4)).trans f5
    have ht5 := TrAt.fr ht4 hR4 f5
    walk_at "rdr"
    refine w_newT (by show 0 ≤ 1000000; decide) fun q0 H6 hq0 s6 h6 => ?_
    walk_at "rdr"
    have hR6 := hR5.same s6
    have f16 := f15.trans (Fr2.same s6)
    have ht6 := TrAt.same ht5 s6
    have hl6 := TrAt.same hl s6
    obtain ⟨dx, ps, _, _, _, hr6, _⟩ := id hR6
    refine ⟨fun σ' H' => ∃ (l2 : List Tr) (x2 : V) (S' : RS), σ' = [some (.ref r), some (.int (d : Int)), some v2, some v5, some x2] ∧ TrAt K H' v2 t ∧ TrAt K H' v5 (.t l) ∧ TrAt K H' x2 (.t l2) ∧ RdS RC r dl tl ts S' H' ∧ Fr2 r dl H H' ∧
      Does C RC r dl tl ts ((rExpect ts (cds "end") S').bind fun _ S => .ok (.t [str "if", t, .t l, .t l2]) S) (isTr K) H Q E, ?_, ?_⟩
    · walk_at "rdr"
      refine meth_at hr6 (by rfl) ?_
      walk_at "rdr"
      refine ⟨r, dl, tl, ts, S5, cds "else", rfl, hR6, ok, Does.callA kQ5 f16 ?_⟩
      rintro b S7 v7 H7 rfl hR7 f7 kQ7
      have f17 := f16.trans f7
      obtain ⟨dx, ps, _, _, _, hr7, _⟩ := id hR7
      refine ⟨b, rfl, ?_⟩
      cases b with
      | true =>
        rw [if_pos rfl] at kQ7
        refine L2.iteT ?_
        walk_at "rdr"
        refine meth_at hr7 (by rfl) ?_
        walk_at "rdr"
        refine w_newT (by show 1 ≤ 1000000; decide) fun q8 H8 hq8 s8 h8 => ?_
        walk_at "rdr"
        have hR8 := hR7.same s8
        refine ⟨r, dl, tl, q8, ts, S7, [cds "end"], d + 1, rfl, sqT_of h8, hR8, ok, Does.callA kQ7 (f17.trans (Fr2.same s8)) ?_⟩
        rintro l2 S9 v9 H9 hl2 hR9 f9 kQ9
        walk_at "rdr"
        exact ⟨l2, v9, S9, rfl, TrAt.fr (TrAt.same (TrAt.fr ht6 hR6 f7) s8) hR8 f9, TrAt.fr (TrAt.same (TrAt.fr hl6 hR6 f7) s8) hR8 f9, hl2, hR9, (f17.trans (Fr2.same s8)).trans f9, kQ9⟩
      | false =>
        rw [if_neg Bool.false_ne_true] at kQ7
        refine L2.iteF ?_
        exact ⟨[], .ref q0, S7, rfl, TrAt.fr ht6 hR6 f7, TrAt.fr hl6 hR6 f7, TrAt.fr (.t (sqT_of h6) .nil) hR6 f7, hR7, f17, kQ7⟩
    · rintro σ' H7 ⟨l2, x2, S7, rfl, ht7, hl7, hx7, hR7, f17, kQ7⟩
      obtain ⟨dx, ps, _, _, _, hr7, _⟩ := id hR7
      walk_at "rdr"
      refine meth_at hr7 (by rfl) ?_
      walk_at "rdr"
      refine ⟨r, dl, tl, ts, S7, cds "end", rfl, hR7, ok, Does.callA kQ7 f17 ?_⟩
      rintro _ S8 v8 H8 rfl hR8 f8 kQ8
      walk_at "rdr"
      refine w_newT (by show 4 ≤ 1000000; decide) fun p H9 hp s9 h9 => ?_
      exact kQ8.ok (.t (sqT_of h9) (.cons .s (.cons (TrAt.same (TrAt.fr ht7 hR7 f8) s9) (.cons (TrAt.same (TrAt.fr hl7 hR7 f8) s9) (.cons (TrAt.same (TrAt.fr hx7 hR7 f8) s9) .nil))))) (hR8.same s9) ((f17.trans f8).trans (Fr2.same s9))
end
end
section
open PySem PySem.Spec PyProof.Rows L2
open C8 (Cal cal0 pe_c pe_gc pss_cut tCut)

section
variable {P : Program} {w : World} {K : PySem.W.Frag} {mg : Str → Option Value} {base : Heap} {C fI RC : Addr} {k : Nat}
abbrev s_Reader_statement : Stmt := inClass (topS 40) 14
abbrev N_Reader_statement : List Str := ["self", "depth", "word"]
theorem sc_Reader_statement : FnScope N_Reader_statement ["self", "depth"] (defScope s_Reader_statement) := ⟨rfl, rfl, rfl, by decide +kernel, rfl, by decide +kernel, by decide +kernel⟩
theorem ok_statement {ex : List Tk → Nat → Nat → RS → Res RS Tr} {bo : List Tk → List (List Nat) → Nat → RS → Res RS (List Tr)} {f : Addr} {fd : FuncData} (F : Fun K "statement" "Reader.statement" s_Reader_statement f fd) (Z : RdTx P w K mg C fI RC) (hk : 3 ≤ k)
    (m_begin : MetX P w K mg base 2 RC "begin" (spBegin C RC) []) (m_fixed : MetX P w K mg base 1 RC "fixed" (spFixed C RC) [.int 0]) (m_expect : MetX P w K mg base 3 RC "expect" (spExpect C RC) []) (m_name_stands_before : MetX P w K mg base 2 RC "name_stands_before" (spBefore K C RC) [])
    (m_expression : MetX P w K mg base k RC "expression" (spEx K C RC ex) [])
    (m_while_statement : MetX P w K mg base k RC "while_statement" (spSt K C RC fun ts => gWhile ts (ex ts) (bo ts)) []) (m_if_statement : MetX P w K mg base k RC "if_statement" (spSt K C RC fun ts => gIf ts (ex ts) (bo ts)) [])
    (m_try_statement : MetX P w K mg base k RC "try_statement" (spSt K C RC fun ts => gTry ts (bo ts)) []) (m_keep_statement : MetX P w K mg base k RC "keep_statement" (spSt K C RC fun ts => gKeep ts (bo ts)) [])
    (m_set_statement : MetX P w K mg base k RC "set_statement" (spSt K C RC fun ts => gSet ts (ex ts)) []) :
    FnOk P w K mg base (L2.CX P w) (k + 1) f fd ["self", "depth"] (spSt K C RC fun ts => gSt ts (ex ts) (bo ts)) := by
  refine F.okX sc_Reader_statement (fun vs H Q E h => ?_) (fun cdv A outer s H vs Q E hr h => ?_)
  · obtain ⟨r, dl, tl, ts, S, d, rfl, _⟩ := h
    rfl
  · obtain ⟨r, dl, tl, ts, S, d, rfl, hR, ok, kQ⟩ := h
    obtain ⟨dx, ps, n1, n2, n3, hr', htl, hT, hdl, hz⟩ := id hR
    have nd := sc_Reader_statement.nd
    refine ⟨_, (pss_cons (ps_expr (pe_mx m_begin hr (by omega) px_of (pv 0) (pa_cons (pv 1) pa_nil)))
      (pss_cons (ps_set (i := 2) nd rfl (Or.inl rfl) (pe_mx0 m_fixed hr (by omega) px_of (pv 0)))
      (pss_cons (ps_if (PW.pt (pw_or (pt_cmpR op_eq (pv 2) pe_str (nomark _)) (pw_or1 (pt_cmpR op_eq (pv 2) pe_str (nomark _))))) (pss_cons (ps_expr (pe_mx m_expect hr (by omega) px_of (pv 0) (pa_cons (pv 2) pa_nil)))
      (pss_one (ps_ret (pe_tup (pa_cons (pv 2) (pa_cons (pe_mx m_expression hr (by omega) px_of (pv 0) (pa_cons (pe_gc rfl Z.c_LOOSEST) (pa_cons (pe_op op_add (pv 1) pe_int) pa_nil))) pa_nil)))))) pss_nil)
      (pss_cons (ps_if (pt_cmpR op_eq (pv 2) pe_str (nomark _)) (pss_one (ps_ret (pe_mx m_while_statement hr (by omega) px_of (pv 0) (pa_cons (pv 1) pa_nil)))) pss_nil)
      (pss_cons (ps_if (pt_cmpR op_eq (pv 2) pe_str (nomark _)) (pss_one (ps_ret (pe_mx m_if_statement hr (by omega) px_of (pv 0) (pa_cons (pv 1) pa_nil)))) pss_nil)
      (pss_cons (ps_if (pt_cmpR op_eq (pv 2) pe_str (nomark _)) (pss_one (ps_ret (pe_mx m_try_statement hr (by omega) px_of (pv 0) (pa_cons (pv 1) pa_nil)))) pss_nil)
      (pss_cons (ps_if (pt_cmpR op_eq (pv 2) pe_str (nomark _)) (pss_one (ps_ret (pe_mx m_keep_statement hr (by omega) px_of (pv 0) (pa_cons (pv 1) pa_nil)))) pss_nil)
      (pss_cons (ps_if (pt_val (pe_mx m_name_stands_before hr (by omega) px_of (pv 0) (pa_cons (pe_tup (pa_cons pe_str pa_nil)) pa_nil))) (pss_one (ps_ret (pe_mx m_set_statement hr (by omega) px_of (pv 0) (pa_cons (pv 1) pa_nil)))) pss_nil)
      (pss_one (ps_ret (pe_tup (pa_cons pe_str (pa_cons (pe_mx m_expression hr (by omega) px_of (pv 0) (pa_cons (pe_gc rfl Z.c_LOOSEST) (pa_cons (pe_op op_add (pv 1) pe_int) pa_nil))) pa_nil))))))))))))), ?_⟩
    rw [show L2.start N_Reader_statement [.ref r, .int (d : Int)] = [some (.ref r), some (.int (d : Int)), none] from rfl]
    replace kQ : Does C RC r dl tl ts (gSt ts (ex ts) (bo ts) d S) (isTr K) H Q E := kQ
    unfold gSt at kQ
    walk_at "rdr"
    refine meth_at hr' (by rfl) ?_
    walk_at "rdr"
    refine ⟨r, dl, tl, ts, S, d, rfl, hR, ok, Does.callA kQ (Fr2.refl _ _ _) ?_⟩
    rintro _ S1 v1 H1 rfl hR1 f1 kQ1
    obtain ⟨dx, ps, _, _, _, hr1, _⟩ := id hR1
    walk_at "rdr"
    refine meth_at hr1 (by rfl) ?_
    walk_at "rdr"
    refine ⟨r, dl, tl, ts, S1, 0, rfl, hR1, ok, Does.callA kQ1 f1 ?_⟩
    rintro wd S2 v2 H2 rfl hR2 f2 kQ2
    have f12 := f1.trans f2
    obtain ⟨dx, ps, _, _, _, hr2, _⟩ := id hR2
    walk_at "rdr"
    refine w_ifT (fun h => ?_) (fun h1 => ?_)
    · rw [if_pos (.inl h)] at kQ2
      walk_at "rdr"
      refine meth_at hr2 (by rfl) ?_
      walk_at "rdr"
      refine ⟨r, dl, tl, ts, S2, wd, rfl, hR2, ok, Does.callA kQ2 f12 ?_⟩
      rintro _ S3 v3 H3 rfl hR3 f3 kQ3
      obtain ⟨dx, ps, _, _, _, hr3, _⟩ := id hR3
      walk_at "rdr"
      refine meth_at hr3 (by rfl) ?_
      walk_at "rdr"
      refine ⟨r, dl, tl, ts, S3, 1, d + 1, rfl, hR3, ok, Does.callA kQ3 (f12.trans f3) ?_⟩
      rintro t S4 v4 H4 ht hR4 f4 kQ4
      walk_at "rdr"
      refine w_newT (by show 2 ≤ 1000000; decide) fun p H9 hp s9 h9 => ?_
      exact kQ4.ok (.t (sqT_of h9) (.cons .s (.cons (TrAt.same ht s9) .nil))) (hR4.same s9) (((f12.trans f3).trans f4).trans (Fr2.same s9))
    · walk_at "rdr"
      refine w_ifT (fun h => ?_) (fun h2 => ?_)
      · rw [if_pos (.inr h)] at kQ2
        walk_at "rdr"
        refine meth_at hr2 (by rfl) ?_
        walk_at "rdr"
        refine ⟨r, dl, tl, ts, S2, wd, rfl, hR2, ok, Does.callA kQ2 f12 ?_⟩
        rintro _ S3 v3 H3 rfl hR3 f3 kQ3
        obtain ⟨dx, ps, _, _, _, hr3, _⟩ := id hR3
        walk_at "rdr"
        refine meth_at hr3 (by rfl) ?_
        walk_at "rdr"
        refine ⟨r, dl, tl, ts, S3, 1, d + 1, rfl, hR3, ok, Does.callA kQ3 (f12.trans f3) ?_⟩
        rintro t S4 v4 H4 ht hR4 f4 kQ4
        walk_at "rdr"
        refine w_newT (by show 2 ≤ 1000000; decide) fun p H9 hp s9 h9 => ?_
        exact kQ4.ok (.t (sqT_of h9) (.cons .s (.cons (TrAt.same ht s9) .nil))) (hR4.same s9) (((f12.trans f3).trans f4).trans (Fr2.same s9))
      · have h1' : ¬ wd = cds "give" := h1
        have h2' : ¬ wd = cds "fail" := h2
        rw [if_neg (fun z => z.elim h1' h2')] at kQ2
        walk_at "rdr"
        refine w_ifT (fun h => ?_) (fun h3 => ?_)
        · rw [if_pos (show wd = cds "while" from h)] at kQ2
          walk_at "rdr"
          refine meth_at hr2 (by rfl) ?_
          walk_at "rdr"
          exact ⟨r, dl, tl, ts, S2, d, rfl, hR2, ok, Does.to kQ2 f12⟩
        · rw [if_neg (show ¬ wd = cds "while" from h3)] at kQ2
          walk_at "rdr"
          refine w_ifT (fun h => ?_) (fun h4 => ?_)
          · rw [if_pos (show wd = cds "if" from h)] at kQ2
            walk_at "rdr"
            refine meth_at hr2 (by rfl) ?_
            walk_at "rdr"
            exact ⟨r, dl, tl, ts, S2, d, rfl, hR2, ok, Does.to kQ2 f12⟩
          · rw [if_neg (show ¬ wd = cds "if" from h4)] at kQ2
            walk_at "rdr"
            refine w_ifT (fun h => ?_) (fun h5 => ?_)
            · rw [if_pos (show wd = cds "try" from h)] at kQ2
              walk_at "rdr"
              refine meth_at hr2 (by rfl) ?_
              walk_at "rdr"
              exact ⟨r, dl, tl, ts, S2, d, rfl, hR2, ok, Does.to kQ2 f12⟩
            · rw [if_neg (show ¬ wd = cds "try" from h5)] at kQ2
              walk_at "rdr"
              refine w_ifT (fun h => ?_) (fun h6 => ?_)
              · rw [if_pos (show wd = cds "keep" from h)] at kQ2
                walk_at "rdr"
                refine meth_at hr2 (by rfl) ?_
                walk_at "rdr"
                exact ⟨r, dl, tl, ts, S2, d, rfl, hR2, ok, Does.to kQ2 f12⟩
              · rw [if_neg (show ¬ wd = cds "keep" from h6)] at kQ2
                walk_at "rdr"
                refine meth_at hr2 (by rfl) ?_
                walk_at "rdr"
                refine w_newT (by show 1 ≤ 1000000; decide) fun q H3 hq s3 h3 => ?_
                walk_at "rdr"
                have hR3 := hR2.same s3
                have f13 := f12.trans (Fr2.same s3)
                refine ⟨r, dl, tl, q, ts, S2, [cds ":="], rfl, sqT_of h3, hR3, ok, Does.callA kQ2 f13 ?_⟩
                rintro b S4 v4 H4 rfl hR4 f4 kQ4
                have f14 := f13.trans f4
                obtain ⟨dx, ps, _, _, _, hr4, _⟩ := id hR4
                refine ⟨b, rfl, ?_⟩
                cases b with
                | true =>
                  rw [if_pos rfl] at kQ4
                  refine L2.iteT ?_
                  walk_at "rdr"
                  refine meth_at hr4 (by rfl) ?_
                  walk_at "rdr"
                  exact ⟨r, dl, tl, ts, S4, d, rfl, hR4, ok, Does.to kQ4 f14⟩
                | false =>
                  rw [if_neg Bool.false_ne_true] at kQ4
                  refine L2.iteF ?_
                  walk_at "rdr"
                  refine meth_at hr4 (by rfl) ?_
                  walk_at "rdr"
                  refine ⟨r, dl, tl, ts, S4, 1, d + 1, rfl, hR4, ok, Does.callA kQ4 f14 ?_⟩
                  rintro t S5 v5 H5 ht hR5 f5 kQ5
                  walk_at "rdr"
                  refine w_newT (by show 2 ≤ 1000000; decide) fun p H9 hp s9 h9 => ?_
                  exact kQ5.ok (.t (sqT_of h9) (.cons .s (.cons (TrAt.same ht s9) .nil))) (hR5.same s9) ((f14.trans f5).trans (Fr2.same s9))

structure RdM (K : PySem.W.Frag) (RC : Addr) (m q : Str) (st : Stmt) (ps : List Str) : Prop where
  ex : ∃ (f : Addr) (fd : FuncData), Meth K RC m f ∧ Fun K m q st f fd ∧ Binds K fd ps []
theorem RdM.met {m q : Str} {st : Stmt} {ps : List Str} {sp : Sp} (M : RdM K RC m q st ps) (c : Cls K RC) (h : ∀ (f : Addr) (fd : FuncData), Fun K m q st f fd → FnOk P w K mg base (L2.CX P w) k f fd ps sp) : MetX P w K mg base k RC m sp [] := by
  obtain ⟨f, fd, hm, F, b⟩ := M.ex
  exact ⟨f, fd, ps, [], c, hm, h f fd F, b, .nil⟩
theorem MetX.mono {m : Str} {sp : Sp} {dvs : List V} {j : Nat} (M : MetX P w K mg base k RC m sp dvs) (h : k ≤ j) : MetX P w K mg base j RC m sp dvs := by
  obtain ⟨f, fd, ps, ds, c, hm, F, b, d⟩ := M.ex
  exact ⟨f, fd, ps, ds, c, hm, F.mono h, b, d⟩
end
end
section
open PySem PySem.Spec PyProof.Rows L2
open C8 (Cal cal0 pe_c pe_gc pss_cut tCut)
section
variable {P : Program} {w : World} {K : PySem.W.Frag} {mg : Str → Option Value} {base : Heap} {C fI RC : Addr} {k : Nat}
structure RdAll (P : Program) (w : World) (K : PySem.W.Frag) (mg : Str → Option Value) (base : Heap) (C fI RC : Addr) : Prop where
  Z : RdTx P w K mg C fI RC
  dP : DictK K w mg "PLAIN" plainL
  dA : DictK K w mg "LEVELS_AHEAD" (numsV aheadN)
  dT : DictK K w mg "TREES_AHEAD" (txtsV treesN)
  dB : DictK K w mg "LEVELS_BEHIND" (numsV behN)
  c_can_go_on : Cal P w K mg base 1 "_can_go_on" spGo []
  m_fixed0 : MetX P w K mg base 1 RC "fixed" (spFixed C RC) [.int 0]
  m_fixed : MetX P w K mg base 1 RC "fixed" (spFixed C RC) []
  m_refuse : RdM K RC "refuse" "Reader.refuse" s_Reader_refuse ["self"]
  m_accept : RdM K RC "accept" "Reader.accept" s_Reader_accept ["self", "wanted"]
  m_expect : RdM K RC "expect" "Reader.expect" s_Reader_expect ["self", "wanted"]
  m_take : RdM K RC "take" "Reader.take" s_Reader_take ["self", "wanted"]
  m_before : RdM K RC "name_stands_before" "Reader.name_stands_before" s_Reader_name_stands_before ["self", "marks"]
  m_names : RdM K RC "names" "Reader.names" s_Reader_names ["self", "most"]
  m_note : RdM K RC "note_twice" "Reader.note_twice" s_Reader_note_twice ["self", "names"]
  m_begin : RdM K RC "begin" "Reader.begin" s_Reader_begin ["self", "depth"]
  m_deepen : RdM K RC "deepen" "Reader.deepen" s_Reader_deepen ["self", "first"]
  m_arguments : RdM K RC "arguments" "Reader.arguments" s_Reader_arguments ["self", "depth"]
  m_super_send : RdM K RC "super_send" "Reader.super_send" s_Reader_super_send ["self", "depth"]
  m_block : RdM K RC "block" "Reader.block" s_Reader_block ["self", "depth"]
  m_primary : RdM K RC "primary" "Reader.primary" s_Reader_primary ["self", "depth"]
  m_opening : RdM K RC "opening" "Reader.opening" s_Reader_opening ["self", "place", "depth"]
  m_expression : RdM K RC "expression" "Reader.expression" s_Reader_expression ["self", "place", "depth"]
  m_set : RdM K RC "set_statement" "Reader.set_statement" s_Reader_set_statement ["self", "depth"]
  m_while : RdM K RC "while_statement" "Reader.while_statement" s_Reader_while_statement ["self", "depth"]
  m_if : RdM K RC "if_statement" "Reader.if_statement" s_Reader_if_statement ["self", "depth"]
  m_try : RdM K RC "try_statement" "Reader.try_statement" s_Reader_try_statement ["self", "depth"]
  m_keep : RdM K RC "keep_statement" "Reader.keep_statement" s_Reader_keep_statement ["self", "depth"]
  m_statement : RdM K RC "statement" "Reader.statement" s_Reader_statement ["self", "depth"]
  m_body : RdM K RC "body" "Reader.body" s_Reader_body ["self", "ends", "depth"]
structure RdLow (P : Program) (w : World) (K : PySem.W.Frag) (mg : Str → Option Value) (base : Heap) (C RC : Addr) : Prop where
  refuse : MetX P w K mg base 1 RC "refuse" (spRefuse C RC) []
  accept : MetX P w K mg base 2 RC "accept" (spAccept C RC) []
  expect : MetX P w K mg base 3 RC "expect" (spExpect C RC) []
  take : MetX P w K mg base 2 RC "take" (spTake C RC) []
  before : MetX P w K mg base 2 RC "name_stands_before" (spBefore K C RC) []
  names : MetX P w K mg base 3 RC "names" (spNames K C RC) []
  note : MetX P w K mg base 1 RC "note_twice" (spNote K C RC) []
  begin_ : MetX P w K mg base 2 RC "begin" (spBegin C RC) []
  deepen : MetX P w K mg base 2 RC "deepen" (spDeepen C RC) []
theorem RdAll.low (A : RdAll P w K mg base C fI RC) : RdLow P w K mg base C RC := by
  have refuse : MetX P w K mg base 1 RC "refuse" (spRefuse C RC) [] := A.m_refuse.met A.Z.cl fun f fd F => ok_refuse F A.Z
  have accept : MetX P w K mg base 2 RC "accept" (spAccept C RC) [] := A.m_accept.met A.Z.cl fun f fd F => ok_accept F A.Z A.m_fixed0
  have take : MetX P w K mg base 2 RC "take" (spTake C RC) [] := A.m_take.met A.Z.cl fun f fd F => ok_take F A.Z refuse
  exact ⟨refuse, accept, A.m_expect.met A.Z.cl fun f fd F => ok_expect F A.Z accept refuse, take, A.m_before.met A.Z.cl fun f fd F => ok_before F A.Z A.m_fixed,
    A.m_names.met A.Z.cl fun f fd F => ok_names F A.Z refuse take accept, A.m_note.met A.Z.cl fun f fd F => ok_note F A.Z, A.m_begin.met A.Z.cl fun f fd F => ok_begin F A.Z refuse, A.m_deepen.met A.Z.cl fun f fd F => ok_deepen F A.Z refuse⟩
theorem ok_stuckE {f : Addr} {fd : FuncData} (F : Fun K "expression" "Reader.expression" s_Reader_expression f fd) : FnOk P w K mg base (L2.CX P w) (k + 1) f fd ["self", "place", "depth"] (spEx K C RC fun ts => (exN ts 0).1) :=
  F.okX sc_Reader_expression (fun vs H Q E ⟨r, dl, tl, ts, S, p, d, e, _⟩ => by rw [e]; rfl) fun cdv A outer s H vs Q E hr ⟨r, dl, tl, ts, S, p, d, e, _, _, h⟩ => False.elim h
theorem ok_stuckB {f : Addr} {fd : FuncData} (F : Fun K "body" "Reader.body" s_Reader_body f fd) : FnOk P w K mg base (L2.CX P w) (k + 1) f fd ["self", "ends", "depth"] (spBo K C RC fun ts => (exN ts 0).2) :=
  F.okX sc_Reader_body (fun vs H Q E ⟨r, dl, tl, q, ts, S, ms, d, e, _⟩ => by rw [e]; rfl) fun cdv A outer s H vs Q E hr ⟨r, dl, tl, q, ts, S, ms, d, e, _, _, _, h⟩ => False.elim h
theorem RdAll.deep (A : RdAll P w K mg base C fI RC) : ∀ n, MetX P w K mg base (10 * n + 5) RC "expression" (spEx K C RC fun ts => (exN ts n).1) [] ∧ MetX P w K mg base (10 * n + 5) RC "body" (spBo K C RC fun ts => (exN ts n).2) []
  | 0 => ⟨A.m_expression.met A.Z.cl fun f fd F => ok_stuckE (k := 4) F, A.m_body.met A.Z.cl fun f fd F => ok_stuckB (k := 4) F⟩
  | n + 1 => by
    obtain ⟨e, b⟩ := A.deep n
    have L := A.low
    generalize hk : 10 * n + 5 = k at e b
    have h3 : 3 ≤ k := by omega
    have args : MetX P w K mg base (k + 1) RC "arguments" (spArgs K C RC fun ts => (exN ts n).1) [] := A.m_arguments.met A.Z.cl fun f fd F => ok_arguments F A.Z h3 L.refuse L.accept L.expect e
    have sup : MetX P w K mg base (k + 2) RC "super_send" (spSuper K C RC fun ts => (exN ts n).1) [] := A.m_super_send.met A.Z.cl fun f fd F => ok_super_send F A.Z (by omega) L.take L.expect args
    have blk : MetX P w K mg base (k + 1) RC "block" (spBlock K C RC fun ts => (exN ts n).2) [] := A.m_block.met A.Z.cl fun f fd F => ok_block F A.Z h3 L.expect L.before L.names L.note b
    have prim : MetX P w K mg base (k + 3) RC "primary" (spPrimary K C RC (fun ts => (exN ts n).1) fun ts => (exN ts n).2) [] := A.m_primary.met A.Z.cl fun f fd F => ok_primary F A.Z (by omega) A.dP A.m_fixed0 L.refuse L.take L.accept L.expect (blk.mono (by omega)) sup (e.mono (by omega))
    have opn : MetX P w K mg base (k + 4) RC "opening" (spOpening K C RC (fun ts => (exN ts n).1) fun ts => (exN ts n).2) [] := A.m_opening.met A.Z.cl fun f fd F => ok_opening F A.Z (by omega) A.dA A.dT A.m_fixed0 L.expect prim (e.mono (by omega))
    have exp : MetX P w K mg base (k + 5) RC "expression" (spEx K C RC fun ts => (exN ts (n + 1)).1) [] := A.m_expression.met A.Z.cl fun f fd F => ok_expression F A.Z (by omega) A.dB A.c_can_go_on L.begin_ L.deepen A.m_fixed0 L.expect L.take opn (args.mono (by omega)) (e.mono (by omega))
    have whl : MetX P w K mg base (k + 1) RC "while_statement" (spSt K C RC fun ts => gWhile ts (exN ts n).1 (exN ts n).2) [] := A.m_while.met A.Z.cl fun f fd F => ok_while (ex := fun ts => (exN ts n).1) (bo := fun ts => (exN ts n).2) F A.Z h3 L.expect e b
    have iff : MetX P w K mg base (k + 1) RC "if_statement" (spSt K C RC fun ts => gIf ts (exN ts n).1 (exN ts n).2) [] := A.m_if.met A.Z.cl fun f fd F => ok_if (ex := fun ts => (exN ts n).1) (bo := fun ts => (exN ts n).2) F A.Z h3 L.accept L.expect e b
    have try_ : MetX P w K mg base (k + 1) RC "try_statement" (spSt K C RC fun ts => gTry ts (exN ts n).2) [] := A.m_try.met A.Z.cl fun f fd F => ok_try (bo := fun ts => (exN ts n).2) F A.Z h3 L.take L.expect b
    have kep : MetX P w K mg base (k + 1) RC "keep_statement" (spSt K C RC fun ts => gKeep ts (exN ts n).2) [] := A.m_keep.met A.Z.cl fun f fd F => ok_keep (bo := fun ts => (exN ts n).2) F A.Z h3 L.expect b
    have set_ : MetX P w K mg base (k + 1) RC "set_statement" (spSt K C RC fun ts => gSet ts (exN ts n).1) [] := A.m_set.met A.Z.cl fun f fd F => ok_set (ex := fun ts => (exN ts n).1) F A.Z h3 L.take L.expect e
    have sta : MetX P w K mg base (k + 2) RC "statement" (spSt K C RC fun ts => gSt ts (exN ts n).1 (exN ts n).2) [] := A.m_statement.met A.Z.cl fun f fd F => ok_statement (ex := fun ts => (exN ts n).1) (bo := fun ts => (exN ts n).2) F A.Z (by omega) L.begin_ A.m_fixed0 L.expect L.before (e.mono (by omega)) whl iff try_ kep set_
    have bod : MetX P w K mg base (k + 3) RC "body" (spBo K C RC fun ts => (exN ts (n + 1)).2) [] := A.m_body.met A.Z.cl fun f fd F => ok_body (g := fun ts => gSt ts (exN ts n).1 (exN ts n).2) F A.Z (by omega) A.m_fixed0 L.accept sta
    exact ⟨exp.mono (by omega), bod.mono (by omega)⟩
end
end
section
open PySem PySem.Spec PyProof.Rows L2
open C8 (Cal cal0 pe_c pe_gc pss_cut tCut)
section
variable {P : Program} {w : World} {K : PySem.W.Frag} {mg : Str → Option Value} {base : Heap} {C fI RC : Addr} {k : Nat}
end
end
section
open PySem PySem.Spec PyProof.Rows L2
open C8 (Cal cal0 pe_c pe_gc pss_cut tCut)
/-! ### the tokens of a text, of their kinds -/
def WfTk (m : Nat) (k : List Nat) (v : V) : Prop := (k = cds "number" → ∃ x : Nat, v = .int (x : Int)) ∧ (k ≠ cds "number" → ∃ b : List Nat, v = T b ∧ b.length ≤ m)
theorem WfTk.mono {m n : Nat} {k : List Nat} {v : V} (h : WfTk m k v) (z : m ≤ n) : WfTk n k v := ⟨h.1, fun e => let ⟨b, e1, e2⟩ := h.2 e; ⟨b, e1, Nat.le_trans e2 z⟩⟩
theorem wf_text {m : Nat} {k b : List Nat} (h : k ≠ cds "number") (z : b.length ≤ m) : WfTk m k (T b) := ⟨fun e => absurd e h, fun _ => ⟨b, rfl, z⟩⟩
theorem ofRun_wf {a k : List Nat} {v : V} (h : ofRun a = some (k, v)) : WfTk a.length k v := by
  unfold ofRun at h
  split at h
  · cases e : numRun a with
    | none => rw [e] at h; cases h
    | some n =>
      rw [e] at h
      cases h
      exact ⟨fun _ => ⟨n, rfl⟩, fun z => absurd rfl z⟩
  · split at h
    · cases h
    · split at h
      · cases h; exact wf_text (by decide +kernel) (Nat.le_refl _)
      · split at h
        · cases h; exact wf_text (by decide +kernel) (Nat.le_refl _)
        · cases h; exact wf_text (by decide +kernel) (Nat.le_refl _)
theorem one_wf {l k : List Nat} {v : V} {n : Nat} (h : one l = some (k, v, n)) : WfTk l.length k v := by
  cases l with
  | nil => cases h
  | cons c r =>
    rw [one_cons] at h
    split at h
    · cases e : endTx r with
      | none => rw [e] at h; cases h
      | some b =>
        rw [e] at h
        cases h
        unfold endTx at e
        split at e
        · cases e
          have := tw_le (p := fun x => x != 39) r
          exact wf_text (by decide +kernel) (Nat.le_trans this (by rw [List.length_cons]; omega))
        · cases e
    · split at h
      · cases e : ofRun ((c :: r).takeWhile letC) with
        | none => rw [e] at h; cases h
        | some p =>
          obtain ⟨k', v'⟩ := p
          rw [e] at h
          cases h
          exact (ofRun_wf e).mono (tw_le _)
      · cases e : MLs.find? fun m => m.isPrefixOf (c :: r) with
        | none => rw [e] at h; cases h
        | some m =>
          rw [e] at h
          cases h
          have := List.find?_some e
          exact wf_text (by decide +kernel) ((List.isPrefixOf_iff_prefix.mp this).length_le)
theorem lex_wf : ∀ {n : Nat} {l : List Nat} {pos : Nat}, l.length ≤ n → ∀ t ∈ (lex pos l).1, WfTk n t.1 t.2.1 ∧ t.2.2 ≤ pos + l.length
  | 0, l, pos, hn, t, ht => by
    cases l with
    | nil => rw [lex_nil] at ht; cases ht
    | cons c r => simp at hn
  | n + 1, [], pos, hn, t, ht => by rw [lex_nil] at ht; cases ht
  | n + 1, c :: r, pos, hn, t, ht => by
    by_cases hc : c = 32
    · subst hc
      rw [lex_sp] at ht
      obtain ⟨h1, h2⟩ := lex_wf (n := n) (by simpa using hn) t ht
      exact ⟨h1.mono (by omega), by rw [List.length_cons]; omega⟩
    · cases e : one (c :: r) with
      | none => rw [lex_wrong hc e] at ht; cases ht
      | some p =>
        obtain ⟨k, v, m⟩ := p
        rw [lex_tok hc e] at ht
        have hp := one_pos e
        rcases List.mem_cons.mp ht with rfl | ht
        · exact ⟨(one_wf e).mono hn, Nat.le_add_right _ _⟩
        · have hl : (r.drop (m - 1)).length + m = (c :: r).length := by
            rw [List.length_drop]
            rw [List.length_cons] at hp ⊢
            omega
          obtain ⟨h1, h2⟩ := lex_wf (n := n) (by omega) t ht
          exact ⟨h1.mono (by omega), by omega⟩
theorem tok_ok {cs : List Nat} {ts : List Tk} {o : Option Nat} (h : lex 0 cs = (ts, o)) (hl : cs.length ≤ 100000) (hn : ts.length ≤ cs.length) : TOk (endTks cs ts) := by
  have w : ∀ t ∈ endTks cs ts, WfTk 100000 t.1 t.2.1 ∧ t.2.2 ≤ 100000 := fun t ht => by
    rcases List.mem_append.mp ht with ht | ht
    · have := lex_wf (n := 100000) (l := cs) (pos := 0) hl t (by rw [h]; exact ht)
      exact ⟨this.1, by have := this.2; omega⟩
    · rw [List.mem_singleton.mp ht]
      exact ⟨wf_text (show cds "nothing" ≠ cds "number" by decide +kernel) (Nat.zero_le _), hl⟩
  refine ⟨fun t ht hk => (w t ht).1.2 hk, fun t ht hk => (w t ht).1.1 hk, ?_, fun t ht => Nat.le_trans (w t ht).2 (by decide)⟩
  unfold endTks
  rw [List.length_append]
  show ts.length + 1 ≤ 200000
  omega
end
section
open PySem PySem.Spec PyProof.Rows L2
open C8 (Cal cal0 pe_c pe_gc pss_cut tCut)

section
variable {P : Program} {w : World} {K : PySem.W.Frag} {mg : Str → Option Value} {base : Heap} {C fI RC : Addr} {k : Nat}
abbrev s_Reader___init__ : Stmt := inClass (topS 40) 0
abbrev N_Reader___init__ : List Str := ["self", "text"]
theorem sc_Reader___init__ : FnScope N_Reader___init__ ["self", "text"] (defScope s_Reader___init__) := ⟨rfl, rfl, rfl, by decide +kernel, rfl, by decide +kernel, by decide +kernel⟩
def spInit (C RC : Addr) : Sp := fun vs H Q E => ∃ (x dx : Addr) (cs : List Nat), vs = [.ref x, T cs] ∧ cs.length ≤ 100000 ∧ H x = some (.ins RC dx []) ∧
  (∀ ts, lex 0 cs = (ts, none) → ∀ dl tl H', H dl = none → H tl = none → (∀ b o, b ≠ x → H b = some o → H' b = some o) → (∀ b, H' b = none → H b = none) → TOk (endTks cs ts) → RdS RC x dl tl (endTks cs ts) ⟨0, [], none⟩ H' → Q .non H') ∧ (∀ ts i, lex 0 cs = (ts, some i) → Err C E H i)
theorem ok_init {f : Addr} {fd : FuncData} (F : Fun K "__init__" "Reader.__init__" s_Reader___init__ f fd) (Z : RdTx P w K mg C fI RC) (ctokenize : CalX P w K mg base 4 "tokenize" (spTokenize C)) : FnOk P w K mg base (L2.CX P w) 5 f fd ["self", "text"] (spInit C RC) := by
  refine F.okX sc_Reader___init__ (fun vs H Q E h => ?_) (fun cdv A outer s H vs Q E hr h => ?_)
  · obtain ⟨x, dx, cs, rfl, _⟩ := h
    rfl
  · obtain ⟨x, dx, cs, rfl, hl, hx, kQ, kE⟩ := h
    have nd := sc_Reader___init__.nd
    refine ⟨_, (pss_cons (ps_fld (pv 0) (pe_op op_cat (pe_cx ctokenize hr (by decide) rfl px_of (pa_cons (pv 1) pa_nil)) (pe_lst (pa_cons (pe_tup (pa_cons pe_str (pa_cons pe_str (pa_cons (pe_callB call_lenS (by rfl) Z.n_len (by decide +kernel) (pa_cons (pv 1) pa_nil)) pa_nil)))) pa_nil))) rfl)
      (pss_cons (ps_fld (pv 0) pe_int rfl)
      (pss_cons (ps_fld (pv 0) (pe_lst pa_nil) rfl)
      (pss_one (ps_fld (pv 0) pe_non rfl))))), ?_⟩
    rw [show L2.start N_Reader___init__ [.ref x, T cs] = [some (.ref x), some (T cs)] from rfl]
    walk_at "rdr"
    refine ⟨cs, rfl, hl, fun ts hts p ps H1 hp s1 h1 hT hlen => ?_, fun ts i hts => kE ts i hts⟩
    walk_at "rdr"
    have e0 : (Str.ofString "").cps.toList = ([] : List Nat) := by decide +kernel
    refine w_lenS (by omega) ?_
    walk_at "rdr"
    rw [e0]
    refine w_newT (by show 3 ≤ 1000000; decide) fun p2 H2 hp2 s2 h2 => ?_
    walk_at "rdr"
    refine w_newL (by show 1 ≤ 1000000; decide) fun p3 H3 hp3 s3 h3 => ?_
    have hpl : ps.length = ts.length := hT.length
    refine w_cat2 (s3 _ _ (s2 _ _ h1)) h3 (by rw [List.length_map]; show ps.length + 1 ≤ 1000000; omega) fun tl H4 hp4 s4 h4 => ?_
    have s14 : Same H H4 := ((s1.trans s2).trans s3).trans s4
    have hx4 := s14 _ _ hx
    have hT4 : TokAt H4 (ps ++ [p2]) (endTks cs ts) := TokAt.snoc (t := (cds "nothing", T [], cs.length)) (s4 _ _ (s3 _ _ h2)) (((hT.same s2).same s3).same s4)
    have htl0 : H tl = none := ((s1.trans s2).trans s3).free hp4
    have ntx : tl ≠ x := fun e => by rw [e, hx] at htl0; cases htl0
    walk_at "rdr"
    refine fld_set hx4 Z.cl Z.n_tokens (show 0 < 1000 by decide) fun H5 h5 k5 z5 => ?_
    walk_at "rdr"
    refine fld_set h5 Z.cl Z.n_now (show 1 < 1000 by decide) fun H6 h6 k6 z6 => ?_
    walk_at "rdr"
    refine w_newL (by show 0 ≤ 1000000; decide) fun dl H7 hp7 s7 h7 => ?_
    walk_at "rdr"
    have hdl0 : H dl = none := s14.free (z5 _ (z6 _ hp7))
    have ndx : dl ≠ x := fun e => by rw [e, hx] at hdl0; cases hdl0
    have ntd : tl ≠ dl := fun e => by
      have := k6 _ _ ntx (k5 _ _ ntx h4)
      rw [e, hp7] at this
      cases this
    refine fld_set (s7 _ _ h6) Z.cl Z.n_depths (show 2 < 1000 by decide) fun H8 h8 k8 z8 => ?_
    walk_at "rdr"
    refine fld_set h8 Z.cl Z.n_twice (show 3 < 1000 by decide) fun H9 h9 k9 z9 => ?_
    have keep : ∀ b o, b ≠ x → H4 b = some o → H9 b = some o := fun b o n e => k9 _ _ n (k8 _ _ n (s7 _ _ (k6 _ _ n (k5 _ _ n e))))
    have free : ∀ b, H9 b = none → H b = none := fun b e => s14.free (z5 _ (z6 _ (s7.free (z8 _ (z9 _ e)))))
    refine kQ ts hts dl tl H9 hdl0 htl0 (fun b o n e => keep b o n (s14 _ _ e)) free (tok_ok hts hl hlen) ⟨dx, ps ++ [p2], ntd, ntx, ndx, h9, ?_, TokAt.but keep (fun t e => by rw [hx4] at e; cases e) hT4, k9 _ _ ndx (k8 _ _ ndx h7), by decide⟩
    rw [keep _ _ ntx h4, List.map_append]
    rfl
end
end
section
open PySem PySem.Spec PyProof.Rows L2
open C8 (Cal cal0 pe_c pe_gc pss_cut tCut)
def ErrN (NT : Addr) (E : XK) (r dl : Addr) (H : Hp) (a : List Nat) : Prop := ∀ d H', H d = none → Fr2 r dl H H' → H' d = some (.xd [(("name" : Str), T a)]) → E (.ref NT) (some d) H'
def RaiseN (NT : Addr) (E : XK) (vs : List V) (H : Hp) : Prop := ∃ v : Str, vs = [.str v] ∧ v.length ≤ 100000 ∧ ∀ d, H d = none → E (.ref NT) (some d) (upd H d (.xd [(("name" : Str), .str v)]))
theorem w_raiseN {NT : Addr} {E : XK} {ta : TA} {D : Ends} {σ : L2.St} {H : Hp} (k : ta σ H fun vs H1 => RaiseN NT E vs H1) : tRaiseNam NT (fun cls d _ H => E cls d H) ta D σ H := k

section
variable {P : Program} {w : World} {K : PySem.W.Frag} {mg : Str → Option Value} {base : Heap} {C fI RC NT fN : Addr} {k : Nat}
abbrev s_Reader_finish : Stmt := inClass (topS 40) 1
abbrev N_Reader_finish : List Str := ["self"]
theorem sc_Reader_finish : FnScope N_Reader_finish ["self"] (defScope s_Reader_finish) := ⟨rfl, rfl, rfl, by decide +kernel, rfl, by decide +kernel, by decide +kernel⟩
def spFinish (C NT RC : Addr) : Sp := fun vs H Q E => ∃ (r dl tl : Addr) (ts : List Tk) (S : RS), vs = [.ref r] ∧ RdS RC r dl tl ts S H ∧ TOk ts ∧
  Out (rTake ts (cds "nothing") S) (fun _ S' => (S'.tw = none → ∀ H', Fr2 r dl H H' → Q .non H') ∧ ∀ a, S'.tw = some a → a.length ≤ 100000 ∧ ErrN NT E r dl H a) (fun i => Err2 C E r dl H i)
theorem ok_finish {f : Addr} {fd : FuncData} (F : Fun K "finish" "Reader.finish" s_Reader_finish f fd) (Z : RdTx P w K mg C fI RC) (hN : PySem.NamX.NamTxt P K mg "NameTwice" NT fN) (m_take : MetX P w K mg base 2 RC "take" (spTake C RC) []) : FnOk P w K mg base (L2.CX P w) 3 f fd ["self"] (spFinish C NT RC) := by
  refine F.okX sc_Reader_finish (fun vs H Q E h => ?_) (fun cdv A outer s H vs Q E hr h => ?_)
  · obtain ⟨r, dl, tl, ts, S, rfl, _⟩ := h
    rfl
  · obtain ⟨r, dl, tl, ts, S, rfl, hR, ok, kQ⟩ := h
    obtain ⟨dx, ps, n1, n2, n3, hr', htl, hT, hdl, hz⟩ := id hR
    have nd := sc_Reader_finish.nd
    refine ⟨_, (pss_cons (ps_expr (pe_mx m_take hr (by omega) px_of (pv 0) (pa_cons pe_str pa_nil)))
      (pss_one (ps_if (pt_cmpR op_notN (pe_fld (pv 0) rfl) pe_non (nomark _)) (pss_one (ps_raiseNam rfl hN hr tk_of (pa_cons (pe_fld (pv 0) rfl) pa_nil))) pss_nil))), ?_⟩
    rw [show L2.start N_Reader_finish [.ref r] = [some (.ref r)] from rfl]
    walk_at "rdr"
    refine meth_at hr' (by rfl) ?_
    walk_at "rdr"
    refine ⟨r, dl, tl, ts, S, cds "nothing", rfl, hR, ok, Out.mono kQ (fun a S1 h v H1 hv hR1 f1 => ?_) fun i e => e⟩
    obtain ⟨dx, ps, _, _, _, hr1, _⟩ := id hR1
    walk_at "rdr"
    refine fld_at hr1 Z.cl Z.n_twice (by rfl) ?_
    walk_at "rdr"
    refine w_notN ?_
    rw [twV_non]
    walk_at "rdr"
    refine w_ifn (fun h2 => ?_) (fun h2 => ?_)
    · walk_at "rdr"
      refine w_raiseN ?_
      walk_at "rdr"
      refine fld_at hr1 Z.cl Z.n_twice (by rfl) ?_
      walk_at "rdr"
      cases e : S1.tw with
      | none => exact absurd e h2
      | some nm =>
        obtain ⟨g1, g2⟩ := h.2 nm e
        refine ⟨⟨nm.toArray⟩, rfl, by rw [len_T]; exact g1, fun d hd => ?_⟩
        exact g2 d _ (f1.2 d hd) (f1.trans (Fr2.same (same_new hd))) upd_same
    · exact h.1 h2 H1 f1
end
end
section
open PySem PySem.Spec PyProof.Rows L2
open C8 (Cal cal0 pe_c pe_gc pss_cut tCut)
structure MakX (P : Program) (w : World) (K : PySem.W.Frag) (mg : Str → Option Value) (base : Heap) (k : Nat) (x : Str) (C : Addr) (sp : Sp) : Prop where
  ex : ∃ (f : Addr) (fd : FuncData) (ps : List Str), Mk K C f ∧ FnOk P w K mg base (L2.CX P w) k f fd ps sp ∧ mg x = some (.ref C) ∧ Binds K fd ps []
theorem pe_mkx {X : Cx} {k j : Nat} {x : Str} {C : Addr} {sp : Sp} {E : XK} {p pos : Pos} {e : Expr} {es : List Expr} {t : TA} (c : MakX X.prog X.w X.K X.mg X.base k x C sp) (hr : Room j X.A) (hk : k + 1 ≤ j) (hx : Passes (L2.CX X.prog X.w) X E) (ha : PA X (e :: es) t) (hg : Gl X x := by rfl)
    (hdb : (x == ("__debug__" : Str)) = false := by decide) (he : starEach (e :: es) X.env = (false, eval e X.env) :: starEach es X.env := by rfl) (hpl : (backTo pos (starEach es X.env)).any (·.1) = false := by rfl) :
    PE X (.Call (.Name x p) (e :: es) [] pos) (tMake C sp [] E t) := by
  obtain ⟨f, fd, ps, M, F, hm, b⟩ := c.ex
  exact pe_make M F (hr.mono hk) hg hm b .nil hx ha hdb he hpl
theorem w_make {C : Addr} {sp : Sp} {E : XK} {t : TA} {σ : L2.St} {H : Hp} {Q : VK} (k : t σ H fun vs H1 => ∀ x dx, H1 x = none → H1 dx = none → dx ≠ x → sp (.ref x :: (vs ++ [])) (upd (upd H1 dx (.own x)) x (.ins C dx [])) (fun v H2 => v = .non ∧ Q (.ref x) H2) E) : tMake C sp [] E t σ H Q := k
def ErrT (NT : Addr) (E : XK) (H : Hp) (a : List Nat) : Prop := ∀ d H', H d = none → Same H H' → H' d = some (.xd [(("name" : Str), T a)]) → E (.ref NT) (some d) H'
def Told (K : PySem.W.Frag) (C NT : Addr) (g : List Tk → RS → Res RS Tr) (cs : List Nat) (H : Hp) (Q : VK) (E : XK) : Prop :=
  (∀ ts i, lex 0 cs = (ts, some i) → Err C E H i) ∧ ∀ ts, lex 0 cs = (ts, none) → Out ((g (endTks cs ts) ⟨0, [], none⟩).bind fun t S => (rTake (endTks cs ts) (cds "nothing") S).bind fun _ S => .ok t S)
    (fun t S => (S.tw = none → ∀ v H', TrAt K H' v t → Same H H' → Q v H') ∧ ∀ a, S.tw = some a → a.length ≤ 100000 ∧ ErrT NT E H a) (fun i => Err C E H i)
end
section
open PySem PySem.Spec PyProof.Rows L2
open C8 (Cal cal0 pe_c pe_gc pss_cut tCut)

section
variable {P : Program} {w : World} {K : PySem.W.Frag} {mg : Str → Option Value} {base : Heap} {C fI RC NT fN : Addr} {k : Nat}
abbrev s_read_expression : Stmt := topS 38
abbrev N_read_expression : List Str := ["text", "reader", "tree"]
theorem sc_read_expression : FnScope N_read_expression ["text"] (defScope s_read_expression) := ⟨rfl, rfl, rfl, by decide +kernel, rfl, by decide +kernel, by decide +kernel⟩
def spReadE (K : PySem.W.Frag) (C NT : Addr) (ex : List Tk → Nat → Nat → RS → Res RS Tr) : Sp := fun vs H Q E => ∃ cs : List Nat, vs = [T cs] ∧ cs.length ≤ 100000 ∧ Told K C NT (fun ts => ex ts 1 2) cs H Q E
theorem ok_read_expression {ex : List Tk → Nat → Nat → RS → Res RS Tr} {f : Addr} {fd : FuncData} (F : Fun K "read_expression" "read_expression" s_read_expression f fd) (Z : RdTx P w K mg C fI RC) (hk : 6 ≤ k) (mkR : MakX P w K mg base 5 "Reader" RC (spInit C RC))
    (m_expression : MetX P w K mg base k RC "expression" (spEx K C RC ex) []) (m_finish : MetX P w K mg base 3 RC "finish" (spFinish C NT RC) []) : FnOk P w K mg base (L2.CX P w) (k + 1) f fd ["text"] (spReadE K C NT ex) := by
  refine F.okX sc_read_expression (fun vs H Q E h => ?_) (fun cdv A outer s H vs Q E hr h => ?_)
  · obtain ⟨cs, rfl, _⟩ := h
    rfl
  · obtain ⟨cs, rfl, hl, kE, kQ⟩ := h
    have nd := sc_read_expression.nd
    refine ⟨_, (pss_cons (ps_set (i := 1) nd rfl (Or.inl rfl) (pe_mkx mkR hr (by omega) px_of (pa_cons (pv 0) pa_nil)))
      (pss_cons (ps_set (i := 2) nd rfl (Or.inl rfl) (pe_mx m_expression hr (by omega) px_of (pv 1) (pa_cons (pe_gc rfl Z.c_LOOSEST) (pa_cons pe_int pa_nil))))
      (pss_cons (ps_expr (pe_mx0 m_finish hr (by omega) px_of (pv 1)))
      (pss_one (ps_ret (pv 2)))))), ?_⟩
    rw [show L2.start N_read_expression [T cs] = [some (T cs), none, none] from rfl]
    walk_at "rdr"
    refine w_make ?_
    walk_at "rdr"
    intro x dx hx0 hdx0 ndx
    have s1 : Same H (upd H dx (.own x)) := same_new hdx0
    have s2 : Same (upd H dx (.own x)) (upd (upd H dx (.own x)) x (.ins RC dx [])) := same_new (by rw [upd_ne ndx.symm]; exact hx0)
    have h2 : upd (upd H dx (.own x)) x (.ins RC dx []) x = some (.ins RC dx []) := upd_same
    generalize upd (upd H dx (.own x)) x (.ins RC dx []) = H2 at s2 h2
    have s12 := s1.trans s2
    refine ⟨x, dx, cs, rfl, hl, h2, fun ts hts dl tl H3 hdl htl k3 z3 ok hR3 => ⟨rfl, ?_⟩, fun ts i hts => (kE ts i hts).mono s12⟩
    have kQ' := kQ ts hts
    have hdl0 : H dl = none := s12.free hdl
    have same_of : ∀ {H' : Hp}, Fr2 x dl H3 H' → Same H H' := fun f b o hb => f.1 b o (fun e => by rw [e, hx0] at hb; cases hb) (fun e => by rw [e, hdl0] at hb; cases hb) (k3 b o (fun e => by rw [e, hx0] at hb; cases hb) (s12 b o hb))
    have free_of : ∀ {H' : Hp} {b : Addr}, Fr2 x dl H3 H' → H' b = none → H b = none := fun f hb => s12.free (z3 _ (f.2 _ hb))
    have err_of : ∀ {i : Nat}, Err C E H i → Err2 C E x dl H3 i := fun e d H' hd f h => e d H' (free_of (Fr2.refl x dl H3) hd) (same_of f) h
    obtain ⟨dx3, ps, _, _, _, hr3, _⟩ := id hR3
    walk_at "rdr"
    refine meth_at hr3 (by rfl) ?_
    walk_at "rdr"
    refine ⟨x, dl, tl, endTks cs ts, ⟨0, [], none⟩, 1, 2, rfl, hR3, ok, Out.mono (Out.bind kQ') (fun t S4 h4 v H4 ht hR4 f4 => ?_) fun i e => err_of e⟩
    obtain ⟨dx4, ps, _, _, _, hr4, _⟩ := id hR4
    walk_at "rdr"
    refine meth_at hr4 (by rfl) ?_
    walk_at "rdr"
    refine ⟨x, dl, tl, endTks cs ts, S4, rfl, hR4, ok, Out.mono (Out.bind h4) (fun _ S5 h5 => ?_) fun i e => (err_of e).to f4⟩
    obtain ⟨g1, g2⟩ := h5
    refine ⟨fun h H5 f5 => ?_, fun a ha => ⟨(g2 a ha).1, fun d H5 hd f5 h => (g2 a ha).2 d H5 (free_of f4 hd) (same_of (f4.trans f5)) h⟩⟩
    walk_at "rdr"
    exact g1 h v H5 (TrAt.fr ht hR4 f5) (same_of (f4.trans f5))
end
end
section
/-! Texts of tokens with spaces ahead of each: their reading. -/
open PySem PySem.Spec PyProof.Rows L2
open TL (numL tl_num numL_digits numL_ne numL_val numL_len numL_lt numL_step)
abbrev Ly := List (Nat × List Nat)
def lay : Ly → List Nat
  | [] => []
  | (n, t) :: l => List.replicate n 32 ++ t ++ lay l
def lws (l : Ly) : Ws := l.map Prod.snd
def lps : Nat → Ly → List Nat
  | _, [] => []
  | p, (n, t) :: l => (p + n) :: lps (p + n + t.length) l
def LOk : List Nat → Ly → Prop
  | _, [] => True
  | b, (n, t) :: l => Tok t ∧ (touch b t = true → 1 ≤ n) ∧ LOk t l
def lend : List Nat → Ly → List Nat
  | b, [] => b
  | _, (_, t) :: l => lend t l
theorem lay_append : ∀ a b : Ly, lay (a ++ b) = lay a ++ lay b
  | [], b => rfl
  | (n, t) :: a, b => by
    show List.replicate n 32 ++ t ++ lay (a ++ b) = List.replicate n 32 ++ t ++ lay a ++ lay b
    rw [lay_append a b, List.append_assoc, List.append_assoc, List.append_assoc]
theorem lws_append (a b : Ly) : lws (a ++ b) = lws a ++ lws b := List.map_append
theorem lps_len : ∀ (p : Nat) (l : Ly), (lps p l).length = (lws l).length
  | _, [] => rfl
  | p, (n, t) :: l => by
    show (lps (p + n + t.length) l).length + 1 = (lws l).length + 1
    rw [lps_len]
theorem lend_append : ∀ (c : List Nat) (a b : Ly), lend c (a ++ b) = lend (lend c a) b
  | _, [], _ => rfl
  | _, (_, t) :: a, b => lend_append t a b
theorem lok_append : ∀ {c : List Nat} {a b : Ly}, LOk c (a ++ b) ↔ LOk c a ∧ LOk (lend c a) b
  | c, [], b => ⟨fun h => ⟨True.intro, h⟩, fun h => h.2⟩
  | c, (n, t) :: a, b => by
    show (Tok t ∧ _ ∧ LOk t (a ++ b)) ↔ (Tok t ∧ _ ∧ LOk t a) ∧ LOk (lend t a) b
    rw [lok_append (c := t) (a := a) (b := b)]
    exact ⟨fun ⟨h1, h2, h3, h4⟩ => ⟨⟨h1, h2, h3⟩, h4⟩, fun ⟨⟨h1, h2, h3⟩, h4⟩ => ⟨h1, h2, h3, h4⟩⟩
theorem lay_grown : ∀ {l : Ly} {cs : List Nat} {due : List Tk} {b : List Nat}, Grown cs due b → LOk b l → Grown (cs ++ lay l) (due ++ dueOf (lws l) (lps cs.length l)) (lend b l)
  | [], cs, due, b, g, _ => by
    show Grown (cs ++ []) (due ++ []) b
    rw [List.append_nil, List.append_nil]
    exact g
  | (n, t) :: l, cs, due, b, g, ⟨⟨k, v, d⟩, h2, h3⟩ => by
    have g2 := lay_grown (grown_step g d h2) h3
    have e1 : cs ++ lay ((n, t) :: l) = cs ++ List.replicate n 32 ++ t ++ lay l := by
      show cs ++ (List.replicate n 32 ++ t ++ lay l) = _
      rw [List.append_assoc, List.append_assoc, List.append_assoc]
    have e2 : due ++ dueOf (lws ((n, t) :: l)) (lps cs.length ((n, t) :: l)) = due ++ [(k, v, cs.length + n)] ++ dueOf (lws l) (lps (cs ++ List.replicate n 32 ++ t).length l) := by
      show due ++ (((tk t).1, (tk t).2, cs.length + n) :: dueOf (lws l) (lps (cs.length + n + t.length) l)) = _
      rw [drawn_tk d, List.length_append, List.length_append, List.length_replicate, List.append_assoc]
      rfl
    rw [e1, e2]
    exact g2
theorem lay_lex {l : Ly} (h : LOk [] l) (n : Nat) : lex 0 (lay l ++ List.replicate n 32) = (dueOf (lws l) (lps 0 l), none) := by
  have g := lay_grown (grown_start 0) h
  exact grown_end g n
/-! which tokens touch -/
theorem touch_gap {b t : List Nat} {n : Nat} (h : 1 ≤ n) : touch b t = true → 1 ≤ n := fun _ => h
theorem touch_no {b t : List Nat} {n : Nat} (h : touch b t = false) : touch b t = true → 1 ≤ n := fun z => by rw [h] at z; cases z
theorem mark_head : ∀ m ∈ MLs, ∃ c r, m = c :: r ∧ c ∉ aJ := by
  have k : ∀ m ∈ MLs, m ≠ [] ∧ m.headD 0 ∉ aJ := by decide +kernel
  intro m hm
  obtain ⟨h1, h2⟩ := k m hm
  cases m with
  | nil => exact absurd rfl h1
  | cons c r => exact ⟨c, r, rfl, h2⟩
theorem mark_last : ∀ m ∈ MLs, ∀ c, m.getLast? = some c → c ∉ aJ := by
  have k : ∀ m ∈ MLs, (m.getLast?).getD 0 ∉ aJ := by decide +kernel
  intro m hm c e
  have := k m hm
  rw [e] at this
  exact this
theorem touch_nil (t : List Nat) : touch [] t = false := rfl
theorem touch_mr {b m : List Nat} (h : b ≠ [60]) (hm : m ∈ MLs) : touch b m = false := by
  unfold touch
  by_cases h0 : b = []
  · rw [if_pos h0]
  · rw [if_neg h0, if_neg h]
    obtain ⟨c, r, rfl, hc⟩ := mark_head m hm
    rw [List.head?_cons]
    cases b.getLast? with
    | none => rfl
    | some d =>
      show (decide (d ∈ aJ) && decide (c ∈ aJ)) = false
      rw [decide_eq_false hc, Bool.and_false]
theorem touch_ml {m t : List Nat} (h : m ≠ [60]) (hm : m ∈ MLs) : touch m t = false := by
  unfold touch
  obtain ⟨c, r, e, _⟩ := mark_head m hm
  rw [if_neg (by rw [e]; exact List.cons_ne_nil _ _), if_neg h]
  cases el : m.getLast? with
  | none => rfl
  | some d =>
    cases t.head? with
    | none => rfl
    | some x =>
      show (decide (d ∈ aJ) && decide (x ∈ aJ)) = false
      rw [decide_eq_false (mark_last m hm d el), Bool.false_and]
theorem name_ne {a : List Nat} (h : IsName a) : a ≠ [60] := fun e => by
  obtain ⟨c, r, rfl, hc, _⟩ := h.1
  cases e
  exact absurd hc (by decide +kernel)
theorem num_ne {n : Nat} : numL n ≠ [60] := fun e => by
  have := numL_digits n 60 (by rw [e]; exact List.mem_singleton.mpr rfl)
  omega
theorem num_tok {n : Nat} (h : n ≤ 1000000000) : Tok (numL n) := ⟨_, _, .number h⟩
/-! rows of names with commas -/
def jn : Ws → List Nat
  | [] => []
  | a :: l => a ++ l.flatMap fun b => cds ", " ++ b
end
section
/-! What reading a text comes to; join. -/
open PySem PySem.Spec PyProof.Rows L2
def whole (g : List Tk → RS → Res RS Tr) (cs : List Nat) (ts : List Tk) : Res RS Tr := (g (endTks cs ts) ⟨0, [], none⟩).bind fun t S => (rTake (endTks cs ts) (cds "nothing") S).bind fun _ S => .ok t S
theorem w_callS {sp : Sp} {E : L2.St → XK} {t : TA} {σ : L2.St} {H : Hp} {Q : VK} (k : t σ H fun vs H1 => sp vs H1 Q (E σ)) : tCallS sp E t σ H Q := k
/-! ', '.join(names) -/
def rJoin (K : PySem.W.Frag) : V → List V → Hp → VK → Prop := fun x xs H Q => ∃ a p, ∃ ys : List Str, x = .str a ∧ xs = [.ref p] ∧ (SqL K H p (ys.map V.str) ∨ SqT K H p (ys.map V.str)) ∧ (ys.map (·.length)).sum + ys.length * a.length ≤ 16777216 ∧ Q (.str (Txt.join a ys)) H
theorem mt_joinS {X : Cx} : MtR X "str.join" (rJoin X.K) := L2.mt_join
theorem S_app (a b : List Nat) : S a ++ S b = S (a ++ b) := by
  show (⟨a.toArray ++ b.toArray⟩ : Str) = ⟨(a ++ b).toArray⟩
  simp
end
section
open PySem PySem.Spec PyProof.Rows L2
abbrev gM : List Tk → RS → Res RS Tr := fun ts => gMethod ts (exN ts 14).2
/-! blocks with or without parameters -/
def nW (ps : Ws) (ns : List Ws) : List Ws := if ps = [] then ns else ps :: ns
def opn (ps : Ws) : List Nat := if ps = [] then cds "{" else cds "{" ++ jn ps ++ cds " | "
end
section
open PySem PySem.Spec PyProof.Rows L2
def jnS (s : List Nat) : Ws → List Nat
  | [] => []
  | a :: l => a ++ l.flatMap fun b => s ++ b
theorem jnS_jn (l : Ws) : jnS (cds ", ") l = jn l := by cases l <;> rfl
end
section
/-! A dict of the module, read at a text. -/
open PySem PySem.Spec PyProof.Rows L2
section
variable {X : Cx} {d : Addr} {es : Array DictEntry} {n : Nat}
def rDkI (K : PySem.W.Frag) (d : Addr) : R2 := fun x y H Q => ∃ (z : Str) (u0 : Value) (v0 : V), x = .ref d ∧ y = .str z ∧ PySem.W.nsIn K d z = some (some u0) ∧ RelV v0 u0 ∧ Q v0 H
theorem ix_dk (D : KDict X.K X.w d es n) : IxR X (rDkI X.K d) := by
  intro value slice pins s σ H x y v u Q I rx ry h hs
  obtain ⟨z, u0, v0, rfl, rfl, e, r, q⟩ := h
  cases rx
  obtain ⟨t, rfl⟩ := ry
  exact tail_any (kd_type D I) PySem.F.slot_dict_getitem.lookup (wpAny_getItem_of (PySem.strKind_is X.prog X.w z t) (PySem.W.mapOf_K (prog := X.prog) I.kIn D.at_ D.lit) (PySem.W.find_K D.at_ e) ⟨v0, H, I.tok _, r, q⟩) hs
end
structure DkN (K : PySem.W.Frag) (w : World) (mg : Str → Option Value) (x : Str) (l : List (List Nat × Nat)) : Prop where
  ex : ∃ (d : Addr) (es : Array DictEntry) (n : Nat), (∃ u, mg x = some u ∧ RelV (.ref d) u) ∧ KDict K w d es n ∧ ∀ (a : List Nat) (m : Nat), l.lookup a = some m → ∃ u, PySem.W.nsIn K d ⟨a.toArray⟩ = some (some u) ∧ RelV (.int (m : Int)) u
theorem dk_at {K : PySem.W.Frag} {d : Addr} {l : List (List Nat × Nat)} {a : List Nat} {m : Nat} {H : Hp} {Q : VK} (h : ∀ (a : List Nat) (m : Nat), l.lookup a = some m → ∃ u, PySem.W.nsIn K d ⟨a.toArray⟩ = some (some u) ∧ RelV (.int (m : Int)) u) (e : l.lookup a = some m) (k : Q (.int (m : Int)) H) : rDkI K d (.ref d) (T a) H Q := by
  obtain ⟨u, hu, r⟩ := h a m e
  exact ⟨_, u, _, rfl, rfl, hu, r, k⟩
end
section
/-! Printed forms: derivations without a needless bracket, and their texts. -/
open PySem PySem.Spec PyProof.Rows L2
open TL (numL tl_num numL_digits numL_ne numL_val numL_len numL_lt numL_step)
def spd (l : Ws) : List Nat := jnS [32] (l.filter fun a => decide (a ≠ []))
def brk (x : List Nat) : List Nat := cds "(" ++ x ++ cds ")"
mutual
/-- an expression in its printed form: level, height, tree, tokens, lists of names, text -/
inductive Pe : Nat → Nat → Tr → Ws → List Ws → List Nat → Prop
  | num {h n : Nat} : n ≤ 1000000000 → Pe 9 (h + 1) (.t [str "plain", .i (n : Int)]) [numL n] [] (numL n)
  | text {h : Nat} {b : List Nat} : IsText b → Pe 9 (h + 1) (.t [str "plain", .s b]) [39 :: (b ++ [39])] [] (cds "'" ++ b ++ cds "'")
  | word {h : Nat} {a : List Nat} {v : V} : plainL.lookup a = some v → Pe 9 (h + 1) (.t [str "plain", plainTr v]) [a] [] a
  | self {h : Nat} : Pe 9 (h + 1) (.t [str "self"]) [cds "self"] [] (cds "self")
  | new {h : Nat} {a : List Nat} : IsClass a → Pe 9 (h + 1) (.t [str "new", .s a]) [cds "new", a] [] (cds "new " ++ a)
  | name {h : Nat} {a : List Nat} : IsName a → Pe 9 (h + 1) (.t [str "name", .s a]) [a] [] a
  | neg {h : Nat} {t : Tr} {w : Ws} {ns : List Ws} {x : List Nat} : Pp 7 h t w ns x → Pe 7 (h + 1) (.t [str "neg", t]) (cds "-" :: w) ns (cds "-" ++ x)
  | not {h : Nat} {t : Tr} {w : Ws} {ns : List Ws} {x : List Nat} : Pp 3 h t w ns x → Pe 3 (h + 1) (.t [str "not", t]) (cds "not" :: w) ns (cds "not " ++ x)
  | bin {l h : Nat} {s : List Nat} {t1 t2 : Tr} {w1 w2 : Ws} {n1 n2 : List Ws} {x1 x2 : List Nat} : behN.lookup s = some l → s ≠ cds "." → Pp (if l = 4 then 5 else l) h t1 w1 n1 x1 → Pp (l + 1) h t2 w2 n2 x2 → Pe l (h + 1) (binT s t1 t2) (w1 ++ s :: w2) (n1 ++ n2) (x1 ++ cds " " ++ s ++ cds " " ++ x2)
  | send {h : Nat} {t : Tr} {w : Ws} {ns : List Ws} {x : List Nat} {a : List Nat} {l : List Tr} {w2 : Ws} {n2 : List Ws} {ys : Ws} : Pp 8 h t w ns x → IsName a → Pa h l w2 n2 ys → Pe 8 (h + 1) (.t [str "send", t, .s a, .t l]) (w ++ cds "." :: a :: cds "(" :: (w2 ++ [cds ")"])) (ns ++ n2) (x ++ cds "." ++ a ++ brk (jn ys))
  | sup {h : Nat} {a : List Nat} {l : List Tr} {w2 : Ws} {n2 : List Ws} {ys : Ws} : IsName a → Pa h l w2 n2 ys → Pe 9 (h + 1) (.t [str "super", .s a, .t l]) (cds "super" :: cds "." :: a :: cds "(" :: (w2 ++ [cds ")"])) n2 (cds "super" ++ cds "." ++ a ++ brk (jn ys))
  | blk0 {h : Nat} {l : List Tr} {w : Ws} {ns : List Ws} {ys : Ws} : Pb h l w ns ys → Pe 9 (h + 1) (.t [str "block", .t [], .t l]) (cds "{" :: (w ++ [cds "}"])) ns (cds "{" ++ [] ++ jnS (cds "; ") ys ++ cds "}")
  | blk {h : Nat} {ps : Ws} {l : List Tr} {w : Ws} {ns : List Ws} {ys : Ws} : ps ≠ [] → ps.length ≤ 4 → (∀ x ∈ ps, IsName x) → Pb h l w ns ys → Pe 9 (h + 1) (.t [str "block", .t (ps.map Tr.s), .t l]) (cds "{" :: (commas ps ++ cds "|" :: (w ++ [cds "}"]))) (ps :: ns) (cds "{" ++ (jn ps ++ cds " | ") ++ jnS (cds "; ") ys ++ cds "}")
/-- in a place that asks for a level -/
inductive Pp : Nat → Nat → Tr → Ws → List Ws → List Nat → Prop
  | go {a lv h : Nat} {t : Tr} {w : Ws} {ns : List Ws} {x : List Nat} : a ≤ lv → Pe lv h t w ns x → Pp a h t w ns x
  | br {a lv h : Nat} {t : Tr} {w : Ws} {ns : List Ws} {x : List Nat} : lv < a → Pe lv h t w ns x → Pp a (h + 1) t (cds "(" :: (w ++ [cds ")"])) ns (brk x)
/-- arguments behind the first -/
inductive Pl : Nat → List Tr → Ws → List Ws → Ws → Prop
  | nil {h : Nat} : Pl h [] [] [] []
  | cons {lv h : Nat} {t : Tr} {w : Ws} {ns : List Ws} {x : List Nat} {l : List Tr} {w2 : Ws} {n2 : List Ws} {ys : Ws} : Pe lv h t w ns x → Pl h l w2 n2 ys → Pl h (t :: l) (cds "," :: (w ++ w2)) (ns ++ n2) (x :: ys)
inductive Pa : Nat → List Tr → Ws → List Ws → Ws → Prop
  | nil {h : Nat} : Pa h [] [] [] []
  | cons {lv h : Nat} {t : Tr} {w : Ws} {ns : List Ws} {x : List Nat} {l : List Tr} {w2 : Ws} {n2 : List Ws} {ys : Ws} : Pe lv h t w ns x → Pl h l w2 n2 ys → l.length ≤ 7 → Pa h (t :: l) (w ++ w2) (ns ++ n2) (x :: ys)
inductive Ps : Nat → Tr → Ws → List Ws → List Nat → Prop
  | eval {lv h : Nat} {t : Tr} {w : Ws} {ns : List Ws} {x : List Nat} : Pe lv h t w ns x → Ps (h + 1) (.t [str "eval", t]) w ns x
  | set {lv h : Nat} {t : Tr} {w : Ws} {ns : List Ws} {x a : List Nat} : IsName a → Pe lv h t w ns x → Ps (h + 1) (.t [str "set", .s a, t]) (a :: cds ":=" :: w) ns (a ++ cds " := " ++ x)
  | gf {lv h : Nat} {t : Tr} {w : Ws} {ns : List Ws} {x g : List Nat} : g = cds "give" ∨ g = cds "fail" → Pe lv h t w ns x → Ps (h + 1) (.t [.s g, t]) (g :: w) ns (g ++ cds " " ++ x)
  | whl {lv h : Nat} {t : Tr} {w : Ws} {ns : List Ws} {x : List Nat} {l : List Tr} {w2 : Ws} {n2 : List Ws} {ys : Ws} : Pe lv h t w ns x → Pb h l w2 n2 ys → Ps (h + 1) (.t [str "while", t, .t l]) (cds "while" :: (w ++ cds "do" :: (w2 ++ [cds "end"]))) (ns ++ n2) (spd [cds "while", x, cds "do", jnS (cds "; ") ys, cds "end"])
  | if0 {lv h : Nat} {t : Tr} {w : Ws} {ns : List Ws} {x : List Nat} {l : List Tr} {w2 : Ws} {n2 : List Ws} {ys : Ws} : Pe lv h t w ns x → Pb h l w2 n2 ys → Ps (h + 1) (.t [str "if", t, .t l, .t []]) (cds "if" :: (w ++ cds "then" :: (w2 ++ [cds "end"]))) (ns ++ n2) (spd [cds "if", x, cds "then", jnS (cds "; ") ys, cds "end"])
  | if1 {lv h : Nat} {t : Tr} {w : Ws} {ns : List Ws} {x : List Nat} {l : List Tr} {w2 : Ws} {n2 : List Ws} {ys : Ws} {l3 : List Tr} {w3 : Ws} {n3 : List Ws} {zs : Ws} : Pe lv h t w ns x → Pb h l w2 n2 ys → l3 ≠ [] → Pb h l3 w3 n3 zs → Ps (h + 1) (.t [str "if", t, .t l, .t l3]) (cds "if" :: (w ++ cds "then" :: (w2 ++ cds "else" :: (w3 ++ [cds "end"])))) (ns ++ (n2 ++ n3)) (spd [cds "if", x, cds "then", jnS (cds "; ") ys, cds "else", jnS (cds "; ") zs, cds "end"])
  | try_ {h : Nat} {l : List Tr} {w : Ws} {ns : List Ws} {ys : Ws} {a : List Nat} {l2 : List Tr} {w2 : Ws} {n2 : List Ws} {zs : Ws} : Pb h l w ns ys → IsName a → Pb h l2 w2 n2 zs → Ps (h + 1) (.t [str "try", .t l, .s a, .t l2]) (cds "try" :: (w ++ cds "catch" :: a :: cds "then" :: (w2 ++ [cds "end"]))) (ns ++ n2) (spd [cds "try", jnS (cds "; ") ys, cds "catch", a, cds "then", jnS (cds "; ") zs, cds "end"])
  | keep {h : Nat} {l : List Tr} {w : Ws} {ns : List Ws} {ys : Ws} {l2 : List Tr} {w2 : Ws} {n2 : List Ws} {zs : Ws} : Pb h l w ns ys → Pb h l2 w2 n2 zs → Ps (h + 1) (.t [str "keep", .t l, .t l2]) (cds "keep" :: (w ++ cds "always" :: (w2 ++ [cds "end"]))) (ns ++ n2) (spd [cds "keep", jnS (cds "; ") ys, cds "always", jnS (cds "; ") zs, cds "end"])
inductive Pq : Nat → List Tr → Ws → List Ws → Ws → Prop
  | nil {h : Nat} : Pq h [] [] [] []
  | cons {h : Nat} {t : Tr} {w : Ws} {ns : List Ws} {x : List Nat} {l : List Tr} {w2 : Ws} {n2 : List Ws} {ys : Ws} : Ps h t w ns x → Pq h l w2 n2 ys → Pq h (t :: l) (cds ";" :: (w ++ w2)) (ns ++ n2) (x :: ys)
inductive Pb : Nat → List Tr → Ws → List Ws → Ws → Prop
  | nil {h : Nat} : Pb h [] [] [] []
  | cons {h : Nat} {t : Tr} {w : Ws} {ns : List Ws} {x : List Nat} {l : List Tr} {w2 : Ws} {n2 : List Ws} {ys : Ws} : Ps h t w ns x → Pq h l w2 n2 ys → Pb h (t :: l) (w ++ w2) (ns ++ n2) (x :: ys)
end
/-! ### higher -/
mutual
theorem Pe.up : ∀ {lv h : Nat} {t : Tr} {w : Ws} {ns : List Ws} {x : List Nat}, Pe lv h t w ns x → Pe lv (h + 1) t w ns x
  | _, _, _, _, _, _, .num n => .num n
  | _, _, _, _, _, _, .text n => .text n
  | _, _, _, _, _, _, .word n => .word n
  | _, _, _, _, _, _, .self => .self
  | _, _, _, _, _, _, .new n => .new n
  | _, _, _, _, _, _, .name n => .name n
  | _, _, _, _, _, _, .neg p => .neg (Pp.up p)
  | _, _, _, _, _, _, .not p => .not (Pp.up p)
  | _, _, _, _, _, _, .bin a b p q => .bin a b (Pp.up p) (Pp.up q)
  | _, _, _, _, _, _, .send p n a => .send (Pp.up p) n (Pa.up a)
  | _, _, _, _, _, _, .sup n a => .sup n (Pa.up a)
  | _, _, _, _, _, _, .blk0 b => .blk0 (Pb.up b)
  | _, _, _, _, _, _, .blk a c d b => .blk a c d (Pb.up b)
theorem Pp.up : ∀ {a h : Nat} {t : Tr} {w : Ws} {ns : List Ws} {x : List Nat}, Pp a h t w ns x → Pp a (h + 1) t w ns x
  | _, _, _, _, _, _, .go l p => .go l (Pe.up p)
  | _, _, _, _, _, _, .br l p => .br l (Pe.up p)
theorem Pl.up : ∀ {h : Nat} {l : List Tr} {w : Ws} {ns : List Ws} {ys : Ws}, Pl h l w ns ys → Pl (h + 1) l w ns ys
  | _, _, _, _, _, .nil => .nil
  | _, _, _, _, _, .cons p q => .cons (Pe.up p) (Pl.up q)
theorem Pa.up : ∀ {h : Nat} {l : List Tr} {w : Ws} {ns : List Ws} {ys : Ws}, Pa h l w ns ys → Pa (h + 1) l w ns ys
  | _, _, _, _, _, .nil => .nil
  | _, _, _, _, _, .cons p q n => .cons (Pe.up p) (Pl.up q) n
theorem Ps.up : ∀ {h : Nat} {t : Tr} {w : Ws} {ns : List Ws} {x : List Nat}, Ps h t w ns x → Ps (h + 1) t w ns x
  | _, _, _, _, _, .eval p => .eval (Pe.up p)
  | _, _, _, _, _, .set n p => .set n (Pe.up p)
  | _, _, _, _, _, .gf n p => .gf n (Pe.up p)
  | _, _, _, _, _, .whl p q => .whl (Pe.up p) (Pb.up q)
  | _, _, _, _, _, .if0 p q => .if0 (Pe.up p) (Pb.up q)
  | _, _, _, _, _, .if1 p q n r => .if1 (Pe.up p) (Pb.up q) n (Pb.up r)
  | _, _, _, _, _, .try_ p n q => .try_ (Pb.up p) n (Pb.up q)
  | _, _, _, _, _, .keep p q => .keep (Pb.up p) (Pb.up q)
theorem Pq.up : ∀ {h : Nat} {l : List Tr} {w : Ws} {ns : List Ws} {ys : Ws}, Pq h l w ns ys → Pq (h + 1) l w ns ys
  | _, _, _, _, _, .nil => .nil
  | _, _, _, _, _, .cons p q => .cons (Ps.up p) (Pq.up q)
theorem Pb.up : ∀ {h : Nat} {l : List Tr} {w : Ws} {ns : List Ws} {ys : Ws}, Pb h l w ns ys → Pb (h + 1) l w ns ys
  | _, _, _, _, _, .nil => .nil
  | _, _, _, _, _, .cons p q => .cons (Ps.up p) (Pq.up q)
end
theorem Pe.mono {lv h m : Nat} {t : Tr} {w : Ws} {ns : List Ws} {x : List Nat} (p : Pe lv h t w ns x) (l : h ≤ m) : Pe lv m t w ns x := by
  induction l with
  | refl => exact p
  | step _ ih => exact ih.up
/-! ### levels -/
theorem behN_le {s : List Nat} {l : Nat} (h : behN.lookup s = some l) (n : s ≠ cds ".") : 1 ≤ l ∧ l ≤ 6 := by
  unfold behN at h
  simp only [List.lookup] at h
  repeat' split at h
  all_goals (first | (cases h; done) | (cases h; exact ⟨by decide, by decide⟩) | (rename_i e; exact absurd (eq_of_beq e) n))
theorem Pe.lv {lv h : Nat} {t : Tr} {w : Ws} {ns : List Ws} {x : List Nat} (p : Pe lv h t w ns x) : 1 ≤ lv ∧ lv ≤ 9 := by
  cases p <;> first | exact ⟨by decide, by decide⟩ | skip
  rename_i a b _ _
  have := behN_le b a
  omega
end
section
/-! Each derivation has a printed form. -/
open PySem PySem.Spec PyProof.Rows L2
open TL (numL tl_num numL_digits numL_ne numL_val numL_len numL_lt numL_step)
theorem k_ne : cds "number" ≠ cds "mark" ∧ cds "number" ≠ cds "word" ∧ cds "number" ≠ cds "class" ∧ cds "number" ≠ cds "text" ∧ cds "number" ≠ cds "name" ∧ cds "name" ≠ cds "mark" ∧ cds "name" ≠ cds "word" ∧ cds "name" ≠ cds "class" ∧ cds "name" ≠ cds "text" ∧ cds "class" ≠ cds "mark" ∧ cds "class" ≠ cds "word" ∧ cds "class" ≠ cds "text" ∧ cds "text" ≠ cds "mark" ∧ cds "text" ≠ cds "word" := by decide +kernel
theorem tok_num {a : List Nat} {x : Int} (h : tk a = (cds "number", .int x)) (g : Tok a) : ∃ n : Nat, n ≤ 1000000000 ∧ a = numL n ∧ x = (n : Int) := by
  obtain ⟨n1, n2, n3, n4, n5, _⟩ := k_ne
  obtain ⟨k, v, d⟩ := g
  have e := drawn_tk d
  rw [h] at e
  obtain ⟨e1, e2⟩ := Prod.mk.inj e
  cases d with
  | number hn => exact ⟨_, hn, rfl, V.int.inj e2⟩
  | mark _ => exact absurd e1 n1
  | word _ => exact absurd e1 n2
  | cls _ => exact absurd e1 n3
  | text _ => exact absurd e1 n4
  | name _ => exact absurd e1 n5
theorem tok_name {a : List Nat} (h : isNm a) (g : Tok a) : IsName a := by
  obtain ⟨n1, n2, n3, n4, n5, n6, n7, n8, n9, _⟩ := k_ne
  obtain ⟨k, v, d⟩ := g
  have e := drawn_tk d
  unfold isNm at h
  rw [h] at e
  obtain ⟨e1, e2⟩ := Prod.mk.inj e
  cases d with
  | number hn => exact absurd e1.symm n5
  | mark _ => exact absurd e1 n6
  | word _ => exact absurd e1 n7
  | cls _ => exact absurd e1 n8
  | text _ => exact absurd e1 n9
  | name h => exact h
theorem tok_class {a : List Nat} (h : tk a = (cds "class", T a)) (g : Tok a) : IsClass a := by
  obtain ⟨n1, n2, n3, n4, n5, n6, n7, n8, n9, n10, n11, n12, _⟩ := k_ne
  obtain ⟨k, v, d⟩ := g
  have e := drawn_tk d
  rw [h] at e
  obtain ⟨e1, e2⟩ := Prod.mk.inj e
  cases d with
  | number hn => exact absurd e1.symm n3
  | mark _ => exact absurd e1 n10
  | word _ => exact absurd e1 n11
  | cls h => exact h
  | text _ => exact absurd e1 n12
  | name _ => exact absurd e1.symm n8
theorem tok_text {a b : List Nat} (h : tk a = (cds "text", T b)) (g : Tok a) : IsText b ∧ a = 39 :: (b ++ [39]) := by
  obtain ⟨n1, n2, n3, n4, n5, n6, n7, n8, n9, n10, n11, n12, n13, n14⟩ := k_ne
  obtain ⟨k, v, d⟩ := g
  have e := drawn_tk d
  rw [h] at e
  obtain ⟨e1, e2⟩ := Prod.mk.inj e
  cases d with
  | number hn => exact absurd e1.symm n4
  | mark _ => exact absurd e1 n13
  | word _ => exact absurd e1 n14
  | cls _ => exact absurd e1.symm n12
  | text ht => have := T_inj e2; subst this; exact ⟨ht, rfl⟩
  | name _ => exact absurd e1.symm n9
abbrev Tks (w : Ws) : Prop := ∀ a ∈ w, Tok a
theorem Tks.l {u v : Ws} (h : Tks (u ++ v)) : Tks u := fun a ha => h a (List.mem_append_left _ ha)
theorem Tks.r {u v : Ws} (h : Tks (u ++ v)) : Tks v := fun a ha => h a (List.mem_append_right _ ha)
theorem Tks.hd {a : List Nat} {v : Ws} (h : Tks (a :: v)) : Tok a := h a List.mem_cons_self
theorem Tks.tl {a : List Nat} {v : Ws} (h : Tks (a :: v)) : Tks v := fun b hb => h b (List.mem_cons_of_mem _ hb)
theorem wt_cons' (a : List Nat) (w : Ws) : wt (a :: w) = a.length + 3 + wt w := rfl
theorem Pp.le {a b h : Nat} {t : Tr} {w : Ws} {ns : List Ws} {x : List Nat} (p : Pp b h t w ns x) (l : a ≤ b) : ∃ w' x', Pp a h t w' ns x' ∧ wt w' ≤ wt w := by
  cases p with
  | go q p => exact ⟨_, _, .go (Nat.le_trans l q) p, Nat.le_refl _⟩
  | br q p =>
    rename_i lv h w x
    by_cases c : a ≤ lv
    · exact ⟨_, _, .go c p.up, by rw [wt_cons', wt_append]; omega⟩
    · exact ⟨_, _, .br (by omega) p, Nat.le_refl _⟩
theorem Pp.any {a h : Nat} {t : Tr} {w : Ws} {ns : List Ws} {x : List Nat} (p : Pp a h t w ns x) : ∃ lv w' x', Pe lv h t w' ns x' ∧ wt w' ≤ wt w := by
  cases p with
  | go q p => exact ⟨_, _, _, p, Nat.le_refl _⟩
  | br q p => exact ⟨_, _, _, p.up, by rw [wt_cons', wt_append]; omega⟩
def EP (h : Nat) : Prop := ∀ {lv : Nat} {t : Tr} {w : Ws} {ns : List Ws}, Ex lv h t w ns → Tks w → ∃ w' x, Pp lv h t w' ns x ∧ wt w' ≤ wt w
def SP (h : Nat) : Prop := ∀ {t : Tr} {w : Ws} {ns : List Ws}, St h t w ns → Tks w → ∃ w' x, Ps h t w' ns x ∧ wt w' ≤ wt w
theorem EP.pe {h lv : Nat} {t : Tr} {w : Ws} {ns : List Ws} (E : EP h) (e : Ex lv h t w ns) (k : Tks w) : ∃ lv' w' x, Pe lv' h t w' ns x ∧ wt w' ≤ wt w := by
  obtain ⟨w1, x1, p1, l1⟩ := E e k
  obtain ⟨lv2, w2, x2, p2, l2⟩ := p1.any
  exact ⟨lv2, w2, x2, p2, Nat.le_trans l2 l1⟩
theorem al_pr {h : Nat} (E : EP h) : ∀ {l : List Tr} {w : Ws} {ns : List Ws}, Al h l w ns → Tks w → ∃ w' ys, Pl h l w' ns ys ∧ wt w' ≤ wt w
  | _, _, _, .nil, _ => ⟨_, _, .nil, Nat.le_refl _⟩
  | _, _, _, .cons _ e r, k => by
    obtain ⟨lv, w1, x1, p1, l1⟩ := E.pe e k.tl.l
    obtain ⟨w2, y2, p2, l2⟩ := al_pr E r k.tl.r
    exact ⟨_, _, .cons p1 p2, by rw [wt_cons', wt_cons', wt_append, wt_append]; omega⟩
theorem ar_pr {h : Nat} (E : EP h) {l : List Tr} {w : Ws} {ns : List Ws} (a : Ar h l w ns) (k : Tks w) : ∃ w' ys, Pa h l w' ns ys ∧ wt w' ≤ wt w := by
  cases a with
  | nil => exact ⟨_, _, .nil, Nat.le_refl _⟩
  | cons _ e r n =>
    obtain ⟨lv, w1, x1, p1, l1⟩ := E.pe e k.l
    obtain ⟨w2, y2, p2, l2⟩ := al_pr E r k.r
    exact ⟨_, _, .cons p1 p2 n, by rw [wt_append, wt_append]; omega⟩
theorem bl_pr {h : Nat} (S : SP h) : ∀ {l : List Tr} {w : Ws} {ns : List Ws}, Bl h l w ns → Tks w → ∃ w' ys, Pq h l w' ns ys ∧ wt w' ≤ wt w
  | _, _, _, .nil, _ => ⟨_, _, .nil, Nat.le_refl _⟩
  | _, _, _, .cons e r, k => by
    obtain ⟨w1, x1, p1, l1⟩ := S e k.tl.l
    obtain ⟨w2, y2, p2, l2⟩ := bl_pr S r k.tl.r
    exact ⟨_, _, .cons p1 p2, by rw [wt_cons', wt_cons', wt_append, wt_append]; omega⟩
theorem bd_pr {h : Nat} (S : SP h) {l : List Tr} {w : Ws} {ns : List Ws} (a : Bd h l w ns) (k : Tks w) : ∃ w' ys, Pb h l w' ns ys ∧ wt w' ≤ wt w := by
  cases a with
  | nil => exact ⟨_, _, .nil, Nat.le_refl _⟩
  | cons e r =>
    obtain ⟨w1, x1, p1, l1⟩ := S e k.l
    obtain ⟨w2, y2, p2, l2⟩ := bl_pr S r k.r
    exact ⟨_, _, .cons p1 p2, by rw [wt_append, wt_append]; omega⟩
theorem mem_commas {a : List Nat} : ∀ {l : Ws}, a ∈ l → a ∈ commas l
  | b :: l, h => by
    rw [commas_cons]
    rcases List.mem_cons.mp h with rfl | h
    · exact List.mem_cons_self
    · exact List.mem_cons_of_mem _ (List.mem_flatMap.mpr ⟨a, h, List.mem_cons_of_mem _ List.mem_cons_self⟩)
theorem pr_step {h : Nat} (E : EP h) (S : SP h) : EP (h + 1) ∧ SP (h + 1) := by
  constructor
  · intro lv t w ns e k
    cases e with
    | num e => obtain ⟨n, hn, rfl, rfl⟩ := tok_num e k.hd; exact ⟨_, _, .go (Nat.le_refl _) (.num hn), Nat.le_refl _⟩
    | text e => obtain ⟨ht, rfl⟩ := tok_text e k.hd; exact ⟨_, _, .go (Nat.le_refl _) (.text ht), Nat.le_refl _⟩
    | word e => exact ⟨_, _, .go (Nat.le_refl _) (.word e), Nat.le_refl _⟩
    | self => exact ⟨_, _, .go (Nat.le_refl _) .self, Nat.le_refl _⟩
    | new e => exact ⟨_, _, .go (Nat.le_refl _) (.new (tok_class e k.tl.hd)), Nat.le_refl _⟩
    | name e => exact ⟨_, _, .go (Nat.le_refl _) (.name (tok_name e k.hd)), Nat.le_refl _⟩
    | par l e =>
      obtain ⟨w1, x1, p1, l1⟩ := E e k.tl.l
      cases p1 with
      | go q p =>
        rename_i lv0
        by_cases c : 9 ≤ lv0
        · exact ⟨_, _, .go c p.up, by rw [wt_cons', wt_append]; omega⟩
        · exact ⟨_, _, .br (by omega) p, by rw [wt_cons', wt_cons', wt_append, wt_append]; omega⟩
      | br q p =>
        have := p.lv
        rename_i lv0 h w1 x1
        by_cases c : 9 ≤ lv0
        · exact ⟨_, _, .go c p.up.up, by rw [wt_cons', wt_append] at l1 ⊢; omega⟩
        · exact ⟨_, _, .br (by omega) p.up, by simp only [wt_append, wt_cons'] at l1 ⊢; omega⟩
    | neg l e =>
      obtain ⟨w1, x1, p1, l1⟩ := E e k.tl
      obtain ⟨w2, x2, p2, l2⟩ := p1.le l
      exact ⟨_, _, .go (Nat.le_refl _) (.neg p2), by rw [wt_cons', wt_cons']; omega⟩
    | not l e =>
      obtain ⟨w1, x1, p1, l1⟩ := E e k.tl
      obtain ⟨w2, x2, p2, l2⟩ := p1.le l
      exact ⟨_, _, .go (Nat.le_refl _) (.not p2), by rw [wt_cons', wt_cons']; omega⟩
    | bin a b l e l' e' =>
      obtain ⟨w1, x1, p1, l1⟩ := E e k.l
      obtain ⟨w2, x2, p2, l2⟩ := p1.le l
      obtain ⟨w3, x3, p3, l3⟩ := E e' k.r.tl
      obtain ⟨w4, x4, p4, l4⟩ := p3.le l'
      exact ⟨_, _, .go (Nat.le_refl _) (.bin a b p2 p4), by rw [wt_append, wt_append, wt_cons', wt_cons']; omega⟩
    | send l e n a =>
      obtain ⟨w1, x1, p1, l1⟩ := E e k.l
      obtain ⟨w2, x2, p2, l2⟩ := p1.le l
      obtain ⟨w3, ys, p3, l3⟩ := ar_pr E a k.r.tl.tl.tl.l
      exact ⟨_, _, .go (Nat.le_refl _) (.send p2 (tok_name n k.r.tl.hd) p3), by simp only [wt_append, wt_cons']; omega⟩
    | sup n a =>
      obtain ⟨w3, ys, p3, l3⟩ := ar_pr E a k.tl.tl.tl.tl.l
      exact ⟨_, _, .go (Nat.le_refl _) (.sup (tok_name n k.tl.tl.hd) p3), by simp only [wt_append, wt_cons']; omega⟩
    | blk0 b =>
      obtain ⟨w3, ys, p3, l3⟩ := bd_pr S b k.tl.l
      exact ⟨_, _, .go (Nat.le_refl _) (.blk0 p3), by simp only [wt_append, wt_cons']; omega⟩
    | blk h0 h4 hn b =>
      obtain ⟨w3, ys, p3, l3⟩ := bd_pr S b k.tl.r.tl.l
      refine ⟨_, _, .go (Nat.le_refl _) (.blk h0 h4 (fun x hx => tok_name (hn x hx) (k.tl.l x ?_)) p3), by simp only [wt_append, wt_cons']; omega⟩
      exact mem_commas hx
  · intro t w ns e k
    cases e with
    | eval _ e => obtain ⟨lv, w1, x1, p1, l1⟩ := E.pe e k; exact ⟨_, _, .eval p1, l1⟩
    | set n _ e => obtain ⟨lv, w1, x1, p1, l1⟩ := E.pe e k.tl.tl; exact ⟨_, _, .set (tok_name n k.hd) p1, by simp only [wt_cons']; omega⟩
    | gf g _ e => obtain ⟨lv, w1, x1, p1, l1⟩ := E.pe e k.tl; exact ⟨_, _, .gf g p1, by simp only [wt_cons']; omega⟩
    | whl _ e b =>
      obtain ⟨lv, w1, x1, p1, l1⟩ := E.pe e k.tl.l
      obtain ⟨w3, ys, p3, l3⟩ := bd_pr S b k.tl.r.tl.l
      exact ⟨_, _, .whl p1 p3, by simp only [wt_append, wt_cons']; omega⟩
    | if0 _ e b =>
      obtain ⟨lv, w1, x1, p1, l1⟩ := E.pe e k.tl.l
      obtain ⟨w3, ys, p3, l3⟩ := bd_pr S b k.tl.r.tl.l
      exact ⟨_, _, .if0 p1 p3, by simp only [wt_append, wt_cons']; omega⟩
    | if1 _ e b c =>
      obtain ⟨lv, w1, x1, p1, l1⟩ := E.pe e k.tl.l
      obtain ⟨w3, ys, p3, l3⟩ := bd_pr S b k.tl.r.tl.l
      cases c with
      | nil => exact ⟨_, _, by rw [List.append_nil]; exact .if0 p1 p3, by simp only [wt_append, wt_cons']; omega⟩
      | cons s r =>
        obtain ⟨w4, zs, p4, l4⟩ := bd_pr S (.cons s r) k.tl.r.tl.r.tl.l
        exact ⟨_, _, .if1 p1 p3 (List.cons_ne_nil _ _) p4, by simp only [wt_append, wt_cons'] at l4 ⊢; omega⟩
    | try_ b n c =>
      obtain ⟨w3, ys, p3, l3⟩ := bd_pr S b k.tl.l
      obtain ⟨w4, zs, p4, l4⟩ := bd_pr S c k.tl.r.tl.tl.tl.l
      exact ⟨_, _, .try_ p3 (tok_name n k.tl.r.tl.hd) p4, by simp only [wt_append, wt_cons'] at l4 ⊢; omega⟩
    | keep b c =>
      obtain ⟨w3, ys, p3, l3⟩ := bd_pr S b k.tl.l
      obtain ⟨w4, zs, p4, l4⟩ := bd_pr S c k.tl.r.tl.l
      exact ⟨_, _, .keep p3 p4, by simp only [wt_append, wt_cons'] at l4 ⊢; omega⟩
theorem all_pr : ∀ h, EP h ∧ SP h
  | 0 => by
    constructor
    · intro _ _ _ _ e _; cases e
    · intro _ _ _ e _; cases e
  | h + 1 => pr_step (all_pr h).1 (all_pr h).2
end
section
/-! A printed text is no longer than what is written of its tokens. -/
open PySem PySem.Spec PyProof.Rows L2
open TL (numL tl_num numL_digits numL_ne numL_val numL_len numL_lt numL_step)
def tot (l : Ws) : Nat := (l.map List.length).sum
theorem tot_cons (a : List Nat) (l : Ws) : tot (a :: l) = a.length + tot l := rfl
theorem tot_nil : tot [] = 0 := rfl
theorem wt_nil : wt [] = 0 := rfl
theorem jnS_len {s : List Nat} : ∀ {l : Ws}, (jnS s l).length + (if l = [] then 0 else s.length) = tot l + l.length * s.length
  | [] => by show (0 : Nat) + 0 = 0 + 0 * s.length; omega
  | a :: l => by
    have key : ∀ l : Ws, (l.flatMap fun b => s ++ b).length = tot l + l.length * s.length := fun l => by
      induction l with
      | nil => show 0 = 0 + 0 * s.length; omega
      | cons b l ih => rw [List.flatMap_cons, List.length_append, List.length_append, ih, tot_cons, List.length_cons, Nat.succ_mul]; omega
    show (a ++ l.flatMap fun b => s ++ b).length + _ = _
    rw [List.length_append, key, tot_cons, List.length_cons, Nat.succ_mul, if_neg (List.cons_ne_nil _ _)]
    omega
theorem jn_le2 (s : List Nat) (l : Ws) : (jnS s l).length ≤ tot l + l.length * s.length := by have := jnS_len (s := s) (l := l); omega
theorem jn_le1 {s : List Nat} {l : Ws} {m : Nat} (h : tot l + l.length * s.length ≤ m + s.length) : (jnS s l).length ≤ m := by
  have := jnS_len (s := s) (l := l)
  by_cases c : l = []
  · subst c; show 0 ≤ m; omega
  · rw [if_neg c] at this; omega
theorem tot_filter (p : List Nat → Bool) : ∀ l : Ws, tot (l.filter p) + (l.filter p).length ≤ tot l + l.length
  | [] => Nat.le_refl _
  | a :: l => by
    have := tot_filter p l
    rw [List.filter_cons]
    split
    · rw [tot_cons, tot_cons, List.length_cons, List.length_cons]; omega
    · rw [tot_cons, List.length_cons]; omega
theorem spd_len (l : Ws) : (spd l).length ≤ tot l + l.length := by
  have h1 := jn_le2 [32] (l.filter fun a => decide (a ≠ []))
  have h2 := tot_filter (fun a => decide (a ≠ [])) l
  unfold spd
  have e : ([32] : List Nat).length = 1 := rfl
  rw [e] at h1
  omega
theorem ln_0 : (cds "(").length = 1 := by decide +kernel
theorem ln_1 : (cds ")").length = 1 := by decide +kernel
theorem ln_2 : (cds "{").length = 1 := by decide +kernel
theorem ln_3 : (cds "}").length = 1 := by decide +kernel
theorem ln_4 : (cds "|").length = 1 := by decide +kernel
theorem ln_5 : (cds ",").length = 1 := by decide +kernel
theorem ln_6 : (cds ";").length = 1 := by decide +kernel
theorem ln_7 : (cds ".").length = 1 := by decide +kernel
theorem ln_8 : (cds "-").length = 1 := by decide +kernel
theorem ln_9 : (cds "not").length = 3 := by decide +kernel
theorem ln_10 : (cds "not ").length = 4 := by decide +kernel
theorem ln_11 : (cds "new").length = 3 := by decide +kernel
theorem ln_12 : (cds "new ").length = 4 := by decide +kernel
theorem ln_13 : (cds "self").length = 4 := by decide +kernel
theorem ln_14 : (cds "super").length = 5 := by decide +kernel
theorem ln_15 : (cds "'").length = 1 := by decide +kernel
theorem ln_16 : (cds " ").length = 1 := by decide +kernel
theorem ln_17 : (cds " | ").length = 3 := by decide +kernel
theorem ln_18 : (cds "; ").length = 2 := by decide +kernel
theorem ln_19 : (cds ", ").length = 2 := by decide +kernel
theorem ln_20 : (cds " := ").length = 4 := by decide +kernel
theorem ln_21 : (cds ":=").length = 2 := by decide +kernel
theorem ln_22 : (cds "while").length = 5 := by decide +kernel
theorem ln_23 : (cds "do").length = 2 := by decide +kernel
theorem ln_24 : (cds "end").length = 3 := by decide +kernel
theorem ln_25 : (cds "if").length = 2 := by decide +kernel
theorem ln_26 : (cds "then").length = 4 := by decide +kernel
theorem ln_27 : (cds "else").length = 4 := by decide +kernel
theorem ln_28 : (cds "try").length = 3 := by decide +kernel
theorem ln_29 : (cds "catch").length = 5 := by decide +kernel
theorem ln_30 : (cds "keep").length = 4 := by decide +kernel
theorem ln_31 : (cds "always").length = 6 := by decide +kernel
theorem ln_32 : (cds "give").length = 4 := by decide +kernel
theorem ln_33 : (cds "fail").length = 4 := by decide +kernel
theorem ln_34 : (cds "method").length = 6 := by decide +kernel
theorem ln_35 : (cds "var").length = 3 := by decide +kernel
local macro_rules | `(tactic| walk_at "ln") => `(tactic| (simp only [wt_append, wt_cons', wt_nil, tot_cons, tot_nil, List.length_append, List.length_cons, List.length_nil, brk, ln_0, ln_1, ln_2, ln_3, ln_4, ln_5, ln_6, ln_7, ln_8, ln_9, ln_10, ln_11, ln_12, ln_13, ln_14, ln_15, ln_16, ln_17, ln_18, ln_19, ln_20, ln_21, ln_22, ln_23, ln_24, ln_25, ln_26, ln_27, ln_28, ln_29, ln_30, ln_31, ln_32, ln_33, ln_34, ln_35] at * <;> omega))
theorem wt_commas_le : ∀ ps : Ws, (jn ps).length ≤ wt (commas ps)
  | [] => Nat.zero_le _
  | [a] => by show (a ++ []).length ≤ a.length + 3 + 0; rw [List.append_nil]; omega
  | a :: b :: l => by
    have h := wt_commas_le (b :: l)
    show (a ++ (b :: l).flatMap fun b => cds ", " ++ b).length ≤ a.length + 3 + ((cds ",").length + 3 + wt (commas (b :: l)))
    have e : (a ++ (b :: l).flatMap fun b => cds ", " ++ b) = a ++ (cds ", " ++ jn (b :: l)) := by
      rw [List.flatMap_cons, List.append_assoc]; rfl
    rw [e]
    walk_at "ln"
mutual
theorem Pe.len : ∀ {lv h : Nat} {t : Tr} {w : Ws} {ns : List Ws} {x : List Nat}, Pe lv h t w ns x → x.length + 3 ≤ wt w
  | _, _, _, _, _, _, .num n => by walk_at "ln"
  | _, _, _, _, _, _, .text n => by walk_at "ln"
  | _, _, _, _, _, _, .word n => by walk_at "ln"
  | _, _, _, _, _, _, .self => by walk_at "ln"
  | _, _, _, _, _, _, .new n => by walk_at "ln"
  | _, _, _, _, _, _, .name n => by walk_at "ln"
  | _, _, _, _, _, _, .neg p => by have h := Pp.len p; walk_at "ln"
  | _, _, _, _, _, _, .not p => by have h := Pp.len p; walk_at "ln"
  | _, _, _, _, _, _, .bin a b p q => by have h := Pp.len p; have h2 := Pp.len q; clear a b p q; walk_at "ln"
  | _, _, _, _, _, _, .send (ys := ys) p n a => by have h := Pp.len p; have h2 := Pa.len a; have h3 := jn_le1 (s := cds ", ") (l := ys) (m := wt _) (by rw [show (cds ", ").length = 2 from by decide +kernel]; omega); rw [jnS_jn] at h3; clear h2 p n a; walk_at "ln"
  | _, _, _, _, _, _, .sup (ys := ys) n a => by have h2 := Pa.len a; have h3 := jn_le1 (s := cds ", ") (l := ys) (m := wt _) (by rw [show (cds ", ").length = 2 from by decide +kernel]; omega); rw [jnS_jn] at h3; clear h2 n a; walk_at "ln"
  | _, _, _, _, _, _, .blk0 (ys := ys) b => by have h2 := Pb.len b; have h3 := jn_le1 (s := cds "; ") (l := ys) (m := wt _) (by rw [show (cds "; ").length = 2 from by decide +kernel]; omega); clear h2 b; walk_at "ln"
  | _, _, _, _, _, _, .blk (ps := ps) (ys := ys) a c d b => by have h2 := Pb.len b; have h4 := wt_commas_le ps; have h3 := jn_le1 (s := cds "; ") (l := ys) (m := wt _) (by rw [show (cds "; ").length = 2 from by decide +kernel]; omega); clear h2 a b c d; walk_at "ln"
theorem Pp.len : ∀ {a h : Nat} {t : Tr} {w : Ws} {ns : List Ws} {x : List Nat}, Pp a h t w ns x → x.length + 3 ≤ wt w
  | _, _, _, _, _, _, .go l p => Pe.len p
  | _, _, _, _, _, _, .br l p => by have h := Pe.len p; clear p; walk_at "ln"
theorem Pl.len : ∀ {h : Nat} {l : List Tr} {w : Ws} {ns : List Ws} {ys : Ws}, Pl h l w ns ys → tot ys + ys.length * 2 ≤ wt w
  | _, _, _, _, _, .nil => Nat.le_refl _
  | _, _, _, _, _, .cons p q => by have h := Pe.len p; have h2 := Pl.len q; clear p q; walk_at "ln"
theorem Pa.len : ∀ {h : Nat} {l : List Tr} {w : Ws} {ns : List Ws} {ys : Ws}, Pa h l w ns ys → tot ys + ys.length * 2 ≤ wt w + 2
  | _, _, _, _, _, .nil => by walk_at "ln"
  | _, _, _, _, _, .cons p q n => by have h := Pe.len p; have h2 := Pl.len q; clear p q; walk_at "ln"
theorem Ps.len : ∀ {h : Nat} {t : Tr} {w : Ws} {ns : List Ws} {x : List Nat}, Ps h t w ns x → x.length + 3 ≤ wt w
  | _, _, _, _, _, .eval p => Pe.len p
  | _, _, _, _, _, .set n p => by have h := Pe.len p; clear p n; walk_at "ln"
  | _, _, _, _, _, .gf n p => by have h := Pe.len p; clear p; rcases n with rfl | rfl <;> walk_at "ln"
  | _, _, _, _, _, .whl (x := x) (ys := ys) p q => by
    have h := Pe.len p; have h2 := Pb.len q; have h3 := jn_le1 (s := cds "; ") (l := ys) (m := wt _) (by rw [show (cds "; ").length = 2 from by decide +kernel]; omega)
    have h4 := spd_len [cds "while", x, cds "do", jnS (cds "; ") ys, cds "end"]; clear h2 p q; walk_at "ln"
  | _, _, _, _, _, .if0 (x := x) (ys := ys) p q => by
    have h := Pe.len p; have h2 := Pb.len q; have h3 := jn_le1 (s := cds "; ") (l := ys) (m := wt _) (by rw [show (cds "; ").length = 2 from by decide +kernel]; omega)
    have h4 := spd_len [cds "if", x, cds "then", jnS (cds "; ") ys, cds "end"]; clear h2 p q; walk_at "ln"
  | _, _, _, _, _, .if1 (x := x) (ys := ys) (zs := zs) p q n r => by
    have h := Pe.len p; have h2 := Pb.len q; have h3 := jn_le1 (s := cds "; ") (l := ys) (m := wt _) (by rw [show (cds "; ").length = 2 from by decide +kernel]; omega)
    have h5 := Pb.len r; have h6 := jn_le1 (s := cds "; ") (l := zs) (m := wt _) (by rw [show (cds "; ").length = 2 from by decide +kernel]; omega)
    have h4 := spd_len [cds "if", x, cds "then", jnS (cds "; ") ys, cds "else", jnS (cds "; ") zs, cds "end"]; clear h2 h5 p q r n; walk_at "ln"
  | _, _, _, _, _, .try_ (ys := ys) (a := a) (zs := zs) p n q => by
    have h2 := Pb.len p; have h3 := jn_le1 (s := cds "; ") (l := ys) (m := wt _) (by rw [show (cds "; ").length = 2 from by decide +kernel]; omega)
    have h5 := Pb.len q; have h6 := jn_le1 (s := cds "; ") (l := zs) (m := wt _) (by rw [show (cds "; ").length = 2 from by decide +kernel]; omega)
    have h4 := spd_len [cds "try", jnS (cds "; ") ys, cds "catch", a, cds "then", jnS (cds "; ") zs, cds "end"]; clear h2 h5 p n q; walk_at "ln"
  | _, _, _, _, _, .keep (ys := ys) (zs := zs) p q => by
    have h2 := Pb.len p; have h3 := jn_le1 (s := cds "; ") (l := ys) (m := wt _) (by rw [show (cds "; ").length = 2 from by decide +kernel]; omega)
    have h5 := Pb.len q; have h6 := jn_le1 (s := cds "; ") (l := zs) (m := wt _) (by rw [show (cds "; ").length = 2 from by decide +kernel]; omega)
    have h4 := spd_len [cds "keep", jnS (cds "; ") ys, cds "always", jnS (cds "; ") zs, cds "end"]; clear h2 h5 p q; walk_at "ln"
theorem Pq.len : ∀ {h : Nat} {l : List Tr} {w : Ws} {ns : List Ws} {ys : Ws}, Pq h l w ns ys → tot ys + ys.length * 2 ≤ wt w
  | _, _, _, _, _, .nil => Nat.le_refl _
  | _, _, _, _, _, .cons p q => by have h := Ps.len p; have h2 := Pq.len q; clear p q; walk_at "ln"
theorem Pb.len : ∀ {h : Nat} {l : List Tr} {w : Ws} {ns : List Ws} {ys : Ws}, Pb h l w ns ys → tot ys + ys.length * 2 ≤ wt w + 2
  | _, _, _, _, _, .nil => by walk_at "ln"
  | _, _, _, _, _, .cons p q => by have h := Ps.len p; have h2 := Pq.len q; clear p q; walk_at "ln"
end
theorem Pa.txt {h : Nat} {l : List Tr} {w : Ws} {ns : List Ws} {ys : Ws} (p : Pa h l w ns ys) : (jn ys).length ≤ wt w := by
  have h2 := p.len
  rw [← jnS_jn]
  exact jn_le1 (by rw [show (cds ", ").length = 2 from by decide +kernel]; omega)
theorem Pb.txt {h : Nat} {l : List Tr} {w : Ws} {ns : List Ws} {ys : Ws} (p : Pb h l w ns ys) : (jnS (cds "; ") ys).length ≤ wt w := by
  have h2 := p.len
  exact jn_le1 (by rw [show (cds "; ").length = 2 from by decide +kernel]; omega)
end
section
/-! The parts of a printed list. -/
open PySem PySem.Spec PyProof.Rows L2
theorem Pl.get : ∀ {h : Nat} {l : List Tr} {w : Ws} {ns : List Ws} {ys : Ws}, Pl h l w ns ys → l.length = ys.length ∧ ∀ (i : Nat) (t : Tr), l[i]? = some t → ∃ x lv w' ns', ys[i]? = some x ∧ Pe lv h t w' ns' x ∧ wt w' ≤ wt w
  | _, _, _, _, _, .nil => ⟨rfl, fun i t e => by simp at e⟩
  | _, _, _, _, _, .cons p q => by
    obtain ⟨e, g⟩ := Pl.get q
    refine ⟨by rw [List.length_cons, List.length_cons, e], fun i t hi => ?_⟩
    cases i with
    | zero => cases hi; exact ⟨_, _, _, _, rfl, p, by rw [wt_cons', wt_append]; omega⟩
    | succ i =>
      obtain ⟨x, lv, w', ns', h1, h2, h3⟩ := g i t (by simpa using hi)
      exact ⟨x, lv, w', ns', by simpa using h1, h2, by rw [wt_cons', wt_append]; omega⟩
theorem Pa.get {h : Nat} {l : List Tr} {w : Ws} {ns : List Ws} {ys : Ws} (a : Pa h l w ns ys) : l.length = ys.length ∧ ∀ (i : Nat) (t : Tr), l[i]? = some t → ∃ x lv w' ns', ys[i]? = some x ∧ Pe lv h t w' ns' x ∧ wt w' ≤ wt w := by
  cases a with
  | nil => exact ⟨rfl, fun i t e => by simp at e⟩
  | cons p q _ =>
    obtain ⟨e, g⟩ := Pl.get q
    refine ⟨by rw [List.length_cons, List.length_cons, e], fun i t hi => ?_⟩
    cases i with
    | zero => cases hi; exact ⟨_, _, _, _, rfl, p, by rw [wt_append]; omega⟩
    | succ i =>
      obtain ⟨x, lv, w', ns', h1, h2, h3⟩ := g i t (by simpa using hi)
      exact ⟨x, lv, w', ns', by simpa using h1, h2, by rw [wt_append]; omega⟩
theorem Pq.get : ∀ {h : Nat} {l : List Tr} {w : Ws} {ns : List Ws} {ys : Ws}, Pq h l w ns ys → l.length = ys.length ∧ ∀ (i : Nat) (t : Tr), l[i]? = some t → ∃ x w' ns', ys[i]? = some x ∧ Ps h t w' ns' x ∧ wt w' ≤ wt w
  | _, _, _, _, _, .nil => ⟨rfl, fun i t e => by simp at e⟩
  | _, _, _, _, _, .cons p q => by
    obtain ⟨e, g⟩ := Pq.get q
    refine ⟨by rw [List.length_cons, List.length_cons, e], fun i t hi => ?_⟩
    cases i with
    | zero => cases hi; exact ⟨_, _, _, rfl, p, by rw [wt_cons', wt_append]; omega⟩
    | succ i =>
      obtain ⟨x, w', ns', h1, h2, h3⟩ := g i t (by simpa using hi)
      exact ⟨x, w', ns', by simpa using h1, h2, by rw [wt_cons', wt_append]; omega⟩
theorem Pb.get {h : Nat} {l : List Tr} {w : Ws} {ns : List Ws} {ys : Ws} (a : Pb h l w ns ys) : l.length = ys.length ∧ ∀ (i : Nat) (t : Tr), l[i]? = some t → ∃ x w' ns', ys[i]? = some x ∧ Ps h t w' ns' x ∧ wt w' ≤ wt w := by
  cases a with
  | nil => exact ⟨rfl, fun i t e => by simp at e⟩
  | cons p q =>
    obtain ⟨e, g⟩ := Pq.get q
    refine ⟨by rw [List.length_cons, List.length_cons, e], fun i t hi => ?_⟩
    cases i with
    | zero => cases hi; exact ⟨_, _, _, rfl, p, by rw [wt_append]; omega⟩
    | succ i =>
      obtain ⟨x, w', ns', h1, h2, h3⟩ := g i t (by simpa using hi)
      exact ⟨x, w', ns', by simpa using h1, h2, by rw [wt_append]; omega⟩
theorem lvA_not : aheadN.lookup (cds "not") = some 3 := by decide +kernel
theorem lvA_neg : aheadN.lookup (cds "-") = some 7 := by decide +kernel
theorem lvB_dot : behN.lookup (cds ".") = some 8 := by decide +kernel
end
section
/-! The level of a tree by a table of kinds. -/
open PySem PySem.Spec PyProof.Rows L2
def kinds5 : List (List Nat × Nat) := [(cds "or", 1), (cds "and", 2), (cds "not", 3), (cds "neg", 7), (cds "send", 8)]
def lvOp (s : List Nat) : Nat := if s ∈ [cds "+", cds "-"] then 5 else if s ∈ [cds "*", cds "/"] then 6 else 4
theorem beh_op {s : List Nat} {l : Nat} (h : behN.lookup s = some l) (n : s ≠ cds ".") (m : ¬ (s = cds "and" ∨ s = cds "or")) : l = lvOp s := by
  have key : ∀ p ∈ behN, p.1 = cds "." ∨ p.1 = cds "and" ∨ p.1 = cds "or" ∨ p.2 = lvOp p.1 := by decide +kernel
  have hm : ∀ (l : List (List Nat × Nat)) (s : List Nat) (v : Nat), l.lookup s = some v → (s, v) ∈ l := by
    intro l s v
    induction l with
    | nil => intro h; cases h
    | cons p l ih =>
      intro h
      rw [List.lookup_cons] at h
      split at h
      · rename_i e; cases h; rw [eq_of_beq e]; exact List.mem_cons_self
      · exact List.mem_cons_of_mem _ (ih h)
  rcases key _ (hm _ _ _ h) with h | h | h | h
  · exact absurd h n
  · exact absurd (.inl h) m
  · exact absurd (.inr h) m
  · exact h
theorem lv_tab {lv n : Nat} {t : Tr} {w : Ws} {ns : List Ws} {x : List Nat} (p : Pe lv n t w ns x) : ∃ k r, t = .t (.s k :: r) ∧ (∀ q ∈ kinds5, q.1 = k → q.2 = lv) ∧ ((∀ q ∈ kinds5, q.1 ≠ k) → (k ≠ cds "op" ∧ lv = 9) ∨ (k = cds "op" ∧ ∃ s r', r = .s s :: r' ∧ lv = lvOp s)) := by
  cases p with
  | num _ => exact ⟨_, _, rfl, by decide +kernel, fun _ => .inl ⟨by decide +kernel, rfl⟩⟩
  | text _ => exact ⟨_, _, rfl, by decide +kernel, fun _ => .inl ⟨by decide +kernel, rfl⟩⟩
  | word _ => exact ⟨_, _, rfl, by decide +kernel, fun _ => .inl ⟨by decide +kernel, rfl⟩⟩
  | self => exact ⟨_, _, rfl, by decide +kernel, fun _ => .inl ⟨by decide +kernel, rfl⟩⟩
  | new _ => exact ⟨_, _, rfl, by decide +kernel, fun _ => .inl ⟨by decide +kernel, rfl⟩⟩
  | name _ => exact ⟨_, _, rfl, by decide +kernel, fun _ => .inl ⟨by decide +kernel, rfl⟩⟩
  | neg _ => exact ⟨_, _, rfl, by decide +kernel, fun h => absurd rfl (h (cds "neg", 7) (by decide +kernel))⟩
  | not _ => exact ⟨_, _, rfl, by decide +kernel, fun h => absurd rfl (h (cds "not", 3) (by decide +kernel))⟩
  | send _ _ _ => exact ⟨_, _, rfl, by decide +kernel, fun h => absurd rfl (h (cds "send", 8) (by decide +kernel))⟩
  | sup _ _ => exact ⟨_, _, rfl, by decide +kernel, fun _ => .inl ⟨by decide +kernel, rfl⟩⟩
  | blk0 _ => exact ⟨_, _, rfl, by decide +kernel, fun _ => .inl ⟨by decide +kernel, rfl⟩⟩
  | blk _ _ _ _ => exact ⟨_, _, rfl, by decide +kernel, fun _ => .inl ⟨by decide +kernel, rfl⟩⟩
  | bin hl hd pa pb =>
    rename_i s t1 t2 w1 w2 n1 n2 x1 x2
    by_cases h : s = cds "and" ∨ s = cds "or"
    · rw [show binT s t1 t2 = .t [.s s, t1, t2] from if_pos h]
      rcases h with rfl | rfl
      · have : lv = 2 := Option.some.inj (hl.symm.trans (by decide +kernel))
        subst this
        exact ⟨_, _, rfl, by decide +kernel, fun h => absurd rfl (h (cds "and", 2) (by decide +kernel))⟩
      · have : lv = 1 := Option.some.inj (hl.symm.trans (by decide +kernel))
        subst this
        exact ⟨_, _, rfl, by decide +kernel, fun h => absurd rfl (h (cds "or", 1) (by decide +kernel))⟩
    · rw [show binT s t1 t2 = .t [str "op", .s s, t1, t2] from if_neg h]
      refine ⟨_, _, rfl, fun q hq e => absurd e ?_, fun _ => .inr ⟨rfl, s, _, rfl, beh_op hl hd h⟩⟩
      have : ∀ q ∈ kinds5, q.1 ≠ cds "op" := by decide +kernel
      exact this q hq
end
section
/-! A printed text as a row of tokens with spaces ahead of them. -/
open PySem PySem.Spec PyProof.Rows L2
open TL (numL tl_num numL_digits numL_ne numL_val numL_len numL_lt numL_step)
def Ro (w : Ws) (x : List Nat) : Prop := ∃ t l, w = t :: lws l ∧ x = t ++ lay l ∧ Tok t ∧ LOk t l ∧ lend t l ≠ [60]
def Rm (w : Ws) (x : List Nat) : Prop := (w = [] ∧ x = []) ∨ Ro w x
theorem Ro.one {t : List Nat} (h : Tok t) (n : t ≠ [60]) : Ro [t] t := ⟨t, [], rfl, (List.append_nil _).symm, h, True.intro, n⟩
theorem Ro.ne {w : Ws} {x : List Nat} (h : Ro w x) : x ≠ [] := by
  obtain ⟨t, l, rfl, rfl, ht, _⟩ := h
  have := ht.ne.1
  simp [this]
theorem Ro.app1 {w v : Ws} {x y : List Nat} (h : Ro w x) (g : Ro v y) : Ro (w ++ v) (x ++ 32 :: y) := by
  obtain ⟨t, l, rfl, rfl, ht, hl, he⟩ := h
  obtain ⟨u, r, rfl, rfl, hu, hr, hf⟩ := g
  refine ⟨t, l ++ (1, u) :: r, ?_, ?_, ht, lok_append.mpr ⟨hl, hu, touch_gap (Nat.le_refl _), hr⟩, ?_⟩
  · rw [lws_append]; rfl
  · rw [lay_append]
    show t ++ lay l ++ 32 :: (u ++ lay r) = t ++ (lay l ++ ([32] ++ u ++ lay r))
    simp
  · rw [lend_append]; exact hf
theorem Ro.app0 {w v : Ws} {x y m : List Nat} (h : Ro w x) (hm : m ∈ MLs) (g : Ro (m :: v) y) : Ro (w ++ m :: v) (x ++ y) := by
  obtain ⟨t, l, rfl, rfl, ht, hl, he⟩ := h
  obtain ⟨u, r, e, rfl, hu, hr, hf⟩ := g
  obtain ⟨rfl, rfl⟩ := List.cons.inj e
  refine ⟨t, l ++ (0, m) :: r, ?_, ?_, ht, lok_append.mpr ⟨hl, hu, touch_no (touch_mr he hm), hr⟩, ?_⟩
  · rw [lws_append]; rfl
  · rw [lay_append]
    show t ++ lay l ++ (m ++ lay r) = t ++ (lay l ++ ([] ++ m ++ lay r))
    simp
  · rw [lend_append]; exact hf
theorem Ro.mk {v : Ws} {y m : List Nat} (hm : m ∈ MLs) (n : m ≠ [60]) (g : Ro v y) : Ro (m :: v) (m ++ y) := by
  obtain ⟨u, r, rfl, rfl, hu, hr, hf⟩ := g
  refine ⟨m, (0, u) :: r, rfl, ?_, ⟨_, _, .mark hm⟩, ⟨hu, touch_no (touch_ml n hm), hr⟩, hf⟩
  show m ++ (u ++ lay r) = m ++ ([] ++ u ++ lay r)
  simp
theorem Ro.sign {w v : Ws} {x y s : List Nat} (h : Ro w x) (hs : Tok s) (g : Ro v y) : Ro (w ++ s :: v) (x ++ 32 :: (s ++ 32 :: y)) := by
  obtain ⟨t, l, rfl, rfl, ht, hl, he⟩ := h
  obtain ⟨u, r, rfl, rfl, hu, hr, hf⟩ := g
  refine ⟨t, l ++ (1, s) :: (1, u) :: r, ?_, ?_, ht, lok_append.mpr ⟨hl, hs, touch_gap (Nat.le_refl _), hu, touch_gap (Nat.le_refl _), hr⟩, ?_⟩
  · rw [lws_append]; rfl
  · rw [lay_append]
    show t ++ lay l ++ 32 :: (s ++ 32 :: (u ++ lay r)) = t ++ (lay l ++ ([32] ++ s ++ ([32] ++ u ++ lay r)))
    simp
  · rw [lend_append]; exact hf
theorem Ro.row {w : Ws} {x : List Nat} (h : Ro w x) : ∃ l : Ly, lay l = x ∧ lws l = w ∧ LOk [] l := by
  obtain ⟨t, l, rfl, rfl, ht, hl, he⟩ := h
  exact ⟨(0, t) :: l, rfl, rfl, ht, touch_no (touch_nil t), hl⟩
/-! pieces with a space between them -/
theorem spd_skip (r : Ws) : spd ([] :: r) = spd r := by
  unfold spd
  rw [List.filter_cons, if_neg (by simp)]
theorem spd_cons {x : List Nat} {r : Ws} (h : x ≠ []) : spd (x :: r) = x ++ (if spd r = [] then [] else 32 :: spd r) := by
  have key : ∀ l : Ws, (∀ a ∈ l, a ≠ []) → l.flatMap (fun b => [32] ++ b) = if jnS [32] l = [] then [] else 32 :: jnS [32] l := fun l hl => by
    cases l with
    | nil => rfl
    | cons a l =>
      have ha := hl a List.mem_cons_self
      rw [if_neg (by show a ++ _ ≠ []; simp [ha]), List.flatMap_cons]
      rfl
  unfold spd
  rw [List.filter_cons, if_pos (decide_eq_true h)]
  show x ++ (r.filter _).flatMap (fun b => [32] ++ b) = _
  rw [key _ fun a ha => by simpa using (List.mem_filter.mp ha).2]
theorem Rm.sp {w v : Ws} {x : List Nat} {r : Ws} (h : Rm w x) (g : Rm v (spd r)) : Rm (w ++ v) (spd (x :: r)) := by
  rcases h with ⟨rfl, rfl⟩ | h
  · rw [spd_skip]; exact g
  · rw [spd_cons h.ne]
    rcases g with ⟨rfl, e⟩ | g
    · rw [if_pos e, List.append_nil, List.append_nil]; exact .inr h
    · rw [if_neg g.ne]; exact .inr (h.app1 g)
theorem Ro.sp {w v : Ws} {x : List Nat} {r : Ws} (h : Ro w x) (g : Rm v (spd r)) : Ro (w ++ v) (spd (x :: r)) := by
  rw [spd_cons h.ne]
  rcases g with ⟨rfl, e⟩ | g
  · rw [if_pos e, List.append_nil, List.append_nil]; exact h
  · rw [if_neg g.ne]; exact h.app1 g
theorem Rm.nil : Rm [] (spd []) := .inl ⟨rfl, rfl⟩
/-! words and marks -/
theorem wl_ne : ∀ a ∈ WL, a ≠ [60] := by decide +kernel
theorem wl_row {a : List Nat} (h : a ∈ WL) : Ro [a] a := .one ⟨_, _, .word h⟩ (wl_ne a h)
theorem name_row {a : List Nat} (h : IsName a) : Ro [a] a := .one (name_tok h) (name_ne h)
theorem cls_ne {a : List Nat} (h : IsClass a) : a ≠ [60] := fun e => by
  obtain ⟨c, r, rfl, hc, _⟩ := h
  cases e
  exact absurd hc (by decide +kernel)
theorem mk_row {m : List Nat} (h : m ∈ MLs) (n : m ≠ [60]) : Ro [m] m := .one ⟨_, _, .mark h⟩ n
theorem names_row : ∀ {l : Ws} {w : Ws} {x : List Nat}, (∀ a ∈ l, IsName a) → Ro w x → Ro (w ++ l.flatMap fun b => [cds ",", b]) (x ++ l.flatMap fun b => cds ", " ++ b)
  | [], w, x, _, h => by rw [show ([] : Ws).flatMap (fun b => [cds ",", b]) = [] from rfl, show ([] : Ws).flatMap (fun b => cds ", " ++ b) = [] from rfl, List.append_nil, List.append_nil]; exact h
  | a :: l, w, x, hn, h => by
    have g : Ro [cds ",", a] (cds "," ++ 32 :: a) := (mk_row (m := cds ",") (by decide +kernel) (by decide +kernel)).app1 (name_row (hn a List.mem_cons_self))
    have q := names_row (l := l) (fun b hb => hn b (List.mem_cons_of_mem _ hb)) (h.app0 (by decide +kernel) g)
    have e : cds ", " = cds "," ++ [32] := by decide +kernel
    rw [List.flatMap_cons, List.flatMap_cons, e]
    rw [e] at q
    simpa using q
theorem commas_row {l : Ws} (h0 : l ≠ []) (hn : ∀ a ∈ l, IsName a) : Ro (commas l) (jn l) := by
  cases l with
  | nil => exact absurd rfl h0
  | cons a l =>
    rw [commas_cons]
    exact names_row (w := [a]) (fun b hb => hn b (List.mem_cons_of_mem _ hb)) (name_row (hn a List.mem_cons_self))
theorem Rm.within {v : Ws} {y m k : List Nat} (hm : m ∈ MLs) (n : m ≠ [60]) (hk : k ∈ MLs) (n2 : k ≠ [60]) (g : Rm v y) : Ro (m :: (v ++ [k])) (m ++ y ++ k) := by
  rcases g with ⟨rfl, rfl⟩ | g
  · rw [List.append_nil]
    exact (mk_row hm n).app0 hk (mk_row hk n2)
  · rw [List.append_assoc]
    exact .mk hm n (g.app0 hk (mk_row hk n2))
theorem beh_tok {s : List Nat} {l : Nat} (h : behN.lookup s = some l) : Tok s := by
  have hm : ∀ (l : List (List Nat × Nat)) (s : List Nat) (v : Nat), l.lookup s = some v → (s, v) ∈ l := by
    intro l s v
    induction l with
    | nil => intro h; cases h
    | cons p l ih =>
      intro h
      rw [List.lookup_cons] at h
      split at h
      · rename_i e; cases h; rw [eq_of_beq e]; exact List.mem_cons_self
      · exact List.mem_cons_of_mem _ (ih h)
  have key : ∀ p ∈ behN, p.1 ∈ WM := by decide +kernel
  exact wm_tok _ (key _ (hm _ _ _ h))
theorem plain_wl {a : List Nat} {v : V} (h : plainL.lookup a = some v) : a ∈ WL := by
  unfold plainL at h
  simp only [List.lookup] at h
  split at h
  · rename_i e; rw [eq_of_beq e]; decide +kernel
  · split at h
    · rename_i e; rw [eq_of_beq e]; decide +kernel
    · split at h
      · rename_i e; rw [eq_of_beq e]; decide +kernel
      · cases h
/-! every printed form -/
mutual
theorem Pe.row : ∀ {lv h : Nat} {t : Tr} {w : Ws} {ns : List Ws} {x : List Nat}, Pe lv h t w ns x → Ro w x
  | _, _, _, _, _, _, .num n => .one (num_tok n) num_ne
  | _, _, _, _, _, _, .text (b := b) n => by
    have e : cds "'" ++ b ++ cds "'" = 39 :: (b ++ [39]) := by
      have : cds "'" = [39] := by decide +kernel
      rw [this]; simp
    rw [e]
    exact .one ⟨_, _, .text n⟩ (by simp)
  | _, _, _, _, _, _, .word n => wl_row (plain_wl n)
  | _, _, _, _, _, _, .self => wl_row (by decide +kernel)
  | _, _, _, _, _, _, .new (a := a) n => by
    have e : cds "new " ++ a = cds "new" ++ 32 :: a := by rw [show cds "new " = cds "new" ++ [32] from by decide +kernel]; simp
    rw [e]
    exact (wl_row (a := cds "new") (by decide +kernel)).app1 (.one ⟨_, _, .cls n⟩ (cls_ne n))
  | _, _, _, _, _, _, .name n => name_row n
  | _, _, _, _, _, _, .neg p => .mk (by decide +kernel) (by decide +kernel) (Pp.row p)
  | _, _, _, _, _, _, .not (x := x) p => by
    have e : cds "not " ++ x = cds "not" ++ 32 :: x := by rw [show cds "not " = cds "not" ++ [32] from by decide +kernel]; simp
    rw [e]
    exact (wl_row (a := cds "not") (by decide +kernel)).app1 (Pp.row p)
  | _, _, _, _, _, _, .bin (s := s) (x1 := x1) (x2 := x2) a b p q => by
    have e : x1 ++ cds " " ++ s ++ cds " " ++ x2 = x1 ++ 32 :: (s ++ 32 :: x2) := by rw [show cds " " = [32] from by decide +kernel]; simp
    rw [e]
    exact (Pp.row p).sign (beh_tok a) (Pp.row q)
  | _, _, _, _, _, _, .send (w := w) (x := x) (a := a) (w2 := w2) (ys := ys) p n k => by
    have g := Rm.within (m := cds "(") (k := cds ")") (by decide +kernel) (by decide +kernel) (by decide +kernel) (by decide +kernel) (Pa.row k)
    have g2 : Ro (cds "." :: a :: cds "(" :: (w2 ++ [cds ")"])) (cds "." ++ (a ++ (cds "(" ++ jn ys ++ cds ")"))) := .mk (by decide +kernel) (by decide +kernel) ((name_row n).app0 (by decide +kernel) g)
    have g3 := (Pp.row p).app0 (by decide +kernel) g2
    unfold brk
    simpa using g3
  | _, _, _, _, _, _, .sup (a := a) (w2 := w2) (ys := ys) n k => by
    have g := Rm.within (m := cds "(") (k := cds ")") (by decide +kernel) (by decide +kernel) (by decide +kernel) (by decide +kernel) (Pa.row k)
    have g2 : Ro (cds "." :: a :: cds "(" :: (w2 ++ [cds ")"])) (cds "." ++ (a ++ (cds "(" ++ jn ys ++ cds ")"))) := .mk (by decide +kernel) (by decide +kernel) ((name_row n).app0 (by decide +kernel) g)
    have g3 := (wl_row (a := cds "super") (by decide +kernel)).app0 (by decide +kernel) g2
    unfold brk
    simpa using g3
  | _, _, _, _, _, _, .blk0 (ys := ys) b => by
    have g := Rm.within (m := cds "{") (k := cds "}") (by decide +kernel) (by decide +kernel) (by decide +kernel) (by decide +kernel) (Pb.row b)
    simpa using g
  | _, _, _, _, _, _, .blk (ps := ps) (w := w) (ys := ys) h0 h4 hn b => by
    have e : cds " | " = 32 :: (cds "|" ++ [32]) := by decide +kernel
    have c := commas_row h0 hn
    have k := mk_row (m := cds "}") (by decide +kernel) (by decide +kernel)
    have bar := mk_row (m := cds "|") (by decide +kernel) (by decide +kernel)
    rw [e]
    rcases Pb.row b with ⟨e1, e2⟩ | g
    · -- « | }»: the space stands ahead of the closing mark
      have g1 : Ro (commas ps ++ [cds "|"] ++ [cds "}"]) (jn ps ++ 32 :: cds "|" ++ 32 :: cds "}") := (c.app1 bar).app1 k
      have g2 := Ro.mk (m := cds "{") (by decide +kernel) (by decide +kernel) g1
      rw [e1, e2]
      simpa using g2
    · have g1 : Ro (commas ps ++ [cds "|"] ++ (w ++ [cds "}"])) (jn ps ++ 32 :: cds "|" ++ 32 :: (jnS (cds "; ") ys ++ cds "}")) := (c.app1 bar).app1 (g.app0 (by decide +kernel) k)
      have g2 := Ro.mk (m := cds "{") (by decide +kernel) (by decide +kernel) g1
      simpa using g2
theorem Pp.row : ∀ {a h : Nat} {t : Tr} {w : Ws} {ns : List Ws} {x : List Nat}, Pp a h t w ns x → Ro w x
  | _, _, _, _, _, _, .go l p => Pe.row p
  | _, _, _, _, _, _, .br l p => Rm.within (by decide +kernel) (by decide +kernel) (by decide +kernel) (by decide +kernel) (.inr (Pe.row p))
theorem Pl.row : ∀ {h : Nat} {l : List Tr} {w : Ws} {ns : List Ws} {ys : Ws}, Pl h l w ns ys → ∀ {W : Ws} {X : List Nat}, Ro W X → Ro (W ++ w) (X ++ ys.flatMap fun b => cds ", " ++ b)
  | _, _, _, _, _, .nil, W, X, g => by rw [show ([] : Ws).flatMap (fun b => cds ", " ++ b) = [] from rfl, List.append_nil, List.append_nil]; exact g
  | _, _, _, _, _, .cons (w := w) (x := x) (w2 := w2) (ys := ys) p q, W, X, g => by
    have g1 : Ro (cds "," :: w) (cds "," ++ 32 :: x) := (mk_row (m := cds ",") (by decide +kernel) (by decide +kernel)).app1 (Pe.row p)
    have g2 := Pl.row q (g.app0 (by decide +kernel) g1)
    have e : cds ", " = cds "," ++ [32] := by decide +kernel
    rw [List.flatMap_cons, e]
    rw [e] at g2
    simpa using g2
theorem Pa.row : ∀ {h : Nat} {l : List Tr} {w : Ws} {ns : List Ws} {ys : Ws}, Pa h l w ns ys → Rm w (jn ys)
  | _, _, _, _, _, .nil => .inl ⟨rfl, rfl⟩
  | _, _, _, _, _, .cons p q _ => .inr (Pl.row q (Pe.row p))
theorem Ps.row : ∀ {h : Nat} {t : Tr} {w : Ws} {ns : List Ws} {x : List Nat}, Ps h t w ns x → Ro w x
  | _, _, _, _, _, .eval p => Pe.row p
  | _, _, _, _, _, .set (w := w) (x := x) (a := a) n p => by
    have e : cds " := " = 32 :: (cds ":=" ++ [32]) := by decide +kernel
    have g := (name_row n).sign (s := cds ":=") (wm_tok _ (by decide +kernel)) (Pe.row p)
    rw [e]
    simpa using g
  | _, _, _, _, _, .gf (w := w) (x := x) (g := g) hg p => by
    have hw : Ro [g] g := wl_row (by rcases hg with rfl | rfl <;> decide +kernel)
    have q := hw.app1 (Pe.row p)
    rw [show cds " " = [32] from by decide +kernel]
    simpa using q
  | _, _, _, _, _, .whl (w := w) (w2 := w2) p q => by
    have g := (wl_row (a := cds "while") (by decide +kernel)).sp (Rm.sp (.inr (Pe.row p)) (Rm.sp (.inr (wl_row (a := cds "do") (by decide +kernel))) (Rm.sp (Pb.row q) (Rm.sp (.inr (wl_row (a := cds "end") (by decide +kernel))) Rm.nil))))
    simpa using g
  | _, _, _, _, _, .if0 p q => by
    have g := (wl_row (a := cds "if") (by decide +kernel)).sp (Rm.sp (.inr (Pe.row p)) (Rm.sp (.inr (wl_row (a := cds "then") (by decide +kernel))) (Rm.sp (Pb.row q) (Rm.sp (.inr (wl_row (a := cds "end") (by decide +kernel))) Rm.nil))))
    simpa using g
  | _, _, _, _, _, .if1 p q _ r => by
    have g := (wl_row (a := cds "if") (by decide +kernel)).sp (Rm.sp (.inr (Pe.row p)) (Rm.sp (.inr (wl_row (a := cds "then") (by decide +kernel))) (Rm.sp (Pb.row q) (Rm.sp (.inr (wl_row (a := cds "else") (by decide +kernel))) (Rm.sp (Pb.row r) (Rm.sp (.inr (wl_row (a := cds "end") (by decide +kernel))) Rm.nil))))))
    simpa using g
  | _, _, _, _, _, .try_ p n q => by
    have g := (wl_row (a := cds "try") (by decide +kernel)).sp (Rm.sp (Pb.row p) (Rm.sp (.inr (wl_row (a := cds "catch") (by decide +kernel))) (Rm.sp (.inr (name_row n)) (Rm.sp (.inr (wl_row (a := cds "then") (by decide +kernel))) (Rm.sp (Pb.row q) (Rm.sp (.inr (wl_row (a := cds "end") (by decide +kernel))) Rm.nil))))))
    simpa using g
  | _, _, _, _, _, .keep p q => by
    have g := (wl_row (a := cds "keep") (by decide +kernel)).sp (Rm.sp (Pb.row p) (Rm.sp (.inr (wl_row (a := cds "always") (by decide +kernel))) (Rm.sp (Pb.row q) (Rm.sp (.inr (wl_row (a := cds "end") (by decide +kernel))) Rm.nil))))
    simpa using g
theorem Pq.row : ∀ {h : Nat} {l : List Tr} {w : Ws} {ns : List Ws} {ys : Ws}, Pq h l w ns ys → ∀ {W : Ws} {X : List Nat}, Ro W X → Ro (W ++ w) (X ++ ys.flatMap fun b => cds "; " ++ b)
  | _, _, _, _, _, .nil, W, X, g => by rw [show ([] : Ws).flatMap (fun b => cds "; " ++ b) = [] from rfl, List.append_nil, List.append_nil]; exact g
  | _, _, _, _, _, .cons (w := w) (x := x) (w2 := w2) (ys := ys) p q, W, X, g => by
    have g1 : Ro (cds ";" :: w) (cds ";" ++ 32 :: x) := (mk_row (m := cds ";") (by decide +kernel) (by decide +kernel)).app1 (Ps.row p)
    have g2 := Pq.row q (g.app0 (by decide +kernel) g1)
    have e : cds "; " = cds ";" ++ [32] := by decide +kernel
    rw [List.flatMap_cons, e]
    rw [e] at g2
    simpa using g2
theorem Pb.row : ∀ {h : Nat} {l : List Tr} {w : Ws} {ns : List Ws} {ys : Ws}, Pb h l w ns ys → Rm w (jnS (cds "; ") ys)
  | _, _, _, _, _, .nil => .inl ⟨rfl, rfl⟩
  | _, _, _, _, _, .cons p q => .inr (Pq.row q (Ps.row p))
end
end
section
/-! A printed form is a derivation; its text is read back. -/
open PySem PySem.Spec PyProof.Rows L2
open TL (numL tl_num numL_digits numL_ne numL_val numL_len numL_lt numL_step)
mutual
theorem Pe.ex : ∀ {lv h : Nat} {t : Tr} {w : Ws} {ns : List Ws} {x : List Nat}, Pe lv h t w ns x → Ex lv h t w ns
  | _, _, _, _, _, _, .num n => .num (drawn_tk (.number n))
  | _, _, _, _, _, _, .text n => .text (drawn_tk (.text n))
  | _, _, _, _, _, _, .word n => .word n
  | _, _, _, _, _, _, .self => .self
  | _, _, _, _, _, _, .new n => .new (drawn_tk (.cls n))
  | _, _, _, _, _, _, .name n => .name (name_nm n)
  | _, _, _, _, _, _, .neg p => let ⟨lv, l, e⟩ := Pp.ex p (by decide); .neg l e
  | _, _, _, _, _, _, .not p => let ⟨lv, l, e⟩ := Pp.ex p (by decide); .not l e
  | _, _, _, _, _, _, .bin a b p q => let ⟨lv, l, e⟩ := Pp.ex p (by have := behN_le a b; split <;> omega); let ⟨lv2, l2, e2⟩ := Pp.ex q (by have := behN_le a b; omega); .bin a b l e l2 e2
  | _, _, _, _, _, _, .send p n k => let ⟨lv, l, e⟩ := Pp.ex p (by decide); .send l e (name_nm n) (Pa.ar k)
  | _, _, _, _, _, _, .sup n k => .sup (name_nm n) (Pa.ar k)
  | _, _, _, _, _, _, .blk0 b => .blk0 (Pb.bd b)
  | _, _, _, _, _, _, .blk h0 h4 hn b => .blk h0 h4 (fun x hx => name_nm (hn x hx)) (Pb.bd b)
theorem Pp.ex : ∀ {a h : Nat} {t : Tr} {w : Ws} {ns : List Ws} {x : List Nat}, Pp a h t w ns x → a ≤ 9 → ∃ lv, a ≤ lv ∧ Ex lv h t w ns
  | _, _, _, _, _, _, .go l p, _ => ⟨_, l, Pe.ex p⟩
  | _, _, _, _, _, _, .br l p, h9 => ⟨9, h9, .par (Pe.lv p).1 (Pe.ex p)⟩
theorem Pl.al : ∀ {h : Nat} {l : List Tr} {w : Ws} {ns : List Ws} {ys : Ws}, Pl h l w ns ys → Al h l w ns
  | _, _, _, _, _, .nil => .nil
  | _, _, _, _, _, .cons p q => .cons (Pe.lv p).1 (Pe.ex p) (Pl.al q)
theorem Pa.ar : ∀ {h : Nat} {l : List Tr} {w : Ws} {ns : List Ws} {ys : Ws}, Pa h l w ns ys → Ar h l w ns
  | _, _, _, _, _, .nil => .nil
  | _, _, _, _, _, .cons p q n => .cons (Pe.lv p).1 (Pe.ex p) (Pl.al q) n
theorem Ps.st : ∀ {h : Nat} {t : Tr} {w : Ws} {ns : List Ws} {x : List Nat}, Ps h t w ns x → St h t w ns
  | _, _, _, _, _, .eval p => .eval (Pe.lv p).1 (Pe.ex p)
  | _, _, _, _, _, .set n p => .set (name_nm n) (Pe.lv p).1 (Pe.ex p)
  | _, _, _, _, _, .gf g p => .gf g (Pe.lv p).1 (Pe.ex p)
  | _, _, _, _, _, .whl p q => .whl (Pe.lv p).1 (Pe.ex p) (Pb.bd q)
  | _, _, _, _, _, .if0 p q => .if0 (Pe.lv p).1 (Pe.ex p) (Pb.bd q)
  | _, _, _, _, _, .if1 p q _ r => .if1 (Pe.lv p).1 (Pe.ex p) (Pb.bd q) (Pb.bd r)
  | _, _, _, _, _, .try_ p n q => .try_ (Pb.bd p) (name_nm n) (Pb.bd q)
  | _, _, _, _, _, .keep p q => .keep (Pb.bd p) (Pb.bd q)
theorem Pq.bl : ∀ {h : Nat} {l : List Tr} {w : Ws} {ns : List Ws} {ys : Ws}, Pq h l w ns ys → Bl h l w ns
  | _, _, _, _, _, .nil => .nil
  | _, _, _, _, _, .cons p q => .cons (Ps.st p) (Pq.bl q)
theorem Pb.bd : ∀ {h : Nat} {l : List Tr} {w : Ws} {ns : List Ws} {ys : Ws}, Pb h l w ns ys → Bd h l w ns
  | _, _, _, _, _, .nil => .nil
  | _, _, _, _, _, .cons p q => .cons (Ps.st p) (Pq.bl q)
end
end
section
/-! Reading any row of tokens: nothing is left unsaid, and brackets that a tree needs are in the row. -/
open PySem PySem.Spec PyProof.Rows L2
def Tri {α : Type} (x : Res RS α) (A : α → RS → Prop) : Prop := match x with | .ok a s => A a s | .bad _ => True | .stuck => False
theorem Tri.bind {α β : Type} {x : Res RS α} {k : α → RS → Res RS β} {A : β → RS → Prop} (h : Tri x fun a s => Tri (k a s) A) : Tri (x.bind k) A := by
  cases x with
  | ok a s => exact h
  | bad i => exact True.intro
  | stuck => exact h
theorem Tri.mono {α : Type} {x : Res RS α} {A B : α → RS → Prop} (h : Tri x A) (f : ∀ a s, A a s → B a s) : Tri x B := by
  cases x with
  | ok a s => exact f a s h
  | bad i => exact True.intro
  | stuck => exact h
theorem Tri.bind' {α β : Type} {x : Res RS α} {k : α → RS → Res RS β} {A : β → RS → Prop} {B : α → RS → Prop} (h : Tri x B) (f : ∀ a s, B a s → Tri (k a s) A) : Tri (x.bind k) A := .bind (h.mono f)
/-! ### trees: their levels, and how many brackets they need -/
def lvT : Tr → Nat
  | .t (.s k :: r) => if k = cds "not" then 3 else if k = cds "neg" then 7 else if k = cds "send" then 8 else if k = cds "and" ∨ k = cds "or" then levB k else if k = cds "op" then (match r with | .s s :: _ => levB s | _ => 9) else 9
  | _ => 9
def sumT (f : Tr → Nat) : List Tr → Nat
  | [] => 0
  | t :: l => f t + sumT f l
theorem sumT_append (f : Tr → Nat) : ∀ a b : List Tr, sumT f (a ++ b) = sumT f a + sumT f b
  | [], b => by show _ = 0 + _; rw [Nat.zero_add]; rfl
  | t :: a, b => by show f t + sumT f (a ++ b) = f t + sumT f a + sumT f b; rw [sumT_append]; omega
def cPl (c : Tr → Nat) (q : Nat) (t : Tr) : Nat := c t + if lvT t < q then 1 else 0
def leftP (l : Nat) : Nat := if l = 4 then 5 else l
def cK (c : Tr → Nat) (k : List Nat) (r : List Tr) : Nat :=
  if k = cds "neg" then (match r with | [a] => cPl c 7 a | _ => 0)
  else if k = cds "not" then (match r with | [a] => cPl c 3 a | _ => 0)
  else if k = cds "op" then (match r with | [.s s, a, b] => cPl c (leftP (levB s)) a + cPl c (levB s + 1) b | _ => 0)
  else if k = cds "and" ∨ k = cds "or" then (match r with | [a, b] => cPl c (leftP (levB k)) a + cPl c (levB k + 1) b | _ => 0)
  else if k = cds "send" then (match r with | [a, _, .t l] => cPl c 8 a + 1 + sumT c l | _ => 0)
  else if k = cds "super" then (match r with | [_, .t l] => 1 + sumT c l | _ => 0)
  else if k = cds "block" then (match r with | [_, .t l] => sumT c l | _ => 0)
  else if k = cds "eval" ∨ k = cds "give" ∨ k = cds "fail" then (match r with | [a] => c a | _ => 0)
  else if k = cds "set" then (match r with | [_, a] => c a | _ => 0)
  else if k = cds "while" then (match r with | [a, .t l] => c a + sumT c l | _ => 0)
  else if k = cds "if" then (match r with | [a, .t l, .t m] => c a + sumT c l + sumT c m | _ => 0)
  else if k = cds "try" then (match r with | [.t l, _, .t m] => sumT c l + sumT c m | _ => 0)
  else if k = cds "keep" then (match r with | [.t l, .t m] => sumT c l + sumT c m | _ => 0)
  else 0
def cE : Nat → Tr → Nat
  | 0, _ => 0
  | f + 1, .t (.s k :: r) => cK (cE f) k r
  | _ + 1, _ => 0
local macro_rules | `(tactic| walk_at "ck") => `(tactic| (first | (unfold cK; repeat (first | rw [if_pos (by decide +kernel)] | rw [if_neg (by decide +kernel)])) | skip))
section
variable (c : Tr → Nat)
theorem ck_neg (a : Tr) : cK c (cds "neg") [a] = cPl c 7 a := by walk_at "ck"
theorem ck_not (a : Tr) : cK c (cds "not") [a] = cPl c 3 a := by walk_at "ck"
theorem ck_op (s : List Nat) (a b : Tr) : cK c (cds "op") [.s s, a, b] = cPl c (leftP (levB s)) a + cPl c (levB s + 1) b := by walk_at "ck"
theorem ck_and (a b : Tr) : cK c (cds "and") [a, b] = cPl c (leftP (levB (cds "and"))) a + cPl c (levB (cds "and") + 1) b := by walk_at "ck"
theorem ck_or (a b : Tr) : cK c (cds "or") [a, b] = cPl c (leftP (levB (cds "or"))) a + cPl c (levB (cds "or") + 1) b := by walk_at "ck"
theorem ck_send (a x : Tr) (l : List Tr) : cK c (cds "send") [a, x, .t l] = cPl c 8 a + 1 + sumT c l := by walk_at "ck"
theorem ck_super (x : Tr) (l : List Tr) : cK c (cds "super") [x, .t l] = 1 + sumT c l := by walk_at "ck"
theorem ck_block (x : Tr) (l : List Tr) : cK c (cds "block") [x, .t l] = sumT c l := by walk_at "ck"
theorem ck_eval (a : Tr) : cK c (cds "eval") [a] = c a := by walk_at "ck"
theorem ck_give (a : Tr) : cK c (cds "give") [a] = c a := by walk_at "ck"
theorem ck_fail (a : Tr) : cK c (cds "fail") [a] = c a := by walk_at "ck"
theorem ck_set (x a : Tr) : cK c (cds "set") [x, a] = c a := by walk_at "ck"
theorem ck_while (a : Tr) (l : List Tr) : cK c (cds "while") [a, .t l] = c a + sumT c l := by walk_at "ck"
theorem ck_if (a : Tr) (l m : List Tr) : cK c (cds "if") [a, .t l, .t m] = c a + sumT c l + sumT c m := by walk_at "ck"
theorem ck_try (x : Tr) (l m : List Tr) : cK c (cds "try") [.t l, x, .t m] = sumT c l + sumT c m := by walk_at "ck"
theorem ck_keep (l m : List Tr) : cK c (cds "keep") [.t l, .t m] = sumT c l + sumT c m := by walk_at "ck"
theorem ck_plain (r : List Tr) : cK c (cds "plain") r = 0 := by walk_at "ck"
theorem ck_self (r : List Tr) : cK c (cds "self") r = 0 := by walk_at "ck"
theorem ck_new (r : List Tr) : cK c (cds "new") r = 0 := by walk_at "ck"
theorem ck_name (r : List Tr) : cK c (cds "name") r = 0 := by walk_at "ck"
end
theorem lv_9 {k : List Nat} {r : List Tr} (h : k ∈ [cds "plain", cds "self", cds "new", cds "name", cds "super", cds "block"]) : lvT (.t (.s k :: r)) = 9 := by
  have key : ∀ k ∈ [cds "plain", cds "self", cds "new", cds "name", cds "super", cds "block"], k ≠ cds "not" ∧ k ≠ cds "neg" ∧ k ≠ cds "send" ∧ ¬ (k = cds "and" ∨ k = cds "or") ∧ k ≠ cds "op" := by decide +kernel
  obtain ⟨h1, h2, h3, h4, h5⟩ := key k h
  show (if k = cds "not" then 3 else _) = 9
  rw [if_neg h1, if_neg h2, if_neg h3, if_neg h4, if_neg h5]
theorem lv_not {r : List Tr} : lvT (.t (.s (cds "not") :: r)) = 3 := by simp only [lvT, if_true]
theorem lv_neg {r : List Tr} : lvT (.t (.s (cds "neg") :: r)) = 7 := by
  have h1 : ¬ cds "neg" = cds "not" := by decide +kernel
  simp only [lvT, if_neg h1, if_true]
theorem lv_send {r : List Tr} : lvT (.t (.s (cds "send") :: r)) = 8 := by
  have h1 : ¬ cds "send" = cds "not" := by decide +kernel
  have h2 : ¬ cds "send" = cds "neg" := by decide +kernel
  simp only [lvT, if_neg h1, if_neg h2, if_true]
theorem lv_ao {k : List Nat} {r : List Tr} (h : k = cds "and" ∨ k = cds "or") : lvT (.t (.s k :: r)) = levB k := by
  have h1 : ¬ k = cds "not" := by rcases h with rfl | rfl <;> decide +kernel
  have h2 : ¬ k = cds "neg" := by rcases h with rfl | rfl <;> decide +kernel
  have h3 : ¬ k = cds "send" := by rcases h with rfl | rfl <;> decide +kernel
  simp only [lvT, if_neg h1, if_neg h2, if_neg h3, if_pos h]
theorem lv_op {s : List Nat} {r : List Tr} : lvT (.t (.s (cds "op") :: .s s :: r)) = levB s := by
  have h1 : ¬ cds "op" = cds "not" := by decide +kernel
  have h2 : ¬ cds "op" = cds "neg" := by decide +kernel
  have h3 : ¬ cds "op" = cds "send" := by decide +kernel
  have h4 : ¬ (cds "op" = cds "and" ∨ cds "op" = cds "or") := by decide +kernel
  simp only [lvT, if_neg h1, if_neg h2, if_neg h3, if_neg h4, if_true]
theorem beh_mem {s : List Nat} {l : Nat} (h : behN.lookup s = some l) : (s, l) ∈ behN := by
  have hm : ∀ (l : List (List Nat × Nat)) (s : List Nat) (v : Nat), l.lookup s = some v → (s, v) ∈ l := by
    intro l s v
    induction l with
    | nil => intro h; cases h
    | cons p l ih =>
      intro h
      rw [List.lookup_cons] at h
      split at h
      · rename_i e; cases h; rw [eq_of_beq e]; exact List.mem_cons_self
      · exact List.mem_cons_of_mem _ (ih h)
  exact hm _ _ _ h
theorem levB_le (w : List Nat) : levB w ≤ 8 := by
  unfold levB
  cases h : behN.lookup w with
  | none => exact Nat.zero_le _
  | some l =>
    have key : ∀ p ∈ behN, p.2 ≤ 8 := by decide +kernel
    exact key _ (beh_mem h)
theorem levB_some {w : List Nat} (h : 1 ≤ levB w) : behN.lookup w = some (levB w) := by
  unfold levB at *
  cases e : behN.lookup w with
  | none => rw [e] at h; exact absurd h (by decide)
  | some l => rfl
end
section
open PySem PySem.Spec PyProof.Rows L2
def Nms (ts : List Tk) : Nat → Ws → Prop
  | _, [] => False
  | i, [a] => (tokN ts i).1 = cds "name" ∧ txtV (tokN ts i).2.1 = a
  | i, a :: b :: l => ((tokN ts i).1 = cds "name" ∧ txtV (tokN ts i).2.1 = a) ∧ fixT (tokN ts (i + 1)) = cds "," ∧ Nms ts (i + 2) (b :: l)
theorem nms_snoc {ts : List Tk} {x : List Nat} : ∀ {l : Ws} {i : Nat}, Nms ts i l → fixT (tokN ts (i + 2 * l.length - 1)) = cds "," → (tokN ts (i + 2 * l.length)).1 = cds "name" → txtV (tokN ts (i + 2 * l.length)).2.1 = x → Nms ts i (l ++ [x])
  | [], _, h, _, _, _ => h.elim
  | [a], i, h, h1, h2, h3 => ⟨h, h1, h2, h3⟩
  | a :: b :: l, i, h, h1, h2, h3 => by
    obtain ⟨g1, g2, g3⟩ := h
    have e1 : i + 2 * (a :: b :: l).length - 1 = i + 2 + 2 * (b :: l).length - 1 := by simp only [List.length_cons]; omega
    have e2 : i + 2 * (a :: b :: l).length = i + 2 + 2 * (b :: l).length := by simp only [List.length_cons]; omega
    rw [e1] at h1
    rw [e2] at h2 h3
    exact ⟨g1, g2, nms_snoc g3 h1 h2 h3⟩
structure Rws (ts : List Tk) (N : Nat) : Prop where
  len : ts.length = N + 1
  nth : (tokN ts N).1 = cds "nothing"
  le : N ≤ 100000
  bars : ∀ (i : Nat) (l : Ws), fixT (tokN ts i) = cds "{" → Nms ts (i + 1) l → fixT (tokN ts (i + 2 * l.length)) = cds "|" → l.Nodup
def pc (ts : List Tk) : Nat → Nat
  | 0 => 0
  | i + 1 => pc ts i + if fixT (tokN ts i) = cds "(" then 1 else 0
theorem pc_mono {ts : List Tk} {i j : Nat} (h : i ≤ j) : pc ts i ≤ pc ts j := by
  induction h with
  | refl => exact Nat.le_refl _
  | step _ ih => exact Nat.le_trans ih (Nat.le_add_right _ _)
def Pst (N : Nat) (k : Int) (S S' : RS) : Prop := S'.n ≤ N ∧ S.ds.length ≤ S'.ds.length ∧ (S'.ds.length : Int) + k + 3 * (S.n : Int) ≤ (S.ds.length : Int) + 3 * (S'.n : Int) ∧ S'.tw = S.tw ∧ S.n ≤ S'.n
section
variable {ts : List Tk} {N : Nat} {S S1 S2 : RS} {k m : Int} {d : Nat}
theorem Pst.refl (h : S.n ≤ N) : Pst N 0 S S := ⟨h, Nat.le_refl _, by omega, rfl, Nat.le_refl _⟩
theorem Pst.trans (a : Pst N k S S1) (b : Pst N m S1 S2) : Pst N (k + m) S S2 := by
  obtain ⟨a1, a2, a3, a4, a5⟩ := a
  obtain ⟨b1, b2, b3, b4, b5⟩ := b
  exact ⟨b1, Nat.le_trans a2 b2, by omega, b4.trans a4, Nat.le_trans a5 b5⟩
theorem Pst.weak (a : Pst N k S S1) (h : m ≤ k) : Pst N m S S1 := by
  obtain ⟨a1, a2, a3, a4, a5⟩ := a
  exact ⟨a1, a2, by omega, a4, a5⟩
theorem Pst.step (h : S.n < N) : Pst N 3 S { S with n := S.n + 1 } := ⟨h, Nat.le_refl _, by show (S.ds.length : Int) + 3 + 3 * (S.n : Int) ≤ (S.ds.length : Int) + 3 * ((S.n + 1 : Nat) : Int); omega, rfl, Nat.le_succ _⟩
theorem Pst.pc (a : Pst N k S S1) : pc ts S.n ≤ Lv.pc ts S1.n := pc_mono a.2.2.2.2
def Bd3 (S : RS) (d : Nat) : Prop := S.ds.length ≤ 3 * S.n + 2 * d + 50
theorem Pst.bd (a : Pst N k S S1) (h : Bd3 S d) (hk : 0 ≤ k) : Bd3 S1 d := by
  obtain ⟨a1, a2, a3, a4, a5⟩ := a
  unfold Bd3 at *
  omega
theorem Bd3.up (h : Bd3 S d) : Bd3 S (d + 1) := by unfold Bd3 at *; omega
/-! small readings -/
theorem tri_fixed (R : Rws ts N) (h : S.n ≤ N) : Tri (rFixed ts 0 S) fun w s => S = s ∧ w = fixT (tokN ts S.n) := by
  unfold rFixed
  rw [if_pos (by rw [R.len]; omega)]
  exact ⟨rfl, rfl⟩
theorem end_fix (R : Rws ts N) : fixT (tokN ts N) = [] := by
  unfold fixT
  rw [if_neg]
  rw [R.nth]
  decide +kernel
theorem tri_accept (R : Rws ts N) (h : S.n ≤ N) {a : List Nat} (ha : a ≠ []) : Tri (rAccept ts a S) fun b s => (b = true ∧ fixT (tokN ts S.n) = a ∧ S.n < N ∧ s = { S with n := S.n + 1 }) ∨ (b = false ∧ fixT (tokN ts S.n) ≠ a ∧ S = s) := by
  unfold rAccept
  refine .bind' (tri_fixed R h) ?_
  rintro w s ⟨rfl, rfl⟩
  by_cases e : fixT (tokN ts S.n) = a
  · rw [if_pos e]
    refine .inl ⟨rfl, e, ?_, rfl⟩
    refine Nat.lt_of_le_of_ne h fun z => ?_
    rw [z, end_fix R] at e
    exact ha e.symm
  · rw [if_neg e]
    exact .inr ⟨rfl, e, rfl⟩
theorem tri_refuse {α : Type} (R : Rws ts N) (h : S.n ≤ N) {A : α → RS → Prop} : Tri (rRefuse ts S) A := by
  unfold rRefuse
  rw [if_pos (by rw [R.len]; omega)]
  exact True.intro
theorem tri_expect (R : Rws ts N) (h : S.n ≤ N) {a : List Nat} (ha : a ≠ []) : Tri (rExpect ts a S) fun _ s => fixT (tokN ts S.n) = a ∧ S.n < N ∧ s = { S with n := S.n + 1 } := by
  unfold rExpect
  refine .bind' (tri_accept R h ha) ?_
  rintro b s (⟨rfl, e, hl, rfl⟩ | ⟨rfl, e, rfl⟩)
  · rw [if_pos rfl]; exact ⟨e, hl, rfl⟩
  · rw [if_neg (by decide)]; exact tri_refuse R h
theorem tri_take (R : Rws ts N) (h : S.n ≤ N) {k : List Nat} (hk : k ≠ cds "nothing") : Tri (rTake ts k S) fun v s => (tokN ts S.n).1 = k ∧ v = (tokN ts S.n).2.1 ∧ S.n < N ∧ s = { S with n := S.n + 1 } := by
  unfold rTake
  rw [if_pos (by rw [R.len]; omega)]
  by_cases e : (tokN ts S.n).1 = k
  · rw [if_pos e]
    refine ⟨e, rfl, Nat.lt_of_le_of_ne h fun z => ?_, rfl⟩
    rw [z, R.nth] at e
    exact hk e.symm
  · rw [if_neg e]; exact tri_refuse R h
theorem kinds_ne : cds "name" ≠ cds "nothing" ∧ cds "number" ≠ cds "nothing" ∧ cds "text" ≠ cds "nothing" ∧ cds "class" ≠ cds "nothing" := by decide +kernel
theorem tri_name (R : Rws ts N) (h : S.n ≤ N) : Tri (rName ts S) fun a s => (tokN ts S.n).1 = cds "name" ∧ txtV (tokN ts S.n).2.1 = a ∧ S.n < N ∧ s = { S with n := S.n + 1 } := by
  unfold rName
  refine .bind' (tri_take R h kinds_ne.1) ?_
  rintro v s ⟨e, rfl, hl, rfl⟩
  exact ⟨e, rfl, hl, rfl⟩
theorem tri_begin (R : Rws ts N) (h : S.n ≤ N) (hb : Bd3 S d) (hd : d ≤ 13) : Tri (rBegin ts d S) fun _ s => d ≤ 12 ∧ Pst N (-1) S s ∧ s.n = S.n ∧ S.ds.length < s.ds.length := by
  have := R.le
  unfold rBegin
  by_cases c : 12 < d
  · rw [if_pos c]; exact tri_refuse R h
  · rw [if_neg c, if_pos (by unfold Bd3 at hb; omega)]
    refine ⟨by omega, ⟨h, ?_, ?_, rfl, Nat.le_refl _⟩, rfl, ?_⟩
    · show S.ds.length ≤ (S.ds ++ [d]).length; rw [List.length_append]; omega
    · show ((S.ds ++ [d]).length : Int) + -1 + 3 * (S.n : Int) ≤ (S.ds.length : Int) + 3 * (S.n : Int); rw [List.length_append, List.length_singleton]; omega
    · show S.ds.length < (S.ds ++ [d]).length; rw [List.length_append, List.length_singleton]; omega
theorem tri_deepen (R : Rws ts N) (h : S.n ≤ N) {f : Nat} (hf : f < S.ds.length) : Tri (rDeepen ts f S) fun _ s => Pst N 0 S s ∧ s.n = S.n ∧ s.ds.length = S.ds.length := by
  unfold rDeepen
  rw [if_neg (by omega)]
  split
  · exact tri_refuse R h
  · have e : (S.ds.take f ++ (S.ds.drop f).map (· + 1)).length = S.ds.length := by
      rw [List.length_append, List.length_map, List.length_take, List.length_drop]; omega
    refine ⟨⟨h, ?_, ?_, rfl, Nat.le_refl _⟩, rfl, e⟩
    · show S.ds.length ≤ (S.ds.take f ++ (S.ds.drop f).map (· + 1)).length; omega
    · show ((S.ds.take f ++ (S.ds.drop f).map (· + 1)).length : Int) + 0 + 3 * (S.n : Int) ≤ (S.ds.length : Int) + 3 * (S.n : Int); rw [e]; omega
theorem tri_before (R : Rws ts N) (h : S.n ≤ N) {ms : List (List Nat)} : Tri (rBefore ts ms S) fun _ s => S = s := by
  unfold rBefore
  rw [if_pos (by rw [R.len]; omega)]
  by_cases e : (tokN ts S.n).1 = cds "name"
  · rw [if_pos e]
    have hl : S.n < N := Nat.lt_of_le_of_ne h fun z => by
      rw [z, R.nth] at e
      exact kinds_ne.1 e.symm
    unfold rFixed
    rw [if_pos (by rw [R.len]; omega)]
    exact rfl
  · rw [if_neg e]; exact rfl
theorem tri_namesGo (R : Rws ts N) {most : Nat} (i : Nat) : ∀ (k : Nat) (l : Ws) (S : RS), S.n ≤ N → Nms ts i l → S.n + 1 = i + 2 * l.length → most + 2 ≤ k + l.length → l.length ≤ most → 1 ≤ l.length → Tri (rNamesGo ts most k l S) fun l' s => Pst N 0 S s ∧ Nms ts i l' ∧ s.n + 1 = i + 2 * l'.length ∧ s.ds = S.ds
  | 0, l, S, _, _, _, h, h2, _ => by omega
  | k + 1, l, S, h, hn, hi, hk, hm, h1 => by
    unfold rNamesGo
    refine .bind' (tri_accept R h (by decide +kernel)) ?_
    rintro b s (⟨rfl, e, hl, rfl⟩ | ⟨rfl, e, rfl⟩)
    · rw [if_pos rfl]
      by_cases c : l.length = most
      · rw [if_pos c]; exact tri_refuse R (by show S.n + 1 ≤ N; omega)
      · rw [if_neg c]
        refine .bind' (tri_name R (by show S.n + 1 ≤ N; omega)) ?_
        rintro x s ⟨g1, g2, g3, rfl⟩
        have ei : i + 2 * l.length - 1 = S.n := by omega
        have ei2 : i + 2 * l.length = S.n + 1 := by omega
        have hn' : Nms ts i (l ++ [x]) := nms_snoc hn (by rw [ei]; exact e) (by rw [ei2]; exact g1) (by rw [ei2]; exact g2)
        refine (tri_namesGo R i k (l ++ [x]) { S with n := S.n + 1 + 1 } g3 hn' (by rw [List.length_append, List.length_singleton]; show S.n + 1 + 1 + 1 = _; omega) (by rw [List.length_append, List.length_singleton]; omega) (by rw [List.length_append, List.length_singleton]; omega) (by rw [List.length_append]; omega)).mono ?_
        rintro l' s ⟨p, q1, q2, q3⟩
        exact ⟨((Pst.step hl).trans ((Pst.step g3).trans p)).weak (by omega), q1, q2, q3⟩
    · rw [if_neg (by decide)]
      exact ⟨Pst.refl h, hn, hi, rfl⟩
theorem tri_names (R : Rws ts N) {most : Nat} (hm : 1 ≤ most) (h : S.n ≤ N) : Tri (rNames ts most S) fun l s => Pst N 3 S s ∧ Nms ts S.n l ∧ s.n + 1 = S.n + 2 * l.length := by
  unfold rNames
  refine .bind' (tri_name R h) ?_
  rintro x s ⟨g1, g2, g3, rfl⟩
  refine (tri_namesGo R S.n (most + 1) [x] { S with n := S.n + 1 } g3 ⟨g1, g2⟩ (by show S.n + 1 + 1 = S.n + 2 * 1; omega) (by show most + 2 ≤ most + 1 + 1; omega) (by show 1 ≤ most; omega) (Nat.le_refl _)).mono ?_
  rintro l' s ⟨p, q1, q2, q3⟩
  exact ⟨(Pst.step g3).trans p, q1, q2⟩
theorem tri_note {l : Ws} (hl : l.Nodup) : Tri (rNote l S) fun _ s => S = s := by
  show S = RS.mk S.n S.ds (twGo l S.tw l.length)
  rw [note_nodup hl (Nat.le_refl _)]
end
def PoE (ts : List Tk) (N : Nat) (p : Nat) (S : RS) (t : Tr) (S' : RS) : Prop := Pst N 2 S S' ∧ (∀ F, pc ts S.n + cPl (cE F) p t ≤ pc ts S'.n) ∧ (levB (fixT (tokN ts S'.n)) < p ∨ levB (fixT (tokN ts S'.n)) = 4)
def PoB (ts : List Tk) (N : Nat) (S : RS) (l : List Tr) (S' : RS) : Prop := Pst N 0 S S' ∧ ∀ F, pc ts S.n + sumT (cE F) l ≤ pc ts S'.n
def SEx (ts : List Tk) (N : Nat) (ex : Nat → Nat → RS → Res RS Tr) (d : Nat) : Prop := ∀ (p : Nat) (S : RS), 1 ≤ p → p ≤ 9 → S.n ≤ N → Bd3 S d → Tri (ex p d S) (PoE ts N p S)
def SBo (ts : List Tk) (N : Nat) (bo : List (List Nat) → Nat → RS → Res RS (List Tr)) (d : Nat) : Prop := ∀ (ms : List (List Nat)) (S : RS), S.n ≤ N → Bd3 S d → Tri (bo ms d S) (PoB ts N S)
section
variable {ts : List Tk} {N : Nat} {S : RS} {ex : Nat → Nat → RS → Res RS Tr} {bo : List (List Nat) → Nat → RS → Res RS (List Tr)} {d : Nat}
theorem sum_one (f : Tr → Nat) (t : Tr) : sumT f [t] = f t := rfl
theorem tri_argsGo (R : Rws ts N) (hE : SEx ts N ex d) : ∀ (k : Nat) (l : List Tr) (S : RS), S.n ≤ N → Bd3 S d → 10 ≤ k + l.length → l.length ≤ 8 → Tri (gArgsGo ts ex d k l S) fun l' s => Pst N 0 S s ∧ ∀ F, pc ts S.n + sumT (cE F) l' ≤ pc ts s.n + sumT (cE F) l
  | 0, l, S, _, _, h, h2 => by omega
  | k + 1, l, S, h, hb, hk, h8 => by
    unfold gArgsGo
    refine .bind' (tri_accept R h (by decide +kernel)) ?_
    rintro b s (⟨rfl, e, hl, rfl⟩ | ⟨rfl, e, rfl⟩)
    · rw [if_pos rfl]
      have p1 := Pst.step hl
      by_cases c : l.length = 8
      · rw [if_pos c]; exact tri_refuse (S := { S with n := S.n + 1 }) R hl
      · rw [if_neg c]
        refine .bind' (hE 1 _ (by decide) (by decide) p1.1 (p1.bd hb (by decide))) ?_
        rintro t s ⟨p2, c2, _⟩
        refine (tri_argsGo R hE k (l ++ [t]) s p2.1 (p2.bd (p1.bd hb (by decide)) (by decide)) (by rw [List.length_append, List.length_singleton]; omega) (by rw [List.length_append, List.length_singleton]; omega)).mono ?_
        rintro l' s' ⟨p3, c3⟩
        refine ⟨((p1.trans p2).trans p3).weak (by omega), fun F => ?_⟩
        have h1 := c2 F
        have h3 := c3 F
        have h4 : pc ts S.n ≤ pc ts (S.n + 1) := pc_mono (Nat.le_succ _)
        rw [sumT_append, sum_one] at h3
        unfold cPl at h1
        have h1' : pc ts (S.n + 1) + (cE F t + if lvT t < 1 then 1 else 0) ≤ pc ts s.n := h1
        omega
    · rw [if_neg (by decide)]
      exact ⟨Pst.refl h, fun F => Nat.le_refl _⟩
theorem pc_open {i : Nat} (e : fixT (tokN ts i) = cds "(") : pc ts (i + 1) = pc ts i + 1 := by
  show pc ts i + (if _ then 1 else 0) = _
  rw [if_pos e]
theorem tri_args (R : Rws ts N) (hE : SEx ts N ex d) (h : S.n ≤ N) (hb : Bd3 S d) : Tri (gArgs ts ex d S) fun l s => Pst N 3 S s ∧ ∀ F, pc ts S.n + 1 + sumT (cE F) l ≤ pc ts s.n := by
  unfold gArgs
  refine .bind' (tri_expect R h (by decide +kernel)) ?_
  rintro _ s ⟨e, hl, rfl⟩
  have p1 := Pst.step hl
  have eo := pc_open e
  refine .bind' (tri_accept R p1.1 (by decide +kernel)) ?_
  rintro b s (⟨rfl, e2, hl2, rfl⟩ | ⟨rfl, e2, rfl⟩)
  · rw [if_pos rfl]
    refine ⟨(p1.trans (Pst.step hl2)).weak (by omega), fun F => ?_⟩
    have h4 : pc ts (S.n + 1) ≤ pc ts (S.n + 1 + 1) := pc_mono (Nat.le_succ _)
    show pc ts S.n + 1 + 0 ≤ pc ts (S.n + 1 + 1)
    omega
  · rw [if_neg (by decide)]
    have b1 := p1.bd hb (by decide)
    refine .bind' (hE 1 _ (by decide) (by decide) p1.1 b1) ?_
    rintro t s ⟨p2, c2, _⟩
    refine .bind' (tri_argsGo R hE 9 [t] s p2.1 (p2.bd b1 (by decide)) (by show 10 ≤ 9 + 1; decide) (by show 1 ≤ 8; decide)) ?_
    rintro l s' ⟨p3, c3⟩
    refine .bind' (tri_expect R p3.1 (by decide +kernel)) ?_
    rintro _ s'' ⟨e4, hl4, rfl⟩
    refine ⟨(((p1.trans p2).trans p3).trans (Pst.step hl4)).weak (by omega), fun F => ?_⟩
    have h1 : pc ts (S.n + 1) + (cE F t + if lvT t < 1 then 1 else 0) ≤ pc ts s.n := c2 F
    have h3 := c3 F
    have h4 : pc ts s'.n ≤ pc ts (s'.n + 1) := pc_mono (Nat.le_succ _)
    rw [sum_one] at h3
    show _ ≤ pc ts (s'.n + 1)
    omega
theorem ce_succ (F : Nat) (k : List Nat) (r : List Tr) : cE (F + 1) (.t (.s k :: r)) = cK (cE F) k r := rfl
theorem ce_zero (t : Tr) : cE 0 t = 0 := rfl
theorem tri_block (R : Rws ts N) (hB : SBo ts N bo (d + 1)) (h : S.n ≤ N) (hb : Bd3 S (d + 1)) : Tri (gBlock ts bo d S) fun t s => Pst N 3 S s ∧ (∀ F, pc ts S.n + cE F t ≤ pc ts s.n) ∧ lvT t = 9 := by
  unfold gBlock
  refine .bind' (tri_expect R h (by decide +kernel)) ?_
  rintro _ s ⟨e, hl, rfl⟩
  have p1 := Pst.step hl
  have b1 := p1.bd hb (by decide)
  have fin : ∀ (x : Tr) (S0 : RS) (S2 : RS) (l : List Tr), Pst N 3 S S0 → PoB ts N S0 l S2 → Tri ((rExpect ts (cds "}") S2).bind fun _ S => .ok (.t [str "block", x, .t l]) S) fun t s => Pst N 3 S s ∧ (∀ F, pc ts S.n + cE F t ≤ pc ts s.n) ∧ lvT t = 9 := by
    intro x S0 S2 l p0 ⟨p2, c2⟩
    refine .bind' (tri_expect R p2.1 (by decide +kernel)) ?_
    rintro _ s ⟨e3, hl3, rfl⟩
    refine ⟨((p0.trans p2).trans (Pst.step hl3)).weak (by omega), fun F => ?_, lv_9 (by decide +kernel)⟩
    have h0 := p0.pc (ts := ts)
    have h4 : pc ts S2.n ≤ pc ts (S2.n + 1) := pc_mono (Nat.le_succ _)
    show _ ≤ pc ts (S2.n + 1)
    cases F with
    | zero => have := c2 0; rw [ce_zero]; omega
    | succ F =>
      have := c2 F
      show _ + cE (F + 1) (.t (.s (cds "block") :: _)) ≤ _
      rw [ce_succ, ck_block]
      omega
  refine .bind' (tri_before R p1.1) ?_
  rintro b s rfl
  split
  · refine .bind' (tri_names R (by decide) p1.1) ?_
    rintro ns s ⟨p2, q1, q2⟩
    refine .bind' (tri_expect R p2.1 (by decide +kernel)) ?_
    rintro _ s' ⟨e3, hl3, rfl⟩
    have q2' : s.n + 1 = S.n + 1 + 2 * ns.length := q2
    have hnd : ns.Nodup := R.bars S.n ns e q1 (by rw [show S.n + 2 * ns.length = s.n by omega]; exact e3)
    refine .bind' (tri_note hnd) ?_
    rintro _ s'' rfl
    have p3 := Pst.step hl3
    have p13 := (p1.trans p2).trans p3
    refine .bind' (hB _ _ p3.1 (p13.bd hb (by decide))) ?_
    intro l S2 hp
    exact fin _ _ S2 l (p13.weak (by decide)) hp
  · refine .bind' (hB _ _ p1.1 b1) ?_
    intro l S2 hp
    exact fin _ _ S2 l p1 hp
theorem tri_super (R : Rws ts N) (hE : SEx ts N ex (d + 1)) (h : S.n ≤ N) (hb : Bd3 S (d + 1)) : Tri (gSuper ts ex d S) fun t s => Pst N 3 S s ∧ (∀ F, pc ts S.n + cE F t ≤ pc ts s.n) ∧ lvT t = 9 := by
  unfold gSuper
  refine .bind' (tri_expect R h (by decide +kernel)) ?_
  rintro _ s ⟨e, hl, rfl⟩
  have p1 := Pst.step hl
  refine .bind' (tri_expect R p1.1 (by decide +kernel)) ?_
  rintro _ s ⟨e2, hl2, rfl⟩
  have p2 := Pst.step hl2
  refine .bind' (tri_name R p2.1) ?_
  rintro a s ⟨g1, g2, g3, rfl⟩
  have p3 := Pst.step g3
  have p13 := (p1.trans p2).trans p3
  refine .bind' (tri_args R hE p3.1 (p13.bd hb (by decide))) ?_
  rintro l s ⟨p4, c4⟩
  refine ⟨(p13.trans p4).weak (by decide), fun F => ?_, lv_9 (by decide +kernel)⟩
  have h0 := p13.pc (ts := ts)
  cases F with
  | zero => have := c4 0; rw [ce_zero]; omega
  | succ F =>
    have := c4 F
    show _ + cE (F + 1) (.t (.s (cds "super") :: _)) ≤ _
    rw [ce_succ, ck_super]
    omega
theorem cpl_le {c q t : Nat} {T : Tr} {f : Tr → Nat} (h : q ≤ t) : cPl f q T ≤ cPl f t T := by
  unfold cPl
  by_cases c1 : lvT T < q
  · rw [if_pos c1, if_pos (by omega)]; omega
  · rw [if_neg c1]; omega
theorem tri_primary (R : Rws ts N) (hE : SEx ts N ex (d + 1)) (hB : SBo ts N bo (d + 1)) (h : S.n ≤ N) (hb : Bd3 S (d + 1)) : Tri (gPrimary ts ex bo d S) fun t s => Pst N 3 S s ∧ ∀ F, pc ts S.n + cPl (cE F) 9 t ≤ pc ts s.n := by
  have one : ∀ (k : List Nat) (r : List Tr) (S0 : RS), k ∈ [cds "plain", cds "self", cds "new", cds "name"] → Pst N 3 S S0 → (Pst N 3 S S0 ∧ ∀ F, pc ts S.n + cPl (cE F) 9 (.t (.s k :: r)) ≤ pc ts S0.n) := by
    intro k r S0 hk p
    refine ⟨p, fun F => ?_⟩
    have h0 := p.pc (ts := ts)
    have h9 : lvT (.t (.s k :: r)) = 9 := lv_9 (by simp only [List.mem_cons, List.not_mem_nil, or_false] at hk ⊢; rcases hk with h | h | h | h <;> simp [h])
    have hc : cE F (.t (.s k :: r)) = 0 := by
      cases F with
      | zero => rfl
      | succ F =>
        rw [ce_succ]
        simp only [List.mem_cons, List.not_mem_nil, or_false] at hk
        rcases hk with rfl | rfl | rfl | rfl
        · exact ck_plain _ r
        · exact ck_self _ r
        · exact ck_new _ r
        · exact ck_name _ r
    unfold cPl
    rw [h9, hc]
    simpa using h0
  have nine : ∀ (t : Tr) (s : RS), (Pst N 3 S s ∧ (∀ F, pc ts S.n + cE F t ≤ pc ts s.n) ∧ lvT t = 9) → (Pst N 3 S s ∧ ∀ F, pc ts S.n + cPl (cE F) 9 t ≤ pc ts s.n) := by
    rintro t s ⟨a, b, c⟩
    refine ⟨a, fun F => ?_⟩
    have := b F
    unfold cPl
    rw [c]
    simpa using this
  unfold gPrimary
  rw [if_pos (by rw [R.len]; omega)]
  by_cases hk : (tokN ts S.n).1 = cds "number" ∨ (tokN ts S.n).1 = cds "text"
  · rw [if_pos hk]
    have hne : (tokN ts S.n).1 ≠ cds "nothing" := by
      rcases hk with hk | hk <;> rw [hk]
      · exact kinds_ne.2.1
      · exact kinds_ne.2.2.1
    refine .bind' (tri_take R h hne) ?_
    rintro v s ⟨g1, g2, g3, rfl⟩
    exact one _ _ _ (by simp) (Pst.step g3)
  · rw [if_neg hk]
    by_cases hk2 : (tokN ts S.n).1 = cds "name"
    · rw [if_pos hk2]
      refine .bind' (tri_take R h (by rw [hk2]; exact kinds_ne.1)) ?_
      rintro v s ⟨g1, g2, g3, rfl⟩
      exact one _ _ _ (by simp) (Pst.step g3)
    · rw [if_neg hk2]
      refine .bind' (tri_fixed R h) ?_
      rintro w s ⟨rfl, rfl⟩
      split
      · exact (tri_block R hB h hb).mono nine
      · split
        · exact (tri_super R hE h hb).mono nine
        · refine .bind' (tri_accept R h (by decide +kernel)) ?_
          rintro b s (⟨rfl, e, hl, rfl⟩ | ⟨rfl, e, rfl⟩)
          · rw [if_pos rfl]
            have p1 := Pst.step hl
            refine .bind' (hE 1 _ (by decide) (by decide) p1.1 (p1.bd hb (by decide))) ?_
            rintro t s ⟨p2, c2, _⟩
            refine .bind' (tri_expect R p2.1 (by decide +kernel)) ?_
            rintro _ s' ⟨e3, hl3, rfl⟩
            refine ⟨((p1.trans p2).trans (Pst.step hl3)).weak (by decide), fun F => ?_⟩
            have eo := pc_open e
            have h1 : pc ts (S.n + 1) + (cE F t + if lvT t < 1 then 1 else 0) ≤ pc ts s.n := c2 F
            have h4 : pc ts s.n ≤ pc ts (s.n + 1) := pc_mono (Nat.le_succ _)
            show _ ≤ pc ts (s.n + 1)
            unfold cPl
            split <;> omega
          · rw [if_neg (by decide)]
            refine .bind' (tri_accept R h (by decide +kernel)) ?_
            rintro b s (⟨rfl, e2, hl, rfl⟩ | ⟨rfl, e2, rfl⟩)
            · rw [if_pos rfl]
              have p1 := Pst.step hl
              refine .bind' (tri_take R p1.1 kinds_ne.2.2.2) ?_
              rintro v s ⟨g1, g2, g3, rfl⟩
              exact one _ _ _ (by simp) ((p1.trans (Pst.step g3)).weak (by decide))
            · rw [if_neg (by decide)]
              refine .bind' (tri_accept R h (by decide +kernel)) ?_
              rintro b s (⟨rfl, e3, hl, rfl⟩ | ⟨rfl, e3, rfl⟩)
              · rw [if_pos rfl]
                exact one _ _ _ (by simp) (Pst.step hl)
              · rw [if_neg (by decide)]
                split
                · exact tri_refuse R h
                · rename_i v hv
                  have hz : fixT (tokN ts S.n) ≠ [] := fun z => by
                    rw [z] at hv
                    have e0 : plainL.lookup [] = none := by decide +kernel
                    rw [e0] at hv; cases hv
                  refine .bind' (tri_expect R h hz) ?_
                  rintro _ s' ⟨g1, g3, rfl⟩
                  exact one _ _ _ (by simp) (Pst.step g3)
end
end
section
open PySem PySem.Spec PyProof.Rows L2
section
variable {ts : List Tk} {N : Nat} {S : RS} {ex : Nat → Nat → RS → Res RS Tr} {bo : List (List Nat) → Nat → RS → Res RS (List Tr)} {d : Nat}
theorem ahead_mem {w : List Nat} (h : 1 ≤ (aheadN.lookup w).getD 0) : (w = cds "not" ∧ (aheadN.lookup w).getD 0 = 3 ∧ treesN.lookup w = some (cds "not")) ∨ (w = cds "-" ∧ (aheadN.lookup w).getD 0 = 7 ∧ treesN.lookup w = some (cds "neg")) := by
  by_cases h1 : w = cds "not"
  · subst h1; exact .inl ⟨rfl, by decide +kernel, by decide +kernel⟩
  · by_cases h2 : w = cds "-"
    · subst h2; exact .inr ⟨rfl, by decide +kernel, by decide +kernel⟩
    · exfalso
      have b1 : (w == cds "not") = false := beq_eq_false_iff_ne.mpr h1
      have b2 : (w == cds "-") = false := beq_eq_false_iff_ne.mpr h2
      unfold aheadN at h
      simp only [List.lookup, b1, b2] at h
      exact absurd h (by decide)
def PoO (ts : List Tk) (N p : Nat) (S : RS) (t : Tr) (lev : Nat) (S' : RS) : Prop := Pst N 3 S S' ∧ (∀ F, pc ts S.n + cPl (cE F) lev t ≤ pc ts S'.n) ∧ p ≤ lev ∧ (levB (fixT (tokN ts S'.n)) ≤ lev ∨ levB (fixT (tokN ts S'.n)) = 4)
theorem tri_opening (R : Rws ts N) {p : Nat} (hp : 1 ≤ p) (hp9 : p ≤ 9) (hE : SEx ts N ex (d + 1)) (hB : SBo ts N bo (d + 1)) (h : S.n ≤ N) (hb : Bd3 S (d + 1)) : Tri (gOpening ts ex bo p d S) fun o s => PoO ts N p S o.1 o.2 s := by
  unfold gOpening
  refine .bind' (tri_fixed R h) ?_
  rintro w s ⟨rfl, rfl⟩
  by_cases c : (aheadN.lookup (fixT (tokN ts S.n))).getD 0 < p
  · rw [if_pos c]
    refine .bind' (tri_primary R hE hB h hb) ?_
    rintro t s ⟨p1, c1⟩
    exact ⟨p1, c1, hp9, .inl (Nat.le_trans (levB_le _) (show 8 ≤ 9 by decide))⟩
  · rw [if_neg c]
    have hm := ahead_mem (w := fixT (tokN ts S.n)) (by omega)
    have hz : fixT (tokN ts S.n) ≠ [] := by
      rcases hm with ⟨e, _⟩ | ⟨e, _⟩ <;> rw [e] <;> decide +kernel
    generalize fixT (tokN ts S.n) = w at hm hz c ⊢
    refine .bind' (tri_expect R h hz) ?_
    rintro _ s ⟨e, hl, rfl⟩
    have p1 := Pst.step hl
    have b1 := p1.bd hb (by decide)
    have h01 : pc ts S.n ≤ pc ts (S.n + 1) := pc_mono (Nat.le_succ _)
    rcases hm with ⟨rfl, h1, h2⟩ | ⟨rfl, h1, h2⟩
    · rw [h2, h1]
      refine .bind' (hE 3 _ (by decide) (by decide) p1.1 b1) ?_
      rintro t s ⟨p2, c2, q2⟩
      refine ⟨(p1.trans p2).weak (by decide), fun F => ?_, by omega, ?_⟩
      · show _ + cPl (cE F) 3 (.t (.s (cds "not") :: [t])) ≤ _
        unfold cPl
        rw [lv_not]
        cases F with
        | zero =>
          have := p2.pc (ts := ts)
          have h' : pc ts (S.n + 1) ≤ pc ts s.n := this
          rw [ce_zero]; simp; omega
        | succ F =>
          have h' : pc ts (S.n + 1) + cPl (cE F) 3 t ≤ pc ts s.n := c2 F
          rw [ce_succ, ck_not]; simp; omega
      · rcases q2 with q | q
        · exact .inl (by omega)
        · exact .inr q
    · rw [h2, h1]
      refine .bind' (hE 7 _ (by decide) (by decide) p1.1 b1) ?_
      rintro t s ⟨p2, c2, q2⟩
      refine ⟨(p1.trans p2).weak (by decide), fun F => ?_, by omega, ?_⟩
      · show _ + cPl (cE F) 7 (.t (.s (cds "neg") :: [t])) ≤ _
        unfold cPl
        rw [lv_neg]
        cases F with
        | zero =>
          have h' : pc ts (S.n + 1) ≤ pc ts s.n := p2.pc
          rw [ce_zero]; simp; omega
        | succ F =>
          have h' : pc ts (S.n + 1) + cPl (cE F) 7 t ≤ pc ts s.n := c2 F
          rw [ce_succ, ck_neg]; simp; omega
      · rcases q2 with q | q
        · exact .inl (by omega)
        · exact .inr q
theorem behN_le' {s : List Nat} {l : Nat} (h : behN.lookup s = some l) (n : s ≠ cds ".") : 1 ≤ l ∧ l ≤ 6 := by
  have key : ∀ p ∈ behN, p.1 = cds "." ∨ (1 ≤ p.2 ∧ p.2 ≤ 6) := by decide +kernel
  rcases key _ (beh_mem h) with h | h
  · exact absurd h n
  · exact h
theorem tri_sign (R : Rws ts N) {w : List Nat} {lev : Nat} {tr : Tr} {B : Nat} (hE : SEx ts N ex (d + 1)) (h : S.n ≤ N) (hb : Bd3 S (d + 1)) (h1 : 1 ≤ levB w) (hl : levB w ≤ lev) (h4 : levB w = 4 → 4 < lev) (hc : ∀ F, B + cPl (cE F) lev tr ≤ pc ts S.n) :
    Tri (gSign ts ex w (levB w) d tr S) fun t s => Pst N 0 S s ∧ (∀ F, B + cPl (cE F) (levB w) t ≤ pc ts s.n) ∧ (levB (fixT (tokN ts s.n)) ≤ levB w ∨ levB (fixT (tokN ts s.n)) = 4) := by
  have hc0 : B ≤ pc ts S.n := Nat.le_trans (Nat.le_add_right _ _) (hc 0)
  have hlp : leftP (levB w) ≤ lev := by unfold leftP; split <;> omega
  unfold gSign
  by_cases hd : w = cds "."
  · rw [if_pos hd]
    subst hd
    have e8 : levB (cds ".") = 8 := by decide +kernel
    refine .bind' (tri_name R h) ?_
    rintro a s ⟨g1, g2, g3, rfl⟩
    have p1 := Pst.step g3
    refine .bind' (tri_args R hE p1.1 (p1.bd hb (by decide))) ?_
    rintro l s ⟨p2, c2⟩
    refine ⟨(p1.trans p2).weak (by decide), fun F => ?_, .inl (by rw [e8]; exact levB_le _)⟩
    have h01 : pc ts S.n ≤ pc ts (S.n + 1) := pc_mono (Nat.le_succ _)
    show _ + cPl (cE F) _ (.t (.s (cds "send") :: _)) ≤ _
    unfold cPl
    rw [lv_send, e8]
    cases F with
    | zero =>
      have h' : pc ts (S.n + 1) ≤ pc ts s.n := p2.pc
      rw [ce_zero]; simp; omega
    | succ F =>
      have h' : pc ts (S.n + 1) + 1 + sumT (cE F) l ≤ pc ts s.n := c2 F
      have h2 := hc F
      have h3 : cPl (cE F) 8 tr ≤ cPl (cE F) lev tr := cpl_le (c := 0) (by omega)
      rw [ce_succ, ck_send]; simp; omega
  · rw [if_neg hd]
    have hl6 : levB w ≤ 6 := (behN_le' (levB_some h1) hd).2
    by_cases ha : w = cds "and" ∨ w = cds "or"
    · rw [if_pos ha]
      refine .bind' (hE (levB w + 1) _ (by omega) (by omega) h hb) ?_
      rintro t s ⟨p2, c2, q2⟩
      refine ⟨p2.weak (by decide), fun F => ?_, ?_⟩
      · show _ + cPl (cE F) _ (.t (.s w :: _)) ≤ _
        unfold cPl
        rw [lv_ao ha]
        cases F with
        | zero =>
          have h' : pc ts S.n ≤ pc ts s.n := p2.pc
          rw [ce_zero]; simp; omega
        | succ F =>
          have h' := c2 F
          have h2 := hc F
          have h3 : cPl (cE F) (leftP (levB w)) tr ≤ cPl (cE F) lev tr := cpl_le (c := 0) hlp
          rw [ce_succ]
          have e : cK (cE F) w [tr, t] = cPl (cE F) (leftP (levB w)) tr + cPl (cE F) (levB w + 1) t := by
            rcases ha with rfl | rfl
            · exact ck_and _ _ _
            · exact ck_or _ _ _
          rw [e]; simp; omega
      · rcases q2 with q | q
        · exact .inl (by omega)
        · exact .inr q
    · rw [if_neg ha]
      refine .bind' (hE (levB w + 1) _ (by omega) (by omega) h hb) ?_
      rintro t s ⟨p2, c2, q2⟩
      refine ⟨p2.weak (by decide), fun F => ?_, ?_⟩
      · show _ + cPl (cE F) _ (.t (.s (cds "op") :: .s w :: _)) ≤ _
        unfold cPl
        rw [lv_op]
        cases F with
        | zero =>
          have h' : pc ts S.n ≤ pc ts s.n := p2.pc
          rw [ce_zero]; simp; omega
        | succ F =>
          have h' := c2 F
          have h2 := hc F
          have h3 : cPl (cE F) (leftP (levB w)) tr ≤ cPl (cE F) lev tr := cpl_le (c := 0) hlp
          rw [ce_succ, ck_op]; simp; omega
      · rcases q2 with q | q
        · exact .inl (by omega)
        · exact .inr q
def PoOk (ts : List Tk) (p : Nat) (S0 : RS) (t : Tr) (lev : Nat) (S : RS) : Prop := (∀ F, pc ts S0.n + cPl (cE F) lev t ≤ pc ts S.n) ∧ p ≤ lev ∧ (levB (fixT (tokN ts S.n)) ≤ lev ∨ levB (fixT (tokN ts S.n)) = 4)
theorem tri_exprGo (R : Rws ts N) {p f : Nat} {S0 : RS} (hp : 1 ≤ p) (hE : SEx ts N ex (d + 1)) : ∀ (k : Nat) (tr : Tr) (lev : Nat) (S : RS), S.n ≤ N → Bd3 S (d + 1) → f < S.ds.length → N + 1 ≤ k + S.n → Pst N 2 S0 S → PoOk ts p S0 tr lev S → Tri (gExprGo ts ex p d f k tr lev (fixT (tokN ts S.n)) S) (PoE ts N p S0)
  | 0, tr, lev, S, h, _, _, hk, _, _ => by omega
  | k + 1, tr, lev, S, h, hb, hf, hk, hp0, ⟨hc, hpl, hs⟩ => by
    unfold gExprGo
    by_cases g : goOn (fixT (tokN ts S.n)) p lev = true
    · rw [if_pos g]
      have g' : (decide (p ≤ levB (fixT (tokN ts S.n))) && (!decide (levB (fixT (tokN ts S.n)) = 4) || decide (4 < lev))) = true := g
      rw [Bool.and_eq_true, decide_eq_true_iff, Bool.or_eq_true, Bool.not_eq_true', decide_eq_false_iff_not, decide_eq_true_iff] at g'
      obtain ⟨g1, g2⟩ := g'
      have hl1 : 1 ≤ levB (fixT (tokN ts S.n)) := by omega
      have hsome := levB_some hl1
      have hz : fixT (tokN ts S.n) ≠ [] := fun z => by
        rw [z] at hl1
        exact absurd hl1 (by decide +kernel)
      have h44 : levB (fixT (tokN ts S.n)) = 4 → 4 < lev := fun e => by rcases g2 with g2 | g2; exact absurd e g2; exact g2
      have hle : levB (fixT (tokN ts S.n)) ≤ lev := by
        rcases hs with hs | hs
        · exact hs
        · have := h44 hs; omega
      refine .bind' (tri_deepen R h hf) ?_
      rintro _ s1 ⟨p1, n1, d1⟩
      have h1 : s1.n ≤ N := p1.1
      have e0 : fixT (tokN ts S.n) = fixT (tokN ts s1.n) := by rw [n1]
      have hc1 : ∀ F, pc ts S0.n + cPl (cE F) lev tr ≤ pc ts s1.n := fun F => by rw [n1]; exact hc F
      have hb1 := p1.bd hb (by decide)
      have hf1 : f < s1.ds.length := by omega
      have hk1 : N + 1 ≤ k + 1 + s1.n := by omega
      have hp1 := (hp0.trans p1).weak (m := 2) (by decide)
      rw [e0] at hl1 hsome hz h44 hle g1 ⊢
      clear hc hb hf hk hp0 e0 p1 n1 d1 g g2 hs
      generalize hw : fixT (tokN ts s1.n) = w at *
      refine .bind' (tri_expect R h1 hz) ?_
      rintro _ s2 ⟨e2, hl2, rfl⟩
      have p2 := Pst.step hl2
      have hb2 := p2.bd hb1 (by decide)
      rw [hsome]
      have hc2 : ∀ F, pc ts S0.n + cPl (cE F) lev tr ≤ pc ts (s1.n + 1) := fun F => Nat.le_trans (hc1 F) (pc_mono (Nat.le_succ _))
      refine .bind' (tri_sign (S := { s1 with n := s1.n + 1 }) R hE p2.1 hb2 hl1 hle h44 hc2) ?_
      rintro t s3 ⟨p3, c3, q3⟩
      refine .bind' (tri_fixed R p3.1) ?_
      rintro w' s4 ⟨rfl, rfl⟩
      have hds : s1.ds.length ≤ s3.ds.length := p3.2.1
      have hn3 : s1.n + 1 ≤ s3.n := p3.2.2.2.2
      refine tri_exprGo R hp hE k t (levB w) s3 p3.1 (p3.bd hb2 (by decide)) (by omega) (by omega) (((hp1.trans p2).trans p3).weak (by decide)) ⟨c3, g1, q3⟩
    · rw [if_neg g]
      have g' : ¬ (decide (p ≤ levB (fixT (tokN ts S.n))) && (!decide (levB (fixT (tokN ts S.n)) = 4) || decide (4 < lev))) = true := g
      rw [Bool.and_eq_true, decide_eq_true_iff, Bool.or_eq_true, Bool.not_eq_true', decide_eq_false_iff_not, decide_eq_true_iff] at g'
      refine ⟨hp0, fun F => Nat.le_trans (Nat.add_le_add_left (cpl_le (c := 0) hpl) _) (hc F), ?_⟩
      by_cases c : levB (fixT (tokN ts S.n)) < p
      · exact .inl c
      · exact .inr (Classical.byContradiction fun c2 => g' ⟨by omega, .inl c2⟩)
end
end
section
open PySem PySem.Spec PyProof.Rows L2
section
variable {ts : List Tk} {N : Nat} {S : RS} {ex : Nat → Nat → RS → Res RS Tr} {bo : List (List Nat) → Nat → RS → Res RS (List Tr)} {d : Nat}
theorem tri_expr (R : Rws ts N) {p : Nat} (hp : 1 ≤ p) (hp9 : p ≤ 9) (hd : d ≤ 13) (hE : d ≤ 12 → SEx ts N ex (d + 1)) (hB : d ≤ 12 → SBo ts N bo (d + 1)) (h : S.n ≤ N) (hb : Bd3 S d) : Tri (gExpr ts ex bo p d S) (PoE ts N p S) := by
  unfold gExpr
  refine .bind' (tri_begin R h hb hd) ?_
  rintro _ s1 ⟨h12, p1, n1, l1⟩
  have hb1 : Bd3 s1 (d + 1) := by
    obtain ⟨a1, a2, a3, a4, a5⟩ := p1
    unfold Bd3 at *
    omega
  refine .bind' (tri_opening R hp hp9 (hE h12) (hB h12) p1.1 hb1) ?_
  rintro ⟨t, lev⟩ s2 ⟨p2, c2, hpl, q2⟩
  refine .bind' (tri_fixed R p2.1) ?_
  rintro w s3 ⟨rfl, rfl⟩
  have hds : s1.ds.length ≤ s2.ds.length := p2.2.1
  have hN := R.len
  refine tri_exprGo R hp (hE h12) (ts.length + 1) t lev s2 p2.1 (p2.bd hb1 (by decide)) (by omega) (by omega) ((p1.trans p2).weak (by decide)) ⟨fun F => ?_, hpl, q2⟩
  rw [← n1]
  exact c2 F
def PoS (ts : List Tk) (N : Nat) (S : RS) (t : Tr) (S' : RS) : Prop := Pst N 1 S S' ∧ ∀ F, pc ts S.n + cE F t ≤ pc ts S'.n
def PoS' (ts : List Tk) (N : Nat) (S : RS) (t : Tr) (S' : RS) : Prop := Pst N 2 S S' ∧ ∀ F, pc ts S.n + cE F t ≤ pc ts S'.n
theorem PoE.c {p : Nat} {t : Tr} {S' : RS} (h : PoE ts N p S t S') (F : Nat) : pc ts S.n + cE F t ≤ pc ts S'.n := Nat.le_trans (Nat.add_le_add_left (Nat.le_add_right _ _) _) (h.2.1 F)
theorem tri_set (R : Rws ts N) (hE : SEx ts N ex (d + 1)) (h : S.n ≤ N) (hb : Bd3 S (d + 1)) : Tri (gSet ts ex d S) (PoS' ts N S) := by
  unfold gSet
  refine .bind' (tri_name R h) ?_
  rintro a s ⟨g1, g2, g3, rfl⟩
  have p1 := Pst.step g3
  refine .bind' (tri_expect R p1.1 (by decide +kernel)) ?_
  rintro _ s ⟨e2, hl2, rfl⟩
  have p2 := p1.trans (Pst.step hl2)
  refine .bind' (hE 1 _ (by decide) (by decide) p2.1 (p2.bd hb (by decide))) ?_
  intro t s q
  refine ⟨(p2.trans q.1).weak (by decide), fun F => ?_⟩
  have h0 := p2.pc (ts := ts)
  cases F with
  | zero => have := q.c 0; rw [ce_zero] at *; omega
  | succ F =>
    have := q.c F
    show _ + cE (F + 1) (.t (.s (cds "set") :: _)) ≤ _
    rw [ce_succ, ck_set]
    omega
theorem tri_while (R : Rws ts N) (hE : SEx ts N ex (d + 1)) (hB : SBo ts N bo (d + 1)) (h : S.n ≤ N) (hb : Bd3 S (d + 1)) : Tri (gWhile ts ex bo d S) (PoS' ts N S) := by
  unfold gWhile
  refine .bind' (tri_expect R h (by decide +kernel)) ?_
  rintro _ s ⟨e1, hl1, rfl⟩
  have p1 := Pst.step hl1
  refine .bind' (hE 1 _ (by decide) (by decide) p1.1 (p1.bd hb (by decide))) ?_
  intro t s q
  have p2 := p1.trans q.1
  refine .bind' (tri_expect R p2.1 (by decide +kernel)) ?_
  rintro _ s3 ⟨e3, hl3, rfl⟩
  have p3 := p2.trans (Pst.step hl3)
  refine .bind' (hB _ _ p3.1 (p3.bd hb (by decide))) ?_
  rintro l s4 ⟨q4, c4⟩
  have p4 := p3.trans q4
  refine .bind' (tri_expect R p4.1 (by decide +kernel)) ?_
  rintro _ s5 ⟨e5, hl5, rfl⟩
  refine ⟨(p4.trans (Pst.step hl5)).weak (by decide), fun F => ?_⟩
  have h1 := p1.pc (ts := ts)
  have h3 : pc ts s.n ≤ pc ts (s.n + 1) := pc_mono (Nat.le_succ _)
  have h5 : pc ts s4.n ≤ pc ts (s4.n + 1) := pc_mono (Nat.le_succ _)
  show _ ≤ pc ts (s4.n + 1)
  cases F with
  | zero => have := q.c 0; have := c4 0; rw [ce_zero] at *; dsimp only at *; omega
  | succ F =>
    have := q.c F
    have := c4 F
    show _ + cE (F + 1) (.t (.s (cds "while") :: _)) ≤ _
    rw [ce_succ, ck_while]
    dsimp only at *
    omega
theorem tri_if (R : Rws ts N) (hE : SEx ts N ex (d + 1)) (hB : SBo ts N bo (d + 1)) (h : S.n ≤ N) (hb : Bd3 S (d + 1)) : Tri (gIf ts ex bo d S) (PoS' ts N S) := by
  unfold gIf
  refine .bind' (tri_expect R h (by decide +kernel)) ?_
  rintro _ s ⟨e1, hl1, rfl⟩
  have p1 := Pst.step hl1
  refine .bind' (hE 1 _ (by decide) (by decide) p1.1 (p1.bd hb (by decide))) ?_
  intro t s q
  have p2 := p1.trans q.1
  refine .bind' (tri_expect R p2.1 (by decide +kernel)) ?_
  rintro _ s3 ⟨e3, hl3, rfl⟩
  have p3 := p2.trans (Pst.step hl3)
  refine .bind' (hB _ _ p3.1 (p3.bd hb (by decide))) ?_
  rintro l s4 ⟨q4, c4⟩
  have p4 := p3.trans q4
  have h1 := p1.pc (ts := ts)
  have h3 : pc ts s.n ≤ pc ts (s.n + 1) := pc_mono (Nat.le_succ _)
  have h5 : pc ts s4.n ≤ pc ts (s4.n + 1) := pc_mono (Nat.le_succ _)
  refine .bind' (tri_accept R p4.1 (by decide +kernel)) ?_
  rintro b s5 (⟨rfl, e5, hl5, rfl⟩ | ⟨rfl, e5, rfl⟩)
  · rw [if_pos rfl]
    have p5 := p4.trans (Pst.step hl5)
    refine .bind' (hB _ _ p5.1 (p5.bd hb (by decide))) ?_
    rintro l2 s6 ⟨q6, c6⟩
    have p6 := p5.trans q6
    refine .bind' (tri_expect R p6.1 (by decide +kernel)) ?_
    rintro _ s7 ⟨e7, hl7, rfl⟩
    refine ⟨(p6.trans (Pst.step hl7)).weak (by decide), fun F => ?_⟩
    have h7 : pc ts s6.n ≤ pc ts (s6.n + 1) := pc_mono (Nat.le_succ _)
    show _ ≤ pc ts (s6.n + 1)
    cases F with
    | zero => have := q.c 0; have := c4 0; have := c6 0; rw [ce_zero] at *; dsimp only at *; omega
    | succ F =>
      have := q.c F
      have := c4 F
      have := c6 F
      show _ + cE (F + 1) (.t (.s (cds "if") :: _)) ≤ _
      rw [ce_succ, ck_if]
      dsimp only at *
      omega
  · rw [if_neg (by decide)]
    refine .bind' (tri_expect R p4.1 (by decide +kernel)) ?_
    rintro _ s7 ⟨e7, hl7, rfl⟩
    refine ⟨(p4.trans (Pst.step hl7)).weak (by decide), fun F => ?_⟩
    show _ ≤ pc ts (s4.n + 1)
    cases F with
    | zero => have := q.c 0; have := c4 0; rw [ce_zero] at *; dsimp only at *; omega
    | succ F =>
      have := q.c F
      have := c4 F
      show _ + cE (F + 1) (.t (.s (cds "if") :: _)) ≤ _
      rw [ce_succ, ck_if]
      show _ + (_ + _ + 0) ≤ _
      dsimp only at *
      omega
theorem tri_try (R : Rws ts N) (hB : SBo ts N bo (d + 1)) (h : S.n ≤ N) (hb : Bd3 S (d + 1)) : Tri (gTry ts bo d S) (PoS' ts N S) := by
  unfold gTry
  refine .bind' (tri_expect R h (by decide +kernel)) ?_
  rintro _ s ⟨e1, hl1, rfl⟩
  have p1 := Pst.step hl1
  refine .bind' (hB _ _ p1.1 (p1.bd hb (by decide))) ?_
  rintro l s4 ⟨q4, c4⟩
  have p4 := p1.trans q4
  refine .bind' (tri_expect R p4.1 (by decide +kernel)) ?_
  rintro _ s5 ⟨e5, hl5, rfl⟩
  have p5 := p4.trans (Pst.step hl5)
  refine .bind' (tri_name R p5.1) ?_
  rintro a s6 ⟨g1, g2, g3, rfl⟩
  have p6 := p5.trans (Pst.step g3)
  refine .bind' (tri_expect R p6.1 (by decide +kernel)) ?_
  rintro _ s7 ⟨e7, hl7, rfl⟩
  have p7 := p6.trans (Pst.step hl7)
  refine .bind' (hB _ _ p7.1 (p7.bd hb (by decide))) ?_
  rintro l2 s8 ⟨q8, c8⟩
  have p8 := p7.trans q8
  refine .bind' (tri_expect R p8.1 (by decide +kernel)) ?_
  rintro _ s9 ⟨e9, hl9, rfl⟩
  refine ⟨(p8.trans (Pst.step hl9)).weak (by decide), fun F => ?_⟩
  have h1 : pc ts S.n ≤ pc ts (S.n + 1) := pc_mono (Nat.le_succ _)
  have h5 : pc ts s4.n ≤ pc ts (s4.n + 1 + 1 + 1) := pc_mono (by omega)
  have h9 : pc ts s8.n ≤ pc ts (s8.n + 1) := pc_mono (Nat.le_succ _)
  show _ ≤ pc ts (s8.n + 1)
  cases F with
  | zero =>
    have h2 : pc ts (S.n + 1) + sumT (cE 0) l ≤ pc ts s4.n := c4 0
    have h3 : pc ts (s4.n + 1 + 1 + 1) + sumT (cE 0) l2 ≤ pc ts s8.n := c8 0
    rw [ce_zero] at *; omega
  | succ F =>
    have h2 : pc ts (S.n + 1) + sumT (cE F) l ≤ pc ts s4.n := c4 F
    have h3 : pc ts (s4.n + 1 + 1 + 1) + sumT (cE F) l2 ≤ pc ts s8.n := c8 F
    show _ + cE (F + 1) (.t (.s (cds "try") :: _)) ≤ _
    rw [ce_succ, ck_try]
    omega
theorem tri_keep (R : Rws ts N) (hB : SBo ts N bo (d + 1)) (h : S.n ≤ N) (hb : Bd3 S (d + 1)) : Tri (gKeep ts bo d S) (PoS' ts N S) := by
  unfold gKeep
  refine .bind' (tri_expect R h (by decide +kernel)) ?_
  rintro _ s ⟨e1, hl1, rfl⟩
  have p1 := Pst.step hl1
  refine .bind' (hB _ _ p1.1 (p1.bd hb (by decide))) ?_
  rintro l s4 ⟨q4, c4⟩
  have p4 := p1.trans q4
  refine .bind' (tri_expect R p4.1 (by decide +kernel)) ?_
  rintro _ s5 ⟨e5, hl5, rfl⟩
  have p5 := p4.trans (Pst.step hl5)
  refine .bind' (hB _ _ p5.1 (p5.bd hb (by decide))) ?_
  rintro l2 s8 ⟨q8, c8⟩
  have p8 := p5.trans q8
  refine .bind' (tri_expect R p8.1 (by decide +kernel)) ?_
  rintro _ s9 ⟨e9, hl9, rfl⟩
  refine ⟨(p8.trans (Pst.step hl9)).weak (by decide), fun F => ?_⟩
  have h1 : pc ts S.n ≤ pc ts (S.n + 1) := pc_mono (Nat.le_succ _)
  have h5 : pc ts s4.n ≤ pc ts (s4.n + 1) := pc_mono (by omega)
  have h9 : pc ts s8.n ≤ pc ts (s8.n + 1) := pc_mono (Nat.le_succ _)
  show _ ≤ pc ts (s8.n + 1)
  cases F with
  | zero =>
    have h2 : pc ts (S.n + 1) + sumT (cE 0) l ≤ pc ts s4.n := c4 0
    have h3 : pc ts (s4.n + 1) + sumT (cE 0) l2 ≤ pc ts s8.n := c8 0
    rw [ce_zero] at *; omega
  | succ F =>
    have h2 : pc ts (S.n + 1) + sumT (cE F) l ≤ pc ts s4.n := c4 F
    have h3 : pc ts (s4.n + 1) + sumT (cE F) l2 ≤ pc ts s8.n := c8 F
    show _ + cE (F + 1) (.t (.s (cds "keep") :: _)) ≤ _
    rw [ce_succ, ck_keep]
    omega
theorem tri_st (R : Rws ts N) (hd : d ≤ 13) (hE : d ≤ 12 → SEx ts N ex (d + 1)) (hB : d ≤ 12 → SBo ts N bo (d + 1)) (h : S.n ≤ N) (hb : Bd3 S d) : Tri (gSt ts ex bo d S) (PoS ts N S) := by
  unfold gSt
  refine .bind' (tri_begin R h hb hd) ?_
  rintro _ s1 ⟨h12, p1, n1, l1⟩
  have hb1 : Bd3 s1 (d + 1) := by
    obtain ⟨a1, a2, a3, a4, a5⟩ := p1
    unfold Bd3 at *
    omega
  have hE := hE h12
  have hB := hB h12
  have up : ∀ t s, PoS' ts N s1 t s → PoS ts N S t s := fun t s ⟨p, c⟩ => ⟨(p1.trans p).weak (by decide), fun F => by rw [← n1]; exact c F⟩
  refine .bind' (tri_fixed R p1.1) ?_
  rintro w s ⟨rfl, rfl⟩
  split
  · rename_i hg
    have hz : fixT (tokN ts s1.n) ≠ [] := by rcases hg with e | e <;> rw [e] <;> decide +kernel
    generalize fixT (tokN ts s1.n) = w at hg hz
    refine .bind' (tri_expect R p1.1 hz) ?_
    rintro _ s2 ⟨e2, hl2, rfl⟩
    have p2 := Pst.step hl2
    refine .bind' (hE 1 _ (by decide) (by decide) p2.1 (p2.bd hb1 (by decide))) ?_
    intro t s3 q
    refine up _ _ ⟨(p2.trans q.1).weak (by decide), fun F => ?_⟩
    have h0 := p2.pc (ts := ts)
    cases F with
    | zero => have := q.c 0; rw [ce_zero] at *; omega
    | succ F =>
      have := q.c F
      rw [ce_succ]
      have e : cK (cE F) w [t] = cE F t := by
        rcases hg with rfl | rfl
        · exact ck_give _ _
        · exact ck_fail _ _
      rw [e]
      omega
  · split
    · exact (tri_while R hE hB p1.1 hb1).mono up
    · split
      · exact (tri_if R hE hB p1.1 hb1).mono up
      · split
        · exact (tri_try R hB p1.1 hb1).mono up
        · split
          · exact (tri_keep R hB p1.1 hb1).mono up
          · refine .bind' (tri_before R p1.1) ?_
            rintro b s rfl
            split
            · exact (tri_set R hE p1.1 hb1).mono up
            · refine .bind' (hE 1 _ (by decide) (by decide) p1.1 hb1) ?_
              intro t s3 q
              refine up _ _ ⟨q.1, fun F => ?_⟩
              cases F with
              | zero => have := q.c 0; rw [ce_zero] at *; omega
              | succ F =>
                have := q.c F
                show _ + cE (F + 1) (.t (.s (cds "eval") :: _)) ≤ _
                rw [ce_succ, ck_eval]
                omega
theorem tri_bodyGo {st : Nat → RS → Res RS Tr} (R : Rws ts N) (hS : ∀ S : RS, S.n ≤ N → Bd3 S d → Tri (st d S) (PoS ts N S)) : ∀ (k : Nat) (l : List Tr) (S : RS), S.n ≤ N → Bd3 S d → N + 1 ≤ k + S.n → Tri (gBodyGo ts st d k l S) fun l' s => Pst N 0 S s ∧ ∀ F, pc ts S.n + sumT (cE F) l' ≤ pc ts s.n + sumT (cE F) l
  | 0, l, S, h, _, hk => by omega
  | k + 1, l, S, h, hb, hk => by
    unfold gBodyGo
    refine .bind' (tri_accept R h (by decide +kernel)) ?_
    rintro b s (⟨rfl, e, hl, rfl⟩ | ⟨rfl, e, rfl⟩)
    · rw [if_pos rfl]
      have p1 := Pst.step hl
      refine .bind' (hS _ p1.1 (p1.bd hb (by decide))) ?_
      rintro t s ⟨p2, c2⟩
      have hn : S.n + 1 ≤ s.n := p2.2.2.2.2
      refine (tri_bodyGo R hS k (l ++ [t]) s p2.1 (p2.bd (p1.bd hb (by decide)) (by decide)) (by omega)).mono ?_
      rintro l' s' ⟨p3, c3⟩
      refine ⟨((p1.trans p2).trans p3).weak (by omega), fun F => ?_⟩
      have h1 : pc ts (S.n + 1) + cE F t ≤ pc ts s.n := c2 F
      have h3 := c3 F
      have h4 : pc ts S.n ≤ pc ts (S.n + 1) := pc_mono (Nat.le_succ _)
      rw [sumT_append, sum_one] at h3
      omega
    · rw [if_neg (by decide)]
      exact ⟨Pst.refl h, fun F => Nat.le_refl _⟩
theorem tri_body {st : Nat → RS → Res RS Tr} (R : Rws ts N) (hS : ∀ S : RS, S.n ≤ N → Bd3 S d → Tri (st d S) (PoS ts N S)) (ms : List (List Nat)) (h : S.n ≤ N) (hb : Bd3 S d) : Tri (gBody ts st ms d S) (PoB ts N S) := by
  unfold gBody
  refine .bind' (tri_fixed R h) ?_
  rintro w s ⟨rfl, rfl⟩
  split
  · exact ⟨Pst.refl h, fun F => Nat.le_refl _⟩
  · refine .bind' (hS _ h hb) ?_
    rintro t s ⟨p2, c2⟩
    have hN := R.len
    refine (tri_bodyGo R hS (ts.length + 1) [t] s p2.1 (p2.bd hb (by decide)) (by omega)).mono ?_
    rintro l' s' ⟨p3, c3⟩
    refine ⟨(p2.trans p3).weak (by decide), fun F => ?_⟩
    have h1 := c2 F
    have h3 := c3 F
    rw [sum_one] at h3
    omega
theorem tri_all (R : Rws ts N) : ∀ n, (∀ d, 14 ≤ n + d → d ≤ 13 → SEx ts N (exN ts n).1 d) ∧ (∀ d, 14 ≤ n + d → d ≤ 13 → SBo ts N (exN ts n).2 d)
  | 0 => ⟨fun d h1 h2 => by omega, fun d h1 h2 => by omega⟩
  | n + 1 => by
    obtain ⟨e, b⟩ := tri_all R n
    refine ⟨fun d h1 h2 p S hp hp9 hS hb => ?_, fun d h1 h2 ms S hS hb => ?_⟩
    · exact tri_expr R hp hp9 h2 (fun h => e (d + 1) (by omega) (by omega)) (fun h => b (d + 1) (by omega) (by omega)) hS hb
    · exact tri_body R (fun S hS hb => tri_st R h2 (fun h => e (d + 1) (by omega) (by omega)) (fun h => b (d + 1) (by omega) (by omega)) hS hb) ms hS hb
end
end
section
/-! Printed forms: their brackets counted; names behind { and ahead of |. -/
open PySem PySem.Spec PyProof.Rows L2
open TL (numL tl_num numL_digits numL_ne numL_val numL_len numL_lt numL_step)
def pw : Ws → Nat
  | [] => 0
  | a :: w => (if a = cds "(" then 1 else 0) + pw w
theorem pw_append : ∀ u v : Ws, pw (u ++ v) = pw u + pw v
  | [], v => by rw [List.nil_append]; show _ = 0 + _; omega
  | a :: u, v => by show _ + pw (u ++ v) = _ + pw u + pw v; rw [pw_append u v]; omega
theorem pw_nil : pw [] = 0 := rfl
theorem pw_no {a : List Nat} {w : Ws} (h : a ≠ cds "(") : pw (a :: w) = pw w := by show (if _ then 1 else 0) + _ = _; rw [if_neg h]; omega
theorem pw_br {w : Ws} : pw (cds "(" :: w) = 1 + pw w := by show (if _ then 1 else 0) + _ = _; rw [if_pos rfl]
theorem br_eq : cds "(" = [40] := by decide +kernel
theorem name_nb {a : List Nat} (h : IsName a) : a ≠ cds "(" := fun e => by
  obtain ⟨c, r, rfl, hc, _⟩ := h.1
  rw [br_eq] at e
  cases e
  exact absurd hc (by decide +kernel)
theorem cls_nb {a : List Nat} (h : IsClass a) : a ≠ cds "(" := fun e => by
  obtain ⟨c, r, rfl, hc, _⟩ := h
  rw [br_eq] at e
  cases e
  exact absurd hc (by decide +kernel)
theorem num_nb {n : Nat} : numL n ≠ cds "(" := fun e => by
  rw [br_eq] at e
  have := numL_digits n 40 (by rw [e]; exact List.mem_singleton.mpr rfl)
  omega
theorem txt_nb {b : List Nat} : 39 :: b ≠ cds "(" := fun e => by
  rw [br_eq] at e
  cases e
theorem wl_nb : ∀ a ∈ WL, a ≠ cds "(" := by decide +kernel
theorem commas_nb {l : Ws} (hn : ∀ a ∈ l, IsName a) : pw (commas l) = 0 := by
  have key : ∀ l : Ws, (∀ a ∈ l, IsName a) → pw (l.flatMap fun b => [cds ",", b]) = 0 := fun l => by
    induction l with
    | nil => intro _; rfl
    | cons a l ih =>
      intro hn
      have h1 : cds "," ≠ cds "(" := by decide +kernel
      rw [List.flatMap_cons]
      show pw (cds "," :: a :: (l.flatMap fun b => [cds ",", b])) = 0
      rw [pw_no h1, pw_no (name_nb (hn a List.mem_cons_self))]
      exact ih fun x hx => hn x (List.mem_cons_of_mem _ hx)
  cases l with
  | nil => rfl
  | cons a l =>
    rw [commas_cons, pw_no (name_nb (hn a List.mem_cons_self))]
    exact key l fun x hx => hn x (List.mem_cons_of_mem _ hx)
theorem beh_nb {s : List Nat} {l : Nat} (h : behN.lookup s = some l) : s ≠ cds "(" := fun e => by
  rw [e] at h
  exact absurd h (by rw [show behN.lookup (cds "(") = none from by decide +kernel]; exact fun z => nomatch z)
theorem levB_of {s : List Nat} {l : Nat} (h : behN.lookup s = some l) : levB s = l := by unfold levB; rw [h]; rfl
theorem Pe.lvT {lv h : Nat} {t : Tr} {w : Ws} {ns : List Ws} {x : List Nat} (p : Pe lv h t w ns x) : Lv.lvT t = lv := by
  cases p with
  | num _ => exact lv_9 (by decide +kernel)
  | text _ => exact lv_9 (by decide +kernel)
  | word _ => exact lv_9 (by decide +kernel)
  | self => exact lv_9 (by decide +kernel)
  | new _ => exact lv_9 (by decide +kernel)
  | name _ => exact lv_9 (by decide +kernel)
  | neg _ => exact lv_neg
  | not _ => exact lv_not
  | send _ _ _ => exact lv_send
  | sup _ _ => exact lv_9 (by decide +kernel)
  | blk0 _ => exact lv_9 (by decide +kernel)
  | blk _ _ _ _ => exact lv_9 (by decide +kernel)
  | bin hl hd _ _ =>
    rename_i s t1 t2 w1 w2 n1 n2 x1 x2 _ _
    by_cases h : s = cds "and" ∨ s = cds "or"
    · rw [show binT s t1 t2 = .t [.s s, t1, t2] from if_pos h, lv_ao h]; exact levB_of hl
    · rw [show binT s t1 t2 = .t [str "op", .s s, t1, t2] from if_neg h]
      exact lv_op.trans (levB_of hl)
theorem n_mk : cds "-" ≠ cds "(" ∧ cds "not" ≠ cds "(" ∧ cds "." ≠ cds "(" ∧ cds ")" ≠ cds "(" ∧ cds "super" ≠ cds "(" ∧ cds "{" ≠ cds "(" ∧ cds "}" ≠ cds "(" ∧ cds "|" ≠ cds "(" ∧ cds "," ≠ cds "(" ∧ cds ";" ≠ cds "(" ∧ cds ":=" ≠ cds "(" ∧ cds "new" ≠ cds "(" ∧ cds "self" ≠ cds "(" := by decide +kernel
theorem n_wd : cds "while" ≠ cds "(" ∧ cds "do" ≠ cds "(" ∧ cds "end" ≠ cds "(" ∧ cds "if" ≠ cds "(" ∧ cds "then" ≠ cds "(" ∧ cds "else" ≠ cds "(" ∧ cds "try" ≠ cds "(" ∧ cds "catch" ≠ cds "(" ∧ cds "keep" ≠ cds "(" ∧ cds "always" ≠ cds "(" ∧ cds "give" ≠ cds "(" ∧ cds "fail" ≠ cds "(" := by decide +kernel
theorem pw_one {a : List Nat} (h : a ≠ cds "(") : pw [a] = 0 := by rw [pw_no h]; rfl
local macro_rules | `(tactic| walk_at "pw") => `(tactic| (
  obtain ⟨m1, m2, m3, m4, m5, m6, m7, m8, m9, m10, m11, m12, m13⟩ := n_mk
  obtain ⟨k1, k2, k3, k4, k5, k6, k7, k8, k9, k10, k11, k12⟩ := n_wd
  simp only [pw_append, pw_br, pw_no m1, pw_no m2, pw_no m3, pw_no m4, pw_no m5, pw_no m6, pw_no m7, pw_no m8, pw_no m9, pw_no m10, pw_no m11, pw_no m12, pw_no m13, pw_no k1, pw_no k2, pw_no k3, pw_no k4, pw_no k5, pw_no k6, pw_no k7, pw_no k8, pw_no k9, pw_no k10, pw_no k11, pw_no k12, pw_one m4, pw_one m7, pw_one k3, pw_nil]))
mutual
theorem Pe.cnt : ∀ {lv h : Nat} {t : Tr} {w : Ws} {ns : List Ws} {x : List Nat}, Pe lv h t w ns x → ∀ F, h ≤ F → pw w ≤ cE F t
  | _, _, _, _, _, _, .num n, _, _ => by rw [pw_one num_nb]; exact Nat.zero_le _
  | _, _, _, _, _, _, .text n, _, _ => by rw [pw_one txt_nb]; exact Nat.zero_le _
  | _, _, _, _, _, _, .word n, _, _ => by rw [pw_one (wl_nb _ (plain_wl n))]; exact Nat.zero_le _
  | _, _, _, _, _, _, .self, _, _ => by rw [pw_one (by decide +kernel)]; exact Nat.zero_le _
  | _, _, _, _, _, _, .new n, _, _ => by rw [pw_no (by decide +kernel), pw_one (cls_nb n)]; exact Nat.zero_le _
  | _, _, _, _, _, _, .name n, _, _ => by rw [pw_one (name_nb n)]; exact Nat.zero_le _
  | _, _, _, _, _, _, .neg p, 0, hF => by omega
  | _, _, _, _, _, _, .neg (t := t) p, F + 1, hF => by
    have := Pp.cnt p F (by omega)
    show _ ≤ cK (cE F) (cds "neg") [t]
    rw [ck_neg]
    walk_at "pw"; omega
  | _, _, _, _, _, _, .not p, 0, hF => by omega
  | _, _, _, _, _, _, .not (t := t) p, F + 1, hF => by
    have := Pp.cnt p F (by omega)
    show _ ≤ cK (cE F) (cds "not") [t]
    rw [ck_not]
    walk_at "pw"; omega
  | _, _, _, _, _, _, .bin a b p q, 0, hF => by omega
  | _, _, _, _, _, _, .bin (s := s) (t1 := t1) (t2 := t2) a b p q, F + 1, hF => by
    have h1 := Pp.cnt p F (by omega)
    have h2 := Pp.cnt q F (by omega)
    have hs := beh_nb a
    have hl := levB_of a
    rw [pw_append, pw_no hs]
    by_cases h : s = cds "and" ∨ s = cds "or"
    · rw [show binT s t1 t2 = .t [.s s, t1, t2] from if_pos h]
      show _ ≤ cK (cE F) s [t1, t2]
      have e : cK (cE F) s [t1, t2] = cPl (cE F) (leftP (levB s)) t1 + cPl (cE F) (levB s + 1) t2 := by
        rcases h with rfl | rfl
        · exact ck_and _ _ _
        · exact ck_or _ _ _
      rw [e, hl]
      unfold leftP
      omega
    · rw [show binT s t1 t2 = .t [str "op", .s s, t1, t2] from if_neg h]
      show _ ≤ cK (cE F) (cds "op") [.s s, t1, t2]
      rw [ck_op, hl]
      unfold leftP
      omega
  | _, _, _, _, _, _, .send p n k, 0, hF => by omega
  | _, _, _, _, _, _, .send (t := t) (a := a) (l := l) p n k, F + 1, hF => by
    have h1 := Pp.cnt p F (by omega)
    have h2 := Pa.cnt k F (by omega)
    have hn := name_nb n
    show _ ≤ cK (cE F) (cds "send") [t, .s a, .t l]
    rw [ck_send]
    walk_at "pw"
    rw [pw_no hn]
    walk_at "pw"
    omega
  | _, _, _, _, _, _, .sup n k, 0, hF => by omega
  | _, _, _, _, _, _, .sup (a := a) (l := l) n k, F + 1, hF => by
    have h2 := Pa.cnt k F (by omega)
    have hn := name_nb n
    show _ ≤ cK (cE F) (cds "super") [.s a, .t l]
    rw [ck_super]
    walk_at "pw"
    rw [pw_no hn]
    walk_at "pw"
    omega
  | _, _, _, _, _, _, .blk0 b, 0, hF => by omega
  | _, _, _, _, _, _, .blk0 (l := l) b, F + 1, hF => by
    have h2 := Pb.cnt b F (by omega)
    show _ ≤ cK (cE F) (cds "block") [.t [], .t l]
    rw [ck_block]
    walk_at "pw"; omega
  | _, _, _, _, _, _, .blk h0 h4 hn b, 0, hF => by omega
  | _, _, _, _, _, _, .blk (ps := ps) (l := l) h0 h4 hn b, F + 1, hF => by
    have h2 := Pb.cnt b F (by omega)
    have h3 := commas_nb hn
    show _ ≤ cK (cE F) (cds "block") [.t (ps.map Tr.s), .t l]
    rw [ck_block]
    walk_at "pw"; omega
theorem Pp.cnt : ∀ {a h : Nat} {t : Tr} {w : Ws} {ns : List Ws} {x : List Nat}, Pp a h t w ns x → ∀ F, h ≤ F → pw w ≤ cPl (cE F) a t
  | _, _, _, _, _, _, .go l p, F, hF => Nat.le_trans (Pe.cnt p F hF) (Nat.le_add_right _ _)
  | _, _, _, _, _, _, .br l p, F, hF => by
    have h1 := Pe.cnt p F (by omega)
    have h2 := p.lvT
    unfold cPl
    rw [if_pos (by omega)]
    walk_at "pw"; omega
theorem Pl.cnt : ∀ {h : Nat} {l : List Tr} {w : Ws} {ns : List Ws} {ys : Ws}, Pl h l w ns ys → ∀ F, h ≤ F → pw w ≤ sumT (cE F) l
  | _, _, _, _, _, .nil, _, _ => Nat.le_refl _
  | _, _, _, _, _, .cons p q, F, hF => by
    have h1 := Pe.cnt p F hF
    have h2 := Pl.cnt q F hF
    show _ ≤ cE F _ + sumT (cE F) _
    walk_at "pw"; omega
theorem Pa.cnt : ∀ {h : Nat} {l : List Tr} {w : Ws} {ns : List Ws} {ys : Ws}, Pa h l w ns ys → ∀ F, h ≤ F → pw w ≤ sumT (cE F) l
  | _, _, _, _, _, .nil, _, _ => Nat.le_refl _
  | _, _, _, _, _, .cons p q _, F, hF => by
    have h1 := Pe.cnt p F hF
    have h2 := Pl.cnt q F hF
    show _ ≤ cE F _ + sumT (cE F) _
    walk_at "pw"; omega
theorem Ps.cnt : ∀ {h : Nat} {t : Tr} {w : Ws} {ns : List Ws} {x : List Nat}, Ps h t w ns x → ∀ F, h ≤ F → pw w ≤ cE F t
  | _, _, _, _, _, .eval p, 0, hF => by omega
  | _, _, _, _, _, .eval (t := t) p, F + 1, hF => by
    have h1 := Pe.cnt p F (by omega)
    show _ ≤ cK (cE F) (cds "eval") [t]
    rw [ck_eval]; exact h1
  | _, _, _, _, _, .set n p, 0, hF => by omega
  | _, _, _, _, _, .set (t := t) (a := a) n p, F + 1, hF => by
    have h1 := Pe.cnt p F (by omega)
    show _ ≤ cK (cE F) (cds "set") [.s a, t]
    rw [ck_set, pw_no (name_nb n)]
    walk_at "pw"; omega
  | _, _, _, _, _, .gf g p, 0, hF => by omega
  | _, _, _, _, _, .gf (t := t) (g := g) hg p, F + 1, hF => by
    have h1 := Pe.cnt p F (by omega)
    show _ ≤ cK (cE F) g [t]
    rcases hg with rfl | rfl
    · rw [ck_give]; walk_at "pw"; omega
    · rw [ck_fail]; walk_at "pw"; omega
  | _, _, _, _, _, .whl p q, 0, hF => by omega
  | _, _, _, _, _, .whl (t := t) (l := l) p q, F + 1, hF => by
    have h1 := Pe.cnt p F (by omega)
    have h2 := Pb.cnt q F (by omega)
    show _ ≤ cK (cE F) (cds "while") [t, .t l]
    rw [ck_while]
    walk_at "pw"; omega
  | _, _, _, _, _, .if0 p q, 0, hF => by omega
  | _, _, _, _, _, .if0 (t := t) (l := l) p q, F + 1, hF => by
    have h1 := Pe.cnt p F (by omega)
    have h2 := Pb.cnt q F (by omega)
    show _ ≤ cK (cE F) (cds "if") [t, .t l, .t []]
    rw [ck_if]
    show _ ≤ _ + _ + 0
    walk_at "pw"; omega
  | _, _, _, _, _, .if1 p q _ r, 0, hF => by omega
  | _, _, _, _, _, .if1 (t := t) (l := l) (l3 := l3) p q _ r, F + 1, hF => by
    have h1 := Pe.cnt p F (by omega)
    have h2 := Pb.cnt q F (by omega)
    have h3 := Pb.cnt r F (by omega)
    show _ ≤ cK (cE F) (cds "if") [t, .t l, .t l3]
    rw [ck_if]
    walk_at "pw"; omega
  | _, _, _, _, _, .try_ p n q, 0, hF => by omega
  | _, _, _, _, _, .try_ (l := l) (a := a) (l2 := l2) p n q, F + 1, hF => by
    have h2 := Pb.cnt p F (by omega)
    have h3 := Pb.cnt q F (by omega)
    have hn := name_nb n
    show _ ≤ cK (cE F) (cds "try") [.t l, .s a, .t l2]
    rw [ck_try]
    walk_at "pw"
    rw [pw_no hn]
    walk_at "pw"; omega
  | _, _, _, _, _, .keep p q, 0, hF => by omega
  | _, _, _, _, _, .keep (l := l) (l2 := l2) p q, F + 1, hF => by
    have h2 := Pb.cnt p F (by omega)
    have h3 := Pb.cnt q F (by omega)
    show _ ≤ cK (cE F) (cds "keep") [.t l, .t l2]
    rw [ck_keep]
    walk_at "pw"; omega
theorem Pq.cnt : ∀ {h : Nat} {l : List Tr} {w : Ws} {ns : List Ws} {ys : Ws}, Pq h l w ns ys → ∀ F, h ≤ F → pw w ≤ sumT (cE F) l
  | _, _, _, _, _, .nil, _, _ => Nat.le_refl _
  | _, _, _, _, _, .cons p q, F, hF => by
    have h1 := Ps.cnt p F hF
    have h2 := Pq.cnt q F hF
    show _ ≤ cE F _ + sumT (cE F) _
    walk_at "pw"; omega
theorem Pb.cnt : ∀ {h : Nat} {l : List Tr} {w : Ws} {ns : List Ws} {ys : Ws}, Pb h l w ns ys → ∀ F, h ≤ F → pw w ≤ sumT (cE F) l
  | _, _, _, _, _, .nil, _, _ => Nat.le_refl _
  | _, _, _, _, _, .cons p q, F, hF => by
    have h1 := Ps.cnt p F hF
    have h2 := Pq.cnt q F hF
    show _ ≤ cE F _ + sumT (cE F) _
    walk_at "pw"; omega
end
end
section
/-! What stands between { and | in a row. -/
open PySem PySem.Spec PyProof.Rows L2
def BW : Ws → Ws → Prop
  | _, [] => True
  | acc, a :: w => if a = cds "{" then BW [] w else if a = cds "|" then (∀ l, acc = commas l → l.Nodup) ∧ BW acc w else if a = cds "(" ∨ a = cds ")" then BW acc w else BW (acc ++ [a]) w
def BWs (w : Ws) : Prop := ∀ acc r, (∀ acc', BW acc' r) → BW acc (w ++ r)
theorem BWs.nil : BWs [] := fun acc r h => h acc
theorem BWs.append {u v : Ws} (h : BWs u) (g : BWs v) : BWs (u ++ v) := fun acc r hr => by
  rw [List.append_assoc]
  exact h acc _ fun acc' => g acc' r hr
theorem BWs.one {a : List Nat} (h : a ≠ cds "|") : BWs [a] := fun acc r hr => by
  show if a = cds "{" then BW [] r else if a = cds "|" then _ else if a = cds "(" ∨ a = cds ")" then BW acc r else BW (acc ++ [a]) r
  rw [if_neg h]
  split
  · exact hr _
  · split
    · exact hr _
    · exact hr _
theorem BWs.cons {a : List Nat} {w : Ws} (h : a ≠ cds "|") (g : BWs w) : BWs (a :: w) := BWs.append (u := [a]) (.one h) g
theorem commas_inj : ∀ {l m : Ws}, commas l = commas m → l = m
  | [], [], _ => rfl
  | [], a :: m, h => by rw [commas_cons] at h; cases h
  | a :: l, [], h => by rw [commas_cons] at h; cases h
  | a :: l, b :: m, h => by
    rw [commas_cons, commas_cons] at h
    obtain ⟨rfl, hh⟩ := List.cons.inj h
    have key : ∀ {l m : Ws}, (l.flatMap fun b => [cds ",", b]) = (m.flatMap fun b => [cds ",", b]) → l = m := fun {l} => by
      induction l with
      | nil =>
        intro m h
        cases m with
        | nil => rfl
        | cons b m => rw [List.flatMap_cons] at h; cases h
      | cons a l ih =>
        intro m h
        cases m with
        | nil => rw [List.flatMap_cons] at h; cases h
        | cons b m =>
          rw [List.flatMap_cons, List.flatMap_cons] at h
          have h1 : cds "," :: a :: (l.flatMap fun b => [cds ",", b]) = cds "," :: b :: (m.flatMap fun b => [cds ",", b]) := h
          obtain ⟨_, h2⟩ := List.cons.inj h1
          obtain ⟨rfl, h3⟩ := List.cons.inj h2
          rw [ih h3]
    rw [key hh]
def Pln (a : List Nat) : Prop := a ≠ cds "{" ∧ a ≠ cds "|" ∧ a ≠ cds "(" ∧ a ≠ cds ")"
theorem bw_plain : ∀ {w acc r : Ws}, (∀ a ∈ w, Pln a) → (BW acc (w ++ r) ↔ BW (acc ++ w) r)
  | [], acc, r, _ => by rw [List.append_nil]; exact Iff.rfl
  | a :: w, acc, r, h => by
    obtain ⟨h1, h2, h3, h4⟩ := h a List.mem_cons_self
    have e : BW acc (a :: w ++ r) = BW (acc ++ [a]) (w ++ r) := by
      show (if a = cds "{" then BW [] (w ++ r) else if a = cds "|" then _ else if a = cds "(" ∨ a = cds ")" then BW acc (w ++ r) else BW (acc ++ [a]) (w ++ r)) = _
      rw [if_neg h1, if_neg h2, if_neg (fun z => z.elim h3 h4)]
    rw [e, bw_plain fun x hx => h x (List.mem_cons_of_mem _ hx), List.append_assoc]
    exact Iff.rfl
theorem head_pln {c : Nat} {r : List Nat} (h : c ∈ aJ) : Pln (c :: r) := by
  have k : cds "{" = [123] ∧ cds "|" = [124] ∧ cds "(" = [40] ∧ cds ")" = [41] := by decide +kernel
  obtain ⟨k1, k2, k3, k4⟩ := k
  refine ⟨?_, ?_, ?_, ?_⟩ <;> (intro e; first | rw [k1] at e | rw [k2] at e | rw [k3] at e | rw [k4] at e) <;> (cases e; exact absurd h (by decide +kernel))
theorem name_pln {a : List Nat} (h : IsName a) : Pln a := by
  obtain ⟨c, r, rfl, hc, _⟩ := h.1
  have : ∀ c ∈ aLow, c ∈ aJ := by decide +kernel
  exact head_pln (this c hc)
theorem nm_pln {a : List Nat} (h : isNm a) : Pln a := by
  have k : ∀ a ∈ [cds "{", cds "|", cds "(", cds ")"], (tk a).1 ≠ cds "name" := by decide +kernel
  unfold isNm at h
  have k' : (tk a).1 = cds "name" := by rw [h]
  refine ⟨?_, ?_, ?_, ?_⟩ <;> (rintro rfl; exact k _ (by simp) k')
theorem comma_pln : Pln (cds ",") := by
  have k : cds "," ≠ cds "{" ∧ cds "," ≠ cds "|" ∧ cds "," ≠ cds "(" ∧ cds "," ≠ cds ")" := by decide +kernel
  exact k
theorem commas_pln {l : Ws} (hn : ∀ a ∈ l, Pln a) : ∀ a ∈ commas l, Pln a := by
  cases l with
  | nil => intro a h; exact absurd h List.not_mem_nil
  | cons b l =>
    intro a h
    rw [commas_cons] at h
    rcases List.mem_cons.mp h with rfl | h
    · exact hn _ List.mem_cons_self
    · obtain ⟨x, hx, h⟩ := List.mem_flatMap.mp h
      rcases List.mem_cons.mp h with rfl | h
      · exact comma_pln
      · rw [List.mem_singleton.mp h]; exact hn _ (List.mem_cons_of_mem _ hx)
theorem bw_open {acc w : Ws} : BW acc (cds "{" :: w) ↔ BW [] w := by
  show (if cds "{" = cds "{" then BW [] w else _) ↔ _
  rw [if_pos rfl]
theorem bw_bar {acc w : Ws} : BW acc (cds "|" :: w) ↔ (∀ l, acc = commas l → l.Nodup) ∧ BW acc w := by
  have h : ¬ cds "|" = cds "{" := by decide +kernel
  show (if cds "|" = cds "{" then BW [] w else if cds "|" = cds "|" then (∀ l, acc = commas l → l.Nodup) ∧ BW acc w else _) ↔ _
  rw [if_neg h, if_pos rfl]
theorem bw_paren {acc w : Ws} {a : List Nat} (h : a = cds "(" ∨ a = cds ")") : BW acc (a :: w) ↔ BW acc w := by
  have k : ∀ a ∈ [cds "(", cds ")"], ¬ a = cds "{" ∧ ¬ a = cds "|" := by decide +kernel
  obtain ⟨h1, h2⟩ := k a (by rcases h with rfl | rfl <;> simp)
  show (if a = cds "{" then BW [] w else if a = cds "|" then _ else if a = cds "(" ∨ a = cds ")" then BW acc w else _) ↔ _
  rw [if_neg h1, if_neg h2, if_pos h]
theorem bw_less {a : List Nat} (h : a = cds "(" ∨ a = cds ")") : ∀ {u v acc : Ws}, BW acc (u ++ a :: v) → BW acc (u ++ v)
  | [], v, acc, g => (bw_paren h).mp g
  | b :: u, v, acc, g => by
    have g' : if b = cds "{" then BW [] (u ++ a :: v) else if b = cds "|" then (∀ l, acc = commas l → l.Nodup) ∧ BW acc (u ++ a :: v) else if b = cds "(" ∨ b = cds ")" then BW acc (u ++ a :: v) else BW (acc ++ [b]) (u ++ a :: v) := g
    show if b = cds "{" then BW [] (u ++ v) else if b = cds "|" then (∀ l, acc = commas l → l.Nodup) ∧ BW acc (u ++ v) else if b = cds "(" ∨ b = cds ")" then BW acc (u ++ v) else BW (acc ++ [b]) (u ++ v)
    by_cases c1 : b = cds "{"
    · rw [if_pos c1] at g' ⊢; exact bw_less h g'
    · rw [if_neg c1] at g' ⊢
      by_cases c2 : b = cds "|"
      · rw [if_pos c2] at g' ⊢; exact ⟨g'.1, bw_less h g'.2⟩
      · rw [if_neg c2] at g' ⊢
        by_cases c3 : b = cds "(" ∨ b = cds ")"
        · rw [if_pos c3] at g' ⊢; exact bw_less h g'
        · rw [if_neg c3] at g' ⊢; exact bw_less h g'
theorem bw_tail : ∀ {u v acc : Ws}, BW acc (u ++ v) → ∃ acc', BW acc' v
  | [], v, acc, g => ⟨acc, g⟩
  | b :: u, v, acc, g => by
    have g' : if b = cds "{" then BW [] (u ++ v) else if b = cds "|" then (∀ l, acc = commas l → l.Nodup) ∧ BW acc (u ++ v) else if b = cds "(" ∨ b = cds ")" then BW acc (u ++ v) else BW (acc ++ [b]) (u ++ v) := g
    split at g'
    · exact bw_tail g'
    · split at g'
      · exact bw_tail g'.2
      · split at g'
        · exact bw_tail g'
        · exact bw_tail g'
theorem bw_names {u v l : Ws} {acc : Ws} (g : BW acc (u ++ cds "{" :: (commas l ++ cds "|" :: v))) (hn : ∀ a ∈ l, Pln a) : l.Nodup := by
  obtain ⟨acc', g1⟩ := bw_tail g
  have g2 := bw_open.mp g1
  have g3 := (bw_plain (commas_pln hn)).mp g2
  rw [List.nil_append] at g3
  exact (bw_bar.mp g3).1 l rfl
/-! derivations -/
abbrev ND (ns : List Ws) : Prop := ∀ l ∈ ns, l.Nodup
theorem ND.l {a b : List Ws} (h : ND (a ++ b)) : ND a := fun l hl => h l (List.mem_append_left _ hl)
theorem ND.r {a b : List Ws} (h : ND (a ++ b)) : ND b := fun l hl => h l (List.mem_append_right _ hl)
theorem n_bar : ∀ a ∈ [cds "-", cds "not", cds ".", cds "(", cds ")", cds "super", cds "{", cds "}", cds ",", cds ";", cds ":=", cds "new", cds "self", cds "while", cds "do", cds "end", cds "if", cds "then", cds "else", cds "try", cds "catch", cds "keep", cds "always", cds "give", cds "fail"], a ≠ cds "|" := by decide +kernel
theorem wl_bar : ∀ a ∈ WL, a ≠ cds "|" := by decide +kernel
theorem beh_bar : ∀ p ∈ behN, p.1 ≠ cds "|" := by decide +kernel
theorem nm_bar {a : List Nat} (h : IsName a) : a ≠ cds "|" := (name_pln h).2.1
theorem cls_bar {a : List Nat} (h : IsClass a) : a ≠ cds "|" := by
  obtain ⟨c, r, rfl, hc, _⟩ := h
  have : ∀ c ∈ aUp, c ∈ aJ := by decide +kernel
  exact (head_pln (this c hc)).2.1
theorem num_bar {n : Nat} : TL.numL n ≠ cds "|" := fun e => by
  rw [show cds "|" = [124] from by decide +kernel] at e
  have := TL.numL_digits n 124 (by rw [e]; exact List.mem_singleton.mpr rfl)
  omega
theorem txt_bar {b : List Nat} : 39 :: b ≠ cds "|" := fun e => by
  rw [show cds "|" = [124] from by decide +kernel] at e
  cases e
local macro_rules | `(tactic| walk_at "nb") => `(tactic| exact n_bar _ (by decide +kernel))
mutual
theorem Pe.bw : ∀ {lv h : Nat} {t : Tr} {w : Ws} {ns : List Ws} {x : List Nat}, Pe lv h t w ns x → ND ns → BWs w
  | _, _, _, _, _, _, .num n, _ => .one num_bar
  | _, _, _, _, _, _, .text n, _ => .one txt_bar
  | _, _, _, _, _, _, .word n, _ => .one (wl_bar _ (plain_wl n))
  | _, _, _, _, _, _, .self, _ => .one (by walk_at "nb")
  | _, _, _, _, _, _, .new n, _ => .cons (by walk_at "nb") (.one (cls_bar n))
  | _, _, _, _, _, _, .name n, _ => .one (nm_bar n)
  | _, _, _, _, _, _, .neg p, d => .cons (by walk_at "nb") (Pp.bw p d)
  | _, _, _, _, _, _, .not p, d => .cons (by walk_at "nb") (Pp.bw p d)
  | _, _, _, _, _, _, .bin a b p q, d => .append (Pp.bw p d.l) (.cons (beh_bar _ (beh_mem a)) (Pp.bw q d.r))
  | _, _, _, _, _, _, .send p n k, d => .append (Pp.bw p d.l) (.cons (by walk_at "nb") (.cons (nm_bar n) (.cons (by walk_at "nb") (.append (Pa.bw k d.r) (.one (by walk_at "nb"))))))
  | _, _, _, _, _, _, .sup n k, d => .cons (by walk_at "nb") (.cons (by walk_at "nb") (.cons (nm_bar n) (.cons (by walk_at "nb") (.append (Pa.bw k d) (.one (by walk_at "nb"))))))
  | _, _, _, _, _, _, .blk0 b, d => .cons (by walk_at "nb") (.append (Pb.bw b d) (.one (by walk_at "nb")))
  | _, _, _, _, _, _, .blk (ps := ps) (w := w) h0 h4 hn b, d => fun acc r hr => by
    have hb : BWs (w ++ [cds "}"]) := .append (Pb.bw b (fun l hl => d l (List.mem_cons_of_mem _ hl))) (.one (by walk_at "nb"))
    show BW acc (cds "{" :: (commas ps ++ cds "|" :: (w ++ [cds "}"]) ++ r))
    refine bw_open.mpr ?_
    rw [List.append_assoc]
    refine (bw_plain (commas_pln fun a ha => name_pln (hn a ha))).mpr ?_
    show BW _ (cds "|" :: (w ++ [cds "}"] ++ r))
    refine bw_bar.mpr ⟨fun l e => ?_, hb _ _ hr⟩
    rw [List.nil_append] at e
    rw [← commas_inj e]
    exact d ps List.mem_cons_self
theorem Pp.bw : ∀ {a h : Nat} {t : Tr} {w : Ws} {ns : List Ws} {x : List Nat}, Pp a h t w ns x → ND ns → BWs w
  | _, _, _, _, _, _, .go l p, d => Pe.bw p d
  | _, _, _, _, _, _, .br l p, d => .cons (by walk_at "nb") (.append (Pe.bw p d) (.one (by walk_at "nb")))
theorem Pl.bw : ∀ {h : Nat} {l : List Tr} {w : Ws} {ns : List Ws} {ys : Ws}, Pl h l w ns ys → ND ns → BWs w
  | _, _, _, _, _, .nil, _ => .nil
  | _, _, _, _, _, .cons p q, d => .cons (by walk_at "nb") (.append (Pe.bw p d.l) (Pl.bw q d.r))
theorem Pa.bw : ∀ {h : Nat} {l : List Tr} {w : Ws} {ns : List Ws} {ys : Ws}, Pa h l w ns ys → ND ns → BWs w
  | _, _, _, _, _, .nil, _ => .nil
  | _, _, _, _, _, .cons p q _, d => .append (Pe.bw p d.l) (Pl.bw q d.r)
theorem Ps.bw : ∀ {h : Nat} {t : Tr} {w : Ws} {ns : List Ws} {x : List Nat}, Ps h t w ns x → ND ns → BWs w
  | _, _, _, _, _, .eval p, d => Pe.bw p d
  | _, _, _, _, _, .set n p, d => .cons (nm_bar n) (.cons (by walk_at "nb") (Pe.bw p d))
  | _, _, _, _, _, .gf g p, d => .cons (by rcases g with rfl | rfl <;> walk_at "nb") (Pe.bw p d)
  | _, _, _, _, _, .whl p q, d => .cons (by walk_at "nb") (.append (Pe.bw p d.l) (.cons (by walk_at "nb") (.append (Pb.bw q d.r) (.one (by walk_at "nb")))))
  | _, _, _, _, _, .if0 p q, d => .cons (by walk_at "nb") (.append (Pe.bw p d.l) (.cons (by walk_at "nb") (.append (Pb.bw q d.r) (.one (by walk_at "nb")))))
  | _, _, _, _, _, .if1 p q _ r, d => .cons (by walk_at "nb") (.append (Pe.bw p d.l) (.cons (by walk_at "nb") (.append (Pb.bw q d.r.l) (.cons (by walk_at "nb") (.append (Pb.bw r d.r.r) (.one (by walk_at "nb")))))))
  | _, _, _, _, _, .try_ p n q, d => .cons (by walk_at "nb") (.append (Pb.bw p d.l) (.cons (by walk_at "nb") (.cons (nm_bar n) (.cons (by walk_at "nb") (.append (Pb.bw q d.r) (.one (by walk_at "nb")))))))
  | _, _, _, _, _, .keep p q, d => .cons (by walk_at "nb") (.append (Pb.bw p d.l) (.cons (by walk_at "nb") (.append (Pb.bw q d.r) (.one (by walk_at "nb")))))
theorem Pq.bw : ∀ {h : Nat} {l : List Tr} {w : Ws} {ns : List Ws} {ys : Ws}, Pq h l w ns ys → ND ns → BWs w
  | _, _, _, _, _, .nil, _ => .nil
  | _, _, _, _, _, .cons p q, d => .cons (by walk_at "nb") (.append (Ps.bw p d.l) (Pq.bw q d.r))
theorem Pb.bw : ∀ {h : Nat} {l : List Tr} {w : Ws} {ns : List Ws} {ys : Ws}, Pb h l w ns ys → ND ns → BWs w
  | _, _, _, _, _, .nil, _ => .nil
  | _, _, _, _, _, .cons p q, d => .append (Ps.bw p d.l) (Pq.bw q d.r)
end
end
section
/-! Brackets at places of a text; the text without two of them. -/
open PySem PySem.Spec PyProof.Rows L2
open TL (numL tl_num numL_digits numL_ne numL_val numL_len numL_lt numL_step)
def qc : List Nat → Nat
  | [] => 0
  | c :: r => (if c = 39 then 1 else 0) + qc r
theorem qc_append : ∀ a b : List Nat, qc (a ++ b) = qc a + qc b
  | [], b => by rw [List.nil_append]; show _ = 0 + _; omega
  | c :: a, b => by show _ + qc (a ++ b) = _ + qc a + qc b; rw [qc_append a b]; omega
theorem qc_no : ∀ {a : List Nat}, (∀ d ∈ a, d ≠ 39) → qc a = 0
  | [], _ => rfl
  | c :: a, h => by
    show (if c = 39 then 1 else 0) + qc a = 0
    rw [if_neg (h c List.mem_cons_self), qc_no fun d hd => h d (List.mem_cons_of_mem _ hd)]
theorem rep_no {n : Nat} : ∀ d ∈ List.replicate n 32, d ≠ 39 := fun d hd => by rw [(List.mem_replicate.mp hd).2]; decide
theorem let_no : ∀ d ∈ aJ, d ≠ 39 ∧ d ≠ 40 ∧ d ≠ 41 := by decide +kernel
theorem low_J : ∀ c ∈ aLow, c ∈ aJ := by decide +kernel
theorem up_J : ∀ c ∈ aUp, c ∈ aJ := by decide +kernel
theorem all_J {t : List Nat} (h : ∀ d ∈ t, d ∈ aJ) : (∀ d ∈ t, d ≠ 39) ∧ (∀ d ∈ t, d = 40 ∨ d = 41 → t = [d]) :=
  ⟨fun d hd => (let_no d (h d hd)).1, fun d hd e => (e.elim (let_no d (h d hd)).2.1 (let_no d (h d hd)).2.2).elim⟩
theorem run_J {fs t : List Nat} (hf : ∀ c ∈ fs, c ∈ aJ) (h : RunOf fs t) : ∀ d ∈ t, d ∈ aJ := by
  obtain ⟨c, r, rfl, hc, hr, _⟩ := h
  intro d hd
  rcases List.mem_cons.mp hd with rfl | hd
  · exact hf _ hc
  · exact hr d hd
theorem tok_cases {t : List Nat} (h : Tok t) : (∃ b, (∀ d ∈ b, d ≠ 39) ∧ t = 39 :: (b ++ [39])) ∨ ((∀ d ∈ t, d ≠ 39) ∧ (∀ d ∈ t, d = 40 ∨ d = 41 → t = [d])) := by
  obtain ⟨k, v, d⟩ := h
  cases d with
  | mark hm =>
    have key : ∀ m ∈ MLs, (∀ d ∈ m, d ≠ 39) ∧ (∀ d ∈ m, d = 40 ∨ d = 41 → m = [d]) := by decide +kernel
    exact .inr (key _ hm)
  | word hm =>
    have key : ∀ m ∈ WL, ∀ d ∈ m, d ∈ aJ := by decide +kernel
    exact .inr (all_J (key _ hm))
  | number hn =>
    rename_i n
    refine .inr ⟨fun d hd => ?_, fun d hd e => ?_⟩
    · have := numL_digits n d hd; omega
    · have := numL_digits n d hd; omega
  | cls h => exact .inr (all_J (run_J up_J h))
  | name h => exact .inr (all_J (run_J low_J h.1))
  | text h => exact .inl ⟨_, fun d hd => (txt_facts d (h.1 d hd)).2, rfl⟩
theorem tok_even {t : List Nat} (h : Tok t) : qc t = 0 ∨ qc t = 2 := by
  rcases tok_cases h with ⟨b, hb, rfl⟩ | ⟨h, _⟩
  · refine .inr ?_
    show (if 39 = 39 then 1 else 0) + qc (b ++ [39]) = 2
    rw [qc_append, qc_no hb, if_pos rfl]
    rfl
  · exact .inl (qc_no h)
theorem pos_tok {c : Nat} (hc : c = 40 ∨ c = 41) : ∀ {ly : Ly} {s : Nat}, (∀ t ∈ lws ly, Tok t) → (lay ly)[s]? = some c → qc ((lay ly).take s) % 2 = 0 → ∃ A n B, ly = A ++ (n, [c]) :: B ∧ (lay A).length + n = s
  | [], s, _, h, _ => by cases h
  | (n, t) :: l, s, ht, h, hq => by
    have htok : Tok t := ht t List.mem_cons_self
    have e0 : lay ((n, t) :: l) = List.replicate n 32 ++ (t ++ lay l) := by show List.replicate n 32 ++ t ++ lay l = _; rw [List.append_assoc]
    rw [e0] at h hq
    by_cases h1 : s < n
    · rw [List.getElem?_append_left (by rw [List.length_replicate]; exact h1), List.getElem?_replicate, if_pos h1] at h
      cases h
      rcases hc with hc | hc <;> cases hc
    · rw [List.getElem?_append_right (by rw [List.length_replicate]; omega), List.length_replicate] at h
      rw [List.take_append, List.take_of_length_le (by rw [List.length_replicate]; omega), List.length_replicate, qc_append, qc_no rep_no, Nat.zero_add] at hq
      by_cases h2 : s - n < t.length
      · rw [List.getElem?_append_left h2] at h
        rcases tok_cases htok with ⟨b, hb, rfl⟩ | ⟨_, hk⟩
        · exfalso
          obtain ⟨j, hj⟩ : ∃ j, j = s - n := ⟨_, rfl⟩
          rw [← hj] at h hq h2
          cases j with
          | zero => cases h; rcases hc with hc | hc <;> cases hc
          | succ j =>
            have h' : (b ++ [39])[j]? = some c := by simpa using h
            have hjb : j < b.length := by
              rcases Nat.lt_or_ge j b.length with q | q
              · exact q
              · exfalso
                rw [List.getElem?_append_right q] at h'
                have : j - b.length = 0 := by
                  have := (List.getElem?_eq_some_iff.mp h').1
                  simp at this; omega
                rw [this] at h'
                cases h'
                rcases hc with hc | hc <;> cases hc
            have e1 : (39 :: (b ++ [39]) ++ lay l).take (j + 1) = 39 :: b.take j := by
              show 39 :: ((b ++ [39]) ++ lay l).take j = _
              rw [List.append_assoc, List.take_append_of_le_length (by omega)]
            rw [e1] at hq
            have : qc (39 :: b.take j) = 1 := by
              show (if 39 = 39 then 1 else 0) + qc (b.take j) = 1
              rw [if_pos rfl, qc_no fun d hd => hb d (List.mem_of_mem_take hd)]
            rw [this] at hq
            cases hq
        · have hm : c ∈ t := List.mem_of_getElem? h
          have et := hk c hm hc
          subst et
          refine ⟨[], n, l, rfl, ?_⟩
          have : s - n < 1 := h2
          show 0 + n = s
          omega
      · rw [List.getElem?_append_right (by omega)] at h
        rw [List.take_append, List.take_of_length_le (by omega), qc_append] at hq
        have he := tok_even htok
        obtain ⟨A, m, B, e, hl⟩ := pos_tok hc (ly := l) (s := s - n - t.length) (fun x hx => ht x (List.mem_cons_of_mem _ hx)) h (by omega)
        refine ⟨(n, t) :: A, m, B, by rw [e]; rfl, ?_⟩
        show (List.replicate n 32 ++ t ++ lay A).length + m = s
        rw [List.length_append, List.length_append, List.length_replicate]
        omega
theorem rep_add (a b : Nat) : List.replicate (a + b) 32 = List.replicate a 32 ++ List.replicate b 32 := by
  induction a with
  | zero => rw [Nat.zero_add]; rfl
  | succ a ih => rw [Nat.succ_add, List.replicate_succ, ih, List.replicate_succ]; rfl
theorem sp_row {k : Nat} (hk : 1 ≤ k) : ∀ {D : Ly} {b : List Nat}, LOk b D → ∃ (l : Ly) (j : Nat), List.replicate k 32 ++ lay D = lay l ++ List.replicate j 32 ∧ lws l = lws D ∧ ∀ c, LOk c l
  | [], _, _ => ⟨[], k, List.append_nil _, rfl, fun _ => True.intro⟩
  | (n, t) :: D, b, ⟨h1, _, h3⟩ => by
    refine ⟨(k + n, t) :: D, 0, ?_, rfl, fun c => ⟨h1, touch_gap (by omega), h3⟩⟩
    show List.replicate k 32 ++ (List.replicate n 32 ++ t ++ lay D) = List.replicate (k + n) 32 ++ t ++ lay D ++ []
    rw [rep_add]
    simp only [List.append_assoc, List.append_nil]
theorem rep_succ (n : Nat) (X : List Nat) : List.replicate n 32 ++ 32 :: X = List.replicate (n + 1) 32 ++ X := by
  rw [List.replicate_succ', List.append_assoc]; rfl
theorem strip_row {A C D : Ly} {n m a b : Nat} (h : LOk [] (A ++ (n, [a]) :: (C ++ (m, [b]) :: D))) : ∃ (l : Ly) (j : Nat), lay A ++ List.replicate n 32 ++ 32 :: (lay C ++ List.replicate m 32 ++ 32 :: lay D) = lay l ++ List.replicate j 32 ∧ lws l = lws A ++ (lws C ++ lws D) ∧ LOk [] l := by
  obtain ⟨hA, _, _, hC'⟩ := lok_append.mp h
  obtain ⟨hC, _, _, hD⟩ := lok_append.mp hC'
  obtain ⟨D', j1, e1, w1, o1⟩ := sp_row (k := m + 1) (by omega) hD
  have hE : LOk [a] (C ++ D') := lok_append.mpr ⟨hC, o1 _⟩
  obtain ⟨E', j2, e2, w2, o2⟩ := sp_row (k := n + 1) (by omega) hE
  refine ⟨A ++ E', j2 + j1, ?_, ?_, lok_append.mpr ⟨hA, o2 _⟩⟩
  · have e3 : lay C ++ List.replicate m 32 ++ 32 :: lay D = lay (C ++ D') ++ List.replicate j1 32 := by
      rw [List.append_assoc, rep_succ, e1, lay_append, List.append_assoc]
    rw [e3, List.append_assoc, rep_succ, ← List.append_assoc (List.replicate (n + 1) 32), e2, lay_append, rep_add]
    simp only [List.append_assoc]
  · rw [lws_append, w2, lws_append, w1]
end
section
/-! Reading a row of right tokens: its tokens, its brackets, its names. -/
open PySem PySem.Spec PyProof.Rows L2
section
variable {w : Ws} {ps : List Nat} {cs : List Nat}
theorem tokN_due (hp : ps.length = w.length) {i : Nat} {a : List Nat} (ha : w[i]? = some a) : ∃ p, tokN (endTks cs (dueOf w ps)) i = ((tk a).1, (tk a).2, p) := by
  have hi : i < w.length := (List.getElem?_eq_some_iff.mp ha).1
  have hi2 : i < (dueOf w ps).length := by rw [due_len hp]; exact hi
  refine ⟨ps[i], ?_⟩
  have e : (endTks cs (dueOf w ps))[i]? = some ((tk a).1, (tk a).2, ps[i]) := by
    unfold endTks
    rw [List.getElem?_append_left hi2]
    unfold dueOf
    rw [List.getElem?_zipWith, ha, List.getElem?_eq_getElem (by omega)]
  exact (tokN_of e).1
theorem tokN_end (hp : ps.length = w.length) : tokN (endTks cs (dueOf w ps)) w.length = (cds "nothing", T [], cs.length) := (tokN_of (nx_end hp)).1
theorem tokN_over (hp : ps.length = w.length) {i : Nat} (hi : w.length < i) : tokN (endTks cs (dueOf w ps)) i = ([], .non, 0) := by
  unfold tokN endTks
  rw [List.getD_eq_getElem?_getD, List.getElem?_eq_none]
  · rfl
  · rw [List.length_append, due_len hp]; show w.length + 1 ≤ i; omega
theorem fix_no {k : List Nat} {v : V} {p : Nat} (h : k ≠ cds "word" ∧ k ≠ cds "mark") : fixT (k, v, p) = [] := by
  unfold fixT
  exact if_neg fun z => z.elim h.1 h.2
theorem tokN_in (hp : ps.length = w.length) {i : Nat} (h : (tokN (endTks cs (dueOf w ps)) i).1 = cds "name" ∨ fixT (tokN (endTks cs (dueOf w ps)) i) ≠ []) : ∃ a p, w[i]? = some a ∧ tokN (endTks cs (dueOf w ps)) i = ((tk a).1, (tk a).2, p) := by
  rcases Nat.lt_trichotomy i w.length with hi | hi | hi
  · obtain ⟨p, e⟩ := tokN_due (cs := cs) hp (List.getElem?_eq_getElem hi)
    exact ⟨_, p, List.getElem?_eq_getElem hi, e⟩
  · exfalso
    subst hi
    rw [tokN_end hp] at h
    rcases h with h | h
    · exact absurd h.symm (kinds_ne.1)
    · exact h (fix_no (by decide +kernel))
  · exfalso
    rw [tokN_over hp hi] at h
    rcases h with h | h
    · exact absurd h (by decide +kernel)
    · exact h (fix_no (by decide +kernel))
theorem fx_tok {a z : List Nat} (h : Tok a) (e : fx a = z) (hz : z ≠ []) : a = z := by
  obtain ⟨k, v, d⟩ := h
  unfold fx at e
  rw [drawn_tk d] at e
  cases d with
  | mark _ =>
    unfold fixT at e
    rw [if_pos (.inr rfl)] at e
    rw [← e]; exact (txtV_T a).symm
  | word _ =>
    unfold fixT at e
    rw [if_pos (.inl rfl)] at e
    rw [← e]; exact (txtV_T a).symm
  | number _ => exact absurd (by rw [← e]; exact fix_no (show cds "number" ≠ cds "word" ∧ cds "number" ≠ cds "mark" by decide +kernel)) hz
  | cls _ => exact absurd (by rw [← e]; exact fix_no (show cds "class" ≠ cds "word" ∧ cds "class" ≠ cds "mark" by decide +kernel)) hz
  | text _ => exact absurd (by rw [← e]; exact fix_no (show cds "text" ≠ cds "word" ∧ cds "text" ≠ cds "mark" by decide +kernel)) hz
  | name _ => exact absurd (by rw [← e]; exact fix_no (show cds "name" ≠ cds "word" ∧ cds "name" ≠ cds "mark" by decide +kernel)) hz
theorem fix_fx {a : List Nat} {p : Nat} : fixT ((tk a).1, (tk a).2, p) = fx a := rfl
theorem at_fix (ht : ∀ a ∈ w, Tok a) (hp : ps.length = w.length) {i : Nat} {z : List Nat} (hz : z ≠ []) (h : fixT (tokN (endTks cs (dueOf w ps)) i) = z) : w[i]? = some z := by
  obtain ⟨a, p, ha, e⟩ := tokN_in hp (.inr (by rw [h]; exact hz))
  rw [e, fix_fx] at h
  rw [ha, fx_tok (ht a (List.mem_of_getElem? ha)) h hz]
theorem at_name (ht : ∀ a ∈ w, Tok a) (hp : ps.length = w.length) {i : Nat} {x : List Nat} (h1 : (tokN (endTks cs (dueOf w ps)) i).1 = cds "name") (h2 : txtV (tokN (endTks cs (dueOf w ps)) i).2.1 = x) : w[i]? = some x ∧ isNm x := by
  obtain ⟨a, p, ha, e⟩ := tokN_in hp (.inl h1)
  rw [e] at h1 h2
  obtain ⟨n1, n2, n3, n4, n5, n6, n7, n8, n9, _⟩ := k_ne
  obtain ⟨k, v, d⟩ := ht a (List.mem_of_getElem? ha)
  have et := drawn_tk d
  rw [et] at h1 h2
  cases d with
  | name hn =>
    have : a = x := by rw [← h2]; exact (txtV_T a).symm
    subst this
    exact ⟨ha, name_nm hn⟩
  | number _ => exact absurd h1 n5
  | mark _ => exact absurd h1.symm n6
  | word _ => exact absurd h1.symm n7
  | cls _ => exact absurd h1.symm n8
  | text _ => exact absurd h1.symm n9
theorem drop_at1 {w : Ws} {i : Nat} {a : List Nat} (h : w[i]? = some a) : w.drop i = a :: w.drop (i + 1) := by
  obtain ⟨hi, e⟩ := List.getElem?_eq_some_iff.mp h
  rw [List.drop_eq_getElem_cons hi, e]
theorem nms_drop (ht : ∀ a ∈ w, Tok a) (hp : ps.length = w.length) : ∀ {l : Ws} {i : Nat}, Nms (endTks cs (dueOf w ps)) i l → w.drop i = commas l ++ w.drop (i + 2 * l.length - 1) ∧ ∀ a ∈ l, Pln a
  | [], _, h => h.elim
  | [a], i, ⟨h1, h2⟩ => by
    obtain ⟨e, hn⟩ := at_name ht hp h1 h2
    exact ⟨drop_at1 e, fun b hb => by rw [List.mem_singleton.mp hb]; exact nm_pln hn⟩
  | a :: b :: l, i, ⟨⟨h1, h2⟩, h3, h4⟩ => by
    obtain ⟨e, hn⟩ := at_name ht hp h1 h2
    have e2 := at_fix ht hp (by decide +kernel) h3
    obtain ⟨e3, hn3⟩ := nms_drop ht hp h4
    refine ⟨?_, fun x hx => ?_⟩
    · rw [drop_at1 e, drop_at1 e2, show i + 1 + 1 = i + 2 by omega, e3]
      have : i + 2 + 2 * (b :: l).length - 1 = i + 2 * (a :: b :: l).length - 1 := by simp only [List.length_cons]; omega
      rw [this]
      rfl
    · rcases List.mem_cons.mp hx with rfl | hx
      · exact nm_pln hn
      · exact hn3 x hx
theorem rws_of (ht : ∀ a ∈ w, Tok a) (hp : ps.length = w.length) (hw : w.length ≤ 100000) {acc : Ws} (hb : BW acc w) : Rws (endTks cs (dueOf w ps)) w.length := by
  refine ⟨?_, ?_, hw, fun i l h1 h2 h3 => ?_⟩
  · unfold endTks; rw [List.length_append, due_len hp]; rfl
  · rw [tokN_end hp]
  · have e1 := at_fix ht hp (by decide +kernel) h1
    have e3 := at_fix ht hp (by decide +kernel) h3
    obtain ⟨e2, hn⟩ := nms_drop ht hp h2
    have hl : 1 ≤ l.length := by
      cases l with
      | nil => exact h2.elim
      | cons a l => exact Nat.succ_pos _
    have e4 : i + 1 + 2 * l.length - 1 = i + 2 * l.length := by omega
    rw [e4, drop_at1 e3] at e2
    have e5 : w = w.take i ++ cds "{" :: (commas l ++ cds "|" :: w.drop (i + 2 * l.length + 1)) := by
      rw [← e2, ← drop_at1 e1, List.take_append_drop]
    rw [e5] at hb
    exact bw_names hb hn
theorem pc_pw (ht : ∀ a ∈ w, Tok a) (hp : ps.length = w.length) : ∀ i, i ≤ w.length → pc (endTks cs (dueOf w ps)) i = pw (w.take i)
  | 0, _ => rfl
  | i + 1, h => by
    have ih := pc_pw ht hp i (by omega)
    obtain ⟨p, e⟩ := tokN_due (cs := cs) hp (List.getElem?_eq_getElem (show i < w.length by omega))
    rw [List.take_succ, List.getElem?_eq_getElem (show i < w.length by omega), pw_append, ← ih]
    show pc _ i + (if fixT (tokN _ i) = cds "(" then 1 else 0) = pc _ i + (if w[i] = cds "(" then 1 else 0 + 0)
    rw [e, fix_fx]
    have hiff : fx w[i] = cds "(" ↔ w[i] = cds "(" := ⟨fun h => fx_tok (ht _ (List.getElem_mem _)) h (by decide +kernel), fun h => by rw [h]; decide +kernel⟩
    by_cases c : w[i] = cds "("
    · rw [if_pos (hiff.mpr c), if_pos c]
    · rw [if_neg (fun z => c (hiff.mp z)), if_neg c]
theorem read_any (ht : ∀ a ∈ w, Tok a) (hp : ps.length = w.length) (hw : w.length ≤ 100000) {acc : Ws} (hb : BW acc w) : Tri ((exN (endTks cs (dueOf w ps)) 14).1 1 2 ⟨0, [], none⟩) fun t S => S.n ≤ w.length ∧ S.tw = none ∧ ∀ F, cE F t ≤ pw w := by
  have R := rws_of (cs := cs) ht hp hw hb
  refine ((tri_all R 14).1 2 (by decide) (by decide) 1 ⟨0, [], none⟩ (by decide) (by decide) (Nat.zero_le _) (Nat.zero_le _)).mono ?_
  rintro t S ⟨p, c, _⟩
  refine ⟨p.1, p.2.2.2.1, fun F => ?_⟩
  have h1 := c F
  have h2 : pc (endTks cs (dueOf w ps)) S.n ≤ pc (endTks cs (dueOf w ps)) w.length := pc_mono p.1
  rw [pc_pw ht hp _ (Nat.le_refl _), List.take_of_length_le (Nat.le_refl _)] at h2
  unfold cPl at h1
  have h0 : pc (endTks cs (dueOf w ps)) (RS.mk 0 [] none).n = 0 := rfl
  rw [h0] at h1
  omega
end
theorem less_read {lv h : Nat} {t : Tr} {w : Ws} {ns : List Ws} {x : List Nat} (p : Pe lv h t w ns x) (hn : ∀ l ∈ ns, l.Nodup) {A C D : Ly} {n m : Nat} (e : lws (A ++ (n, [40]) :: (C ++ (m, [41]) :: D)) = w) (ok : LOk [] (A ++ (n, [40]) :: (C ++ (m, [41]) :: D))) (hl : w.length ≤ 100000) :
    ∃ (ws : Ws) (ps : List Nat), ps.length = ws.length ∧ lex 0 (lay A ++ List.replicate n 32 ++ 32 :: (lay C ++ List.replicate m 32 ++ 32 :: lay D)) = (dueOf ws ps, none) ∧ ∀ cs, Tri ((exN (endTks cs (dueOf ws ps)) 14).1 1 2 ⟨0, [], none⟩) fun t' S => S.n ≤ ws.length ∧ S.tw = none ∧ t' ≠ t ∧ (endTks cs (dueOf ws ps)).length = ws.length + 1 := by
  obtain ⟨l, j, e1, w1, o1⟩ := strip_row ok
  have k40 : cds "(" = [40] := by decide +kernel
  have k41 : cds ")" = [41] := by decide +kernel
  have ew : w = lws A ++ cds "(" :: (lws C ++ cds ")" :: lws D) := by
    rw [← e, lws_append, k40, k41]
    show lws A ++ [40] :: lws (C ++ (m, [41]) :: D) = _
    rw [lws_append]
    rfl
  have htok : ∀ (l : Ly) (b : List Nat), LOk b l → ∀ a ∈ lws l, Tok a := fun l => by
    induction l with
    | nil => intro b _ a h; exact absurd h List.not_mem_nil
    | cons q l ih =>
      obtain ⟨n, t⟩ := q
      rintro b ⟨h1, _, h3⟩ a ha
      rcases List.mem_cons.mp ha with rfl | ha
      · exact h1
      · exact ih _ h3 a ha
  have hb : BW [] (lws l) := by
    have g : BW [] (w ++ []) := p.bw hn [] [] (fun _ => True.intro)
    rw [List.append_nil, ew] at g
    rw [w1]
    have g2 := bw_less (.inl rfl) g
    rw [← List.append_assoc] at g2
    have g3 := bw_less (.inr rfl) g2
    rw [List.append_assoc] at g3
    exact g3
  have hlen : (lws l).length ≤ 100000 := by
    rw [w1]
    rw [ew] at hl
    simp only [List.length_append, List.length_cons] at hl ⊢
    omega
  have hpw : pw w = pw (lws l) + 1 := by
    rw [ew, w1]
    have h1 : cds ")" ≠ cds "(" := by decide +kernel
    simp only [pw_append, pw_br, pw_no h1]
    omega
  refine ⟨lws l, lps 0 l, lps_len _ _, by rw [e1]; exact lay_lex o1 j, fun cs => ?_⟩
  refine (read_any (htok l [] o1) (lps_len _ _) hlen hb).mono ?_
  rintro t' S ⟨h1, h2, h3⟩
  refine ⟨h1, h2, ?_, ?_⟩
  · rintro rfl
    have a1 := h3 h
    have a2 := p.cnt h (Nat.le_refl _)
    omega
  · unfold endTks; rw [List.length_append, due_len (lps_len _ _)]; rfl
end
section
open PySem PySem.Spec PyProof.Rows L2
theorem toks_of : ∀ {l : Ly} {b : List Nat}, LOk b l → ∀ a ∈ lws l, Tok a
  | [], _, _, a, h => absurd h List.not_mem_nil
  | (n, t) :: l, b, ⟨h1, _, h3⟩, a, ha => by
    rcases List.mem_cons.mp ha with rfl | ha
    · exact h1
    · exact toks_of h3 a ha
theorem cut_from (a : List Nat) (i : Nat) : cut a (some (i : Int)) none = a.drop i := by
  unfold cut
  rw [HT.sIx_nat, HT.sIx_none]
  by_cases h : i ≤ a.length
  · rw [Nat.min_eq_left h, List.take_of_length_le (by rw [List.length_drop]; omega)]
  · rw [Nat.min_eq_right (by omega), List.drop_of_length_le (by omega), List.drop_of_length_le (by omega), List.take_nil]
theorem cut_pair {ly : Ly} (ok : LOk [] ly) {s e : Nat} (h1 : (lay ly)[s]? = some 40) (q1 : qc ((lay ly).take s) % 2 = 0) (h2 : (lay ly)[e]? = some 41) (q2 : qc ((lay ly).take e) % 2 = 0) (hse : s < e) :
    ∃ (A : Ly) (n : Nat) (C : Ly) (m : Nat) (D : Ly), ly = A ++ (n, [40]) :: (C ++ (m, [41]) :: D) ∧ (lay ly).take s ++ [32] ++ ((lay ly).drop (s + 1)).take (e - (s + 1)) ++ [32] ++ (lay ly).drop (e + 1) = lay A ++ List.replicate n 32 ++ 32 :: (lay C ++ List.replicate m 32 ++ 32 :: lay D) := by
  have ht := toks_of ok
  obtain ⟨A, n, B, rfl, hA⟩ := pos_tok (.inl rfl) ht h1 q1
  have eX : lay (A ++ (n, [40]) :: B) = (lay A ++ List.replicate n 32) ++ 40 :: lay B := by
    rw [lay_append]
    show lay A ++ (List.replicate n 32 ++ [40] ++ lay B) = _
    simp
  have lP : (lay A ++ List.replicate n 32).length = s := by rw [List.length_append, List.length_replicate]; exact hA
  rw [eX] at h2 q1 q2 ⊢
  generalize hPd : lay A ++ List.replicate n 32 = P at *
  obtain ⟨j, hj⟩ : ∃ j, e = s + 1 + j := ⟨e - (s + 1), by omega⟩
  subst hj
  have t1 : (P ++ 40 :: lay B).take s = P := by rw [← lP, List.take_left]
  have d1 : (P ++ 40 :: lay B).drop (s + 1) = lay B := by
    rw [show s + 1 = P.length + 1 by omega, List.drop_length_add_append]; rfl
  have h2' : (lay B)[j]? = some 41 := by
    rw [← d1, List.getElem?_drop]; exact h2
  have q2' : qc ((lay B).take j) % 2 = 0 := by
    have et : (P ++ 40 :: lay B).take (s + 1 + j) = P ++ 40 :: (lay B).take j := by
      rw [show s + 1 + j = P.length + (1 + j) by omega, List.take_length_add_append, Nat.add_comm 1 j, List.take_succ_cons]
    rw [et, qc_append] at q2
    rw [t1] at q1
    have e40 : qc (40 :: (lay B).take j) = qc ((lay B).take j) := by show (if 40 = 39 then 1 else 0) + _ = _; rw [if_neg (by decide), Nat.zero_add]
    rw [e40] at q2
    omega
  obtain ⟨C, m, D, rfl, hC⟩ := pos_tok (.inr rfl) (fun t h => ht t (by rw [lws_append]; exact List.mem_append_right _ (List.mem_cons_of_mem _ h))) h2' q2'
  have eY : lay (C ++ (m, [41]) :: D) = (lay C ++ List.replicate m 32) ++ 41 :: lay D := by
    rw [lay_append]
    show lay C ++ (List.replicate m 32 ++ [41] ++ lay D) = _
    simp
  have lM : (lay C ++ List.replicate m 32).length = j := by rw [List.length_append, List.length_replicate]; exact hC
  refine ⟨A, n, C, m, D, rfl, ?_⟩
  have d2 : (P ++ 40 :: lay (C ++ (m, [41]) :: D)).drop (s + 1 + j + 1) = lay D := by
    rw [show s + 1 + j + 1 = s + 1 + (j + 1) by omega, ← List.drop_drop, d1, eY, show j + 1 = (lay C ++ List.replicate m 32).length + 1 by omega, List.drop_length_add_append]
    rfl
  rw [t1, d1, d2, show s + 1 + j - (s + 1) = j by omega, eY]
  have t2 : ((lay C ++ List.replicate m 32) ++ 41 :: lay D).take j = lay C ++ List.replicate m 32 := by rw [← lM, List.take_left]
  rw [t2, hPd]
  simp
theorem cut_len2 (x : List Nat) (s e : Nat) : (x.take s ++ [32] ++ (x.drop (s + 1)).take (e - (s + 1)) ++ [32] ++ x.drop (e + 1)).length ≤ 3 * x.length + 2 := by
  simp only [List.length_append, List.length_take, List.length_drop, List.length_singleton]
  omega
end
section
/-! Steps of printing: f-strings, joins of any texts, is True, [*xs, y], xs.extend, a comprehension over a tuple. -/
open PySem PySem.Spec PyProof.Rows L2
open StX (tStar)
/-! f-strings -/
def tFs (ts : List TE) : TE := fun σ H Q => tJs ts Str.empty σ H fun out H1 => Q (.str out) H1
theorem pe_fs {X : Cx} {v1 v2 : Expr} {rest : List Expr} {ts : List TE} {pos : Pos} (h : PJ X (v1 :: v2 :: rest) ts) : PE X (.JoinedStr (v1 :: v2 :: rest) pos) (tFs ts) := pe_joined h
def FsN (ts : List TE) (acc : List Nat) (σ : L2.St) (H : Hp) (Q : VK) : Prop := tJs ts (S acc) σ H fun out H1 => Q (.str out) H1
def FsK (ts : List TE) (acc : List Nat) (σ : L2.St) (x : V) (H : Hp) (Q : VK) : Prop := ∃ y : Str, x = .str y ∧ (S acc ++ y).length ≤ sizeLine ∧ tJs ts (S acc ++ y) σ H fun out H1 => Q (.str out) H1
def FmtK (x : V) (H : Hp) (Q : VK) : Prop := (∃ y : Str, x = .str y ∧ y.length ≤ sizeLine ∧ Q (.str y) H) ∨ ∃ i : Int, x = .int i ∧ i.natAbs.log2 < 1920 ∧ Q (.str (toString i)) H
section
variable {σ : L2.St} {H : Hp} {Q : VK} {K : PySem.W.Frag} {ts : List TE} {t : TE} {acc a : List Nat}
theorem w_fs (k : FsN ts [] σ H Q) : tFs ts σ H Q := k
theorem w_fs1 (k : t σ H fun x H1 => FsK ts acc σ x H1 Q) : FsN (t :: ts) acc σ H Q := k
theorem fs_T (z : acc.length + a.length ≤ 1000000) (k : FsN ts (acc ++ a) σ H Q) : FsK ts acc σ (T a) H Q := by
  refine ⟨S a, rfl, ?_, ?_⟩
  · rw [S_app]
    have : (S (acc ++ a)).length = (acc ++ a).length := len_T _
    rw [this, List.length_append]
    exact Nat.le_trans z (by decide)
  · rw [S_app]; exact k
theorem fs_end (k : Q (T acc) H) : FsN [] acc σ H Q := k
theorem w_fmt (k : t σ H fun x H1 => FmtK x H1 Q) : tFmt t σ H Q := k
theorem fmt_T (z : a.length ≤ 1000000) (k : Q (T a) H) : FmtK (T a) H Q := .inl ⟨_, rfl, by rw [len_T]; exact Nat.le_trans z (by decide), k⟩
/-! joins -/
theorem join_Ss (s : List Nat) : ∀ l : Ws, Str.join (S s) (l.map S) = S (jnS s l)
  | [] => rfl
  | [a] => by
    show S a = S (a ++ [])
    rw [List.append_nil]
  | a :: b :: l => by
    show S a ++ S s ++ Str.join (S s) ((b :: l).map S) = _
    rw [join_Ss s (b :: l), S_app, S_app]
    congr 1
    show a ++ s ++ (b ++ l.flatMap fun b => s ++ b) = a ++ (b :: l).flatMap fun b => s ++ b
    rw [List.flatMap_cons]
    simp only [List.append_assoc]
theorem tot_S (l : Ws) : ((l.map S).map (·.length)).sum = tot l := by
  induction l with
  | nil => rfl
  | cons a l ih =>
    rw [List.map_cons, List.map_cons, List.sum_cons, ih, tot_cons]
    have : (S a).length = a.length := len_T a
    rw [this]
theorem w_joinS {p : Addr} {s : List Nat} {l : Ws} (h : SqL K H p (l.map T) ∨ SqT K H p (l.map T)) (z : tot l + l.length * s.length ≤ 1000000) (k : Q (T (jnS s l)) H) : rJoin K (T s) [.ref p] H Q := by
  refine ⟨S s, p, l.map S, rfl, rfl, by rw [← map_T_S]; exact h, ?_, ?_⟩
  · rw [tot_S, List.length_map]
    have e : (S s).length = s.length := len_T s
    rw [e]
    exact Nat.le_trans z (by decide)
  · have e : Txt.join (S s) (l.map S) = Str.join (S s) (l.map S) := StrLaws.glued_eq_join _ _
    rw [e, join_Ss]
    exact k
/-! is True, is False -/
def flat1 : V → Prop
  | .non | .bl _ | .int _ | .str _ => True
  | _ => False
def rIsC : R2 := fun x y H Q => ∃ b : Bool, y = .bl b ∧ flat1 x ∧ Q (.bl (decide (x = .bl b))) H
theorem op_isC {X : Cx} : OpR X (compareOp .Is) rIsC := by
  intro pins s σ H x y v u Q I rx ry h
  obtain ⟨b, rfl, f, q⟩ := h
  cases (show u = Value.bool b from ry)
  cases x with
  | non =>
    cases (show v = Value.none from rx)
    exact wpAny_is_other rfl (fun z => by cases z) ⟨.bl false, H, I, rfl, by simpa using q⟩
  | bl a =>
    cases (show v = Value.bool a from rx)
    by_cases e : a = b
    · subst e
      exact wpAny_is_self rfl ⟨.bl true, H, I, rfl, by simpa using q⟩
    · exact wpAny_is_other rfl (fun z => e (Value.bool.inj z)) ⟨.bl false, H, I, rfl, by simpa [e] using q⟩
  | int i =>
    obtain ⟨t, rfl⟩ := rx
    exact wpAny_is_other rfl (fun z => by cases z) ⟨.bl false, H, I, rfl, by simpa using q⟩
  | str i =>
    obtain ⟨t, rfl⟩ := rx
    exact wpAny_is_other rfl (fun z => by cases z) ⟨.bl false, H, I, rfl, by simpa using q⟩
  | _ => exact f.elim
theorem isC_i {b : Bool} {i : Int} (k : Q (.bl false) H) : rIsC (.int i) (.bl b) H Q := ⟨b, rfl, True.intro, by simpa using k⟩
theorem isC_s {b : Bool} (k : Q (.bl false) H) : rIsC (T a) (.bl b) H Q := ⟨b, rfl, True.intro, by simpa using k⟩
theorem isC_tt (k : Q (.bl true) H) : rIsC (.bl true) (.bl true) H Q := ⟨true, rfl, True.intro, by simpa using k⟩
theorem isC_ft (k : Q (.bl false) H) : rIsC (.bl false) (.bl true) H Q := ⟨true, rfl, True.intro, by simpa using k⟩
theorem isC_ff (k : Q (.bl true) H) : rIsC (.bl false) (.bl false) H Q := ⟨false, rfl, True.intro, by simpa using k⟩
/-! [*xs, y], xs.extend(ys) -/
def StarN (K : PySem.W.Frag) (t : TA) (σ : L2.St) (x : V) (H : Hp) (G : List V → Hp → Prop) : Prop := ∃ p xs, x = V.ref p ∧ (SqT K H p xs ∨ SqL K H p xs) ∧ t σ H fun ys H2 => G (xs ++ ys) H2
theorem w_star {te : TE} {t : TA} {G : List V → Hp → Prop} (k : te σ H fun x H1 => StarN K t σ x H1 G) : tStar K te t σ H G := k
theorem star_L {p : Addr} {xs : List V} {t : TA} {G : List V → Hp → Prop} (h : SqL K H p xs) (k : t σ H fun ys H2 => G (xs ++ ys) H2) : StarN K t σ (.ref p) H G := ⟨p, xs, rfl, .inr h, k⟩
def rExt : V → List V → Hp → VK → Prop := fun x vs H Q => ∃ l b xs zs, x = .ref l ∧ vs = [.ref b] ∧ H l = some (.lst xs) ∧ H b = some (.lst zs) ∧ xs.length + zs.length ≤ sizeLine ∧ Q .non (upd H l (.lst (xs ++ zs)))
theorem mt_ext {X : Cx} : MtR X "list.extend" rExt := mt_extend
theorem w_ext {p b : Addr} {xs zs : List V} (h : H p = some (.lst xs)) (hb : H b = some (.lst zs)) (z : xs.length + zs.length ≤ 1000000) (k : ∀ H1, H1 p = some (.lst (xs ++ zs)) → (∀ b o, b ≠ p → H b = some o → H1 b = some o) → Q .non H1) : rExt (.ref p) [.ref b] H Q :=
  ⟨p, b, xs, zs, rfl, rfl, h, hb, Nat.le_trans z (by decide), k _ upd_same fun b o n e => by rw [upd_ne n]; exact e⟩
/-! a comprehension over a tuple -/
def LcT (K : PySem.W.Frag) (g : TG) (tt : TT) (te : TE) (vs : List Nat) (x : V) (σ : L2.St) (H : Hp) (Q : VK) : Prop := ∃ a, x = .ref a ∧ (∃ xs, SqT K H a xs) ∧ ∀ D, H D = none → ∃ W : Nat → Nat → Hp → Prop, (∃ m, W 0 m (upd H D (.lst []))) ∧ ∀ i m H, W i m H →
  ((Itt K a).stop i H ∧ Q (.ref D) H) ∨ ((Itt K a).go i H ∧ ∃ Nx : Hp → Prop, (∀ H', Nx H' → ∃ m', m' < m ∧ W (i + 1) m' H') ∧ ∀ x H', (Itt K a).yld i H x H' → g x (wipe σ vs) H' fun σ2 H2 => wipe σ2 vs = wipe σ vs ∧ tt σ2 H2 fun b H3 =>
    if b = true then te σ2 H3 fun y H4 => ∃ acc, H4 D = some (.lst acc) ∧ acc.length < sizeLine ∧ Nx (upd H4 D (.lst (acc ++ [y]))) else Nx H3)
theorem w_lcT {te0 : TE} {g : TG} {tt : TT} {te : TE} {vs : List Nat} (k : te0 σ H fun x H1 => LcT K g tt te vs x σ H1 Q) : tLc (iTup K te0) g tt te vs σ H Q := k
theorem lc_T {g : TG} {tt : TT} {te : TE} {vs : List Nat} {a : Addr} {xs : List V} (Pv : Addr → Nat → List V → Hp → Prop) (ha : SqT K H a xs)
    (h0 : ∀ D H1, H D = none → Same H H1 → H1 D = some (.lst []) → Pv D 0 [] H1)
    (hl : ∀ D i acc H1, i ≤ xs.length → Pv D i acc H1 → SqT K H1 a xs)
    (hs : ∀ D (i : Nat) x acc H1, xs[i]? = some x → acc.length ≤ i → H1 D = some (.lst acc) → Pv D i acc H1 → g x (wipe σ vs) H1 fun σ2 H2 => wipe σ2 vs = wipe σ vs ∧ tt σ2 H2 fun b H3 =>
      if b = true then te σ2 H3 fun y H4 => ∃ acc, H4 D = some (.lst acc) ∧ acc.length < sizeLine ∧ LcN Pv D (i + 1) (upd H4 D (.lst (acc ++ [y]))) else LcN Pv D (i + 1) H3)
    (hd : ∀ D acc H1, acc.length ≤ xs.length → H1 D = some (.lst acc) → Pv D xs.length acc H1 → Q (.ref D) H1) : LcT K g tt te vs (.ref a) σ H Q := by
  refine ⟨a, rfl, ⟨xs, ha⟩, fun D hD => ?_⟩
  refine ⟨fun i m H1 => m = xs.length - i ∧ i ≤ xs.length ∧ LcN Pv D i H1, ⟨xs.length, by simp, Nat.zero_le _, [], Nat.le_refl _, upd_same, h0 D _ hD (same_new0 hD) upd_same⟩, ?_⟩
  rintro i m H1 ⟨rfl, hi, acc, hac, hD1, p⟩
  have q := hl D i acc H1 hi p
  by_cases hlt : i < xs.length
  · refine .inr ⟨⟨xs, xs[i], q, List.getElem?_eq_getElem hlt⟩, LcN Pv D (i + 1), fun H' p' => ⟨xs.length - (i + 1), by omega, rfl, hlt, p'⟩, fun x H' y => ?_⟩
    obtain ⟨e, y⟩ := y
    subst e
    exact hs D i x acc _ (y xs q) hac hD1 p
  · have e : i = xs.length := by omega
    subst e
    exact .inl ⟨⟨xs, q, Nat.le_refl _⟩, hd D acc _ hac hD1 p⟩
end
end
section
/-! The program's printing: the small defs. -/
open PySem PySem.Spec PyProof.Rows L2
open C8 (Cal cal0 pe_c pe_gc pss_cut tCut)
open TL (numL tl_num numL_digits numL_ne numL_val numL_len numL_lt numL_step)

/-! ### trees by their parts -/
section
variable {K : PySem.W.Frag} {H : Hp} {v : V}
theorem TrAt.sE {a : List Nat} (h : TrAt K H v (.s a)) : v = T a := by cases h; rfl
theorem TrAt.iE {a : Int} (h : TrAt K H v (.i a)) : v = .int a := by cases h; rfl
theorem TrAt.bE {a : Bool} (h : TrAt K H v (.b a)) : v = .bl a := by cases h; rfl
theorem TrAt.nE (h : TrAt K H v .n) : v = .non := by cases h; rfl
theorem TrAt.tE {l : List Tr} (h : TrAt K H v (.t l)) : ∃ p vs, v = .ref p ∧ SqT K H p vs ∧ TrsAt K H vs l := by cases h; exact ⟨_, _, rfl, ‹_›, ‹_›⟩
theorem TrsAt.nE {vs : List V} (h : TrsAt K H vs []) : vs = [] := by cases h; rfl
theorem TrsAt.cE {vs : List V} {t : Tr} {l : List Tr} (h : TrsAt K H vs (t :: l)) : ∃ x r, vs = x :: r ∧ TrAt K H x t ∧ TrsAt K H r l := by cases h; exact ⟨_, _, rfl, ‹_›, ‹_›⟩
theorem TrAt.e1 {k : List Nat} (h : TrAt K H v (.t [.s k])) : ∃ p, v = .ref p ∧ SqT K H p [T k] := by
  obtain ⟨p, vs, rfl, hq, r⟩ := h.tE
  obtain ⟨x, r1, rfl, hx, r⟩ := r.cE
  cases r.nE; cases hx.sE
  exact ⟨p, rfl, hq⟩
theorem TrAt.e2 {k : List Nat} {a : Tr} (h : TrAt K H v (.t [.s k, a])) : ∃ p x, v = .ref p ∧ SqT K H p [T k, x] ∧ TrAt K H x a := by
  obtain ⟨p, vs, rfl, hq, r⟩ := h.tE
  obtain ⟨x, r1, rfl, hx, r⟩ := r.cE
  obtain ⟨y, r2, rfl, hy, r⟩ := r.cE
  cases r.nE; cases hx.sE
  exact ⟨p, y, rfl, hq, hy⟩
theorem TrAt.e3 {k : List Nat} {a b : Tr} (h : TrAt K H v (.t [.s k, a, b])) : ∃ p x y, v = .ref p ∧ SqT K H p [T k, x, y] ∧ TrAt K H x a ∧ TrAt K H y b := by
  obtain ⟨p, vs, rfl, hq, r⟩ := h.tE
  obtain ⟨x, r1, rfl, hx, r⟩ := r.cE
  obtain ⟨y, r2, rfl, hy, r⟩ := r.cE
  obtain ⟨z, r3, rfl, hz, r⟩ := r.cE
  cases r.nE; cases hx.sE
  exact ⟨p, y, z, rfl, hq, hy, hz⟩
theorem TrAt.e4 {k : List Nat} {a b c : Tr} (h : TrAt K H v (.t [.s k, a, b, c])) : ∃ p x y z, v = .ref p ∧ SqT K H p [T k, x, y, z] ∧ TrAt K H x a ∧ TrAt K H y b ∧ TrAt K H z c := by
  obtain ⟨p, vs, rfl, hq, r⟩ := h.tE
  obtain ⟨x, r1, rfl, hx, r⟩ := r.cE
  obtain ⟨y, r2, rfl, hy, r⟩ := r.cE
  obtain ⟨z, r3, rfl, hz, r⟩ := r.cE
  obtain ⟨u, r4, rfl, hu, r⟩ := r.cE
  cases r.nE; cases hx.sE
  exact ⟨p, y, z, u, rfl, hq, hy, hz, hu⟩
end
theorem sqL_same {a : Addr} {K : PySem.W.Frag} {H H' : Hp} {xs : List V} (f : Same H H') (h : SqL K H a xs) : SqL K H' a xs := by
  rcases h with (h | ⟨o, h⟩) | h
  · exact .inl (.inl (f _ _ h))
  · exact .inl (.inr ⟨o, f _ _ h⟩)
  · exact .inr h
/-! ### tests whose answer is known -/
theorem if_Te {a b : List Nat} {A B : Prop} (h : a = b) (k : A) : if decide (T a = T b) = true then A else B := by rw [if_pos (by rw [h]; simp)]; exact k
theorem if_Tn {a b : List Nat} {A B : Prop} (h : a ≠ b) (k : B) : if decide (T a = T b) = true then A else B := by
  rw [if_neg]
  · exact k
  · rw [decide_eq_true_iff]; exact fun e => h (T_inj e)
theorem if_lt {a b : Nat} {A B : Prop} (h1 : a < b → A) (h2 : b ≤ a → B) : if decide ((a : Int) < (b : Int)) = true then A else B := by
  by_cases h : a < b
  · rw [if_pos (by simpa using h)]; exact h1 h
  · rw [if_neg (by simpa using h)]; exact h2 (by omega)
local macro_rules | `(tactic| walk_at "kd") => `(tactic| repeat (first
  | walk_at "r1y"
  | with_reducible refine w_fs ?_
  | with_reducible refine w_fs1 ?_
  | with_reducible refine w_fmt ?_
  | with_reducible refine if_Te (by with_unfolding_all decide +kernel) ?_
  | with_reducible refine if_Tn (by with_unfolding_all decide +kernel) ?_))
structure PrTx (K : PySem.W.Frag) (w : World) (mg : Str → Option Value) : Prop where
  c_LOOSEST : ∃ u, mg "LOOSEST" = some u ∧ RelV (.int 1) u
  c_COMPARING : ∃ u, mg "COMPARING" = some u ∧ RelV (.int 4) u
  c_TIGHTEST : ∃ u, mg "TIGHTEST" = some u ∧ RelV (.int 9) u
  dB : DkN K w mg "LEVELS_BEHIND" behN
  dA : DkN K w mg "LEVELS_AHEAD" aheadN
section
variable {P : Program} {w : World} {K : PySem.W.Frag} {mg : Str → Option Value} {base : Heap}
abbrev s_in_brackets : Stmt := topS 45
abbrev N_in_brackets : List Str := ["text"]
theorem sc_in_brackets : FnScope N_in_brackets ["text"] (defScope s_in_brackets) := ⟨rfl, rfl, rfl, by decide +kernel, rfl, by decide +kernel, by decide +kernel⟩
def spIB : Sp := fun vs H Q _ => ∃ a : List Nat, vs = [T a] ∧ a.length ≤ 100000 ∧ Q (T (brk a)) H
theorem ok_in_brackets {f : Addr} {fd : FuncData} (F : Fun K "_in_brackets" "_in_brackets" s_in_brackets f fd) : FnOk P w K mg base CX0 1 f fd ["text"] spIB := by
  refine F.ok sc_in_brackets (fun vs H Q E h => ?_) (fun cdv A outer s H vs Q E hr h => ?_)
  · obtain ⟨a, rfl, _⟩ := h
    rfl
  · obtain ⟨a, rfl, ha, kQ⟩ := h
    have nd := sc_in_brackets.nd
    refine ⟨_, (pss_one (ps_ret (pe_fs (.cons pe_str (.cons (pe_fmt (pv 0)) (.cons pe_str .nil)))))), ?_⟩
    rw [show L2.start N_in_brackets [T a] = [some (T a)] from rfl]
    walk_at "kd"
    refine fs_T (by show 0 + 1 ≤ _; decide) ?_
    walk_at "kd"
    refine fmt_T (by omega) ?_
    refine fs_T (by show 1 + a.length ≤ _; omega) ?_
    walk_at "kd"
    refine fs_T (by rw [List.length_append]; show 1 + a.length + 1 ≤ _; omega) ?_
    exact fs_end kQ
abbrev s_spaced : Stmt := topS 46
abbrev N_spaced : List Str := ["words", "word"]
theorem sc_spaced : FnScope N_spaced ["words"] (defScope s_spaced) := ⟨rfl, rfl, rfl, by decide +kernel, rfl, by decide +kernel, by decide +kernel⟩
def spSpd (K : PySem.W.Frag) : Sp := fun vs H Q _ => ∃ (p : Addr) (l : Ws), vs = [.ref p] ∧ SqL K H p (l.map T) ∧ tot l + l.length ≤ 100000 ∧ ∀ H', Same H H' → Q (T (spd l)) H'
theorem ok_spaced {f : Addr} {fd : FuncData} (F : Fun K "_spaced" "_spaced" s_spaced f fd) : FnOk P w K mg base CX0 1 f fd ["words"] (spSpd K) := by
  refine F.ok sc_spaced (fun vs H Q E h => ?_) (fun cdv A outer s H vs Q E hr h => ?_)
  · obtain ⟨p, l, rfl, _⟩ := h
    rfl
  · obtain ⟨p, l, rfl, hp, hl, kQ⟩ := h
    have nd := sc_spaced.nd
    refine ⟨_, (pss_one (ps_ret (pe_bm PySem.F.plainAttrs_str PySem.F.slot_str_join PySem.F.type_str_join mt_joinS pe_str (pa_cons (pe_lc (own := [("word", 1)]) (g := gName 1) rfl nd (pi_list (pv 0)) (blkOk_by (own := [("word", 1)]) (N := N_spaced) (sc := defScope s_spaced) (by decide +kernel)) (fun _ _ _ _ _ => pg_name (i := 1) nd rfl (Or.inl rfl)) (fun _ _ _ _ _ => pts_one (pt_cmpR op_ne (pv 1) pe_str (nomark _))) (fun _ _ _ _ _ => (pv 1))) pa_nil)))), ?_⟩
    rw [show L2.start N_spaced [.ref p] = [some (.ref p), none] from rfl]
    walk_at "kd"
    refine ⟨rfl, ?_⟩
    walk_at "kd"
    refine lc_L (fun D i acc H' => acc = ((l.take i).filter fun a => decide (a ≠ [])).map T ∧ SqL K H' p (l.map T) ∧ Same H H' ∧ H D = none) hp ?_ ?_ ?_ ?_
    · intro D H1 hD s1 h1
      exact ⟨rfl, sqL_same s1 hp, s1, hD⟩
    · rintro D i acc H1 _ ⟨_, h, _⟩
      exact h
    · rintro D i x acc H1 hx hal hD1 ⟨rfl, hp1, s1, hD⟩
      rw [List.length_map] at *
      rw [List.getElem?_map] at hx
      obtain ⟨a, ha, rfl⟩ := Option.map_eq_some_iff.mp hx
      have htk : l.take (i + 1) = l.take i ++ [a] := by rw [List.take_succ, ha]; rfl
      have hil : i < l.length := (List.getElem?_eq_some_iff.mp ha).1
      walk_at "kd"
      refine ⟨rfl, ?_⟩
      walk_at "kd"
      refine w_ifTn (fun h => ?_) (fun h => ?_)
      · walk_at "kd"
        refine lc_keep (by rw [List.length_map]; exact hal) (by omega) hD1 fun H5 h5 k5 => ⟨?_, ?_, same_of_but hD s1 k5, hD⟩
        · rw [htk, List.filter_append, List.map_append]
          congr 1
          have h' : a ≠ [] := h
          rw [List.filter_cons, if_pos (decide_eq_true h')]; rfl
        · exact sqL_same (same_of_but hD s1 k5) hp
      · refine lc_skip (by rw [List.length_map]; exact hal) hD1 ⟨?_, hp1, s1, hD⟩
        rw [htk, List.filter_append, List.map_append]
        have h' : a = [] := h
        rw [h']
        simp
    · rintro D acc H1 hal hD1 ⟨rfl, hp1, s1, hD⟩
      rw [List.length_map, List.take_of_length_le (Nat.le_refl _)] at hD1
      walk_at "kd"
      have h2 := tot_filter (fun a => decide (a ≠ [])) l
      refine w_joinS (.inl (SqL.of hD1)) (by show _ + _ * 1 ≤ _; omega) ?_
      exact kQ H1 s1
abbrev s_plain : Stmt := topS 47
abbrev N_plain : List Str := ["value"]
theorem sc_plain : FnScope N_plain ["value"] (defScope s_plain) := ⟨rfl, rfl, rfl, by decide +kernel, rfl, by decide +kernel, by decide +kernel⟩
theorem pl_cases {a : List Nat} {v : V} (h : plainL.lookup a = some v) : (v = .non ∧ a = cds "none") ∨ (v = .bl true ∧ a = cds "true") ∨ (v = .bl false ∧ a = cds "false") := by
  unfold plainL at h
  simp only [List.lookup] at h
  split at h
  · rename_i e; cases h; exact .inl ⟨rfl, eq_of_beq e⟩
  · split at h
    · rename_i e; cases h; exact .inr (.inl ⟨rfl, eq_of_beq e⟩)
    · split at h
      · rename_i e; cases h; exact .inr (.inr ⟨rfl, eq_of_beq e⟩)
      · cases h
def PlV (v : V) (a : List Nat) : Prop := (∃ n : Nat, n ≤ 1000000000 ∧ v = .int (n : Int) ∧ a = numL n) ∨ (∃ b : List Nat, b.length ≤ 1000 ∧ v = T b ∧ a = cds "'" ++ b ++ cds "'") ∨ plainL.lookup a = some v
def spPl : Sp := fun vs H Q _ => ∃ (v : V) (a : List Nat), vs = [v] ∧ PlV v a ∧ Q (T a) H
theorem ok_plain {f : Addr} {fd : FuncData} (F : Fun K "_plain" "_plain" s_plain f fd) (Y : Bn mg) : FnOk P w K mg base CX0 1 f fd ["value"] spPl := by
  refine F.ok sc_plain (fun vs H Q E h => ?_) (fun cdv A outer s H vs Q E hr h => ?_)
  · obtain ⟨v, a, rfl, _⟩ := h
    rfl
  · obtain ⟨v, a, rfl, hv, kQ⟩ := h
    have nd := sc_plain.nd
    refine ⟨_, (pss_cons (ps_if (pt_cmpR op_isN (pv 0) pe_non (nomark _)) (pss_one (ps_ret pe_str)) pss_nil)
      (pss_cons (ps_if (pt_cmpR op_isC (pv 0) pe_bl (nomark _)) (pss_one (ps_ret pe_str)) pss_nil)
      (pss_cons (ps_if (pt_cmpR op_isC (pv 0) pe_bl (nomark _)) (pss_one (ps_ret pe_str)) pss_nil)
      (pss_cons (ps_if (pt_val (pe_callB call_isi (by rfl) Y.n_isinstance (by decide +kernel) (pa_cons (pv 0) (pa_cons (pe_bltn (v := .ty "str") (by rfl) Y.n_str (by decide +kernel) rfl) pa_nil)))) (pss_one (ps_ret (pe_fs (.cons pe_str (.cons (pe_fmt (pv 0)) (.cons pe_str .nil)))))) pss_nil)
      (pss_one (ps_ret (pe_callTy call_strI (by rfl) Y.n_str (by decide +kernel) (pa_cons (pv 0) pa_nil)))))))), ?_⟩
    rw [show L2.start N_plain [v] = [some v] from rfl]
    rcases hv with ⟨n, hn, rfl, rfl⟩ | ⟨b, hb, rfl, rfl⟩ | h
    · walk_at "kd"
      refine isC_i ?_
      walk_at "kd"
      refine isC_i ?_
      walk_at "kd"
      refine ⟨(n : Int), rfl, ?_, ?_⟩
      · rw [Int.natAbs_natCast]
        by_cases h0 : n = 0
        · subst h0; decide
        · exact Nat.lt_trans ((Nat.log2_lt h0).mpr (show n < 2 ^ 41 by omega)) (by decide)
      · have e : V.str (toString (n : Int)) = T (numL n) := by rw [T_eta]; exact congrArg T (tl_num n)
        rw [e]
        exact kQ
    · walk_at "kd"
      refine isC_s ?_
      walk_at "kd"
      refine isC_s ?_
      walk_at "kd"
      refine fs_T (by show 0 + 1 ≤ _; decide) ?_
      walk_at "kd"
      refine fmt_T (by omega) ?_
      refine fs_T (by show 1 + b.length ≤ _; omega) ?_
      walk_at "kd"
      refine fs_T (by rw [List.length_append]; show 1 + b.length + 1 ≤ _; omega) ?_
      exact fs_end kQ
    · rcases pl_cases h with ⟨rfl, rfl⟩ | ⟨rfl, rfl⟩ | ⟨rfl, rfl⟩
      · walk_at "kd"
        exact kQ
      · walk_at "kd"
        refine isC_tt ?_
        walk_at "kd"
        exact kQ
      · walk_at "kd"
        refine isC_ft ?_
        walk_at "kd"
        refine isC_ff ?_
        walk_at "kd"
        exact kQ
end
end
section
/-! The program's printing: expressions. -/
open PySem PySem.Spec PyProof.Rows L2
open C8 (Cal cal0 pe_c pe_gc pss_cut tCut)
open TL (numL tl_num numL_digits numL_ne numL_val numL_len numL_lt numL_step)

local macro_rules | `(tactic| walk_at "kd") => `(tactic| repeat (first
  | walk_at "r1y"
  | with_reducible refine w_fs ?_
  | with_reducible refine w_fs1 ?_
  | with_reducible refine w_fmt ?_
  | with_reducible refine w_lcT ?_
  | with_reducible refine if_Te (by with_unfolding_all decide +kernel) ?_
  | with_reducible refine if_Tn (by with_unfolding_all decide +kernel) ?_))
def spLv (K : PySem.W.Frag) : Sp := fun vs H Q _ => ∃ (v : V) (t : Tr) (lv n : Nat) (w : Ws) (ns : List Ws) (x : List Nat), vs = [v] ∧ TrAt K H v t ∧ Pe lv n t w ns x ∧ ∀ H', Same H H' → Q (.int (lv : Int)) H'
def spE (K : PySem.W.Frag) (n : Nat) : Sp := fun vs H Q _ => ∃ (v : V) (t : Tr) (lv : Nat) (w : Ws) (ns : List Ws) (x : List Nat), vs = [v] ∧ TrAt K H v t ∧ Pe lv n t w ns x ∧ wt w ≤ 30000 ∧ ∀ H', Same H H' → Q (T x) H'
def spI (K : PySem.W.Frag) (n : Nat) : Sp := fun vs H Q _ => ∃ (v : V) (t : Tr) (a : Nat) (w : Ws) (ns : List Ws) (x : List Nat), vs = [v, .int (a : Int)] ∧ TrAt K H v t ∧ Pp a n t w ns x ∧ wt w ≤ 30000 ∧ ∀ H', Same H H' → Q (T x) H'
def spW (K : PySem.W.Frag) (n : Nat) : Sp := fun vs H Q _ => ∃ (s : List Nat) (v1 v2 : V) (t1 t2 : Tr) (l : Nat) (w1 w2 : Ws) (n1 n2 : List Ws) (x1 x2 : List Nat), vs = [T s, v1, v2] ∧ behN.lookup s = some l ∧ TrAt K H v1 t1 ∧ TrAt K H v2 t2 ∧ Pp (if l = 4 then 5 else l) n t1 w1 n1 x1 ∧ Pp (l + 1) n t2 w2 n2 x2 ∧ wt (w1 ++ s :: w2) ≤ 30000 ∧ ∀ H', Same H H' → Q (T (x1 ++ cds " " ++ s ++ cds " " ++ x2)) H'
def spSe (K : PySem.W.Frag) (n : Nat) : Sp := fun vs H Q _ => ∃ (r a : List Nat) (p : Addr) (us : List V) (l : List Tr) (w : Ws) (ns : List Ws) (ys : Ws), vs = [T r, T a, .ref p] ∧ SqT K H p us ∧ TrsAt K H us l ∧ Pa n l w ns ys ∧ r.length ≤ 40000 ∧ a.length ≤ 100 ∧ wt w ≤ 30000 ∧ ∀ H', Same H H' → Q (T (r ++ cds "." ++ a ++ brk (jn ys))) H'
def spPBo (K : PySem.W.Frag) (n : Nat) : Sp := fun vs H Q _ => ∃ (q : Addr) (us : List V) (l : List Tr) (w : Ws) (ns : List Ws) (ys : Ws), vs = [.ref q] ∧ SqT K H q us ∧ TrsAt K H us l ∧ Pb n l w ns ys ∧ wt w ≤ 30000 ∧ ∀ H', Same H H' → Q (T (jnS (cds "; ") ys)) H'
def spBk (K : PySem.W.Frag) (n : Nat) : Sp := fun vs H Q _ => ∃ (p q : Addr) (ps : Ws) (us : List V) (l : List Tr) (w : Ws) (ns : List Ws) (ys : Ws), vs = [.ref p, .ref q] ∧ SqT K H p (ps.map T) ∧ SqT K H q us ∧ TrsAt K H us l ∧ Pb n l w ns ys ∧ tot ps + ps.length * 2 ≤ 1000 ∧ wt w ≤ 30000 ∧ ∀ H', Same H H' → Q (T (cds "{" ++ (if ps = [] then [] else jn ps ++ cds " | ") ++ jnS (cds "; ") ys ++ cds "}")) H'
def spPSt (K : PySem.W.Frag) (n : Nat) : Sp := fun vs H Q _ => ∃ (v : V) (t : Tr) (w : Ws) (ns : List Ws) (x : List Nat), vs = [v] ∧ TrAt K H v t ∧ Ps n t w ns x ∧ wt w ≤ 30000 ∧ ∀ H', Same H H' → Q (T x) H'
def spCh (K : PySem.W.Frag) (n : Nat) : Sp := fun vs H Q _ => ∃ (v : V) (p q : Addr) (t : Tr) (lv : Nat) (w : Ws) (ns : List Ws) (x : List Nat) (us us2 : List V) (l l2 : List Tr) (w1 w2 : Ws) (n1 n2 : List Ws) (ys zs : Ws), vs = [v, .ref p, .ref q] ∧ TrAt K H v t ∧ Pe lv n t w ns x ∧ SqT K H p us ∧ TrsAt K H us l ∧ Pb n l w1 n1 ys ∧ SqT K H q us2 ∧ TrsAt K H us2 l2 ∧ Pb n l2 w2 n2 zs ∧ wt w + wt w1 + wt w2 ≤ 30000 ∧
  ∀ H', Same H H' → Q (T (spd ([cds "if", x, cds "then", jnS (cds "; ") ys] ++ (if l2 = [] then [] else [cds "else", jnS (cds "; ") zs]) ++ [cds "end"]))) H'
theorem trs_names {K : PySem.W.Frag} {H : Hp} : ∀ {ps : Ws} {vs : List V}, TrsAt K H vs (ps.map Tr.s) → vs = ps.map T
  | [], _, h => h.nE
  | a :: ps, _, h => by
    obtain ⟨x, r, rfl, hx, hr⟩ := TrsAt.cE (show TrsAt K H _ (.s a :: ps.map Tr.s) from h)
    rw [hx.sE, trs_names hr]; rfl
theorem and_or {s : List Nat} (h : s = cds "and" ∨ s = cds "or") (a b : Tr) : binT s a b = .t [.s s, a, b] := if_pos h
theorem op_or {s : List Nat} (h : ¬ (s = cds "and" ∨ s = cds "or")) (a b : Tr) : binT s a b = .t [str "op", .s s, a, b] := if_neg h
section
variable {P : Program} {w : World} {K : PySem.W.Frag} {mg : Str → Option Value} {base : Heap} {k n : Nat}
abbrev s_level : Stmt := topS 43
abbrev N_level : List Str := ["tree", "kind"]
theorem sc_level : FnScope N_level ["tree"] (defScope s_level) := ⟨rfl, rfl, rfl, by decide +kernel, rfl, by decide +kernel, by decide +kernel⟩
theorem ok_level {f : Addr} {fd : FuncData} (F : Fun K "_level" "_level" s_level f fd) (Z : PrTx K w mg) : FnOk P w K mg base CX0 1 f fd ["tree"] (spLv K) := by
  obtain ⟨aB, esB, nB, gLEVELS_BEHIND, DLEVELS_BEHIND, hB⟩ := Z.dB.ex
  obtain ⟨aA, esA, nA, gLEVELS_AHEAD, DLEVELS_AHEAD, hA⟩ := Z.dA.ex
  refine F.ok sc_level (fun vs H Q E h => ?_) (fun cdv A outer s H vs Q E hr h => ?_)
  · obtain ⟨v, t, lv, n, w, ns, x, rfl, _⟩ := h
    rfl
  · obtain ⟨v, t, lv, n, w, ns, x, rfl, ht, hp, kQ⟩ := h
    have nd := sc_level.nd
    have kQ0 := kQ H fun _ _ h => h
    refine ⟨_, (pss_cons (ps_set (i := 1) nd rfl (Or.inl rfl) (pe_ix ix_tup (pv 0) pe_int (fun _ _ => rfl)))
      (pss_cons (ps_if (pt_cmpR op_eq (pv 1) pe_str (nomark _)) (pss_one (ps_ret (pe_ix (ix_dk DLEVELS_BEHIND) (pe_gc rfl gLEVELS_BEHIND) (pe_ix ix_tup (pv 0) pe_int (fun _ _ => rfl)) (fun _ _ => rfl)))) pss_nil)
      (pss_cons (ps_if (PW.pt (pw_or (pt_cmpR op_eq (pv 1) pe_str (nomark _)) (pw_or1 (pt_cmpR op_eq (pv 1) pe_str (nomark _))))) (pss_one (ps_ret (pe_ix (ix_dk DLEVELS_BEHIND) (pe_gc rfl gLEVELS_BEHIND) (pv 1) (fun _ _ => rfl)))) pss_nil)
      (pss_cons (ps_if (pt_cmpR op_eq (pv 1) pe_str (nomark _)) (pss_one (ps_ret (pe_ix (ix_dk DLEVELS_AHEAD) (pe_gc rfl gLEVELS_AHEAD) pe_str (fun _ _ => rfl)))) pss_nil)
      (pss_cons (ps_if (pt_cmpR op_eq (pv 1) pe_str (nomark _)) (pss_one (ps_ret (pe_ix (ix_dk DLEVELS_AHEAD) (pe_gc rfl gLEVELS_AHEAD) pe_str (fun _ _ => rfl)))) pss_nil)
      (pss_cons (ps_if (pt_cmpR op_eq (pv 1) pe_str (nomark _)) (pss_one (ps_ret (pe_ix (ix_dk DLEVELS_BEHIND) (pe_gc rfl gLEVELS_BEHIND) pe_str (fun _ _ => rfl)))) pss_nil)
      (pss_one (ps_ret (pe_gc rfl Z.c_TIGHTEST))))))))), ?_⟩
    rw [show L2.start N_level [v] = [some v, none] from rfl]
    cases hp with
    | num _ => obtain ⟨p, x, rfl, hq, _⟩ := ht.e2; walk_at "kd"; exact kQ0
    | text _ => obtain ⟨p, x, rfl, hq, _⟩ := ht.e2; walk_at "kd"; exact kQ0
    | word _ => obtain ⟨p, x, rfl, hq, _⟩ := ht.e2; walk_at "kd"; exact kQ0
    | self => obtain ⟨p, rfl, hq⟩ := ht.e1; walk_at "kd"; exact kQ0
    | new _ => obtain ⟨p, x, rfl, hq, _⟩ := ht.e2; walk_at "kd"; exact kQ0
    | name _ => obtain ⟨p, x, rfl, hq, _⟩ := ht.e2; walk_at "kd"; exact kQ0
    | neg _ => obtain ⟨p, x, rfl, hq, _⟩ := ht.e2; walk_at "kd"; refine dk_at hA lvA_neg ?_; exact kQ0
    | not _ => obtain ⟨p, x, rfl, hq, _⟩ := ht.e2; walk_at "kd"; refine dk_at hA lvA_not ?_; exact kQ0
    | bin hl hd pa pb =>
      rename_i s t1 t2 w1 w2 n1 n2 x1 x2
      by_cases h : s = cds "and" ∨ s = cds "or"
      · rw [and_or h] at ht
        obtain ⟨p, x, y, rfl, hq, _⟩ := ht.e3
        rcases h with rfl | rfl
        · walk_at "kd"; refine dk_at hB hl ?_; exact kQ0
        · walk_at "kd"; refine dk_at hB hl ?_; exact kQ0
      · rw [op_or h] at ht
        obtain ⟨p, x, y, z, rfl, hq, hx, _⟩ := ht.e4
        cases hx.sE
        walk_at "kd"; refine dk_at hB hl ?_; exact kQ0
    | send _ _ _ => obtain ⟨p, x, y, z, rfl, hq, _⟩ := ht.e4; walk_at "kd"; refine dk_at hB lvB_dot ?_; exact kQ0
    | sup _ _ => obtain ⟨p, x, y, rfl, hq, _⟩ := ht.e3; walk_at "kd"; exact kQ0
    | blk0 _ => obtain ⟨p, x, y, rfl, hq, _⟩ := ht.e3; walk_at "kd"; exact kQ0
    | blk _ _ _ _ => obtain ⟨p, x, y, rfl, hq, _⟩ := ht.e3; walk_at "kd"; exact kQ0
abbrev s_in_place : Stmt := topS 44
abbrev N_in_place : List Str := ["tree", "place", "text"]
theorem sc_in_place : FnScope N_in_place ["tree", "place"] (defScope s_in_place) := ⟨rfl, rfl, rfl, by decide +kernel, rfl, by decide +kernel, by decide +kernel⟩
theorem ok_in_place {f : Addr} {fd : FuncData} (F : Fun K "_in_place" "_in_place" s_in_place f fd) (hk : 1 ≤ k) (c_print_expression : Cal P w K mg base k "print_expression" (spE K n) []) (c_level : Cal P w K mg base 1 "_level" (spLv K) []) (c_in_brackets : Cal P w K mg base 1 "_in_brackets" spIB []) : FnOk P w K mg base CX0 (k + 1) f fd ["tree", "place"] (spI K n) := by
  refine F.ok sc_in_place (fun vs H Q E h => ?_) (fun cdv A outer s H vs Q E hr h => ?_)
  · obtain ⟨v, t, a, w, ns, x, rfl, _⟩ := h
    rfl
  · obtain ⟨v, t, a, w, ns, x, rfl, ht, hp, hw, kQ⟩ := h
    have nd := sc_in_place.nd
    refine ⟨_, (pss_cons (ps_set (i := 2) nd rfl (Or.inl rfl) (pe_c c_print_expression hr (by omega) rfl (pa_cons (pv 0) pa_nil)))
      (pss_cons (ps_if (pt_cmpR op_lt (pe_c c_level hr (by omega) rfl (pa_cons (pv 0) pa_nil)) (pv 1) (nomark _)) (pss_one (ps_ret (pe_c c_in_brackets hr (by omega) rfl (pa_cons (pv 2) pa_nil)))) pss_nil)
      (pss_one (ps_ret (pv 2))))), ?_⟩
    rw [show L2.start N_in_place [v, .int (a : Int)] = [some v, some (.int (a : Int)), none] from rfl]
    cases hp with
    | go l p =>
      walk_at "kd"
      refine ⟨v, t, _, _, _, _, rfl, ht, p, hw, fun H1 s1 => ?_⟩
      walk_at "kd"
      refine ⟨v, t, _, _, _, _, _, rfl, ht.same s1, p, fun H2 s2 => ?_⟩
      walk_at "kd"
      refine if_lt (fun h => absurd h (by omega)) (fun _ => ?_)
      walk_at "kd"
      exact kQ H2 (s1.trans s2)
    | br l p =>
      have hlen := p.len
      have hw1 := hw
      rw [wt_cons', wt_append] at hw1
      walk_at "kd"
      refine ⟨v, t, _, _, _, _, rfl, ht, p.up, by omega, fun H1 s1 => ?_⟩
      walk_at "kd"
      refine ⟨v, t, _, _, _, _, _, rfl, ht.same s1, p.up, fun H2 s2 => ?_⟩
      walk_at "kd"
      refine if_lt (fun h => ?_) (fun h => absurd h (by omega))
      walk_at "kd"
      refine ⟨_, rfl, by omega, ?_⟩
      exact kQ H2 (s1.trans s2)
abbrev s_with_sign : Stmt := topS 48
abbrev N_with_sign : List Str := ["sign", "left", "right", "level", "place"]
theorem sc_with_sign : FnScope N_with_sign ["sign", "left", "right"] (defScope s_with_sign) := ⟨rfl, rfl, rfl, by decide +kernel, rfl, by decide +kernel, by decide +kernel⟩
theorem ok_with_sign {f : Addr} {fd : FuncData} (F : Fun K "_with_sign" "_with_sign" s_with_sign f fd) (Z : PrTx K w mg) (c_in_place : Cal P w K mg base k "_in_place" (spI K n) []) : FnOk P w K mg base CX0 (k + 1) f fd ["sign", "left", "right"] (spW K n) := by
  obtain ⟨aB, esB, nB, gLEVELS_BEHIND, DLEVELS_BEHIND, hB⟩ := Z.dB.ex
  refine F.ok sc_with_sign (fun vs H Q E h => ?_) (fun cdv A outer s H vs Q E hr h => ?_)
  · obtain ⟨s, v1, v2, t1, t2, l, w1, w2, n1, n2, x1, x2, rfl, _⟩ := h
    rfl
  · obtain ⟨sg, v1, v2, t1, t2, l, w1, w2, n1, n2, x1, x2, rfl, hl, h1, h2, p1, p2, hw, kQ⟩ := h
    have nd := sc_with_sign.nd
    have l1 := p1.len
    have l2 := p2.len
    rw [wt_append, wt_cons'] at hw
    have e1 : (cds " ").length = 1 := by decide +kernel
    refine ⟨_, (pss_cons (ps_set (i := 3) nd rfl (Or.inl rfl) (pe_ix (ix_dk DLEVELS_BEHIND) (pe_gc rfl gLEVELS_BEHIND) (pv 0) (fun _ _ => rfl)))
      (pss_cons (ps_set (i := 4) nd rfl (Or.inl rfl) (pe_ifExp (pt_cmpR op_eq (pv 3) (pe_gc rfl Z.c_COMPARING) (nomark _)) (pe_op op_add (pv 3) pe_int) (pv 3)))
      (pss_one (ps_ret (pe_fs (.cons (pe_fmt (pe_c c_in_place hr (by omega) rfl (pa_cons (pv 1) (pa_cons (pv 4) pa_nil)))) (.cons pe_str (.cons (pe_fmt (pv 0)) (.cons pe_str (.cons (pe_fmt (pe_c c_in_place hr (by omega) rfl (pa_cons (pv 2) (pa_cons (pe_op op_add (pv 3) pe_int) pa_nil)))) .nil)))))))))), ?_⟩
    rw [show L2.start N_with_sign [T sg, v1, v2] = [some (T sg), some v1, some v2, none, none] from rfl]
    have fin : ∀ a : Nat, a = (if l = 4 then 5 else l) → tFs [tFmt (tCall (spI K n) [] L2.E0 (tCons (tVar 1) (tCons (tVar 4) tNil))), tC (.str " "), tFmt (tVar 0), tC (.str " "), tFmt (tCall (spI K n) [] L2.E0 (tCons (tVar 2) (tCons (tOp (rI0 fun a b => V.int (a + b)) (tVar 3) (tC (.int 1))) tNil)))] [some (T sg), some v1, some v2, some (.int (l : Int)), some (.int (a : Int))] H Q := by
      intro a ha
      subst ha
      walk_at "kd"
      refine ⟨v1, t1, _, w1, n1, x1, rfl, h1, p1, by omega, fun H1 s1 => ?_⟩
      refine fmt_T (by omega) ?_
      refine fs_T (by show 0 + x1.length ≤ _; omega) ?_
      walk_at "kd"
      refine fs_T (a := cds " ") (by rw [e1]; show x1.length + 1 ≤ _; omega) ?_
      walk_at "kd"
      refine fmt_T (by omega) ?_
      refine fs_T (by rw [List.length_append, List.length_append, e1]; show 0 + x1.length + 1 + sg.length ≤ _; omega) ?_
      walk_at "kd"
      refine fs_T (a := cds " ") (by rw [List.length_append, List.length_append, List.length_append, e1]; show 0 + x1.length + 1 + sg.length + 1 ≤ _; omega) ?_
      walk_at "kd"
      refine ⟨v2, t2, l + 1, w2, n2, x2, rfl, h2.same s1, p2, by omega, fun H2 s2 => ?_⟩
      refine fmt_T (by omega) ?_
      refine fs_T (by rw [List.length_append, List.length_append, List.length_append, List.length_append, e1]; show 0 + x1.length + 1 + sg.length + 1 + x2.length ≤ _; omega) ?_
      exact fs_end (kQ H2 (s1.trans s2))
    walk_at "kd"
    refine dk_at hB hl ?_
    walk_at "kd"
    refine w_ifI (fun h => ?_) (fun h => ?_)
    · walk_at "rdy"
      exact fin (l + 1) (by rw [if_pos (by omega)]; omega)
    · walk_at "rdy"
      exact fin l (by rw [if_neg (by omega)])
abbrev s_sent : Stmt := topS 49
abbrev N_sent : List Str := ["receiver", "name", "args", "part", "texts"]
theorem sc_sent : FnScope N_sent ["receiver", "name", "args"] (defScope s_sent) := ⟨rfl, rfl, rfl, by decide +kernel, rfl, by decide +kernel, by decide +kernel⟩
theorem ok_sent {f : Addr} {fd : FuncData} (F : Fun K "_sent" "_sent" s_sent f fd) (Z : PrTx K w mg) (hk : 1 ≤ k) (c_in_place : Cal P w K mg base k "_in_place" (spI K n) []) (c_in_brackets : Cal P w K mg base 1 "_in_brackets" spIB []) : FnOk P w K mg base CX0 (k + 1) f fd ["receiver", "name", "args"] (spSe K n) := by
  refine F.ok sc_sent (fun vs H Q E h => ?_) (fun cdv A outer s H vs Q E hr h => ?_)
  · obtain ⟨r, a, p, us, l, w, ns, ys, rfl, _⟩ := h
    rfl
  · obtain ⟨r, a, p, us, l, w, ns, ys, rfl, hp, hus, hpa, hrl, hal, hw, kQ⟩ := h
    have nd := sc_sent.nd
    have e1 : (cds ".").length = 1 := by decide +kernel
    have e2 : (cds ", ").length = 2 := by decide +kernel
    obtain ⟨hly, hget⟩ := hpa.get
    have hlen := hpa.len
    have htx := hpa.txt
    have hul := hus.length
    refine ⟨_, (pss_cons (ps_setLc (i := 4) (own := [("part", 3)]) (g := gName 3) (tt := tYes) (te := tCall (spI K n) [] L2.E0 (tCons (tVar 3) (tCons (tC (.int 1)) tNil))) rfl nd rfl rfl (sw_true rfl rfl rfl (by decide +kernel)) (pi_tup (pv 2)) (blkOk_by (own := [("part", 3)]) (N := N_sent) (sc := defScope s_sent) (by decide +kernel)) (fun _ _ _ _ _ => pg_name (i := 3) nd rfl (Or.inl rfl)) (fun _ _ _ _ _ => pts_nil) (fun _ _ _ _ _ => (pe_c c_in_place hr (by omega) rfl (pa_cons (pv 3) (pa_cons (pe_gc rfl Z.c_LOOSEST) pa_nil)))))
      (pss_one (ps_ret (pe_op op_addS (pe_fs (.cons (pe_fmt (pv 0)) (.cons pe_str (.cons (pe_fmt (pv 1)) .nil)))) (pe_c c_in_brackets hr (by omega) rfl (pa_cons (pe_bm PySem.F.plainAttrs_str PySem.F.slot_str_join PySem.F.type_str_join mt_joinS pe_str (pa_cons (pv 4) pa_nil)) pa_nil)))))), ?_⟩
    rw [show L2.start N_sent [T r, T a, .ref p] = [some (T r), some (T a), some (.ref p), none, none] from rfl]
    walk_at "kd"
    refine lc_T (fun D i acc H' => acc = (ys.take i).map T ∧ Same H H' ∧ H D = none) hp (fun D H1 hD s1 h1 => ⟨rfl, s1, hD⟩) (fun D i acc H1 _ h => Same.sqT h.2.1 hp) ?_ ?_
    · rintro D i x acc H1 hx hcl hD1 ⟨rfl, s1, hD⟩
      have hi : i < us.length := (List.getElem?_eq_some_iff.mp hx).1
      obtain ⟨v, t, hv, ht, hvt⟩ := TrsAt.get hus (i := i) (by omega)
      cases hx.symm.trans hv
      obtain ⟨y, lv, w', ns', hy, hpe, hww⟩ := hget i t ht
      have htk : ys.take (i + 1) = ys.take i ++ [y] := by rw [List.take_succ, hy]; rfl
      walk_at "kd"
      refine ⟨rfl, ?_⟩
      walk_at "kd"
      refine ⟨x, t, 1, w', ns', y, rfl, hvt.same s1, .go hpe.lv.1 hpe, by omega, fun H2 s2 => ?_⟩
      refine lc_keep hcl (by omega) (s2 _ _ hD1) fun H5 h5 k5 => ⟨?_, same_of_but hD (s1.trans s2) k5, hD⟩
      rw [htk, List.map_append]; rfl
    · rintro D acc H1 hcl hD1 ⟨rfl, s1, hD⟩
      rw [List.take_of_length_le (by omega)] at hD1
      walk_at "kd"
      refine fmt_T (by omega) ?_
      refine fs_T (by show 0 + r.length ≤ _; omega) ?_
      walk_at "kd"
      refine fs_T (a := cds ".") (by rw [e1]; show r.length + 1 ≤ _; omega) ?_
      walk_at "kd"
      refine fmt_T (by omega) ?_
      refine fs_T (by rw [List.length_append, e1]; show r.length + 1 + a.length ≤ _; omega) ?_
      refine fs_end ?_
      walk_at "kd"
      refine ⟨rfl, ?_⟩
      walk_at "kd"
      refine w_joinS (s := cds ", ") (.inl (SqL.of hD1)) (by rw [e2]; omega) ?_
      walk_at "kd"
      rw [jnS_jn]
      refine ⟨_, rfl, by omega, ?_⟩
      refine w_addS (by unfold brk; simp only [List.length_append, List.nil_append, e1]; have := jn_le1 (s := cds ", ") (l := ys) (m := wt w) (by rw [e2]; omega); rw [show (cds "(").length = 1 from by decide +kernel, show (cds ")").length = 1 from by decide +kernel]; omega) ?_
      exact kQ H1 s1
abbrev s_body : Stmt := topS 51
abbrev N_body : List Str := ["body", "part"]
theorem sc_body : FnScope N_body ["body"] (defScope s_body) := ⟨rfl, rfl, rfl, by decide +kernel, rfl, by decide +kernel, by decide +kernel⟩
theorem ok_p_body {f : Addr} {fd : FuncData} (F : Fun K "_body" "_body" s_body f fd) (c_statement : Cal P w K mg base k "_statement" (spPSt K n) []) : FnOk P w K mg base CX0 (k + 1) f fd ["body"] (spPBo K n) := by
  refine F.ok sc_body (fun vs H Q E h => ?_) (fun cdv A outer s H vs Q E hr h => ?_)
  · obtain ⟨q, us, l, w, ns, ys, rfl, _⟩ := h
    rfl
  · obtain ⟨p, us, l, w, ns, ys, rfl, hp, hus, hpa, hw, kQ⟩ := h
    have nd := sc_body.nd
    have e2 : (cds "; ").length = 2 := by decide +kernel
    obtain ⟨hly, hget⟩ := hpa.get
    have hlen := hpa.len
    have hul := hus.length
    refine ⟨_, (pss_one (ps_ret (pe_bm PySem.F.plainAttrs_str PySem.F.slot_str_join PySem.F.type_str_join mt_joinS pe_str (pa_cons (pe_lc (own := [("part", 1)]) (g := gName 1) (tt := tYes) (te := tCall (spPSt K n) [] L2.E0 (tCons (tVar 1) tNil)) rfl nd (pi_tup (pv 0)) (blkOk_by (own := [("part", 1)]) (N := N_body) (sc := defScope s_body) (by decide +kernel)) (fun _ _ _ _ _ => pg_name (i := 1) nd rfl (Or.inl rfl)) (fun _ _ _ _ _ => pts_nil) (fun _ _ _ _ _ => (pe_c c_statement hr (by omega) rfl (pa_cons (pv 1) pa_nil)))) pa_nil)))), ?_⟩
    rw [show L2.start N_body [.ref p] = [some (.ref p), none] from rfl]
    walk_at "kd"
    refine ⟨rfl, ?_⟩
    walk_at "kd"
    refine lc_T (fun D i acc H' => acc = (ys.take i).map T ∧ Same H H' ∧ H D = none) hp (fun D H1 hD s1 h1 => ⟨rfl, s1, hD⟩) (fun D i acc H1 _ h => Same.sqT h.2.1 hp) ?_ ?_
    · rintro D i x acc H1 hx hcl hD1 ⟨rfl, s1, hD⟩
      have hi : i < us.length := (List.getElem?_eq_some_iff.mp hx).1
      obtain ⟨v, t, hv, ht, hvt⟩ := TrsAt.get hus (i := i) (by omega)
      cases hx.symm.trans hv
      obtain ⟨y, w', ns', hy, hpe, hww⟩ := hget i t ht
      have htk : ys.take (i + 1) = ys.take i ++ [y] := by rw [List.take_succ, hy]; rfl
      walk_at "kd"
      refine ⟨rfl, ?_⟩
      walk_at "kd"
      refine ⟨x, t, w', ns', y, rfl, hvt.same s1, hpe, by omega, fun H2 s2 => ?_⟩
      refine lc_keep hcl (by omega) (s2 _ _ hD1) fun H5 h5 k5 => ⟨?_, same_of_but hD (s1.trans s2) k5, hD⟩
      rw [htk, List.map_append]; rfl
    · rintro D acc H1 hcl hD1 ⟨rfl, s1, hD⟩
      rw [List.take_of_length_le (by omega)] at hD1
      walk_at "kd"
      refine w_joinS (s := cds "; ") (.inl (SqL.of hD1)) (by rw [e2]; omega) ?_
      exact kQ H1 s1
end
end
section
/-! The program's printing: blocks, expressions, statements. -/
open PySem PySem.Spec PyProof.Rows L2
open C8 (Cal cal0 pe_c pe_gc pss_cut tCut)
open TL (numL tl_num numL_digits numL_ne numL_val numL_len numL_lt numL_step)

local macro_rules | `(tactic| walk_at "kd") => `(tactic| repeat (first
  | walk_at "r1y"
  | with_reducible refine w_fs ?_
  | with_reducible refine w_fs1 ?_
  | with_reducible refine w_fmt ?_
  | with_reducible refine w_lcT ?_
  | with_reducible refine w_star ?_
  | with_reducible refine if_Te (by with_unfolding_all decide +kernel) ?_
  | with_reducible refine if_Tn (by with_unfolding_all decide +kernel) ?_))
section
variable {P : Program} {w : World} {K : PySem.W.Frag} {mg : Str → Option Value} {base : Heap} {k n : Nat}
abbrev s_block : Stmt := topS 50
abbrev N_block : List Str := ["params", "body", "head"]
theorem sc_block : FnScope N_block ["params", "body"] (defScope s_block) := ⟨rfl, rfl, rfl, by decide +kernel, rfl, by decide +kernel, by decide +kernel⟩
theorem ok_p_block {f : Addr} {fd : FuncData} (F : Fun K "_block" "_block" s_block f fd) (c_body : Cal P w K mg base k "_body" (spPBo K n) []) : FnOk P w K mg base CX0 (k + 1) f fd ["params", "body"] (spBk K n) := by
  refine F.ok sc_block (fun vs H Q E h => ?_) (fun cdv A outer s H vs Q E hr h => ?_)
  · obtain ⟨p, q, ps, us, l, w, ns, ys, rfl, _⟩ := h
    rfl
  · obtain ⟨p, q, ps, us, l, w, ns, ys, rfl, hps, hq, hus, hpb, hpl, hw, kQ⟩ := h
    have nd := sc_block.nd
    have e2 : (cds ", ").length = 2 := by decide +kernel
    have e3 : (cds " | ").length = 3 := by decide +kernel
    have htx := hpb.txt
    have hjn : (jn ps).length ≤ 1000 := by rw [← jnS_jn]; have := jn_le2 (cds ", ") ps; rw [e2] at this; omega
    refine ⟨_, (pss_cons (ps_set (i := 2) nd rfl (Or.inl rfl) pe_str)
      (pss_cut (ps_if (pt_tru (pv 0)) (pss_one (ps_set (i := 2) nd rfl (Or.inl rfl) (pe_op op_addS (pe_bm PySem.F.plainAttrs_str PySem.F.slot_str_join PySem.F.type_str_join mt_joinS pe_str (pa_cons (pv 0) pa_nil)) pe_str))) pss_nil)
      (pss_one (ps_ret (pe_op op_addS (pe_op op_addS (pe_op op_addS pe_str (pv 2)) (pe_c c_body hr (by omega) rfl (pa_cons (pv 1) pa_nil))) pe_str))))), ?_⟩
    rw [show L2.start N_block [.ref p, .ref q] = [some (.ref p), some (.ref q), none] from rfl]
    walk_at "kd"
    refine ⟨fun σ' H' => H' = H ∧ σ' = [some (.ref p), some (.ref q), some (T (if ps = [] then [] else jn ps ++ cds " | "))], ?_, ?_⟩
    · walk_at "kd"
      refine w_truT hps (fun hne => ?_) (fun hem => ?_)
      · walk_at "kd"
        refine ⟨rfl, ?_⟩
        walk_at "kd"
        refine w_joinS (s := cds ", ") (.inr hps) (by rw [e2]; omega) ?_
        walk_at "kd"
        rw [jnS_jn]
        refine w_addS (by show (jn ps).length + (cds " | ").length ≤ _; omega) ?_
        walk_at "kd"
        refine ⟨rfl, ?_⟩
        rw [if_neg (fun e => hne (by rw [e]; rfl))]; rfl
      · refine ⟨rfl, ?_⟩
        have : ps = [] := by cases ps with
          | nil => rfl
          | cons a l => cases hem
        rw [if_pos this]; rfl
    · rintro σ' H1 ⟨rfl, rfl⟩
      have hhd : (if ps = [] then [] else jn ps ++ cds " | ").length ≤ 1003 := by
        split
        · exact Nat.zero_le _
        · rw [List.length_append, e3]; omega
      generalize (if ps = [] then [] else jn ps ++ cds " | ") = hd at kQ hhd
      have e4 : (cds "{").length = 1 := by decide +kernel
      have e5 : (cds "}").length = 1 := by decide +kernel
      walk_at "kd"
      refine w_addS (a := cds "{") (by omega) ?_
      walk_at "kd"
      refine ⟨q, us, l, w, ns, ys, rfl, hq, hus, hpb, hw, fun H2 s2 => ?_⟩
      refine w_addS (by rw [List.length_append]; omega) ?_
      walk_at "kd"
      refine w_addS (b := cds "}") (by rw [List.length_append, List.length_append]; omega) ?_
      exact kQ H2 s2
abbrev s_print_expression : Stmt := topS 42
abbrev N_print_expression : List Str := ["tree", "kind"]
theorem sc_print_expression : FnScope N_print_expression ["tree"] (defScope s_print_expression) := ⟨rfl, rfl, rfl, by decide +kernel, rfl, by decide +kernel, by decide +kernel⟩
theorem ok_print_expression {f : Addr} {fd : FuncData} (F : Fun K "print_expression" "print_expression" s_print_expression f fd) (Z : PrTx K w mg) (hk : 1 ≤ k) (c_plain : Cal P w K mg base 1 "_plain" spPl []) (c_in_place : Cal P w K mg base k "_in_place" (spI K n) []) (c_with_sign : Cal P w K mg base k "_with_sign" (spW K n) [])
    (c_sent : Cal P w K mg base k "_sent" (spSe K n) []) (c_block : Cal P w K mg base k "_block" (spBk K n) []) : FnOk P w K mg base CX0 (k + 1) f fd ["tree"] (spE K (n + 1)) := by
  obtain ⟨aB, esB, nB, gLEVELS_BEHIND, DLEVELS_BEHIND, hB⟩ := Z.dB.ex
  obtain ⟨aA, esA, nA, gLEVELS_AHEAD, DLEVELS_AHEAD, hA⟩ := Z.dA.ex
  refine F.ok sc_print_expression (fun vs H Q E h => ?_) (fun cdv A outer s H vs Q E hr h => ?_)
  · obtain ⟨v, t, lv, w, ns, x, rfl, _⟩ := h
    rfl
  · obtain ⟨v, t, lv, w, ns, x, rfl, ht, hp, hw, kQ⟩ := h
    have nd := sc_print_expression.nd
    have kQ0 := kQ H fun _ _ h => h
    have hlen := hp.len
    refine ⟨_, (pss_cons (ps_set (i := 1) nd rfl (Or.inl rfl) (pe_ix ix_tup (pv 0) pe_int (fun _ _ => rfl)))
      (pss_cons (ps_if (pt_cmpR op_eq (pv 1) pe_str (nomark _)) (pss_one (ps_ret (pe_c c_plain hr (by omega) rfl (pa_cons (pe_ix ix_tup (pv 0) pe_int (fun _ _ => rfl)) pa_nil)))) pss_nil)
      (pss_cons (ps_if (pt_cmpR op_eq (pv 1) pe_str (nomark _)) (pss_one (ps_ret (pe_ix ix_tup (pv 0) pe_int (fun _ _ => rfl)))) pss_nil)
      (pss_cons (ps_if (pt_cmpR op_eq (pv 1) pe_str (nomark _)) (pss_one (ps_ret (pe_fs (.cons pe_str (.cons (pe_fmt (pe_ix ix_tup (pv 0) pe_int (fun _ _ => rfl))) .nil))))) pss_nil)
      (pss_cons (ps_if (pt_cmpR op_eq (pv 1) pe_str (nomark _)) (pss_one (ps_ret (pe_op op_addS pe_str (pe_c c_in_place hr (by omega) rfl (pa_cons (pe_ix ix_tup (pv 0) pe_int (fun _ _ => rfl)) (pa_cons (pe_ix (ix_dk DLEVELS_AHEAD) (pe_gc rfl gLEVELS_AHEAD) pe_str (fun _ _ => rfl)) pa_nil)))))) pss_nil)
      (pss_cons (ps_if (pt_cmpR op_eq (pv 1) pe_str (nomark _)) (pss_one (ps_ret (pe_op op_addS pe_str (pe_c c_in_place hr (by omega) rfl (pa_cons (pe_ix ix_tup (pv 0) pe_int (fun _ _ => rfl)) (pa_cons (pe_ix (ix_dk DLEVELS_AHEAD) (pe_gc rfl gLEVELS_AHEAD) pe_str (fun _ _ => rfl)) pa_nil)))))) pss_nil)
      (pss_cons (ps_if (pt_cmpR op_eq (pv 1) pe_str (nomark _)) (pss_one (ps_ret (pe_c c_with_sign hr (by omega) rfl (pa_cons (pe_ix ix_tup (pv 0) pe_int (fun _ _ => rfl)) (pa_cons (pe_ix ix_tup (pv 0) pe_int (fun _ _ => rfl)) (pa_cons (pe_ix ix_tup (pv 0) pe_int (fun _ _ => rfl)) pa_nil)))))) pss_nil)
      (pss_cons (ps_if (PW.pt (pw_or (pt_cmpR op_eq (pv 1) pe_str (nomark _)) (pw_or1 (pt_cmpR op_eq (pv 1) pe_str (nomark _))))) (pss_one (ps_ret (pe_c c_with_sign hr (by omega) rfl (pa_cons (pv 1) (pa_cons (pe_ix ix_tup (pv 0) pe_int (fun _ _ => rfl)) (pa_cons (pe_ix ix_tup (pv 0) pe_int (fun _ _ => rfl)) pa_nil)))))) pss_nil)
      (pss_cons (ps_if (pt_cmpR op_eq (pv 1) pe_str (nomark _)) (pss_one (ps_ret (pe_c c_sent hr (by omega) rfl (pa_cons (pe_c c_in_place hr (by omega) rfl (pa_cons (pe_ix ix_tup (pv 0) pe_int (fun _ _ => rfl)) (pa_cons (pe_ix (ix_dk DLEVELS_BEHIND) (pe_gc rfl gLEVELS_BEHIND) pe_str (fun _ _ => rfl)) pa_nil))) (pa_cons (pe_ix ix_tup (pv 0) pe_int (fun _ _ => rfl)) (pa_cons (pe_ix ix_tup (pv 0) pe_int (fun _ _ => rfl)) pa_nil)))))) pss_nil)
      (pss_cons (ps_if (pt_cmpR op_eq (pv 1) pe_str (nomark _)) (pss_one (ps_ret (pe_c c_sent hr (by omega) rfl (pa_cons pe_str (pa_cons (pe_ix ix_tup (pv 0) pe_int (fun _ _ => rfl)) (pa_cons (pe_ix ix_tup (pv 0) pe_int (fun _ _ => rfl)) pa_nil)))))) pss_nil)
      (pss_cons (ps_if (pt_cmpR op_eq (pv 1) pe_str (nomark _)) (pss_one (ps_ret (pe_c c_block hr (by omega) rfl (pa_cons (pe_ix ix_tup (pv 0) pe_int (fun _ _ => rfl)) (pa_cons (pe_ix ix_tup (pv 0) pe_int (fun _ _ => rfl)) pa_nil))))) pss_nil)
      (pss_one (ps_ret pe_str))))))))))))), ?_⟩
    rw [show L2.start N_print_expression [v] = [some v, none] from rfl]
    cases hp with
    | num hn =>
      obtain ⟨p, x, rfl, hq, hx⟩ := ht.e2
      cases hx.iE
      walk_at "kd"
      exact ⟨_, _, rfl, .inl ⟨_, hn, rfl, rfl⟩, kQ0⟩
    | text hb =>
      obtain ⟨p, x, rfl, hq, hx⟩ := ht.e2
      cases hx.sE
      walk_at "kd"
      exact ⟨_, _, rfl, .inr (.inl ⟨_, Nat.le_trans hb.2 (by decide), rfl, rfl⟩), kQ0⟩
    | word h =>
      obtain ⟨p, x, rfl, hq, hx⟩ := ht.e2
      walk_at "kd"
      refine ⟨_, _, rfl, .inr (.inr ?_), kQ0⟩
      rcases pl_cases h with ⟨rfl, rfl⟩ | ⟨rfl, rfl⟩ | ⟨rfl, rfl⟩
      · cases hx.nE; exact h
      · cases hx.bE; exact h
      · cases hx.bE; exact h
    | self => obtain ⟨p, rfl, hq⟩ := ht.e1; walk_at "kd"; exact kQ0
    | new hc =>
      obtain ⟨p, x, rfl, hq, hx⟩ := ht.e2
      cases hx.sE
      rename_i a
      have e4 : (cds "new ").length = 4 := by decide +kernel
      rw [List.length_append] at hlen
      simp only [wt_cons', wt_nil] at hw
      walk_at "kd"
      refine fs_T (a := cds "new ") (by show 0 + _ ≤ _; omega) ?_
      walk_at "kd"
      refine fmt_T (by omega) ?_
      refine fs_T (by show (cds "new ").length + a.length ≤ _; omega) ?_
      exact fs_end kQ0
    | name _ =>
      obtain ⟨p, x, rfl, hq, hx⟩ := ht.e2
      cases hx.sE
      walk_at "kd"
      exact kQ0
    | neg pp =>
      obtain ⟨p, x, rfl, hq, hx⟩ := ht.e2
      have hl1 := pp.len
      rw [wt_cons'] at hw
      have e4 : (cds "-").length = 1 := by decide +kernel
      walk_at "kd"
      refine dk_at hA lvA_neg ?_
      walk_at "kd"
      refine ⟨x, _, 7, _, _, _, rfl, hx, pp, by omega, fun H1 s1 => ?_⟩
      refine w_addS (a := cds "-") (by omega) ?_
      exact kQ H1 s1
    | not pp =>
      obtain ⟨p, x, rfl, hq, hx⟩ := ht.e2
      have hl1 := pp.len
      rw [wt_cons'] at hw
      have e4 : (cds "not ").length = 4 := by decide +kernel
      walk_at "kd"
      refine dk_at hA lvA_not ?_
      walk_at "kd"
      refine ⟨x, _, 3, _, _, _, rfl, hx, pp, by omega, fun H1 s1 => ?_⟩
      refine w_addS (a := cds "not ") (by omega) ?_
      exact kQ H1 s1
    | bin hl hd pa pb =>
      rename_i s t1 t2 w1 w2 n1 n2 x1 x2
      by_cases h : s = cds "and" ∨ s = cds "or"
      · rw [and_or h] at ht
        obtain ⟨p, x, y, rfl, hq, hx, hy⟩ := ht.e3
        rcases h with rfl | rfl
        · walk_at "kd"; exact ⟨cds "and", x, y, _, _, _, _, _, _, _, _, _, rfl, hl, hx, hy, pa, pb, hw, kQ⟩
        · walk_at "kd"; exact ⟨cds "or", x, y, _, _, _, _, _, _, _, _, _, rfl, hl, hx, hy, pa, pb, hw, kQ⟩
      · rw [op_or h] at ht
        obtain ⟨p, x, y, z, rfl, hq, hx, hy, hz⟩ := ht.e4
        cases hx.sE
        walk_at "kd"
        exact ⟨s, y, z, _, _, _, _, _, _, _, _, _, rfl, hl, hy, hz, pa, pb, hw, kQ⟩
    | send pp na aa =>
      obtain ⟨p, x, y, z, rfl, hq, hx, hy, hz⟩ := ht.e4
      cases hy.sE
      obtain ⟨q, us, rfl, hq2, hus⟩ := hz.tE
      have hl1 := pp.len
      have hl2 := RunOf.len na.1
      simp only [wt_append, wt_cons'] at hw
      walk_at "kd"
      refine dk_at hB lvB_dot ?_
      walk_at "kd"
      refine ⟨x, _, 8, _, _, _, rfl, hx, pp, by omega, fun H1 s1 => ?_⟩
      have hq1 := Same.sqT s1 hq
      walk_at "kd"
      refine ⟨_, _, q, us, _, _, _, _, rfl, Same.sqT s1 hq2, hus.same s1, aa, by omega, by omega, by omega, fun H2 s2 => ?_⟩
      exact kQ H2 (s1.trans s2)
    | sup na aa =>
      obtain ⟨p, y, z, rfl, hq, hy, hz⟩ := ht.e3
      cases hy.sE
      obtain ⟨q, us, rfl, hq2, hus⟩ := hz.tE
      have hl2 := RunOf.len na.1
      simp only [wt_append, wt_cons'] at hw
      walk_at "kd"
      exact ⟨cds "super", _, q, us, _, _, _, _, rfl, hq2, hus, aa, by decide +kernel, by omega, by omega, kQ⟩
    | blk0 b =>
      obtain ⟨p, y, z, rfl, hq, hy, hz⟩ := ht.e3
      obtain ⟨q1, us1, rfl, hq1, hus1⟩ := hy.tE
      obtain ⟨q, us, rfl, hq2, hus⟩ := hz.tE
      cases hus1.nE
      simp only [wt_append, wt_cons'] at hw
      walk_at "kd"
      refine ⟨q1, q, [], us, _, _, _, _, rfl, hq1, hq2, hus, b, by decide, by omega, fun H1 s1 => ?_⟩
      exact kQ H1 s1
    | blk h0 h4 hn b =>
      rename_i ps l w ns ys
      obtain ⟨p, y, z, rfl, hq, hy, hz⟩ := ht.e3
      obtain ⟨q1, us1, rfl, hq1, hus1⟩ := hy.tE
      obtain ⟨q, us, rfl, hq2, hus⟩ := hz.tE
      cases trs_names hus1
      simp only [wt_append, wt_cons'] at hw
      have hpl : tot ps + ps.length * 2 ≤ 1000 := by
        have : tot ps ≤ 20 * ps.length := by
          clear h0 h4 hq1 hlen hw hus1 hy ht kQ kQ0
          induction ps with
          | nil => exact Nat.le_refl _
          | cons a l ih =>
            have := ih fun x hx => hn x (List.mem_cons_of_mem _ hx)
            have h2 := RunOf.len (hn a List.mem_cons_self).1
            rw [tot_cons, List.length_cons]; omega
        omega
      walk_at "kd"
      refine ⟨q1, q, ps, us, _, _, _, _, rfl, hq1, hq2, hus, b, hpl, by omega, fun H1 s1 => ?_⟩
      rw [if_neg h0]
      exact kQ H1 s1
abbrev s_choice : Stmt := topS 53
abbrev N_choice : List Str := ["test", "body", "other", "words"]
theorem sc_choice : FnScope N_choice ["test", "body", "other"] (defScope s_choice) := ⟨rfl, rfl, rfl, by decide +kernel, rfl, by decide +kernel, by decide +kernel⟩
theorem ok_choice {f : Addr} {fd : FuncData} (F : Fun K "_choice" "_choice" s_choice f fd) (hk : 1 ≤ k) (c_print_expression : Cal P w K mg base k "print_expression" (spE K n) []) (c_body : Cal P w K mg base k "_body" (spPBo K n) []) (c_spaced : Cal P w K mg base 1 "_spaced" (spSpd K) []) : FnOk P w K mg base CX0 (k + 1) f fd ["test", "body", "other"] (spCh K n) := by
  refine F.ok sc_choice (fun vs H Q E h => ?_) (fun cdv A outer s H vs Q E hr h => ?_)
  · obtain ⟨v, p, q, t, lv, w, ns, x, us, us2, l, l2, w1, w2, n1, n2, ys, zs, rfl, _⟩ := h
    rfl
  · obtain ⟨v, p, q, t, lv, w, ns, x, us, us2, l, l2, w1, w2, n1, n2, ys, zs, rfl, hv, he, hp, hus, hb, hq, hus2, hb2, hw, kQ⟩ := h
    have nd := sc_choice.nd
    have l1 := he.len
    have l2' := hb.txt
    have l3 := hb2.txt
    have e1 : (cds "if").length = 2 := by decide +kernel
    have e2 : (cds "then").length = 4 := by decide +kernel
    have e3 : (cds "else").length = 4 := by decide +kernel
    have e4 : (cds "end").length = 3 := by decide +kernel
    refine ⟨_, (pss_cons (ps_set (i := 3) nd rfl (Or.inl rfl) (pe_lst (pa_cons pe_str (pa_cons (pe_c c_print_expression hr (by omega) rfl (pa_cons (pv 0) pa_nil)) (pa_cons pe_str (pa_cons (pe_c c_body hr (by omega) rfl (pa_cons (pv 1) pa_nil)) pa_nil))))))
      (pss_cut (ps_if (pt_tru (pv 2)) (pss_one (ps_expr (pe_bm PySem.F.plainAttrs_list PySem.F.slot_list_extend PySem.F.type_list_extend mt_ext (pv 3) (pa_cons (pe_lst (pa_cons pe_str (pa_cons (pe_c c_body hr (by omega) rfl (pa_cons (pv 2) pa_nil)) pa_nil))) pa_nil)))) pss_nil)
      (pss_one (ps_ret (pe_c c_spaced hr (by omega) rfl (pa_cons (pe_lst (StX.pa_star (pv 3) (pa_cons pe_str pa_nil))) pa_nil)))))), ?_⟩
    rw [show L2.start N_choice [v, .ref p, .ref q] = [some v, some (.ref p), some (.ref q), none] from rfl]
    walk_at "kd"
    refine ⟨v, t, lv, w, ns, x, rfl, hv, he, by omega, fun H1 s1 => ?_⟩
    walk_at "kd"
    refine ⟨p, us, l, w1, n1, ys, rfl, Same.sqT s1 hp, hus.same s1, hb, by omega, fun H2 s2 => ?_⟩
    walk_at "kd"
    refine w_newL (by show 4 ≤ _; decide) fun D H3 hD s3 h3 => ?_
    walk_at "kd"
    have s03 := (s1.trans s2).trans s3
    refine ⟨fun σ' H' => Same H H' ∧ σ' = [some v, some (.ref p), some (.ref q), some (.ref D)] ∧ H' D = some (.lst (([cds "if", x, cds "then", jnS (cds "; ") ys] ++ (if l2 = [] then [] else [cds "else", jnS (cds "; ") zs])).map T)), ?_, ?_⟩
    · walk_at "kd"
      refine w_truT (Same.sqT s03 hq) (fun hne => ?_) (fun hem => ?_)
      · walk_at "kd"
        refine ⟨tyL (SqL.of h3), ?_⟩
        walk_at "kd"
        refine ⟨q, us2, l2, w2, n2, zs, rfl, Same.sqT s03 hq, hus2.same s03, hb2, by omega, fun H4 s4 => ?_⟩
        walk_at "kd"
        refine w_newL (by show 2 ≤ _; decide) fun D2 H5 hD2 s5 h5 => ?_
        walk_at "kd"
        refine w_ext ((s4.trans s5) _ _ h3) h5 (by show 4 + 2 ≤ _; decide) fun H6 h6 k6 => ?_
        walk_at "kd"
        refine ⟨?_, rfl, ?_⟩
        · exact same_of_but ((s1.trans s2).free hD) (s03.trans (s4.trans s5)) k6
        · rw [h6, if_neg]
          · rfl
          · rintro rfl
            exact hne hus2.nE
      · refine ⟨s03, rfl, ?_⟩
        rw [h3, if_pos]
        · rfl
        · cases l2 with
          | nil => rfl
          | cons a l =>
            obtain ⟨x, r, e, _⟩ := hus2.cE
            rw [hem] at e; cases e
    · rintro σ' H4 ⟨s4, rfl, h4⟩
      walk_at "kd"
      refine star_L (SqL.of h4) ?_
      walk_at "kd"
      refine w_newL (by rw [List.length_append, List.length_map]; split <;> (show _ ≤ 1000000; simp)) fun D3 H5 hD3 s5 h5 => ?_
      walk_at "kd"
      refine ⟨D3, [cds "if", x, cds "then", jnS (cds "; ") ys] ++ (if l2 = [] then [] else [cds "else", jnS (cds "; ") zs]) ++ [cds "end"], rfl, SqL.of (by rw [h5, List.map_append, List.map_append]; rfl), ?_, fun H6 s6 => kQ H6 ((s4.trans s5).trans s6)⟩
      split
      · show tot [cds "if", x, cds "then", jnS (cds "; ") ys, cds "end"] + 5 ≤ _
        simp only [tot_cons, tot_nil]; omega
      · show tot [cds "if", x, cds "then", jnS (cds "; ") ys, cds "else", jnS (cds "; ") zs, cds "end"] + 7 ≤ _
        simp only [tot_cons, tot_nil]; omega
end
end
section
/-! The program's printing: statements, every depth, methods. -/
open PySem PySem.Spec PyProof.Rows L2
open C8 (Cal cal0 pe_c pe_gc pss_cut tCut)
open TL (numL tl_num numL_digits numL_ne numL_val numL_len numL_lt numL_step)

local macro_rules | `(tactic| walk_at "kd") => `(tactic| repeat (first
  | walk_at "r1y"
  | with_reducible refine w_fs ?_
  | with_reducible refine w_fs1 ?_
  | with_reducible refine w_fmt ?_
  | with_reducible refine w_lcT ?_
  | with_reducible refine w_star ?_
  | with_reducible refine if_Te (by with_unfolding_all decide +kernel) ?_
  | with_reducible refine if_Tn (by with_unfolding_all decide +kernel) ?_))
structure DfC (K : PySem.W.Frag) (mg : Str → Option Value) (x : Str) (st : Stmt) (ps : List Str) : Prop where
  ex : ∃ (f : Addr) (fd : FuncData), Fun K x x st f fd ∧ mg x = some (.ref f) ∧ PySem.W.keepIn K (.ref f) = true ∧ Binds K fd ps []
theorem DfC.cal {P : Program} {w : World} {K : PySem.W.Frag} {mg : Str → Option Value} {base : Heap} {x : Str} {st : Stmt} {ps : List Str} {k : Nat} {sp : Sp} (c : DfC K mg x st ps) (h : ∀ f fd, Fun K x x st f fd → FnOk P w K mg base CX0 k f fd ps sp) : Cal P w K mg base k x sp [] := by
  obtain ⟨f, fd, F, m, kp, b⟩ := c.ex
  exact ⟨f, fd, ps, [], h f fd F, m, kp, b, .nil⟩
theorem cal_up {P : Program} {w : World} {K : PySem.W.Frag} {mg : Str → Option Value} {base : Heap} {x : Str} {k j : Nat} {sp : Sp} {dvs : List V} (c : Cal P w K mg base k x sp dvs) (h : k ≤ j) : Cal P w K mg base j x sp dvs := by
  obtain ⟨f, fd, ps, ds, F, m, kp, b, d⟩ := c.ex
  exact ⟨f, fd, ps, ds, F.mono h, m, kp, b, d⟩
section
variable {P : Program} {w : World} {K : PySem.W.Frag} {mg : Str → Option Value} {base : Heap} {k n : Nat}
abbrev s_statement : Stmt := topS 52
abbrev N_statement : List Str := ["tree", "kind"]
theorem sc_statement : FnScope N_statement ["tree"] (defScope s_statement) := ⟨rfl, rfl, rfl, by decide +kernel, rfl, by decide +kernel, by decide +kernel⟩
theorem ok_statement0 {f : Addr} {fd : FuncData} (F : Fun K "_statement" "_statement" s_statement f fd) : FnOk P w K mg base CX0 1 f fd ["tree"] (spPSt K 0) := by
  refine F.ok sc_statement (fun vs H Q E h => ?_) (fun cdv A outer s H vs Q E hr h => ?_)
  · obtain ⟨v, t, w, ns, x, rfl, _⟩ := h
    rfl
  · obtain ⟨v, t, w, ns, x, rfl, ht, hp, hw, kQ⟩ := h
    cases hp
theorem ok_p_statement {f : Addr} {fd : FuncData} (F : Fun K "_statement" "_statement" s_statement f fd) (hk : 1 ≤ k) (c_print_expression : Cal P w K mg base k "print_expression" (spE K n) []) (c_body : Cal P w K mg base k "_body" (spPBo K n) []) (c_spaced : Cal P w K mg base 1 "_spaced" (spSpd K) []) (c_choice : Cal P w K mg base k "_choice" (spCh K n) []) : FnOk P w K mg base CX0 (k + 1) f fd ["tree"] (spPSt K (n + 1)) := by
  refine F.ok sc_statement (fun vs H Q E h => ?_) (fun cdv A outer s H vs Q E hr h => ?_)
  · obtain ⟨v, t, w, ns, x, rfl, _⟩ := h
    rfl
  · obtain ⟨v, t, w, ns, x, rfl, ht, hp, hw, kQ⟩ := h
    have nd := sc_statement.nd
    have hlen := hp.len
    have e1 : (cds "while").length = 5 := by decide +kernel
    have e2 : (cds "do").length = 2 := by decide +kernel
    have e3 : (cds "try").length = 3 := by decide +kernel
    have e4 : (cds "catch").length = 5 := by decide +kernel
    have e5 : (cds "then").length = 4 := by decide +kernel
    have e6 : (cds "end").length = 3 := by decide +kernel
    have e7 : (cds "keep").length = 4 := by decide +kernel
    have e8 : (cds "always").length = 6 := by decide +kernel
    have e9 : (cds " := ").length = 4 := by decide +kernel
    have e10 : (cds " ").length = 1 := by decide +kernel
    refine ⟨_, (pss_cons (ps_set (i := 1) nd rfl (Or.inl rfl) (pe_ix ix_tup (pv 0) pe_int (fun _ _ => rfl)))
      (pss_cons (ps_if (pt_cmpR op_eq (pv 1) pe_str (nomark _)) (pss_one (ps_ret (pe_fs (.cons (pe_fmt (pe_ix ix_tup (pv 0) pe_int (fun _ _ => rfl))) (.cons pe_str (.cons (pe_fmt (pe_c c_print_expression hr (by omega) rfl (pa_cons (pe_ix ix_tup (pv 0) pe_int (fun _ _ => rfl)) pa_nil))) .nil)))))) pss_nil)
      (pss_cons (ps_if (PW.pt (pw_or (pt_cmpR op_eq (pv 1) pe_str (nomark _)) (pw_or1 (pt_cmpR op_eq (pv 1) pe_str (nomark _))))) (pss_one (ps_ret (pe_fs (.cons (pe_fmt (pv 1)) (.cons pe_str (.cons (pe_fmt (pe_c c_print_expression hr (by omega) rfl (pa_cons (pe_ix ix_tup (pv 0) pe_int (fun _ _ => rfl)) pa_nil))) .nil)))))) pss_nil)
      (pss_cons (ps_if (pt_cmpR op_eq (pv 1) pe_str (nomark _)) (pss_one (ps_ret (pe_c c_spaced hr (by omega) rfl (pa_cons (pe_lst (pa_cons pe_str (pa_cons (pe_c c_print_expression hr (by omega) rfl (pa_cons (pe_ix ix_tup (pv 0) pe_int (fun _ _ => rfl)) pa_nil)) (pa_cons pe_str (pa_cons (pe_c c_body hr (by omega) rfl (pa_cons (pe_ix ix_tup (pv 0) pe_int (fun _ _ => rfl)) pa_nil)) (pa_cons pe_str pa_nil)))))) pa_nil)))) pss_nil)
      (pss_cons (ps_if (pt_cmpR op_eq (pv 1) pe_str (nomark _)) (pss_one (ps_ret (pe_c c_choice hr (by omega) rfl (pa_cons (pe_ix ix_tup (pv 0) pe_int (fun _ _ => rfl)) (pa_cons (pe_ix ix_tup (pv 0) pe_int (fun _ _ => rfl)) (pa_cons (pe_ix ix_tup (pv 0) pe_int (fun _ _ => rfl)) pa_nil)))))) pss_nil)
      (pss_cons (ps_if (pt_cmpR op_eq (pv 1) pe_str (nomark _)) (pss_one (ps_ret (pe_c c_spaced hr (by omega) rfl (pa_cons (pe_lst (pa_cons pe_str (pa_cons (pe_c c_body hr (by omega) rfl (pa_cons (pe_ix ix_tup (pv 0) pe_int (fun _ _ => rfl)) pa_nil)) (pa_cons pe_str (pa_cons (pe_ix ix_tup (pv 0) pe_int (fun _ _ => rfl)) (pa_cons pe_str (pa_cons (pe_c c_body hr (by omega) rfl (pa_cons (pe_ix ix_tup (pv 0) pe_int (fun _ _ => rfl)) pa_nil)) (pa_cons pe_str pa_nil)))))))) pa_nil)))) pss_nil)
      (pss_cons (ps_if (pt_cmpR op_eq (pv 1) pe_str (nomark _)) (pss_one (ps_ret (pe_c c_spaced hr (by omega) rfl (pa_cons (pe_lst (pa_cons pe_str (pa_cons (pe_c c_body hr (by omega) rfl (pa_cons (pe_ix ix_tup (pv 0) pe_int (fun _ _ => rfl)) pa_nil)) (pa_cons pe_str (pa_cons (pe_c c_body hr (by omega) rfl (pa_cons (pe_ix ix_tup (pv 0) pe_int (fun _ _ => rfl)) pa_nil)) (pa_cons pe_str pa_nil)))))) pa_nil)))) pss_nil)
      (pss_one (ps_ret (pe_c c_print_expression hr (by omega) rfl (pa_cons (pe_ix ix_tup (pv 0) pe_int (fun _ _ => rfl)) pa_nil))))))))))), ?_⟩
    rw [show L2.start N_statement [v] = [some v, none] from rfl]
    cases hp with
    | eval pe =>
      obtain ⟨p, x, rfl, hq, hx⟩ := ht.e2
      walk_at "kd"
      exact ⟨x, _, _, _, _, _, rfl, hx, pe, hw, kQ⟩
    | set na pe =>
      rename_i x a
      obtain ⟨p, y, z, rfl, hq, hy, hz⟩ := ht.e3
      cases hy.sE
      have hl2 := RunOf.len na.1
      have hl3 := pe.len
      simp only [wt_append, wt_cons'] at hw
      walk_at "kd"
      refine fmt_T (by omega) ?_
      refine fs_T (by show 0 + _ ≤ _; omega) ?_
      walk_at "kd"
      refine fs_T (a := cds " := ") (by show a.length + _ ≤ _; omega) ?_
      walk_at "kd"
      refine ⟨z, _, _, _, _, _, rfl, hz, pe, by omega, fun H1 s1 => ?_⟩
      refine fmt_T (by omega) ?_
      refine fs_T (by rw [List.length_append]; show a.length + _ + x.length ≤ _; omega) ?_
      exact fs_end (kQ H1 s1)
    | gf hg pe =>
      rename_i x g
      obtain ⟨p, z, rfl, hq, hz⟩ := ht.e2
      have hl3 := pe.len
      simp only [wt_append, wt_cons'] at hw
      rcases hg with rfl | rfl
      · walk_at "kd"
        refine fmt_T (a := cds "give") (by decide +kernel) ?_
        refine fs_T (a := cds "give") (by decide +kernel) ?_
        walk_at "kd"
        refine fs_T (a := cds " ") (by decide +kernel) ?_
        walk_at "kd"
        refine ⟨z, _, _, _, _, _, rfl, hz, pe, by omega, fun H1 s1 => ?_⟩
        refine fmt_T (by omega) ?_
        refine fs_T (by show 5 + x.length ≤ _; omega) ?_
        exact fs_end (kQ H1 s1)
      · walk_at "kd"
        refine fmt_T (a := cds "fail") (by decide +kernel) ?_
        refine fs_T (a := cds "fail") (by decide +kernel) ?_
        walk_at "kd"
        refine fs_T (a := cds " ") (by decide +kernel) ?_
        walk_at "kd"
        refine ⟨z, _, _, _, _, _, rfl, hz, pe, by omega, fun H1 s1 => ?_⟩
        refine fmt_T (by omega) ?_
        refine fs_T (by show 5 + x.length ≤ _; omega) ?_
        exact fs_end (kQ H1 s1)
    | whl pe pb =>
      rename_i x l w2 n2 ys
      obtain ⟨p, y, z, rfl, hq, hy, hz⟩ := ht.e3
      obtain ⟨q, us, rfl, hq2, hus⟩ := hz.tE
      have hl3 := pe.len
      have hl4 := pb.txt
      simp only [wt_append, wt_cons', wt_nil] at hw
      walk_at "kd"
      refine ⟨y, _, _, _, _, x, rfl, hy, pe, by omega, fun H1 s1 => ?_⟩
      have hq1 := Same.sqT s1 hq
      walk_at "kd"
      refine ⟨q, us, _, _, _, ys, rfl, Same.sqT s1 hq2, hus.same s1, pb, by omega, fun H2 s2 => ?_⟩
      walk_at "kd"
      refine w_newL (by show 5 ≤ _; decide) fun D H3 hD s3 h3 => ?_
      walk_at "kd"
      refine ⟨D, [cds "while", x, cds "do", jnS (cds "; ") ys, cds "end"], rfl, SqL.of h3, by simp only [tot_cons, tot_nil, List.length_cons, List.length_nil]; omega, fun H4 s4 => ?_⟩
      exact kQ H4 (((s1.trans s2).trans s3).trans s4)
    | if0 pe pb =>
      rename_i x l w2 n2 ys
      obtain ⟨p, y, z, u, rfl, hq, hy, hz, hu⟩ := ht.e4
      obtain ⟨q, us, rfl, hq2, hus⟩ := hz.tE
      obtain ⟨q2, us2, rfl, hq3, hus2⟩ := hu.tE
      have e0 := hus2.nE
      simp only [wt_append, wt_cons', wt_nil] at hw
      walk_at "kd"
      refine ⟨y, q, q2, _, _, _, _, x, us, us2, l, [], w2, [], n2, [], ys, [], rfl, hy, pe, hq2, hus, pb, hq3, hus2, .nil, by simp only [wt_nil]; omega, fun H1 s1 => ?_⟩
      exact kQ H1 s1
    | if1 pe pb h3 pc =>
      rename_i x l w2 n2 ys l3 w3 n3 zs
      obtain ⟨p, y, z, u, rfl, hq, hy, hz, hu⟩ := ht.e4
      obtain ⟨q, us, rfl, hq2, hus⟩ := hz.tE
      obtain ⟨q2, us2, rfl, hq3, hus2⟩ := hu.tE
      simp only [wt_append, wt_cons', wt_nil] at hw
      walk_at "kd"
      refine ⟨y, q, q2, _, _, _, _, x, us, us2, l, l3, w2, w3, n2, n3, ys, zs, rfl, hy, pe, hq2, hus, pb, hq3, hus2, pc, by omega, fun H1 s1 => ?_⟩
      rw [if_neg h3]
      exact kQ H1 s1
    | try_ pb na pc =>
      rename_i l w ns ys a l2 w2 n2 zs
      obtain ⟨p, y, z, u, rfl, hq, hy, hz, hu⟩ := ht.e4
      obtain ⟨q, us, rfl, hq2, hus⟩ := hy.tE
      cases hz.sE
      obtain ⟨q2, us2, rfl, hq3, hus2⟩ := hu.tE
      have hl2 := RunOf.len na.1
      have hl3 := pb.txt
      have hl4 := pc.txt
      simp only [wt_append, wt_cons', wt_nil] at hw
      walk_at "kd"
      refine ⟨q, us, _, _, _, ys, rfl, hq2, hus, pb, by omega, fun H1 s1 => ?_⟩
      have hq1 := Same.sqT s1 hq
      walk_at "kd"
      refine ⟨q2, us2, _, _, _, zs, rfl, Same.sqT s1 hq3, hus2.same s1, pc, by omega, fun H2 s2 => ?_⟩
      walk_at "kd"
      refine w_newL (by show 7 ≤ _; decide) fun D H3 hD s3 h3 => ?_
      walk_at "kd"
      refine ⟨D, [cds "try", jnS (cds "; ") ys, cds "catch", a, cds "then", jnS (cds "; ") zs, cds "end"], rfl, SqL.of h3, by simp only [tot_cons, tot_nil, List.length_cons, List.length_nil]; omega, fun H4 s4 => ?_⟩
      exact kQ H4 (((s1.trans s2).trans s3).trans s4)
    | keep pb pc =>
      rename_i l w ns ys l2 w2 n2 zs
      obtain ⟨p, y, u, rfl, hq, hy, hu⟩ := ht.e3
      obtain ⟨q, us, rfl, hq2, hus⟩ := hy.tE
      obtain ⟨q2, us2, rfl, hq3, hus2⟩ := hu.tE
      have hl3 := pb.txt
      have hl4 := pc.txt
      simp only [wt_append, wt_cons', wt_nil] at hw
      walk_at "kd"
      refine ⟨q, us, _, _, _, ys, rfl, hq2, hus, pb, by omega, fun H1 s1 => ?_⟩
      have hq1 := Same.sqT s1 hq
      walk_at "kd"
      refine ⟨q2, us2, _, _, _, zs, rfl, Same.sqT s1 hq3, hus2.same s1, pc, by omega, fun H2 s2 => ?_⟩
      walk_at "kd"
      refine w_newL (by show 5 ≤ _; decide) fun D H3 hD s3 h3 => ?_
      walk_at "kd"
      refine ⟨D, [cds "keep", jnS (cds "; ") ys, cds "always", jnS (cds "; ") zs, cds "end"], rfl, SqL.of h3, by simp only [tot_cons, tot_nil, List.length_cons, List.length_nil]; omega, fun H4 s4 => ?_⟩
      exact kQ H4 (((s1.trans s2).trans s3).trans s4)
theorem ok_print_expression0 {f : Addr} {fd : FuncData} (F : Fun K "print_expression" "print_expression" s_print_expression f fd) : FnOk P w K mg base CX0 1 f fd ["tree"] (spE K 0) := by
  refine F.ok sc_print_expression (fun vs H Q E h => ?_) (fun cdv A outer s H vs Q E hr h => ?_)
  · obtain ⟨v, t, lv, w, ns, x, rfl, _⟩ := h
    rfl
  · obtain ⟨v, t, lv, w, ns, x, rfl, ht, hp, hw, kQ⟩ := h
    cases hp
structure PrC (P : Program) (w : World) (K : PySem.W.Frag) (mg : Str → Option Value) (base : Heap) : Prop where
  Z : PrTx K w mg
  brackets : Cal P w K mg base 1 "_in_brackets" spIB []
  spaced : Cal P w K mg base 1 "_spaced" (spSpd K) []
  plain : Cal P w K mg base 1 "_plain" spPl []
  level : Cal P w K mg base 1 "_level" (spLv K) []
  d_expression : DfC K mg "print_expression" s_print_expression ["tree"]
  d_in_place : DfC K mg "_in_place" s_in_place ["tree", "place"]
  d_with_sign : DfC K mg "_with_sign" s_with_sign ["sign", "left", "right"]
  d_sent : DfC K mg "_sent" s_sent ["receiver", "name", "args"]
  d_block : DfC K mg "_block" s_block ["params", "body"]
  d_body : DfC K mg "_body" s_body ["body"]
  d_choice : DfC K mg "_choice" s_choice ["test", "body", "other"]
  d_statement : DfC K mg "_statement" s_statement ["tree"]
theorem PrC.all (C : PrC P w K mg base) : ∀ n, Cal P w K mg base (5 * n + 2) "print_expression" (spE K n) [] ∧ Cal P w K mg base (5 * n + 2) "_statement" (spPSt K n) []
  | 0 => ⟨cal_up (C.d_expression.cal fun f fd F => ok_print_expression0 F) (by decide), cal_up (C.d_statement.cal fun f fd F => ok_statement0 F) (by decide)⟩
  | n + 1 => by
    obtain ⟨e, s⟩ := C.all n
    generalize hk : 5 * n + 2 = k at e s
    have ip : Cal P w K mg base (k + 1) "_in_place" (spI K n) [] := C.d_in_place.cal fun f fd F => ok_in_place F (by omega) e C.level C.brackets
    have bo : Cal P w K mg base (k + 1) "_body" (spPBo K n) [] := C.d_body.cal fun f fd F => ok_p_body F s
    have ws : Cal P w K mg base (k + 2) "_with_sign" (spW K n) [] := C.d_with_sign.cal fun f fd F => ok_with_sign F C.Z ip
    have se : Cal P w K mg base (k + 2) "_sent" (spSe K n) [] := C.d_sent.cal fun f fd F => ok_sent F C.Z (by omega) ip C.brackets
    have bl : Cal P w K mg base (k + 2) "_block" (spBk K n) [] := C.d_block.cal fun f fd F => ok_p_block F bo
    have ch : Cal P w K mg base (k + 2) "_choice" (spCh K n) [] := C.d_choice.cal fun f fd F => ok_choice (k := k + 1) F (by omega) (cal_up e (by omega)) bo C.spaced
    have ex : Cal P w K mg base (k + 3) "print_expression" (spE K (n + 1)) [] := C.d_expression.cal fun f fd F => ok_print_expression (k := k + 2) F C.Z (by omega) C.plain (cal_up ip (by omega)) ws se bl
    have st : Cal P w K mg base (k + 3) "_statement" (spPSt K (n + 1)) [] := C.d_statement.cal fun f fd F => ok_p_statement (k := k + 2) F (by omega) (cal_up e (by omega)) (cal_up bo (by omega)) C.spaced ch
    exact ⟨cal_up ex (by omega), cal_up st (by omega)⟩
theorem PrC.body (C : PrC P w K mg base) (n : Nat) : Cal P w K mg base (5 * n + 3) "_body" (spPBo K n) [] := C.d_body.cal fun f fd F => ok_p_body F (C.all n).2
end
end
section
/-! The places of pairs of brackets. -/
open PySem PySem.Spec PyProof.Rows L2
open C8 (Cal cal0 pe_c pe_gc pss_cut tCut)

def rPopL : V → List V → Hp → VK → Prop := fun x vs H Q => ∃ l xs y, x = .ref l ∧ vs = [] ∧ H l = some (.lst xs) ∧ xs[xs.length - 1]? = some y ∧ Q y (upd H l (.lst xs.dropLast))
theorem mt_popL {X : Cx} : MtR X "list.pop" rPopL := mt_pop
theorem w_pop {p : Addr} {xs : List V} {y : V} {H : Hp} {Q : VK} (h : H p = some (.lst (xs ++ [y]))) (k : ∀ H1, H1 p = some (.lst xs) → (∀ b o, b ≠ p → H b = some o → H1 b = some o) → Q y H1) : rPopL (.ref p) [] H Q := by
  refine ⟨p, xs ++ [y], y, rfl, rfl, h, by simp, k _ ?_ fun b o n e => by rw [upd_ne n]; exact e⟩
  rw [List.dropLast_concat]; exact upd_same
def UnQ (x : List Nat) (s c : Nat) : Prop := x[s]? = some c ∧ qc (x.take s) % 2 = 0
def WtV (x : List Nat) (i : Nat) (H : Hp) (v : V) : Prop := ∃ (q : Addr) (s : Nat) (b : Bool), v = .ref q ∧ H q = some (.tup [.int (s : Int), .bl b]) ∧ UnQ x s 40 ∧ s < i
def PrV (x : List Nat) (H : Hp) (v : V) : Prop := ∃ (q : Addr) (s e : Nat), v = .ref q ∧ H q = some (.tup [.int (s : Int), .int (e : Int)]) ∧ UnQ x s 40 ∧ UnQ x e 41 ∧ s < e
theorem WtV.keep {x : List Nat} {i j : Nat} {H H1 : Hp} {v : V} {D : Addr} {xs : List V} (h : WtV x i H v) (hD : H D = some (.lst xs)) (k : ∀ b o, b ≠ D → H b = some o → H1 b = some o) (l : i ≤ j) : WtV x j H1 v := by
  obtain ⟨q, s, b, e, hq, u, si⟩ := h
  exact ⟨q, s, b, e, k _ _ (fun z => by rw [z, hD] at hq; cases hq) hq, u, by omega⟩
theorem PrV.keep {x : List Nat} {H H1 : Hp} {v : V} {D : Addr} {xs : List V} (h : PrV x H v) (hD : H D = some (.lst xs)) (k : ∀ b o, b ≠ D → H b = some o → H1 b = some o) : PrV x H1 v := by
  obtain ⟨q, s, b, e, hq, u⟩ := h
  exact ⟨q, s, b, e, k _ _ (fun z => by rw [z, hD] at hq; cases hq) hq, u⟩
theorem WtV.same {x : List Nat} {i : Nat} {H H1 : Hp} {v : V} (h : WtV x i H v) (k : Same H H1) : WtV x i H1 v := by
  obtain ⟨q, s, b, e, hq, u, si⟩ := h
  exact ⟨q, s, b, e, k _ _ hq, u, si⟩
theorem PrV.same {x : List Nat} {H H1 : Hp} {v : V} (h : PrV x H v) (k : Same H H1) : PrV x H1 v := by
  obtain ⟨q, s, b, e, hq, u⟩ := h
  exact ⟨q, s, b, e, k _ _ hq, u⟩
def PsAt (H0 : Hp) (x : List Nat) (i : Nat) (Dp Dw : Addr) (H : Hp) : Prop := ∃ (pl wl : List V), H Dp = some (.lst pl) ∧ H Dw = some (.lst wl) ∧ (∀ v ∈ pl, PrV x H v) ∧ (∀ v ∈ wl, WtV x i H v) ∧ Same H0 H ∧ pl.length + wl.length ≤ i
def qdV (x : List Nat) (i : Nat) : Bool := decide (qc (x.take i) % 2 = 1)
theorem qd_step {x : List Nat} {i c : Nat} (h : x[i]? = some c) : qdV x (i + 1) = if c = 39 then !(qdV x i) else qdV x i := by
  have e : x.take (i + 1) = x.take i ++ [c] := by rw [List.take_succ, h]; rfl
  unfold qdV
  rw [e, qc_append]
  have e2 : qc [c] = if c = 39 then 1 else 0 := by show (if c = 39 then 1 else 0) + 0 = _; omega
  rw [e2]
  by_cases c1 : c = 39
  · rw [if_pos c1, if_pos c1]
    by_cases p : qc (x.take i) % 2 = 1
    · rw [decide_eq_true p, decide_eq_false (by omega)]; rfl
    · rw [decide_eq_false p, decide_eq_true (by omega)]; rfl
  · rw [if_neg c1, if_neg c1]; rfl
section
variable {P : Program} {w : World} {K : PySem.W.Frag} {mg : Str → Option Value} {base : Heap}
abbrev s_law_pairs : Stmt := topS 76
abbrev N_law_pairs : List Str := ["text", "joint", "pairs", "waiting", "quoted", "k", "char", "start", "call"]
theorem sc_law_pairs : FnScope N_law_pairs ["text"] (defScope s_law_pairs) := ⟨rfl, rfl, rfl, by decide +kernel, rfl, by decide +kernel, by decide +kernel⟩
def spPairs : Sp := fun vs H Q _ => ∃ x : List Nat, vs = [T x] ∧ x.length ≤ 100000 ∧ ∀ (D : Addr) (pl : List V) H', H' D = some (.lst pl) → (∀ v ∈ pl, PrV x H' v) → Same H H' → Q (.ref D) H'
theorem ok_law_pairs {f : Addr} {fd : FuncData} (F : Fun K "_law_pairs" "_law_pairs" s_law_pairs f fd) (Y : Bn mg) : FnOk P w K mg base CX0 1 f fd ["text"] spPairs := by
  refine F.ok sc_law_pairs (fun vs H Q E h => ?_) (fun cdv A outer s H vs Q E hr h => ?_)
  · obtain ⟨x, rfl, _⟩ := h
    rfl
  · obtain ⟨x, rfl, hxl, kQ⟩ := h
    have nd := sc_law_pairs.nd
    refine ⟨_, (pss_cons (ps_set (i := 1) nd rfl (Or.inl rfl) pe_str)
      (pss_cons (ps_set (i := 2) nd rfl (Or.inl rfl) (pe_lst pa_nil))
      (pss_cons (ps_set (i := 3) nd rfl (Or.inl rfl) (pe_lst pa_nil))
      (pss_cons (ps_set (i := 4) nd rfl (Or.inl rfl) pe_bl)
      (pss_cons (ps_for PassesOwn.never rfl (pi_range1 rfl Y.n_range (pa_cons (pe_callB call_lenS (by rfl) Y.n_len (by decide +kernel) (pa_cons (pv 0) pa_nil)) pa_nil)) (pg_name (i := 5) nd rfl (Or.inl rfl)) (pss_cons (ps_set (i := 6) nd rfl (Or.inl rfl) (pe_ix ix_str (pv 0) (pv 5) (fun _ _ => rfl)))
      (pss_cut (ps_if (pt_cmpR op_eq (pv 6) pe_str (nomark _)) (pss_one (ps_set (i := 4) nd rfl (Or.inl rfl) (pe_not (pv 4)))) pss_nil)
      (pss_cut (ps_if (PW.pt (pw_and (pt_cmpR op_eq (pv 6) pe_str (nomark _)) (pw_and1 (pt_not (pt_val (pv 4)))))) (pss_one (ps_expr (pe_bm PySem.F.plainAttrs_list PySem.F.slot_list_append PySem.F.type_list_append mt_append (pv 3) (pa_cons (pe_tup (pa_cons (pv 5) (pa_cons (pe_and (pe_cmpR op_gt (pv 5) pe_int (nomark _)) (pe_one (pe_cmpR op_inC (pe_ix ix_str (pv 0) (pe_op op_sub (pv 5) pe_int) (fun _ _ => rfl)) (pv 1) (by rfl)))) pa_nil))) pa_nil)))) pss_nil)
      (pss_one (ps_if (PW.pt (pw_and (pt_cmpR op_eq (pv 6) pe_str (nomark _)) (pw_and (pt_not (pt_val (pv 4))) (pw_and1 (pt_tru (pv 3)))))) (pss_cons (ps_asg (pe_bm0 PySem.F.plainAttrs_list PySem.F.slot_list_pop PySem.F.type_list_pop mt_popL (pv 3)) (pg_tup (by rfl) (pgs_cons (pg_name (i := 7) nd rfl (Or.inl rfl)) (pgs_cons (pg_name (i := 8) nd rfl (Or.inl rfl)) pgs_nil))))
      (pss_one (ps_if (pt_not (pt_val (pv 8))) (pss_one (ps_expr (pe_bm PySem.F.plainAttrs_list PySem.F.slot_list_append PySem.F.type_list_append mt_append (pv 2) (pa_cons (pe_tup (pa_cons (pv 7) (pa_cons (pv 5) pa_nil))) pa_nil)))) pss_nil))) pss_nil))))))
      (pss_one (ps_ret (pv 2)))))))), ?_⟩
    rw [show L2.start N_law_pairs [T x] = [some (T x), none, none, none, none, none, none, none, none] from rfl]
    walk_at "rdy"
    refine w_newL (by show 0 ≤ 1000000; decide) fun Dp H1 hDp s1 h1 => ?_
    walk_at "rdy"
    refine w_newL (by show 0 ≤ 1000000; decide) fun Dw H2 hDw s2 h2 => ?_
    walk_at "rdy"
    refine w_lenS (by omega) ?_
    have h12 := s2 _ _ h1
    have ndw : Dw ≠ Dp := fun e => by rw [e, h1] at hDw; cases hDw
    have q39 : (Str.ofString "'").cps.toList = [39] := by decide +kernel
    have q40 : (Str.ofString "(").cps.toList = [40] := by decide +kernel
    have q41 : (Str.ofString ")").cps.toList = [41] := by decide +kernel
    refine for_R (fun i σ' H' => ∃ (x5 x6 x7 x8 : Option V), σ' = [some (T x), some (T aJ), some (.ref Dp), some (.ref Dw), some (.bl (qdV x i)), x5, x6, x7, x8] ∧ PsAt H x i Dp Dw H') (by omega) (by omega)
      ⟨none, none, none, none, rfl, [], [], h12, h2, (fun v hv => absurd hv List.not_mem_nil), (fun v hv => absurd hv List.not_mem_nil), s1.trans s2, Nat.le_refl _⟩ ?_ ?_
    · rintro i σ' H3 hi ⟨x5, x6, x7, x8, rfl, hP⟩
      have hil : i < x.length := by omega
      obtain ⟨c, hc⟩ : ∃ c, x[i]? = some c := ⟨_, List.getElem?_eq_getElem hil⟩
      have i0 : (0 : Int) + (i : Int) = (i : Int) := Int.zero_add _
      rw [i0]
      have hqd := qd_step hc
      walk_at "rdy"
      refine w_ixS (by omega) (atI_nat hc) ?_
      walk_at "rdy"
      refine ⟨fun σ' H' => H' = H3 ∧ σ' = [some (T x), some (T aJ), some (.ref Dp), some (.ref Dw), some (.bl (qdV x (i + 1))), some (.int (i : Int)), some (T [c]), x7, x8], ?_, ?_⟩
      · walk_at "rdy"
        rw [q39]
        refine w_ifT (fun h => ?_) (fun h => ?_)
        · have h' : c = 39 := (List.cons.inj h).1
          rw [if_pos h'] at hqd
          walk_at "rdy"
          exact ⟨rfl, by rw [hqd]; rfl⟩
        · have h' : c ≠ 39 := fun z => h (by rw [z])
          rw [if_neg h'] at hqd
          exact ⟨rfl, by rw [hqd]; rfl⟩
      · rintro σ' H4 ⟨rfl, rfl⟩
        walk_at "rdy"
        have hun : ∀ k, c = k → k ≠ 39 → qdV x (i + 1) = false → UnQ x i k := by
          rintro k rfl hk hq
          rw [if_neg hk] at hqd
          rw [hqd] at hq
          have := of_decide_eq_false hq
          exact ⟨hc, by omega⟩
        refine ⟨fun σ' H' => σ' = [some (T x), some (T aJ), some (.ref Dp), some (.ref Dw), some (.bl (qdV x (i + 1))), some (.int (i : Int)), some (T [c]), x7, x8] ∧ PsAt H x (i + 1) Dp Dw H', ?_, ?_⟩
        · obtain ⟨pl, wl, g1, g2, g3, g4, g5, g6⟩ := hP
          have old : PsAt H x (i + 1) Dp Dw H4 := ⟨pl, wl, g1, g2, g3, fun v hv => (g4 v hv).keep g2 (fun _ _ _ h => h) (Nat.le_succ _), g5, by omega⟩
          walk_at "rdy"
          rw [q40]
          refine w_ifT (fun h => ?_) (fun h => ?_)
          · have h' : c = 40 := (List.cons.inj h).1
            walk_at "rdy"
            refine w_ifb (fun hq => ?_) (fun hq => ?_)
            · have hq' : qdV x (i + 1) = false := by simpa using hq
              walk_at "rdy"
              refine ⟨tyL (SqL.of g2), ?_⟩
              walk_at "rdy"
              have fin2 : ∀ (b : Bool) (q : Addr) (H5 H6 : Hp), H4 q = none → Same H4 H5 → H5 q = some (.tup [.int (i : Int), .bl b]) → H6 Dw = some (.lst (wl ++ [.ref q])) → (∀ b o, b ≠ Dw → H5 b = some o → H6 b = some o) → PsAt H x (i + 1) Dp Dw H6 := by
                intro b q H5 H6 hq5 s5 h5 h6 k6
                refine ⟨pl, wl ++ [.ref q], k6 _ _ (Ne.symm ndw) (s5 _ _ g1), h6, fun v hv => ((g3 v hv).same s5).keep (s5 _ _ g2) k6, fun v hv => ?_, ?_, by rw [List.length_append]; show _ + (wl.length + 1) ≤ _; omega⟩
                · rcases List.mem_append.mp hv with hv | hv
                  · exact ((g4 v hv).same s5).keep (s5 _ _ g2) k6 (Nat.le_succ _)
                  · rw [List.mem_singleton.mp hv]
                    refine ⟨q, i, b, rfl, k6 _ _ (fun z => ?_) h5, hun 40 h' (by decide) hq', Nat.lt_succ_self _⟩
                    rw [z] at hq5; rw [g2] at hq5; cases hq5
                · exact same_of_but (s1.free hDw) (g5.trans s5) k6
              refine w_if (fun hp => ?_) (fun hp => ?_)
              · have ei : (i : Int) - 1 = ((i - 1 : Nat) : Int) := by omega
                obtain ⟨d, hd⟩ : ∃ d, x[i - 1]? = some d := ⟨_, List.getElem?_eq_getElem (by omega)⟩
                walk_at "rdy"
                rw [ei]
                refine w_ixS (by omega) (atI_nat hd) ?_
                walk_at "rdy"
                refine w_newT (by show 2 ≤ 1000000; decide) fun q H5 hq5 s5 h5 => ?_
                walk_at "rdy"
                refine w_app2 (s5 _ _ g2) (by omega) fun H6 h6 k6 => ?_
                walk_at "rdy"
                exact ⟨rfl, fin2 _ q H5 H6 hq5 s5 h5 h6 k6⟩
              · walk_at "rdy"
                refine w_newT (by show 2 ≤ 1000000; decide) fun q H5 hq5 s5 h5 => ?_
                walk_at "rdy"
                refine w_app2 (s5 _ _ g2) (by omega) fun H6 h6 k6 => ?_
                walk_at "rdy"
                exact ⟨rfl, fin2 _ q H5 H6 hq5 s5 h5 h6 k6⟩
            · exact ⟨rfl, old⟩
          · exact ⟨rfl, old⟩
        · rintro σ' H5 ⟨rfl, hP5⟩
          walk_at "rdy"
          rw [q41]
          refine w_ifT (fun h => ?_) (fun h => ?_)
          · have h' : c = 41 := (List.cons.inj h).1
            walk_at "rdy"
            refine w_ifb (fun hq => ?_) (fun hq => ?_)
            · have hq' : qdV x (i + 1) = false := by simpa using hq
              obtain ⟨pl, wl, g1, g2, g3, g4, g5, g6⟩ := hP5
              walk_at "rdy"
              refine w_truL (SqL.of g2) (fun hne => ?_) (fun hem => ?_)
              · obtain ⟨wl', v, rfl⟩ : ∃ wl' v, wl = wl' ++ [v] := ⟨wl.dropLast, wl.getLast hne, (List.dropLast_concat_getLast hne).symm⟩
                walk_at "rdy"
                refine ⟨tyL (SqL.of g2), ?_⟩
                refine w_pop g2 fun H6 h6 k6 => ?_
                obtain ⟨q, st, b, rfl, hqt, hu, hsi⟩ := (g4 v (List.mem_append_right _ List.mem_cons_self)).keep g2 k6 (Nat.le_refl _)
                have hsi' : st < i := by
                  rcases Nat.lt_or_ge st i with z | z
                  · exact z
                  · have : st = i := by omega
                    rw [this] at hu
                    have := hu.1
                    rw [hc, h'] at this
                    cases this
                have g1' := k6 _ _ (Ne.symm ndw) g1
                have g3' : ∀ v ∈ pl, PrV x H6 v := fun v hv => (g3 v hv).keep g2 k6
                have g4' : ∀ v ∈ wl', WtV x (i + 1) H6 v := fun v hv => (g4 v (List.mem_append_left _ hv)).keep g2 k6 (Nat.le_refl _)
                have g5' : Same H H6 := same_of_but (s1.free hDw) g5 k6
                rw [List.length_append] at g6
                have g7' : pl.length + (wl'.length + 1) ≤ i + 1 := g6
                refine ⟨q, _, rfl, .inl (.inl hqt), rfl, ?_⟩
                refine ⟨_, _, rfl, ?_⟩
                walk_at "rdy"
                refine ⟨_, _, rfl, ?_⟩
                walk_at "rdy"
                refine ⟨rfl, ?_⟩
                walk_at "rdy"
                cases b with
                | true =>
                  walk_at "rdy"
                  exact ⟨_, _, _, _, rfl, pl, wl', g1', h6, g3', g4', g5', by omega⟩
                | false =>
                  walk_at "rdy"
                  refine ⟨tyL (SqL.of g1'), ?_⟩
                  walk_at "rdy"
                  refine w_newT (by show 2 ≤ 1000000; decide) fun q2 H7 hq7 s7 h7 => ?_
                  walk_at "rdy"
                  refine w_app2 (s7 _ _ g1') (by omega) fun H8 h8 k8 => ?_
                  walk_at "rdy"
                  refine ⟨_, _, _, _, rfl, pl ++ [.ref q2], wl', h8, k8 _ _ ndw (s7 _ _ h6), fun v hv => ?_, fun v hv => ((g4' v hv).same s7).keep (s7 _ _ g1') k8 (Nat.le_refl _), same_of_but hDp (g5'.trans s7) k8, by rw [List.length_append]; show pl.length + 1 + _ ≤ _; omega⟩
                  rcases List.mem_append.mp hv with hv | hv
                  · exact ((g3' v hv).same s7).keep (s7 _ _ g1') k8
                  · rw [List.mem_singleton.mp hv]
                    refine ⟨q2, st, i, rfl, k8 _ _ (fun z => ?_) h7, hu, hun 41 h' (by decide) hq', hsi'⟩
                    rw [z] at hq7; rw [g1'] at hq7; cases hq7
              · exact ⟨_, _, _, _, rfl, pl, wl, g1, g2, g3, g4, g5, g6⟩
            · exact ⟨_, _, _, _, rfl, hP5⟩
          · exact ⟨_, _, _, _, rfl, hP5⟩
    · rintro σ' H3 ⟨x5, x6, x7, x8, rfl, pl, wl, g1, g2, g3, g4, g5, g6⟩
      walk_at "rdy"
      exact kQ Dp pl H3 g1 g3 g5
end
end
section
open PySem PySem.Spec PyProof.Rows L2
open C8 (Cal cal0 pe_c pe_gc pss_cut tCut)

theorem dkN_of {K : PySem.W.Frag} {w : World} {mg : Str → Option Value} {x : Str} {l : List (List Nat × Nat)} (D : DictK K w mg x (numsV l)) : DkN K w mg x l := by
  obtain ⟨d, es, n, g, D, h⟩ := D.ex
  refine ⟨d, es, n, g, D, fun a m e => ?_⟩
  have q := h a
  rw [nums_look, e] at q
  exact q
section
variable {P : Program} {w : World} {K : PySem.W.Frag} {mg : Str → Option Value} {base : Heap} {C NT : Addr}
abbrev s_law_read : Stmt := topS 77
abbrev N_law_read : List Str := ["text"]
theorem sc_law_read : FnScope N_law_read ["text"] (defScope s_law_read) := ⟨rfl, rfl, rfl, by decide +kernel, rfl, by decide +kernel, by decide +kernel⟩
def spRd (K : PySem.W.Frag) : Sp := fun vs H Q _ => ∃ (cs : List Nat) (ts : List Tk) (t0 : Tr), vs = [T cs] ∧ cs.length ≤ 100000 ∧ lex 0 cs = (ts, none) ∧ t0 ≠ .n ∧ Tri ((exN (endTks cs ts) 14).1 1 2 ⟨0, [], none⟩) (fun t S => S.n + 1 ≤ (endTks cs ts).length ∧ S.tw = none ∧ t ≠ t0) ∧ ∀ v t H', TrAt K H' v t → t ≠ t0 → Same H H' → Q v H'
theorem ok_law_read {f : Addr} {fd : FuncData} (F : Fun K "_law_read" "_law_read" s_law_read f fd) (Y : Bn mg) (cread_expression : CalX P w K mg base 146 "read_expression" (spReadE K C NT fun ts => (exN ts 14).1))
    (mSE : mg "SourceError" = some (.ref C)) (hEx : PySem.W.exmOne K (.ref C) (.ref C) = some true) : FnOk P w K mg base CX0 147 f fd ["text"] (spRd K) := by
  refine F.ok sc_law_read (fun vs H Q E h => ?_) (fun cdv A outer s H vs Q E hr h => ?_)
  · obtain ⟨cs, ts, t0, rfl, _⟩ := h
    rfl
  · obtain ⟨cs, ts, t0, rfl, hl, hlex, hn0, htri, kQ⟩ := h
    have nd := sc_law_read.nd
    have gSE : Names (cxOf CX0 P w K mg base N_law_read "_law_read" (defScope s_law_read) f cdv A outer s H E).nox "SourceError" (.ref C) := ⟨rfl, by decide, .inl mSE⟩
    refine ⟨_, (pss_one (ps_try_only rfl rfl gSE takes0 (fun W pn xe tk po => pss_one (ps_ret (pe_cxs cread_expression hr (by decide) rfl tk (pa_cons (pv 0) pa_nil)))) (fun a oe cls d pn hz hf => pss_one (ps_ret pe_non)))), ?_⟩
    rw [show L2.start N_law_read [T cs] = [some (T cs)] from rfl]
    walk_at "rdx"
    refine w_callS ?_
    walk_at "rdx"
    refine ⟨cs, rfl, hl, fun ts' i' hts => (by rw [hlex] at hts; cases hts), fun ts' hts => ?_⟩
    rw [hlex] at hts
    cases hts
    show Out (((exN (endTks cs ts) 14).1 1 2 ⟨0, [], none⟩).bind fun t S => (rTake (endTks cs ts) (cds "nothing") S).bind fun _ S => .ok t S) _ _
    generalize hx : (exN (endTks cs ts) 14).1 1 2 ⟨0, [], none⟩ = rr at htri ⊢
    cases rr with
    | stuck => exact htri.elim
    | bad i =>
      intro d H1 hd s1 h1
      refine ⟨true, hEx, fun _ a ha => ?_, fun h => nomatch h⟩
      walk_at "rdx"
      exact kQ .non .n H1 .n hn0.symm s1
    | ok t S =>
      obtain ⟨hS, htw, hne⟩ := htri
      show Out ((rTake (endTks cs ts) (cds "nothing") S).bind fun _ S => .ok t S) _ _
      unfold rTake
      rw [if_pos (show S.n < (endTks cs ts).length by omega)]
      by_cases hk : (tokN (endTks cs ts) S.n).1 = cds "nothing"
      · rw [if_pos hk]
        refine ⟨fun _ v H1 hv s1 => ?_, fun a ha => ?_⟩
        · walk_at "rdx"
          exact kQ v t H1 hv hne s1
        · have ha' : S.tw = some a := ha
          rw [htw] at ha'
          cases ha'
      · rw [if_neg hk]
        unfold rRefuse
        rw [if_pos (show S.n < (endTks cs ts).length by omega)]
        intro d H1 hd s1 h1
        refine ⟨true, hEx, fun _ a ha => ?_, fun h => nomatch h⟩
        walk_at "rdx"
        exact kQ .non .n H1 .n hn0.symm s1
end
end
section
open PySem PySem.Spec PyProof.Rows L2
open C8 (Cal cal0 pe_c pe_gc pss_cut tCut)

section
variable {P : Program} {w : World} {K : PySem.W.Frag} {mg : Str → Option Value} {base : Heap} {C NT : Addr}
theorem same_all (Y : Bn mg) (D : DefC K mg "_law_same" s_law_same ["one", "two"]) : ∀ n, Cal P w K mg base (n + 1) "_law_same" (spSameB K n) []
  | 0 => D.cal fun f fd F => ok_sameB0 F
  | n + 1 => D.cal fun f fd F => ok_sameB1 F Y (same_all Y D n)
abbrev s_law : Stmt := topS 78
abbrev N_law : List Str := ["script", "state", "tree", "tokens", "text", "start", "end"]
theorem sc_law : FnScope N_law ["script"] (defScope s_law) := ⟨rfl, rfl, rfl, by decide +kernel, rfl, by decide +kernel, by decide +kernel⟩
def spLaw (K : PySem.W.Frag) : Sp := fun vs H Q _ => ∃ (a : Addr) (ns : List Int), vs = [.ref a] ∧ SqL K H a (ns.map V.int) ∧ ns.length ≤ 63 ∧ ∀ H', Q (.bl true) H'
theorem ok_law {f : Addr} {fd : FuncData} (F : Fun K "law" "law" s_law f fd) (Y : Bn mg) (c_law_state : Cal P w K mg base 1 "_law_state" (spState K) [])
    (c_law_expression : Cal P w K mg base 115 "_law_expression" (spExpr K 11) []) (c_print_expression : Cal P w K mg base 62 "print_expression" (spE K 11) [])
    (c_law_pairs : Cal P w K mg base 1 "_law_pairs" spPairs []) (c_law_read : Cal P w K mg base 147 "_law_read" (spRd K) []) (c_law_same : Cal P w K mg base 31 "_law_same" (spSameB K 30) []) :
    FnOk P w K mg base CX0 148 f fd ["script"] (spLaw K) := by
  refine F.ok sc_law (fun vs H Q E h => ?_) (fun cdv A outer s H vs Q E hr h => ?_)
  · obtain ⟨a, ns, rfl, _⟩ := h
    rfl
  · obtain ⟨a, ns, rfl, hA, hlen, kQ⟩ := h
    have nd := sc_law.nd
    refine ⟨_, (pss_cons (ps_set (i := 1) nd rfl (Or.inl rfl) (pe_c c_law_state hr (by decide) rfl (pa_cons (pv 0) (pa_cons pe_int pa_nil))))
      (pss_cons (ps_asg (pe_c c_law_expression hr (by omega) rfl (pa_cons (pv 1) (pa_cons pe_int (pa_cons pe_int pa_nil)))) (pg_tup (by rfl) (pgs_cons (pg_name (i := 2) nd rfl (Or.inl rfl)) (pgs_cons (pg_name (i := 3) nd rfl (Or.inl rfl)) pgs_nil))))
      (pss_cons (ps_set (i := 4) nd rfl (Or.inl rfl) (pe_c c_print_expression hr (by omega) rfl (pa_cons (pv 2) pa_nil)))
      (pss_cons (ps_for PassesOwn.never rfl (pi_list (pe_c c_law_pairs hr (by decide) rfl (pa_cons (pv 4) pa_nil))) (pg_tup (by rfl) (pgs_cons (pg_name (i := 5) nd rfl (Or.inl rfl)) (pgs_cons (pg_name (i := 6) nd rfl (Or.inl rfl)) pgs_nil))) (pss_one (ps_if (pt_val (pe_c c_law_same hr (by omega) rfl (pa_cons (pe_c c_law_read hr (by decide) rfl (pa_cons (pe_op op_addS (pe_op op_addS (pe_op op_addS (pe_op op_addS (pe_slice sl_str (pv 4) po_none (po_some (pv 5))) pe_str) (pe_slice sl_str (pv 4) (po_some (pe_op op_add (pv 5) pe_int)) (po_some (pv 6)))) pe_str) (pe_slice sl_str (pv 4) (po_some (pe_op op_add (pv 6) pe_int)) po_none)) pa_nil)) (pa_cons (pv 2) pa_nil)))) (pss_one (ps_ret pe_bl)) pss_nil)))
      (pss_one (ps_ret pe_bl)))))), ?_⟩
    rw [show L2.start N_law [.ref a] = [some (.ref a), none, none, none, none, none, none] from rfl]
    walk_at "rdy"
    refine ⟨a, ns, 0, rfl, hA, fun S L H1 hSt1 s1 hS0 hL0 => ?_⟩
    walk_at "rdy"
    refine ⟨S, L, 500, 0, 11, 1, rfl, hSt1, by decide, by decide, by decide, by decide, fun p v q ws nss r3 H3 hp hok hw hn ht hc hr3 nq hSt3 f3 => ?_⟩
    obtain ⟨lv, t, hlv, hv, e⟩ := hok
    have hwt : wt ws ≤ 20400 := by
      have := Phi_nn r3
      have e5 : Phi 500 = 20400 := by decide
      rw [e5, if_pos (by decide)] at hc
      omega
    obtain ⟨lv2, w', x, pe, hl'⟩ := EP.pe (all_pr 11).1 e ht
    have hwl := wt_len w'
    have hxl := pe.len
    obtain ⟨ly, hly, hlw, hok⟩ := pe.row.row
    have hdep := trd_mono (m := 30) ((all_dep 11).1 pe.ex (by omega)) (by decide)
    have hnn : t ≠ .n := by
      obtain ⟨k, r, rfl, _⟩ := lv_tab pe
      exact fun e => nomatch e
    walk_at "upy"
    refine ⟨v, t, lv2, _, nss, _, rfl, hv, pe, by omega, fun H4 s4 => ?_⟩
    walk_at "rdy"
    refine ⟨x, rfl, by omega, fun D pl H5 hD hpl s5 => ?_⟩
    have hv5 := hv.same (s4.trans s5)
    refine for_L (xs := pl) (fun i σ' H' => (∃ x5 x6 : Option V, σ' = [some (.ref a), some (.ref S), some v, some (.ref q), some (T x), x5, x6]) ∧ Same H5 H') ⟨⟨none, none, rfl⟩, fun _ _ h => h⟩ (fun i σ' H' _ h => SqL.of (h.2 _ _ hD)) ?_ ?_
    · rintro i y σ' H6 hy ⟨⟨x5, x6, rfl⟩, s6⟩
      obtain ⟨qp, s, en, rfl, hqp, ⟨hs1, hs2⟩, ⟨he1, he2⟩, hse⟩ := (hpl y (List.mem_of_getElem? hy)).same s6
      rw [← hly] at hs1 hs2 he1 he2
      obtain ⟨A, n, Cc, m, Dd, eL, eY⟩ := cut_pair hok hs1 hs2 he1 he2 hse
      rw [eL] at hlw hok
      obtain ⟨wsx, psx, hpx, hlex, htri⟩ := less_read pe hn hlw hok (by omega)
      rw [hly] at eY
      rw [← eY] at hlex
      have hyl := cut_len2 x s en
      refine ⟨qp, _, rfl, .inl (.inl hqp), rfl, ?_⟩
      refine ⟨_, _, rfl, ?_⟩
      walk_at "rdy"
      refine ⟨_, _, rfl, ?_⟩
      walk_at "rdy"
      refine ⟨rfl, ?_⟩
      walk_at "rdy"
      have e32 : cds " " = [32] := by decide +kernel
      have hen : en < x.length := by rw [← hly]; exact (List.getElem?_eq_some_iff.mp he1).1
      refine w_slS (by omega) ?_
      rw [cut_to]
      walk_at "rdy"
      refine w_addS (b := cds " ") (by rw [e32, List.length_take, List.length_singleton]; omega) ?_
      walk_at "rdy"
      refine w_slS (by omega) ?_
      rw [show (s : Int) + 1 = ((s + 1 : Nat) : Int) from rfl, cut_mid x (show en ≤ x.length by omega)]
      refine w_addS (by rw [e32]; simp only [List.length_append, List.length_take, List.length_drop, List.length_singleton]; omega) ?_
      walk_at "rdy"
      refine w_addS (b := cds " ") (by rw [e32]; simp only [List.length_append, List.length_take, List.length_drop, List.length_singleton]; omega) ?_
      walk_at "rdy"
      refine w_slS (by omega) ?_
      rw [show (en : Int) + 1 = ((en + 1 : Nat) : Int) from rfl, cut_from]
      refine w_addS (by rw [e32]; simp only [List.length_append, List.length_take, List.length_drop, List.length_singleton]; omega) ?_
      walk_at "rdy"
      rw [e32]
      refine ⟨_, dueOf wsx psx, t, rfl, by omega, hlex, hnn, (htri _).mono fun t' S' h => ⟨by omega, h.2.1, h.2.2.1⟩, fun v7 t7 H7 hv7 hne s7 => ?_⟩
      walk_at "rdy"
      refine ⟨v7, v, t7, t, rfl, hv7, hv5.same (s6.trans s7), hdep, fun b H8 hb s8 => ?_⟩
      walk_at "rdy"
      cases b with
      | true => exact absurd (hb.mp rfl) hne
      | false =>
        walk_at "rdy"
        exact ⟨⟨_, _, rfl⟩, (s6.trans s7).trans s8⟩
    · rintro σ' H6 ⟨⟨x5, x6, rfl⟩, s6⟩
      walk_at "rdy"
      exact kQ H6
end
end
section
open PySem PySem.Spec PyProof.Rows L2
open C8 (Cal cal0 pe_c pe_gc pss_cut tCut)
theorem exm_self {K : PySem.W.Frag} {S : Addr} (h1 : PySem.W.subIn K (.ref S) (.type "BaseException") = some true) (h2 : PySem.W.isClsIn K S = true) (h3 : PySem.W.typeIn K (.ref S) = some (.type "type")) (h4 : PySem.W.subIn K (.ref S) (.ref S) = some true) :
    PySem.W.exmOne K (.ref S) (.ref S) = some true := by
  have e1 : (PySem.W.subIn K (.ref S) (.type "BaseException") == some true) = true := by rw [h1] <;> rfl
  have e2 : ((PySem.W.clsIn K S).isSome && PySem.W.typeIn K (.ref S) == some (.type "type")) = true := by
    have h2' : (PySem.W.clsIn K S).isSome = true := h2
    rw [h2', h3] <;> rfl
  show (if (PySem.W.subIn K (.ref S) (.type "BaseException") == some true) = true then (if ((PySem.W.clsIn K S).isSome && PySem.W.typeIn K (.ref S) == some (.type "type")) = true then PySem.W.subIn K (.ref S) (.ref S) else none) else none) = some true
  rw [if_pos e1, if_pos e2]
  exact h4
def valsT : List (List Nat) → List Value → Bool
  | [], [] => true
  | c :: l, .str x _ :: us => decide (x.cps.toList = c) && valsT l us
  | _, _ => false
theorem valsT_ok : ∀ {l : List (List Nat)} {us : List Value}, valsT l us = true → Vals (l.map T) us
  | [], [], _ => .nil
  | [], _ :: _, h => by cases h
  | _ :: _, [], h => by cases h
  | c :: l, u :: us, h => by
    cases u with
    | str x t =>
      have h' : (decide (x.cps.toList = c) && valsT l us) = true := h
      rw [Bool.and_eq_true, decide_eq_true_iff] at h'
      refine .cons ⟨t, ?_⟩ (valsT_ok h'.2)
      rw [← h'.1]
    | _ => cases h
theorem sqT_top {K : PySem.W.Frag} {a : Addr} {o : Option Addr} {its : Array Value} {n : Nat} {sl : Array (Option Value)} {l : List (List Nat)} (h : K.lookup a = some ⟨.type "tuple", o, .seq its n, sl⟩) (e : valsT l its.toList = true) (hl : l.length ≤ 1000) (H : Hp) : SqT K H a (l.map T) := by
  have v := valsT_ok e
  refine .inr ⟨_, its, n, h, rfl, rfl, ?_, v⟩
  have z : its.size = l.length := by
    have z := v.length
    rw [List.length_map] at z
    rw [z]
    exact Array.length_toList.symm
  rw [z]
  exact Nat.le_trans hl (by decide)
theorem all_mk {P : Program} {w : World} {K : PySem.W.Frag} {h : Heap} {mg : Str → Option Value} {fa f0 f1 f2 f3 f4 f5 f6 f7 f8 f9 f10 f11 f12 f13 f14 f15 f16 f17 f18 f19 f20 f21 f22 f23 f24 f25 f26 f27 f28 f29 f30 f31 f32 f33 f34 f35 f36 f37 f38 f39 f40 f41 f42 f43 f44 f45 : Addr} (X : K.In h) (G : h.Ns mainGlobals mg) (hfa : mg "law" = some (.ref fa))
    {od0 an0 od1 an1 od2 an2 od3 an3 od4 an4 od5 an5 od6 an6 od7 an7 od8 an8 od9 an9 od10 an10 od11 an11 od12 an12 od13 an13 od14 an14 od15 an15 od16 an16 od17 an17 od18 an18 od19 an19 od20 an20 od21 an21 od22 an22 od23 an23 od24 an24 od25 an25 od26 an26 od27 an27 od28 an28 od29 an29 od30 an30 od31 an31 od32 an32 od33 an33 od34 an34 od35 an35 od36 an36 od37 an37 od38 an38 od39 an39 od40 an40 od41 an41 od42 an42 od43 an43 od44 an44 od45 an45 : Option Addr} {sl0 sl1 sl2 sl3 sl4 sl5 sl6 sl7 sl8 sl9 sl10 sl11 sl12 sl13 sl14 sl15 sl16 sl17 sl18 sl19 sl20 sl21 sl22 sl23 sl24 sl25 sl26 sl27 sl28 sl29 sl30 sl31 sl32 sl33 sl34 sl35 sl36 sl37 sl38 sl39 sl40 sl41 sl42 sl43 sl44 sl45 : Array (Option Value)} {oc0 kV0 dc0 pm0 cd0 ct0 oc1 kV1 dc1 pm1 cd1 ct1 oc2 kV2 dc2 pm2 cd2 ct2 oc3 kV3 dc3 pm3 cd3 ct3 oc4 kV4 dc4 pm4 cd4 ct4 oc5 kV5 dc5 pm5 cd5 ct5 oc6 kV6 dc6 pm6 cd6 ct6 oc7 kV7 dc7 pm7 cd7 ct7 oc8 kV8 dc8 pm8 cd8 ct8 oc9 kV9 dc9 pm9 cd9 ct9 oc10 kV10 dc10 pm10 cd10 ct10 oc11 kV11 dc11 pm11 cd11 ct11 oc12 kV12 dc12 pm12 cd12 ct12 oc13 kV13 dc13 pm13 cd13 ct13 oc14 kV14 dc14 pm14 cd14 ct14 oc15 kV15 dc15 pm15 cd15 ct15 oc16 kV16 dc16 pm16 cd16 ct16 oc17 kV17 dc17 pm17 cd17 ct17 oc18 kV18 dc18 pm18 cd18 ct18 oc19 kV19 dc19 pm19 cd19 ct19 oc20 kV20 dc20 pm20 cd20 ct20 oc21 kV21 dc21 pm21 cd21 ct21 oc22 kV22 dc22 pm22 cd22 ct22 oc23 kV23 dc23 pm23 cd23 ct23 oc24 kV24 dc24 pm24 cd24 ct24 oc25 kV25 dc25 pm25 cd25 ct25 oc26 kV26 dc26 pm26 cd26 ct26 oc27 kV27 dc27 pm27 cd27 ct27 oc28 kV28 dc28 pm28 cd28 ct28 oc29 kV29 dc29 pm29 cd29 ct29 oc30 kV30 dc30 pm30 cd30 ct30 oc31 kV31 dc31 pm31 cd31 ct31 oc32 kV32 dc32 pm32 cd32 ct32 oc33 kV33 dc33 pm33 cd33 ct33 oc34 kV34 dc34 pm34 cd34 ct34 oc35 kV35 dc35 pm35 cd35 ct35 oc36 kV36 dc36 pm36 cd36 ct36 oc37 kV37 dc37 pm37 cd37 ct37 oc38 kV38 dc38 pm38 cd38 ct38 oc39 kV39 dc39 pm39 cd39 ct39 oc40 kV40 dc40 pm40 cd40 ct40 oc41 kV41 dc41 pm41 cd41 ct41 oc42 kV42 dc42 pm42 cd42 ct42 oc43 kV43 dc43 pm43 cd43 ct43 oc44 kV44 dc44 pm44 cd44 ct44 oc45 kV45 dc45 pm45 cd45 ct45 : Value} {x_SMALL : Str} {t_SMALL : PySem.Tok} {x_CAPITAL : Str} {t_CAPITAL : PySem.Tok} {x_DIGITS : Str} {t_DIGITS : PySem.Tok} {x_QUOTE : Str} {t_QUOTE : PySem.Tok} {t_PERCENT : PySem.Tok} {t_LONGEST_NAME : PySem.Tok} {t_LONGEST_TEXT : PySem.Tok} {t_GREATEST_NUMBER : PySem.Tok} {t_MOST_DIGITS : PySem.Tok} {t_DEEPEST : PySem.Tok} {t_MOST_PARAMETERS : PySem.Tok} {t_MOST_VARIABLES : PySem.Tok} {t_MOST_BLOCK_PARAMETERS : PySem.Tok} {t_MOST_ARGUMENTS : PySem.Tok} {t_LOOSEST : PySem.Tok} {t_COMPARING : PySem.Tok} {t_TIGHTEST : PySem.Tok} {p_WORDS : Addr} {o_WORDS : Option Addr} {i_WORDS : Array Value} {n_WORDS : Nat} {s_WORDS : Array (Option Value)} {p_MARKS : Addr} {o_MARKS : Option Addr} {i_MARKS : Array Value} {n_MARKS : Nat} {s_MARKS : Array (Option Value)} {C N cda cc fI : Addr} {nm q file : Str} {bs bm : List Value} {sn : List Str} {sub : List Value} {ab : Bool} {col : Option Bool} {dd : Option Addr} {m0 m1 m2 m3 m5 : Option Value} {ocI docI pmI ctI ccl ccl2 : Value} {odI anI cdd cdd2 : Option Addr} {oslI ccs ccs2 : Array (Option Value)} {qual : Str} {vs : Array Value} {tf : PySem.Tok} {RC : Addr} {q_refuse : Addr} {oc_refuse kV_refuse dc_refuse pm_refuse cd_refuse ct_refuse : Value} {od_refuse an_refuse : Option Addr} {sl_refuse : Array (Option Value)} {q_fixed : Addr} {oc_fixed kV_fixed dc_fixed pm_fixed cd_fixed ct_fixed : Value} {od_fixed an_fixed : Option Addr} {sl_fixed : Array (Option Value)} {dT : Addr} {dTo : Option Addr} {dTi : Array Value} {dTn : Nat} {dTs : Array (Option Value)} {q_accept : Addr} {oc_accept kV_accept dc_accept pm_accept cd_accept ct_accept : Value} {od_accept an_accept : Option Addr} {sl_accept : Array (Option Value)} {q_expect : Addr} {oc_expect kV_expect dc_expect pm_expect cd_expect ct_expect : Value} {od_expect an_expect : Option Addr} {sl_expect : Array (Option Value)} {q_take : Addr} {oc_take kV_take dc_take pm_take cd_take ct_take : Value} {od_take an_take : Option Addr} {sl_take : Array (Option Value)} {q_name_stands_before : Addr} {oc_name_stands_before kV_name_stands_before dc_name_stands_before pm_name_stands_before cd_name_stands_before ct_name_stands_before : Value} {od_name_stands_before an_name_stands_before : Option Addr} {sl_name_stands_before : Array (Option Value)} {q_names : Addr} {oc_names kV_names dc_names pm_names cd_names ct_names : Value} {od_names an_names : Option Addr} {sl_names : Array (Option Value)} {q_note_twice : Addr} {oc_note_twice kV_note_twice dc_note_twice pm_note_twice cd_note_twice ct_note_twice : Value} {od_note_twice an_note_twice : Option Addr} {sl_note_twice : Array (Option Value)} {q_begin : Addr} {oc_begin kV_begin dc_begin pm_begin cd_begin ct_begin : Value} {od_begin an_begin : Option Addr} {sl_begin : Array (Option Value)} {q_deepen : Addr} {oc_deepen kV_deepen dc_deepen pm_deepen cd_deepen ct_deepen : Value} {od_deepen an_deepen : Option Addr} {sl_deepen : Array (Option Value)} {q_body : Addr} {oc_body kV_body dc_body pm_body cd_body ct_body : Value} {od_body an_body : Option Addr} {sl_body : Array (Option Value)} {q_statement : Addr} {oc_statement kV_statement dc_statement pm_statement cd_statement ct_statement : Value} {od_statement an_statement : Option Addr} {sl_statement : Array (Option Value)} {q_set_statement : Addr} {oc_set_statement kV_set_statement dc_set_statement pm_set_statement cd_set_statement ct_set_statement : Value} {od_set_statement an_set_statement : Option Addr} {sl_set_statement : Array (Option Value)} {q_while_statement : Addr} {oc_while_statement kV_while_statement dc_while_statement pm_while_statement cd_while_statement ct_while_statement : Value} {od_while_statement an_while_statement : Option Addr} {sl_while_statement : Array (Option Value)} {q_if_statement : Addr} {oc_if_statement kV_if_statement dc_if_statement pm_if_statement cd_if_statement ct_if_statement : Value} {od_if_statement an_if_statement : Option Addr} {sl_if_statement : Array (Option Value)} {q_try_statement : Addr} {oc_try_statement kV_try_statement dc_try_statement pm_try_statement cd_try_statement ct_try_statement : Value} {od_try_statement an_try_statement : Option Addr} {sl_try_statement : Array (Option Value)} {q_keep_statement : Addr} {oc_keep_statement kV_keep_statement dc_keep_statement pm_keep_statement cd_keep_statement ct_keep_statement : Value} {od_keep_statement an_keep_statement : Option Addr} {sl_keep_statement : Array (Option Value)} {q_expression : Addr} {oc_expression kV_expression dc_expression pm_expression cd_expression ct_expression : Value} {od_expression an_expression : Option Addr} {sl_expression : Array (Option Value)} {q_opening : Addr} {oc_opening kV_opening dc_opening pm_opening cd_opening ct_opening : Value} {od_opening an_opening : Option Addr} {sl_opening : Array (Option Value)} {q_primary : Addr} {oc_primary kV_primary dc_primary pm_primary cd_primary ct_primary : Value} {od_primary an_primary : Option Addr} {sl_primary : Array (Option Value)} {q_block : Addr} {oc_block kV_block dc_block pm_block cd_block ct_block : Value} {od_block an_block : Option Addr} {sl_block : Array (Option Value)} {q_super_send : Addr} {oc_super_send kV_super_send dc_super_send pm_super_send cd_super_send ct_super_send : Value} {od_super_send an_super_send : Option Addr} {sl_super_send : Array (Option Value)} {q_arguments : Addr} {oc_arguments kV_arguments dc_arguments pm_arguments cd_arguments ct_arguments : Value} {od_arguments an_arguments : Option Addr} {sl_arguments : Array (Option Value)} {q_finish : Addr} {oc_finish kV_finish dc_finish pm_finish cd_finish ct_finish : Value} {od_finish an_finish : Option Addr} {sl_finish : Array (Option Value)} {q_init : Addr} {oc_init kV_init dc_init pm_init cd_init ct_init : Value} {od_init an_init : Option Addr} {sl_init : Array (Option Value)} {a_PLAIN : Addr} {es_PLAIN : Array DictEntry} {en_PLAIN : Nat} {a_LEVELS_AHEAD : Addr} {es_LEVELS_AHEAD : Array DictEntry} {en_LEVELS_AHEAD : Nat} {a_TREES_AHEAD : Addr} {es_TREES_AHEAD : Array DictEntry} {en_TREES_AHEAD : Nat} {a_LEVELS_BEHIND : Addr} {es_LEVELS_BEHIND : Array DictEntry} {en_LEVELS_BEHIND : Nat} {NT Nn cdaN ccN fN : Addr} {nmN qN fileN : Str} {bsN bmN : List Value} {snN : List Str} {subN : List Value} {abN : Bool} {colN : Option Bool} {ddN : Option Addr} {m0N m1N m2N m3N m5N : Option Value} {ocN docN pmN ctN cclN ccl2N : Value} {odN anN cddN cdd2N : Option Addr} {oslN ccsN ccs2N : Array (Option Value)} {qualN : Str} {vsN : Array Value} {tfN : PySem.Tok}
    (a0 : PySem.W.nsIn K mainGlobals "_is_letter_or_digit" = some (some (.ref f0)))
    (l0 : K.lookup f0 = some ⟨oc0, od0, .func (PySem.W.fnOf "_is_letter_or_digit" "_is_letter_or_digit" (defArgs s_is_letter_or_digit) (defBody s_is_letter_or_digit) (defScope s_is_letter_or_digit) .none kV0 dc0 pm0 an0 cd0 ct0), sl0⟩)
    (c0 : PySem.W.codeIn K cd0 "_is_letter_or_digit" = true)
    (k0 : PySem.W.keepIn K (.ref f0) = true)
    (a1 : PySem.W.nsIn K mainGlobals "_is_source_character" = some (some (.ref f1)))
    (l1 : K.lookup f1 = some ⟨oc1, od1, .func (PySem.W.fnOf "_is_source_character" "_is_source_character" (defArgs s_is_source_character) (defBody s_is_source_character) (defScope s_is_source_character) .none kV1 dc1 pm1 an1 cd1 ct1), sl1⟩)
    (c1 : PySem.W.codeIn K cd1 "_is_source_character" = true)
    (k1 : PySem.W.keepIn K (.ref f1) = true)
    (a2 : PySem.W.nsIn K mainGlobals "_end_of_run" = some (some (.ref f2)))
    (l2 : K.lookup f2 = some ⟨oc2, od2, .func (PySem.W.fnOf "_end_of_run" "_end_of_run" (defArgs s_end_of_run) (defBody s_end_of_run) (defScope s_end_of_run) .none kV2 dc2 pm2 an2 cd2 ct2), sl2⟩)
    (c2 : PySem.W.codeIn K cd2 "_end_of_run" = true)
    (k2 : PySem.W.keepIn K (.ref f2) = true)
    (a3 : PySem.W.nsIn K mainGlobals "_end_of_text" = some (some (.ref f3)))
    (l3 : K.lookup f3 = some ⟨oc3, od3, .func (PySem.W.fnOf "_end_of_text" "_end_of_text" (defArgs s_end_of_text) (defBody s_end_of_text) (defScope s_end_of_text) .none kV3 dc3 pm3 an3 cd3 ct3), sl3⟩)
    (c3 : PySem.W.codeIn K cd3 "_end_of_text" = true)
    (k3 : PySem.W.keepIn K (.ref f3) = true)
    (a4 : PySem.W.nsIn K mainGlobals "_number_of" = some (some (.ref f4)))
    (l4 : K.lookup f4 = some ⟨oc4, od4, .func (PySem.W.fnOf "_number_of" "_number_of" (defArgs s_number_of) (defBody s_number_of) (defScope s_number_of) .none kV4 dc4 pm4 an4 cd4 ct4), sl4⟩)
    (c4 : PySem.W.codeIn K cd4 "_number_of" = true)
    (k4 : PySem.W.keepIn K (.ref f4) = true)
    (a5 : PySem.W.nsIn K mainGlobals "_token_of_run" = some (some (.ref f5)))
    (l5 : K.lookup f5 = some ⟨oc5, od5, .func (PySem.W.fnOf "_token_of_run" "_token_of_run" (defArgs s_token_of_run) (defBody s_token_of_run) (defScope s_token_of_run) .none kV5 dc5 pm5 an5 cd5 ct5), sl5⟩)
    (c5 : PySem.W.codeIn K cd5 "_token_of_run" = true)
    (k5 : PySem.W.keepIn K (.ref f5) = true)
    (a6 : PySem.W.nsIn K mainGlobals "_mark_at" = some (some (.ref f6)))
    (l6 : K.lookup f6 = some ⟨oc6, od6, .func (PySem.W.fnOf "_mark_at" "_mark_at" (defArgs s_mark_at) (defBody s_mark_at) (defScope s_mark_at) .none kV6 dc6 pm6 an6 cd6 ct6), sl6⟩)
    (c6 : PySem.W.codeIn K cd6 "_mark_at" = true)
    (k6 : PySem.W.keepIn K (.ref f6) = true)
    (a7 : PySem.W.nsIn K mainGlobals "_token_at" = some (some (.ref f7)))
    (l7 : K.lookup f7 = some ⟨oc7, od7, .func (PySem.W.fnOf "_token_at" "_token_at" (defArgs s_token_at) (defBody s_token_at) (defScope s_token_at) .none kV7 dc7 pm7 an7 cd7 ct7), sl7⟩)
    (c7 : PySem.W.codeIn K cd7 "_token_at" = true)
    (k7 : PySem.W.keepIn K (.ref f7) = true)
    (a8 : PySem.W.nsIn K mainGlobals "tokenize" = some (some (.ref f8)))
    (l8 : K.lookup f8 = some ⟨oc8, od8, .func (PySem.W.fnOf "tokenize" "tokenize" (defArgs s_tokenize) (defBody s_tokenize) (defScope s_tokenize) .none kV8 dc8 pm8 an8 cd8 ct8), sl8⟩)
    (c8 : PySem.W.codeIn K cd8 "tokenize" = true)
    (k8 : PySem.W.keepIn K (.ref f8) = true)
    (a9 : PySem.W.nsIn K mainGlobals "read_expression" = some (some (.ref f9)))
    (l9 : K.lookup f9 = some ⟨oc9, od9, .func (PySem.W.fnOf "read_expression" "read_expression" (defArgs s_read_expression) (defBody s_read_expression) (defScope s_read_expression) .none kV9 dc9 pm9 an9 cd9 ct9), sl9⟩)
    (c9 : PySem.W.codeIn K cd9 "read_expression" = true)
    (k9 : PySem.W.keepIn K (.ref f9) = true)
    (a10 : PySem.W.nsIn K mainGlobals "_can_go_on" = some (some (.ref f10)))
    (l10 : K.lookup f10 = some ⟨oc10, od10, .func (PySem.W.fnOf "_can_go_on" "_can_go_on" (defArgs s_can_go_on) (defBody s_can_go_on) (defScope s_can_go_on) .none kV10 dc10 pm10 an10 cd10 ct10), sl10⟩)
    (c10 : PySem.W.codeIn K cd10 "_can_go_on" = true)
    (k10 : PySem.W.keepIn K (.ref f10) = true)
    (a11 : PySem.W.nsIn K mainGlobals "print_expression" = some (some (.ref f11)))
    (l11 : K.lookup f11 = some ⟨oc11, od11, .func (PySem.W.fnOf "print_expression" "print_expression" (defArgs s_print_expression) (defBody s_print_expression) (defScope s_print_expression) .none kV11 dc11 pm11 an11 cd11 ct11), sl11⟩)
    (c11 : PySem.W.codeIn K cd11 "print_expression" = true)
    (k11 : PySem.W.keepIn K (.ref f11) = true)
    (a12 : PySem.W.nsIn K mainGlobals "_level" = some (some (.ref f12)))
    (l12 : K.lookup f12 = some ⟨oc12, od12, .func (PySem.W.fnOf "_level" "_level" (defArgs s_level) (defBody s_level) (defScope s_level) .none kV12 dc12 pm12 an12 cd12 ct12), sl12⟩)
    (c12 : PySem.W.codeIn K cd12 "_level" = true)
    (k12 : PySem.W.keepIn K (.ref f12) = true)
    (a13 : PySem.W.nsIn K mainGlobals "_in_place" = some (some (.ref f13)))
    (l13 : K.lookup f13 = some ⟨oc13, od13, .func (PySem.W.fnOf "_in_place" "_in_place" (defArgs s_in_place) (defBody s_in_place) (defScope s_in_place) .none kV13 dc13 pm13 an13 cd13 ct13), sl13⟩)
    (c13 : PySem.W.codeIn K cd13 "_in_place" = true)
    (k13 : PySem.W.keepIn K (.ref f13) = true)
    (a14 : PySem.W.nsIn K mainGlobals "_in_brackets" = some (some (.ref f14)))
    (l14 : K.lookup f14 = some ⟨oc14, od14, .func (PySem.W.fnOf "_in_brackets" "_in_brackets" (defArgs s_in_brackets) (defBody s_in_brackets) (defScope s_in_brackets) .none kV14 dc14 pm14 an14 cd14 ct14), sl14⟩)
    (c14 : PySem.W.codeIn K cd14 "_in_brackets" = true)
    (k14 : PySem.W.keepIn K (.ref f14) = true)
    (a15 : PySem.W.nsIn K mainGlobals "_spaced" = some (some (.ref f15)))
    (l15 : K.lookup f15 = some ⟨oc15, od15, .func (PySem.W.fnOf "_spaced" "_spaced" (defArgs s_spaced) (defBody s_spaced) (defScope s_spaced) .none kV15 dc15 pm15 an15 cd15 ct15), sl15⟩)
    (c15 : PySem.W.codeIn K cd15 "_spaced" = true)
    (k15 : PySem.W.keepIn K (.ref f15) = true)
    (a16 : PySem.W.nsIn K mainGlobals "_plain" = some (some (.ref f16)))
    (l16 : K.lookup f16 = some ⟨oc16, od16, .func (PySem.W.fnOf "_plain" "_plain" (defArgs s_plain) (defBody s_plain) (defScope s_plain) .none kV16 dc16 pm16 an16 cd16 ct16), sl16⟩)
    (c16 : PySem.W.codeIn K cd16 "_plain" = true)
    (k16 : PySem.W.keepIn K (.ref f16) = true)
    (a17 : PySem.W.nsIn K mainGlobals "_with_sign" = some (some (.ref f17)))
    (l17 : K.lookup f17 = some ⟨oc17, od17, .func (PySem.W.fnOf "_with_sign" "_with_sign" (defArgs s_with_sign) (defBody s_with_sign) (defScope s_with_sign) .none kV17 dc17 pm17 an17 cd17 ct17), sl17⟩)
    (c17 : PySem.W.codeIn K cd17 "_with_sign" = true)
    (k17 : PySem.W.keepIn K (.ref f17) = true)
    (a18 : PySem.W.nsIn K mainGlobals "_sent" = some (some (.ref f18)))
    (l18 : K.lookup f18 = some ⟨oc18, od18, .func (PySem.W.fnOf "_sent" "_sent" (defArgs s_sent) (defBody s_sent) (defScope s_sent) .none kV18 dc18 pm18 an18 cd18 ct18), sl18⟩)
    (c18 : PySem.W.codeIn K cd18 "_sent" = true)
    (k18 : PySem.W.keepIn K (.ref f18) = true)
    (a19 : PySem.W.nsIn K mainGlobals "_block" = some (some (.ref f19)))
    (l19 : K.lookup f19 = some ⟨oc19, od19, .func (PySem.W.fnOf "_block" "_block" (defArgs s_block) (defBody s_block) (defScope s_block) .none kV19 dc19 pm19 an19 cd19 ct19), sl19⟩)
    (c19 : PySem.W.codeIn K cd19 "_block" = true)
    (k19 : PySem.W.keepIn K (.ref f19) = true)
    (a20 : PySem.W.nsIn K mainGlobals "_body" = some (some (.ref f20)))
    (l20 : K.lookup f20 = some ⟨oc20, od20, .func (PySem.W.fnOf "_body" "_body" (defArgs s_body) (defBody s_body) (defScope s_body) .none kV20 dc20 pm20 an20 cd20 ct20), sl20⟩)
    (c20 : PySem.W.codeIn K cd20 "_body" = true)
    (k20 : PySem.W.keepIn K (.ref f20) = true)
    (a21 : PySem.W.nsIn K mainGlobals "_statement" = some (some (.ref f21)))
    (l21 : K.lookup f21 = some ⟨oc21, od21, .func (PySem.W.fnOf "_statement" "_statement" (defArgs s_statement) (defBody s_statement) (defScope s_statement) .none kV21 dc21 pm21 an21 cd21 ct21), sl21⟩)
    (c21 : PySem.W.codeIn K cd21 "_statement" = true)
    (k21 : PySem.W.keepIn K (.ref f21) = true)
    (a22 : PySem.W.nsIn K mainGlobals "_choice" = some (some (.ref f22)))
    (l22 : K.lookup f22 = some ⟨oc22, od22, .func (PySem.W.fnOf "_choice" "_choice" (defArgs s_choice) (defBody s_choice) (defScope s_choice) .none kV22 dc22 pm22 an22 cd22 ct22), sl22⟩)
    (c22 : PySem.W.codeIn K cd22 "_choice" = true)
    (k22 : PySem.W.keepIn K (.ref f22) = true)
    (a23 : PySem.W.nsIn K mainGlobals "_law_state" = some (some (.ref f23)))
    (l23 : K.lookup f23 = some ⟨oc23, od23, .func (PySem.W.fnOf "_law_state" "_law_state" (defArgs s_law_state) (defBody s_law_state) (defScope s_law_state) .none kV23 dc23 pm23 an23 cd23 ct23), sl23⟩)
    (c23 : PySem.W.codeIn K cd23 "_law_state" = true)
    (k23 : PySem.W.keepIn K (.ref f23) = true)
    (a24 : PySem.W.nsIn K mainGlobals "_law_draw" = some (some (.ref f24)))
    (l24 : K.lookup f24 = some ⟨oc24, od24, .func (PySem.W.fnOf "_law_draw" "_law_draw" (defArgs s_law_draw) (defBody s_law_draw) (defScope s_law_draw) .none kV24 dc24 pm24 an24 cd24 ct24), sl24⟩)
    (c24 : PySem.W.codeIn K cd24 "_law_draw" = true)
    (k24 : PySem.W.keepIn K (.ref f24) = true)
    (a25 : PySem.W.nsIn K mainGlobals "_law_words" = some (some (.ref f25)))
    (l25 : K.lookup f25 = some ⟨oc25, od25, .func (PySem.W.fnOf "_law_words" "_law_words" (defArgs s_law_words) (defBody s_law_words) (defScope s_law_words) .none kV25 dc25 pm25 an25 cd25 ct25), sl25⟩)
    (c25 : PySem.W.codeIn K cd25 "_law_words" = true)
    (k25 : PySem.W.keepIn K (.ref f25) = true)
    (a26 : PySem.W.nsIn K mainGlobals "_law_run" = some (some (.ref f26)))
    (l26 : K.lookup f26 = some ⟨oc26, od26, .func (PySem.W.fnOf "_law_run" "_law_run" (defArgs s_law_run) (defBody s_law_run) (defScope s_law_run) .none kV26 dc26 pm26 an26 cd26 ct26), sl26⟩)
    (c26 : PySem.W.codeIn K cd26 "_law_run" = true)
    (k26 : PySem.W.keepIn K (.ref f26) = true)
    (a27 : PySem.W.nsIn K mainGlobals "_law_name" = some (some (.ref f27)))
    (l27 : K.lookup f27 = some ⟨oc27, od27, .func (PySem.W.fnOf "_law_name" "_law_name" (defArgs s_law_name) (defBody s_law_name) (defScope s_law_name) .none kV27 dc27 pm27 an27 cd27 ct27), sl27⟩)
    (c27 : PySem.W.codeIn K cd27 "_law_name" = true)
    (k27 : PySem.W.keepIn K (.ref f27) = true)
    (a28 : PySem.W.nsIn K mainGlobals "_law_class" = some (some (.ref f28)))
    (l28 : K.lookup f28 = some ⟨oc28, od28, .func (PySem.W.fnOf "_law_class" "_law_class" (defArgs s_law_class) (defBody s_law_class) (defScope s_law_class) .none kV28 dc28 pm28 an28 cd28 ct28), sl28⟩)
    (c28 : PySem.W.codeIn K cd28 "_law_class" = true)
    (k28 : PySem.W.keepIn K (.ref f28) = true)
    (a29 : PySem.W.nsIn K mainGlobals "_law_number" = some (some (.ref f29)))
    (l29 : K.lookup f29 = some ⟨oc29, od29, .func (PySem.W.fnOf "_law_number" "_law_number" (defArgs s_law_number) (defBody s_law_number) (defScope s_law_number) .none kV29 dc29 pm29 an29 cd29 ct29), sl29⟩)
    (c29 : PySem.W.codeIn K cd29 "_law_number" = true)
    (k29 : PySem.W.keepIn K (.ref f29) = true)
    (a30 : PySem.W.nsIn K mainGlobals "_law_characters" = some (some (.ref f30)))
    (l30 : K.lookup f30 = some ⟨oc30, od30, .func (PySem.W.fnOf "_law_characters" "_law_characters" (defArgs s_law_characters) (defBody s_law_characters) (defScope s_law_characters) .none kV30 dc30 pm30 an30 cd30 ct30), sl30⟩)
    (c30 : PySem.W.codeIn K cd30 "_law_characters" = true)
    (k30 : PySem.W.keepIn K (.ref f30) = true)
    (a31 : PySem.W.nsIn K mainGlobals "_law_names" = some (some (.ref f31)))
    (l31 : K.lookup f31 = some ⟨oc31, od31, .func (PySem.W.fnOf "_law_names" "_law_names" (defArgs s_law_names) (defBody s_law_names) (defScope s_law_names) .none kV31 dc31 pm31 an31 cd31 ct31), sl31⟩)
    (c31 : PySem.W.codeIn K cd31 "_law_names" = true)
    (k31 : PySem.W.keepIn K (.ref f31) = true)
    (a32 : PySem.W.nsIn K mainGlobals "_law_commas" = some (some (.ref f32)))
    (l32 : K.lookup f32 = some ⟨oc32, od32, .func (PySem.W.fnOf "_law_commas" "_law_commas" (defArgs s_law_commas) (defBody s_law_commas) (defScope s_law_commas) .none kV32 dc32 pm32 an32 cd32 ct32), sl32⟩)
    (c32 : PySem.W.codeIn K cd32 "_law_commas" = true)
    (k32 : PySem.W.keepIn K (.ref f32) = true)
    (a33 : PySem.W.nsIn K mainGlobals "_law_leaf" = some (some (.ref f33)))
    (l33 : K.lookup f33 = some ⟨oc33, od33, .func (PySem.W.fnOf "_law_leaf" "_law_leaf" (defArgs s_law_leaf) (defBody s_law_leaf) (defScope s_law_leaf) .none kV33 dc33 pm33 an33 cd33 ct33), sl33⟩)
    (c33 : PySem.W.codeIn K cd33 "_law_leaf" = true)
    (k33 : PySem.W.keepIn K (.ref f33) = true)
    (a34 : PySem.W.nsIn K mainGlobals "_law_sides" = some (some (.ref f34)))
    (l34 : K.lookup f34 = some ⟨oc34, od34, .func (PySem.W.fnOf "_law_sides" "_law_sides" (defArgs s_law_sides) (defBody s_law_sides) (defScope s_law_sides) .none kV34 dc34 pm34 an34 cd34 ct34), sl34⟩)
    (c34 : PySem.W.codeIn K cd34 "_law_sides" = true)
    (k34 : PySem.W.keepIn K (.ref f34) = true)
    (a35 : PySem.W.nsIn K mainGlobals "_law_list" = some (some (.ref f35)))
    (l35 : K.lookup f35 = some ⟨oc35, od35, .func (PySem.W.fnOf "_law_list" "_law_list" (defArgs s_law_list) (defBody s_law_list) (defScope s_law_list) .none kV35 dc35 pm35 an35 cd35 ct35), sl35⟩)
    (c35 : PySem.W.codeIn K cd35 "_law_list" = true)
    (k35 : PySem.W.keepIn K (.ref f35) = true)
    (a36 : PySem.W.nsIn K mainGlobals "_law_block" = some (some (.ref f36)))
    (l36 : K.lookup f36 = some ⟨oc36, od36, .func (PySem.W.fnOf "_law_block" "_law_block" (defArgs s_law_block) (defBody s_law_block) (defScope s_law_block) .none kV36 dc36 pm36 an36 cd36 ct36), sl36⟩)
    (c36 : PySem.W.codeIn K cd36 "_law_block" = true)
    (k36 : PySem.W.keepIn K (.ref f36) = true)
    (a37 : PySem.W.nsIn K mainGlobals "_law_compound" = some (some (.ref f37)))
    (l37 : K.lookup f37 = some ⟨oc37, od37, .func (PySem.W.fnOf "_law_compound" "_law_compound" (defArgs s_law_compound) (defBody s_law_compound) (defScope s_law_compound) .none kV37 dc37 pm37 an37 cd37 ct37), sl37⟩)
    (c37 : PySem.W.codeIn K cd37 "_law_compound" = true)
    (k37 : PySem.W.keepIn K (.ref f37) = true)
    (a38 : PySem.W.nsIn K mainGlobals "_law_expression" = some (some (.ref f38)))
    (l38 : K.lookup f38 = some ⟨oc38, od38, .func (PySem.W.fnOf "_law_expression" "_law_expression" (defArgs s_law_expression) (defBody s_law_expression) (defScope s_law_expression) .none kV38 dc38 pm38 an38 cd38 ct38), sl38⟩)
    (c38 : PySem.W.codeIn K cd38 "_law_expression" = true)
    (k38 : PySem.W.keepIn K (.ref f38) = true)
    (a39 : PySem.W.nsIn K mainGlobals "_law_body" = some (some (.ref f39)))
    (l39 : K.lookup f39 = some ⟨oc39, od39, .func (PySem.W.fnOf "_law_body" "_law_body" (defArgs s_law_body) (defBody s_law_body) (defScope s_law_body) .none kV39 dc39 pm39 an39 cd39 ct39), sl39⟩)
    (c39 : PySem.W.codeIn K cd39 "_law_body" = true)
    (k39 : PySem.W.keepIn K (.ref f39) = true)
    (a40 : PySem.W.nsIn K mainGlobals "_law_choice" = some (some (.ref f40)))
    (l40 : K.lookup f40 = some ⟨oc40, od40, .func (PySem.W.fnOf "_law_choice" "_law_choice" (defArgs s_law_choice) (defBody s_law_choice) (defScope s_law_choice) .none kV40 dc40 pm40 an40 cd40 ct40), sl40⟩)
    (c40 : PySem.W.codeIn K cd40 "_law_choice" = true)
    (k40 : PySem.W.keepIn K (.ref f40) = true)
    (a41 : PySem.W.nsIn K mainGlobals "_law_statement" = some (some (.ref f41)))
    (l41 : K.lookup f41 = some ⟨oc41, od41, .func (PySem.W.fnOf "_law_statement" "_law_statement" (defArgs s_law_statement) (defBody s_law_statement) (defScope s_law_statement) .none kV41 dc41 pm41 an41 cd41 ct41), sl41⟩)
    (c41 : PySem.W.codeIn K cd41 "_law_statement" = true)
    (k41 : PySem.W.keepIn K (.ref f41) = true)
    (a42 : PySem.W.nsIn K mainGlobals "_law_same" = some (some (.ref f42)))
    (l42 : K.lookup f42 = some ⟨oc42, od42, .func (PySem.W.fnOf "_law_same" "_law_same" (defArgs s_law_same) (defBody s_law_same) (defScope s_law_same) .none kV42 dc42 pm42 an42 cd42 ct42), sl42⟩)
    (c42 : PySem.W.codeIn K cd42 "_law_same" = true)
    (k42 : PySem.W.keepIn K (.ref f42) = true)
    (a43 : PySem.W.nsIn K mainGlobals "_law_pairs" = some (some (.ref f43)))
    (l43 : K.lookup f43 = some ⟨oc43, od43, .func (PySem.W.fnOf "_law_pairs" "_law_pairs" (defArgs s_law_pairs) (defBody s_law_pairs) (defScope s_law_pairs) .none kV43 dc43 pm43 an43 cd43 ct43), sl43⟩)
    (c43 : PySem.W.codeIn K cd43 "_law_pairs" = true)
    (k43 : PySem.W.keepIn K (.ref f43) = true)
    (a44 : PySem.W.nsIn K mainGlobals "_law_read" = some (some (.ref f44)))
    (l44 : K.lookup f44 = some ⟨oc44, od44, .func (PySem.W.fnOf "_law_read" "_law_read" (defArgs s_law_read) (defBody s_law_read) (defScope s_law_read) .none kV44 dc44 pm44 an44 cd44 ct44), sl44⟩)
    (c44 : PySem.W.codeIn K cd44 "_law_read" = true)
    (k44 : PySem.W.keepIn K (.ref f44) = true)
    (a45 : PySem.W.nsIn K mainGlobals "law" = some (some (.ref f45)))
    (l45 : K.lookup f45 = some ⟨oc45, od45, .func (PySem.W.fnOf "law" "law" (defArgs s_law) (defBody s_law) (defScope s_law) .none kV45 dc45 pm45 an45 cd45 ct45), sl45⟩)
    (c45 : PySem.W.codeIn K cd45 "law" = true)
    (k45 : PySem.W.keepIn K (.ref f45) = true)
    (z_len : PySem.W.nsIn K mainGlobals "len" = some none)
    (z_int : PySem.W.nsIn K mainGlobals "int" = some none)
    (z_list : PySem.W.nsIn K mainGlobals "list" = some none)
    (z_range : PySem.W.nsIn K mainGlobals "range" = some none)
    (z_max : PySem.W.nsIn K mainGlobals "max" = some none)
    (z_str : PySem.W.nsIn K mainGlobals "str" = some none)
    (z_isinstance : PySem.W.nsIn K mainGlobals "isinstance" = some none)
    (z_bool : PySem.W.nsIn K mainGlobals "bool" = some none)
    (z_ord : PySem.W.nsIn K mainGlobals "ord" = some none)
    (z_tuple : PySem.W.nsIn K mainGlobals "tuple" = some none)
    (z_enumerate : PySem.W.nsIn K mainGlobals "enumerate" = some none)
    (z_min : PySem.W.nsIn K mainGlobals "min" = some none)
    (z_abs : PySem.W.nsIn K mainGlobals "abs" = some none)
    (z_all : PySem.W.nsIn K mainGlobals "all" = some none)
    (z_any : PySem.W.nsIn K mainGlobals "any" = some none)
    (z_sorted : PySem.W.nsIn K mainGlobals "sorted" = some none)
    (z_sum : PySem.W.nsIn K mainGlobals "sum" = some none)
    (g_SMALL : PySem.W.nsIn K mainGlobals "SMALL" = some (some (.str x_SMALL t_SMALL)))
    (e_SMALL : x_SMALL = ⟨(aLow : List Nat).toArray⟩)
    (g_CAPITAL : PySem.W.nsIn K mainGlobals "CAPITAL" = some (some (.str x_CAPITAL t_CAPITAL)))
    (e_CAPITAL : x_CAPITAL = ⟨(aUp : List Nat).toArray⟩)
    (g_DIGITS : PySem.W.nsIn K mainGlobals "DIGITS" = some (some (.str x_DIGITS t_DIGITS)))
    (e_DIGITS : x_DIGITS = ⟨(aDig : List Nat).toArray⟩)
    (g_QUOTE : PySem.W.nsIn K mainGlobals "QUOTE" = some (some (.str x_QUOTE t_QUOTE)))
    (e_QUOTE : x_QUOTE = ⟨([39] : List Nat).toArray⟩)
    (g_PERCENT : PySem.W.nsIn K mainGlobals "PERCENT" = some (some (.int 37 t_PERCENT)))
    (g_LONGEST_NAME : PySem.W.nsIn K mainGlobals "LONGEST_NAME" = some (some (.int 20 t_LONGEST_NAME)))
    (g_LONGEST_TEXT : PySem.W.nsIn K mainGlobals "LONGEST_TEXT" = some (some (.int 200 t_LONGEST_TEXT)))
    (g_GREATEST_NUMBER : PySem.W.nsIn K mainGlobals "GREATEST_NUMBER" = some (some (.int 1000000000 t_GREATEST_NUMBER)))
    (g_MOST_DIGITS : PySem.W.nsIn K mainGlobals "MOST_DIGITS" = some (some (.int 10 t_MOST_DIGITS)))
    (g_DEEPEST : PySem.W.nsIn K mainGlobals "DEEPEST" = some (some (.int 12 t_DEEPEST)))
    (g_MOST_PARAMETERS : PySem.W.nsIn K mainGlobals "MOST_PARAMETERS" = some (some (.int 8 t_MOST_PARAMETERS)))
    (g_MOST_VARIABLES : PySem.W.nsIn K mainGlobals "MOST_VARIABLES" = some (some (.int 8 t_MOST_VARIABLES)))
    (g_MOST_BLOCK_PARAMETERS : PySem.W.nsIn K mainGlobals "MOST_BLOCK_PARAMETERS" = some (some (.int 4 t_MOST_BLOCK_PARAMETERS)))
    (g_MOST_ARGUMENTS : PySem.W.nsIn K mainGlobals "MOST_ARGUMENTS" = some (some (.int 8 t_MOST_ARGUMENTS)))
    (g_LOOSEST : PySem.W.nsIn K mainGlobals "LOOSEST" = some (some (.int 1 t_LOOSEST)))
    (g_COMPARING : PySem.W.nsIn K mainGlobals "COMPARING" = some (some (.int 4 t_COMPARING)))
    (g_TIGHTEST : PySem.W.nsIn K mainGlobals "TIGHTEST" = some (some (.int 9 t_TIGHTEST)))
    (g_WORDS : PySem.W.nsIn K mainGlobals "WORDS" = some (some (.ref p_WORDS)))
    (l_WORDS : K.lookup p_WORDS = some ⟨.type "tuple", o_WORDS, .seq i_WORDS n_WORDS, s_WORDS⟩)
    (e_WORDS : valsT (WL) i_WORDS.toList = true)
    (g_MARKS : PySem.W.nsIn K mainGlobals "MARKS" = some (some (.ref p_MARKS)))
    (l_MARKS : K.lookup p_MARKS = some ⟨.type "tuple", o_MARKS, .seq i_MARKS n_MARKS, s_MARKS⟩)
    (e_MARKS : valsT (MLs) i_MARKS.toList = true)
    (sC : PySem.W.nsIn K mainGlobals "SourceError" = some (some (.ref C)))
    (sL : K.lookup C = some (excClassObj nm q C N bs bm true sn sub ab col dd m0 m1 m2 m3 m5 "ValueError.__new__"))
    (sV : PySem.HandSPX.refsVE bm = true)
    (sA : PySem.W.findIn K (.ref C) "__setattr__" = some (some (.builtin "object.__setattr__")))
    (sG : PySem.W.findIn K (.ref C) "__getattribute__" = some (some (.builtin "BaseException.__getattribute__")))
    (sH : PySem.W.findIn K (.ref C) "__getattr__" = some none)
    (sN : PySem.W.findIn K (.ref C) "at" = some none)
    (sI : PySem.W.findIn K (.ref C) "__init__" = some (some (.ref fI)))
    (sT : PySem.W.typeIn K (.ref fI) = some (.type "function"))
    (sK : PySem.W.keepIn K (.ref C) = true)
    (sB : PySem.W.subIn K (.ref C) (.type "BaseException") = some true)
    (sE : PySem.W.subIn K (.ref C) (.type "ValueError") = some true)
    (sY : PySem.W.typeIn K (.ref C) = some (.type "type"))
    (sD : PySem.W.hasDictIn K C = true)
    (sJ : PySem.W.isClsIn K C = true)
    (sS : PySem.W.subIn K (.ref C) (.ref C) = some true)
    (sO : PySem.W.nsIn K cStatics "thirdparty.any" = some none)
    (sU : PySem.W.ks_superIn K C C "__init__" = some (some (.builtin "ValueError.__init__")))
    (sM : PySem.W.mroIn K C (.ref C) = some true)
    (sF : PySem.W.nsIn K mainGlobals "super" = some none)
    (sP : (P.main.scope.names.lookup ("super" : Str)).isSome = false)
    (sQ : K.lookup fI = some ⟨ocI, odI, .func (PySem.W.fnX "__init__" qual PySem.SrcX.eA PySem.SrcX.eB PySem.SrcX.eS [("__class__", cc)] .none .none docI pmI anI (.ref cda) ctI), oslI⟩)
    (sR : PySem.W.codeIn K (.ref cda) qual = true)
    (sW : K.lookup cda = some ⟨ccl, cdd, .fields vs, ccs⟩)
    (sX : vs[2]? = some (.str file tf))
    (sZ : ((P.main.file : Str) == file) = true)
    (s0 : K.lookup cc = some ⟨ccl2, cdd2, .cell (some (.ref C)), ccs2⟩)
    (rC : PySem.W.nsIn K mainGlobals "Reader" = some (some (.ref RC)))
    (rG : PySem.W.plainGet K RC Str.empty = true)
    (rD : PySem.W.hasDictIn K RC = true)
    (rO : PySem.W.plainOver K RC = true)
    (rS : PySem.W.findIn K (.ref RC) "__setattr__" = some (some (.builtin "object.__setattr__")))
    (rM : PySem.W.makesIn K RC = true)
    (rK : PySem.W.keepIn K (.ref RC) = true)
    (rn_tokens : PySem.W.findIn K (.ref RC) "tokens" = some none)
    (rn_now : PySem.W.findIn K (.ref RC) "now" = some none)
    (rn_depths : PySem.W.findIn K (.ref RC) "depths" = some none)
    (rn_twice : PySem.W.findIn K (.ref RC) "twice" = some none)
    (qi_refuse : PySem.W.findIn K (.ref RC) "refuse" = some (some (.ref q_refuse)))
    (qf_refuse : PySem.W.isFn K (.ref q_refuse) = true)
    (ql_refuse : K.lookup q_refuse = some ⟨oc_refuse, od_refuse, .func (PySem.W.fnOf "refuse" "Reader.refuse" (defArgs s_Reader_refuse) (defBody s_Reader_refuse) (defScope s_Reader_refuse) .none kV_refuse dc_refuse pm_refuse an_refuse cd_refuse ct_refuse), sl_refuse⟩)
    (qc_refuse : PySem.W.codeIn K cd_refuse "Reader.refuse" = true)
    (qk_refuse : PySem.W.keepIn K (.ref q_refuse) = true)
    (qi_fixed : PySem.W.findIn K (.ref RC) "fixed" = some (some (.ref q_fixed)))
    (qf_fixed : PySem.W.isFn K (.ref q_fixed) = true)
    (ql_fixed : K.lookup q_fixed = some ⟨oc_fixed, od_fixed, .func (PySem.W.fnOf "fixed" "Reader.fixed" (defArgs s_Reader_fixed) (defBody s_Reader_fixed) (defScope s_Reader_fixed) (.ref dT) kV_fixed dc_fixed pm_fixed an_fixed cd_fixed ct_fixed), sl_fixed⟩)
    (qc_fixed : PySem.W.codeIn K cd_fixed "Reader.fixed" = true)
    (qk_fixed : PySem.W.keepIn K (.ref q_fixed) = true)
    (qT : K.lookup dT = some ⟨.type "tuple", dTo, .seq dTi dTn, dTs⟩)
    (qV : Vals [.int 0] dTi.toList)
    (qi_accept : PySem.W.findIn K (.ref RC) "accept" = some (some (.ref q_accept)))
    (qf_accept : PySem.W.isFn K (.ref q_accept) = true)
    (ql_accept : K.lookup q_accept = some ⟨oc_accept, od_accept, .func (PySem.W.fnOf "accept" "Reader.accept" (defArgs s_Reader_accept) (defBody s_Reader_accept) (defScope s_Reader_accept) .none kV_accept dc_accept pm_accept an_accept cd_accept ct_accept), sl_accept⟩)
    (qc_accept : PySem.W.codeIn K cd_accept "Reader.accept" = true)
    (qk_accept : PySem.W.keepIn K (.ref q_accept) = true)
    (qi_expect : PySem.W.findIn K (.ref RC) "expect" = some (some (.ref q_expect)))
    (qf_expect : PySem.W.isFn K (.ref q_expect) = true)
    (ql_expect : K.lookup q_expect = some ⟨oc_expect, od_expect, .func (PySem.W.fnOf "expect" "Reader.expect" (defArgs s_Reader_expect) (defBody s_Reader_expect) (defScope s_Reader_expect) .none kV_expect dc_expect pm_expect an_expect cd_expect ct_expect), sl_expect⟩)
    (qc_expect : PySem.W.codeIn K cd_expect "Reader.expect" = true)
    (qk_expect : PySem.W.keepIn K (.ref q_expect) = true)
    (qi_take : PySem.W.findIn K (.ref RC) "take" = some (some (.ref q_take)))
    (qf_take : PySem.W.isFn K (.ref q_take) = true)
    (ql_take : K.lookup q_take = some ⟨oc_take, od_take, .func (PySem.W.fnOf "take" "Reader.take" (defArgs s_Reader_take) (defBody s_Reader_take) (defScope s_Reader_take) .none kV_take dc_take pm_take an_take cd_take ct_take), sl_take⟩)
    (qc_take : PySem.W.codeIn K cd_take "Reader.take" = true)
    (qk_take : PySem.W.keepIn K (.ref q_take) = true)
    (qi_name_stands_before : PySem.W.findIn K (.ref RC) "name_stands_before" = some (some (.ref q_name_stands_before)))
    (qf_name_stands_before : PySem.W.isFn K (.ref q_name_stands_before) = true)
    (ql_name_stands_before : K.lookup q_name_stands_before = some ⟨oc_name_stands_before, od_name_stands_before, .func (PySem.W.fnOf "name_stands_before" "Reader.name_stands_before" (defArgs s_Reader_name_stands_before) (defBody s_Reader_name_stands_before) (defScope s_Reader_name_stands_before) .none kV_name_stands_before dc_name_stands_before pm_name_stands_before an_name_stands_before cd_name_stands_before ct_name_stands_before), sl_name_stands_before⟩)
    (qc_name_stands_before : PySem.W.codeIn K cd_name_stands_before "Reader.name_stands_before" = true)
    (qk_name_stands_before : PySem.W.keepIn K (.ref q_name_stands_before) = true)
    (qi_names : PySem.W.findIn K (.ref RC) "names" = some (some (.ref q_names)))
    (qf_names : PySem.W.isFn K (.ref q_names) = true)
    (ql_names : K.lookup q_names = some ⟨oc_names, od_names, .func (PySem.W.fnOf "names" "Reader.names" (defArgs s_Reader_names) (defBody s_Reader_names) (defScope s_Reader_names) .none kV_names dc_names pm_names an_names cd_names ct_names), sl_names⟩)
    (qc_names : PySem.W.codeIn K cd_names "Reader.names" = true)
    (qk_names : PySem.W.keepIn K (.ref q_names) = true)
    (qi_note_twice : PySem.W.findIn K (.ref RC) "note_twice" = some (some (.ref q_note_twice)))
    (qf_note_twice : PySem.W.isFn K (.ref q_note_twice) = true)
    (ql_note_twice : K.lookup q_note_twice = some ⟨oc_note_twice, od_note_twice, .func (PySem.W.fnOf "note_twice" "Reader.note_twice" (defArgs s_Reader_note_twice) (defBody s_Reader_note_twice) (defScope s_Reader_note_twice) .none kV_note_twice dc_note_twice pm_note_twice an_note_twice cd_note_twice ct_note_twice), sl_note_twice⟩)
    (qc_note_twice : PySem.W.codeIn K cd_note_twice "Reader.note_twice" = true)
    (qk_note_twice : PySem.W.keepIn K (.ref q_note_twice) = true)
    (qi_begin : PySem.W.findIn K (.ref RC) "begin" = some (some (.ref q_begin)))
    (qf_begin : PySem.W.isFn K (.ref q_begin) = true)
    (ql_begin : K.lookup q_begin = some ⟨oc_begin, od_begin, .func (PySem.W.fnOf "begin" "Reader.begin" (defArgs s_Reader_begin) (defBody s_Reader_begin) (defScope s_Reader_begin) .none kV_begin dc_begin pm_begin an_begin cd_begin ct_begin), sl_begin⟩)
    (qc_begin : PySem.W.codeIn K cd_begin "Reader.begin" = true)
    (qk_begin : PySem.W.keepIn K (.ref q_begin) = true)
    (qi_deepen : PySem.W.findIn K (.ref RC) "deepen" = some (some (.ref q_deepen)))
    (qf_deepen : PySem.W.isFn K (.ref q_deepen) = true)
    (ql_deepen : K.lookup q_deepen = some ⟨oc_deepen, od_deepen, .func (PySem.W.fnOf "deepen" "Reader.deepen" (defArgs s_Reader_deepen) (defBody s_Reader_deepen) (defScope s_Reader_deepen) .none kV_deepen dc_deepen pm_deepen an_deepen cd_deepen ct_deepen), sl_deepen⟩)
    (qc_deepen : PySem.W.codeIn K cd_deepen "Reader.deepen" = true)
    (qk_deepen : PySem.W.keepIn K (.ref q_deepen) = true)
    (qi_body : PySem.W.findIn K (.ref RC) "body" = some (some (.ref q_body)))
    (qf_body : PySem.W.isFn K (.ref q_body) = true)
    (ql_body : K.lookup q_body = some ⟨oc_body, od_body, .func (PySem.W.fnOf "body" "Reader.body" (defArgs s_Reader_body) (defBody s_Reader_body) (defScope s_Reader_body) .none kV_body dc_body pm_body an_body cd_body ct_body), sl_body⟩)
    (qc_body : PySem.W.codeIn K cd_body "Reader.body" = true)
    (qk_body : PySem.W.keepIn K (.ref q_body) = true)
    (qi_statement : PySem.W.findIn K (.ref RC) "statement" = some (some (.ref q_statement)))
    (qf_statement : PySem.W.isFn K (.ref q_statement) = true)
    (ql_statement : K.lookup q_statement = some ⟨oc_statement, od_statement, .func (PySem.W.fnOf "statement" "Reader.statement" (defArgs s_Reader_statement) (defBody s_Reader_statement) (defScope s_Reader_statement) .none kV_statement dc_statement pm_statement an_statement cd_statement ct_statement), sl_statement⟩)
    (qc_statement : PySem.W.codeIn K cd_statement "Reader.statement" = true)
    (qk_statement : PySem.W.keepIn K (.ref q_statement) = true)
    (qi_set_statement : PySem.W.findIn K (.ref RC) "set_statement" = some (some (.ref q_set_statement)))
    (qf_set_statement : PySem.W.isFn K (.ref q_set_statement) = true)
    (ql_set_statement : K.lookup q_set_statement = some ⟨oc_set_statement, od_set_statement, .func (PySem.W.fnOf "set_statement" "Reader.set_statement" (defArgs s_Reader_set_statement) (defBody s_Reader_set_statement) (defScope s_Reader_set_statement) .none kV_set_statement dc_set_statement pm_set_statement an_set_statement cd_set_statement ct_set_statement), sl_set_statement⟩)
    (qc_set_statement : PySem.W.codeIn K cd_set_statement "Reader.set_statement" = true)
    (qk_set_statement : PySem.W.keepIn K (.ref q_set_statement) = true)
    (qi_while_statement : PySem.W.findIn K (.ref RC) "while_statement" = some (some (.ref q_while_statement)))
    (qf_while_statement : PySem.W.isFn K (.ref q_while_statement) = true)
    (ql_while_statement : K.lookup q_while_statement = some ⟨oc_while_statement, od_while_statement, .func (PySem.W.fnOf "while_statement" "Reader.while_statement" (defArgs s_Reader_while_statement) (defBody s_Reader_while_statement) (defScope s_Reader_while_statement) .none kV_while_statement dc_while_statement pm_while_statement an_while_statement cd_while_statement ct_while_statement), sl_while_statement⟩)
    (qc_while_statement : PySem.W.codeIn K cd_while_statement "Reader.while_statement" = true)
    (qk_while_statement : PySem.W.keepIn K (.ref q_while_statement) = true)
    (qi_if_statement : PySem.W.findIn K (.ref RC) "if_statement" = some (some (.ref q_if_statement)))
    (qf_if_statement : PySem.W.isFn K (.ref q_if_statement) = true)
    (ql_if_statement : K.lookup q_if_statement = some ⟨oc_if_statement, od_if_statement, .func (PySem.W.fnOf "if_statement" "Reader.if_statement" (defArgs s_Reader_if_statement) (defBody s_Reader_if_statement) (defScope s_Reader_if_statement) .none kV_if_statement dc_if_statement pm_if_statement an_if_statement cd_if_statement ct_if_statement), sl_if_statement⟩)
    (qc_if_statement : PySem.W.codeIn K cd_if_statement "Reader.if_statement" = true)
    (qk_if_statement : PySem.W.keepIn K (.ref q_if_statement) = true)
    (qi_try_statement : PySem.W.findIn K (.ref RC) "try_statement" = some (some (.ref q_try_statement)))
    (qf_try_statement : PySem.W.isFn K (.ref q_try_statement) = true)
    (ql_try_statement : K.lookup q_try_statement = some ⟨oc_try_statement, od_try_statement, .func (PySem.W.fnOf "try_statement" "Reader.try_statement" (defArgs s_Reader_try_statement) (defBody s_Reader_try_statement) (defScope s_Reader_try_statement) .none kV_try_statement dc_try_statement pm_try_statement an_try_statement cd_try_statement ct_try_statement), sl_try_statement⟩)
    (qc_try_statement : PySem.W.codeIn K cd_try_statement "Reader.try_statement" = true)
    (qk_try_statement : PySem.W.keepIn K (.ref q_try_statement) = true)
    (qi_keep_statement : PySem.W.findIn K (.ref RC) "keep_statement" = some (some (.ref q_keep_statement)))
    (qf_keep_statement : PySem.W.isFn K (.ref q_keep_statement) = true)
    (ql_keep_statement : K.lookup q_keep_statement = some ⟨oc_keep_statement, od_keep_statement, .func (PySem.W.fnOf "keep_statement" "Reader.keep_statement" (defArgs s_Reader_keep_statement) (defBody s_Reader_keep_statement) (defScope s_Reader_keep_statement) .none kV_keep_statement dc_keep_statement pm_keep_statement an_keep_statement cd_keep_statement ct_keep_statement), sl_keep_statement⟩)
    (qc_keep_statement : PySem.W.codeIn K cd_keep_statement "Reader.keep_statement" = true)
    (qk_keep_statement : PySem.W.keepIn K (.ref q_keep_statement) = true)
    (qi_expression : PySem.W.findIn K (.ref RC) "expression" = some (some (.ref q_expression)))
    (qf_expression : PySem.W.isFn K (.ref q_expression) = true)
    (ql_expression : K.lookup q_expression = some ⟨oc_expression, od_expression, .func (PySem.W.fnOf "expression" "Reader.expression" (defArgs s_Reader_expression) (defBody s_Reader_expression) (defScope s_Reader_expression) .none kV_expression dc_expression pm_expression an_expression cd_expression ct_expression), sl_expression⟩)
    (qc_expression : PySem.W.codeIn K cd_expression "Reader.expression" = true)
    (qk_expression : PySem.W.keepIn K (.ref q_expression) = true)
    (qi_opening : PySem.W.findIn K (.ref RC) "opening" = some (some (.ref q_opening)))
    (qf_opening : PySem.W.isFn K (.ref q_opening) = true)
    (ql_opening : K.lookup q_opening = some ⟨oc_opening, od_opening, .func (PySem.W.fnOf "opening" "Reader.opening" (defArgs s_Reader_opening) (defBody s_Reader_opening) (defScope s_Reader_opening) .none kV_opening dc_opening pm_opening an_opening cd_opening ct_opening), sl_opening⟩)
    (qc_opening : PySem.W.codeIn K cd_opening "Reader.opening" = true)
    (qk_opening : PySem.W.keepIn K (.ref q_opening) = true)
    (qi_primary : PySem.W.findIn K (.ref RC) "primary" = some (some (.ref q_primary)))
    (qf_primary : PySem.W.isFn K (.ref q_primary) = true)
    (ql_primary : K.lookup q_primary = some ⟨oc_primary, od_primary, .func (PySem.W.fnOf "primary" "Reader.primary" (defArgs s_Reader_primary) (defBody s_Reader_primary) (defScope s_Reader_primary) .none kV_primary dc_primary pm_primary an_primary cd_primary ct_primary), sl_primary⟩)
    (qc_primary : PySem.W.codeIn K cd_primary "Reader.primary" = true)
    (qk_primary : PySem.W.keepIn K (.ref q_primary) = true)
    (qi_block : PySem.W.findIn K (.ref RC) "block" = some (some (.ref q_block)))
    (qf_block : PySem.W.isFn K (.ref q_block) = true)
    (ql_block : K.lookup q_block = some ⟨oc_block, od_block, .func (PySem.W.fnOf "block" "Reader.block" (defArgs s_Reader_block) (defBody s_Reader_block) (defScope s_Reader_block) .none kV_block dc_block pm_block an_block cd_block ct_block), sl_block⟩)
    (qc_block : PySem.W.codeIn K cd_block "Reader.block" = true)
    (qk_block : PySem.W.keepIn K (.ref q_block) = true)
    (qi_super_send : PySem.W.findIn K (.ref RC) "super_send" = some (some (.ref q_super_send)))
    (qf_super_send : PySem.W.isFn K (.ref q_super_send) = true)
    (ql_super_send : K.lookup q_super_send = some ⟨oc_super_send, od_super_send, .func (PySem.W.fnOf "super_send" "Reader.super_send" (defArgs s_Reader_super_send) (defBody s_Reader_super_send) (defScope s_Reader_super_send) .none kV_super_send dc_super_send pm_super_send an_super_send cd_super_send ct_super_send), sl_super_send⟩)
    (qc_super_send : PySem.W.codeIn K cd_super_send "Reader.super_send" = true)
    (qk_super_send : PySem.W.keepIn K (.ref q_super_send) = true)
    (qi_arguments : PySem.W.findIn K (.ref RC) "arguments" = some (some (.ref q_arguments)))
    (qf_arguments : PySem.W.isFn K (.ref q_arguments) = true)
    (ql_arguments : K.lookup q_arguments = some ⟨oc_arguments, od_arguments, .func (PySem.W.fnOf "arguments" "Reader.arguments" (defArgs s_Reader_arguments) (defBody s_Reader_arguments) (defScope s_Reader_arguments) .none kV_arguments dc_arguments pm_arguments an_arguments cd_arguments ct_arguments), sl_arguments⟩)
    (qc_arguments : PySem.W.codeIn K cd_arguments "Reader.arguments" = true)
    (qk_arguments : PySem.W.keepIn K (.ref q_arguments) = true)
    (qi_finish : PySem.W.findIn K (.ref RC) "finish" = some (some (.ref q_finish)))
    (qf_finish : PySem.W.isFn K (.ref q_finish) = true)
    (ql_finish : K.lookup q_finish = some ⟨oc_finish, od_finish, .func (PySem.W.fnOf "finish" "Reader.finish" (defArgs s_Reader_finish) (defBody s_Reader_finish) (defScope s_Reader_finish) .none kV_finish dc_finish pm_finish an_finish cd_finish ct_finish), sl_finish⟩)
    (qc_finish : PySem.W.codeIn K cd_finish "Reader.finish" = true)
    (qk_finish : PySem.W.keepIn K (.ref q_finish) = true)
    (qi_init : PySem.W.findIn K (.ref RC) "__init__" = some (some (.ref q_init)))
    (qf_init : PySem.W.isFn K (.ref q_init) = true)
    (ql_init : K.lookup q_init = some ⟨oc_init, od_init, .func (PySem.W.fnOf "__init__" "Reader.__init__" (defArgs s_Reader___init__) (defBody s_Reader___init__) (defScope s_Reader___init__) .none kV_init dc_init pm_init an_init cd_init ct_init), sl_init⟩)
    (qc_init : PySem.W.codeIn K cd_init "Reader.__init__" = true)
    (qk_init : PySem.W.keepIn K (.ref q_init) = true)
    (dg_PLAIN : PySem.W.nsIn K mainGlobals "PLAIN" = some (some (.ref a_PLAIN)))
    (dl_PLAIN : K.lookup a_PLAIN = some ⟨.type "dict", none, .dict es_PLAIN en_PLAIN, #[]⟩)
    (dk_PLAIN : es_PLAIN.toList.map He.keyOf = He.keysIn w.params ["none", "true", "false"])
    (de_PLAIN : entB es_PLAIN.toList (plainL) = true)
    (do_PLAIN : (a_PLAIN == sysModules) = false)
    (dg_LEVELS_AHEAD : PySem.W.nsIn K mainGlobals "LEVELS_AHEAD" = some (some (.ref a_LEVELS_AHEAD)))
    (dl_LEVELS_AHEAD : K.lookup a_LEVELS_AHEAD = some ⟨.type "dict", none, .dict es_LEVELS_AHEAD en_LEVELS_AHEAD, #[]⟩)
    (dk_LEVELS_AHEAD : es_LEVELS_AHEAD.toList.map He.keyOf = He.keysIn w.params ["not", "-"])
    (de_LEVELS_AHEAD : entB es_LEVELS_AHEAD.toList (numsV aheadN) = true)
    (do_LEVELS_AHEAD : (a_LEVELS_AHEAD == sysModules) = false)
    (dg_TREES_AHEAD : PySem.W.nsIn K mainGlobals "TREES_AHEAD" = some (some (.ref a_TREES_AHEAD)))
    (dl_TREES_AHEAD : K.lookup a_TREES_AHEAD = some ⟨.type "dict", none, .dict es_TREES_AHEAD en_TREES_AHEAD, #[]⟩)
    (dk_TREES_AHEAD : es_TREES_AHEAD.toList.map He.keyOf = He.keysIn w.params ["not", "-"])
    (de_TREES_AHEAD : entB es_TREES_AHEAD.toList (txtsV treesN) = true)
    (do_TREES_AHEAD : (a_TREES_AHEAD == sysModules) = false)
    (dg_LEVELS_BEHIND : PySem.W.nsIn K mainGlobals "LEVELS_BEHIND" = some (some (.ref a_LEVELS_BEHIND)))
    (dl_LEVELS_BEHIND : K.lookup a_LEVELS_BEHIND = some ⟨.type "dict", none, .dict es_LEVELS_BEHIND en_LEVELS_BEHIND, #[]⟩)
    (dk_LEVELS_BEHIND : es_LEVELS_BEHIND.toList.map He.keyOf = He.keysIn w.params ["or", "and", "=", "<", "<=", "+", "-", "*", "/", "."])
    (de_LEVELS_BEHIND : entB es_LEVELS_BEHIND.toList (numsV behN) = true)
    (do_LEVELS_BEHIND : (a_LEVELS_BEHIND == sysModules) = false)
    (nC : PySem.W.nsIn K mainGlobals "NameTwice" = some (some (.ref NT)))
    (nL : K.lookup NT = some (excClassObj nmN qN NT Nn bsN bmN true snN subN abN colN ddN m0N m1N m2N m3N m5N "ValueError.__new__"))
    (nV : PySem.HandSPX.refsVE bmN = true)
    (nA : PySem.W.findIn K (.ref NT) "__setattr__" = some (some (.builtin "object.__setattr__")))
    (nG : PySem.W.findIn K (.ref NT) "__getattribute__" = some (some (.builtin "BaseException.__getattribute__")))
    (nH : PySem.W.findIn K (.ref NT) "__getattr__" = some none)
    (nN : PySem.W.findIn K (.ref NT) "name" = some none)
    (nI : PySem.W.findIn K (.ref NT) "__init__" = some (some (.ref fN)))
    (nT : PySem.W.typeIn K (.ref fN) = some (.type "function"))
    (nK : PySem.W.keepIn K (.ref NT) = true)
    (nB : PySem.W.subIn K (.ref NT) (.type "BaseException") = some true)
    (nE : PySem.W.subIn K (.ref NT) (.type "ValueError") = some true)
    (nY : PySem.W.typeIn K (.ref NT) = some (.type "type"))
    (nD : PySem.W.hasDictIn K NT = true)
    (nJ : PySem.W.isClsIn K NT = true)
    (nS : PySem.W.subIn K (.ref NT) (.ref NT) = some true)
    (nU : PySem.W.ks_superIn K NT NT "__init__" = some (some (.builtin "ValueError.__init__")))
    (nM : PySem.W.mroIn K NT (.ref NT) = some true)
    (nQ : K.lookup fN = some ⟨ocN, odN, .func (PySem.W.fnX "__init__" qualN PySem.NamX.eA PySem.NamX.eB PySem.NamX.eS [("__class__", ccN)] .none .none docN pmN anN (.ref cdaN) ctN), oslN⟩)
    (nR : PySem.W.codeIn K (.ref cdaN) qualN = true)
    (nW : K.lookup cdaN = some ⟨cclN, cddN, .fields vsN, ccsN⟩)
    (nX : vsN[2]? = some (.str fileN tfN))
    (nZ : ((P.main.file : Str) == fileN) = true)
    (n0 : K.lookup ccN = some ⟨ccl2N, cdd2N, .cell (some (.ref NT)), ccs2N⟩)
    : ∃ fd : FuncData, (∀ (s : Shared) (v : Value), BindsTo s fd ⟨[v], []⟩ [("script", v)]) ∧ ∀ base : Heap, K.In base → base.Ns mainGlobals mg → FnOk P w K mg base CX0 148 fa fd ["script"] (spLaw K) := by
  have e := hfa.symm.trans (PySem.W.mg_of X G a45)
  cases e
  have Y : Bn mg := ⟨PySem.W.mg_none_of X G z_len, PySem.W.mg_none_of X G z_int, PySem.W.mg_none_of X G z_list, PySem.W.mg_none_of X G z_range, PySem.W.mg_none_of X G z_max, PySem.W.mg_none_of X G z_str, PySem.W.mg_none_of X G z_isinstance, PySem.W.mg_none_of X G z_bool, PySem.W.mg_none_of X G z_ord, PySem.W.mg_none_of X G z_tuple, PySem.W.mg_none_of X G z_enumerate, PySem.W.mg_none_of X G z_min, PySem.W.mg_none_of X G z_abs, PySem.W.mg_none_of X G z_all, PySem.W.mg_none_of X G z_any, PySem.W.mg_none_of X G z_sorted, PySem.W.mg_none_of X G z_sum⟩
  have src : PySem.SrcX.SrcTxt P K mg "SourceError" C fI := {
    gC := PySem.W.mg_of X G sC, cls := ⟨nm, q, N, bs, bm, sn, sub, ab, col, dd, m0, m1, m2, m3, m5, sL, sV⟩, sa := sA, ga := sG, gg := sH, noN := sN, iC := sI, tC := sT, kC := sK, exC := sB, veC := sE, tyC := sY, hdC := sD,
    te := exm_self sB sJ sY sS, op := sO, up := sU, mr := sM, su := PySem.W.mg_none_of X G sF, top := sP,
    fn := ⟨ocI, odI, docI, pmI, anI, cda, cc, ctI, oslI, qual, ccl, ccl2, cdd, cdd2, ccs, ccs2, vs, file, tf, sQ, sR, sW, sX, sZ, s0⟩ }
  have Z : TokTx P K mg C fI := ⟨src, ⟨p_WORDS, ⟨_, PySem.W.mg_of X G g_WORDS, rfl⟩, sqT_top l_WORDS e_WORDS (by decide +kernel)⟩, ⟨p_MARKS, ⟨_, PySem.W.mg_of X G g_MARKS, rfl⟩, sqT_top l_MARKS e_MARKS (by decide +kernel)⟩, ⟨_, PySem.W.mg_of X G g_SMALL, ⟨t_SMALL, by rw [e_SMALL]⟩⟩, ⟨_, PySem.W.mg_of X G g_CAPITAL, ⟨t_CAPITAL, by rw [e_CAPITAL]⟩⟩, ⟨_, PySem.W.mg_of X G g_DIGITS, ⟨t_DIGITS, by rw [e_DIGITS]⟩⟩, ⟨_, PySem.W.mg_of X G g_QUOTE, ⟨t_QUOTE, by rw [e_QUOTE]⟩⟩, ⟨_, PySem.W.mg_of X G g_PERCENT, ⟨t_PERCENT, rfl⟩⟩, ⟨_, PySem.W.mg_of X G g_LONGEST_NAME, ⟨t_LONGEST_NAME, rfl⟩⟩, ⟨_, PySem.W.mg_of X G g_LONGEST_TEXT, ⟨t_LONGEST_TEXT, rfl⟩⟩, ⟨_, PySem.W.mg_of X G g_GREATEST_NUMBER, ⟨t_GREATEST_NUMBER, rfl⟩⟩, ⟨_, PySem.W.mg_of X G g_MOST_DIGITS, ⟨t_MOST_DIGITS, rfl⟩⟩⟩
  have cl : Cls K RC := ⟨rG, rD, rO, rS⟩
  have M_refuse : Meth K RC "refuse" q_refuse := ⟨qi_refuse, qf_refuse, qk_refuse⟩
  have D_refuse := fun_mk (st := s_Reader_refuse) ql_refuse qc_refuse qk_refuse
  have B_refuse := D_refuse.binds (ps := ["self"]) fun _ _ _ _ _ _ us hl => match us, hl with | [_], _ => rfl
  have M_fixed : Meth K RC "fixed" q_fixed := ⟨qi_fixed, qf_fixed, qk_fixed⟩
  have D_fixed : FunD K "fixed" "Reader.fixed" (defArgs s_Reader_fixed) (defBody s_Reader_fixed) (defScope s_Reader_fixed) [.int 0] [] q_fixed (PySem.W.fnOf "fixed" "Reader.fixed" (defArgs s_Reader_fixed) (defBody s_Reader_fixed) (defScope s_Reader_fixed) (.ref dT) kV_fixed dc_fixed pm_fixed an_fixed cd_fixed ct_fixed) := ⟨⟨oc_fixed, od_fixed, .ref dT, kV_fixed, dc_fixed, pm_fixed, an_fixed, cd_fixed, ct_fixed, sl_fixed, rfl, ql_fixed, qc_fixed, .inr ⟨List.cons_ne_nil _ _, dT, _, dTi.toList, dTn, rfl, qT, rfl, qV⟩, .inl rfl⟩, qk_fixed⟩
  have M_accept : Meth K RC "accept" q_accept := ⟨qi_accept, qf_accept, qk_accept⟩
  have D_accept := fun_mk (st := s_Reader_accept) ql_accept qc_accept qk_accept
  have B_accept := D_accept.binds (ps := ["self", "wanted"]) fun _ _ _ _ _ _ us hl => match us, hl with | [_, _], _ => rfl
  have M_expect : Meth K RC "expect" q_expect := ⟨qi_expect, qf_expect, qk_expect⟩
  have D_expect := fun_mk (st := s_Reader_expect) ql_expect qc_expect qk_expect
  have B_expect := D_expect.binds (ps := ["self", "wanted"]) fun _ _ _ _ _ _ us hl => match us, hl with | [_, _], _ => rfl
  have M_take : Meth K RC "take" q_take := ⟨qi_take, qf_take, qk_take⟩
  have D_take := fun_mk (st := s_Reader_take) ql_take qc_take qk_take
  have B_take := D_take.binds (ps := ["self", "wanted"]) fun _ _ _ _ _ _ us hl => match us, hl with | [_, _], _ => rfl
  have M_name_stands_before : Meth K RC "name_stands_before" q_name_stands_before := ⟨qi_name_stands_before, qf_name_stands_before, qk_name_stands_before⟩
  have D_name_stands_before := fun_mk (st := s_Reader_name_stands_before) ql_name_stands_before qc_name_stands_before qk_name_stands_before
  have B_name_stands_before := D_name_stands_before.binds (ps := ["self", "marks"]) fun _ _ _ _ _ _ us hl => match us, hl with | [_, _], _ => rfl
  have M_names : Meth K RC "names" q_names := ⟨qi_names, qf_names, qk_names⟩
  have D_names := fun_mk (st := s_Reader_names) ql_names qc_names qk_names
  have B_names := D_names.binds (ps := ["self", "most"]) fun _ _ _ _ _ _ us hl => match us, hl with | [_, _], _ => rfl
  have M_note_twice : Meth K RC "note_twice" q_note_twice := ⟨qi_note_twice, qf_note_twice, qk_note_twice⟩
  have D_note_twice := fun_mk (st := s_Reader_note_twice) ql_note_twice qc_note_twice qk_note_twice
  have B_note_twice := D_note_twice.binds (ps := ["self", "names"]) fun _ _ _ _ _ _ us hl => match us, hl with | [_, _], _ => rfl
  have M_begin : Meth K RC "begin" q_begin := ⟨qi_begin, qf_begin, qk_begin⟩
  have D_begin := fun_mk (st := s_Reader_begin) ql_begin qc_begin qk_begin
  have B_begin := D_begin.binds (ps := ["self", "depth"]) fun _ _ _ _ _ _ us hl => match us, hl with | [_, _], _ => rfl
  have M_deepen : Meth K RC "deepen" q_deepen := ⟨qi_deepen, qf_deepen, qk_deepen⟩
  have D_deepen := fun_mk (st := s_Reader_deepen) ql_deepen qc_deepen qk_deepen
  have B_deepen := D_deepen.binds (ps := ["self", "first"]) fun _ _ _ _ _ _ us hl => match us, hl with | [_, _], _ => rfl
  have M_body : Meth K RC "body" q_body := ⟨qi_body, qf_body, qk_body⟩
  have D_body := fun_mk (st := s_Reader_body) ql_body qc_body qk_body
  have B_body := D_body.binds (ps := ["self", "ends", "depth"]) fun _ _ _ _ _ _ us hl => match us, hl with | [_, _, _], _ => rfl
  have M_statement : Meth K RC "statement" q_statement := ⟨qi_statement, qf_statement, qk_statement⟩
  have D_statement := fun_mk (st := s_Reader_statement) ql_statement qc_statement qk_statement
  have B_statement := D_statement.binds (ps := ["self", "depth"]) fun _ _ _ _ _ _ us hl => match us, hl with | [_, _], _ => rfl
  have M_set_statement : Meth K RC "set_statement" q_set_statement := ⟨qi_set_statement, qf_set_statement, qk_set_statement⟩
  have D_set_statement := fun_mk (st := s_Reader_set_statement) ql_set_statement qc_set_statement qk_set_statement
  have B_set_statement := D_set_statement.binds (ps := ["self", "depth"]) fun _ _ _ _ _ _ us hl => match us, hl with | [_, _], _ => rfl
  have M_while_statement : Meth K RC "while_statement" q_while_statement := ⟨qi_while_statement, qf_while_statement, qk_while_statement⟩
  have D_while_statement := fun_mk (st := s_Reader_while_statement) ql_while_statement qc_while_statement qk_while_statement
  have B_while_statement := D_while_statement.binds (ps := ["self", "depth"]) fun _ _ _ _ _ _ us hl => match us, hl with | [_, _], _ => rfl
  have M_if_statement : Meth K RC "if_statement" q_if_statement := ⟨qi_if_statement, qf_if_statement, qk_if_statement⟩
  have D_if_statement := fun_mk (st := s_Reader_if_statement) ql_if_statement qc_if_statement qk_if_statement
  have B_if_statement := D_if_statement.binds (ps := ["self", "depth"]) fun _ _ _ _ _ _ us hl => match us, hl with | [_, _], _ => rfl
  have M_try_statement : Meth K RC "try_statement" q_try_statement := ⟨qi_try_statement, qf_try_statement, qk_try_statement⟩
  have D_try_statement := fun_mk (st := s_Reader_try_statement) ql_try_statement qc_try_statement qk_try_statement
  have B_try_statement := D_try_statement.binds (ps := ["self", "depth"]) fun _ _ _ _ _ _ us hl => match us, hl with | [_, _], _ => rfl
  have M_keep_statement : Meth K RC "keep_statement" q_keep_statement := ⟨qi_keep_statement, qf_keep_statement, qk_keep_statement⟩
  have D_keep_statement := fun_mk (st := s_Reader_keep_statement) ql_keep_statement qc_keep_statement qk_keep_statement
  have B_keep_statement := D_keep_statement.binds (ps := ["self", "depth"]) fun _ _ _ _ _ _ us hl => match us, hl with | [_, _], _ => rfl
  have M_expression : Meth K RC "expression" q_expression := ⟨qi_expression, qf_expression, qk_expression⟩
  have D_expression := fun_mk (st := s_Reader_expression) ql_expression qc_expression qk_expression
  have B_expression := D_expression.binds (ps := ["self", "place", "depth"]) fun _ _ _ _ _ _ us hl => match us, hl with | [_, _, _], _ => rfl
  have M_opening : Meth K RC "opening" q_opening := ⟨qi_opening, qf_opening, qk_opening⟩
  have D_opening := fun_mk (st := s_Reader_opening) ql_opening qc_opening qk_opening
  have B_opening := D_opening.binds (ps := ["self", "place", "depth"]) fun _ _ _ _ _ _ us hl => match us, hl with | [_, _, _], _ => rfl
  have M_primary : Meth K RC "primary" q_primary := ⟨qi_primary, qf_primary, qk_primary⟩
  have D_primary := fun_mk (st := s_Reader_primary) ql_primary qc_primary qk_primary
  have B_primary := D_primary.binds (ps := ["self", "depth"]) fun _ _ _ _ _ _ us hl => match us, hl with | [_, _], _ => rfl
  have M_block : Meth K RC "block" q_block := ⟨qi_block, qf_block, qk_block⟩
  have D_block := fun_mk (st := s_Reader_block) ql_block qc_block qk_block
  have B_block := D_block.binds (ps := ["self", "depth"]) fun _ _ _ _ _ _ us hl => match us, hl with | [_, _], _ => rfl
  have M_super_send : Meth K RC "super_send" q_super_send := ⟨qi_super_send, qf_super_send, qk_super_send⟩
  have D_super_send := fun_mk (st := s_Reader_super_send) ql_super_send qc_super_send qk_super_send
  have B_super_send := D_super_send.binds (ps := ["self", "depth"]) fun _ _ _ _ _ _ us hl => match us, hl with | [_, _], _ => rfl
  have M_arguments : Meth K RC "arguments" q_arguments := ⟨qi_arguments, qf_arguments, qk_arguments⟩
  have D_arguments := fun_mk (st := s_Reader_arguments) ql_arguments qc_arguments qk_arguments
  have B_arguments := D_arguments.binds (ps := ["self", "depth"]) fun _ _ _ _ _ _ us hl => match us, hl with | [_, _], _ => rfl
  have M_finish : Meth K RC "finish" q_finish := ⟨qi_finish, qf_finish, qk_finish⟩
  have D_finish := fun_mk (st := s_Reader_finish) ql_finish qc_finish qk_finish
  have B_finish := D_finish.binds (ps := ["self"]) fun _ _ _ _ _ _ us hl => match us, hl with | [_], _ => rfl
  have M_init : Meth K RC "__init__" q_init := ⟨qi_init, qf_init, qk_init⟩
  have D_init := fun_mk (st := s_Reader___init__) ql_init qc_init qk_init
  have B_init := D_init.binds (ps := ["self", "text"]) fun _ _ _ _ _ _ us hl => match us, hl with | [_, _], _ => rfl
  have DPLAIN : DictK K w mg "PLAIN" (plainL) := ⟨a_PLAIN, es_PLAIN, en_PLAIN, ⟨_, PySem.W.mg_of X G dg_PLAIN, rfl⟩, kd_mk dl_PLAIN dk_PLAIN do_PLAIN, nsIn_ent dl_PLAIN de_PLAIN⟩
  have DLEVELS_AHEAD : DictK K w mg "LEVELS_AHEAD" (numsV aheadN) := ⟨a_LEVELS_AHEAD, es_LEVELS_AHEAD, en_LEVELS_AHEAD, ⟨_, PySem.W.mg_of X G dg_LEVELS_AHEAD, rfl⟩, kd_mk dl_LEVELS_AHEAD dk_LEVELS_AHEAD do_LEVELS_AHEAD, nsIn_ent dl_LEVELS_AHEAD de_LEVELS_AHEAD⟩
  have DTREES_AHEAD : DictK K w mg "TREES_AHEAD" (txtsV treesN) := ⟨a_TREES_AHEAD, es_TREES_AHEAD, en_TREES_AHEAD, ⟨_, PySem.W.mg_of X G dg_TREES_AHEAD, rfl⟩, kd_mk dl_TREES_AHEAD dk_TREES_AHEAD do_TREES_AHEAD, nsIn_ent dl_TREES_AHEAD de_TREES_AHEAD⟩
  have DLEVELS_BEHIND : DictK K w mg "LEVELS_BEHIND" (numsV behN) := ⟨a_LEVELS_BEHIND, es_LEVELS_BEHIND, en_LEVELS_BEHIND, ⟨_, PySem.W.mg_of X G dg_LEVELS_BEHIND, rfl⟩, kd_mk dl_LEVELS_BEHIND dk_LEVELS_BEHIND do_LEVELS_BEHIND, nsIn_ent dl_LEVELS_BEHIND de_LEVELS_BEHIND⟩
  have hNam : PySem.NamX.NamTxt P K mg "NameTwice" NT fN := {
    gC := PySem.W.mg_of X G nC, cls := ⟨nmN, qN, Nn, bsN, bmN, snN, subN, abN, colN, ddN, m0N, m1N, m2N, m3N, m5N, nL, nV⟩, sa := nA, ga := nG, gg := nH, noN := nN, iC := nI, tC := nT, kC := nK, exC := nB, veC := nE, tyC := nY, hdC := nD,
    te := exm_self nB nJ nY nS, op := sO, up := nU, mr := nM, su := PySem.W.mg_none_of X G sF, top := sP,
    fn := ⟨ocN, odN, docN, pmN, anN, cdaN, ccN, ctN, oslN, qualN, cclN, ccl2N, cddN, cdd2N, ccsN, ccs2N, vsN, fileN, tfN, nQ, nR, nW, nX, nZ, n0⟩ }
  have ZR : RdTx P w K mg C fI RC := ⟨src, cl, rn_tokens, rn_now, rn_depths, rn_twice, Y.n_len, Y.n_tuple, Y.n_max, Y.n_enumerate, ⟨_, PySem.W.mg_of X G g_DEEPEST, ⟨t_DEEPEST, rfl⟩⟩, ⟨_, PySem.W.mg_of X G g_MOST_PARAMETERS, ⟨t_MOST_PARAMETERS, rfl⟩⟩, ⟨_, PySem.W.mg_of X G g_MOST_VARIABLES, ⟨t_MOST_VARIABLES, rfl⟩⟩, ⟨_, PySem.W.mg_of X G g_MOST_BLOCK_PARAMETERS, ⟨t_MOST_BLOCK_PARAMETERS, rfl⟩⟩, ⟨_, PySem.W.mg_of X G g_MOST_ARGUMENTS, ⟨t_MOST_ARGUMENTS, rfl⟩⟩, ⟨_, PySem.W.mg_of X G g_LOOSEST, ⟨t_LOOSEST, rfl⟩⟩, ⟨_, PySem.W.mg_of X G g_COMPARING, ⟨t_COMPARING, rfl⟩⟩, ⟨_, PySem.W.mg_of X G g_TIGHTEST, ⟨t_TIGHTEST, rfl⟩⟩⟩
  have M_fixed0_ : ∀ base, MetX P w K mg base 1 RC "fixed" (spFixed C RC) [.int 0] := fun base => by
    obtain ⟨ds, hds, hb⟩ := D_fixed.binds1 (ps := ["self", "ahead"]) 1 0 (List.cons_ne_nil _ _) rfl fun T kV doc pm an cdv ct us its h1 h2 => match us, its, h1, h2 with | [_], [_], _, _ => ⟨_, rfl, rfl⟩
    exact ⟨q_fixed, _, _, ds, cl, M_fixed, ok_fixed D_fixed ZR, hb, hds⟩
  have M_fixed1_ : ∀ base, MetX P w K mg base 1 RC "fixed" (spFixed C RC) [] := fun base => by
    obtain ⟨ds, hds, hb⟩ := D_fixed.binds1 (ps := ["self", "ahead"]) 2 1 (List.cons_ne_nil _ _) rfl fun T kV doc pm an cdv ct us its h1 h2 => match us, its, h1, h2 with | [_, _], [_], _, _ => ⟨_, rfl, rfl⟩
    exact ⟨q_fixed, _, _, ds, cl, M_fixed, ok_fixed D_fixed ZR, hb, hds⟩
  have NLEVELS_BEHIND : DkN K w mg "LEVELS_BEHIND" behN := dkN_of DLEVELS_BEHIND
  have NLEVELS_AHEAD : DkN K w mg "LEVELS_AHEAD" aheadN := dkN_of DLEVELS_AHEAD
  have ZP : PrTx K w mg := ⟨⟨_, PySem.W.mg_of X G g_LOOSEST, ⟨t_LOOSEST, rfl⟩⟩, ⟨_, PySem.W.mg_of X G g_COMPARING, ⟨t_COMPARING, rfl⟩⟩, ⟨_, PySem.W.mg_of X G g_TIGHTEST, ⟨t_TIGHTEST, rfl⟩⟩, NLEVELS_BEHIND, NLEVELS_AHEAD⟩
  have F0 := fun_mk (st := s_is_letter_or_digit) l0 c0 k0
  have b0 := F0.binds (ps := ["character"]) fun _ _ _ _ _ _ us hl => match us, hl with | [_], _ => rfl
  have m0 := PySem.W.mg_of X G a0
  have F1 := fun_mk (st := s_is_source_character) l1 c1 k1
  have b1 := F1.binds (ps := ["character"]) fun _ _ _ _ _ _ us hl => match us, hl with | [_], _ => rfl
  have m1 := PySem.W.mg_of X G a1
  have F2 := fun_mk (st := s_end_of_run) l2 c2 k2
  have b2 := F2.binds (ps := ["text", "at"]) fun _ _ _ _ _ _ us hl => match us, hl with | [_, _], _ => rfl
  have m2 := PySem.W.mg_of X G a2
  have F3 := fun_mk (st := s_end_of_text) l3 c3 k3
  have b3 := F3.binds (ps := ["text", "at"]) fun _ _ _ _ _ _ us hl => match us, hl with | [_, _], _ => rfl
  have m3 := PySem.W.mg_of X G a3
  have F4 := fun_mk (st := s_number_of) l4 c4 k4
  have b4 := F4.binds (ps := ["run", "at"]) fun _ _ _ _ _ _ us hl => match us, hl with | [_, _], _ => rfl
  have m4 := PySem.W.mg_of X G a4
  have F5 := fun_mk (st := s_token_of_run) l5 c5 k5
  have b5 := F5.binds (ps := ["run", "at"]) fun _ _ _ _ _ _ us hl => match us, hl with | [_, _], _ => rfl
  have m5 := PySem.W.mg_of X G a5
  have F6 := fun_mk (st := s_mark_at) l6 c6 k6
  have b6 := F6.binds (ps := ["text", "at"]) fun _ _ _ _ _ _ us hl => match us, hl with | [_, _], _ => rfl
  have m6 := PySem.W.mg_of X G a6
  have F7 := fun_mk (st := s_token_at) l7 c7 k7
  have b7 := F7.binds (ps := ["text", "at"]) fun _ _ _ _ _ _ us hl => match us, hl with | [_, _], _ => rfl
  have m7 := PySem.W.mg_of X G a7
  have F8 := fun_mk (st := s_tokenize) l8 c8 k8
  have b8 := F8.binds (ps := ["text"]) fun _ _ _ _ _ _ us hl => match us, hl with | [_], _ => rfl
  have m8 := PySem.W.mg_of X G a8
  have F9 := fun_mk (st := s_read_expression) l9 c9 k9
  have b9 := F9.binds (ps := ["text"]) fun _ _ _ _ _ _ us hl => match us, hl with | [_], _ => rfl
  have m9 := PySem.W.mg_of X G a9
  have F10 := fun_mk (st := s_can_go_on) l10 c10 k10
  have b10 := F10.binds (ps := ["sign", "place", "left"]) fun _ _ _ _ _ _ us hl => match us, hl with | [_, _, _], _ => rfl
  have m10 := PySem.W.mg_of X G a10
  have F11 := fun_mk (st := s_print_expression) l11 c11 k11
  have b11 := F11.binds (ps := ["tree"]) fun _ _ _ _ _ _ us hl => match us, hl with | [_], _ => rfl
  have m11 := PySem.W.mg_of X G a11
  have F12 := fun_mk (st := s_level) l12 c12 k12
  have b12 := F12.binds (ps := ["tree"]) fun _ _ _ _ _ _ us hl => match us, hl with | [_], _ => rfl
  have m12 := PySem.W.mg_of X G a12
  have F13 := fun_mk (st := s_in_place) l13 c13 k13
  have b13 := F13.binds (ps := ["tree", "place"]) fun _ _ _ _ _ _ us hl => match us, hl with | [_, _], _ => rfl
  have m13 := PySem.W.mg_of X G a13
  have F14 := fun_mk (st := s_in_brackets) l14 c14 k14
  have b14 := F14.binds (ps := ["text"]) fun _ _ _ _ _ _ us hl => match us, hl with | [_], _ => rfl
  have m14 := PySem.W.mg_of X G a14
  have F15 := fun_mk (st := s_spaced) l15 c15 k15
  have b15 := F15.binds (ps := ["words"]) fun _ _ _ _ _ _ us hl => match us, hl with | [_], _ => rfl
  have m15 := PySem.W.mg_of X G a15
  have F16 := fun_mk (st := s_plain) l16 c16 k16
  have b16 := F16.binds (ps := ["value"]) fun _ _ _ _ _ _ us hl => match us, hl with | [_], _ => rfl
  have m16 := PySem.W.mg_of X G a16
  have F17 := fun_mk (st := s_with_sign) l17 c17 k17
  have b17 := F17.binds (ps := ["sign", "left", "right"]) fun _ _ _ _ _ _ us hl => match us, hl with | [_, _, _], _ => rfl
  have m17 := PySem.W.mg_of X G a17
  have F18 := fun_mk (st := s_sent) l18 c18 k18
  have b18 := F18.binds (ps := ["receiver", "name", "args"]) fun _ _ _ _ _ _ us hl => match us, hl with | [_, _, _], _ => rfl
  have m18 := PySem.W.mg_of X G a18
  have F19 := fun_mk (st := s_block) l19 c19 k19
  have b19 := F19.binds (ps := ["params", "body"]) fun _ _ _ _ _ _ us hl => match us, hl with | [_, _], _ => rfl
  have m19 := PySem.W.mg_of X G a19
  have F20 := fun_mk (st := s_body) l20 c20 k20
  have b20 := F20.binds (ps := ["body"]) fun _ _ _ _ _ _ us hl => match us, hl with | [_], _ => rfl
  have m20 := PySem.W.mg_of X G a20
  have F21 := fun_mk (st := s_statement) l21 c21 k21
  have b21 := F21.binds (ps := ["tree"]) fun _ _ _ _ _ _ us hl => match us, hl with | [_], _ => rfl
  have m21 := PySem.W.mg_of X G a21
  have F22 := fun_mk (st := s_choice) l22 c22 k22
  have b22 := F22.binds (ps := ["test", "body", "other"]) fun _ _ _ _ _ _ us hl => match us, hl with | [_, _, _], _ => rfl
  have m22 := PySem.W.mg_of X G a22
  have F23 := fun_mk (st := s_law_state) l23 c23 k23
  have b23 := F23.binds (ps := ["script", "spare"]) fun _ _ _ _ _ _ us hl => match us, hl with | [_, _], _ => rfl
  have m23 := PySem.W.mg_of X G a23
  have F24 := fun_mk (st := s_law_draw) l24 c24 k24
  have b24 := F24.binds (ps := ["state", "limit"]) fun _ _ _ _ _ _ us hl => match us, hl with | [_, _], _ => rfl
  have m24 := PySem.W.mg_of X G a24
  have F25 := fun_mk (st := s_law_words) l25 c25 k25
  have b25 := F25.binds (ps := []) fun _ _ _ _ _ _ us hl => match us, hl with | [], _ => rfl
  have m25 := PySem.W.mg_of X G a25
  have F26 := fun_mk (st := s_law_run) l26 c26 k26
  have b26 := F26.binds (ps := ["state", "first"]) fun _ _ _ _ _ _ us hl => match us, hl with | [_, _], _ => rfl
  have m26 := PySem.W.mg_of X G a26
  have F27 := fun_mk (st := s_law_name) l27 c27 k27
  have b27 := F27.binds (ps := ["state"]) fun _ _ _ _ _ _ us hl => match us, hl with | [_], _ => rfl
  have m27 := PySem.W.mg_of X G a27
  have F28 := fun_mk (st := s_law_class) l28 c28 k28
  have b28 := F28.binds (ps := ["state"]) fun _ _ _ _ _ _ us hl => match us, hl with | [_], _ => rfl
  have m28 := PySem.W.mg_of X G a28
  have F29 := fun_mk (st := s_law_number) l29 c29 k29
  have b29 := F29.binds (ps := ["state"]) fun _ _ _ _ _ _ us hl => match us, hl with | [_], _ => rfl
  have m29 := PySem.W.mg_of X G a29
  have F30 := fun_mk (st := s_law_characters) l30 c30 k30
  have b30 := F30.binds (ps := ["state"]) fun _ _ _ _ _ _ us hl => match us, hl with | [_], _ => rfl
  have m30 := PySem.W.mg_of X G a30
  have F31 := fun_mk (st := s_law_names) l31 c31 k31
  have b31 := F31.binds (ps := ["state", "count", "taken"]) fun _ _ _ _ _ _ us hl => match us, hl with | [_, _, _], _ => rfl
  have m31 := PySem.W.mg_of X G a31
  have F32 := fun_mk (st := s_law_commas) l32 c32 k32
  have b32 := F32.binds (ps := ["names"]) fun _ _ _ _ _ _ us hl => match us, hl with | [_], _ => rfl
  have m32 := PySem.W.mg_of X G a32
  have F33 := fun_mk (st := s_law_leaf) l33 c33 k33
  have b33 := F33.binds (ps := ["state"]) fun _ _ _ _ _ _ us hl => match us, hl with | [_], _ => rfl
  have m33 := PySem.W.mg_of X G a33
  have F34 := fun_mk (st := s_law_sides) l34 c34 k34
  have b34 := F34.binds (ps := ["state", "kind", "room"]) fun _ _ _ _ _ _ us hl => match us, hl with | [_, _, _], _ => rfl
  have m34 := PySem.W.mg_of X G a34
  have F35 := fun_mk (st := s_law_list) l35 c35 k35
  have b35 := F35.binds (ps := ["state", "room"]) fun _ _ _ _ _ _ us hl => match us, hl with | [_, _], _ => rfl
  have m35 := PySem.W.mg_of X G a35
  have F36 := fun_mk (st := s_law_block) l36 c36 k36
  have b36 := F36.binds (ps := ["state", "room"]) fun _ _ _ _ _ _ us hl => match us, hl with | [_, _], _ => rfl
  have m36 := PySem.W.mg_of X G a36
  have F37 := fun_mk (st := s_law_compound) l37 c37 k37
  have b37 := F37.binds (ps := ["state", "kind", "room"]) fun _ _ _ _ _ _ us hl => match us, hl with | [_, _, _], _ => rfl
  have m37 := PySem.W.mg_of X G a37
  have F38 := fun_mk (st := s_law_expression) l38 c38 k38
  have b38 := F38.binds (ps := ["state", "room", "asked"]) fun _ _ _ _ _ _ us hl => match us, hl with | [_, _, _], _ => rfl
  have m38 := PySem.W.mg_of X G a38
  have F39 := fun_mk (st := s_law_body) l39 c39 k39
  have b39 := F39.binds (ps := ["state", "room", "most"]) fun _ _ _ _ _ _ us hl => match us, hl with | [_, _, _], _ => rfl
  have m39 := PySem.W.mg_of X G a39
  have F40 := fun_mk (st := s_law_choice) l40 c40 k40
  have b40 := F40.binds (ps := ["state", "room"]) fun _ _ _ _ _ _ us hl => match us, hl with | [_, _], _ => rfl
  have m40 := PySem.W.mg_of X G a40
  have F41 := fun_mk (st := s_law_statement) l41 c41 k41
  have b41 := F41.binds (ps := ["state", "room"]) fun _ _ _ _ _ _ us hl => match us, hl with | [_, _], _ => rfl
  have m41 := PySem.W.mg_of X G a41
  have F42 := fun_mk (st := s_law_same) l42 c42 k42
  have b42 := F42.binds (ps := ["one", "two"]) fun _ _ _ _ _ _ us hl => match us, hl with | [_, _], _ => rfl
  have m42 := PySem.W.mg_of X G a42
  have F43 := fun_mk (st := s_law_pairs) l43 c43 k43
  have b43 := F43.binds (ps := ["text"]) fun _ _ _ _ _ _ us hl => match us, hl with | [_], _ => rfl
  have m43 := PySem.W.mg_of X G a43
  have F44 := fun_mk (st := s_law_read) l44 c44 k44
  have b44 := F44.binds (ps := ["text"]) fun _ _ _ _ _ _ us hl => match us, hl with | [_], _ => rfl
  have m44 := PySem.W.mg_of X G a44
  have F45 := fun_mk (st := s_law) l45 c45 k45
  refine ⟨PySem.W.fnOf "law" "law" (defArgs s_law) (defBody s_law) (defScope s_law) .none kV45 dc45 pm45 an45 cd45 ct45, fun s v => .of_eq rfl, fun base _ _ => ?_⟩
  have c_is_letter_or_digit : Cal P w K mg base 1 "_is_letter_or_digit" spLet [] := ⟨f0, _, _, _, ok_is_letter_or_digit F0 Z, m0, k0, b0, .nil⟩
  have c_is_source_character : Cal P w K mg base 1 "_is_source_character" spSrcC [] := ⟨f1, _, _, _, ok_is_source_character F1 Z Y, m1, k1, b1, .nil⟩
  have c_end_of_run : Cal P w K mg base 2 "_end_of_run" spEndRun [] := ⟨f2, _, _, _, ok_end_of_run F2 Y c_is_letter_or_digit, m2, k2, b2, .nil⟩
  have c_end_of_text : CalX P w K mg base 2 "_end_of_text" (spEndTx C) := ⟨f3, _, _, ok_end_of_text F3 Z c_is_source_character, m3, k3, b3⟩
  have c_number_of : CalX P w K mg base 1 "_number_of" (spNumOf C) := ⟨f4, _, _, ok_number_of F4 Z Y, m4, k4, b4⟩
  have c_token_of_run : CalX P w K mg base 2 "_token_of_run" (spTokRun C) := ⟨f5, _, _, ok_token_of_run F5 Z Y c_number_of, m5, k5, b5⟩
  have c_mark_at : CalX P w K mg base 1 "_mark_at" (spMark C) := ⟨f6, _, _, ok_mark_at F6 Z, m6, k6, b6⟩
  have c_token_at : CalX P w K mg base 3 "_token_at" (spTokAt C) := ⟨f7, _, _, ok_token_at F7 Z Y c_is_letter_or_digit c_end_of_run c_end_of_text c_token_of_run c_mark_at, m7, k7, b7⟩
  have ctokenize : CalX P w K mg base 4 "tokenize" (spTokenize C) := ⟨f8, _, _, ok_tokenize F8 Y c_token_at, m8, k8, b8⟩
  have c_can_go_on : Cal P w K mg base 1 "_can_go_on" spGo [] := ⟨f10, _, _, _, ok_can_go_on F10 ZR DLEVELS_BEHIND, m10, k10, b10, .nil⟩
  have M_fixed0 := M_fixed0_ base
  have M_fixed1 := M_fixed1_ base
  have A : RdAll P w K mg base C fI RC := ⟨ZR, DPLAIN, DLEVELS_AHEAD, DTREES_AHEAD, DLEVELS_BEHIND, c_can_go_on, M_fixed0, M_fixed1, ⟨⟨q_refuse, _, M_refuse, D_refuse, B_refuse⟩⟩, ⟨⟨q_accept, _, M_accept, D_accept, B_accept⟩⟩, ⟨⟨q_expect, _, M_expect, D_expect, B_expect⟩⟩, ⟨⟨q_take, _, M_take, D_take, B_take⟩⟩, ⟨⟨q_name_stands_before, _, M_name_stands_before, D_name_stands_before, B_name_stands_before⟩⟩, ⟨⟨q_names, _, M_names, D_names, B_names⟩⟩, ⟨⟨q_note_twice, _, M_note_twice, D_note_twice, B_note_twice⟩⟩, ⟨⟨q_begin, _, M_begin, D_begin, B_begin⟩⟩, ⟨⟨q_deepen, _, M_deepen, D_deepen, B_deepen⟩⟩, ⟨⟨q_arguments, _, M_arguments, D_arguments, B_arguments⟩⟩, ⟨⟨q_super_send, _, M_super_send, D_super_send, B_super_send⟩⟩, ⟨⟨q_block, _, M_block, D_block, B_block⟩⟩, ⟨⟨q_primary, _, M_primary, D_primary, B_primary⟩⟩, ⟨⟨q_opening, _, M_opening, D_opening, B_opening⟩⟩, ⟨⟨q_expression, _, M_expression, D_expression, B_expression⟩⟩, ⟨⟨q_set_statement, _, M_set_statement, D_set_statement, B_set_statement⟩⟩, ⟨⟨q_while_statement, _, M_while_statement, D_while_statement, B_while_statement⟩⟩, ⟨⟨q_if_statement, _, M_if_statement, D_if_statement, B_if_statement⟩⟩, ⟨⟨q_try_statement, _, M_try_statement, D_try_statement, B_try_statement⟩⟩, ⟨⟨q_keep_statement, _, M_keep_statement, D_keep_statement, B_keep_statement⟩⟩, ⟨⟨q_statement, _, M_statement, D_statement, B_statement⟩⟩, ⟨⟨q_body, _, M_body, D_body, B_body⟩⟩⟩
  have mkR : MakX P w K mg base 5 "Reader" RC (spInit C RC) := ⟨q_init, _, _, ⟨rM, qi_init, qf_init, rK⟩, ok_init D_init ZR ctokenize, PySem.W.mg_of X G rC, B_init⟩
  have m_finish : MetX P w K mg base 3 RC "finish" (spFinish C NT RC) [] := ⟨q_finish, _, _, _, cl, M_finish, ok_finish D_finish ZR hNam A.low.take, B_finish, .nil⟩
  have m_expression := (A.deep 14).1
  have cread_expression : CalX P w K mg base 146 "read_expression" (spReadE K C NT fun ts => (exN ts 14).1) := ⟨f9, _, _, ok_read_expression (k := 145) F9 ZR (by decide) mkR m_expression m_finish, m9, k9, b9⟩
  have c_in_brackets : Cal P w K mg base 1 "_in_brackets" spIB [] := ⟨f14, _, _, _, ok_in_brackets F14, m14, k14, b14, .nil⟩
  have c_spaced : Cal P w K mg base 1 "_spaced" (spSpd K) [] := ⟨f15, _, _, _, ok_spaced F15, m15, k15, b15, .nil⟩
  have c_plain : Cal P w K mg base 1 "_plain" spPl [] := ⟨f16, _, _, _, ok_plain F16 Y, m16, k16, b16, .nil⟩
  have c_level : Cal P w K mg base 1 "_level" (spLv K) [] := ⟨f12, _, _, _, ok_level F12 ZP, m12, k12, b12, .nil⟩
  have PC : PrC P w K mg base := ⟨ZP, c_in_brackets, c_spaced, c_plain, c_level, ⟨⟨_, _, F11, m11, k11, b11⟩⟩, ⟨⟨_, _, F13, m13, k13, b13⟩⟩, ⟨⟨_, _, F17, m17, k17, b17⟩⟩, ⟨⟨_, _, F18, m18, k18, b18⟩⟩, ⟨⟨_, _, F19, m19, k19, b19⟩⟩, ⟨⟨_, _, F20, m20, k20, b20⟩⟩, ⟨⟨_, _, F22, m22, k22, b22⟩⟩, ⟨⟨_, _, F21, m21, k21, b21⟩⟩⟩
  have c_law_state : Cal P w K mg base 1 "_law_state" (spState K) [] := ⟨f23, _, _, _, ok_law_state F23 Y, m23, k23, b23, .nil⟩
  have c_law_draw : Cal P w K mg base 1 "_law_draw" spDraw [] := ⟨f24, _, _, _, ok_law_draw F24 Y, m24, k24, b24, .nil⟩
  have c_law_words : Cal P w K mg base 1 "_law_words" spWords [] := ⟨f25, _, _, _, ok_law_words F25, m25, k25, b25, .nil⟩
  have c_law_run : Cal P w K mg base 2 "_law_run" spRun [] := ⟨f26, _, _, _, ok_law_run F26 Y c_law_draw, m26, k26, b26, .nil⟩
  have c_law_name : Cal P w K mg base 3 "_law_name" (spTx IsName 1) [] := ⟨f27, _, _, _, ok_law_name F27 c_law_run c_law_words, m27, k27, b27, .nil⟩
  have c_law_class : Cal P w K mg base 3 "_law_class" (spTx IsClass 0) [] := ⟨f28, _, _, _, ok_law_class F28 c_law_run, m28, k28, b28, .nil⟩
  have c_law_number : Cal P w K mg base 3 "_law_number" spNum [] := ⟨f29, _, _, _, ok_law_number F29 c_law_draw, m29, k29, b29, .nil⟩
  have c_law_characters : Cal P w K mg base 3 "_law_characters" (spTx IsText 0) [] := ⟨f30, _, _, _, ok_law_characters F30 Y c_law_draw, m30, k30, b30, .nil⟩
  have c_law_names : Cal P w K mg base 4 "_law_names" spGNames [] := ⟨f31, _, _, _, ok_law_names F31 Y c_law_name, m31, k31, b31, .nil⟩
  have c_law_commas : Cal P w K mg base 1 "_law_commas" spCommas [] := ⟨f32, _, _, _, ok_law_commas F32 Y, m32, k32, b32, .nil⟩
  have c_law_leaf : Cal P w K mg base 4 "_law_leaf" (spLeaf K) [] := ⟨f33, _, _, _, ok_law_leaf F33 Y c_law_draw c_law_number c_law_class c_law_characters c_law_name, m33, k33, b33, .nil⟩
  have GC : GenC P w K mg base := ⟨Y, c_law_draw, c_law_name, c_law_names, c_law_commas, c_law_leaf, ⟨⟨_, _, F38, m38, k38, b38⟩⟩, ⟨⟨_, _, F37, m37, k37, b37⟩⟩, ⟨⟨_, _, F34, m34, k34, b34⟩⟩, ⟨⟨_, _, F35, m35, k35, b35⟩⟩, ⟨⟨_, _, F36, m36, k36, b36⟩⟩, ⟨⟨_, _, F39, m39, k39, b39⟩⟩, ⟨⟨_, _, F40, m40, k40, b40⟩⟩, ⟨⟨_, _, F41, m41, k41, b41⟩⟩⟩
  have dSame : DefC K mg "_law_same" s_law_same ["one", "two"] := ⟨⟨_, _, F42, m42, k42, b42⟩⟩
  have c_law_same : Cal P w K mg base 31 "_law_same" (spSameB K 30) [] := same_all Y dSame 30
  have c_law_pairs : Cal P w K mg base 1 "_law_pairs" spPairs [] := ⟨f43, _, _, _, ok_law_pairs F43 Y, m43, k43, b43, .nil⟩
  have c_law_read : Cal P w K mg base 147 "_law_read" (spRd K) [] := ⟨f44, _, _, _, ok_law_read F44 Y cread_expression (PySem.W.mg_of X G sC) (exm_self sB sJ sY sS), m44, k44, b44, .nil⟩
  exact ok_law F45 Y c_law_state (GC.all 11).1 (cal_up (PC.all 11).1 (by decide)) c_law_pairs c_law_read c_law_same
theorem walk {l : PySem.W.OpenLaw} {q : Program} {loose : List Str} {XP : (Str → Option Value) → Heap → Prop} {YP : World → Heap → Prop} {d : DefRec} {K : Params → PySem.W.Frag} (hn : l.most = some 63) (hdf : d.params.defaults = [])
    (hY : ∀ (w : World) (h : Heap), YP w h → (K w.params).In h)
    (F : ∀ (w : World) (mg : Str → Option Value) (fa : Addr) (h : Heap), (K w.params).In h → h.Ns mainGlobals mg → mg d.name = some (.ref fa) →
      ∃ fd : FuncData, (∀ (s : Shared) (u : Value), BindsTo s fd ⟨[u], []⟩ [("script", u)]) ∧ ∀ base : Heap, (K w.params).In base → base.Ns mainGlobals mg → FnOk l.prog w (K w.params) mg base CX0 148 fa fd ["script"] (spLaw (K w.params))) :
    PySem.W.WalkO q loose XP YP l.row.toRowW d [] (fun f vs => PySem.call f vs) :=
  L2.walk_of (n := 63) (k := 148) (x := "script") (CX := fun _ => CX0) (sp := fun w => spLaw (K w.params)) hn (by decide) hdf ⟨rfl, by decide, by decide⟩ hY F (fun _ _ a ns hl _ hS => ⟨a, ns, rfl, hS, hl, fun _ => rfl⟩) fun _ _ _ _ _ z => z
end
end Lv

open PySem PySem.W PyProof.Rows in
set_option maxRecDepth 100000 in
set_option maxHeartbeats 0 in
theorem PySem.Challenge.cw_livestead_k14_whole_fewest_brackets_holds : PySem.Challenge.rw_livestead_k14_whole_fewest_brackets.Holds := by
  w_on; o_law; k_head; (case hw => w_witness2)
  k_fill
  refine Lv.walk (l := PySem.Challenge.rw_livestead_k14_whole_fewest_brackets) rfl rfl (fun w h Y => PySem.W.kIn_of Y) ?F
  case F =>
    intro w mg fa h KX G hmg
    refine' Lv.all_mk (P := PySem.Challenge.rw_livestead_k14_whole_fewest_brackets.prog) KX G hmg ?a0 ?l0 ?c0 ?k0 ?a1 ?l1 ?c1 ?k1 ?a2 ?l2 ?c2 ?k2 ?a3 ?l3 ?c3 ?k3 ?a4 ?l4 ?c4 ?k4 ?a5 ?l5 ?c5 ?k5 ?a6 ?l6 ?c6 ?k6 ?a7 ?l7 ?c7 ?k7 ?a8 ?l8 ?c8 ?k8 ?a9 ?l9 ?c9 ?k9 ?a10 ?l10 ?c10 ?k10 ?a11 ?l11 ?c11 ?k11 ?a12 ?l12 ?c12 ?k12 ?a13 ?l13 ?c13 ?k13 ?a14 ?l14 ?c14 ?k14 ?a15 ?l15 ?c15 ?k15 ?a16 ?l16 ?c16 ?k16 ?a17 ?l17 ?c17 ?k17 ?a18 ?l18 ?c18 ?k18 ?a19 ?l19 ?c19 ?k19 ?a20 ?l20 ?c20 ?k20 ?a21 ?l21 ?c21 ?k21 ?a22 ?l22 ?c22 ?k22 ?a23 ?l23 ?c23 ?k23 ?a24 ?l24 ?c24 ?k24 ?a25 ?l25 ?c25 ?k25 ?a26 ?l26 ?c26 ?k26 ?a27 ?l27 ?c27 ?k27 ?a28 ?l28 ?c28 ?k28 ?a29 ?l29 ?c29 ?k29 ?a30 ?l30 ?c30 ?k30 ?a31 ?l31 ?c31 ?k31 ?a32 ?l32 ?c32 ?k32 ?a33 ?l33 ?c33 ?k33 ?a34 ?l34 ?c34 ?k34 ?a35 ?l35 ?c35 ?k35 ?a36 ?l36 ?c36 ?k36 ?a37 ?l37 ?c37 ?k37 ?a38 ?l38 ?c38 ?k38 ?a39 ?l39 ?c39 ?k39 ?a40 ?l40 ?c40 ?k40 ?a41 ?l41 ?c41 ?k41 ?a42 ?l42 ?c42 ?k42 ?a43 ?l43 ?c43 ?k43 ?a44 ?l44 ?c44 ?k44 ?a45 ?l45 ?c45 ?k45 ?z_len ?z_int ?z_list ?z_range ?z_max ?z_str ?z_isinstance ?z_bool ?z_ord ?z_tuple ?z_enumerate ?z_min ?z_abs ?z_all ?z_any ?z_sorted ?z_sum ?g_SMALL ?e_SMALL ?g_CAPITAL ?e_CAPITAL ?g_DIGITS ?e_DIGITS ?g_QUOTE ?e_QUOTE ?g_PERCENT ?g_LONGEST_NAME ?g_LONGEST_TEXT ?g_GREATEST_NUMBER ?g_MOST_DIGITS ?g_DEEPEST ?g_MOST_PARAMETERS ?g_MOST_VARIABLES ?g_MOST_BLOCK_PARAMETERS ?g_MOST_ARGUMENTS ?g_LOOSEST ?g_COMPARING ?g_TIGHTEST ?g_WORDS ?l_WORDS ?e_WORDS ?g_MARKS ?l_MARKS ?e_MARKS ?sC ?sL ?sV ?sA ?sG ?sH ?sN ?sI ?sT ?sK ?sB ?sE ?sY ?sD ?sJ ?sS ?sO ?sU ?sM ?sF ?sP ?sQ ?sR ?sW ?sX ?sZ ?s0 ?rC ?rG ?rD ?rO ?rS ?rM ?rK ?rn_tokens ?rn_now ?rn_depths ?rn_twice ?qi_refuse ?qf_refuse ?ql_refuse ?qc_refuse ?qk_refuse ?qi_fixed ?qf_fixed ?ql_fixed ?qc_fixed ?qk_fixed ?qT ?qV ?qi_accept ?qf_accept ?ql_accept ?qc_accept ?qk_accept ?qi_expect ?qf_expect ?ql_expect ?qc_expect ?qk_expect ?qi_take ?qf_take ?ql_take ?qc_take ?qk_take ?qi_name_stands_before ?qf_name_stands_before ?ql_name_stands_before ?qc_name_stands_before ?qk_name_stands_before ?qi_names ?qf_names ?ql_names ?qc_names ?qk_names ?qi_note_twice ?qf_note_twice ?ql_note_twice ?qc_note_twice ?qk_note_twice ?qi_begin ?qf_begin ?ql_begin ?qc_begin ?qk_begin ?qi_deepen ?qf_deepen ?ql_deepen ?qc_deepen ?qk_deepen ?qi_body ?qf_body ?ql_body ?qc_body ?qk_body ?qi_statement ?qf_statement ?ql_statement ?qc_statement ?qk_statement ?qi_set_statement ?qf_set_statement ?ql_set_statement ?qc_set_statement ?qk_set_statement ?qi_while_statement ?qf_while_statement ?ql_while_statement ?qc_while_statement ?qk_while_statement ?qi_if_statement ?qf_if_statement ?ql_if_statement ?qc_if_statement ?qk_if_statement ?qi_try_statement ?qf_try_statement ?ql_try_statement ?qc_try_statement ?qk_try_statement ?qi_keep_statement ?qf_keep_statement ?ql_keep_statement ?qc_keep_statement ?qk_keep_statement ?qi_expression ?qf_expression ?ql_expression ?qc_expression ?qk_expression ?qi_opening ?qf_opening ?ql_opening ?qc_opening ?qk_opening ?qi_primary ?qf_primary ?ql_primary ?qc_primary ?qk_primary ?qi_block ?qf_block ?ql_block ?qc_block ?qk_block ?qi_super_send ?qf_super_send ?ql_super_send ?qc_super_send ?qk_super_send ?qi_arguments ?qf_arguments ?ql_arguments ?qc_arguments ?qk_arguments ?qi_finish ?qf_finish ?ql_finish ?qc_finish ?qk_finish ?qi_init ?qf_init ?ql_init ?qc_init ?qk_init ?dg_PLAIN ?dl_PLAIN ?dk_PLAIN ?de_PLAIN ?do_PLAIN ?dg_LEVELS_AHEAD ?dl_LEVELS_AHEAD ?dk_LEVELS_AHEAD ?de_LEVELS_AHEAD ?do_LEVELS_AHEAD ?dg_TREES_AHEAD ?dl_TREES_AHEAD ?dk_TREES_AHEAD ?de_TREES_AHEAD ?do_TREES_AHEAD ?dg_LEVELS_BEHIND ?dl_LEVELS_BEHIND ?dk_LEVELS_BEHIND ?de_LEVELS_BEHIND ?do_LEVELS_BEHIND ?nC ?nL ?nV ?nA ?nG ?nH ?nN ?nI ?nT ?nK ?nB ?nE ?nY ?nD ?nJ ?nS ?nU ?nM ?nQ ?nR ?nW ?nX ?nZ ?n0
    (case a0 => k_is)
    (case l0 => k_is)
    (case c0 => k_is)
    (case k0 => k_is)
    (case a1 => k_is)
    (case l1 => k_is)
    (case c1 => k_is)
    (case k1 => k_is)
    (case a2 => k_is)
    (case l2 => k_is)
    (case c2 => k_is)
    (case k2 => k_is)
    (case a3 => k_is)
    (case l3 => k_is)
    (case c3 => k_is)
    (case k3 => k_is)
    (case a4 => k_is)
    (case l4 => k_is)
    (case c4 => k_is)
    (case k4 => k_is)
    (case a5 => k_is)
    (case l5 => k_is)
    (case c5 => k_is)
    (case k5 => k_is)
    (case a6 => k_is)
    (case l6 => k_is)
    (case c6 => k_is)
    (case k6 => k_is)
    (case a7 => k_is)
    (case l7 => k_is)
    (case c7 => k_is)
    (case k7 => k_is)
    (case a8 => k_is)
    (case l8 => k_is)
    (case c8 => k_is)
    (case k8 => k_is)
    (case a9 => k_is)
    (case l9 => k_is)
    (case c9 => k_is)
    (case k9 => k_is)
    (case a10 => k_is)
    (case l10 => k_is)
    (case c10 => k_is)
    (case k10 => k_is)
    (case a11 => k_is)
    (case l11 => k_is)
    (case c11 => k_is)
    (case k11 => k_is)
    (case a12 => k_is)
    (case l12 => k_is)
    (case c12 => k_is)
    (case k12 => k_is)
    (case a13 => k_is)
    (case l13 => k_is)
    (case c13 => k_is)
    (case k13 => k_is)
    (case a14 => k_is)
    (case l14 => k_is)
    (case c14 => k_is)
    (case k14 => k_is)
    (case a15 => k_is)
    (case l15 => k_is)
    (case c15 => k_is)
    (case k15 => k_is)
    (case a16 => k_is)
    (case l16 => k_is)
    (case c16 => k_is)
    (case k16 => k_is)
    (case a17 => k_is)
    (case l17 => k_is)
    (case c17 => k_is)
    (case k17 => k_is)
    (case a18 => k_is)
    (case l18 => k_is)
    (case c18 => k_is)
    (case k18 => k_is)
    (case a19 => k_is)
    (case l19 => k_is)
    (case c19 => k_is)
    (case k19 => k_is)
    (case a20 => k_is)
    (case l20 => k_is)
    (case c20 => k_is)
    (case k20 => k_is)
    (case a21 => k_is)
    (case l21 => k_is)
    (case c21 => k_is)
    (case k21 => k_is)
    (case a22 => k_is)
    (case l22 => k_is)
    (case c22 => k_is)
    (case k22 => k_is)
    (case a23 => k_is)
    (case l23 => k_is)
    (case c23 => k_is)
    (case k23 => k_is)
    (case a24 => k_is)
    (case l24 => k_is)
    (case c24 => k_is)
    (case k24 => k_is)
    (case a25 => k_is)
    (case l25 => k_is)
    (case c25 => k_is)
    (case k25 => k_is)
    (case a26 => k_is)
    (case l26 => k_is)
    (case c26 => k_is)
    (case k26 => k_is)
    (case a27 => k_is)
    (case l27 => k_is)
    (case c27 => k_is)
    (case k27 => k_is)
    (case a28 => k_is)
    (case l28 => k_is)
    (case c28 => k_is)
    (case k28 => k_is)
    (case a29 => k_is)
    (case l29 => k_is)
    (case c29 => k_is)
    (case k29 => k_is)
    (case a30 => k_is)
    (case l30 => k_is)
    (case c30 => k_is)
    (case k30 => k_is)
    (case a31 => k_is)
    (case l31 => k_is)
    (case c31 => k_is)
    (case k31 => k_is)
    (case a32 => k_is)
    (case l32 => k_is)
    (case c32 => k_is)
    (case k32 => k_is)
    (case a33 => k_is)
    (case l33 => k_is)
    (case c33 => k_is)
    (case k33 => k_is)
    (case a34 => k_is)
    (case l34 => k_is)
    (case c34 => k_is)
    (case k34 => k_is)
    (case a35 => k_is)
    (case l35 => k_is)
    (case c35 => k_is)
    (case k35 => k_is)
    (case a36 => k_is)
    (case l36 => k_is)
    (case c36 => k_is)
    (case k36 => k_is)
    (case a37 => k_is)
    (case l37 => k_is)
    (case c37 => k_is)
    (case k37 => k_is)
    (case a38 => k_is)
    (case l38 => k_is)
    (case c38 => k_is)
    (case k38 => k_is)
    (case a39 => k_is)
    (case l39 => k_is)
    (case c39 => k_is)
    (case k39 => k_is)
    (case a40 => k_is)
    (case l40 => k_is)
    (case c40 => k_is)
    (case k40 => k_is)
    (case a41 => k_is)
    (case l41 => k_is)
    (case c41 => k_is)
    (case k41 => k_is)
    (case a42 => k_is)
    (case l42 => k_is)
    (case c42 => k_is)
    (case k42 => k_is)
    (case a43 => k_is)
    (case l43 => k_is)
    (case c43 => k_is)
    (case k43 => k_is)
    (case a44 => k_is)
    (case l44 => k_is)
    (case c44 => k_is)
    (case k44 => k_is)
    (case a45 => k_is)
    (case l45 => k_is)
    (case c45 => k_is)
    (case k45 => k_is)
    (case z_len => k_is)
    (case z_int => k_is)
    (case z_list => k_is)
    (case z_range => k_is)
    (case z_max => k_is)
    (case z_str => k_is)
    (case z_isinstance => k_is)
    (case z_bool => k_is)
    (case z_ord => k_is)
    (case z_tuple => k_is)
    (case z_enumerate => k_is)
    (case z_min => k_is)
    (case z_abs => k_is)
    (case z_all => k_is)
    (case z_any => k_is)
    (case z_sorted => k_is)
    (case z_sum => k_is)
    (case g_SMALL => k_is)
    (case e_SMALL => decide +kernel)
    (case g_CAPITAL => k_is)
    (case e_CAPITAL => decide +kernel)
    (case g_DIGITS => k_is)
    (case e_DIGITS => decide +kernel)
    (case g_QUOTE => k_is)
    (case e_QUOTE => decide +kernel)
    (case g_PERCENT => k_is)
    (case g_LONGEST_NAME => k_is)
    (case g_LONGEST_TEXT => k_is)
    (case g_GREATEST_NUMBER => k_is)
    (case g_MOST_DIGITS => k_is)
    (case g_DEEPEST => k_is)
    (case g_MOST_PARAMETERS => k_is)
    (case g_MOST_VARIABLES => k_is)
    (case g_MOST_BLOCK_PARAMETERS => k_is)
    (case g_MOST_ARGUMENTS => k_is)
    (case g_LOOSEST => k_is)
    (case g_COMPARING => k_is)
    (case g_TIGHTEST => k_is)
    (case g_WORDS => k_is)
    (case l_WORDS => k_is)
    (case e_WORDS => first | decide +kernel | kernel_rfl)
    (case g_MARKS => k_is)
    (case l_MARKS => k_is)
    (case e_MARKS => first | decide +kernel | kernel_rfl)
    (case sC => k_is)
    (case sL => k_is)
    (case sV => first | decide +kernel | kernel_rfl)
    (case sA => k_is)
    (case sG => k_is)
    (case sH => k_is)
    (case sN => k_is)
    (case sI => k_is)
    (case sT => k_is)
    (case sK => k_is)
    (case sB => k_is)
    (case sE => k_is)
    (case sY => k_is)
    (case sD => k_is)
    (case sJ => k_is)
    (case sS => first | rfl | k_is)
    (case sO => k_is)
    (case sU => ks_is)
    (case sM => k_is)
    (case sF => k_is)
    (case sP => decide +kernel)
    (case sQ => k_is)
    (case sR => k_is)
    (case sW => k_is)
    (case sX => exact rfl)
    (case sZ => decide +kernel)
    (case s0 => k_is)
    (case rC => k_is)
    (case rG => k_is)
    (case rD => k_is)
    (case rO => k_is)
    (case rS => k_is)
    (case rM => k_is)
    (case rK => k_is)
    (case rn_tokens => k_is)
    (case rn_now => k_is)
    (case rn_depths => k_is)
    (case rn_twice => k_is)
    (case qi_refuse => k_is)
    (case qf_refuse => k_is)
    (case ql_refuse => k_is)
    (case qc_refuse => k_is)
    (case qk_refuse => k_is)
    (case qi_fixed => k_is)
    (case qf_fixed => k_is)
    (case ql_fixed => k_is)
    (case qc_fixed => k_is)
    (case qk_fixed => k_is)
    (case qT => k_is)
    (case qV => exact .cons ⟨_, rfl⟩ .nil)
    (case qi_accept => k_is)
    (case qf_accept => k_is)
    (case ql_accept => k_is)
    (case qc_accept => k_is)
    (case qk_accept => k_is)
    (case qi_expect => k_is)
    (case qf_expect => k_is)
    (case ql_expect => k_is)
    (case qc_expect => k_is)
    (case qk_expect => k_is)
    (case qi_take => k_is)
    (case qf_take => k_is)
    (case ql_take => k_is)
    (case qc_take => k_is)
    (case qk_take => k_is)
    (case qi_name_stands_before => k_is)
    (case qf_name_stands_before => k_is)
    (case ql_name_stands_before => k_is)
    (case qc_name_stands_before => k_is)
    (case qk_name_stands_before => k_is)
    (case qi_names => k_is)
    (case qf_names => k_is)
    (case ql_names => k_is)
    (case qc_names => k_is)
    (case qk_names => k_is)
    (case qi_note_twice => k_is)
    (case qf_note_twice => k_is)
    (case ql_note_twice => k_is)
    (case qc_note_twice => k_is)
    (case qk_note_twice => k_is)
    (case qi_begin => k_is)
    (case qf_begin => k_is)
    (case ql_begin => k_is)
    (case qc_begin => k_is)
    (case qk_begin => k_is)
    (case qi_deepen => k_is)
    (case qf_deepen => k_is)
    (case ql_deepen => k_is)
    (case qc_deepen => k_is)
    (case qk_deepen => k_is)
    (case qi_body => k_is)
    (case qf_body => k_is)
    (case ql_body => k_is)
    (case qc_body => k_is)
    (case qk_body => k_is)
    (case qi_statement => k_is)
    (case qf_statement => k_is)
    (case ql_statement => k_is)
    (case qc_statement => k_is)
    (case qk_statement => k_is)
    (case qi_set_statement => k_is)
    (case qf_set_statement => k_is)
    (case ql_set_statement => k_is)
    (case qc_set_statement => k_is)
    (case qk_set_statement => k_is)
    (case qi_while_statement => k_is)
    (case qf_while_statement => k_is)
    (case ql_while_statement => k_is)
    (case qc_while_statement => k_is)
    (case qk_while_statement => k_is)
    (case qi_if_statement => k_is)
    (case qf_if_statement => k_is)
    (case ql_if_statement => k_is)
    (case qc_if_statement => k_is)
    (case qk_if_statement => k_is)
    (case qi_try_statement => k_is)
    (case qf_try_statement => k_is)
    (case ql_try_statement => k_is)
    (case qc_try_statement => k_is)
    (case qk_try_statement => k_is)
    (case qi_keep_statement => k_is)
    (case qf_keep_statement => k_is)
    (case ql_keep_statement => k_is)
    (case qc_keep_statement => k_is)
    (case qk_keep_statement => k_is)
    (case qi_expression => k_is)
    (case qf_expression => k_is)
    (case ql_expression => k_is)
    (case qc_expression => k_is)
    (case qk_expression => k_is)
    (case qi_opening => k_is)
    (case qf_opening => k_is)
    (case ql_opening => k_is)
    (case qc_opening => k_is)
    (case qk_opening => k_is)
    (case qi_primary => k_is)
    (case qf_primary => k_is)
    (case ql_primary => k_is)
    (case qc_primary => k_is)
    (case qk_primary => k_is)
    (case qi_block => k_is)
    (case qf_block => k_is)
    (case ql_block => k_is)
    (case qc_block => k_is)
    (case qk_block => k_is)
    (case qi_super_send => k_is)
    (case qf_super_send => k_is)
    (case ql_super_send => k_is)
    (case qc_super_send => k_is)
    (case qk_super_send => k_is)
    (case qi_arguments => k_is)
    (case qf_arguments => k_is)
    (case ql_arguments => k_is)
    (case qc_arguments => k_is)
    (case qk_arguments => k_is)
    (case qi_finish => k_is)
    (case qf_finish => k_is)
    (case ql_finish => k_is)
    (case qc_finish => k_is)
    (case qk_finish => k_is)
    (case qi_init => k_is)
    (case qf_init => k_is)
    (case ql_init => k_is)
    (case qc_init => k_is)
    (case qk_init => k_is)
    (case dg_PLAIN => k_is)
    (case dl_PLAIN => k_is)
    (case dk_PLAIN => first | rfl | kernel_rfl)
    (case de_PLAIN => first | rfl | kernel_rfl | decide +kernel)
    (case do_PLAIN => first | rfl | decide)
    (case dg_LEVELS_AHEAD => k_is)
    (case dl_LEVELS_AHEAD => k_is)
    (case dk_LEVELS_AHEAD => first | rfl | kernel_rfl)
    (case de_LEVELS_AHEAD => first | rfl | kernel_rfl | decide +kernel)
    (case do_LEVELS_AHEAD => first | rfl | decide)
    (case dg_TREES_AHEAD => k_is)
    (case dl_TREES_AHEAD => k_is)
    (case dk_TREES_AHEAD => first | rfl | kernel_rfl)
    (case de_TREES_AHEAD => first | rfl | kernel_rfl | decide +kernel)
    (case do_TREES_AHEAD => first | rfl | decide)
    (case dg_LEVELS_BEHIND => k_is)
    (case dl_LEVELS_BEHIND => k_is)
    (case dk_LEVELS_BEHIND => first | rfl | kernel_rfl)
    (case de_LEVELS_BEHIND => first | rfl | kernel_rfl | decide +kernel)
    (case do_LEVELS_BEHIND => first | rfl | decide)
    (case nC => k_is)
    (case nL => k_is)
    (case nV => first | decide +kernel | kernel_rfl)
    (case nA => k_is)
    (case nG => k_is)
    (case nH => k_is)
    (case nN => k_is)
    (case nI => k_is)
    (case nT => k_is)
    (case nK => k_is)
    (case nB => k_is)
    (case nE => k_is)
    (case nY => k_is)
    (case nD => k_is)
    (case nJ => k_is)
    (case nS => first | rfl | k_is)
    (case nU => ks_is)
    (case nM => k_is)
    (case nQ => k_is)
    (case nR => k_is)
    (case nW => k_is)
    (case nX => exact rfl)
    (case nZ => decide +kernel)
    (case n0 => k_is)
#print axioms PySem.Challenge.cw_livestead_k14_whole_fewest_brackets_holds
