import PyProof.Rows.All
import Wide.All
import OpenK.AllK
import Wide.FinOn
import HandS.ForMost
import HandS.StrMore
import HandS.IsInst
import HandS.Steps
import HandS.Evl
import HandS.Codes
import HandS.ForExc
import KE.KExcSuper
import HandS.Strs
import KE.KExcIs
import HandS.ExcIs
import HandS.Defaults
import HandS.TupAny
import HandS.Small
import HandS.WordsDict
import HandS.FStr
import HandS.Star
import HandS.MakeKwOnly
import PySem.Challenge.RW_livestead_k16_whole_code_does_what_the_b
set_option Elab.async false
set_option linter.all false
set_option maxRecDepth 100000
set_option maxHeartbeats 2000000
class Wk0 (G : Prop) (G2 : outParam Prop) : Prop where go : G2 → G
class Wk1 (G : Prop) (G2 : outParam Prop) : Prop where go : G2 → G
/-! Readings step by step: one lemma a construct, texts as lists of codes. -/
namespace Lv
open PySem PySem.Spec PyProof.Rows L2

/-- a text of these codes -/
abbrev T (cs : List Nat) : V := .str ⟨cs.toArray⟩
theorem T_eta (x : Str) : V.str x = T x.cps.toList := by
  show V.str x = V.str ⟨x.cps.toList.toArray⟩
  simp
theorem T_inj {a b : List Nat} (h : T a = T b) : a = b := by
  have h1 : (⟨a.toArray⟩ : Str) = ⟨b.toArray⟩ := V.str.inj h
  have h2 : a.toArray = b.toArray := Str.mk.inj h1
  exact congrArg Array.toList h2
theorem T_iff {a b : List Nat} : T a = T b ↔ a = b := ⟨T_inj, fun h => by rw [h]⟩
theorem len_T (a : List Nat) : (⟨a.toArray⟩ : Str).length = a.length := by
  show a.toArray.size = a.length
  simp

def NewL (xs : List V) (H : Hp) (Q : VK) : Prop := xs.length ≤ sizeLine ∧ ∀ p, H p = none → Q (.ref p) (upd H p (.lst xs))
def NewT (xs : List V) (H : Hp) (Q : VK) : Prop := xs.length ≤ sizeLine ∧ ∀ p, H p = none → Q (.ref p) (upd H p (.tup xs))
section
variable {σ : L2.St} {H : Hp} {Q : VK} {D : Ends} {i : Nat} {v x y : V} {ta tb te : TE} {t u : TS} {g : TG} {r : R2} {K : PySem.W.Frag}
theorem w_var (h : σ[i]? = some (some v)) (k : Q v H) : tVar i σ H Q := ⟨v, h, k⟩
theorem w_c (k : Q v H) : tC v σ H Q := k
instance  : Wk0 (tC v σ H Q) (Q v H) := ⟨w_c⟩
theorem w_cT {cs : List Nat} (k : Q (T cs) H) : tC (T cs) σ H Q := k
instance (priority := 2000) {cs : List Nat} : Wk0 (tC (T cs) σ H Q) (Q (T cs) H) := ⟨w_cT⟩
theorem ex_int {a : Int} {G : Int → Prop} (k : G a) : ∃ i, V.int a = V.int i ∧ G i := ⟨a, rfl, k⟩
instance {a : Int} {G : Int → Prop} : Wk0 (∃ i, V.int a = V.int i ∧ G i) (G a) := ⟨ex_int⟩
theorem ex_bl {a : Bool} {G : Bool → Prop} (k : G a) : ∃ i, V.bl a = V.bl i ∧ G i := ⟨a, rfl, k⟩
instance {a : Bool} {G : Bool → Prop} : Wk0 (∃ i, V.bl a = V.bl i ∧ G i) (G a) := ⟨ex_bl⟩
theorem w_str {x : Str} (k : Q (T x.cps.toList) H) : tC (.str x) σ H Q := by
  show Q (.str x) H
  rw [T_eta]
  exact k
instance (priority := 2000) {x : Str} : Wk0 (tC (.str x) σ H Q) (Q (T x.cps.toList) H) := ⟨w_str⟩
theorem w_seq (k : t { D with nx := u D } σ H) : tSeq t u D σ H := k
instance  : Wk0 (tSeq t u D σ H) (t { D with nx := u D } σ H) := ⟨w_seq⟩
theorem w_next (k : D.nx σ H) : tNext D σ H := k
instance  : Wk0 (tNext D σ H) (D.nx σ H) := ⟨w_next⟩
theorem w_asg (k : te σ H fun x H1 => g x σ H1 D.nx) : tAsg te g D σ H := k
instance  : Wk0 (tAsg te g D σ H) (te σ H fun x H1 => g x σ H1 D.nx) := ⟨w_asg⟩
theorem w_gname {G : L2.St → Hp → Prop} (k : G (σ.set i (some v)) H) : gName i v σ H G := k
instance {G : L2.St → Hp → Prop} : Wk0 (gName i v σ H G) (G (σ.set i (some v)) H) := ⟨w_gname⟩
theorem w_drop (k : te σ H fun _ H1 => D.nx σ H1) : tDrop te D σ H := k
instance  : Wk0 (tDrop te D σ H) (te σ H fun _ H1 => D.nx σ H1) := ⟨w_drop⟩
theorem w_ret (k : te σ H D.rt) : tRet te D σ H := k
instance  : Wk0 (tRet te D σ H) (te σ H D.rt) := ⟨w_ret⟩
theorem w_retN (k : D.rt .non H) : tRetN D σ H := k
instance  : Wk0 (tRetN D σ H) (D.rt .non H) := ⟨w_retN⟩
theorem w_op (k : ta σ H fun x H1 => tb σ H1 fun y H2 => r x y H2 Q) : tOp r ta tb σ H Q := k
instance  : Wk0 (tOp r ta tb σ H Q) (ta σ H fun x H1 => tb σ H1 fun y H2 => r x y H2 Q) := ⟨w_op⟩
theorem w_un {r : V → Hp → VK → Prop} (k : ta σ H fun x H1 => r x H1 Q) : tUn r ta σ H Q := k
instance {r : V → Hp → VK → Prop} : Wk0 (tUn r ta σ H Q) (ta σ H fun x H1 => r x H1 Q) := ⟨w_un⟩
theorem w_i0 {f : Int → Int → V} {a b : Int} (k : Q (f a b) H) : rI0 f (.int a) (.int b) H Q := ⟨a, b, rfl, rfl, k⟩
instance {f : Int → Int → V} {a b : Int} : Wk0 (rI0 f (.int a) (.int b) H Q) (Q (f a b) H) := ⟨w_i0⟩
theorem w_i {C : Int → Int → Prop} {f : Int → Int → V} {a b : Int} (c : C a b) (k : Q (f a b) H) : rI C f (.int a) (.int b) H Q := ⟨a, b, rfl, rfl, c, k⟩
theorem w_mulR {f : Int → Int → V} {a b : Int} (c : -(2 ^ 64) < b ∧ b < 2 ^ 64) (k : Q (f a b) H) : rI CMul f (.int a) (.int b) H Q := ⟨a, b, rfl, rfl, .inr c, k⟩
theorem w_mulL {f : Int → Int → V} {a b : Int} (c : -(2 ^ 64) < a ∧ a < 2 ^ 64) (k : Q (f a b) H) : rI CMul f (.int a) (.int b) H Q := ⟨a, b, rfl, rfl, .inl c, k⟩
theorem w_ifS {c : TT} (k : c σ H fun b H1 => if b = true then t D σ H1 else u D σ H1) : tIfS c t u D σ H := k
instance {c : TT} : Wk0 (tIfS c t u D σ H) (c σ H fun b H1 => if b = true then t D σ H1 else u D σ H1) := ⟨w_ifS⟩
theorem w_test {G : Bool → Hp → Prop} (k : te σ H fun x H' => ∃ b, x = .bl b ∧ G b H') : tTest te σ H G := k
instance {G : Bool → Hp → Prop} : Wk0 (tTest te σ H G) (te σ H fun x H' => ∃ b, x = .bl b ∧ G b H') := ⟨w_test⟩
theorem w_tB {G : Bool → Hp → Prop} (k : te σ H fun x H' => ∃ b, x = .bl b ∧ G b H') : tB te σ H G := k
instance {G : Bool → Hp → Prop} : Wk0 (tB te σ H G) (te σ H fun x H' => ∃ b, x = .bl b ∧ G b H') := ⟨w_tB⟩
theorem w_and {t u : TT} {G : Bool → Hp → Prop} (k : t σ H fun c H1 => if c = true then u σ H1 G else G false H1) : tAnd t u σ H G := k
instance {t u : TT} {G : Bool → Hp → Prop} : Wk0 (tAnd t u σ H G) (t σ H fun c H1 => if c = true then u σ H1 G else G false H1) := ⟨w_and⟩
theorem w_or {t u : TT} {G : Bool → Hp → Prop} (k : t σ H fun c H1 => if c = true then G true H1 else u σ H1 G) : tOr t u σ H G := k
instance {t u : TT} {G : Bool → Hp → Prop} : Wk0 (tOr t u σ H G) (t σ H fun c H1 => if c = true then G true H1 else u σ H1 G) := ⟨w_or⟩
theorem w_not {t : TT} {G : Bool → Hp → Prop} (k : t σ H fun c H1 => G (!c) H1) : tNot t σ H G := k
instance {t : TT} {G : Bool → Hp → Prop} : Wk0 (tNot t σ H G) (t σ H fun c H1 => G (!c) H1) := ⟨w_not⟩
theorem w_andV (k : ta σ H fun x H1 => ∃ c, x = .bl c ∧ if c = true then tb σ H1 Q else Q (.bl false) H1) : tAndV ta tb σ H Q := k
instance  : Wk0 (tAndV ta tb σ H Q) (ta σ H fun x H1 => ∃ c, x = .bl c ∧ if c = true then tb σ H1 Q else Q (.bl false) H1) := ⟨w_andV⟩
theorem w_orV (k : ta σ H fun x H1 => ∃ c, x = .bl c ∧ if c = true then Q (.bl true) H1 else tb σ H1 Q) : tOrV ta tb σ H Q := k
instance  : Wk0 (tOrV ta tb σ H Q) (ta σ H fun x H1 => ∃ c, x = .bl c ∧ if c = true then Q (.bl true) H1 else tb σ H1 Q) := ⟨w_orV⟩
theorem w_notV (k : ta σ H fun x H1 => ∃ c, x = .bl c ∧ Q (.bl (!c)) H1) : tNotV ta σ H Q := k
instance  : Wk0 (tNotV ta σ H Q) (ta σ H fun x H1 => ∃ c, x = .bl c ∧ Q (.bl (!c)) H1) := ⟨w_notV⟩
theorem w_eq (s : scal x y = true) (k : Q (.bl (decide (x = y))) H) : rEq x y H Q := ⟨s, k⟩
theorem w_ne (s : scal x y = true) (k : Q (.bl (!decide (x = y))) H) : rNe x y H Q := ⟨s, k⟩
theorem w_call {sp : Sp} {dvs : List V} {E : XK} {t : TA} (k : t σ H fun vs H1 => sp (vs ++ dvs) H1 Q E) : tCall sp dvs E t σ H Q := k
instance {sp : Sp} {dvs : List V} {E : XK} {t : TA} : Wk0 (tCall sp dvs E t σ H Q) (t σ H fun vs H1 => sp (vs ++ dvs) H1 Q E) := ⟨w_call⟩
theorem w_cb {r : List V → Hp → VK → Prop} {t : TA} (k : t σ H fun vs H1 => r vs H1 Q) : tCB r t σ H Q := k
instance {r : List V → Hp → VK → Prop} {t : TA} : Wk0 (tCB r t σ H Q) (t σ H fun vs H1 => r vs H1 Q) := ⟨w_cb⟩
theorem w_nil {G : List V → Hp → Prop} (k : G [] H) : tNil σ H G := k
instance {G : List V → Hp → Prop} : Wk0 (tNil σ H G) (G [] H) := ⟨w_nil⟩
theorem w_cons {tr : TA} {G : List V → Hp → Prop} (k : ta σ H fun x H1 => tr σ H1 fun xs H2 => G (x :: xs) H2) : tCons ta tr σ H G := k
instance {tr : TA} {G : List V → Hp → Prop} : Wk0 (tCons ta tr σ H G) (ta σ H fun x H1 => tr σ H1 fun xs H2 => G (x :: xs) H2) := ⟨w_cons⟩
theorem w_tup {t : TA} (k : t σ H fun xs H1 => NewT xs H1 Q) : tTup t σ H Q := k
instance {t : TA} : Wk0 (tTup t σ H Q) (t σ H fun xs H1 => NewT xs H1 Q) := ⟨w_tup⟩
theorem w_lst {t : TA} (k : t σ H fun xs H1 => NewL xs H1 Q) : tLst t σ H Q := k
instance {t : TA} : Wk0 (tLst t σ H Q) (t σ H fun xs H1 => NewL xs H1 Q) := ⟨w_lst⟩
theorem w_sl {r : V → Option Int → Option Int → Hp → VK → Prop} {tl th : TO} (k : te σ H fun x H1 => tl σ H1 fun l H2 => th σ H2 fun u H3 => r x l u H3 Q) : tSl r te tl th σ H Q := k
instance {r : V → Option Int → Option Int → Hp → VK → Prop} {tl th : TO} : Wk0 (tSl r te tl th σ H Q) (te σ H fun x H1 => tl σ H1 fun l H2 => th σ H2 fun u H3 => r x l u H3 Q) := ⟨w_sl⟩
theorem w_part {G : Option Int → Hp → Prop} (k : te σ H fun x H1 => ∃ i, x = .int i ∧ G (some i) H1) : tPart te σ H G := k
instance {G : Option Int → Hp → Prop} : Wk0 (tPart te σ H G) (te σ H fun x H1 => ∃ i, x = .int i ∧ G (some i) H1) := ⟨w_part⟩
theorem w_nopart {G : Option Int → Hp → Prop} (k : G none H) : tNoPart σ H G := k
instance {G : Option Int → Hp → Prop} : Wk0 (tNoPart σ H G) (G none H) := ⟨w_nopart⟩
theorem w_gsub {to ti : TE} {t : TSet} {G : L2.St → Hp → Prop} (k : to σ H fun o H1 => ti σ H1 fun i H2 => t o i v H2 fun H3 => G σ H3) : gSub to ti t v σ H G := k
instance {to ti : TE} {t : TSet} {G : L2.St → Hp → Prop} : Wk0 (gSub to ti t v σ H G) (to σ H fun o H1 => ti σ H1 fun i H2 => t o i v H2 fun H3 => G σ H3) := ⟨w_gsub⟩
theorem w_bm {Ty : String} {r : V → List V → Hp → VK → Prop} {to : TE} {t : TA} (k : to σ H fun x H1 => tyV K Ty x H1 ∧ t σ H1 fun xs H2 => r x xs H2 Q) : tBM K Ty r to t σ H Q := k
instance {Ty : String} {r : V → List V → Hp → VK → Prop} {to : TE} {t : TA} : Wk0 (tBM K Ty r to t σ H Q) (to σ H fun x H1 => tyV K Ty x H1 ∧ t σ H1 fun xs H2 => r x xs H2 Q) := ⟨w_bm⟩
theorem w_bm0 {Ty : String} {r : V → List V → Hp → VK → Prop} {to : TE} (k : to σ H fun x H1 => tyV K Ty x H1 ∧ r x [] H1 Q) : tBM0 K Ty r to σ H Q := k
instance {Ty : String} {r : V → List V → Hp → VK → Prop} {to : TE} : Wk0 (tBM0 K Ty r to σ H Q) (to σ H fun x H1 => tyV K Ty x H1 ∧ r x [] H1 Q) := ⟨w_bm0⟩
theorem w_aug {ti : TIp} (h : σ[i]? = some (some x)) (k : te σ H fun y H1 => ti x y H1 fun z H2 => D.nx (σ.set i (some z)) H2) : tAug i te ti D σ H := ⟨x, h, k⟩
theorem w_ifE {c : TT} (k : c σ H fun b H1 => if b = true then ta σ H1 Q else tb σ H1 Q) : tIf c ta tb σ H Q := k

instance {c : TT} : Wk0 (tIf c ta tb σ H Q) (c σ H fun b H1 => if b = true then ta σ H1 Q else tb σ H1 Q) := ⟨w_ifE⟩
/-! tests -/
theorem w_if {p A B : Prop} [Decidable p] (h1 : p → A) (h2 : ¬ p → B) : if decide p = true then A else B := by
  by_cases h : p
  · rw [if_pos (decide_eq_true h)]; exact h1 h
  · rw [if_neg (by simp [h])]; exact h2 h
theorem w_ifn {p A B : Prop} [Decidable p] (h1 : ¬ p → A) (h2 : p → B) : if (!decide p) = true then A else B := by
  by_cases h : p
  · rw [if_neg (by simp [h])]; exact h2 h
  · rw [if_pos (by simp [h])]; exact h1 h
theorem w_ifI {a b : Int} {A B : Prop} (h1 : a = b → A) (h2 : a ≠ b → B) : if decide (V.int a = V.int b) = true then A else B :=
  w_if (fun h => h1 (V.int.inj h)) fun h => h2 fun e => h (by rw [e])
theorem w_ifT {a b : List Nat} {A B : Prop} (h1 : a = b → A) (h2 : a ≠ b → B) : if decide (T a = T b) = true then A else B :=
  w_if (fun h => h1 (T_inj h)) fun h => h2 fun e => h (by rw [e])
theorem w_ifIn {a b : Int} {A B : Prop} (h1 : a ≠ b → A) (h2 : a = b → B) : if (!decide (V.int a = V.int b)) = true then A else B :=
  w_ifn (fun h => h1 fun e => h (by rw [e])) fun h => h2 (V.int.inj h)
theorem w_ifTn {a b : List Nat} {A B : Prop} (h1 : a ≠ b → A) (h2 : a = b → B) : if (!decide (T a = T b)) = true then A else B :=
  w_ifn (fun h => h1 fun e => h (by rw [e])) fun h => h2 (T_inj h)
theorem w_nt {A B : Prop} (h : B) : if (!true) = true then A else B := by
  show if false = true then A else B
  exact L2.iteF h
instance {A B : Prop} : Wk0 (if (!true) = true then A else B) (B) := ⟨w_nt⟩
theorem w_nf {A B : Prop} (h : A) : if (!false) = true then A else B := by
  show if true = true then A else B
  exact L2.iteT h
instance {A B : Prop} : Wk0 (if (!false) = true then A else B) (A) := ⟨w_nf⟩
theorem w_ifb {b : Bool} {A B : Prop} (h1 : b = true → A) (h2 : b = false → B) : if b = true then A else B := by
  cases b with
  | true => rw [if_pos rfl]; exact h1 rfl
  | false => rw [if_neg Bool.false_ne_true]; exact h2 rfl

/-! texts -/
def rAddS : R2 := fun x y H Q => ∃ i j, x = .str i ∧ y = .str j ∧ i.length + j.length ≤ sizeLine ∧ Q (.str (i ++ j)) H
theorem op_addS {X : Cx} : OpR X (binaryOp .Add) rAddS := op_add_str
theorem w_addS {a b : List Nat} (z : a.length + b.length ≤ 1000000) (k : Q (T (a ++ b)) H) : rAddS (T a) (T b) H Q := by
  refine ⟨_, _, rfl, rfl, ?_, ?_⟩
  · rw [len_T, len_T]
    exact Nat.le_trans z (by decide)
  · have e : (⟨a.toArray⟩ : Str) ++ ⟨b.toArray⟩ = ⟨(a ++ b).toArray⟩ := by
      show (⟨a.toArray ++ b.toArray⟩ : Str) = _
      simp
    rw [e]
    exact k
def rMulS : R2 := fun x y H Q => ∃ z n, x = .str z ∧ y = .int n ∧ -(2 ^ 63) ≤ n ∧ n < 1000000 ∧ z.length * n.toNat ≤ 1000000 ∧ Q (T (List.replicate n.toNat z.cps.toList).flatten) H
theorem foldl_rep (c : Array Nat) : ∀ (n : Nat) (acc : Array Nat), (List.replicate n c).foldl (· ++ ·) acc = acc ++ (List.replicate n c.toList).flatten.toArray
  | 0, acc => by simp
  | n + 1, acc => by
    rw [List.replicate_succ, List.foldl_cons, foldl_rep c n, List.replicate_succ, List.flatten_cons]
    apply Array.ext'
    simp
theorem op_mulS {X : Cx} : OpR X (binaryOp .Mult) rMulS := by
  intro pins s σ H x y v u Q I rx ry h
  obtain ⟨z, n, rfl, rfl, h1, h2, h3, q⟩ := h
  obtain ⟨t, rfl⟩ := rx
  obtain ⟨t', rfl⟩ := ry
  refine P.mul_str ?_ ?_ ?_ ?_
  · rw [decide_eq_false (by omega), decide_eq_false (by omega)]; rfl
  · intro hn _ hc
    have hz : z.length ≤ 1000000 := by
      have : z.length * 1 ≤ z.length * n.toNat := Nat.mul_le_mul_left _ (by omega)
      omega
    have : (2 ^ 63 - 1 : Int) / n ≥ 9000000000000 := by
      refine (Int.le_ediv_iff_mul_le (by omega)).mpr ?_
      omega
    omega
  · intro hn _
    show decide (sizeLine < z.length * n.toNat) = false
    refine decide_eq_false ?_
    rw [sizeLine_eq]
    omega
  · by_cases hn : n < 1
    · rw [if_pos hn]
      have e : (List.replicate n.toNat z.cps.toList).flatten = [] := by
        rw [show n.toNat = 0 by omega]; rfl
      rw [e] at q
      exact ⟨by decide, T [], H, I.tok _, ⟨_, rfl⟩, q⟩
    · rw [if_neg hn]
      by_cases hc : (n == 1 || z.length == 0) = true
      · rw [if_pos hc]
        have e : (List.replicate n.toNat z.cps.toList).flatten = z.cps.toList := by
          rw [Bool.or_eq_true] at hc
          rcases hc with hc | hc
          · have : n = 1 := by simpa using hc
            subst this
            simp
          · have hz : z.cps.size = 0 := (beq_iff_eq.mp hc : z.length = 0)
            have : z.cps.toList = [] := by
              rw [← List.length_eq_zero_iff]; simpa using hz
            rw [this]; simp
        rw [e, ← T_eta] at q
        exact ⟨.str z, H, I, ⟨_, rfl⟩, q⟩
      · rw [if_neg hc]
        have e : (⟨(List.replicate n.toNat z.cps).foldl (· ++ ·) #[]⟩ : Str) = ⟨((List.replicate n.toNat z.cps.toList).flatten).toArray⟩ := by
          rw [foldl_rep]; simp
        rw [e]
        refine ⟨?_, T _, H, I.tok _, ⟨_, rfl⟩, q⟩
        rw [len_T]
        have : (List.replicate n.toNat z.cps.toList).flatten.length = n.toNat * z.cps.size := by simp
        rw [this, Nat.mul_comm]
        exact Nat.le_trans h3 (by rw [sizeLine_eq]; omega)
theorem w_mulS {a : List Nat} {n : Int} (h1 : -(2 ^ 63) ≤ n) (h2 : n < 1000000) (h3 : a.length * n.toNat ≤ 1000000) (k : Q (T (List.replicate n.toNat a).flatten) H) : rMulS (T a) (.int n) H Q :=
  ⟨_, n, rfl, rfl, h1, h2, by rw [len_T]; exact h3, k⟩
theorem w_ixS {a : List Nat} {j : Int} {c : Nat} (z : a.length ≤ 1000000) (h : atI a j = some c) (k : Q (T [c]) H) : rIxS (T a) (.int j) H Q :=
  ⟨_, j, c, rfl, rfl, by rw [len_T]; exact Nat.le_trans z (by decide), h, k⟩
def cut (a : List Nat) (lo hi : Option Int) : List Nat := (a.drop (HT.sIx a.length 0 lo)).take (HT.sIx a.length a.length hi - HT.sIx a.length 0 lo)
theorem w_slS {a : List Nat} {lo hi : Option Int} (z : a.length ≤ 1000000) (k : Q (T (cut a lo hi)) H) : rSlS (T a) lo hi H Q := by
  refine ⟨_, rfl, by rw [len_T]; exact Nat.le_trans z (by decide), ?_⟩
  have e : cutS ⟨a.toArray⟩ lo hi = ⟨(cut a lo hi).toArray⟩ := by
    unfold cutS cut
    rw [len_T]
  rw [e]
  exact k
def rLenS : List V → Hp → VK → Prop := fun xs H Q => ∃ z, xs = [.str z] ∧ z.length ≤ sizeLine ∧ Q (.int z.length) H
theorem call_lenS {X : Cx} : CallR X (.builtin "len") rLenS := call_len_str
theorem w_lenS {a : List Nat} (z : a.length ≤ 1000000) (k : Q (.int (a.length : Int)) H) : rLenS [T a] H Q :=
  ⟨_, rfl, by rw [len_T]; exact Nat.le_trans z (by decide), by rw [len_T]; exact k⟩
def rLenL (K : PySem.W.Frag) : List V → Hp → VK → Prop := fun xs H Q => ∃ p ys, xs = [.ref p] ∧ (SqL K H p ys ∨ SqT K H p ys) ∧ Q (.int ys.length) H
theorem call_lenL {X : Cx} : CallR X (.builtin "len") (rLenL X.K) := call_len_seq
theorem w_lenL {p : Addr} {ys : List V} (h : SqL K H p ys) (k : Q (.int (ys.length : Int)) H) : rLenL K [.ref p] H Q := ⟨p, ys, rfl, .inl h, k⟩
theorem w_lenT {p : Addr} {ys : List V} (h : SqT K H p ys) (k : Q (.int (ys.length : Int)) H) : rLenL K [.ref p] H Q := ⟨p, ys, rfl, .inr h, k⟩
def rInt1 : List V → Hp → VK → Prop := fun xs H Q => (∃ i, xs = [.int i] ∧ Q (.int i) H) ∨ ∃ k, xs = [.bl k] ∧ Q (.int (if k then 1 else 0)) H
theorem call_intI {X : Cx} : CallR X (.type "int") rInt1 := call_int1
theorem w_intI {a : Int} (k : Q (.int a) H) : rInt1 [.int a] H Q := .inl ⟨a, rfl, k⟩
instance {a : Int} : Wk0 (rInt1 [.int a] H Q) (Q (.int a) H) := ⟨w_intI⟩
theorem w_intB {b : Bool} (k : Q (.int (if b then 1 else 0)) H) : rInt1 [.bl b] H Q := .inr ⟨b, rfl, k⟩
instance {b : Bool} : Wk0 (rInt1 [.bl b] H Q) (Q (.int (if b then 1 else 0)) H) := ⟨w_intB⟩
def rIntS : List V → Hp → VK → Prop := fun xs H Q => ∃ a n, xs = [.str a] ∧ PySem.intText? a = some n ∧ a.length ≤ 640 ∧ Q (.int n) H
theorem call_intS {X : Cx} : CallR X (.type "int") rIntS := call_int_str
theorem w_intS {a : List Nat} {n : Int} (h : PySem.intText? ⟨a.toArray⟩ = some n) (z : a.length ≤ 640) (k : Q (.int n) H) : rIntS [T a] H Q := ⟨_, n, rfl, h, by rw [len_T]; exact z, k⟩
def rMax2 : List V → Hp → VK → Prop := fun xs H Q => ∃ i j, xs = [.int i, .int j] ∧ Q (.int (if j > i then j else i)) H
theorem call_maxI {X : Cx} (hc : X.calm = true) : CallR X (.builtin "max") rMax2 := call_max2 hc
theorem w_max {a b : Int} (k : Q (.int (if b > a then b else a)) H) : rMax2 [.int a, .int b] H Q := ⟨a, b, rfl, k⟩
instance {a b : Int} : Wk0 (rMax2 [.int a, .int b] H Q) (Q (.int (if b > a then b else a)) H) := ⟨w_max⟩
def rStrI : List V → Hp → VK → Prop := fun xs H Q => ∃ i : Int, xs = [.int i] ∧ i.natAbs.log2 < 1920 ∧ Q (.str (toString i)) H
theorem call_strI {X : Cx} : CallR X (.type "str") rStrI := call_str_int
def rListOf (K : PySem.W.Frag) : List V → Hp → VK → Prop := fun xs H Q => ∃ p ys, xs = [.ref p] ∧ (SqL K H p ys ∨ SqT K H p ys) ∧ ∀ l, H l = none → Q (.ref l) (upd H l (.lst ys))
theorem call_listOf {X : Cx} : CallR X (.type "list") (rListOf X.K) := call_list_of
theorem w_listOf {p : Addr} {ys : List V} (h : SqL K H p ys) (k : ∀ l, H l = none → Q (.ref l) (upd H l (.lst ys))) : rListOf K [.ref p] H Q := ⟨p, ys, rfl, .inl h, k⟩
def rOrd : List V → Hp → VK → Prop := fun xs H Q => ∃ x, xs = [.str x] ∧ x.length = 1 ∧ Q (.int (x.cps.getD 0 0 : Nat)) H
theorem call_ordS {X : Cx} : CallR X (.builtin "ord") rOrd := call_ord
theorem w_ord {c : Nat} (k : Q (.int (c : Int)) H) : rOrd [T [c]] H Q := ⟨_, rfl, rfl, k⟩
instance {c : Nat} : Wk0 (rOrd [T [c]] H Q) (Q (.int (c : Int)) H) := ⟨w_ord⟩
/-- a text within a text: one sign -/
def rInC : R2 := fun x y H Q => ∃ (c : Nat) (z : Str), x = .str ⟨#[c]⟩ ∧ y = .str z ∧ Q (.bl (decide (c ∈ z.cps.toList))) H
theorem op_inC {X : Cx} : OpR X (compareOp .In) rInC := op_in_sign
theorem w_inC {c : Nat} {a : List Nat} (k : Q (.bl (decide (c ∈ a))) H) : rInC (T [c]) (T a) H Q := ⟨c, _, rfl, rfl, k⟩
instance {c : Nat} {a : List Nat} : Wk0 (rInC (T [c]) (T a) H Q) (Q (.bl (decide (c ∈ a))) H) := ⟨w_inC⟩
def rNinC : R2 := fun x y H Q => ∃ (c : Nat) (z : Str), x = .str ⟨#[c]⟩ ∧ y = .str z ∧ Q (.bl (!decide (c ∈ z.cps.toList))) H
theorem op_ninC {X : Cx} : OpR X (compareOp .NotIn) rNinC := op_notIn_sign
theorem w_ninC {c : Nat} {a : List Nat} (k : Q (.bl (!decide (c ∈ a))) H) : rNinC (T [c]) (T a) H Q := ⟨c, _, rfl, rfl, k⟩
instance {c : Nat} {a : List Nat} : Wk0 (rNinC (T [c]) (T a) H Q) (Q (.bl (!decide (c ∈ a))) H) := ⟨w_ninC⟩
/-- a text among texts -/
theorem eqV_T (a b : List Nat) : eqV (T a) (T b) = decide (a = b) := by
  show ((⟨a.toArray⟩ : Str) == ⟨b.toArray⟩) = _
  by_cases h : a = b
  · subst h; simp
  · rw [decide_eq_false h]
    exact beq_eq_false_iff_ne.mpr fun e => h (T_inj (congrArg V.str e))
theorem inV_T (a : List Nat) (l : List (List Nat)) : inV (T a) (l.map T) = decide (a ∈ l) := by
  induction l with
  | nil => rfl
  | cons b l ih =>
    unfold inV at *
    rw [List.map_cons, List.any_cons, ih, eqV_T]
    by_cases h : b = a
    · subst h; simp
    · have h2 : ¬ a = b := fun e => h e.symm
      simp [h, h2]
theorem flat_T (l : List (List Nat)) : (l.map T).all flatV = true := by
  induction l with
  | nil => rfl
  | cons b l ih => rw [List.map_cons, List.all_cons, ih]; rfl
theorem w_inL {a : List Nat} {p : Addr} {l : List (List Nat)} (h : SqL K H p (l.map T)) (k : Q (.bl (decide (a ∈ l))) H) : rIn K false (T a) (.ref p) H Q :=
  ⟨p, _, rfl, .inl h, rfl, flat_T l, by rw [if_neg Bool.false_ne_true, inV_T]; exact k⟩
theorem w_inT {a : List Nat} {p : Addr} {l : List (List Nat)} (h : SqT K H p (l.map T)) (k : Q (.bl (decide (a ∈ l))) H) : rIn K false (T a) (.ref p) H Q :=
  ⟨p, _, rfl, .inr h, rfl, flat_T l, by rw [if_neg Bool.false_ne_true, inV_T]; exact k⟩
/-- lists and tuples at places -/
theorem w_ixL {p : Addr} {xs : List V} {j : Int} (h : SqL K H p xs) (e : atI xs j = some v) (k : Q v H) : rIxL K (.ref p) (.int j) H Q := ⟨p, xs, j, v, rfl, rfl, h, e, k⟩
theorem w_ixT {p : Addr} {xs : List V} {j : Int} (h : SqT K H p xs) (e : atI xs j = some v) (k : Q v H) : rIxT K (.ref p) (.int j) H Q := ⟨p, xs, j, v, rfl, rfl, h, e, k⟩
theorem w_setL {p : Addr} {xs : List V} {j : Int} {n : Nat} {G : Hp → Prop} (h : H p = some (.lst xs)) (e : ixN xs.length j = some n) (k : G (upd H p (.lst (xs.set n v)))) : rSetL (.ref p) (.int j) v H G := ⟨p, xs, j, n, rfl, rfl, h, e, k⟩
theorem w_append {p : Addr} {xs : List V} (h : H p = some (.lst xs)) (z : xs.length ≤ 1000000) (k : Q .non (upd H p (.lst (xs ++ [y])))) : rAppend (.ref p) [y] H Q :=
  ⟨p, xs, y, rfl, rfl, h, Nat.lt_of_le_of_lt z (by decide), k⟩
theorem w_cat {p q : Addr} {xs ys : List V} (hp : H p = some (.lst xs)) (hq : H q = some (.lst ys)) (z : xs.length + ys.length ≤ 1000000) (k : ∀ a, H a = none → Q (.ref a) (upd H a (.lst (xs ++ ys)))) : rCat (.ref p) (.ref q) H Q :=
  ⟨p, q, xs, ys, rfl, rfl, hp, hq, Nat.le_trans z (by decide), k⟩
theorem tyL {p : Addr} {xs : List V} (h : SqL K H p xs) : tyV K "list" (.ref p) H := .inl ⟨rfl, xs, h⟩
theorem tyS {a : List Nat} : tyV K "str" (T a) H := rfl
end

/-! new objects, the heap a letter -/
theorem same_new0 {p : Addr} {H : Hp} {o : HO} (h : H p = none) : Same H (upd H p o) := fun b u e => by
  rw [upd_ne (ne_of_none e h)]; exact e
section
variable {H : Hp} {Q : VK} {xs ys : List V} {K : PySem.W.Frag}
theorem w_newL (z : xs.length ≤ 1000000) (k : ∀ p H1, H p = none → Same H H1 → H1 p = some (.lst xs) → Q (.ref p) H1) : NewL xs H Q :=
  ⟨Nat.le_trans z (by decide), fun p hp => k p _ hp (same_new0 hp) upd_same⟩
theorem w_newT (z : xs.length ≤ 1000000) (k : ∀ p H1, H p = none → Same H H1 → H1 p = some (.tup xs) → Q (.ref p) H1) : NewT xs H Q :=
  ⟨Nat.le_trans z (by decide), fun p hp => k p _ hp (same_new0 hp) upd_same⟩
theorem w_cat2 {p q : Addr} (hp : H p = some (.lst xs)) (hq : H q = some (.lst ys)) (z : xs.length + ys.length ≤ 1000000) (k : ∀ a H1, H a = none → Same H H1 → H1 a = some (.lst (xs ++ ys)) → Q (.ref a) H1) : rCat (.ref p) (.ref q) H Q :=
  w_cat hp hq z fun a ha => k a _ ha (same_new0 ha) upd_same
theorem w_list2 {p : Addr} (h : SqL K H p ys) (k : ∀ l H1, H l = none → Same H H1 → H1 l = some (.lst ys) → Q (.ref l) H1) : rListOf K [.ref p] H Q := w_listOf h fun l hl => k l _ hl (same_new0 hl) upd_same
theorem w_app2 {p : Addr} {y : V} (h : H p = some (.lst xs)) (z : xs.length ≤ 1000000) (k : ∀ H1, H1 p = some (.lst (xs ++ [y])) → (∀ b o, b ≠ p → H b = some o → H1 b = some o) → Q .non H1) : rAppend (.ref p) [y] H Q :=
  w_append h z (k _ upd_same fun b o n e => by rw [upd_ne n]; exact e)
end

/-! loops -/
def ForR (g : TG) (tb : TS) (vs : List V) (D : Ends) (σ : L2.St) (H : Hp) : Prop := ∃ j : Int, vs = [.int j] ∧ -(2 ^ 62) ≤ j ∧ j < 2 ^ 62 ∧ ∃ W : Nat → Nat → L2.St → Hp → Prop, (∃ m, W 0 m σ H) ∧ ∀ i m σ H, W i m σ H →
  ((Itr 0 j.toNat).stop i H ∧ D.nx σ H) ∨ ((Itr 0 j.toNat).go i H ∧ ∃ N : L2.St → Hp → Prop, (∀ σ' H', N σ' H' → ∃ m', m' < m ∧ W (i + 1) m' σ' H') ∧ ∀ x H', (Itr 0 j.toNat).yld i H x H' → g x σ H' fun σ2 H2 => tb { D with nx := N, ct := N, bk := D.nx } σ2 H2)
def ForL (K : PySem.W.Frag) (g : TG) (tb : TS) (x : V) (D : Ends) (σ : L2.St) (H : Hp) : Prop := ∃ a, x = .ref a ∧ (∃ xs, SqL K H a xs) ∧ ∃ W : Nat → Nat → L2.St → Hp → Prop, (∃ m, W 0 m σ H) ∧ ∀ i m σ H, W i m σ H →
  ((Itl K a).stop i H ∧ D.nx σ H) ∨ ((Itl K a).go i H ∧ ∃ N : L2.St → Hp → Prop, (∀ σ' H', N σ' H' → ∃ m', m' < m ∧ W (i + 1) m' σ' H') ∧ ∀ x H', (Itl K a).yld i H x H' → g x σ H' fun σ2 H2 => tb { D with nx := N, ct := N, bk := D.nx } σ2 H2)
def ForT (K : PySem.W.Frag) (g : TG) (tb : TS) (x : V) (D : Ends) (σ : L2.St) (H : Hp) : Prop := ∃ a, x = .ref a ∧ (∃ xs, SqT K H a xs) ∧ ∃ W : Nat → Nat → L2.St → Hp → Prop, (∃ m, W 0 m σ H) ∧ ∀ i m σ H, W i m σ H →
  ((Itt K a).stop i H ∧ D.nx σ H) ∨ ((Itt K a).go i H ∧ ∃ N : L2.St → Hp → Prop, (∀ σ' H', N σ' H' → ∃ m', m' < m ∧ W (i + 1) m' σ' H') ∧ ∀ x H', (Itt K a).yld i H x H' → g x σ H' fun σ2 H2 => tb { D with nx := N, ct := N, bk := D.nx } σ2 H2)
def ForS (g : TG) (tb : TS) (x : V) (D : Ends) (σ : L2.St) (H : Hp) : Prop := ∃ z, x = .str z ∧ ∃ W : Nat → Nat → L2.St → Hp → Prop, (∃ m, W 0 m σ H) ∧ ∀ i m σ H, W i m σ H →
  ((Its z).stop i H ∧ D.nx σ H) ∨ ((Its z).go i H ∧ ∃ N : L2.St → Hp → Prop, (∀ σ' H', N σ' H' → ∃ m', m' < m ∧ W (i + 1) m' σ' H') ∧ ∀ x H', (Its z).yld i H x H' → g x σ H' fun σ2 H2 => tb { D with nx := N, ct := N, bk := D.nx } σ2 H2)
section
variable {σ : L2.St} {H : Hp} {D : Ends} {ta : TA} {te : TE} {g : TG} {tb : TS} {K : PySem.W.Frag}
theorem w_forR (k : ta σ H fun vs H1 => ForR g tb vs D σ H1) : tFor (iRng1 ta) g tb D σ H := k
instance  : Wk0 (tFor (iRng1 ta) g tb D σ H) (ta σ H fun vs H1 => ForR g tb vs D σ H1) := ⟨w_forR⟩
theorem w_forL (k : te σ H fun x H1 => ForL K g tb x D σ H1) : tFor (iList K te) g tb D σ H := k
instance  : Wk0 (tFor (iList K te) g tb D σ H) (te σ H fun x H1 => ForL K g tb x D σ H1) := ⟨w_forL⟩
theorem w_forT (k : te σ H fun x H1 => ForT K g tb x D σ H1) : tFor (iTup K te) g tb D σ H := k
instance  : Wk0 (tFor (iTup K te) g tb D σ H) (te σ H fun x H1 => ForT K g tb x D σ H1) := ⟨w_forT⟩
theorem w_forS (k : te σ H fun x H1 => ForS g tb x D σ H1) : tFor (iStr te) g tb D σ H := k
instance  : Wk0 (tFor (iStr te) g tb D σ H) (te σ H fun x H1 => ForS g tb x D σ H1) := ⟨w_forS⟩
/-- what holds ahead of turn i; a turn; the end -/
theorem for_R {j : Int} (Pv : Nat → L2.St → Hp → Prop) (b0 : 0 ≤ j) (b1 : j < 1000000) (h0 : Pv 0 σ H) (hs : ∀ (i : Nat) σ H, (i : Int) < j → Pv i σ H → g (.int (0 + (i : Int))) σ H fun σ2 H2 => tb { D with nx := Pv (i + 1), ct := Pv (i + 1), bk := D.nx } σ2 H2)
    (hd : ∀ σ H, Pv j.toNat σ H → D.nx σ H) : ForR g tb [.int j] D σ H :=
  ⟨j, rfl, by omega, by omega, for_range (lo := 0) (n := j.toNat) Pv h0 (fun i σ H hi p => hs i σ H (by omega) p) hd⟩
theorem for_L {a : Addr} {xs : List V} (Pv : Nat → L2.St → Hp → Prop) (h0 : Pv 0 σ H) (hl : ∀ i σ H, i ≤ xs.length → Pv i σ H → SqL K H a xs) (hs : ∀ i x σ H, xs[i]? = some x → Pv i σ H → g x σ H fun σ2 H2 => tb { D with nx := Pv (i + 1), ct := Pv (i + 1), bk := D.nx } σ2 H2)
    (hd : ∀ σ H, Pv xs.length σ H → D.nx σ H) : ForL K g tb (.ref a) D σ H :=
  ⟨a, rfl, ⟨xs, hl 0 σ H (Nat.zero_le _) h0⟩, for_list (xs := xs) Pv h0 hl hs hd⟩
theorem for_T {a : Addr} {xs : List V} (Pv : Nat → L2.St → Hp → Prop) (h0 : Pv 0 σ H) (hl : ∀ i σ H, i ≤ xs.length → Pv i σ H → SqT K H a xs) (hs : ∀ i x σ H, xs[i]? = some x → Pv i σ H → g x σ H fun σ2 H2 => tb { D with nx := Pv (i + 1), ct := Pv (i + 1), bk := D.nx } σ2 H2)
    (hd : ∀ σ H, Pv xs.length σ H → D.nx σ H) : ForT K g tb (.ref a) D σ H :=
  ⟨a, rfl, ⟨xs, hl 0 σ H (Nat.zero_le _) h0⟩, for_tup (xs := xs) Pv h0 hl hs hd⟩
theorem for_S {cs : List Nat} (Pv : Nat → L2.St → Hp → Prop) (h0 : Pv 0 σ H) (hs : ∀ i c σ H, cs[i]? = some c → Pv i σ H → g (T [c]) σ H fun σ2 H2 => tb { D with nx := Pv (i + 1), ct := Pv (i + 1), bk := D.nx } σ2 H2)
    (hd : ∀ σ H, Pv cs.length σ H → D.nx σ H) : ForS g tb (T cs) D σ H := by
  refine ⟨⟨cs.toArray⟩, rfl, fun i m σ H => m = cs.length - i ∧ i ≤ cs.length ∧ Pv i σ H, ⟨cs.length, by simp, Nat.zero_le _, h0⟩, ?_⟩
  rintro i m σ H ⟨rfl, hi, p⟩
  by_cases hlt : i < cs.length
  · refine .inr ⟨by show i < cs.toArray.size; simpa using hlt, Pv (i + 1), fun σ' H' p' => ⟨cs.length - (i + 1), by omega, rfl, hlt, p'⟩, fun x H' y => ?_⟩
    obtain ⟨e, c, hc, rfl⟩ := y
    subst e
    have hc' : cs[i]? = some c := by simpa using hc
    exact hs i c σ _ hc' p
  · have e : i = cs.length := by omega
    subst e
    exact .inl ⟨by show cs.toArray.size ≤ cs.length; simp, hd σ H p⟩
/-- while by a word and a measure, the test a letter -/
theorem pe_c0 {X : Cx} {k j : Nat} {x : Str} {sp : Sp} {dvs : List V} {p pos : Pos} (c : C8.Cal X.prog X.w X.K X.mg X.base k x sp dvs) (hr : Room j X.A) (hk : k ≤ j) (hg : Gl X x) (hdb : (x == ("__debug__" : Str)) = false := by decide) :
    PE X (.Call (.Name x p) [] [] pos) (tCall sp dvs L2.E0 tNil) := by
  obtain ⟨f, fd, ps, ds, F, hm, kp, b, d⟩ := c.ex
  exact pe_call0 F (hr.mono hk) hg hm kp b d pass0 hdb
end

/-! heaps: what stands apart from one object -/
/-- all but the object at S is as it was (and more may stand) -/
def Fr (S : Addr) (H H' : Hp) : Prop := ∀ b o, b ≠ S → H b = some o → H' b = some o
theorem Fr.refl (S : Addr) (H : Hp) : Fr S H H := fun _ _ _ h => h
theorem Fr.trans {S : Addr} {H H1 H2 : Hp} (a : Fr S H H1) (b : Fr S H1 H2) : Fr S H H2 := fun c o n h => b c o n (a c o n h)
theorem Fr.new {S p : Addr} {H : Hp} {o : HO} (h : H p = none) : Fr S H (upd H p o) := fun b u _ e => by
  rw [upd_ne (ne_of_none e h)]; exact e
theorem Fr.own {S : Addr} {H : Hp} {o : HO} : Fr S H (upd H S o) := fun b u n e => by
  rw [upd_ne n]; exact e
theorem Fr.to {S : Addr} {H H1 H2 : Hp} (a : Fr S H H1) (b : Same H1 H2) : Fr S H H2 := fun c o n h => b c o (a c o n h)
theorem Same.fr {S : Addr} {H H1 : Hp} (b : Same H H1) : Fr S H H1 := fun c o _ h => b c o h
theorem same_new {p : Addr} {H : Hp} {o : HO} (h : H p = none) : Same H (upd H p o) := fun b u e => by
  rw [upd_ne (ne_of_none e h)]; exact e
theorem Fr.sqL {S a : Addr} {K : PySem.W.Frag} {H H' : Hp} {xs : List V} (f : Fr S H H') (n : a ≠ S) (h : SqL K H a xs) : SqL K H' a xs := by
  rcases h with (h | ⟨o, h⟩) | h
  · exact .inl (.inl (f _ _ n h))
  · exact .inl (.inr ⟨o, f _ _ n h⟩)
  · exact .inr h
theorem Fr.sqT {S a : Addr} {K : PySem.W.Frag} {H H' : Hp} {xs : List V} (f : Fr S H H') (n : a ≠ S) (h : SqT K H a xs) : SqT K H' a xs := by
  rcases h with (h | ⟨o, h⟩) | h
  · exact .inl (.inl (f _ _ n h))
  · exact .inl (.inr ⟨o, f _ _ n h⟩)
  · exact .inr h
theorem Same.sqT {a : Addr} {K : PySem.W.Frag} {H H' : Hp} {xs : List V} (f : Same H H') (h : SqT K H a xs) : SqT K H' a xs := by
  rcases h with (h | ⟨o, h⟩) | h
  · exact .inl (.inl (f _ _ h))
  · exact .inl (.inr ⟨o, f _ _ h⟩)
  · exact .inr h
end Lv
/-! An own error whose __init__ tells its text to its base and keeps one field. -/
namespace PySem
namespace SrcX
open PySem.W PySem.Calls PyProof.Rows PySem.HandSPX
/-! ### the text of __init__: the parameter's name is a letter (at, name) -/
def msg : Str := "the source is wrong at position "
def eA : Arguments := { posonlyargs := [], args := [{ arg := "self", annotation := none, pos := ⟨6, 17, 6, 21⟩ }, { arg := "at", annotation := none, pos := ⟨6, 23, 6, 25⟩ }], vararg := none, kwonlyargs := [], kw_defaults := [], kwarg := none, defaults := [] }
def eB : List Stmt :=
  [.Expr (.Call (.Attribute (.Call (.Name "super" ⟨7, 8, 7, 13⟩) [] [] ⟨7, 8, 7, 15⟩) "__init__" ⟨7, 8, 7, 24⟩) [.JoinedStr [.Constant (.str msg) 0 ⟨7, 27, 7, 59⟩, .FormattedValue (.Name "at" ⟨7, 60, 7, 62⟩) (-1) none ⟨7, 59, 7, 63⟩] ⟨7, 25, 7, 64⟩] [] ⟨7, 8, 7, 65⟩) ⟨7, 8, 7, 65⟩,
   .Assign [.Attribute (.Name "self" ⟨8, 8, 8, 12⟩) "at" ⟨8, 8, 8, 15⟩] (.Name "at" ⟨8, 18, 8, 20⟩) ⟨8, 8, 8, 20⟩]
def eS : Scope := { kind := .function, names := [(PySem.Str.ofString "self", .local), (PySem.Str.ofString "at", .local), (PySem.Str.ofString "__class__", .free), (PySem.Str.ofString "super", .globalImplicit)], isGenerator := false, isCoroutine := false, more := [] }
/-- what the written part says of the class at C, and of its __init__, at fI; x: the field -/
structure SrcTxt (P : Program) (K : Frag) (mg : Str → Option Value) (nm : Str) (C fI : Addr) : Prop where
  gC : mg nm = some (.ref C)
  cls : ∃ nm q N bs bm sn sub ab col dd k0 k1 k2 k3 k5, K.lookup C = some (excClassObj nm q C N bs bm true sn sub ab col dd k0 k1 k2 k3 k5 "ValueError.__new__") ∧ refsVE bm = true
  sa : findIn K (.ref C) "__setattr__" = some (some (.builtin "object.__setattr__"))
  ga : findIn K (.ref C) "__getattribute__" = some (some (.builtin "BaseException.__getattribute__"))
  gg : findIn K (.ref C) "__getattr__" = some none
  noN : findIn K (.ref C) "at" = some none
  iC : findIn K (.ref C) "__init__" = some (some (.ref fI))
  tC : typeIn K (.ref fI) = some (.type "function")
  kC : keepIn K (.ref C) = true
  exC : subIn K (.ref C) (.type "BaseException") = some true
  veC : subIn K (.ref C) (.type "ValueError") = some true
  tyC : typeIn K (.ref C) = some (.type "type")
  hdC : hasDictIn K C = true
  te : exmOne K (.ref C) (.ref C) = some true
  op : nsIn K cStatics "thirdparty.any" = some none
  up : ks_superIn K C C "__init__" = some (some (.builtin "ValueError.__init__"))
  mr : mroIn K C (.ref C) = some true
  su : mg "super" = none
  top : (P.main.scope.names.lookup ("super" : Str)).isSome = false
  fn : ∃ (oc : Value) (od : Option Addr) (doc pm : Value) (an : Option Addr) (cda cc : Addr) (ct : Value) (osl : Array (Option Value)) (qual : Str) (ccl cl : Value) (cdd cld : Option Addr) (ccs csl : Array (Option Value)) (vs : Array Value) (file : Str) (tf : Tok),
    K.lookup fI = some ⟨oc, od, .func (fnX "__init__" qual eA eB eS [("__class__", cc)] .none .none doc pm an (.ref cda) ct), osl⟩ ∧ codeIn K (.ref cda) qual = true ∧
    K.lookup cda = some ⟨ccl, cdd, .fields vs, ccs⟩ ∧ vs[2]? = some (.str file tf) ∧ ((P.main.file : Str) == file) = true ∧ K.lookup cc = some ⟨cl, cld, .cell (some (.ref C)), csl⟩
/-- what __init__ leaves of a fresh exception at x -/
structure InitEnd (h h' : Heap) (e C dx t1 : Addr) (v : Value) : Prop where
  keep : ∀ b o, b ≠ e → h.get? b = some o → h'.get? b = some o
  obj : h'.get? e = some { cls := .ref C, dict := some dx, data := .fields #[.ref t1, .none, .none, .none, .bool false, .none] }
  dbig : h.objs.size ≤ dx
  dne : dx ≠ e
  ns : h'.Ns1 dx (fun y => if y = "at" then some v else none)
structure OwnMade (h h' : Heap) (e C d : Addr) (v : Value) : Prop where
  keep : ∀ b o, h.get? b = some o → h'.get? b = some o
  new : h.objs.size ≤ e
  obj : ∃ oe vs, h'.get? e = some oe ∧ oe.cls = .ref C ∧ oe.dict = some d ∧ oe.data = .fields vs ∧ vs[1]? = some .none
  dbig : h.objs.size ≤ d
  dne : d ≠ e
  ns : h'.Ns1 d (fun y => if y = "at" then some v else none)
theorem one_size (v : Value) : [v].length ≤ sizeLine := by
  rw [sizeLine_eq]
  exact (by decide : 1 ≤ 16777216)
section
variable {prog : Program} {w : World} {A : Around} {E : Value → Shared → Prop} {R : Result → Shared → Prop} {s : Shared} {K : Frag} {mg mb : Str → Option Value} {nm : Str} {C fI : Addr}
/-- the base's __init__, bound, called with one value: the args are laid anew -/
theorem call_mw {h : Heap} {g : Array GenState} {d : Drawn} {t : Nat} {os : OsState} {u e t0 : Addr} {rest : List Value} {Q : Value → Shared → Prop} {nm q : Str} {N : Addr} {bs bm : List Value} {hdct : Bool} {sn : List Str} {sub : List Value} {ab : Bool} {col : Option Bool} {dd : Option Addr} {k0 k1 k2 k3 k5 : Option Value}
    (hC : h.get? C = some (excClassObj nm q C N bs bm hdct sn sub ab col dd k0 k1 k2 k3 k5 "ValueError.__new__")) (he : h.get? e = some (excO C t0)) (hu : h.get? u = some (kxs_mw "ValueError.__init__" e)) (hrest : rest.length ≤ sizeLine)
    (hq : ∀ h' t1, (∀ b o, b ≠ e → h.get? b = some o → h'.get? b = some o) → h'.get? e = some (excO C t1) → Q .none ⟨h', g, d, t, os⟩) :
    wpAny (model prog w) A (call (.ref u) rest) Q E ⟨h, g, d, t, os⟩ := by
  refine wpAny_call (codeAny_of_tree ?_)
  show wpAny _ A.in1 (callAny (.ref u) ⟨rest, []⟩) _ _ _
  simp only [callAny]
  refine wpAny_bind (wpAny_load hu ?_)
  simp only [kxs_mw, show (Value.type "method-wrapper" == Value.type "method" || Value.type "method-wrapper" == Value.type "builtin_function_or_method" || Value.type "method-wrapper" == Value.type "method-wrapper") = true by decide, if_true]
  refine KFB.if_so (by decide) ?_
  refine wpAny_bind (check_bound_init F.excBase_ValueError.toExcCallFacts hC he rfl ?_)
  refine wpAny_bind (wpAny_pure (wpAny_pure ?_))
  refine ⟨plainId_quiet F.excBase_ValueError.init.plain _, codeAny_builtin F.excBase_ValueError.initEntry ?_⟩
  exact exc_init_tree (cls := .ref C) (t0 := t0) (dv := none) (c2 := .none) (c3 := .none) (b4 := .bool false) he hrest fun h' k e' _ => hq h' _ k e'
theorem ldN {M : Model} {env : Env} {m : Str → Option Value} {x : Str} {pos : Pos} {v : Value} {Q : Value → Shared → Prop} (hn : s.heap.Ns env.locals m) (hv : m x = some v) (h : Q v s)
    (hk : env.scope.kind = .function := by rfl) (hl : env.kindOf x = some .local := by rfl) (hd : (x == ("__debug__" : Str)) = false := by decide) :
    wpAny M A (eval (.Name x pos) env) Q E s := wpAny_Name (wpAny_loadName_local hk hl hn hv h) hd
theorem src_init (T : SrcTxt prog K mg nm C fI) {e t0 : Addr} {v : Int} {tv : Tok} (hv : v.natAbs.log2 < 1920) (X : K.In s.heap) (hlim : s.heap.NoLimit) (hg : s.heap.Ns mainGlobals mg) (hb : s.heap.Ns builtinsNs mb) (hmb : mb "super" = some (.type "super"))
    (hx : s.heap.get? e = some (excO C t0)) (hnx : K.lookup e = none) (hroom : A.depth < recursionLimit)
    (hq : ∀ h' tk dx t1, InitEnd s.heap h' e C dx t1 (.int v tv) → R (.ok (.ret .none)) { s with heap := h', toks := tk }) :
    codeAny (model prog w) A (.call (.ref fI) ⟨[.ref e, .int v tv], []⟩) R s := by
  obtain ⟨oc, od, doc, pm, an, cda, cc, ct, osl, qual, ccl, cl, cdd, cld, ccs, csl, vs, file, tf, ho, hcd, hcode, hvs, hfile, hcell⟩ := T.fn
  obtain ⟨nm', q, N, bs, bm, sn, sub, ab, col, dd, k0, k1, k2, k3, k5, hC, hbm⟩ := T.cls
  have hcl : clsIn K C = some { name := nm', bases := bs, mro := .ref C :: bm, ns := N, qualname := q, hasDict := true, slotNames := sn, subclasses := sub, abstract := ab, collection := col, hasDel := false } := by unfold clsIn; rw [hC] <;> rfl
  refine ks_codeAny_call_defAt (binds := [("self", .ref e), ("at", .int v tv)]) hroom (X _ _ ho) rfl hlim (codeRec_of X hcd) rfl (BindsTo.of_eq ?b1) (show ∀ y ∈ eS.names, y.2 ≠ .cell by decide +kernel) (locs rfl) (fun h₁ hns k => ?_) rfl rfl rfl
  case b1 => first | rfl | with_unfolding_all rfl
  have I1 : InstAt s.heap e (excO C t0) C none := ⟨hx, rfl, rfl, trivial⟩
  have hne : e ≠ C := ks_ne X I1 hcl
  obtain ⟨hp, g, d, t, os⟩ := s
  have X₁ : K.In h₁ := X.keeps k
  have hx₁ := k _ _ hx
  -- super().__init__(f'..')
  refine ks_wpAt_execs_cons (ks_wpAt_Expr_any (ks_wpAt_MethodCall ?_ (by with_unfolding_all rfl)))
  have hoH := X₁ _ _ ho
  have hcodeH := X₁ _ _ hcode
  refine' ks_wpAt_super_base (attr := "__init__") (body := eB) (f := fI) (cc := cda) ?a1 ?a2 ?a3 ?a4 ?a5 ?a6 ?a7 ?a8 ?a9 ?a10 hvs hfile T.top ?_
  case a5 => exact hoH
  case a9 => exact hcodeH
  case a1 => rfl
  case a2 => rfl
  case a3 => decide
  case a4 => rfl
  case a6 => rfl
  case a7 => rfl
  case a8 => rfl
  case a10 => rfl
  have hG : h₁.Ns mainGlobals mg := hg.keeps k
  have hB : h₁.Ns builtinsNs mb := hb.keeps k
  refine ks_loadName_global rfl rfl (loadGlobal_builtin hG T.su hB hmb ⟨rfl, ?_⟩)
  refine wpAny_loadName_free rfl rfl rfl ⟨_, X₁ _ _ hcell, rfl⟩ ?_
  refine wpAny_loadName_local rfl rfl hns rfl ?_
  have hCC := X₁ _ _ hC
  refine ks_wpAny_isType_cls hCC rfl ⟨rfl, ?_⟩
  refine ks_wpAny_call_super hCC rfl hx₁ rfl (fun c z => by cases z) (looks_mroIn X₁ T.mr) (fun h₂ hso k₂ => ?_)
  have X₂ : K.In h₂ := X₁.keeps k₂
  have hx₂ := k₂ _ _ hx₁
  have I2 : InstAt h₂ e (excO C t0) C none := ⟨hx₂, rfl, rfl, trivial⟩
  have hI : Looks (model prog w) h₂ (isInstance (.ref e) (.type "ValueError")) true := I2.type.andThen (looks_subIn X₂ T.veC)
  have hup : alongIn K "__init__" (((.ref C :: bm : List Value).dropWhile (· != .ref C)).drop 1) = some (some (.builtin "ValueError.__init__")) := by
    have := T.up
    unfold ks_superIn at this
    rw [hcl] at this
    exact this
  refine kxs_getMethod kxs_ValueError hso (looks_opaque X₂ T.op) (l₀ := .ref C :: bm) ?lk rfl X₂ hup hI hne (by decide) ?_
  case lk => exact fun A Q E s k q => wpAny_bind ((looks_clsIn X₂ hcl) A _ E s k (wpAny_pure q))
  refine kxs_callWith (i := "ValueError.__init__") (x := e) rfl (evalArgs_plain ?_)
  refine Calls.spliced_cons ?_
  -- the text
  have hn₂ : h₂.Ns hp.objs.size _ := hns.keeps k₂
  have hn₃ : (h₂.push (kxs_mw "ValueError.__init__" e)).Ns hp.objs.size _ := hn₂.keeps fun b o z => Heap.get?_push_of_some _ z
  refine wpAny_JoinedStr (pos := ⟨7, 25, 7, 64⟩) ?_
  refine Calls.Constant_str (x := msg) (k := 0) (pos := ⟨7, 27, 7, 59⟩) ?_
  refine ⟨_, _, rfl, by decide +kernel, ?_⟩
  refine wpAny_FormattedValue_plain (value := .Name "at" ⟨7, 60, 7, 62⟩) (pos := ⟨7, 59, 7, 63⟩) (ldN (env := callEnv (fnX "__init__" qual eA eB eS [("__class__", cc)] .none .none doc pm an (.ref cda) ct) hp.objs.size fI) hn₃ rfl (wpAny_formatField_int hv ?_))
  have hsz : ((Str.empty ++ msg) ++ Str.ofString (toString v)).length ≤ sizeLine := by
    rw [strLen_append, PySem.ofString_length, show (Str.empty ++ msg).length = 32 by decide +kernel, sizeLine_eq]
    have := int_text_length_le (k := 1920) (by decide) hv
    omega
  refine ⟨_, _, rfl, hsz, ?_⟩
  refine ⟨hsz, ?_⟩
  refine Calls.spliced_nil ?_
  have hu₃ : (h₂.push (kxs_mw "ValueError.__init__" e)).get? h₂.objs.size = some (kxs_mw "ValueError.__init__" e) := Heap.get?_push_at rfl rfl
  refine ⟨hu₃, ?_⟩
  have k₃ : ∀ b o, h₂.get? b = some o → (h₂.push (kxs_mw "ValueError.__init__" e)).get? b = some o := fun b o z => Heap.get?_push_of_some _ z
  have X₃ : K.In (h₂.push (kxs_mw "ValueError.__init__" e)) := X₂.keeps k₃
  refine call_mw (X₃ _ _ hC) (k₃ _ _ hx₂) hu₃ (one_size _) fun h₄ t1 k₄ hx₄ => ?_
  have X₄ : K.In h₄ := fun a o z => by
    by_cases ha : a = e
    · subst ha
      have := X₃ _ _ z
      have y := k₃ _ _ hx₂
      rw [this] at y
      have nK : K.lookup a = none := hnx
      rw [nK] at z
      cases z
    · exact k₄ _ _ ha (X₃ _ _ z)
  have hn₄ : h₄.Ns hp.objs.size _ := hn₃.at fun o z => k₄ _ _ (Nat.ne_of_gt (Heap.lt_size hx)) z
  -- self.at = at
  refine wpAt_of_wpAny ?_
  refine wpAny_execs_cons (plainObj_wpAny_Assign_Attribute ?_)
  refine ldN (v := .int v tv) hn₄ rfl (ldN (v := .ref e) hn₄ rfl ?_)
  refine set_plain X₄ (ox := excO C t1) (od := none) ⟨hx₄, rfl, rfl, trivial⟩ T.sa ?_
  refine exc_osa X₄ hx₄ hcl (show refsVE (.ref C :: bm) = true from hbm) rfl T.noN (fun h₅ tk₅ dx k₅ dn dne hx₅ hn₅ => ?_)
  refine wpAny_execs_nil ?_
  have keepAll : ∀ b o, b ≠ e → hp.get? b = some o → h₅.get? b = some o := fun b o hb z => k₅ b o hb (k₄ b o hb (k₃ _ _ (k₂ _ _ (k _ _ z))))
  refine hq h₅ tk₅ dx t1 ⟨keepAll, hx₅, ?_, dne, hn₅⟩
  exact Nat.le_trans (Nat.le_of_lt hn₄.lt) dn
theorem src_made (T : SrcTxt prog K mg nm C fI) {v : Int} {tv : Tok} (hv : v.natAbs.log2 < 1920) (X : K.In s.heap) (hlim : s.heap.NoLimit) (hg : s.heap.Ns mainGlobals mg) (hb : s.heap.Ns builtinsNs mb) (hmb : mb "super" = some (.type "super")) (hroom : A.depth + 1 < recursionLimit)
    (hq : ∀ h' tk e d, OwnMade s.heap h' e C d (.int v tv) → R (.ok (.ret (.ref e))) { s with heap := h', toks := tk }) :
    codeAny (model prog w) A (.call (.ref C) ⟨[.int v tv], []⟩) R s := by
  obtain ⟨nm, q, N, bs, bm, sn, sub, ab, col, dd, k0, k1, k2, k3, k5, hC, hbm⟩ := T.cls
  obtain ⟨hp, g, dr, tk, os⟩ := s
  have k : ∀ b o, hp.get? b = some o → ((hp.push (kdv_tup [.int v tv])).push (excO C hp.objs.size)).get? b = some o := fun b o e => Heap.get?_push_of_some _ (Heap.get?_push_of_some _ e)
  have hget : ((hp.push (kdv_tup [.int v tv])).push (excO C hp.objs.size)).get? (hp.objs.size + 1) = some (excO C hp.objs.size) := by heap_get
  have hnx : K.lookup (hp.objs.size + 1) = none := by
    cases e : K.lookup (hp.objs.size + 1) with
    | none => rfl
    | some o =>
      have z : hp.get? (hp.objs.size + 1) = some o := X _ _ e
      exact absurd (Nat.lt_of_succ_lt (Heap.lt_size z)) (Nat.lt_irrefl _)
  refine call_own F.excBase_ValueError (fun X => refsVE_contains X bm hbm) (X _ _ hC) (looks_findIn X T.iC) (fun self => bind_fn X self T.tC) (one_size _) ?_
  refine src_init (s := ⟨(hp.push (kdv_tup [.int v tv])).push (excO C hp.objs.size), g, dr, tk, os⟩) T hv (X.keeps k) (hlim.keeps k) (hg.keeps k) (hb.keeps k) hmb hget hnx ?_ fun h' tk' dx t1 ⟨k', hx, dn, dne, hns⟩ => ?_
  · show A.depth + 1 < recursionLimit
    exact hroom
  · have old : ∀ b o, hp.get? b = some o → h'.get? b = some o := fun b o e => k' b o (Nat.ne_of_lt (Nat.lt_succ_of_lt (Heap.lt_size e))) (k b o e)
    have z : hp.objs.size + 1 + 1 ≤ dx := by
      first
        | (simpa only [Heap.size_push] using dn)
        | exact dn
        | (have q := dn; rw [Heap.size_push, Heap.size_push] at q; exact q)
    exact ⟨rfl, hq h' tk' (hp.objs.size + 1) dx ⟨old, Nat.le_succ _, ⟨_, _, hx, rfl, rfl, rfl, rfl⟩, Nat.le_trans (Nat.le_trans (Nat.le_succ _) (Nat.le_succ _)) z, dne, hns⟩⟩
end
end SrcX
end PySem
namespace L2
open PySem PySem.Spec PyProof.Rows
theorem relO_src {v : V} {v' : Value} (r : RelV v v') (f : Str) : RelO (List.lookup f [(("at" : Str), v)]) (if f = "at" then some v' else none) := by
  by_cases hw : f = "at"
  · subst hw
    rw [if_pos rfl]
    have q : List.lookup ("at" : Str) [(("at" : Str), v)] = some v := by simp [List.lookup]
    rw [q]
    exact r
  · rw [if_neg hw]
    have qw : (f == ("at" : Str)) = false := by simpa using hw
    have q2 : List.lookup f [(("at" : Str), v)] = none := by simp [List.lookup, qw]
    rw [q2]
    trivial
section
variable {X : Cx} {C fI : Addr} {nm : Str}
/-- C(e), e an int -/
def tMkSrc (C : Addr) (ta : TA) : St → Hp → XK → Prop := fun σ H Q => ta σ H fun vs H1 => ∃ v : Int, vs = [.int v] ∧ v.natAbs.log2 < 1920 ∧ ∀ d, H1 d = none → Q (.ref C) (some d) (upd H1 d (.xd [(("at" : Str), .int v)]))
theorem pmk_src {a : Expr} {ta : TA} {p pos : Pos} {k : Nat} (T : PySem.SrcX.SrcTxt X.prog X.K X.mg nm C fI) (hr : Room k X.A) (ha : PA X [a] ta) (hg : Gl X nm := by rfl) (hdb : (nm == ("__debug__" : Str)) = false := by decide)
    (he : starEach (a :: []) X.env = (false, eval a X.env) :: starEach [] X.env := by rfl) (hpl : (backTo pos (starEach [] X.env)).any (·.1) = false := by rfl) :
    PMk X (.Call (.Name nm p) [a] [] pos) (tMkSrc C ta) := by
  intro pins s σ H Q I h
  refine wpAny_Call_Name_kw (ld_glob I hg T.gC ?_ hdb)
  refine PySem.W.callWith_K (h₀ := X.base) I.ok.mod.kin T.kC (thn (ha.run pos pins s σ H _ I h) fun us s1 hh => ?_) he hpl
  obtain ⟨vs, H1, I1, r1, v, ev, hv, q1⟩ := hh
  subst ev
  refine ⟨I1.kIn, ?_⟩
  cases r1 with
  | cons rv rn =>
    rename_i v' us'
    cases rn
    obtain ⟨tv, rfl⟩ := rv
    show wpAny _ _ (call (.ref C) [.int v tv]) _ _ _
    have hlim := I1.nolimit
    obtain ⟨mb, hb, hmb⟩ := I1.mod.blt
    have hb1 := hb.keeps I1.bk
    have hg1 := I1.mod.glob.keeps I1.bk
    have hsup : mb "super" = some (.type "super") := (hmb _ (by decide)).trans (by decide +kernel)
    obtain ⟨hp, g, dr, tk, os⟩ := s1
    refine wpAny_call (PySem.SrcX.src_made T hv I1.kIn hlim hg1 hb1 hsup (by have := hr.dp; omega) fun h' tk' e d M => ?_)
    show MkP X pins σ Q (.ref e) ⟨h', g, dr, tk', os⟩
    obtain ⟨oe, fv, hoe, hc, hd, hdat, h1⟩ := M.obj
    have hns := M.ns
    obtain ⟨G', g1, g2⟩ := restrict h' fun b => decide (b ≠ e)
    have gk : ∀ b, b ≠ e → G'.get? b = h'.get? b := fun b hb => g1 b (decide_eq_true hb)
    have ge : G'.get? e = none := g2 e (by simp)
    have old : ∀ b o, hp.get? b = some o → G'.get? b = some o := fun b o q => (gk b (Nat.ne_of_lt (Nat.lt_of_lt_of_le (Heap.lt_size q) M.new))).trans (M.keep b o q)
    have ob : ObjOk X.prog X.w (upd H1 d (.xd [(("at" : Str), .int v)])) G' d (.xd [(("at" : Str), .int v)]) :=
      ⟨_, hns.at (fun o q => (gk d M.dne).trans q), fun f => relO_src (v := .int v) (v' := .int v tv) ⟨tv, rfl⟩ f⟩
    have J : Inv X pins σ (upd H1 d (.xd [(("at" : Str), .int v)])) ⟨G', g, dr, tk', os⟩ := I1.laid (t' := tk') old M.dbig ob
    refine ⟨e, oe, fv, ⟨G', g, dr, tk', os⟩, _, .ref C, some d, rfl, J, fun b o q => ?_, ge, hoe, ⟨hc, hd⟩, hdat, h1, ?_, rfl, I1.bare, raises_own T.exC T.tyC, q1 d (I1.hok.fresh M.dbig)⟩
    · by_cases hb : b = e
      · have q' : G'.get? b = some o := q
        rw [hb, ge] at q'; cases q'
      · exact (gk b hb).symm.trans q
    · rw [upd_ne (Ne.symm M.dne)]
      exact I1.hok.fresh M.new
/-- raise C(e) -/
def tRaiseSrc (C : Addr) (W : WX) (ta : TA) : TS := fun _ σ H => tMkSrc C ta σ H fun cls d H' => W cls d σ H'
theorem ps_raiseSrc {a : Expr} {ta : TA} {W : WX} {p pos pos2 : Pos} {k : Nat} (hc : X.calm = true) (T : PySem.SrcX.SrcTxt X.prog X.K X.mg nm C fI) (hr : Room k X.A) (tk : Takes X W) (ha : PA X [a] ta) (hg : Gl X nm := by rfl) (hdb : (nm == ("__debug__" : Str)) = false := by decide)
    (he : starEach (a :: []) X.env = (false, eval a X.env) :: starEach [] X.env := by rfl) (hpl : (backTo pos (starEach [] X.env)).any (·.1) = false := by rfl) :
    PS X (.Raise (some (.Call (.Name nm p) [a] [] pos)) none pos2) (tRaiseSrc C W ta) := ps_raise hc tk (pmk_src T hr ha hg hdb he hpl)
/-- err.at, err the exception that the suite holds (at a; its class cls, its dict d) -/
def tBySrc (C : Addr) (a : Addr) (cls : Value) (d : Option Addr) (te : TE) : TE := fun σ H Q => te σ H fun x H1 => x = .ref a ∧ cls = .ref C ∧ ∃ (dd : Addr) (v : V), d = some dd ∧ H1 dd = some (.xd [(("at" : Str), v)]) ∧ Q v H1
theorem pe_bySrc {a : Addr} {oe : Obj} {cls : Value} {d : Option Addr} {pn : List (Addr × Obj)} {e : Expr} {te : TE} {pos : Pos} (T : PySem.SrcX.SrcTxt X.prog X.K X.mg nm C fI) (hz : Zc cls d oe) (hf : ∃ vs, oe.data = .fields vs) (he : PE (X.suite a ((a, oe) :: pn)) e te)
    (hb : attributeBase e "at" X.env (eval e X.env) = eval e X.env := by rfl) :
    PE (X.suite a ((a, oe) :: pn)) (.Attribute e "at" pos) (tBySrc C a cls d te) := by
  refine ⟨fun pins s σ H Q I h => ?_⟩
  refine attr_of hb (thn (he.run pins s σ H _ I h) fun u s1 hh => ?_)
  obtain ⟨x, H1, I1, rx, ex, ec, dd, v, ed, ea, q⟩ := hh
  subst ex
  obtain rfl : u = Value.ref a := rx
  subst ec
  subst ed
  obtain ⟨ha, _⟩ := I1.pin (a, oe) (List.mem_append_left _ List.mem_cons_self)
  obtain ⟨vs, hd⟩ := hf
  have hx : ObjOk X.prog X.w H1 s1.heap dd (.xd [(("at" : Str), v)]) := I1.hok dd _ ea
  obtain ⟨mA, hns, hr⟩ := hx
  obtain ⟨od, ho, hl⟩ := lookIn_ns hns
  have l : List.lookup ("at" : Str) [(("at" : Str), v)] = some v := by simp [List.lookup]
  obtain ⟨u, hu, ru⟩ := RelO.some_of (v := v) (o := mA "at") (by rw [← l]; exact hr "at")
  have J : PySem.W.InstAt s1.heap a oe C (some od) := ⟨ha, hz.1, by unfold PySem.W.notCls; rw [hd] <;> rfl, by rw [hz.2]; exact ho⟩
  exact HandSPX.exc_get I1.kIn J T.ga T.gg T.exC (PySem.W.findObj_own T.hdC T.noN rfl (by rw [hl, hu])) (handed_of ru) ⟨v, H1, I1.tok _, ru, q⟩
end
end L2
/-! Defs that may raise, over the same layer; texts searched. -/
namespace Lv
open PySem PySem.Spec PyProof.Rows L2

section
variable {P : Program} {w : World} {K : PySem.W.Frag} {mg : Str → Option Value} {base : Heap} {N : List Str} {q : Str} {sc : Scope} {f : Addr} {cd : Value} {A : Around} {outer : List Env} {s : Shared} {H : Hp} {E : XK}
theorem tk_of : Takes (cxOf (L2.CX P w) P w K mg base N q sc f cd A outer s H E) (fun cls d _ H => E cls d H) := takes_of rfl rfl rfl rfl
theorem px_of : Passes (L2.CX P w) (cxOf (L2.CX P w) P w K mg base N q sc f cd A outer s H E) E := passes_call tk_of (fun _ _ _ _ h => h)
theorem po_of : PassesOwn (model (cxOf (L2.CX P w) P w K mg base N q sc f cd A outer s H E).prog (cxOf (L2.CX P w) P w K mg base N q sc f cd A outer s H E).w) (cxOf (L2.CX P w) P w K mg base N q sc f cd A outer s H E).A (cxOf (L2.CX P w) P w K mg base N q sc f cd A outer s H E).env (cxOf (L2.CX P w) P w K mg base N q sc f cd A outer s H E).xe := passes_of rfl
end
/-- a def that may raise, by its module's name -/
structure CalX (P : Program) (w : World) (K : PySem.W.Frag) (mg : Str → Option Value) (base : Heap) (k : Nat) (x : Str) (sp : Sp) : Prop where
  ex : ∃ (f : Addr) (fd : FuncData) (ps : List Str), FnOk P w K mg base (L2.CX P w) k f fd ps sp ∧ mg x = some (.ref f) ∧ PySem.W.keepIn K (.ref f) = true ∧ Binds K fd ps []
section
variable {X : Cx} {k j : Nat} {x : Str} {sp : Sp} {E : XK} {p pos : Pos} {e : Expr} {es : List Expr} {t : TA}
theorem pe_cx (c : CalX X.prog X.w X.K X.mg X.base k x sp) (hr : Room j X.A) (hk : k ≤ j) (hg : Gl X x) (hx : Passes (L2.CX X.prog X.w) X E) (ha : PA X (e :: es) t)
    (hdb : (x == ("__debug__" : Str)) = false := by decide) (he : starEach (e :: es) X.env = (false, eval e X.env) :: starEach es X.env := by rfl) (hpl : (backTo pos (starEach es X.env)).any (·.1) = false := by rfl) :
    PE X (.Call (.Name x p) (e :: es) [] pos) (tCall sp [] E t) := by
  obtain ⟨f, fd, ps, F, hm, kp, b⟩ := c.ex
  exact pe_call F (hr.mono hk) hg hm kp b .nil hx ha hdb he hpl
end
/-- the way out with an error of the class at C whose field is i -/
def Err (C : Addr) (E : XK) (H : Hp) (i : Nat) : Prop := ∀ d H', H d = none → Same H H' → H' d = some (.xd [(("at" : Str), .int (i : Int))]) → E (.ref C) (some d) H'
theorem Err.mono {C : Addr} {E : XK} {H H1 : Hp} {i : Nat} (e : Err C E H i) (s : Same H H1) : Err C E H1 i := fun d H' hd s' h => e d H' (s.free hd) (s.trans s') h
section
variable {σ : L2.St} {H : Hp} {D : Ends} {C : Addr} {E : XK} {ta : TA}
def RaiseI (C : Addr) (E : XK) (vs : List V) (H : Hp) : Prop := ∃ v : Int, vs = [.int v] ∧ v.natAbs.log2 < 1920 ∧ ∀ d, H d = none → E (.ref C) (some d) (upd H d (.xd [(("at" : Str), .int v)]))
theorem w_raise (k : ta σ H fun vs H1 => RaiseI C E vs H1) : tRaiseSrc C (fun cls d _ H => E cls d H) ta D σ H := k
theorem raise_I {i : Nat} (hi : i ≤ 1000000) (h : Err C E H i) : RaiseI C E [.int (i : Int)] H := by
  refine ⟨(i : Int), rfl, ?_, fun d hd => h d _ hd (same_new0 hd) upd_same⟩
  rw [Int.natAbs_natCast]
  by_cases h0 : i = 0
  · subst h0; decide
  · exact Nat.lt_trans ((Nat.log2_lt h0).mpr (show i < 2 ^ 31 by omega)) (by decide)
end

/-! ### texts: order, search -/
def rLeS : R2 := fun x y H Q => ∃ i j, x = .str i ∧ y = .str j ∧ Q (.bl (!decide (j.cps.toList < i.cps.toList))) H
theorem op_leS {X : Cx} : OpR X (compareOp .LtE) rLeS := op_le_str
theorem lt_one (a b : Nat) : (([a] : List Nat) < [b]) ↔ a < b := by
  constructor
  · intro h
    cases h with
    | rel h => exact h
    | cons h => cases h
  · intro h
    exact .rel h
theorem w_leC {Q : VK} {H : Hp} {a b : Nat} (k : Q (.bl (decide (a ≤ b))) H) : rLeS (T [a]) (T [b]) H Q := by
  refine ⟨_, _, rfl, rfl, ?_⟩
  have e : (!decide (([b] : List Nat) < [a])) = decide (a ≤ b) := by
    by_cases h : a ≤ b
    · rw [decide_eq_true h, decide_eq_false (fun z => by have := (lt_one b a).mp z; omega)]; rfl
    · rw [decide_eq_false h, decide_eq_true ((lt_one b a).mpr (by omega))]; rfl
  show Q (.bl (!decide (([b] : List Nat) < [a]))) H
  rw [e]
  exact k
def rFind3 : V → List V → Hp → VK → Prop := fun x xs H Q => ∃ (a b : Str) (i : Int), x = .str a ∧ xs = [.str b, .int i] ∧ Q (.int (Txt.find3 a b i)) H
theorem mt_findS {X : Cx} : MtR X "str.find" rFind3 := mt_find3
def rStarts3 : V → List V → Hp → VK → Prop := fun x xs H Q => ∃ (a b : Str) (i : Int), x = .str a ∧ xs = [.str b, .int i] ∧ Q (.bl (Txt.startswith3 a b i)) H
theorem mt_startsS {X : Cx} : MtR X "str.startswith" rStarts3 := mt_startswith3
def rIsdigit : V → List V → Hp → VK → Prop := fun x xs H Q => ∃ a, x = .str a ∧ xs = [] ∧ True ∧ Q (.bl (Txt.isdigit a)) H
theorem mt_isdigitS {X : Cx} : MtR X "str.isdigit" rIsdigit := mt_isdigit
/-- where the first c from i on stands; -1 -/
def findC (cs : List Nat) (c i : Nat) : Int := if i + ((cs.drop i).takeWhile (fun x => x != c)).length < cs.length then ((i + ((cs.drop i).takeWhile (fun x => x != c)).length : Nat) : Int) else -1
theorem tw_get {p : Nat → Bool} : ∀ {l : List Nat} {j : Nat} {x : Nat}, j < (l.takeWhile p).length → l[j]? = some x → p x = true
  | [], _, _, h, _ => by simp at h
  | a :: l, j, x, h, e => by
    rw [List.takeWhile_cons] at h
    by_cases ha : p a = true
    · rw [if_pos ha] at h
      cases j with
      | zero => rw [List.getElem?_cons_zero] at e; cases e; exact ha
      | succ j => exact tw_get (l := l) (j := j) (by simpa using h) (by simpa using e)
    · rw [if_neg ha] at h; simp at h
theorem tw_end {p : Nat → Bool} : ∀ {l : List Nat}, (l.takeWhile p).length < l.length → ∃ x, l[(l.takeWhile p).length]? = some x ∧ p x = false
  | [], h => by simp at h
  | a :: l, h => by
    rw [List.takeWhile_cons] at h ⊢
    by_cases ha : p a = true
    · rw [if_pos ha] at h ⊢
      obtain ⟨x, e, hx⟩ := tw_end (l := l) (by simpa using h)
      exact ⟨x, by simpa using e, hx⟩
    · rw [if_neg ha]
      exact ⟨a, by simp, by simpa using ha⟩
theorem tw_le {p : Nat → Bool} (l : List Nat) : (l.takeWhile p).length ≤ l.length := (List.takeWhile_prefix p).length_le
/-- the first place of a c is told by takeWhile -/
theorem tw_first {c : Nat} {l : List Nat} {k : Nat} (h1 : l[k]? = some c) (h2 : ∀ j, j < k → l[j]? ≠ some c) : (l.takeWhile (fun x => x != c)).length = k := by
  rcases Nat.lt_trichotomy (l.takeWhile (fun x => x != c)).length k with h | h | h
  · obtain ⟨hk, _⟩ := List.getElem?_eq_some_iff.mp h1
    obtain ⟨x, e, hx⟩ := tw_end (p := fun x => x != c) (l := l) (by omega)
    have : x = c := by simpa using hx
    exact absurd (this ▸ e) (h2 _ h)
  · exact h
  · have := tw_get h h1
    simp at this
theorem find_T {cs : List Nat} {c i : Nat} (hi : i ≤ cs.length) : Txt.find3 ⟨cs.toArray⟩ ⟨#[c]⟩ (i : Int) = findC cs c i := by
  have hf : PySem.fromIndex (⟨cs.toArray⟩ : Str).length (i : Int) = i := by
    rw [len_T]
    unfold PySem.fromIndex
    first
      | (simp; omega)
      | (simp; done)
      | omega
  have gd : ∀ v, v < cs.length → (⟨cs.toArray⟩ : Str).cps.getD v 0 = cs.getD v 0 := fun v hv => by simp [Array.getD, hv, List.getD]
  unfold findC
  rcases StrLaws.find3_spec ⟨cs.toArray⟩ c (i : Int) with ⟨e, hn⟩ | ⟨k, e, h1, h2, h3, h4⟩
  · rw [hf] at hn
    rw [len_T] at hn
    rw [e, if_neg]
    intro hlt
    have hl2 : ((cs.drop i).takeWhile (fun x => x != c)).length < (cs.drop i).length := by rw [List.length_drop]; omega
    obtain ⟨x, ex, hx⟩ := tw_end hl2
    have : x = c := by simpa using hx
    subst this
    rw [List.getElem?_drop] at ex
    obtain ⟨hv, ev⟩ := List.getElem?_eq_some_iff.mp ex
    refine hn _ (Nat.le_add_right _ _) hv ?_
    rw [gd _ hv, List.getD_eq_getElem?_getD, ex]
    rfl
  · rw [hf] at h1 h4
    rw [len_T] at h2
    have hk : (cs.drop i)[k - i]? = some c := by
      rw [List.getElem?_drop, show i + (k - i) = k by omega, List.getElem?_eq_getElem h2]
      rw [gd _ h2, List.getD_eq_getElem?_getD, List.getElem?_eq_getElem h2] at h3
      exact congrArg some h3
    have hb : ∀ j, j < k - i → (cs.drop i)[j]? ≠ some c := fun j hj z => by
      rw [List.getElem?_drop] at z
      obtain ⟨hv, ev⟩ := List.getElem?_eq_some_iff.mp z
      refine h4 (i + j) (Nat.le_add_right _ _) (by omega) ?_
      rw [gd _ hv, List.getD_eq_getElem?_getD, z]
      rfl
    have hl := tw_first hk hb
    rw [e, hl, if_pos (by omega)]
    congr 1
    omega
theorem w_find {Q : VK} {H : Hp} {cs : List Nat} {c i : Nat} (hi : i ≤ cs.length) (k : Q (.int (findC cs c i)) H) : rFind3 (T cs) [T [c], .int (i : Int)] H Q :=
  ⟨_, ⟨#[c]⟩, _, rfl, rfl, by rw [find_T hi]; exact k⟩
theorem starts_T {cs b : List Nat} {i : Nat} (hi : i ≤ cs.length) : Txt.startswith3 ⟨cs.toArray⟩ ⟨b.toArray⟩ (i : Int) = b.isPrefixOf (cs.drop i) := by
  have hf : PySem.fromIndex (⟨cs.toArray⟩ : Str).length (i : Int) = i := by
    rw [len_T]
    unfold PySem.fromIndex
    first
      | (simp; omega)
      | (simp; done)
      | omega
  unfold Txt.startswith3
  rw [hf, len_T, len_T]
  have e : Builtin.Str.subAt ⟨cs.toArray⟩ ⟨b.toArray⟩ i = decide ((cs.drop i).take b.length = b) := by
    unfold Builtin.Str.subAt
    rw [len_T]
    have : (⟨cs.toArray⟩ : Str).cps.extract i (i + b.length) = ((cs.drop i).take b.length).toArray := by
      apply Array.ext'
      simp [List.extract_eq_drop_take, List.take_drop]
    rw [this]
    by_cases h : (cs.drop i).take b.length = b
    · rw [decide_eq_true h, h]; simp
    · rw [decide_eq_false h]
      refine beq_eq_false_iff_ne.mpr fun z => h ?_
      have := congrArg Array.toList z
      simpa using this
  rw [e, Bool.eq_iff_iff, List.isPrefixOf_iff_prefix, Bool.and_eq_true, decide_eq_true_iff, decide_eq_true_iff]
  constructor
  · rintro ⟨_, h⟩
    rw [← h]
    exact List.take_prefix _ _
  · intro h
    have hl := h.length_le
    rw [List.length_drop] at hl
    refine ⟨by have : b.length = 0 ∨ 0 < b.length := by omega
               omega, (List.prefix_iff_eq_take.mp h).symm⟩
theorem w_starts {Q : VK} {H : Hp} {cs b : List Nat} {i : Nat} (hi : i ≤ cs.length) (k : Q (.bl (b.isPrefixOf (cs.drop i))) H) : rStarts3 (T cs) [T b, .int (i : Int)] H Q :=
  ⟨_, ⟨b.toArray⟩, _, rfl, rfl, by rw [starts_T hi]; exact k⟩
theorem dig_ascii : ∀ c, c < 128 → Unicode.isDigit c = (decide (48 ≤ c) && decide (c ≤ 57)) := by decide +kernel
theorem w_isdigit {Q : VK} {H : Hp} {cs : List Nat} (hne : cs ≠ []) (ha : ∀ c ∈ cs, c < 128) (k : Q (.bl (cs.all fun c => decide (48 ≤ c) && decide (c ≤ 57))) H) : rIsdigit (T cs) [] H Q := by
  refine ⟨_, rfl, rfl, trivial, ?_⟩
  have e : Txt.isdigit ⟨cs.toArray⟩ = cs.all fun c => decide (48 ≤ c) && decide (c ≤ 57) := by
    unfold Txt.isdigit
    rw [len_T]
    have h0 : 0 < cs.length := by
      cases cs with
      | nil => exact absurd rfl hne
      | cons _ _ => simp
    have h1 : cs.toArray.all Unicode.isDigit = cs.all fun c => decide (48 ≤ c) && decide (c ≤ 57) := by
      rw [List.all_toArray]
      rw [Bool.eq_iff_iff, List.all_eq_true, List.all_eq_true]
      exact ⟨fun h c hc => by rw [← dig_ascii c (ha c hc)]; exact h c hc, fun h c hc => by rw [dig_ascii c (ha c hc)]; exact h c hc⟩
    show (decide (cs.length > 0) && cs.toArray.all Unicode.isDigit) = _
    rw [h1, decide_eq_true h0, Bool.true_and]
  rw [e]
  exact k
end Lv
/-! Trees of tuples, texts, numbers, truths and None; two of one shape are told the same. -/
namespace Lv
open PySem PySem.Spec PyProof.Rows L2
inductive Tr where
  | s (a : List Nat)
  | i (x : Int)
  | b (x : Bool)
  | n
  | t (l : List Tr)
mutual
inductive TrAt (K : PySem.W.Frag) (H : Hp) : V → Tr → Prop
  | s {a : List Nat} : TrAt K H (T a) (.s a)
  | i {x : Int} : TrAt K H (.int x) (.i x)
  | b {x : Bool} : TrAt K H (.bl x) (.b x)
  | n : TrAt K H .non .n
  | t {p : Addr} {vs : List V} {l : List Tr} : SqT K H p vs → TrsAt K H vs l → TrAt K H (.ref p) (.t l)
inductive TrsAt (K : PySem.W.Frag) (H : Hp) : List V → List Tr → Prop
  | nil : TrsAt K H [] []
  | cons {v : V} {t : Tr} {vs : List V} {l : List Tr} : TrAt K H v t → TrsAt K H vs l → TrsAt K H (v :: vs) (t :: l)
end
mutual
theorem TrAt.imp {K : PySem.W.Frag} {H H' : Hp} (f : ∀ p vs, SqT K H p vs → SqT K H' p vs) : ∀ {v : V} {t : Tr}, TrAt K H v t → TrAt K H' v t
  | _, _, .s => .s
  | _, _, .i => .i
  | _, _, .b => .b
  | _, _, .n => .n
  | _, _, .t h r => .t (f _ _ h) (TrsAt.imp f r)
theorem TrsAt.imp {K : PySem.W.Frag} {H H' : Hp} (f : ∀ p vs, SqT K H p vs → SqT K H' p vs) : ∀ {vs : List V} {l : List Tr}, TrsAt K H vs l → TrsAt K H' vs l
  | _, _, .nil => .nil
  | _, _, .cons h r => .cons (TrAt.imp f h) (TrsAt.imp f r)
end
theorem TrAt.same {K : PySem.W.Frag} {H H1 : Hp} {v : V} {t : Tr} (h : TrAt K H v t) (s : Same H H1) : TrAt K H1 v t := h.imp fun p vs q => Same.sqT s q
theorem TrsAt.same {K : PySem.W.Frag} {H H1 : Hp} {vs : List V} {l : List Tr} (h : TrsAt K H vs l) (s : Same H H1) : TrsAt K H1 vs l := h.imp fun p vs q => Same.sqT s q
theorem sqT_but {K : PySem.W.Frag} {D p : Addr} {H H1 : Hp} {xs vs : List V} (q : SqT K H p vs) (hD : H D = some (.lst xs)) (k : ∀ b o, b ≠ D → H b = some o → H1 b = some o) : SqT K H1 p vs := by
  rcases q with (h | ⟨o, h⟩) | h
  · exact .inl (.inl (k _ _ (fun e => by rw [e, hD] at h; cases h) h))
  · exact .inl (.inr ⟨o, k _ _ (fun e => by rw [e, hD] at h; cases h) h⟩)
  · exact .inr h
theorem TrAt.but {K : PySem.W.Frag} {D : Addr} {H H1 : Hp} {xs : List V} {v : V} {t : Tr} (h : TrAt K H v t) (hD : H D = some (.lst xs)) (k : ∀ b o, b ≠ D → H b = some o → H1 b = some o) : TrAt K H1 v t := h.imp fun _ _ q => sqT_but q hD k
theorem TrsAt.but {K : PySem.W.Frag} {D : Addr} {H H1 : Hp} {xs : List V} {vs : List V} {l : List Tr} (h : TrsAt K H vs l) (hD : H D = some (.lst xs)) (k : ∀ b o, b ≠ D → H b = some o → H1 b = some o) : TrsAt K H1 vs l := h.imp fun _ _ q => sqT_but q hD k
theorem TrsAt.snoc {K : PySem.W.Frag} {H : Hp} {v : V} {t : Tr} (h : TrAt K H v t) : ∀ {vs : List V} {l : List Tr}, TrsAt K H vs l → TrsAt K H (vs ++ [v]) (l ++ [t])
  | _, _, .nil => .cons h .nil
  | _, _, .cons a r => .cons a (TrsAt.snoc h r)
theorem TrsAt.length {K : PySem.W.Frag} {H : Hp} : ∀ {vs : List V} {l : List Tr}, TrsAt K H vs l → vs.length = l.length
  | _, _, .nil => rfl
  | _, _, .cons _ r => by rw [List.length_cons, List.length_cons, TrsAt.length r]
theorem TrsAt.get {K : PySem.W.Frag} {H : Hp} : ∀ {vs : List V} {l : List Tr} {i : Nat}, TrsAt K H vs l → i < l.length → ∃ v t, vs[i]? = some v ∧ l[i]? = some t ∧ TrAt K H v t
  | _, _, _, .nil, h => absurd h (Nat.not_lt_zero _)
  | _, _, 0, .cons h _, _ => ⟨_, _, rfl, rfl, h⟩
  | _, _, i + 1, .cons _ r, h => by
    obtain ⟨v, t, h1, h2, h3⟩ := TrsAt.get r (i := i) (by simpa using h)
    exact ⟨v, t, by simpa using h1, by simpa using h2, h3⟩
theorem trs_texts {K : PySem.W.Frag} {H : Hp} : ∀ l : List (List Nat), TrsAt K H (l.map T) (l.map Tr.s)
  | [] => .nil
  | _ :: l => .cons .s (trs_texts l)
/-- no tree is nested deeper than so -/
def TrD : Nat → Tr → Prop
  | 0, _ => False
  | n + 1, .t l => l.length < 1000000 ∧ ∀ t ∈ l, TrD n t
  | _ + 1, _ => True
/-! isinstance -/
section
variable {K : PySem.W.Frag} {H : Hp} {Q : VK}
theorem w_isi {x : V} {a ty : String} {r : Bool} (hx : TyX K H x (.type a)) (k : Q (.bl r) H) (hk : kitB a ty = some r := by decide +kernel) : rIsi K [x, .ty ty] H Q := ⟨_, _, _, _, _, rfl, .ty _, hx, kit_ty hk, k⟩
theorem tyx_tup {p : Addr} {vs : List V} (h : SqT K H p vs) : TyX K H (.ref p) (.type "tuple") := by
  rcases h with (h | ⟨o, h⟩) | ⟨o, its, n, h, e1, e2, _⟩
  · exact .base (.tup h)
  · exact .fTuple h
  · exact .kTuple h e1
theorem tyx_s {a : List Nat} : TyX K H (T a) (.type "str") := .base (.str _)
theorem tyx_i {i : Int} : TyX K H (.int i) (.type "int") := .base (.int _)
theorem tyx_b {b : Bool} : TyX K H (.bl b) (.type "bool") := .base (.bl _)
theorem tyx_n : TyX K H .non (.type "NoneType") := .base .non
theorem isi_s_tuple {a : List Nat} (k : Q (.bl false) H) : rIsi K [T a, .ty "tuple"] H Q := w_isi (r := false) tyx_s k
instance {a : List Nat} : Wk1 (rIsi K [T a, .ty "tuple"] H Q) (Q (.bl false) H) := ⟨isi_s_tuple⟩
theorem isi_s_bool {a : List Nat} (k : Q (.bl false) H) : rIsi K [T a, .ty "bool"] H Q := w_isi (r := false) tyx_s k
instance {a : List Nat} : Wk1 (rIsi K [T a, .ty "bool"] H Q) (Q (.bl false) H) := ⟨isi_s_bool⟩
theorem isi_s_int {a : List Nat} (k : Q (.bl false) H) : rIsi K [T a, .ty "int"] H Q := w_isi (r := false) tyx_s k
instance {a : List Nat} : Wk1 (rIsi K [T a, .ty "int"] H Q) (Q (.bl false) H) := ⟨isi_s_int⟩
theorem isi_s_str {a : List Nat} (k : Q (.bl true) H) : rIsi K [T a, .ty "str"] H Q := w_isi (r := true) tyx_s k
instance {a : List Nat} : Wk1 (rIsi K [T a, .ty "str"] H Q) (Q (.bl true) H) := ⟨isi_s_str⟩
theorem isi_i_tuple {i : Int} (k : Q (.bl false) H) : rIsi K [.int i, .ty "tuple"] H Q := w_isi (r := false) tyx_i k
instance {i : Int} : Wk1 (rIsi K [.int i, .ty "tuple"] H Q) (Q (.bl false) H) := ⟨isi_i_tuple⟩
theorem isi_i_bool {i : Int} (k : Q (.bl false) H) : rIsi K [.int i, .ty "bool"] H Q := w_isi (r := false) tyx_i k
instance {i : Int} : Wk1 (rIsi K [.int i, .ty "bool"] H Q) (Q (.bl false) H) := ⟨isi_i_bool⟩
theorem isi_i_int {i : Int} (k : Q (.bl true) H) : rIsi K [.int i, .ty "int"] H Q := w_isi (r := true) tyx_i k
instance {i : Int} : Wk1 (rIsi K [.int i, .ty "int"] H Q) (Q (.bl true) H) := ⟨isi_i_int⟩
theorem isi_i_str {i : Int} (k : Q (.bl false) H) : rIsi K [.int i, .ty "str"] H Q := w_isi (r := false) tyx_i k
instance {i : Int} : Wk1 (rIsi K [.int i, .ty "str"] H Q) (Q (.bl false) H) := ⟨isi_i_str⟩
theorem isi_b_tuple {b : Bool} (k : Q (.bl false) H) : rIsi K [.bl b, .ty "tuple"] H Q := w_isi (r := false) tyx_b k
instance {b : Bool} : Wk1 (rIsi K [.bl b, .ty "tuple"] H Q) (Q (.bl false) H) := ⟨isi_b_tuple⟩
theorem isi_b_bool {b : Bool} (k : Q (.bl true) H) : rIsi K [.bl b, .ty "bool"] H Q := w_isi (r := true) tyx_b k
instance {b : Bool} : Wk1 (rIsi K [.bl b, .ty "bool"] H Q) (Q (.bl true) H) := ⟨isi_b_bool⟩
theorem isi_b_int {b : Bool} (k : Q (.bl true) H) : rIsi K [.bl b, .ty "int"] H Q := w_isi (r := true) tyx_b k
instance {b : Bool} : Wk1 (rIsi K [.bl b, .ty "int"] H Q) (Q (.bl true) H) := ⟨isi_b_int⟩
theorem isi_b_str {b : Bool} (k : Q (.bl false) H) : rIsi K [.bl b, .ty "str"] H Q := w_isi (r := false) tyx_b k
instance {b : Bool} : Wk1 (rIsi K [.bl b, .ty "str"] H Q) (Q (.bl false) H) := ⟨isi_b_str⟩
theorem isi_n_tuple  (k : Q (.bl false) H) : rIsi K [.non, .ty "tuple"] H Q := w_isi (r := false) tyx_n k
instance  : Wk1 (rIsi K [.non, .ty "tuple"] H Q) (Q (.bl false) H) := ⟨isi_n_tuple⟩
theorem isi_n_bool  (k : Q (.bl false) H) : rIsi K [.non, .ty "bool"] H Q := w_isi (r := false) tyx_n k
instance  : Wk1 (rIsi K [.non, .ty "bool"] H Q) (Q (.bl false) H) := ⟨isi_n_bool⟩
theorem isi_n_int  (k : Q (.bl false) H) : rIsi K [.non, .ty "int"] H Q := w_isi (r := false) tyx_n k
instance  : Wk1 (rIsi K [.non, .ty "int"] H Q) (Q (.bl false) H) := ⟨isi_n_int⟩
theorem isi_n_str  (k : Q (.bl false) H) : rIsi K [.non, .ty "str"] H Q := w_isi (r := false) tyx_n k
instance  : Wk1 (rIsi K [.non, .ty "str"] H Q) (Q (.bl false) H) := ⟨isi_n_str⟩
theorem isi_t_tuple {p : Addr} (h : ∃ vs, SqT K H p vs) (k : Q (.bl true) H) : rIsi K [.ref p, .ty "tuple"] H Q := w_isi (r := true) (h.elim fun _ h => tyx_tup h) k
theorem isi_t_bool {p : Addr} (h : ∃ vs, SqT K H p vs) (k : Q (.bl false) H) : rIsi K [.ref p, .ty "bool"] H Q := w_isi (r := false) (h.elim fun _ h => tyx_tup h) k
theorem isi_t_int {p : Addr} (h : ∃ vs, SqT K H p vs) (k : Q (.bl false) H) : rIsi K [.ref p, .ty "int"] H Q := w_isi (r := false) (h.elim fun _ h => tyx_tup h) k
theorem isi_t_str {p : Addr} (h : ∃ vs, SqT K H p vs) (k : Q (.bl false) H) : rIsi K [.ref p, .ty "str"] H Q := w_isi (r := false) (h.elim fun _ h => tyx_tup h) k
end

/-! is it None -/
theorem ifN_s {a : List Nat} {A B : Prop} (k : B) : if decide (T a = V.non) = true then A else B := by rw [if_neg (by simp)]; exact k
instance {a : List Nat} {A B : Prop} : Wk1 (if decide (T a = V.non) = true then A else B) (B) := ⟨ifN_s⟩
theorem ifN_i {a : Int} {A B : Prop} (k : B) : if decide (V.int a = V.non) = true then A else B := by rw [if_neg (by simp)]; exact k
instance {a : Int} {A B : Prop} : Wk1 (if decide (V.int a = V.non) = true then A else B) (B) := ⟨ifN_i⟩
theorem ifN_b {a : Bool} {A B : Prop} (k : B) : if decide (V.bl a = V.non) = true then A else B := by rw [if_neg (by simp)]; exact k
instance {a : Bool} {A B : Prop} : Wk1 (if decide (V.bl a = V.non) = true then A else B) (B) := ⟨ifN_b⟩
theorem ifN_r {a : Addr} {A B : Prop} (k : B) : if decide (V.ref a = V.non) = true then A else B := by rw [if_neg (by simp)]; exact k
instance {a : Addr} {A B : Prop} : Wk1 (if decide (V.ref a = V.non) = true then A else B) (B) := ⟨ifN_r⟩
theorem ifN_n {A B : Prop} (k : A) : if decide (V.non = V.non) = true then A else B := by rw [if_pos (by simp)]; exact k
instance {A B : Prop} : Wk1 (if decide (V.non = V.non) = true then A else B) (A) := ⟨ifN_n⟩
theorem ifM_s {a : List Nat} {A B : Prop} (k : A) : if (!decide (T a = V.non)) = true then A else B := by rw [if_pos (by simp)]; exact k
instance {a : List Nat} {A B : Prop} : Wk1 (if (!decide (T a = V.non)) = true then A else B) (A) := ⟨ifM_s⟩
theorem ifM_i {a : Int} {A B : Prop} (k : A) : if (!decide (V.int a = V.non)) = true then A else B := by rw [if_pos (by simp)]; exact k
instance {a : Int} {A B : Prop} : Wk1 (if (!decide (V.int a = V.non)) = true then A else B) (A) := ⟨ifM_i⟩
theorem ifM_b {a : Bool} {A B : Prop} (k : A) : if (!decide (V.bl a = V.non)) = true then A else B := by rw [if_pos (by simp)]; exact k
instance {a : Bool} {A B : Prop} : Wk1 (if (!decide (V.bl a = V.non)) = true then A else B) (A) := ⟨ifM_b⟩
theorem ifM_r {a : Addr} {A B : Prop} (k : A) : if (!decide (V.ref a = V.non)) = true then A else B := by rw [if_pos (by simp)]; exact k
instance {a : Addr} {A B : Prop} : Wk1 (if (!decide (V.ref a = V.non)) = true then A else B) (A) := ⟨ifM_r⟩
theorem ifM_n {A B : Prop} (k : B) : if (!decide (V.non = V.non)) = true then A else B := by rw [if_neg (by simp)]; exact k
instance {A B : Prop} : Wk1 (if (!decide (V.non = V.non)) = true then A else B) (B) := ⟨ifM_n⟩
theorem ifB_tt {A B : Prop} (k : A) : if decide (V.bl true = V.bl true) = true then A else B := by rw [if_pos (by simp)]; exact k
instance {A B : Prop} : Wk1 (if decide (V.bl true = V.bl true) = true then A else B) (A) := ⟨ifB_tt⟩
theorem ifB_ff {A B : Prop} (k : A) : if decide (V.bl false = V.bl false) = true then A else B := by rw [if_pos (by simp)]; exact k
instance {A B : Prop} : Wk1 (if decide (V.bl false = V.bl false) = true then A else B) (A) := ⟨ifB_ff⟩
theorem ifB_tf {A B : Prop} (k : B) : if decide (V.bl true = V.bl false) = true then A else B := by rw [if_neg (by simp)]; exact k
instance {A B : Prop} : Wk1 (if decide (V.bl true = V.bl false) = true then A else B) (B) := ⟨ifB_tf⟩
theorem ifB_ft {A B : Prop} (k : B) : if decide (V.bl false = V.bl true) = true then A else B := by rw [if_neg (by simp)]; exact k
instance {A B : Prop} : Wk1 (if decide (V.bl false = V.bl true) = true then A else B) (B) := ⟨ifB_ft⟩
theorem at_self {x : V} {H : Hp} {Q : VK} (k : Q (.bl true) H) : Q (.bl (decide (x = x))) H := by rw [decide_eq_true rfl]; exact k
theorem ifE_self {x : V} {A B : Prop} (k : A) : if decide (x = x) = true then A else B := by rw [if_pos (by simp)]; exact k
theorem ifD_self {x : V} {A B : Prop} (k : B) : if (!decide (x = x)) = true then A else B := by rw [if_neg (by simp)]; exact k
end Lv
/-! More steps: a comprehension over a range or a list, the heap a letter; enumerate over a list; a tuple's index; not in. -/
namespace Lv
open PySem PySem.Spec PyProof.Rows L2
/-- all but the list at D is as it was -/
def But (D : Addr) (H H1 : Hp) : Prop := ∀ b o, b ≠ D → H b = some o → H1 b = some o
theorem same_of_but {D : Addr} {H H1 H2 : Hp} (hD : H D = none) (s : Same H H1) (k : But D H1 H2) : Same H H2 := fun b o h => k b o (fun e => by rw [e, hD] at h; cases h) (s b o h)
section
variable {σ : L2.St} {H : Hp} {Q : VK} {K : PySem.W.Frag}
/-- what a comprehension over a range asks -/
def LcR (g : TG) (tt : TT) (te : TE) (vs : List Nat) (ws : List V) (σ : L2.St) (H : Hp) (Q : VK) : Prop := ∃ j : Int, ws = [.int j] ∧ -(2 ^ 62) ≤ j ∧ j < 2 ^ 62 ∧ ∀ D, H D = none → ∃ W : Nat → Nat → Hp → Prop, (∃ m, W 0 m (upd H D (.lst []))) ∧ ∀ i m H, W i m H →
  ((Itr 0 j.toNat).stop i H ∧ Q (.ref D) H) ∨ ((Itr 0 j.toNat).go i H ∧ ∃ Nx : Hp → Prop, (∀ H', Nx H' → ∃ m', m' < m ∧ W (i + 1) m' H') ∧ ∀ x H', (Itr 0 j.toNat).yld i H x H' → g x (wipe σ vs) H' fun σ2 H2 => wipe σ2 vs = wipe σ vs ∧ tt σ2 H2 fun b H3 =>
    if b = true then te σ2 H3 fun y H4 => ∃ acc, H4 D = some (.lst acc) ∧ acc.length < sizeLine ∧ Nx (upd H4 D (.lst (acc ++ [y]))) else Nx H3)
theorem w_lcR {ta : TA} {g : TG} {tt : TT} {te : TE} {vs : List Nat} (k : ta σ H fun ws H1 => LcR g tt te vs ws σ H1 Q) : tLc (iRng1 ta) g tt te vs σ H Q := k
instance {ta : TA} {g : TG} {tt : TT} {te : TE} {vs : List Nat} : Wk1 (tLc (iRng1 ta) g tt te vs σ H Q) (ta σ H fun ws H1 => LcR g tt te vs ws σ H1 Q) := ⟨w_lcR⟩
/-- what holds between two turns: of the list at D, and what is made so far -/
def LcN (Pv : Addr → Nat → List V → Hp → Prop) (D : Addr) (i : Nat) (H1 : Hp) : Prop := ∃ acc, acc.length ≤ i ∧ H1 D = some (.lst acc) ∧ Pv D i acc H1
theorem lc_skip {Pv : Addr → Nat → List V → Hp → Prop} {D : Addr} {i : Nat} {acc : List V} {H1 : Hp} (hl : acc.length ≤ i) (h : H1 D = some (.lst acc)) (p : Pv D (i + 1) acc H1) : LcN Pv D (i + 1) H1 := ⟨acc, by omega, h, p⟩
theorem lc_keep {Pv : Addr → Nat → List V → Hp → Prop} {D : Addr} {i : Nat} {acc : List V} {y : V} {H1 : Hp} (hl : acc.length ≤ i) (hi : i < 1000000) (h : H1 D = some (.lst acc)) (p : ∀ H5, H5 D = some (.lst (acc ++ [y])) → But D H1 H5 → Pv D (i + 1) (acc ++ [y]) H5) :
    ∃ acc, H1 D = some (.lst acc) ∧ acc.length < sizeLine ∧ LcN Pv D (i + 1) (upd H1 D (.lst (acc ++ [y]))) :=
  ⟨acc, h, Nat.lt_of_le_of_lt hl (Nat.lt_trans hi (by decide)), acc ++ [y], by rw [List.length_append]; show acc.length + 1 ≤ i + 1; omega, upd_same, p _ upd_same fun b o n e => by rw [upd_ne n]; exact e⟩
/-- over range(n) -/
theorem lc_R {g : TG} {tt : TT} {te : TE} {vs : List Nat} {j : Int} (Pv : Addr → Nat → List V → Hp → Prop) (hj : 0 ≤ j) (hn : j < 1000000)
    (h0 : ∀ D H1, H D = none → Same H H1 → H1 D = some (.lst []) → Pv D 0 [] H1)
    (hs : ∀ D (i : Nat) acc H1, (i : Int) < j → acc.length ≤ i → H1 D = some (.lst acc) → Pv D i acc H1 → g (.int (0 + (i : Int))) (wipe σ vs) H1 fun σ2 H2 => wipe σ2 vs = wipe σ vs ∧ tt σ2 H2 fun b H3 =>
      if b = true then te σ2 H3 fun y H4 => ∃ acc, H4 D = some (.lst acc) ∧ acc.length < sizeLine ∧ LcN Pv D (i + 1) (upd H4 D (.lst (acc ++ [y]))) else LcN Pv D (i + 1) H3)
    (hd : ∀ D acc H1, acc.length ≤ j.toNat → H1 D = some (.lst acc) → Pv D j.toNat acc H1 → Q (.ref D) H1) : LcR g tt te vs [.int j] σ H Q := by
  refine ⟨j, rfl, by omega, by omega, fun D hD => ?_⟩
  refine ⟨fun i m H1 => m = j.toNat - i ∧ i ≤ j.toNat ∧ LcN Pv D i H1, ⟨j.toNat, by simp, Nat.zero_le _, [], Nat.le_refl _, upd_same, h0 D _ hD (same_new0 hD) upd_same⟩, ?_⟩
  rintro i m H1 ⟨rfl, hi, acc, ha, hD1, p⟩
  by_cases hlt : i < j.toNat
  · refine .inr ⟨hlt, LcN Pv D (i + 1), fun H' p' => ⟨j.toNat - (i + 1), by omega, rfl, hlt, p'⟩, fun x H' y => ?_⟩
    obtain ⟨e, y⟩ := y
    subst e y
    exact hs D i acc _ (by omega) ha hD1 p
  · have e : i = j.toNat := by omega
    subst e
    exact .inl ⟨Nat.le_refl _, hd D acc _ ha hD1 p⟩
/-- over a list -/
def LcL (K : PySem.W.Frag) (g : TG) (tt : TT) (te : TE) (vs : List Nat) (x : V) (σ : L2.St) (H : Hp) (Q : VK) : Prop := ∃ a, x = .ref a ∧ (∃ xs, SqL K H a xs) ∧ ∀ D, H D = none → ∃ W : Nat → Nat → Hp → Prop, (∃ m, W 0 m (upd H D (.lst []))) ∧ ∀ i m H, W i m H →
  ((Itl K a).stop i H ∧ Q (.ref D) H) ∨ ((Itl K a).go i H ∧ ∃ Nx : Hp → Prop, (∀ H', Nx H' → ∃ m', m' < m ∧ W (i + 1) m' H') ∧ ∀ x H', (Itl K a).yld i H x H' → g x (wipe σ vs) H' fun σ2 H2 => wipe σ2 vs = wipe σ vs ∧ tt σ2 H2 fun b H3 =>
    if b = true then te σ2 H3 fun y H4 => ∃ acc, H4 D = some (.lst acc) ∧ acc.length < sizeLine ∧ Nx (upd H4 D (.lst (acc ++ [y]))) else Nx H3)
theorem w_lcL {te0 : TE} {g : TG} {tt : TT} {te : TE} {vs : List Nat} (k : te0 σ H fun x H1 => LcL K g tt te vs x σ H1 Q) : tLc (iList K te0) g tt te vs σ H Q := k
instance {te0 : TE} {g : TG} {tt : TT} {te : TE} {vs : List Nat} : Wk1 (tLc (iList K te0) g tt te vs σ H Q) (te0 σ H fun x H1 => LcL K g tt te vs x σ H1 Q) := ⟨w_lcL⟩
theorem lc_L {g : TG} {tt : TT} {te : TE} {vs : List Nat} {a : Addr} {xs : List V} (Pv : Addr → Nat → List V → Hp → Prop) (ha : SqL K H a xs)
    (h0 : ∀ D H1, H D = none → Same H H1 → H1 D = some (.lst []) → Pv D 0 [] H1)
    (hl : ∀ D i acc H1, i ≤ xs.length → Pv D i acc H1 → SqL K H1 a xs)
    (hs : ∀ D (i : Nat) x acc H1, xs[i]? = some x → acc.length ≤ i → H1 D = some (.lst acc) → Pv D i acc H1 → g x (wipe σ vs) H1 fun σ2 H2 => wipe σ2 vs = wipe σ vs ∧ tt σ2 H2 fun b H3 =>
      if b = true then te σ2 H3 fun y H4 => ∃ acc, H4 D = some (.lst acc) ∧ acc.length < sizeLine ∧ LcN Pv D (i + 1) (upd H4 D (.lst (acc ++ [y]))) else LcN Pv D (i + 1) H3)
    (hd : ∀ D acc H1, acc.length ≤ xs.length → H1 D = some (.lst acc) → Pv D xs.length acc H1 → Q (.ref D) H1) : LcL K g tt te vs (.ref a) σ H Q := by
  refine ⟨a, rfl, ⟨xs, ha⟩, fun D hD => ?_⟩
  refine ⟨fun i m H1 => m = xs.length - i ∧ i ≤ xs.length ∧ LcN Pv D i H1, ⟨xs.length, by simp, Nat.zero_le _, [], Nat.le_refl _, upd_same, h0 D _ hD (same_new0 hD) upd_same⟩, ?_⟩
  rintro i m H1 ⟨rfl, hi, acc, hac, hD1, p⟩
  have q := hl D i acc H1 hi p
  by_cases hlt : i < xs.length
  · refine .inr ⟨⟨xs, xs[i], q, List.getElem?_eq_getElem hlt⟩, LcN Pv D (i + 1), fun H' p' => ⟨xs.length - (i + 1), by omega, rfl, hlt, p'⟩, fun x H' y => ?_⟩
    obtain ⟨e, y⟩ := y
    subst e
    exact hs D i x acc _ (y xs q) hac hD1 p
  · have e : i = xs.length := by omega
    subst e
    exact .inl ⟨⟨xs, q, Nat.le_refl _⟩, hd D acc _ hac hD1 p⟩
/-- a comprehension without a test -/
theorem w_yes {G : Bool → Hp → Prop} (k : G true H) : tYes σ H G := k
instance {G : Bool → Hp → Prop} : Wk1 (tYes σ H G) (G true H) := ⟨w_yes⟩
/-! truth of a value -/
def rTru (K : PySem.W.Frag) (x : V) (H : Hp) (Q : Bool → Hp → Prop) : Prop := ∃ k, TruV K x H k ∧ Q k H
def tTruV (K : PySem.W.Frag) (ta : TE) : TT := fun σ H Q => ta σ H fun x H' => rTru K x H' Q
theorem pt_tru {X : Cx} {a : Expr} {ta : TE} (ha : PE X a ta) (he : ∀ whole, isTrue a X.env whole = (do let v ← whole; standAt a.pos; holding [v] (truthy v)) := by intro _; rfl) : PT X a (tTruV X.K ta) := pt_truth ha he
theorem w_tru {ta : TE} {G : Bool → Hp → Prop} (k : ta σ H fun x H' => rTru K x H' G) : tTruV K ta σ H G := k
instance {ta : TE} {G : Bool → Hp → Prop} : Wk1 (tTruV K ta σ H G) (ta σ H fun x H' => rTru K x H' G) := ⟨w_tru⟩
theorem w_truL {p : Addr} {xs : List V} {G : Bool → Hp → Prop} (h : SqL K H p xs) (k1 : xs ≠ [] → G true H) (k2 : xs = [] → G false H) : rTru K (.ref p) H G := by
  refine ⟨!xs.isEmpty, .inl ⟨xs, h, rfl⟩, ?_⟩
  cases xs with
  | nil => exact k2 rfl
  | cons x xs => exact k1 (List.cons_ne_nil _ _)
theorem w_truT {p : Addr} {xs : List V} {G : Bool → Hp → Prop} (h : SqT K H p xs) (k1 : xs ≠ [] → G true H) (k2 : xs = [] → G false H) : rTru K (.ref p) H G := by
  refine ⟨!xs.isEmpty, .inr (.inl ⟨xs, h, rfl⟩), ?_⟩
  cases xs with
  | nil => exact k2 rfl
  | cons x xs => exact k1 (List.cons_ne_nil _ _)
/-! is None -/
def rIsN : R2 := fun x y H Q => y = .non ∧ Q (.bl (decide (x = .non))) H
theorem op_isN {X : Cx} : OpR X (compareOp .Is) rIsN := L2.op_isN
theorem w_isN {x : V} (k : Q (.bl (decide (x = .non))) H) : rIsN x .non H Q := ⟨rfl, k⟩
instance {x : V} : Wk1 (rIsN x .non H Q) (Q (.bl (decide (x = .non))) H) := ⟨w_isN⟩
def rNotN : R2 := fun x y H Q => y = .non ∧ Q (.bl (!decide (x = .non))) H
theorem op_notN {X : Cx} : OpR X (compareOp .IsNot) rNotN := L2.op_notN
theorem w_notN {x : V} (k : Q (.bl (!decide (x = .non))) H) : rNotN x .non H Q := ⟨rfl, k⟩
instance {x : V} : Wk1 (rNotN x .non H Q) (Q (.bl (!decide (x = .non))) H) := ⟨w_notN⟩
/-! not in -/
theorem w_ninL {a : List Nat} {p : Addr} {l : List (List Nat)} (h : SqL K H p (l.map T)) (k : Q (.bl (!decide (a ∈ l))) H) : rIn K true (T a) (.ref p) H Q :=
  ⟨p, _, rfl, .inl h, rfl, flat_T l, by rw [if_pos rfl, inV_T]; exact k⟩
theorem w_ninT {a : List Nat} {p : Addr} {l : List (List Nat)} (h : SqT K H p (l.map T)) (k : Q (.bl (!decide (a ∈ l))) H) : rIn K true (T a) (.ref p) H Q :=
  ⟨p, _, rfl, .inr h, rfl, flat_T l, by rw [if_pos rfl, inV_T]; exact k⟩
/-! tuple(list): the new tuple's object is known (it has no dict) -/
def FT (H : Hp) (p : Addr) (xs : List V) : Prop := ∃ o : Obj, o.dict = none ∧ H p = some (.frz o (.tup xs))
theorem FT.sq {p : Addr} {xs : List V} (h : FT H p xs) : SqT K H p xs := by
  obtain ⟨o, _, h⟩ := h
  exact .inl (.inr ⟨o, h⟩)
theorem FT.same {p : Addr} {xs : List V} {H1 : Hp} (h : FT H p xs) (s : Same H H1) : FT H1 p xs := by
  obtain ⟨o, e, h⟩ := h
  exact ⟨o, e, s _ _ h⟩
theorem FT.but {p D : Addr} {xs ys : List V} {H1 : Hp} (h : FT H p xs) (hD : H D = some (.lst ys)) (k : ∀ b o, b ≠ D → H b = some o → H1 b = some o) : FT H1 p xs := by
  obtain ⟨o, e, h⟩ := h
  exact ⟨o, e, k _ _ (fun z => by rw [z, hD] at h; cases h) h⟩
def rTupOf (K : PySem.W.Frag) : List V → Hp → VK → Prop := fun xs H Q => ∃ p ys, xs = [.ref p] ∧ SqL K H p ys ∧ ∀ l o, H l = none → o.dict = none → Q (.ref l) (upd H l (.frz o (.tup ys)))
theorem call_tupleOf {X : Cx} : CallR X (.type "tuple") (rTupOf X.K) := by
  intro pins s σ H xs us Q I r h
  obtain ⟨p, ys, rfl, hq, q⟩ := h
  obtain ⟨u, rfl, rx⟩ := vals1 r
  cases rx
  obtain ⟨its, r', pl, hz⟩ := I.list hq
  have hlen := r'.length
  refine call_tuple_list pl.isList (fun h' kp => ?_) (by simp only [List.size_toArray] <;> omega)
  have I1 : Inv X pins σ H { s with heap := h' } := I.kept (t' := s.toks) kp
  have I2 : Inv X pins σ (upd H h'.objs.size (.frz { cls := .type "tuple", data := .seq its.toArray } (.tup ys))) { s with heap := h'.push { cls := .type "tuple", data := .seq its.toArray } } :=
    I1.laid (t' := s.toks) (fun b o e => Heap.get?_push_of_some _ e) (Nat.le_refl _) (show ObjOk X.prog X.w _ _ _ (.frz _ (.tup ys)) from ⟨Heap.get?_push_size _ rfl, hz, its, r', IsTup.new _ _⟩)
  exact ⟨.ref h'.objs.size, _, I2, rfl, q _ _ (I1.hok.fresh (Nat.le_refl _)) rfl⟩
theorem w_tupOf {p : Addr} {ys : List V} (h : SqL K H p ys) (k : ∀ l H1, H l = none → Same H H1 → FT H1 l ys → Q (.ref l) H1) : rTupOf K [.ref p] H Q :=
  ⟨p, ys, rfl, h, fun l o hl e => k l _ hl (same_new0 hl) ⟨o, e, upd_same⟩⟩
/-! a tuple's own method -/
def tBMT (r : V → List V → Hp → VK → Prop) (to : TE) (t : TA) : TE := fun σ H Q => to σ H fun x H1 => (∃ p xs, x = .ref p ∧ FT H1 p xs) ∧ t σ H1 fun xs H2 => r x xs H2 Q
theorem pe_bmT {X : Cx} {o e : Expr} {es : List Expr} {name : Str} {id : String} {r : V → List V → Hp → VK → Prop} {to : TE} {t : TA} {apos cpos : Pos} (pa : PlainAttrs "tuple") (slot : Slot "tuple" name id) (hty : typeOf (.builtin id) = pure (.type "method_descriptor")) (hm : MtR X id r) (ho : PE X o to) (ha : PA X (e :: es) t)
    (hbase : attributeBase o name X.env (eval o X.env) = eval o X.env := by rfl)
    (hfew : ((backTo cpos (starEach (e :: es) X.env)).all (fun x => !x.1) && (backToKw cpos (keywordEach [] X.env)).all (fun x => x.1.isSome)
      && decide ((e :: es).length + ([] : List Keyword).length + (if ([] : List Keyword).isEmpty then 0 else 1) < 30)) = true := by rfl)
    (hline : (apos.endLine == cpos.line) = true := by rfl) (hs : starEach (e :: es) X.env = (false, eval e X.env) :: starEach es X.env := by rfl) (hplain : (backTo cpos (starEach es X.env)).any (·.1) = false := by rfl) :
    PE X (.Call (.Attribute o name apos) (e :: es) [] cpos) (tBMT r to t) := by
  refine ⟨fun pins s σ H Q I h => ?_⟩
  refine wpAny_Call_method_late hbase hfew hline rfl (thn (ho.run pins s σ H _ I h) fun v s1 ⟨x, H1, I1, r1, ty, q1⟩ => ?_)
  obtain ⟨p, ys, rfl, o, hd, hp⟩ := ty
  cases r1
  obtain ⟨g, hz, its, rv, o2, g2, hc, n, hda⟩ := (show ObjOk X.prog X.w H1 s1.heap p (.frz o (.tup ys)) from I1.hok p _ hp)
  have eo : o2 = o := Option.some.inj (g2.symm.trans g)
  subst eo
  have h1 : s1.TypeIs (.ref p) "tuple" := ⟨o2, g, hc⟩
  have h2 : ∀ a, Value.ref p = .ref a → ∃ ob, s1.heap.get? a = some ob ∧ ob.dict = none := fun a e => by cases e; exact ⟨o2, g, hd⟩
  refine ⟨"tuple", id, pa, slot, hty, h1, h2, ?_⟩
  have hA := ha.run cpos pins s1 σ H1 _ I1 q1
  rw [hs] at hA ⊢
  refine Calls.callWith_builtin (by show (false || (backTo cpos (starEach es X.env)).any (·.1)) = false; rw [hplain] <;> rfl) (Calls.evalArgs_plain ?_)
  exact thn hA fun us s2 ⟨vs, H2, I2, r2, q2⟩ => hm pins s2 σ H2 (V.ref p) vs (.ref p) us Q I2 rfl r2 q2
theorem w_bmT {r : V → List V → Hp → VK → Prop} {to : TE} {t : TA} {σ : L2.St} (k : to σ H fun x H1 => (∃ p xs, x = .ref p ∧ FT H1 p xs) ∧ t σ H1 fun xs H2 => r x xs H2 Q) : tBMT r to t σ H Q := k
instance {r : V → List V → Hp → VK → Prop} {to : TE} {t : TA} {σ : L2.St} : Wk1 (tBMT r to t σ H Q) (to σ H fun x H1 => (∃ p xs, x = .ref p ∧ FT H1 p xs) ∧ t σ H1 fun xs H2 => r x xs H2 Q) := ⟨w_bmT⟩
/-! t.index(x) -/
def rTupIx (K : PySem.W.Frag) : V → List V → Hp → VK → Prop := fun x xs H Q => ∃ p, ∃ ys : List Str, ∃ z j, x = .ref p ∧ xs = [.str z] ∧ SqT K H p (ys.map V.str) ∧ ys[j]? = some z ∧ (∀ m, m < j → ys[m]? ≠ some z) ∧ Q (.int (j : Nat)) H
theorem mt_tupIx {X : Cx} : MtR X "tuple.index" (rTupIx X.K) := L2.mt_tup_index
def S (a : List Nat) : Str := ⟨a.toArray⟩
theorem S_inj {a b : List Nat} (h : S a = S b) : a = b := T_inj (congrArg V.str h)
theorem map_T_S (l : List (List Nat)) : l.map T = (l.map S).map V.str := by rw [List.map_map]; rfl
theorem w_tupIx {a : List Nat} {p : Addr} {l : List (List Nat)} (h : SqT K H p (l.map T)) (ha : a ∈ l) (k : Q (.int ((l.idxOf a : Nat) : Int)) H) : rTupIx K (.ref p) [T a] H Q := by
  have hlt : l.idxOf a < l.length := List.idxOf_lt_length_of_mem ha
  refine ⟨p, l.map S, S a, l.idxOf a, rfl, rfl, by rw [← map_T_S]; exact h, ?_, fun m hm e => ?_, k⟩
  · rw [List.getElem?_map, List.getElem?_eq_getElem hlt, List.getElem_idxOf hlt]; rfl
  · have hm2 : m < l.length := Nat.lt_trans hm hlt
    rw [List.getElem?_map, List.getElem?_eq_getElem hm2] at e
    have e2 : l[m] = a := S_inj (Option.some.inj e)
    have z := List.not_of_lt_findIdx (p := (· == a)) (xs := l) (i := m) hm
    rw [e2] at z
    simp at z
def rAbs : List V → Hp → VK → Prop := fun xs H Q => ∃ i, xs = [.int i] ∧ Q (.int (if i < 0 then -i else i)) H
theorem call_absI {X : Cx} : CallR X (.builtin "abs") rAbs := L2.call_abs
theorem w_abs {a : Int} (k : Q (.int (if a < 0 then -a else a)) H) : rAbs [.int a] H Q := ⟨a, rfl, k⟩
instance {a : Int} : Wk1 (rAbs [.int a] H Q) (Q (.int (if a < 0 then -a else a)) H) := ⟨w_abs⟩
theorem w_neg {f : Int → V} {a : Int} (k : Q (f a) H) : rU f (.int a) H Q := ⟨a, rfl, k⟩
instance {f : Int → V} {a : Int} : Wk1 (rU f (.int a) H Q) (Q (f a) H) := ⟨w_neg⟩
def rLtS : R2 := fun x y H Q => ∃ i j, x = .str i ∧ y = .str j ∧ Q (.bl (decide (i.cps.toList < j.cps.toList))) H
theorem op_ltS {X : Cx} : OpR X (compareOp .Lt) rLtS := L2.op_lt_str
theorem w_ltS {a b : List Nat} (k : Q (.bl (decide (a < b))) H) : rLtS (T a) (T b) H Q := ⟨_, _, rfl, rfl, k⟩
instance {a b : List Nat} : Wk1 (rLtS (T a) (T b) H Q) (Q (.bl (decide (a < b))) H) := ⟨w_ltS⟩
def rLeT : R2 := fun x y H Q => ∃ i j, x = .str i ∧ y = .str j ∧ Q (.bl (!decide (j.cps.toList < i.cps.toList))) H
theorem op_leT {X : Cx} : OpR X (compareOp .LtE) rLeT := L2.op_le_str
theorem w_leS {a b : List Nat} (k : Q (.bl (!decide (b < a))) H) : rLeT (T a) (T b) H Q := ⟨_, _, rfl, rfl, k⟩
instance {a b : List Nat} : Wk1 (rLeT (T a) (T b) H Q) (Q (.bl (!decide (b < a))) H) := ⟨w_leS⟩
theorem w_all {p : Addr} {bs : List Bool} (h : SqL K H p (bs.map V.bl)) (k : Q (.bl (bs.all id)) H) : L2.rAll K [.ref p] H Q := ⟨p, bs, rfl, h, k⟩
end
/-! for i, x in enumerate(xs), a list -/
section
variable {K : PySem.W.Frag} {ta : TA} {g : TG} {tb : TS} {D : Ends} {σ : L2.St} {H : Hp}
def ForEl (K : PySem.W.Frag) (g : TG) (tb : TS) (vs : List V) (D : Ends) (σ : L2.St) (H : Hp) : Prop := ∃ a xs, vs = [.ref a] ∧ SqL K H a xs ∧ ∃ W : Nat → Nat → L2.St → Hp → Prop, (∃ m, W 0 m σ H) ∧ ∀ i m σ H, W i m σ H →
  ((Ite K a).stop i H ∧ D.nx σ H) ∨ ((Ite K a).go i H ∧ ∃ N : L2.St → Hp → Prop, (∀ σ' H', N σ' H' → ∃ m', m' < m ∧ W (i + 1) m' σ' H') ∧ ∀ x H', (Ite K a).yld i H x H' → g x σ H' fun σ2 H2 => tb { D with nx := N, ct := N, bk := D.nx } σ2 H2)
theorem w_forEl (k : ta σ H fun vs H1 => ForEl K g tb vs D σ H1) : tFor (iEnum K ta) g tb D σ H := k
instance  : Wk1 (tFor (iEnum K ta) g tb D σ H) (ta σ H fun vs H1 => ForEl K g tb vs D σ H1) := ⟨w_forEl⟩
theorem for_El {a : Addr} {xs : List V} (Pv : Nat → L2.St → Hp → Prop) (h0 : Pv 0 σ H) (hl : ∀ i σ H, i ≤ xs.length → Pv i σ H → SqL K H a xs)
    (hs : ∀ i x σ H p H', xs[i]? = some x → Pv i σ H → H p = none → Same H H' → H' p = some (.tup [.int (i : Int), x]) → g (.ref p) σ H' fun σ2 H2 => tb { D with nx := Pv (i + 1), ct := Pv (i + 1), bk := D.nx } σ2 H2)
    (hd : ∀ σ H, Pv xs.length σ H → D.nx σ H) : ForEl K g tb [.ref a] D σ H := by
  refine ⟨a, xs, rfl, hl 0 σ H (Nat.zero_le _) h0, fun i m σ H => m = xs.length - i ∧ i ≤ xs.length ∧ Pv i σ H, ⟨xs.length, by simp, Nat.zero_le _, h0⟩, ?_⟩
  rintro i m σ H ⟨rfl, hi, p⟩
  by_cases hlt : i < xs.length
  · refine .inr ⟨⟨xs, xs[i], hl i σ H hi p, List.getElem?_eq_getElem hlt⟩, Pv (i + 1), fun σ' H' p' => ⟨xs.length - (i + 1), by omega, rfl, hlt, p'⟩, fun x H' y => ?_⟩
    obtain ⟨q, z, rfl, hq, rfl, hz⟩ := y
    exact hs i z σ H q _ (hz xs (hl i σ H hi p)) p hq (same_new hq) upd_same
  · have e : i = xs.length := by omega
    subst e
    exact .inl ⟨⟨xs, hl _ σ H hi p, Nat.le_refl _⟩, hd σ H p⟩
end
end Lv
/-! isinstance of a caught error that has a dict of its own; a call in a try. -/
namespace L2
open PySem PySem.Spec PyProof.Rows
/-- isinstance(e, c), e the exception that the suite holds, at a, of the class cls, its dict d -/
def rIsG (K : PySem.W.Frag) (a : Addr) (cls : Value) (d : Option Addr) : List V → Hp → VK → Prop := fun xs H Q => ∃ (D dd : Addr) (fs : List (Str × V)) (c : V) (cv : Value) (b : Bool), xs = [.ref a, c] ∧ cls = .ref D ∧ d = some dd ∧ H dd = some (.xd fs) ∧ ExcC K D ∧
  (∀ u, RelV c u → u = cv) ∧ PySem.W.kitOne K (.ref D) cv = some b ∧ Q (.bl b) H
theorem call_isG {X : Cx} {a : Addr} {cls : Value} {d : Option Addr} {oe : Obj} {pn : List (Addr × Obj)} (hz : Zc cls d oe) (hf : ∃ vs, oe.data = .fields vs) : CallR (X.suite a ((a, oe) :: pn)) (.builtin "isinstance") (rIsG X.K a cls d) := by
  intro pins s σ H xs us Q I r h
  obtain ⟨D, dd, fs, c, cv, b, rfl, rfl, rfl, hdd, C, hcv, e, q⟩ := h
  cases r with
  | cons rx rr =>
    cases rr with
    | cons rt rr =>
      cases rr
      cases rx
      have ec := hcv _ rt
      subst ec
      obtain ⟨hget, _⟩ := I.pin (a, oe) (List.mem_append.mpr (.inl List.mem_cons_self))
      obtain ⟨vs, hv⟩ := hf
      have hx : ObjOk X.prog X.w H s.heap dd (.xd fs) := I.hok dd _ hdd
      obtain ⟨mA, hns, _⟩ := hx
      obtain ⟨od, es, ep, hod, _⟩ := hns
      have J : PySem.W.InstAt s.heap a oe D (some od) := by
        obtain ⟨oc, od', oda, osl⟩ := oe
        obtain ⟨h1, h2⟩ := hz
        dsimp only at h1 h2 hv
        subst h1 h2 hv
        exact ⟨hget, rfl, rfl, hod⟩
      have hcl : (PySem.W.clsIn X.K D).isSome = true := by
        obtain ⟨cd, hc, _⟩ := PySem.W.any_some C.hd
        rw [hc]; rfl
      exact PySem.W.kia_one (PySem.W.kitx_exc hcl C.hg C.hk C.hs C.ha C.hn C.ht C.hm) I.kIn J e (fun z => nomatch z) fun tk => ⟨.bl b, H, I.kept (t' := tk) fun _ _ z => z, rfl, q⟩
end L2
namespace Lv
open PySem PySem.Spec PyProof.Rows L2
section
variable {X : Cx} {k j : Nat} {x : Str} {sp : Sp} {W : WX} {p pos : Pos} {e : Expr} {es : List Expr} {t : TA}
theorem pe_cxs (c : CalX X.prog X.w X.K X.mg X.base k x sp) (hr : Room j X.A) (hk : k ≤ j) (hg : Gl X x) (tk : Takes X W) (ha : PA X (e :: es) t)
    (hdb : (x == ("__debug__" : Str)) = false := by decide) (he : starEach (e :: es) X.env = (false, eval e X.env) :: starEach es X.env := by rfl) (hpl : (backTo pos (starEach es X.env)).any (·.1) = false := by rfl) :
    PE X (.Call (.Name x p) (e :: es) [] pos) (tCallS sp (WE W) t) := by
  obtain ⟨f, fd, ps, F, hm, kp, b⟩ := c.ex
  exact pe_callS F (hr.mono hk) hg hm kp b (fun σ => passAt tk σ) ha hdb he hpl
end
end Lv
namespace Lv
open PySem PySem.Spec PyProof.Rows L2
theorem ite_g {c : Prop} [Decidable c] {a b : Prop} (h : if c then a else b) : if c then a else b := h
section
open PySem PySem.Spec PyProof.Rows L2
def topS (i : Nat) : Stmt := PySem.Challenge.pw_livestead_k16_whole_code_does_what_the_b.main.body.getD i (.Pass ⟨0, 0, 0, 0⟩)
structure Bn (mg : Str → Option Value) : Prop where
  n_len : mg "len" = none
  n_int : mg "int" = none
  n_list : mg "list" = none
  n_range : mg "range" = none
  n_max : mg "max" = none
  n_str : mg "str" = none
  n_isinstance : mg "isinstance" = none
  n_bool : mg "bool" = none
  n_ord : mg "ord" = none
  n_tuple : mg "tuple" = none
  n_enumerate : mg "enumerate" = none
  n_min : mg "min" = none
  n_abs : mg "abs" = none
  n_all : mg "all" = none
  n_any : mg "any" = none
  n_sorted : mg "sorted" = none
  n_sum : mg "sum" = none

end
section
open PySem PySem.Spec PyProof.Rows L2
open C8 (Cal cal0 pe_c pe_gc pss_cut tCut)

end
local macro_rules | `(tactic| walk_at "r1o") => `(tactic| first
  | refine Wk0.go ?_
  | with_reducible refine w_var (by with_unfolding_all exact rfl) ?_
  | with_reducible refine w_var (by with_unfolding_all exact rfl) ?_
  | with_reducible refine w_eq (by with_unfolding_all exact rfl) ?_
  | with_reducible refine w_ne (by with_unfolding_all exact rfl) ?_
  | with_reducible refine L2.iteF ?_
  | with_reducible refine L2.iteT ?_)
local macro_rules | `(tactic| walk_at "rdo") => `(tactic| repeat walk_at "r1o")
section
open PySem PySem.Spec PyProof.Rows L2
open C8 (Cal cal0 pe_c pe_gc pss_cut tCut)

/-- the draws' state: a list of the ints, a place in it, the cell, what is left of it, a flag, what is left of the text -/
def StL (L : Addr) (i c k : Int) (b : Bool) (r : Int) : List V := [.ref L, .int i, .int c, .int k, .bl b, .int r]
def StAt (H : Hp) (S L : Addr) (r : Int) : Prop := ∃ (ns : List Int) (i c k : Int) (b : Bool), L ≠ S ∧ H L = some (.lst (ns.map V.int)) ∧ 0 ≤ i ∧ H S = some (.lst (StL L i c k b r))
theorem StAt.mono {H H' : Hp} {S L : Addr} {r : Int} (h : StAt H S L r) (f : Same H H') : StAt H' S L r := by
  obtain ⟨ns, i, c, k, b, h1, h2, h3, h4⟩ := h
  exact ⟨ns, i, c, k, b, h1, f _ _ h2, h3, f _ _ h4⟩
theorem stl_set1 {L : Addr} {i c k : Int} {b : Bool} {r z : Int} : (StL L i c k b r).set 1 (.int z) = StL L z c k b r := rfl
theorem stl_set2 {L : Addr} {i c k : Int} {b : Bool} {r z : Int} : (StL L i c k b r).set 2 (.int z) = StL L i z k b r := rfl
theorem stl_set3 {L : Addr} {i c k : Int} {b : Bool} {r z : Int} : (StL L i c k b r).set 3 (.int z) = StL L i c z b r := rfl
theorem stl_set4 {L : Addr} {i c k : Int} {b z : Bool} {r : Int} : (StL L i c k b r).set 4 (.bl z) = StL L i c k z r := rfl
theorem stl_set5 {L : Addr} {i c k : Int} {b : Bool} {r z : Int} : (StL L i c k b r).set 5 (.int z) = StL L i c k b z := rfl

theorem w_stset {H : Hp} {S : Addr} {xs : List V} {j : Int} {n : Nat} {v : V} {G : Hp → Prop} (hS : H S = some (.lst xs)) (e : ixN xs.length j = some n)
    (k : ∀ H2, H2 S = some (.lst (xs.set n v)) → Fr S H H2 → G H2) : rSetL (.ref S) (.int j) v H G := w_setL hS e (k _ upd_same Fr.own)
theorem at_ints {ns : List Int} {i : Int} (h0 : 0 ≤ i) (h1 : ¬ (ns.map V.int).length ≤ i) : ∃ z, atI (ns.map V.int) i = some (V.int z) := by
  have h2 : i.toNat < ns.length := by rw [List.length_map] at h1; omega
  obtain ⟨j, rfl⟩ : ∃ j : Nat, i = (j : Int) := ⟨i.toNat, by omega⟩
  rw [Int.toNat_natCast] at h2
  refine ⟨ns[j], atI_nat ?_⟩
  rw [List.getElem?_map, List.getElem?_eq_getElem h2]
  rfl

section
variable {P : Program} {w : World} {K : PySem.W.Frag} {mg : Str → Option Value} {base : Heap}

abbrev s_law_state : Stmt := topS 6
abbrev N_law_state : List Str := ["script"]
theorem sc_law_state : FnScope N_law_state ["script"] (defScope s_law_state) := ⟨rfl, rfl, rfl, by decide +kernel, rfl, by decide +kernel, by decide +kernel⟩
def spState (K : PySem.W.Frag) : Sp := fun vs H Q _ => ∃ (a : Addr) (ns : List Int), vs = [.ref a] ∧ SqL K H a (ns.map V.int) ∧ ∀ S L H', StAt H' S L 500 → Same H H' → H S = none → H L = none → Q (.ref S) H'
theorem ok_law_state {f : Addr} {fd : FuncData} (F : Fun K "_law_state" "_law_state" s_law_state f fd) (Y : Bn mg) : FnOk P w K mg base CX0 1 f fd ["script"] (spState K) := by
  refine F.ok sc_law_state (fun vs H Q E h => ?_) (fun cdv A outer s H vs Q E hr h => ?_)
  · obtain ⟨a, ns, rfl, _⟩ := h
    rfl
  · obtain ⟨a, ns, rfl, hS, kQ⟩ := h
    have nd := sc_law_state.nd
    refine ⟨_, (pss_one (ps_ret (pe_lst (pa_cons (pe_callTy call_listOf (by rfl) Y.n_list (by decide +kernel) (pa_cons (pv 0) pa_nil)) (pa_cons pe_int (pa_cons pe_int (pa_cons pe_int (pa_cons pe_bl (pa_cons pe_int pa_nil))))))))), ?_⟩
    rw [show L2.start N_law_state [.ref a] = [some (.ref a)] from rfl]
    walk_at "rdo"
    refine w_listOf hS fun l hl => ?_
    walk_at "rdo"
    refine ⟨by show 6 ≤ sizeLine; decide, fun p hp => ?_⟩
    have nlp : l ≠ p := fun e => by rw [← e, upd_same] at hp; cases hp
    refine kQ p l _ ⟨ns, 0, 0, 0, false, nlp, ?_, by decide, upd_same⟩ ((same_new hl).trans (same_new hp)) ((same_new hl).free hp) hl
    rw [upd_ne nlp, upd_same]

abbrev s_law_draw : Stmt := topS 7
abbrev N_law_draw : List Str := ["state", "limit", "cell", "digit", "mixed"]
theorem sc_law_draw : FnScope N_law_draw ["state", "limit"] (defScope s_law_draw) := ⟨rfl, rfl, rfl, by decide +kernel, rfl, by decide +kernel, by decide +kernel⟩
def spDraw : Sp := fun vs H Q _ => ∃ (S L : Addr) (r m : Int), vs = [.ref S, .int m] ∧ StAt H S L r ∧ 0 < m ∧ m < 1073741824 ∧ ∀ x H', 0 ≤ x → x < m → StAt H' S L r → Fr S H H' → Q (.int x) H'
theorem ok_law_draw {f : Addr} {fd : FuncData} (F : Fun K "_law_draw" "_law_draw" s_law_draw f fd) (Y : Bn mg) : FnOk P w K mg base CX0 1 f fd ["state", "limit"] spDraw := by
  refine F.ok sc_law_draw (fun vs H Q E h => ?_) (fun cdv A outer s H vs Q E hr h => ?_)
  · obtain ⟨S, L, r, m, rfl, _⟩ := h
    rfl
  · obtain ⟨S, L, r, m, rfl, ⟨ns, i, c, k, b, hLS, hL, hi, hS⟩, hm, hm2, kQ⟩ := h
    have nd := sc_law_draw.nd
    refine ⟨_, (pss_cut (ps_if (pt_cmpR op_eq (pe_ix ix_list (pv 0) pe_int (fun _ _ => rfl)) pe_int (nomark _)) (pss_cons (ps_if (pt_cmpR op_ge (pe_ix ix_list (pv 0) pe_int (fun _ _ => rfl)) (pe_callB call_lenL (by rfl) Y.n_len (by decide +kernel) (pa_cons (pe_ix ix_list (pv 0) pe_int (fun _ _ => rfl)) pa_nil)) (nomark _)) (pss_one (ps_ret pe_int)) pss_nil)
      (pss_cons (ps_set (i := 2) nd rfl (Or.inl rfl) (pe_ix ix_list (pe_ix ix_list (pv 0) pe_int (fun _ _ => rfl)) (pe_ix ix_list (pv 0) pe_int (fun _ _ => rfl)) (fun _ _ => rfl)))
      (pss_cut (ps_if (pt_cmpR op_lt (pv 2) pe_int (nomark _)) (pss_one (ps_set (i := 2) nd rfl (Or.inl rfl) (pe_op op_sub (pe_un un_neg pe_int) (pv 2)))) pss_nil)
      (pss_cons (ps_asg (pe_op op_add (pe_ix ix_list (pv 0) pe_int (fun _ _ => rfl)) pe_int) (pg_sub (pv 0) pe_int set_list))
      (pss_cons (ps_asg (pv 2) (pg_sub (pv 0) pe_int set_list))
      (pss_cons (ps_asg (pe_cmpR op_ge (pv 2) (pe_op op_pow pe_int pe_int) (nomark _)) (pg_sub (pv 0) pe_int set_list))
      (pss_cons (ps_asg pe_int (pg_sub (pv 0) pe_int set_list))
      (pss_one (ps_if (pt_val (pe_ix ix_list (pv 0) pe_int (fun _ _ => rfl))) (pss_one (ps_asg pe_int (pg_sub (pv 0) pe_int set_list))) pss_nil))))))))) pss_nil)
      (pss_cons (ps_asg (pe_op op_sub (pe_ix ix_list (pv 0) pe_int (fun _ _ => rfl)) pe_int) (pg_sub (pv 0) pe_int set_list))
      (pss_cons (ps_if (pt_val (pe_ix ix_list (pv 0) pe_int (fun _ _ => rfl))) (pss_cons (ps_set (i := 3) nd rfl (Or.inl rfl) (pe_op op_modN (pe_callTy call_intI (by rfl) Y.n_int (by decide +kernel) (pa_cons (pe_ix ix_list (pv 0) pe_int (fun _ _ => rfl)) pa_nil)) (pv 1)))
      (pss_cons (ps_asg (pe_op op_fdivN (pe_ix ix_list (pv 0) pe_int (fun _ _ => rfl)) (pv 1)) (pg_sub (pv 0) pe_int set_list))
      (pss_cons (ps_if (pt_cmpR op_eq (pe_ix ix_list (pv 0) pe_int (fun _ _ => rfl)) pe_int (nomark _)) (pss_one (ps_asg pe_int (pg_sub (pv 0) pe_int set_list))) pss_nil)
      (pss_one (ps_ret (pv 3)))))) pss_nil)
      (pss_cons (ps_set (i := 4) nd rfl (Or.inl rfl) (pe_op op_modN (pe_callTy call_intI (by rfl) Y.n_int (by decide +kernel) (pa_cons (pe_op op_add (pe_op op_add (pe_op op_mul (pe_ix ix_list (pv 0) pe_int (fun _ _ => rfl)) pe_int) (pe_op op_mul (pe_ix ix_list (pv 0) pe_int (fun _ _ => rfl)) pe_int)) pe_int) pa_nil)) pe_int))
      (pss_cons (ps_set (i := 4) nd rfl (Or.inl rfl) (pe_op op_modN (pe_callTy call_intI (by rfl) Y.n_int (by decide +kernel) (pa_cons (pe_op op_add (pe_op op_add (pe_op op_mul (pv 4) (pv 4)) (pe_op op_mul (pe_ix ix_list (pv 0) pe_int (fun _ _ => rfl)) pe_int)) (pe_ix ix_list (pv 0) pe_int (fun _ _ => rfl))) pa_nil)) pe_int))
      (pss_one (ps_ret (pe_op op_modN (pe_callTy call_intI (by rfl) Y.n_int (by decide +kernel) (pa_cons (pv 4) pa_nil)) (pv 1))))))))), ?_⟩
    rw [show L2.start N_law_draw [.ref S, .int m] = [some (.ref S), some (.int m), none, none, none] from rfl]
    refine ⟨fun σ' H' => ∃ x, σ' = [some (.ref S), some (.int m), x, none, none] ∧ (∃ (i c k : Int) (b : Bool), 0 ≤ i ∧ H' L = some (.lst (ns.map V.int)) ∧ H' S = some (.lst (StL L i c k b r))) ∧ Fr S H H', ?_, ?_⟩
    · walk_at "rdo"
      refine w_ixL (SqL.of hS) rfl ?_
      walk_at "rdo"
      refine w_ifI (fun hk => ?_) (fun hk => ?_)
      · walk_at "rdo"
        refine w_ixL (SqL.of hS) rfl ?_
        walk_at "rdo"
        refine w_ixL (SqL.of hS) rfl ?_
        walk_at "rdo"
        refine w_lenL (SqL.of hL) ?_
        walk_at "rdo"
        refine w_if (fun hl => ?_) (fun hl => ?_)
        · walk_at "rdo"
          exact kQ 0 H (by decide) hm ⟨ns, i, c, k, b, hLS, hL, hi, hS⟩ (Fr.refl S H)
        · walk_at "rdo"
          refine w_ixL (SqL.of hS) rfl ?_
          walk_at "rdo"
          refine w_ixL (SqL.of hS) rfl ?_
          obtain ⟨z, hz⟩ := at_ints hi hl
          refine w_ixL (SqL.of hL) hz ?_
          walk_at "rdo"
          refine ⟨fun σ' H' => H' = H ∧ ∃ z, σ' = [some (.ref S), some (.int m), some (.int z), none, none], ?_, ?_⟩
          · walk_at "rdo"
            refine w_if (fun _ => ?_) (fun _ => ?_)
            · walk_at "rdo"
              refine ⟨_, rfl, ?_⟩
              walk_at "rdo"
              exact ⟨rfl, _, rfl⟩
            · exact ⟨rfl, _, rfl⟩
          · rintro σ' H' ⟨rfl, z, rfl⟩
            walk_at "rdo"
            refine w_ixL (SqL.of hS) rfl ?_
            walk_at "rdo"
            refine w_stset hS rfl fun H1 hS1 f1 => ?_
            walk_at "rdo"
            refine w_stset hS1 rfl fun H2 hS2 f2 => ?_
            walk_at "rdo"
            refine w_i ⟨by decide, by decide, by decide⟩ ?_
            walk_at "rdo"
            refine w_stset hS2 rfl fun H3 hS3 f3 => ?_
            walk_at "rdo"
            refine w_stset hS3 rfl fun H4 hS4 f4 => ?_
            walk_at "rdo"
            refine w_ixL (SqL.of hS4) rfl ?_
            have f := ((f1.trans f2).trans f3).trans f4
            walk_at "rdo"
            refine w_if (fun _ => ?_) (fun _ => ?_)
            · walk_at "rdo"
              refine w_stset hS4 rfl fun H5 hS5 f5 => ?_
              exact ⟨_, rfl, ⟨_, _, _, _, Int.add_nonneg hi (by decide), (f.trans f5) _ _ hLS hL, hS5⟩, f.trans f5⟩
            · exact ⟨_, rfl, ⟨_, _, _, _, Int.add_nonneg hi (by decide), f _ _ hLS hL, hS4⟩, f⟩
      · exact ⟨_, rfl, ⟨i, c, k, b, hi, hL, hS⟩, Fr.refl S H⟩
    · rintro σ' H0 ⟨x, rfl, ⟨i, c, k, b, hi, hL, hS⟩, fr⟩
      walk_at "rdo"
      refine w_ixL (SqL.of hS) rfl ?_
      walk_at "rdo"
      refine w_stset hS rfl fun H1 hS1 f1 => ?_
      walk_at "rdo"
      refine w_ixL (SqL.of hS1) rfl ?_
      walk_at "rdo"
      refine w_ifb (fun _ => ?_) (fun _ => ?_)
      · walk_at "rdo"
        refine w_ixL (SqL.of hS1) rfl ?_
        walk_at "rdo"
        refine w_i (by omega) ?_
        walk_at "rdo"
        refine w_ixL (SqL.of hS1) rfl ?_
        walk_at "rdo"
        refine w_i ⟨by omega, by omega⟩ ?_
        walk_at "rdo"
        refine w_stset hS1 rfl fun H2 hS2 f2 => ?_
        walk_at "rdo"
        refine w_ixL (SqL.of hS2) rfl ?_
        walk_at "rdo"
        have b0 := Int.fmod_nonneg_of_pos c hm
        have b1 := Int.fmod_lt_of_pos c hm
        refine w_ifI (fun _ => ?_) (fun _ => ?_)
        · walk_at "rdo"
          refine w_stset hS2 rfl fun H3 hS3 f3 => ?_
          walk_at "rdo"
          have f := ((fr.trans f1).trans f2).trans f3
          exact kQ _ H3 b0 b1 ⟨ns, _, _, _, _, hLS, ((f1.trans f2).trans f3) _ _ hLS hL, hi, hS3⟩ f
        · walk_at "rdo"
          exact kQ _ H2 b0 b1 ⟨ns, _, _, _, _, hLS, (f1.trans f2) _ _ hLS hL, hi, hS2⟩ ((fr.trans f1).trans f2)
      · walk_at "rdo"
        refine w_ixL (SqL.of hS1) rfl ?_
        walk_at "rdo"
        refine w_mulR (by decide) ?_
        walk_at "rdo"
        refine w_ixL (SqL.of hS1) rfl ?_
        walk_at "rdo"
        refine w_mulR (by decide) ?_
        walk_at "rdo"
        refine w_i (by decide) ?_
        walk_at "rdo"
        refine w_mulR ?_ ?_
        · have b0 := Int.fmod_nonneg_of_pos (c * 48271 + (k - 1) * 69621 + 7) (show (0 : Int) < 2147483647 by decide)
          have b1 := Int.fmod_lt_of_pos (c * 48271 + (k - 1) * 69621 + 7) (show (0 : Int) < 2147483647 by decide)
          omega
        walk_at "rdo"
        refine w_ixL (SqL.of hS1) rfl ?_
        walk_at "rdo"
        refine w_mulR (by decide) ?_
        walk_at "rdo"
        refine w_ixL (SqL.of hS1) rfl ?_
        walk_at "rdo"
        refine w_i (by decide) ?_
        walk_at "rdo"
        refine w_i (by omega) ?_
        exact kQ _ H1 (Int.fmod_nonneg_of_pos _ hm) (Int.fmod_lt_of_pos _ hm) ⟨ns, _, _, _, _, hLS, f1 _ _ hLS hL, hi, hS1⟩ (fr.trans f1)
end
end
section
open PySem PySem.Spec PyProof.Rows L2
open TL (numL tl_num numL_digits numL_ne numL_val numL_len numL_lt numL_step)
/-! ### codes -/
def cds (s : String) : List Nat := (Str.ofString s).cps.toList
abbrev aJ : List Nat := cds "abcdefghijklmnopqrstuvwxyzABCDEFGHIJKLMNOPQRSTUVWXYZ0123456789"
abbrev aLow : List Nat := cds "abcdefghijklmnopqrstuvwxyz"
abbrev aUp : List Nat := cds "ABCDEFGHIJKLMNOPQRSTUVWXYZ"
abbrev aDig : List Nat := cds "0123456789"
def WL : List (List Nat) := ["method", "var", "end", "give", "fail", "if", "then", "else", "while", "do", "try", "catch", "keep", "always", "none", "true", "false", "self", "super", "new", "not", "and", "or"].map cds
theorem len_aJ : aJ.length = 62 := by decide +kernel
theorem len_aLow : aLow.length = 26 := by decide +kernel
theorem len_aUp : aUp.length = 26 := by decide +kernel
theorem WL_len : ∀ x ∈ WL, x.length ≤ 6 := by decide +kernel
theorem WL_one : ∀ x ∈ WL, ¬ (x ++ [49]) ∈ WL := by decide +kernel
theorem WL_form : ∀ x ∈ WL, ∃ c r, x = c :: r ∧ c ∈ aLow ∧ (∀ d ∈ r, d ∈ aJ) := by
  have h : ∀ x ∈ WL, x.headD 0 ∈ aLow ∧ (∀ d ∈ x.tail, d ∈ aJ) ∧ x ≠ [] := by decide +kernel
  intro x hx
  obtain ⟨h1, h2, h3⟩ := h x hx
  cases x with
  | nil => exact absurd rfl h3
  | cons c r => exact ⟨c, r, rfl, h1, h2⟩
theorem at_mod {l : List Nat} {n : Nat} (hl : l.length = n) (h0 : 0 < n) (x : Int) : ∃ c, c ∈ l ∧ atI l (x.fmod (n : Int)) = some c := by
  have b0 := Int.fmod_nonneg_of_pos x (show (0 : Int) < n by omega)
  have b1 := Int.fmod_lt_of_pos x (show (0 : Int) < n by omega)
  obtain ⟨j, e⟩ : ∃ j : Nat, x.fmod (n : Int) = (j : Int) := ⟨(x.fmod (n : Int)).toNat, by omega⟩
  have hj : j < l.length := by omega
  refine ⟨l[j], List.getElem_mem hj, ?_⟩
  rw [e]
  exact atI_nat (List.getElem?_eq_getElem hj)
theorem at_lt {l : List Nat} {x : Int} (h0 : 0 ≤ x) (h1 : x < l.length) : ∃ c, c ∈ l ∧ atI l x = some c := by
  obtain ⟨j, rfl⟩ : ∃ j : Nat, x = (j : Int) := ⟨x.toNat, by omega⟩
  have hj : j < l.length := by omega
  exact ⟨l[j], List.getElem_mem hj, atI_nat (List.getElem?_eq_getElem hj)⟩
theorem cut_mem {a : List Nat} {lo hi : Option Int} {c : Nat} (h : c ∈ cut a lo hi) : c ∈ a := List.mem_of_mem_drop (List.mem_of_mem_take h)
theorem cut_len (a : List Nat) (lo hi : Option Int) : (cut a lo hi).length ≤ a.length := by
  unfold cut
  rw [List.length_take, List.length_drop]
  omega
theorem cut_to (a : List Nat) (k : Nat) : cut a none (some (k : Int)) = a.take k := by
  unfold cut
  rw [HT.sIx_none, HT.sIx_nat, List.drop_zero, Nat.sub_zero]
  by_cases h : k ≤ a.length
  · rw [Nat.min_eq_left h]
  · rw [Nat.min_eq_right (by omega), List.take_of_length_le (Nat.le_refl _), List.take_of_length_le (by omega)]
theorem cut_mid (a : List Nat) {i j : Nat} (hj : j ≤ a.length) : cut a (some (i : Int)) (some (j : Int)) = (a.drop i).take (j - i) := by
  unfold cut
  rw [HT.sIx_nat, HT.sIx_nat, Nat.min_eq_left hj]
  by_cases h : i ≤ a.length
  · rw [Nat.min_eq_left h]
  · rw [Nat.min_eq_right (by omega)]
    have e1 : j - a.length = 0 := by omega
    have e2 : j - i = 0 := by omega
    rw [e1, e2]; rfl
theorem mem_rep {n : Nat} {a : List Nat} {c : Nat} (h : c ∈ (List.replicate n a).flatten) : c ∈ a := by
  obtain ⟨l, h1, h2⟩ := List.mem_flatten.mp h
  rw [(List.mem_replicate.mp h1).2] at h2
  exact h2
theorem len_rep (n : Nat) (a : List Nat) : (List.replicate n a).flatten.length = n * a.length := by simp
theorem rep_one (n c : Nat) : (List.replicate n [c]).flatten = List.replicate n c := by
  induction n with
  | zero => rfl
  | succ n ih => rw [List.replicate_succ, List.flatten_cons, ih, List.replicate_succ]; rfl

/-! ### the tokens of a text, as a function of its codes -/
def MLs : List (List Nat) := [":=", "<=", "(", ")", "{", "}", ",", ";", ".", "|", "=", "<", "+", "-", "*", "/"].map cds
theorem len_MLs : MLs.length = 16 := by decide +kernel
theorem len_WL : WL.length = 23 := by decide +kernel
def letC (c : Nat) : Bool := decide (c ∈ aJ)
def digC (c : Nat) : Bool := decide (48 ≤ c) && decide (c ≤ 57)
def srcC (c : Nat) : Bool := decide (32 ≤ c) && decide (c ≤ 126) && !decide (c = 37)
theorem aJ_split : aJ = aLow ++ aUp ++ aDig := by decide +kernel
theorem let_or (c : Nat) : letC c = (decide (c ∈ aLow) || (decide (c ∈ aUp) || decide (c ∈ aDig))) := by
  unfold letC
  rw [aJ_split]
  simp only [List.mem_append, Bool.decide_or, Bool.or_assoc]
theorem aJ_ascii : ∀ c ∈ aJ, c < 128 := by decide +kernel
theorem dig_iff (c : Nat) : decide (c ∈ aDig) = digC c := by
  have e : aDig = [48, 49, 50, 51, 52, 53, 54, 55, 56, 57] := by decide +kernel
  unfold digC
  rw [e, Bool.eq_iff_iff, Bool.and_eq_true, decide_eq_true_iff, decide_eq_true_iff, decide_eq_true_iff]
  simp only [List.mem_cons, List.not_mem_nil, or_false]
  omega
theorem dig_let {c : Nat} (h : digC c = true) : letC c = true := by
  rw [let_or, dig_iff, h]; simp
/-- kind, value, length -/
def numRun (a : List Nat) : Option Nat := if (a.all digC && !(decide (a.headD 0 = 48) && decide (1 < a.length)) && decide (a.length ≤ 10) && decide (NumText.digitsVal a ≤ 1000000000)) = true then some (NumText.digitsVal a) else none
def ofRun (a : List Nat) : Option (List Nat × V) :=
  if digC (a.headD 0) = true then (numRun a).map fun n => (cds "number", .int (n : Int))
  else if 20 < a.length then none
  else if a.headD 0 ∈ aUp then some (cds "class", T a)
  else if a ∈ WL then some (cds "word", T a)
  else some (cds "name", T a)
def upQ (r : List Nat) : List Nat := r.takeWhile (fun x => x != 39)
def endTx (r : List Nat) : Option (List Nat) := if (decide ((upQ r).length < r.length) && decide ((upQ r).length ≤ 200) && (upQ r).all srcC) = true then some (upQ r) else none
def one : List Nat → Option (List Nat × V × Nat)
  | [] => none
  | c :: r => if c = 39 then (endTx r).map fun b => (cds "text", T b, b.length + 2)
    else if letC c = true then (ofRun ((c :: r).takeWhile letC)).map fun p => (p.1, p.2, ((c :: r).takeWhile letC).length)
    else (MLs.find? fun m => m.isPrefixOf (c :: r)).map fun m => (cds "mark", T m, m.length)
theorem one_cons (c : Nat) (r : List Nat) : one (c :: r) = if c = 39 then (endTx r).map fun b => (cds "text", T b, b.length + 2)
    else if letC c = true then (ofRun ((c :: r).takeWhile letC)).map fun p => (p.1, p.2, ((c :: r).takeWhile letC).length)
    else (MLs.find? fun m => m.isPrefixOf (c :: r)).map fun m => (cds "mark", T m, m.length) := rfl
abbrev Tk := List Nat × V × Nat
def lex (pos : Nat) : List Nat → List Tk × Option Nat
  | [] => ([], none)
  | c :: r => if c = 32 then lex (pos + 1) r
    else match one (c :: r) with
      | none => ([], some pos)
      | some t => let q := lex (pos + t.2.2) (r.drop (t.2.2 - 1)); ((t.1, t.2.1, pos) :: q.1, q.2)
termination_by l => l.length
decreasing_by
  · simp
  · simp only [List.length_drop, List.length_cons]; omega
theorem lex_nil (pos : Nat) : lex pos [] = ([], none) := by rw [lex]
theorem lex_sp (pos : Nat) (r : List Nat) : lex pos (32 :: r) = lex (pos + 1) r := by rw [lex, if_pos rfl]
theorem lex_wrong {pos c : Nat} {r : List Nat} (h : c ≠ 32) (e : one (c :: r) = none) : lex pos (c :: r) = ([], some pos) := by rw [lex, if_neg h, e]
theorem lex_tok {pos c n : Nat} {r k : List Nat} {v : V} (h : c ≠ 32) (e : one (c :: r) = some (k, v, n)) : lex pos (c :: r) = ((k, v, pos) :: (lex (pos + n) (r.drop (n - 1))).1, (lex (pos + n) (r.drop (n - 1))).2) := by rw [lex, if_neg h, e]
theorem MLs_pos : ∀ m ∈ MLs, 1 ≤ m.length := by decide +kernel
theorem one_pos {l k : List Nat} {v : V} {n : Nat} (h : one l = some (k, v, n)) : 1 ≤ n ∧ n ≤ l.length := by
  cases l with
  | nil => cases h
  | cons c r =>
    rw [one_cons] at h
    by_cases hc : c = 39
    · rw [if_pos hc] at h
      cases e : endTx r with
      | none => rw [e] at h; cases h
      | some b =>
        rw [e] at h
        injection h with h
        injection h with _ h
        injection h with _ h
        unfold endTx at e
        split at e
        · rename_i hb
          cases e
          rw [Bool.and_eq_true, Bool.and_eq_true, decide_eq_true_iff] at hb
          have := hb.1.1
          rw [List.length_cons]
          omega
        · cases e
    · rw [if_neg hc] at h
      by_cases hl : letC c = true
      · rw [if_pos hl] at h
        cases e : ofRun ((c :: r).takeWhile letC) with
        | none => rw [e] at h; cases h
        | some p =>
          rw [e] at h
          injection h with h
          injection h with _ h
          injection h with _ h
          subst h
          refine ⟨?_, tw_le _⟩
          rw [List.takeWhile_cons, if_pos hl]
          simp
      · rw [if_neg hl] at h
        cases e : MLs.find? fun m => m.isPrefixOf (c :: r) with
        | none => rw [e] at h; cases h
        | some m =>
          rw [e] at h
          injection h with h
          injection h with _ h
          injection h with _ h
          subst h
          refine ⟨MLs_pos m (List.mem_of_find?_eq_some e), ?_⟩
          have := List.find?_some e
          exact (List.isPrefixOf_iff_prefix.mp this).length_le
end
section
/-! Tokens as they are written, and their reading. -/
open PySem PySem.Spec PyProof.Rows L2
open TL (numL tl_num numL_digits numL_ne numL_val numL_len numL_lt numL_step)
/-- first letter of these, then letters and digits, 20 signs at most -/
def RunOf (fs a : List Nat) : Prop := ∃ c r, a = c :: r ∧ c ∈ fs ∧ (∀ d ∈ r, d ∈ aJ) ∧ r.length ≤ 19
/-- a name, a class name -/
def IsName (a : List Nat) : Prop := RunOf aLow a ∧ a ∉ WL
def IsClass (a : List Nat) : Prop := RunOf aUp a
/-- the signs of a text between quotes -/
abbrev aTxt : List Nat := cds " !\"#$&()*+,-./0123456789:;<=>?@ABCDEFGHIJKLMNOPQRSTUVWXYZ[\\]^_`abcdefghijklmnopqrstuvwxyz{|}~"
theorem len_aTxt : aTxt.length = 93 := by decide +kernel
def IsText (a : List Nat) : Prop := (∀ d ∈ a, d ∈ aTxt) ∧ a.length ≤ 200
theorem word_name {a : List Nat} (h : a ∈ WL) : IsName (a ++ [49]) := by
  refine ⟨?_, WL_one a h⟩
  obtain ⟨c, r, rfl, hc, hr⟩ := WL_form a h
  refine ⟨c, r ++ [49], rfl, hc, fun d hd => ?_, ?_⟩
  · rcases List.mem_append.mp hd with hd | hd
    · exact hr d hd
    · rw [List.mem_singleton.mp hd]
      decide +kernel
  · have := WL_len _ h
    rw [List.length_cons] at this
    rw [List.length_append]
    simp
    omega
theorem RunOf.len {fs a : List Nat} (h : RunOf fs a) : a.length ≤ 20 := by
  obtain ⟨c, r, rfl, _, _, h⟩ := h
  rw [List.length_cons]
  omega

/-- two tokens that would be read as one -/
def touch (b t : List Nat) : Bool := if b = [] then false else if b = [60] then decide (t.head? = some 61) else (match b.getLast?, t.head? with | some c, some d => decide (c ∈ aJ) && decide (d ∈ aJ) | _, _ => false)
theorem at_zero {c : Nat} {r : List Nat} : atI (c :: r) 0 = some c := atI_nat (xs := c :: r) (j := 0) rfl

inductive Drawn : List Nat → V → List Nat → Prop
  | mark {m : List Nat} : m ∈ MLs → Drawn (cds "mark") (T m) m
  | number {n : Nat} : n ≤ 1000000000 → Drawn (cds "number") (.int n) (numL n)
  | word {a : List Nat} : a ∈ WL → Drawn (cds "word") (T a) a
  | cls {a : List Nat} : IsClass a → Drawn (cds "class") (T a) a
  | text {a : List Nat} : IsText a → Drawn (cds "text") (T a) (39 :: (a ++ [39]))
  | name {a : List Nat} : IsName a → Drawn (cds "name") (T a) a
theorem endTx_some' {r : List Nat} (h1 : (upQ r).length < r.length) (h2 : (upQ r).length ≤ 200) (h3 : (upQ r).all srcC = true) : endTx r = some (upQ r) := by
  unfold endTx
  rw [if_pos]
  rw [Bool.and_eq_true, Bool.and_eq_true, decide_eq_true_iff, decide_eq_true_iff]
  exact ⟨⟨h1, h2⟩, h3⟩

/-! ### a drawn token is read as itself -/
theorem MLs_eq : MLs = [[58, 61], [60, 61], [40], [41], [123], [125], [44], [59], [46], [124], [61], [60], [43], [45], [42], [47]] := by decide +kernel
/-- where the token may end -/
def Apart (t rest : List Nat) : Prop := rest = [] ∨ touch t rest = false
theorem touch_head (b : List Nat) (d : Nat) (r r' : List Nat) : touch b (d :: r) = touch b (d :: r') := by
  unfold touch
  rfl
theorem touch_space (b r : List Nat) : touch b (32 :: r) = false := by
  unfold touch
  by_cases h : b = []
  · rw [if_pos h]
  · rw [if_neg h]
    by_cases h2 : b = [60]
    · rw [if_pos h2]; exact (by decide : decide (some (32 : Nat) = some 61) = false)
    · rw [if_neg h2, List.head?_cons]
      cases hb : b.getLast? with
      | none => rfl
      | some c =>
        have : decide (32 ∈ aJ) = false := by decide +kernel
        show (decide (c ∈ aJ) && decide (32 ∈ aJ)) = false
        rw [this, Bool.and_false]
/-- letters and digits, nothing of them behind -/
theorem tw_run {t rest : List Nat} (hne : t ≠ []) (hJ : ∀ c ∈ t, c ∈ aJ) (h : Apart t rest) : (t ++ rest).takeWhile letC = t := by
  have hall : ∀ c ∈ t, letC c = true := fun c hc => decide_eq_true (hJ c hc)
  rw [List.takeWhile_append_of_pos hall]
  have : rest.takeWhile letC = [] := by
    cases rest with
    | nil => rfl
    | cons d r =>
      rcases h with h | h
      · cases h
      · rw [List.takeWhile_cons, if_neg]
        intro hd
        unfold touch at h
        rw [if_neg hne] at h
        have h60 : ¬ t = [60] := fun e => by
          have := hJ 60 (by rw [e]; simp)
          exact absurd this (by decide +kernel)
        rw [if_neg h60, List.head?_cons, List.getLast?_eq_some_getLast hne] at h
        have h1 : decide (t.getLast hne ∈ aJ) = true := decide_eq_true (hJ _ (List.getLast_mem hne))
        have h2 : (decide (t.getLast hne ∈ aJ) && decide (d ∈ aJ)) = false := h
        rw [h1, Bool.true_and] at h2
        have h3 : decide (d ∈ aJ) = true := hd
        rw [h2] at h3; cases h3
  rw [this, List.append_nil]
theorem low_facts : ∀ c ∈ aLow, digC c = false ∧ c ∉ aUp ∧ c ∈ aJ ∧ c ≠ 39 ∧ c ≠ 32 := by decide +kernel
theorem up_facts : ∀ c ∈ aUp, digC c = false ∧ c ∈ aJ ∧ c ≠ 39 ∧ c ≠ 32 := by decide +kernel
theorem txt_facts : ∀ c ∈ aTxt, srcC c = true ∧ c ≠ 39 := by decide +kernel
theorem numL_head {n : Nat} (h : 0 < n) : (numL n).headD 0 ≠ 48 := by
  induction n using Nat.strongRecOn with
  | _ n ih =>
    by_cases hn : n < 10
    · rw [numL_lt hn]
      show 48 + n ≠ 48
      omega
    · rw [numL_step (by omega)]
      have := ih (n / 10) (by omega) (by omega)
      cases e : numL (n / 10) with
      | nil => exact absurd e (numL_ne _)
      | cons c r =>
        rw [e] at this
        exact this
theorem numRun_num {n : Nat} (h : n ≤ 1000000000) : numRun (numL n) = some n := by
  unfold numRun
  rw [numL_val, if_pos]
  have hd : (numL n).all digC = true := List.all_eq_true.mpr fun c hc => by
    have := numL_digits n c hc
    unfold digC
    rw [Bool.and_eq_true, decide_eq_true_iff, decide_eq_true_iff]
    exact this
  have hlen : (numL n).length ≤ 10 := numL_len (by decide) (by omega)
  rw [Bool.and_eq_true, Bool.and_eq_true, Bool.and_eq_true, decide_eq_true_iff, decide_eq_true_iff]
  refine ⟨⟨⟨hd, ?_⟩, hlen⟩, h⟩
  by_cases h0 : 0 < n
  · rw [decide_eq_false (numL_head h0)]; rfl
  · have : n = 0 := by omega
    subst this
    rw [numL_lt (by decide)]; rfl
theorem runOne {t rest : List Nat} {k : List Nat} {v : V} (hne : t ≠ []) (hJ : ∀ c ∈ t, c ∈ aJ) (h : Apart t rest) (e : ofRun t = some (k, v)) (h39 : t.headD 0 ≠ 39) : one (t ++ rest) = some (k, v, t.length) := by
  obtain ⟨c, r, rfl⟩ : ∃ c r, t = c :: r := by
    cases t with
    | nil => exact absurd rfl hne
    | cons c r => exact ⟨c, r, rfl⟩
  have htw := tw_run hne hJ h
  rw [List.cons_append] at htw ⊢
  have hc : letC c = true := decide_eq_true (hJ c (List.mem_cons_self))
  rw [one_cons, if_neg (show ¬ c = 39 from h39), if_pos hc, htw, e]
  rfl
theorem drawn_one {k t rest : List Nat} {v : V} (d : Drawn k v t) (h : Apart t rest) : one (t ++ rest) = some (k, v, t.length) ∧ ∃ c r, t = c :: r ∧ c ≠ 32 := by
  cases d with
  | mark hm =>
    have two : ∀ c : Nat, c ≠ 39 → letC c = false → ∀ r m, (MLs.find? fun m => m.isPrefixOf (c :: r)) = some m → one (c :: r) = some (cds "mark", T m, m.length) := fun c h1 h2 r m h3 => by
      rw [one_cons, if_neg h1, if_neg (by rw [h2]; exact Bool.false_ne_true), h3]
      rfl
    have hL : ∀ c ∈ [58, 60, 40, 41, 123, 125, 44, 59, 46, 124, 61, 43, 45, 42, 47], c ≠ 39 ∧ letC c = false ∧ c ≠ 32 := by decide +kernel
    rw [MLs_eq] at hm
    simp only [List.mem_cons, List.not_mem_nil, or_false] at hm
    rcases hm with rfl | rfl | rfl | rfl | rfl | rfl | rfl | rfl | rfl | rfl | rfl | rfl | rfl | rfl | rfl | rfl
    all_goals
      refine ⟨?_, _, _, rfl, by decide⟩
      refine two _ (by decide) (by decide +kernel) _ _ ?_
      rw [MLs_eq]
    case inr.inr.inr.inr.inr.inr.inr.inr.inr.inr.inr.inl =>
      cases rest with
      | nil => simp [List.find?, List.isPrefixOf]
      | cons d r =>
        have : ¬ d = 61 := fun e => by
          rcases h with h | h
          · cases h
          · rw [e] at h
            unfold touch at h
            rw [if_neg (by simp), if_pos rfl] at h
            simp at h
        have h2 : ((61 : Nat) == d) = false := by
          refine beq_eq_false_iff_ne.mpr fun e => this e.symm
        simp [List.find?, List.isPrefixOf, h2]
    all_goals simp [List.find?, List.isPrefixOf]
  | @number n hn =>
    have hJ : ∀ c ∈ numL n, c ∈ aJ := fun c hc => by
      have := numL_digits n c hc
      have hd : digC c = true := by unfold digC; rw [Bool.and_eq_true, decide_eq_true_iff, decide_eq_true_iff]; exact this
      exact of_decide_eq_true (dig_let hd)
    obtain ⟨c, r, e⟩ : ∃ c r, numL n = c :: r := by
      cases e : numL n with
      | nil => exact absurd e (numL_ne n)
      | cons c r => exact ⟨c, r, rfl⟩
    have hc := numL_digits n c (by rw [e]; exact List.mem_cons_self)
    refine ⟨runOne (numL_ne n) hJ h ?_ (by rw [e]; show c ≠ 39; omega), c, r, e, by omega⟩
    unfold ofRun
    rw [if_pos (by rw [e]; show digC c = true; unfold digC; rw [Bool.and_eq_true, decide_eq_true_iff, decide_eq_true_iff]; exact hc), numRun_num hn]
    rfl
  | word ha =>
    obtain ⟨c, r, rfl, hc, hr⟩ := WL_form _ ha
    obtain ⟨f1, f2, f3, f4, f5⟩ := low_facts c hc
    refine ⟨runOne (List.cons_ne_nil _ _) (fun d hd => by rcases List.mem_cons.mp hd with rfl | hd; exact f3; exact hr d hd) h ?_ f4, c, r, rfl, f5⟩
    have := WL_len _ ha
    unfold ofRun
    rw [List.headD_cons, if_neg (by rw [f1]; exact Bool.false_ne_true), if_neg (by omega), if_neg f2, if_pos ha]
  | cls ha =>
    have hl := RunOf.len ha
    obtain ⟨c, r, rfl, hc, hr, _⟩ := ha
    obtain ⟨f1, f3, f4, f5⟩ := up_facts c hc
    refine ⟨runOne (List.cons_ne_nil _ _) (fun d hd => by rcases List.mem_cons.mp hd with rfl | hd; exact f3; exact hr d hd) h ?_ f4, c, r, rfl, f5⟩
    unfold ofRun
    rw [List.headD_cons, if_neg (by rw [f1]; exact Bool.false_ne_true), if_neg (by omega), if_pos hc]
  | name ha =>
    have hl := RunOf.len ha.1
    have hw := ha.2
    obtain ⟨c, r, rfl, hc, hr, _⟩ := ha.1
    obtain ⟨f1, f2, f3, f4, f5⟩ := low_facts c hc
    refine ⟨runOne (List.cons_ne_nil _ _) (fun d hd => by rcases List.mem_cons.mp hd with rfl | hd; exact f3; exact hr d hd) h ?_ f4, c, r, rfl, f5⟩
    unfold ofRun
    rw [List.headD_cons, if_neg (by rw [f1]; exact Bool.false_ne_true), if_neg (by omega), if_neg f2, if_neg hw]
  | @text a ha =>
    refine ⟨?_, 39, a ++ [39], rfl, by decide⟩
    have hu : upQ (a ++ 39 :: rest) = a := by
      unfold upQ
      rw [List.takeWhile_append_of_pos (fun c hc => by have := (txt_facts c (ha.1 c hc)).2; simpa using this)]
      simp
    have e1 : 39 :: (a ++ [39]) ++ rest = 39 :: (a ++ 39 :: rest) := by simp
    rw [e1, one_cons, if_pos rfl, endTx_some' (by rw [hu]; simp) (by rw [hu]; exact ha.2) (by rw [hu]; exact List.all_eq_true.mpr fun c hc => (txt_facts c (ha.1 c hc)).1), hu]
    simp

/-! ### the text as it grows -/
def Grown (cs : List Nat) (due : List Tk) (b : List Nat) : Prop := ∀ rest, Apart b rest → lex 0 (cs ++ rest) = (due ++ (lex cs.length rest).1, (lex cs.length rest).2)
theorem lex_spaces : ∀ (n pos : Nat) (r : List Nat), lex pos (List.replicate n 32 ++ r) = lex (pos + n) r
  | 0, _, _ => rfl
  | n + 1, pos, r => by
    rw [List.replicate_succ, List.cons_append, lex_sp, lex_spaces n (pos + 1) r]
    congr 1
    omega
theorem grown_start (n : Nat) : Grown (List.replicate n 32) [] [] := fun rest _ => by
  rw [lex_spaces, List.length_replicate, Nat.zero_add]
  rfl
theorem apart_gap {b t rest : List Nat} {n : Nat} {c : Nat} {r : List Nat} (ht : t = c :: r) (hg : touch b t = true → 1 ≤ n) : Apart b (List.replicate n 32 ++ t ++ rest) := by
  subst ht
  cases n with
  | zero =>
    refine .inr ?_
    show touch b (c :: (r ++ rest)) = false
    rw [touch_head b c _ r]
    cases h : touch b (c :: r) with
    | false => rfl
    | true => exact absurd (hg h) (by decide)
  | succ n => exact .inr (touch_space _ _)
theorem grown_step {cs : List Nat} {due : List Tk} {b k t : List Nat} {v : V} {n : Nat} (g : Grown cs due b) (d : Drawn k v t) (hg : touch b t = true → 1 ≤ n) :
    Grown (cs ++ List.replicate n 32 ++ t) (due ++ [(k, v, cs.length + n)]) t := fun rest hr => by
  obtain ⟨e1, c, r, ht, hc⟩ := drawn_one d hr
  have ha : Apart b (List.replicate n 32 ++ t ++ rest) := apart_gap ht hg
  have e2 := g _ ha
  have e3 : cs ++ List.replicate n 32 ++ t ++ rest = cs ++ (List.replicate n 32 ++ t ++ rest) := by simp
  rw [e3, e2, List.append_assoc (List.replicate n 32), lex_spaces]
  subst ht
  rw [List.cons_append] at e1 ⊢
  rw [lex_tok hc e1]
  have e4 : (r ++ rest).drop ((c :: r).length - 1) = rest := by
    rw [List.length_cons, Nat.add_sub_cancel, List.drop_left]
  have e5 : (cs ++ List.replicate n 32 ++ c :: r).length = cs.length + n + (c :: r).length := by
    rw [List.length_append, List.length_append, List.length_replicate]
  rw [e4, e5, List.append_assoc]
  rfl
theorem grown_end {cs : List Nat} {due : List Tk} {b : List Nat} (g : Grown cs due b) (n : Nat) : lex 0 (cs ++ List.replicate n 32) = (due, none) := by
  have ha : Apart b (List.replicate n 32) := by
    cases n with
    | zero => exact .inl rfl
    | succ n => exact .inr (touch_space _ _)
  have := lex_spaces n cs.length []
  rw [List.append_nil, lex_nil] at this
  rw [g _ ha, this, List.append_nil]
theorem Drawn.len {k t : List Nat} {v : V} (d : Drawn k v t) : t.length ≤ 202 ∧ k.length ≤ 10 ∧ ((∃ a : List Nat, v = T a ∧ (∀ c ∈ a, c < 128)) ∨ ∃ i : Int, v = .int i) ∧ (∀ c ∈ k, c < 128) := by
  cases d with
  | mark hm =>
    have h1 : ∀ m ∈ MLs, m.length ≤ 2 ∧ ∀ c ∈ m, c < 128 := by decide +kernel
    have := h1 _ hm
    exact ⟨by omega, by decide +kernel, .inl ⟨_, rfl, this.2⟩, by decide +kernel⟩
  | @number n hn =>
    have hlen : (numL n).length ≤ 10 := numL_len (by decide) (by omega)
    exact ⟨by omega, by decide +kernel, .inr ⟨_, rfl⟩, by decide +kernel⟩
  | word ha =>
    have := WL_len _ ha
    have h1 : ∀ m ∈ WL, ∀ c ∈ m, c < 128 := by decide +kernel
    exact ⟨by omega, by decide +kernel, .inl ⟨_, rfl, h1 _ ha⟩, by decide +kernel⟩
  | cls ha =>
    have := RunOf.len ha
    obtain ⟨c, r, rfl, hc, hr, _⟩ := ha
    refine ⟨by omega, by decide +kernel, .inl ⟨_, rfl, fun d hd => aJ_ascii d ?_⟩, by decide +kernel⟩
    rcases List.mem_cons.mp hd with rfl | hd
    · exact (up_facts _ hc).2.1
    · exact hr d hd
  | name ha =>
    have := RunOf.len ha.1
    obtain ⟨c, r, rfl, hc, hr, _⟩ := ha.1
    refine ⟨by omega, by decide +kernel, .inl ⟨_, rfl, fun d hd => aJ_ascii d ?_⟩, by decide +kernel⟩
    rcases List.mem_cons.mp hd with rfl | hd
    · exact (low_facts _ hc).2.2.1
    · exact hr d hd
  | text ha =>
    have := ha.2
    have h1 : ∀ c ∈ aTxt, c < 128 := by decide +kernel
    refine ⟨?_, by decide +kernel, .inl ⟨_, rfl, fun d hd => h1 d (ha.1 d hd)⟩, by decide +kernel⟩
    rw [List.length_cons, List.length_append]
    simp
    omega

end
section
open PySem PySem.Spec PyProof.Rows L2
open C8 (Cal cal0 pe_c pe_gc pss_cut tCut)

section
variable {P : Program} {w : World} {K : PySem.W.Frag} {mg : Str → Option Value} {base : Heap}

abbrev s_law_words : Stmt := topS 8
abbrev N_law_words : List Str := ["words"]
theorem sc_law_words : FnScope N_law_words [] (defScope s_law_words) := ⟨rfl, rfl, rfl, by decide +kernel, rfl, by decide +kernel, by decide +kernel⟩
def spWords : Sp := fun vs H Q _ => vs = [] ∧ ∀ p H', Same H H' → H p = none → H' p = some (.lst (WL.map T)) → Q (.ref p) H'
theorem ok_law_words {f : Addr} {fd : FuncData} (F : Fun K "_law_words" "_law_words" s_law_words f fd) : FnOk P w K mg base CX0 1 f fd [] spWords := by
  refine F.ok sc_law_words (fun vs H Q E h => ?_) (fun cdv A outer s H vs Q E hr h => ?_)
  · obtain ⟨rfl, _⟩ := h
    rfl
  · obtain ⟨rfl, kQ⟩ := h
    have nd := sc_law_words.nd
    refine ⟨_, (pss_cons (ps_set (i := 0) nd rfl (Or.inl rfl) (pe_lst (pa_cons pe_str (pa_cons pe_str (pa_cons pe_str (pa_cons pe_str (pa_cons pe_str (pa_cons pe_str (pa_cons pe_str (pa_cons pe_str (pa_cons pe_str (pa_cons pe_str (pa_cons pe_str (pa_cons pe_str (pa_cons pe_str pa_nil)))))))))))))))
      (pss_one (ps_ret (pe_op op_cat (pv 0) (pe_lst (pa_cons pe_str (pa_cons pe_str (pa_cons pe_str (pa_cons pe_str (pa_cons pe_str (pa_cons pe_str (pa_cons pe_str (pa_cons pe_str (pa_cons pe_str (pa_cons pe_str pa_nil))))))))))))))), ?_⟩
    rw [show L2.start N_law_words [] = [none] from rfl]
    walk_at "rdo"
    refine w_newL (by show 13 ≤ 1000000; decide) fun p H1 _ s1 hp => ?_
    walk_at "rdo"
    refine w_newL (by show 10 ≤ 1000000; decide) fun q H2 _ s2 hq => ?_
    refine w_cat2 (s2 _ _ hp) hq (by show 13 + 10 ≤ 1000000; decide) fun a H3 ha s3 h3 => ?_
    exact kQ a _ ((s1.trans s2).trans s3) ((s1.trans s2).free ha) h3

abbrev s_law_run : Stmt := topS 9
abbrev N_law_run : List Str := ["state", "first", "other", "number", "run", "tail"]
theorem sc_law_run : FnScope N_law_run ["state", "first"] (defScope s_law_run) := ⟨rfl, rfl, rfl, by decide +kernel, rfl, by decide +kernel, by decide +kernel⟩
def spRun : Sp := fun vs H Q _ => ∃ (S L : Addr) (r : Int) (fs : List Nat), vs = [.ref S, T fs] ∧ StAt H S L r ∧ fs.length = 26 ∧ ∀ a H', RunOf fs a → StAt H' S L (r - a.length) → Fr S H H' → Q (T a) H'
theorem use_draw {S L : Addr} {r m : Int} {H : Hp} {Q : VK} {E : XK} (h : StAt H S L r) (h0 : 0 < m) (h1 : m < 1073741824) (k : ∀ x H', 0 ≤ x → x < m → StAt H' S L r → Fr S H H' → Q (.int x) H') : spDraw ([.ref S, .int m] ++ []) H Q E :=
  ⟨S, L, r, m, rfl, h, h0, h1, k⟩
theorem StAt.obj {H : Hp} {S L : Addr} {r : Int} (h : StAt H S L r) : ∃ (i c k : Int) (b : Bool), H S = some (.lst (StL L i c k b r)) := by
  obtain ⟨_, i, c, k, b, _, _, _, h⟩ := h
  exact ⟨i, c, k, b, h⟩
theorem StAt.put5 {H H' : Hp} {S L : Addr} {i c k : Int} {b : Bool} {r z : Int} (h : StAt H S L r) (hS : H S = some (.lst (StL L i c k b r))) (h2 : H' S = some (.lst ((StL L i c k b r).set 5 (.int z)))) (f : Fr S H H') : StAt H' S L z := by
  obtain ⟨ns, i', c', k', b', h1, h3, h4, h5⟩ := h
  rw [hS] at h5
  injection h5 with h5
  injection h5 with h5
  injection h5 with _ h5
  injection h5 with e1 h5
  injection e1 with e1
  subst e1
  exact ⟨ns, i, c, k, b, h1, f _ _ h1 h3, h4, h2⟩
theorem ok_law_run {f : Addr} {fd : FuncData} (F : Fun K "_law_run" "_law_run" s_law_run f fd) (Y : Bn mg) (c_law_draw : Cal P w K mg base 1 "_law_draw" spDraw []) : FnOk P w K mg base CX0 2 f fd ["state", "first"] spRun := by
  refine F.ok sc_law_run (fun vs H Q E h => ?_) (fun cdv A outer s H vs Q E hr h => ?_)
  · obtain ⟨S, L, r, fs, rfl, _⟩ := h
    rfl
  · obtain ⟨S, L, r, fs, rfl, hSt, hfs, kQ⟩ := h
    have nd := sc_law_run.nd
    refine ⟨_, (pss_cons (ps_set (i := 2) nd rfl (Or.inl rfl) pe_str)
      (pss_cons (ps_set (i := 3) nd rfl (Or.inl rfl) (pe_c c_law_draw hr (by omega) rfl (pa_cons (pv 0) (pa_cons pe_int pa_nil))))
      (pss_cons (ps_set (i := 4) nd rfl (Or.inl rfl) (pe_ix ix_str (pv 1) (pe_op op_modN (pe_callTy call_intI (by rfl) Y.n_int (by decide +kernel) (pa_cons (pe_op op_fdivN (pv 3) pe_int) pa_nil)) pe_int) (fun _ _ => rfl)))
      (pss_cons (ps_set (i := 5) nd rfl (Or.inl rfl) (pe_op op_addS (pe_op op_addS (pe_ix ix_str (pv 2) (pe_op op_modN (pe_callTy call_intI (by rfl) Y.n_int (by decide +kernel) (pa_cons (pe_op op_fdivN (pv 3) pe_int) pa_nil)) pe_int) (fun _ _ => rfl)) (pe_ix ix_str (pv 2) (pe_op op_modN (pe_callTy call_intI (by rfl) Y.n_int (by decide +kernel) (pa_cons (pe_op op_fdivN (pv 3) pe_int) pa_nil)) pe_int) (fun _ _ => rfl))) (pe_ix ix_str (pv 2) (pe_op op_modN (pe_callTy call_intI (by rfl) Y.n_int (by decide +kernel) (pa_cons (pv 3) pa_nil)) pe_int) (fun _ _ => rfl))))
      (pss_cut (ps_if (pt_cmpR op_eq (pe_c c_law_draw hr (by omega) rfl (pa_cons (pv 0) (pa_cons pe_int pa_nil))) pe_int (nomark _)) (pss_one (ps_set (i := 4) nd rfl (Or.inl rfl) (pe_slice sl_str (pe_op op_addS (pv 4) (pe_op op_mulS (pv 5) pe_int)) po_none (po_some (pe_op op_add pe_int (pe_c c_law_draw hr (by omega) rfl (pa_cons (pv 0) (pa_cons pe_int pa_nil)))))))) (pss_one (ps_set (i := 4) nd rfl (Or.inl rfl) (pe_op op_addS (pv 4) (pe_slice sl_str (pv 5) po_none (po_some (pe_op op_modN (pe_callTy call_intI (by rfl) Y.n_int (by decide +kernel) (pa_cons (pv 3) pa_nil)) pe_int)))))))
      (pss_cons (ps_asg (pe_op op_sub (pe_ix ix_list (pv 0) pe_int (fun _ _ => rfl)) (pe_callB call_lenS (by rfl) Y.n_len (by decide +kernel) (pa_cons (pv 4) pa_nil))) (pg_sub (pv 0) pe_int set_list))
      (pss_one (ps_ret (pv 4))))))))), ?_⟩
    rw [show L2.start N_law_run [.ref S, T fs] = [some (.ref S), some (T fs), none, none, none, none] from rfl]
    walk_at "rdo"
    refine use_draw hSt (by decide) (by decide) fun n H1 n0 n1 hSt1 f1 => ?_
    walk_at "rdo"
    refine w_i ⟨by decide, by decide⟩ ?_
    walk_at "rdo"
    refine w_i (by decide) ?_
    obtain ⟨c, hc, ec⟩ := at_mod hfs (by decide) (n.fdiv 4)
    refine w_ixS (by omega) ec ?_
    walk_at "rdo"
    refine w_i ⟨by decide, by decide⟩ ?_
    walk_at "rdo"
    refine w_i (by decide) ?_
    obtain ⟨d1, hd1, e1⟩ := at_mod len_aJ (by decide) (n.fdiv 104)
    refine w_ixS (by decide +kernel) e1 ?_
    walk_at "rdo"
    refine w_i ⟨by decide, by decide⟩ ?_
    walk_at "rdo"
    refine w_i (by decide) ?_
    obtain ⟨d2, hd2, e2⟩ := at_mod len_aJ (by decide) (n.fdiv 6448)
    refine w_ixS (by decide +kernel) e2 ?_
    refine w_addS (by show 1 + 1 ≤ 1000000; decide) ?_
    walk_at "rdo"
    refine w_i (by decide) ?_
    obtain ⟨d3, hd3, e3⟩ := at_lt (l := aJ) (Int.fmod_nonneg_of_pos n (show (0 : Int) < 61 by decide)) (Int.lt_trans (Int.fmod_lt_of_pos n (show (0 : Int) < 61 by decide)) (by decide +kernel))
    refine w_ixS (by decide +kernel) e3 ?_
    refine w_addS (by show 2 + 1 ≤ 1000000; decide) ?_
    have hm : ∀ d, d ∈ ([d1] ++ [d2] ++ [d3] : List Nat) → d ∈ aJ := by
      intro d hd
      rcases List.mem_append.mp hd with hd | hd
      · rcases List.mem_append.mp hd with hd | hd
        · rw [List.mem_singleton.mp hd]; exact hd1
        · rw [List.mem_singleton.mp hd]; exact hd2
      · rw [List.mem_singleton.mp hd]; exact hd3
    walk_at "rdo"
    generalize hT : ([d1] ++ [d2] ++ [d3] : List Nat) = tl at hm ⊢
    have hl : tl.length = 3 := by rw [← hT]; rfl
    refine ⟨fun σ' H' => ∃ a, σ' = [some (.ref S), some (T fs), some (T aJ), some (.int n), some (T a), some (T tl)] ∧ RunOf fs a ∧ StAt H' S L r ∧ Fr S H H', ?_, ?_⟩
    · walk_at "rdo"
      refine use_draw hSt1 (by decide) (by decide) fun b H2 b0 b1 hSt2 f2 => ?_
      walk_at "rdo"
      refine w_ifI (fun _ => ?_) (fun _ => ?_)
      · walk_at "rdo"
        refine w_mulS (by decide) (by decide) (by rw [hl]; decide) ?_
        refine w_addS (by rw [len_rep, hl]; show 1 + 21 ≤ 1000000; decide) ?_
        walk_at "rdo"
        refine use_draw hSt2 (by decide) (by decide) fun e H3 e0 e1 hSt3 f3 => ?_
        walk_at "rdo"
        refine w_slS (by rw [List.length_append, len_rep, hl]; show 1 + 21 ≤ 1000000; decide) ?_
        refine ⟨_, rfl, ⟨c, ((List.replicate (Int.toNat 7) tl).flatten).take (4 + e.toNat), ?_, hc, fun d hd => hm d (mem_rep (List.mem_of_mem_take hd)), ?_⟩, hSt3, (f1.trans f2).trans f3⟩
        · have e2 : (5 + e : Int) = ((5 + e.toNat : Nat) : Int) := by omega
          rw [e2, cut_to]
          show List.take (5 + e.toNat) (c :: _) = _
          rw [show 5 + e.toNat = (4 + e.toNat) + 1 by omega, List.take_succ_cons]
          rfl
        · rw [List.length_take]
          omega
      · walk_at "rdo"
        refine w_i (by decide) ?_
        walk_at "rdo"
        refine w_slS (by omega) ?_
        refine w_addS ?_ ?_
        · have := cut_len tl none (some (n.fmod 4))
          rw [hl] at this
          show 1 + _ ≤ 1000000
          omega
        · refine ⟨_, rfl, ⟨c, cut tl none (some (n.fmod 4)), rfl, hc, fun d hd => hm d (cut_mem hd), ?_⟩, hSt2, f1.trans f2⟩
          have := cut_len tl none (some (n.fmod 4))
          omega
    · rintro σ' H2 ⟨a, rfl, ha, hSt2, f2⟩
      have hal : a.length ≤ 20 := by
        obtain ⟨c, r, rfl, _, _, h⟩ := ha
        rw [List.length_cons]
        omega
      obtain ⟨i, c', k, b, hS⟩ := hSt2.obj
      walk_at "rdo"
      refine w_ixL (SqL.of hS) rfl ?_
      walk_at "rdo"
      refine w_lenS (by omega) ?_
      walk_at "rdo"
      refine w_stset hS rfl fun H3 h3 f3 => ?_
      walk_at "rdo"
      exact kQ a _ ha (hSt2.put5 hS h3 f3) (f2.trans f3)
end
end
section
open PySem PySem.Spec PyProof.Rows L2
open C8 (Cal cal0 pe_c pe_gc pss_cut tCut)

section
variable {P : Program} {w : World} {K : PySem.W.Frag} {mg : Str → Option Value} {base : Heap}
theorem use_run {S L : Addr} {r : Int} {fs : List Nat} {H : Hp} {Q : VK} {E : XK} (h : StAt H S L r) (hf : fs.length = 26) (k : ∀ a H', RunOf fs a → StAt H' S L (r - a.length) → Fr S H H' → Q (T a) H') : spRun ([.ref S, T fs] ++ []) H Q E :=
  ⟨S, L, r, fs, rfl, h, hf, k⟩
/-- one promise for all that draws a text -/
def spTx (Ok : List Nat → Prop) : Sp := fun vs H Q _ => ∃ (S L : Addr) (r : Int), vs = [.ref S] ∧ StAt H S L r ∧ ∀ a r' H', Ok a → r' ≤ r → r - 20 ≤ r' → StAt H' S L r' → Fr S H H' → Q (T a) H'
theorem use_tx {Ok : List Nat → Prop} {S L : Addr} {r : Int} {H : Hp} {Q : VK} {E : XK} (h : StAt H S L r) (k : ∀ a r' H', Ok a → r' ≤ r → r - 20 ≤ r' → StAt H' S L r' → Fr S H H' → Q (T a) H') : spTx Ok ([.ref S] ++ []) H Q E := ⟨S, L, r, rfl, h, k⟩

abbrev s_law_name : Stmt := topS 10
abbrev N_law_name : List Str := ["state", "name"]
theorem sc_law_name : FnScope N_law_name ["state"] (defScope s_law_name) := ⟨rfl, rfl, rfl, by decide +kernel, rfl, by decide +kernel, by decide +kernel⟩
theorem ok_law_name {f : Addr} {fd : FuncData} (F : Fun K "_law_name" "_law_name" s_law_name f fd) (c_law_run : Cal P w K mg base 2 "_law_run" spRun []) (c_law_words : Cal P w K mg base 1 "_law_words" spWords []) : FnOk P w K mg base CX0 3 f fd ["state"] (spTx IsName) := by
  refine F.ok sc_law_name (fun vs H Q E h => ?_) (fun cdv A outer s H vs Q E hr h => ?_)
  · obtain ⟨S, L, r, rfl, _⟩ := h
    rfl
  · obtain ⟨S, L, r, rfl, hSt, kQ⟩ := h
    have nd := sc_law_name.nd
    refine ⟨_, (pss_cons (ps_set (i := 1) nd rfl (Or.inl rfl) (pe_c c_law_run hr (by decide) rfl (pa_cons (pv 0) (pa_cons pe_str pa_nil))))
      (pss_cons (ps_if (pt_cmpR op_in_seq (pv 1) (pe_c0 c_law_words hr (by decide) rfl) (by rfl)) (pss_one (ps_ret (pe_op op_addS (pv 1) pe_str))) pss_nil)
      (pss_one (ps_ret (pv 1))))), ?_⟩
    rw [show L2.start N_law_name [.ref S] = [some (.ref S), none] from rfl]
    walk_at "rdo"
    refine use_run hSt len_aLow fun a H1 ha hSt1 f1 => ?_
    have hal := ha.len
    walk_at "rdo"
    refine ⟨rfl, fun p H2 s2 _ hp => ?_⟩
    refine w_inL (SqL.of hp) ?_
    walk_at "rdo"
    refine w_if (fun h => ?_) (fun h => ?_)
    · walk_at "rdo"
      refine w_addS (by have := ha.len; show a.length + 1 ≤ 1000000; omega) ?_
      exact kQ _ _ _ (word_name h) (by omega) (by omega) (hSt1.mono s2) (f1.to s2)
    · walk_at "rdo"
      exact kQ _ _ _ ⟨ha, h⟩ (by omega) (by omega) (hSt1.mono s2) (f1.to s2)

end
end
section
/-! Objects of the program's own classes, where nothing is raised: fields, methods, new ones. -/
open PySem PySem.Spec PyProof.Rows L2
open C8 (Cal Met Mak cal0 pe_c pe_gc pss_cut tCut)
def OFld (K : PySem.W.Frag) (f : Str) (x : V) (H : Hp) (Q : VK) : Prop := ∃ a C dx fs v, x = .ref a ∧ H a = some (.ins C dx fs) ∧ Cls K C ∧ NoAttr K C f ∧ fs.lookup f = some v ∧ Q v H
def OMeth (C : Addr) (m : Str) (sp : Sp) (dvs : List V) (E : XK) (t : TA) (σ : L2.St) (x : V) (H : Hp) (Q : VK) : Prop := ∃ a dx fs, x = .ref a ∧ H a = some (.ins C dx fs) ∧ fs.lookup m = none ∧ t σ H fun vs H2 => sp (x :: (vs ++ dvs)) H2 Q E
def OSet (K : PySem.W.Frag) (f : Str) (y x : V) (H : Hp) (G : Hp → Prop) : Prop := ∃ a C dx fs, x = .ref a ∧ H a = some (.ins C dx fs) ∧ Cls K C ∧ NoAttr K C f ∧ fs.length < 1000 ∧ G (upd H a (.ins C dx (putF f y fs)))
def OMake (C : Addr) (sp : Sp) (dvs : List V) (E : XK) (vs : List V) (H1 : Hp) (Q : VK) : Prop := ∀ x dx, H1 x = none → H1 dx = none → dx ≠ x → sp (.ref x :: (vs ++ dvs)) (upd (upd H1 dx (.own x)) x (.ins C dx [])) (fun v H2 => v = .non ∧ Q (.ref x) H2) E
section
variable {σ : L2.St} {H : Hp} {Q : VK} {D : Ends} {v x y : V} {ta tv : TE} {t : TA} {K : PySem.W.Frag} {f m : Str} {C r dx : Addr} {fs : List (Str × V)} {sp : Sp} {dvs : List V} {E : XK} {rd : V → V → Hp → VK → Prop} {G : Hp → Prop}
theorem o_fld (k : ta σ H fun x H1 => OFld K f x H1 Q) : tFld K ta f σ H Q := k
theorem o_meth (k : ta σ H fun x H1 => OMeth C m sp dvs E t σ x H1 Q) : tMeth C m sp dvs E ta t σ H Q := k
theorem o_fldS (k : tv σ H fun y H1 => ta σ H1 fun x H2 => OSet K f y x H2 fun H3 => D.nx σ H3) : sFld K ta tv f D σ H := k
theorem o_make (k : t σ H fun vs H1 => OMake C sp dvs E vs H1 Q) : tMake C sp dvs E t σ H Q := k
theorem o_fat (h : H r = some (.ins C dx fs)) (c : Cls K C) (n : NoAttr K C f) (l : fs.lookup f = some v) (k : Q v H) : OFld K f (.ref r) H Q := ⟨r, C, dx, fs, v, rfl, h, c, n, l, k⟩
theorem o_mat (h : H r = some (.ins C dx fs)) (l : fs.lookup m = none) (k : t σ H fun vs H2 => sp (.ref r :: (vs ++ dvs)) H2 Q E) : OMeth C m sp dvs E t σ (.ref r) H Q := ⟨r, dx, fs, rfl, h, l, k⟩
theorem o_set (h : H r = some (.ins C dx fs)) (c : Cls K C) (n : NoAttr K C f) (l : fs.length < 1000) (k : ∀ H3, H3 r = some (.ins C dx (putF f y fs)) → (∀ b o, b ≠ r → H b = some o → H3 b = some o) → (∀ b, H3 b = none → H b = none) → G H3) : OSet K f y (.ref r) H G :=
  ⟨r, C, dx, fs, rfl, h, c, n, l, k _ upd_same (fun b o n e => by rw [upd_ne n]; exact e) fun b e => by
    by_cases z : b = r
    · rw [z, upd_same] at e; cases e
    · rw [upd_ne z] at e; exact e⟩
end
/-- all but two objects is as it was -/
def Fq (il bl : Addr) (H H' : Hp) : Prop := (∀ b o, b ≠ il → b ≠ bl → H b = some o → H' b = some o) ∧ ∀ b, H' b = none → H b = none
section
variable {il bl : Addr} {H H1 H2 : Hp}
theorem Fq.refl : Fq il bl H H := ⟨fun _ _ _ _ h => h, fun _ h => h⟩
theorem Fq.trans (a : Fq il bl H H1) (b : Fq il bl H1 H2) : Fq il bl H H2 := ⟨fun c o n m h => b.1 c o n m (a.1 c o n m h), fun c h => a.2 c (b.2 c h)⟩
theorem Fq.same (s : Same H H1) : Fq il bl H H1 := ⟨fun b o _ _ h => s b o h, fun b h => s.free h⟩
theorem Fq.l (h : H il = some (.lst xs)) (h1 : H1 il = some o) (k : ∀ b o, b ≠ il → H b = some o → H1 b = some o) : Fq il bl H H1 := ⟨fun b o n _ e => k b o n e, fun b e => by
  by_cases z : b = il
  · rw [z, h1] at e; cases e
  · cases q : H b with
    | none => rfl
    | some o => rw [k b o z q] at e; cases e⟩
theorem Fq.r (h1 : H1 bl = some o) (k : ∀ b o, b ≠ bl → H b = some o → H1 b = some o) : Fq il bl H H1 := ⟨fun b o _ n e => k b o n e, fun b e => by
  by_cases z : b = bl
  · rw [z, h1] at e; cases e
  · cases q : H b with
    | none => rfl
    | some o => rw [k b o z q] at e; cases e⟩
end
end
section
/-! The reader as plain functions over its tokens. -/
open PySem PySem.Spec PyProof.Rows L2
/-! ### what a reader does, as a function -/
/-- done, with what came out and where it stands; or wrong at a place; or nothing is said of it (beyond the end, too long, no turns left) -/
inductive Res (S α : Type) where
  | ok (a : α) (s : S)
  | bad (i : Nat)
  | stuck
def Res.bind {S α β : Type} (x : Res S α) (k : α → S → Res S β) : Res S β := match x with | .ok a s => k a s | .bad i => .bad i | .stuck => .stuck
def Out {S α : Type} (x : Res S α) (A : α → S → Prop) (B : Nat → Prop) : Prop := match x with | .ok a s => A a s | .bad i => B i | .stuck => False
theorem Out.mono {S α : Type} {x : Res S α} {A A' : α → S → Prop} {B B' : Nat → Prop} (h : Out x A B) (f : ∀ a s, A a s → A' a s) (g : ∀ i, B i → B' i) : Out x A' B' := by
  cases x with
  | ok a s => exact f a s h
  | bad i => exact g i h
  | stuck => exact h.elim
theorem Out.bind {S α β : Type} {x : Res S α} {k : α → S → Res S β} {A : β → S → Prop} {B : Nat → Prop} (h : Out (x.bind k) A B) : Out x (fun a s => Out (k a s) A B) B := by
  cases x with
  | ok a s => exact h
  | bad i => exact h
  | stuck => exact h
theorem Res.bind_assoc {S α β γ : Type} (x : Res S α) (k : α → S → Res S β) (l : β → S → Res S γ) : (x.bind k).bind l = x.bind fun a s => (k a s).bind l := by
  cases x <;> rfl
theorem Out.here {S α : Type} {x : Res S α} {A : α → S → Prop} {B : Nat → Prop} (a : α) (s : S) (h : Out x A B) (e : x = .ok a s) : A a s := by rw [e] at h; exact h
theorem Out.there {S α : Type} {x : Res S α} {A : α → S → Prop} {B : Nat → Prop} (i : Nat) (h : Out x A B) (e : x = .bad i) : B i := by rw [e] at h; exact h

/-- a reader's state: the token that stands next, the depths noted, the name that occurs twice -/
structure RS where
  n : Nat
  ds : List Nat
  tw : Option (List Nat)
/-- the text of a word or mark -/
def txtV : V → List Nat
  | .str x => x.cps.toList
  | _ => []
theorem txtV_T (a : List Nat) : txtV (T a) = a := by
  show (⟨a.toArray⟩ : Str).cps.toList = a
  simp
def fixT (t : Tk) : List Nat := if t.1 = cds "word" ∨ t.1 = cds "mark" then txtV t.2.1 else []
def tokN (ts : List Tk) (i : Nat) : Tk := ts.getD i ([], .non, 0)
def posN (ts : List Tk) (i : Nat) : Nat := (tokN ts i).2.2
theorem tokN_get {ts : List Tk} {i : Nat} (h : i < ts.length) : ts[i]? = some (tokN ts i) := by
  unfold tokN
  rw [List.getD_eq_getElem?_getD, List.getElem?_eq_getElem h]
  rfl
/-! the small readings -/
def rFixed (ts : List Tk) (k : Nat) (S : RS) : Res RS (List Nat) := if S.n + k < ts.length then .ok (fixT (tokN ts (S.n + k))) S else .stuck
def rAccept (ts : List Tk) (a : List Nat) (S : RS) : Res RS Bool := (rFixed ts 0 S).bind fun b S => if b = a then .ok true { S with n := S.n + 1 } else .ok false S
def rRefuse {α : Type} (ts : List Tk) (S : RS) : Res RS α := if S.n < ts.length then .bad (posN ts S.n) else .stuck
def rExpect (ts : List Tk) (a : List Nat) (S : RS) : Res RS Unit := (rAccept ts a S).bind fun b S1 => if b = true then .ok () S1 else rRefuse ts S1
def rTake (ts : List Tk) (a : List Nat) (S : RS) : Res RS V := if S.n < ts.length then (if (tokN ts S.n).1 = a then .ok (tokN ts S.n).2.1 { S with n := S.n + 1 } else rRefuse ts S) else .stuck
def rName (ts : List Tk) (S : RS) : Res RS (List Nat) := (rTake ts (cds "name") S).bind fun v S => .ok (txtV v) S
def rNamesGo (ts : List Tk) (most : Nat) : Nat → List (List Nat) → RS → Res RS (List (List Nat))
  | 0, _, _ => .stuck
  | k + 1, l, S => (rAccept ts (cds ",") S).bind fun b S => if b = true then (if l.length = most then rRefuse ts S else (rName ts S).bind fun x S => rNamesGo ts most k (l ++ [x]) S) else .ok l S
def rNames (ts : List Tk) (most : Nat) (S : RS) : Res RS (List (List Nat)) := (rName ts S).bind fun x S => rNamesGo ts most (most + 1) [x] S
def rBegin (ts : List Tk) (d : Nat) (S : RS) : Res RS Unit := if 12 < d then rRefuse ts S else if S.ds.length < 400000 then .ok () { S with ds := S.ds ++ [d] } else .stuck
def maxN : List Nat → Nat
  | [] => 0
  | a :: l => max a (maxN l)
def rDeepen (ts : List Tk) (f : Nat) (S : RS) : Res RS Unit := if S.ds.length ≤ f then .stuck else if 12 < maxN ((S.ds.drop f).map (· + 1)) then rRefuse ts S else .ok () { S with ds := S.ds.take f ++ (S.ds.drop f).map (· + 1) }
/-- whether a name stands next, and one of some marks behind it -/
def rBefore (ts : List Tk) (ms : List (List Nat)) (S : RS) : Res RS Bool := if S.n < ts.length then (if (tokN ts S.n).1 = cds "name" then (rFixed ts 1 S).bind fun b S => .ok (decide (b ∈ ms)) S else .ok false S) else .stuck
/-- the name that is noted behind i names -/
def twGo (l : List (List Nat)) (t : Option (List Nat)) : Nat → Option (List Nat)
  | 0 => t
  | i + 1 => if twGo l t i = none ∧ l.getD i [] ∈ l.take i then some (l.getD i []) else twGo l t i
def rNote (l : List (List Nat)) (S : RS) : Res RS Unit := .ok () { S with tw := twGo l S.tw l.length }
/-! ### the grammar -/
section
variable (ts : List Tk) (ex : Nat → Nat → RS → Res RS Tr) (bo : List (List Nat) → Nat → RS → Res RS (List Tr))
def str (x : String) : Tr := .s (cds x)
def gArgsGo (d : Nat) : Nat → List Tr → RS → Res RS (List Tr)
  | 0, _, _ => .stuck
  | k + 1, l, S => (rAccept ts (cds ",") S).bind fun b S => if b = true then (if l.length = 8 then rRefuse ts S else (ex 1 d S).bind fun t S => gArgsGo d k (l ++ [t]) S) else .ok l S
def gArgs (d : Nat) (S : RS) : Res RS (List Tr) := (rExpect ts (cds "(") S).bind fun _ S => (rAccept ts (cds ")") S).bind fun b S => if b = true then .ok [] S else
  (ex 1 d S).bind fun t S => (gArgsGo ts ex d 9 [t] S).bind fun l S => (rExpect ts (cds ")") S).bind fun _ S => .ok l S
def gBlock (d : Nat) (S : RS) : Res RS Tr := (rExpect ts (cds "{") S).bind fun _ S => (rBefore ts [cds ",", cds "|"] S).bind fun b S =>
  if b = true then (rNames ts 4 S).bind fun ns S => (rExpect ts (cds "|") S).bind fun _ S => (rNote ns S).bind fun _ S => (bo [cds "}"] (d + 1) S).bind fun l S => (rExpect ts (cds "}") S).bind fun _ S => .ok (.t [str "block", .t (ns.map Tr.s), .t l]) S
  else (bo [cds "}"] (d + 1) S).bind fun l S => (rExpect ts (cds "}") S).bind fun _ S => .ok (.t [str "block", .t [], .t l]) S
def gSuper (d : Nat) (S : RS) : Res RS Tr := (rExpect ts (cds "super") S).bind fun _ S => (rExpect ts (cds ".") S).bind fun _ S => (rName ts S).bind fun a S => (gArgs ts ex (d + 1) S).bind fun l S => .ok (.t [str "super", .s a, .t l]) S
end

def plainL : List (List Nat × V) := [(cds "none", .non), (cds "true", .bl true), (cds "false", .bl false)]
def plainTr : V → Tr
  | .int x => .i x
  | .bl b => .b b
  | .str x => .s x.cps.toList
  | _ => .n
section
variable (ts : List Tk) (ex : Nat → Nat → RS → Res RS Tr) (bo : List (List Nat) → Nat → RS → Res RS (List Tr))
def gPrimary (d : Nat) (S : RS) : Res RS Tr := if S.n < ts.length then
    (if (tokN ts S.n).1 = cds "number" ∨ (tokN ts S.n).1 = cds "text" then (rTake ts (tokN ts S.n).1 S).bind fun v S => .ok (.t [str "plain", plainTr v]) S
    else if (tokN ts S.n).1 = cds "name" then (rTake ts (tokN ts S.n).1 S).bind fun v S => .ok (.t [str "name", plainTr v]) S
    else (rFixed ts 0 S).bind fun w S => if w = cds "{" then gBlock ts bo d S else if w = cds "super" then gSuper ts ex d S else
      (rAccept ts (cds "(") S).bind fun b S => if b = true then (ex 1 (d + 1) S).bind fun t S => (rExpect ts (cds ")") S).bind fun _ S => .ok t S else
      (rAccept ts (cds "new") S).bind fun b S => if b = true then (rTake ts (cds "class") S).bind fun v S => .ok (.t [str "new", plainTr v]) S else
      (rAccept ts (cds "self") S).bind fun b S => if b = true then .ok (.t [str "self"]) S else
      match plainL.lookup w with
      | none => rRefuse ts S
      | some v => (rExpect ts w S).bind fun _ S => .ok (.t [str "plain", plainTr v]) S)
  else .stuck
end
def aheadN : List (List Nat × Nat) := [(cds "not", 3), (cds "-", 7)]
def treesN : List (List Nat × List Nat) := [(cds "not", cds "not"), (cds "-", cds "neg")]
section
variable (ts : List Tk) (ex : Nat → Nat → RS → Res RS Tr) (bo : List (List Nat) → Nat → RS → Res RS (List Tr))
def gOpening (p d : Nat) (S : RS) : Res RS (Tr × Nat) := (rFixed ts 0 S).bind fun w S => if (aheadN.lookup w).getD 0 < p then (gPrimary ts ex bo d S).bind fun t S => .ok (t, 9) S else
  (rExpect ts w S).bind fun _ S => match treesN.lookup w with
    | none => .stuck
    | some nm => (ex ((aheadN.lookup w).getD 0) (d + 1) S).bind fun t S => .ok (.t [.s nm, t], (aheadN.lookup w).getD 0) S
end
def behN : List (List Nat × Nat) := [(cds "or", 1), (cds "and", 2), (cds "=", 4), (cds "<", 4), (cds "<=", 4), (cds "+", 5), (cds "-", 5), (cds "*", 6), (cds "/", 6), (cds ".", 8)]
def levB (w : List Nat) : Nat := (behN.lookup w).getD 0
def goOn (w : List Nat) (p lev : Nat) : Bool := decide (p ≤ levB w) && (!decide (levB w = 4) || decide (4 < lev))
section
variable (ts : List Tk) (ex : Nat → Nat → RS → Res RS Tr) (bo : List (List Nat) → Nat → RS → Res RS (List Tr))
/-- what a sign makes of what stands left of it -/
def gSign (w : List Nat) (lv d : Nat) (tr : Tr) (S : RS) : Res RS Tr :=
  if w = cds "." then (rName ts S).bind fun a S => (gArgs ts ex (d + 1) S).bind fun l S => .ok (.t [str "send", tr, .s a, .t l]) S
  else if w = cds "and" ∨ w = cds "or" then (ex (lv + 1) (d + 1) S).bind fun t S => .ok (.t [.s w, tr, t]) S
  else (ex (lv + 1) (d + 1) S).bind fun t S => .ok (.t [str "op", .s w, tr, t]) S
def gExprGo (p d first : Nat) : Nat → Tr → Nat → List Nat → RS → Res RS Tr
  | 0, _, _, _, _ => .stuck
  | k + 1, tr, lev, w, S => if goOn w p lev = true then (rDeepen ts first S).bind fun _ S => (rExpect ts w S).bind fun _ S => match behN.lookup w with
      | none => .stuck
      | some lv => (gSign ts ex w lv d tr S).bind fun tr S => (rFixed ts 0 S).bind fun w' S => gExprGo p d first k tr lv w' S
    else .ok tr S
def gExpr (p d : Nat) (S : RS) : Res RS Tr := (rBegin ts d S).bind fun _ S1 => (gOpening ts ex bo p d S1).bind fun o S2 => (rFixed ts 0 S2).bind fun w S3 => gExprGo ts ex p d S.ds.length (ts.length + 1) o.1 o.2 w S3
end
section
variable (ts : List Tk) (ex : Nat → Nat → RS → Res RS Tr) (bo : List (List Nat) → Nat → RS → Res RS (List Tr)) (st : Nat → RS → Res RS Tr)
def gBodyGo (d : Nat) : Nat → List Tr → RS → Res RS (List Tr)
  | 0, _, _ => .stuck
  | k + 1, l, S => (rAccept ts (cds ";") S).bind fun b S => if b = true then (st d S).bind fun t S => gBodyGo d k (l ++ [t]) S else .ok l S
def gBody (ms : List (List Nat)) (d : Nat) (S : RS) : Res RS (List Tr) := (rFixed ts 0 S).bind fun w S => if w ∈ ms then .ok [] S else (st d S).bind fun t S => gBodyGo ts st d (ts.length + 1) [t] S
def gSet (d : Nat) (S : RS) : Res RS Tr := (rName ts S).bind fun a S => (rExpect ts (cds ":=") S).bind fun _ S => (ex 1 (d + 1) S).bind fun t S => .ok (.t [str "set", .s a, t]) S
def gWhile (d : Nat) (S : RS) : Res RS Tr := (rExpect ts (cds "while") S).bind fun _ S => (ex 1 (d + 1) S).bind fun t S => (rExpect ts (cds "do") S).bind fun _ S => (bo [cds "end"] (d + 1) S).bind fun l S => (rExpect ts (cds "end") S).bind fun _ S => .ok (.t [str "while", t, .t l]) S
end
section
variable (ts : List Tk) (ex : Nat → Nat → RS → Res RS Tr) (bo : List (List Nat) → Nat → RS → Res RS (List Tr))
def gTry (d : Nat) (S : RS) : Res RS Tr := (rExpect ts (cds "try") S).bind fun _ S => (bo [cds "catch"] (d + 1) S).bind fun l S => (rExpect ts (cds "catch") S).bind fun _ S => (rName ts S).bind fun a S => (rExpect ts (cds "then") S).bind fun _ S =>
  (bo [cds "end"] (d + 1) S).bind fun l2 S => (rExpect ts (cds "end") S).bind fun _ S => .ok (.t [str "try", .t l, .s a, .t l2]) S
def gKeep (d : Nat) (S : RS) : Res RS Tr := (rExpect ts (cds "keep") S).bind fun _ S => (bo [cds "always"] (d + 1) S).bind fun l S => (rExpect ts (cds "always") S).bind fun _ S =>
  (bo [cds "end"] (d + 1) S).bind fun l2 S => (rExpect ts (cds "end") S).bind fun _ S => .ok (.t [str "keep", .t l, .t l2]) S
def gIf (d : Nat) (S : RS) : Res RS Tr := (rExpect ts (cds "if") S).bind fun _ S => (ex 1 (d + 1) S).bind fun t S => (rExpect ts (cds "then") S).bind fun _ S => (bo [cds "else", cds "end"] (d + 1) S).bind fun l S => (rAccept ts (cds "else") S).bind fun b S =>
  if b = true then (bo [cds "end"] (d + 1) S).bind fun l2 S => (rExpect ts (cds "end") S).bind fun _ S => .ok (.t [str "if", t, .t l, .t l2]) S else (rExpect ts (cds "end") S).bind fun _ S => .ok (.t [str "if", t, .t l, .t []]) S
end
section
variable (ts : List Tk) (ex : Nat → Nat → RS → Res RS Tr) (bo : List (List Nat) → Nat → RS → Res RS (List Tr))
def gSt (d : Nat) (S : RS) : Res RS Tr := (rBegin ts d S).bind fun _ S => (rFixed ts 0 S).bind fun w S =>
  if w = cds "give" ∨ w = cds "fail" then (rExpect ts w S).bind fun _ S => (ex 1 (d + 1) S).bind fun t S => .ok (.t [.s w, t]) S
  else if w = cds "while" then gWhile ts ex bo d S
  else if w = cds "if" then gIf ts ex bo d S
  else if w = cds "try" then gTry ts bo d S
  else if w = cds "keep" then gKeep ts bo d S
  else (rBefore ts [cds ":="] S).bind fun b S => if b = true then gSet ts ex d S else (ex 1 (d + 1) S).bind fun t S => .ok (.t [str "eval", t]) S
end
/-- expressions and bodies, n deep -/
def exN (ts : List Tk) : Nat → (Nat → Nat → RS → Res RS Tr) × (List (List Nat) → Nat → RS → Res RS (List Tr))
  | 0 => (fun _ _ _ => .stuck, fun _ _ _ => .stuck)
  | n + 1 => (gExpr ts (exN ts n).1 (exN ts n).2, gBody ts (gSt ts (exN ts n).1 (exN ts n).2))
section
variable (ts : List Tk) (bo : List (List Nat) → Nat → RS → Res RS (List Tr))
/-- behind the variables -/
def gMethod3 (a : List Nat) (ps vs : List (List Nat)) (S : RS) : Res RS Tr := (rNote (ps ++ vs) S).bind fun _ S => (bo [cds "end"] 1 S).bind fun l S => (rExpect ts (cds "end") S).bind fun _ S => .ok (.t [str "method", .s a, .t (ps.map Tr.s), .t (vs.map Tr.s), .t l]) S
/-- behind the parameters -/
def gMethod2 (a : List Nat) (ps : List (List Nat)) (S : RS) : Res RS Tr := (rExpect ts (cds ")") S).bind fun _ S => (rAccept ts (cds "var") S).bind fun b S => if b = true then (rNames ts 8 S).bind fun vs S => (rExpect ts (cds ";") S).bind fun _ S => gMethod3 ts bo a ps vs S else gMethod3 ts bo a ps [] S
def gMethod (S : RS) : Res RS Tr := (rExpect ts (cds "method") S).bind fun _ S => (rName ts S).bind fun a S => (rExpect ts (cds "(") S).bind fun _ S => (rFixed ts 0 S).bind fun w S => if w = cds ")" then gMethod2 ts bo a [] S else (rNames ts 8 S).bind fun ps S => gMethod2 ts bo a ps S
end
/-- the tokens and the end of the text -/
def endTks (cs : List Nat) (ts : List Tk) : List Tk := ts ++ [(cds "nothing", T [], cs.length)]
end
section
/-! Derivations of expressions and statements: their tokens are read back. -/
open PySem PySem.Spec PyProof.Rows L2
abbrev Ws := List (List Nat)
/-- kind and value of a token's text -/
def tk (a : List Nat) : List Nat × V := match one a with
  | some (k, v, _) => (k, v)
  | none => ([], .non)
def fx (a : List Nat) : List Nat := fixT ((tk a).1, (tk a).2, 0)
def isNm (a : List Nat) : Prop := tk a = (cds "name", T a)
def commas : Ws → Ws
  | [] => []
  | [a] => [a]
  | a :: b :: l => a :: cds "," :: commas (b :: l)
def binT (s : List Nat) (a b : Tr) : Tr := if s = cds "and" ∨ s = cds "or" then .t [.s s, a, b] else .t [str "op", .s s, a, b]
mutual
/-- an expression: its level, a bound of its height, its tree, its tokens, its blocks' parameters -/
inductive Ex : Nat → Nat → Tr → Ws → List Ws → Prop
  | num {h : Nat} {a : List Nat} {x : Int} : tk a = (cds "number", .int x) → Ex 9 (h + 1) (.t [str "plain", .i x]) [a] []
  | text {h : Nat} {a b : List Nat} : tk a = (cds "text", T b) → Ex 9 (h + 1) (.t [str "plain", .s b]) [a] []
  | word {h : Nat} {a : List Nat} {v : V} : plainL.lookup a = some v → Ex 9 (h + 1) (.t [str "plain", plainTr v]) [a] []
  | self {h : Nat} : Ex 9 (h + 1) (.t [str "self"]) [cds "self"] []
  | new {h : Nat} {a : List Nat} : tk a = (cds "class", T a) → Ex 9 (h + 1) (.t [str "new", .s a]) [cds "new", a] []
  | name {h : Nat} {a : List Nat} : isNm a → Ex 9 (h + 1) (.t [str "name", .s a]) [a] []
  | par {lv h : Nat} {t : Tr} {w : Ws} {ns : List Ws} : 1 ≤ lv → Ex lv h t w ns → Ex 9 (h + 1) t (cds "(" :: (w ++ [cds ")"])) ns
  | neg {lv h : Nat} {t : Tr} {w : Ws} {ns : List Ws} : 7 ≤ lv → Ex lv h t w ns → Ex 7 (h + 1) (.t [str "neg", t]) (cds "-" :: w) ns
  | not {lv h : Nat} {t : Tr} {w : Ws} {ns : List Ws} : 3 ≤ lv → Ex lv h t w ns → Ex 3 (h + 1) (.t [str "not", t]) (cds "not" :: w) ns
  | bin {l lv1 lv2 h : Nat} {s : List Nat} {t1 t2 : Tr} {w1 w2 : Ws} {n1 n2 : List Ws} : behN.lookup s = some l → s ≠ cds "." → (if l = 4 then 5 else l) ≤ lv1 → Ex lv1 h t1 w1 n1 → l + 1 ≤ lv2 → Ex lv2 h t2 w2 n2 → Ex l (h + 1) (binT s t1 t2) (w1 ++ s :: w2) (n1 ++ n2)
  | send {lv h : Nat} {t : Tr} {w : Ws} {ns : List Ws} {x : List Nat} {l : List Tr} {w2 : Ws} {n2 : List Ws} : 8 ≤ lv → Ex lv h t w ns → isNm x → Ar h l w2 n2 → Ex 8 (h + 1) (.t [str "send", t, .s x, .t l]) (w ++ cds "." :: x :: cds "(" :: (w2 ++ [cds ")"])) (ns ++ n2)
  | sup {h : Nat} {x : List Nat} {l : List Tr} {w2 : Ws} {n2 : List Ws} : isNm x → Ar h l w2 n2 → Ex 9 (h + 1) (.t [str "super", .s x, .t l]) (cds "super" :: cds "." :: x :: cds "(" :: (w2 ++ [cds ")"])) n2
  | blk0 {h : Nat} {l : List Tr} {w : Ws} {ns : List Ws} : Bd h l w ns → Ex 9 (h + 1) (.t [str "block", .t [], .t l]) (cds "{" :: (w ++ [cds "}"])) ns
  | blk {h : Nat} {ps : Ws} {l : List Tr} {w : Ws} {ns : List Ws} : ps ≠ [] → ps.length ≤ 4 → (∀ x ∈ ps, isNm x) → Bd h l w ns → Ex 9 (h + 1) (.t [str "block", .t (ps.map Tr.s), .t l]) (cds "{" :: (commas ps ++ cds "|" :: (w ++ [cds "}"]))) (ps :: ns)
/-- arguments behind the first -/
inductive Al : Nat → List Tr → Ws → List Ws → Prop
  | nil {h : Nat} : Al h [] [] []
  | cons {lv h : Nat} {t : Tr} {w : Ws} {ns : List Ws} {l : List Tr} {w2 : Ws} {n2 : List Ws} : 1 ≤ lv → Ex lv h t w ns → Al h l w2 n2 → Al h (t :: l) (cds "," :: (w ++ w2)) (ns ++ n2)
inductive Ar : Nat → List Tr → Ws → List Ws → Prop
  | nil {h : Nat} : Ar h [] [] []
  | cons {lv h : Nat} {t : Tr} {w : Ws} {ns : List Ws} {l : List Tr} {w2 : Ws} {n2 : List Ws} : 1 ≤ lv → Ex lv h t w ns → Al h l w2 n2 → l.length ≤ 7 → Ar h (t :: l) (w ++ w2) (ns ++ n2)
inductive St : Nat → Tr → Ws → List Ws → Prop
  | eval {lv h : Nat} {t : Tr} {w : Ws} {ns : List Ws} : 1 ≤ lv → Ex lv h t w ns → St (h + 1) (.t [str "eval", t]) w ns
  | set {lv h : Nat} {t : Tr} {w : Ws} {ns : List Ws} {x : List Nat} : isNm x → 1 ≤ lv → Ex lv h t w ns → St (h + 1) (.t [str "set", .s x, t]) (x :: cds ":=" :: w) ns
  | gf {lv h : Nat} {t : Tr} {w : Ws} {ns : List Ws} {g : List Nat} : g = cds "give" ∨ g = cds "fail" → 1 ≤ lv → Ex lv h t w ns → St (h + 1) (.t [.s g, t]) (g :: w) ns
  | whl {lv h : Nat} {t : Tr} {w : Ws} {ns : List Ws} {l : List Tr} {w2 : Ws} {n2 : List Ws} : 1 ≤ lv → Ex lv h t w ns → Bd h l w2 n2 → St (h + 1) (.t [str "while", t, .t l]) (cds "while" :: (w ++ cds "do" :: (w2 ++ [cds "end"]))) (ns ++ n2)
  | if0 {lv h : Nat} {t : Tr} {w : Ws} {ns : List Ws} {l : List Tr} {w2 : Ws} {n2 : List Ws} : 1 ≤ lv → Ex lv h t w ns → Bd h l w2 n2 → St (h + 1) (.t [str "if", t, .t l, .t []]) (cds "if" :: (w ++ cds "then" :: (w2 ++ [cds "end"]))) (ns ++ n2)
  | if1 {lv h : Nat} {t : Tr} {w : Ws} {ns : List Ws} {l : List Tr} {w2 : Ws} {n2 : List Ws} {l3 : List Tr} {w3 : Ws} {n3 : List Ws} : 1 ≤ lv → Ex lv h t w ns → Bd h l w2 n2 → Bd h l3 w3 n3 → St (h + 1) (.t [str "if", t, .t l, .t l3]) (cds "if" :: (w ++ cds "then" :: (w2 ++ cds "else" :: (w3 ++ [cds "end"])))) (ns ++ (n2 ++ n3))
  | try_ {h : Nat} {l : List Tr} {w : Ws} {ns : List Ws} {x : List Nat} {l2 : List Tr} {w2 : Ws} {n2 : List Ws} : Bd h l w ns → isNm x → Bd h l2 w2 n2 → St (h + 1) (.t [str "try", .t l, .s x, .t l2]) (cds "try" :: (w ++ cds "catch" :: x :: cds "then" :: (w2 ++ [cds "end"]))) (ns ++ n2)
  | keep {h : Nat} {l : List Tr} {w : Ws} {ns : List Ws} {l2 : List Tr} {w2 : Ws} {n2 : List Ws} : Bd h l w ns → Bd h l2 w2 n2 → St (h + 1) (.t [str "keep", .t l, .t l2]) (cds "keep" :: (w ++ cds "always" :: (w2 ++ [cds "end"]))) (ns ++ n2)
inductive Bl : Nat → List Tr → Ws → List Ws → Prop
  | nil {h : Nat} : Bl h [] [] []
  | cons {h : Nat} {t : Tr} {w : Ws} {ns : List Ws} {l : List Tr} {w2 : Ws} {n2 : List Ws} : St h t w ns → Bl h l w2 n2 → Bl h (t :: l) (cds ";" :: (w ++ w2)) (ns ++ n2)
inductive Bd : Nat → List Tr → Ws → List Ws → Prop
  | nil {h : Nat} : Bd h [] [] []
  | cons {h : Nat} {t : Tr} {w : Ws} {ns : List Ws} {l : List Tr} {w2 : Ws} {n2 : List Ws} : St h t w ns → Bl h l w2 n2 → Bd h (t :: l) (w ++ w2) (ns ++ n2)
end
/-- the name noted behind these lists of names -/
def noteAll : List Ws → Option (List Nat) → Option (List Nat)
  | [], t => t
  | l :: ls, t => noteAll ls (twGo l t l.length)
theorem noteAll_append (a b : List Ws) (t : Option (List Nat)) : noteAll (a ++ b) t = noteAll b (noteAll a t) := by
  induction a generalizing t with
  | nil => rfl
  | cons l a ih => exact ih _
/-! ### tokens that stand -/
def Seg (ts : List Tk) : Nat → Ws → Prop
  | _, [] => True
  | i, a :: w => (∃ p, ts[i]? = some ((tk a).1, (tk a).2, p)) ∧ Seg ts (i + 1) w
theorem seg_append {ts : List Tk} : ∀ {u v : Ws} {i : Nat}, Seg ts i (u ++ v) ↔ Seg ts i u ∧ Seg ts (i + u.length) v
  | [], v, i => by show Seg ts i v ↔ True ∧ Seg ts (i + 0) v; simp
  | a :: u, v, i => by
    show (_ ∧ Seg ts (i + 1) (u ++ v)) ↔ (_ ∧ Seg ts (i + 1) u) ∧ Seg ts (i + (u.length + 1)) v
    rw [seg_append (u := u), show i + (u.length + 1) = i + 1 + u.length by omega, and_assoc]
/-- the text of the word or mark that stands at a place -/
def Nx (ts : List Tk) (i : Nat) (z : List Nat) : Prop := ∃ t, ts[i]? = some t ∧ fixT t = z
theorem Seg.nx {ts : List Tk} {i : Nat} {a : List Nat} {w : Ws} (h : Seg ts i (a :: w)) : Nx ts i (fx a) := by
  obtain ⟨⟨p, h⟩, _⟩ := h
  exact ⟨_, h, rfl⟩
section
variable {ts : List Tk} {i : Nat} {ds : List Nat} {tw : Option (List Nat)} {z : List Nat}
theorem ok_bind {S α β : Type} {a : α} {s : S} {k : α → S → Res S β} : (Res.ok a s).bind k = k a s := rfl
theorem tokN_of {t : Tk} (h : ts[i]? = some t) : tokN ts i = t ∧ i < ts.length := by
  obtain ⟨hl, e⟩ := List.getElem?_eq_some_iff.mp h
  refine ⟨?_, hl⟩
  unfold tokN
  rw [List.getD_eq_getElem?_getD, h]
  rfl
theorem fixed0 (h : Nx ts i z) : rFixed ts 0 ⟨i, ds, tw⟩ = .ok z ⟨i, ds, tw⟩ := by
  obtain ⟨t, h, rfl⟩ := h
  obtain ⟨e, hl⟩ := tokN_of h
  show (if i + 0 < ts.length then Res.ok (fixT (tokN ts (i + 0))) _ else _) = _
  rw [Nat.add_zero, if_pos hl, e]
theorem fixed1 (h : Nx ts (i + 1) z) : rFixed ts 1 ⟨i, ds, tw⟩ = .ok z ⟨i, ds, tw⟩ := by
  obtain ⟨t, h, rfl⟩ := h
  obtain ⟨e, hl⟩ := tokN_of h
  show (if i + 1 < ts.length then Res.ok (fixT (tokN ts (i + 1))) _ else _) = _
  rw [if_pos hl, e]
theorem accept_yes (h : Nx ts i z) : rAccept ts z ⟨i, ds, tw⟩ = .ok true ⟨i + 1, ds, tw⟩ := by
  unfold rAccept
  rw [fixed0 h, ok_bind, if_pos rfl]
theorem accept_no {a : List Nat} (h : Nx ts i z) (n : z ≠ a) : rAccept ts a ⟨i, ds, tw⟩ = .ok false ⟨i, ds, tw⟩ := by
  unfold rAccept
  rw [fixed0 h, ok_bind, if_neg n]
theorem expect_ok (h : Nx ts i z) : rExpect ts z ⟨i, ds, tw⟩ = .ok () ⟨i + 1, ds, tw⟩ := by
  unfold rExpect
  rw [accept_yes h, ok_bind, if_pos rfl]
theorem take_ok {k : List Nat} {v : V} {p : Nat} (h : ts[i]? = some (k, v, p)) : rTake ts k ⟨i, ds, tw⟩ = .ok v ⟨i + 1, ds, tw⟩ := by
  obtain ⟨e, hl⟩ := tokN_of h
  unfold rTake
  show (if i < ts.length then (if (tokN ts i).1 = k then Res.ok (tokN ts i).2.1 _ else _) else _) = _
  rw [if_pos hl, e, if_pos rfl]
theorem txtV_T' (a : List Nat) : txtV (T a) = a := by
  show (⟨a.toArray⟩ : Str).cps.toList = a
  simp
theorem name_ok {a : List Nat} {w : Ws} (h : Seg ts i (a :: w)) (n : isNm a) : rName ts ⟨i, ds, tw⟩ = .ok a ⟨i + 1, ds, tw⟩ := by
  obtain ⟨⟨p, h⟩, _⟩ := h
  unfold isNm at n
  rw [n] at h
  unfold rName
  rw [take_ok h, ok_bind, txtV_T']
theorem begin_ok {d : Nat} (h : d ≤ 12) (hl : ds.length < 400000) : rBegin ts d ⟨i, ds, tw⟩ = .ok () ⟨i, ds ++ [d], tw⟩ := by
  unfold rBegin
  rw [if_neg (by omega), if_pos hl]
theorem maxN_le {l : List Nat} {m : Nat} (h : ∀ x ∈ l, x ≤ m) : maxN l ≤ m := by
  induction l with
  | nil => exact Nat.zero_le _
  | cons a l ih =>
    show max a (maxN l) ≤ m
    have h1 := h a List.mem_cons_self
    have h2 := ih fun x hx => h x (List.mem_cons_of_mem _ hx)
    omega
theorem deepen_ok {sg : List Nat} (hs : sg ≠ []) (h : ∀ x ∈ sg, x + 1 ≤ 12) : rDeepen ts ds.length ⟨i, ds ++ sg, tw⟩ = .ok () ⟨i, ds ++ sg.map (· + 1), tw⟩ := by
  have hp : 0 < sg.length := List.length_pos_iff.mpr hs
  unfold rDeepen
  show (if (ds ++ sg).length ≤ ds.length then _ else if 12 < maxN (((ds ++ sg).drop ds.length).map (· + 1)) then _ else Res.ok () _) = _
  rw [if_neg (by rw [List.length_append]; omega), List.drop_left, List.take_left, if_neg]
  have : maxN (sg.map (· + 1)) ≤ 12 := maxN_le fun x hx => by
    obtain ⟨y, hy, rfl⟩ := List.mem_map.mp hx
    exact h y hy
  omega
end
end
section
open PySem PySem.Spec PyProof.Rows L2
/-! ### words and marks -/
def WM : Ws := ["method", "var", "end", "give", "fail", "if", "then", "else", "while", "do", "try", "catch", "keep", "always", "none", "true", "false", "self", "super", "new", "not", "and", "or", ":=", "<=", "(", ")", "{", "}", ",", ";", ".", "|", "=", "<", "+", "-", "*", "/"].map cds
theorem wm_fx : ∀ a ∈ WM, fx a = a := by decide +kernel
theorem wm_kind : ∀ a ∈ WM, (tk a).1 ≠ cds "number" ∧ (tk a).1 ≠ cds "text" ∧ (tk a).1 ≠ cds "name" := by decide +kernel
theorem beh_wm {s : List Nat} {l : Nat} (h : behN.lookup s = some l) : s ∈ WM ∧ levB s = l ∧ 1 ≤ l ∧ l ≤ 8 ∧ l ≠ 3 ∧ l ≠ 7 ∧ s ≠ cds ":=" ∧ s ≠ cds "," ∧ s ≠ cds "|" := by
  have key : ∀ p ∈ behN, p.1 ∈ WM ∧ 1 ≤ p.2 ∧ p.2 ≤ 8 ∧ p.2 ≠ 3 ∧ p.2 ≠ 7 ∧ p.1 ≠ cds ":=" ∧ p.1 ≠ cds "," ∧ p.1 ≠ cds "|" := by decide +kernel
  have mem : (s, l) ∈ behN := by
    have : ∀ (m : List (List Nat × Nat)), m.lookup s = some l → (s, l) ∈ m := by
      intro m
      induction m with
      | nil => intro h; cases h
      | cons q m ih =>
        intro h
        obtain ⟨a, b⟩ := q
        rw [List.lookup_cons] at h
        cases e : s == a with
        | true => rw [e] at h; cases h; rw [beq_iff_eq.mp e]; exact List.mem_cons_self
        | false => rw [e] at h; exact List.mem_cons_of_mem _ (ih h)
    exact this behN h
  obtain ⟨h1, h2, h3, h4, h5, h6, h7, h8⟩ := key _ mem
  refine ⟨h1, ?_, h2, h3, h4, h5, h6, h7, h8⟩
  unfold levB
  rw [h]
  rfl
theorem levB_cases (z : List Nat) : levB z = 0 ∨ behN.lookup z = some (levB z) := by
  unfold levB
  cases behN.lookup z with
  | none => exact .inl rfl
  | some l => exact .inr rfl
theorem levB_ne (z : List Nat) : levB z ≠ 3 ∧ levB z ≠ 7 := by
  rcases levB_cases z with h | h
  · rw [h]; decide
  · obtain ⟨_, _, _, _, h3, h7, _⟩ := beh_wm h
    exact ⟨h3, h7⟩
theorem fx_kind {a k : List Nat} {v : V} (h : tk a = (k, v)) (h1 : k ≠ cds "word") (h2 : k ≠ cds "mark") : fx a = [] := by
  unfold fx fixT
  rw [h]
  exact if_neg (fun z => z.elim h1 h2)
theorem nm_fx {a : List Nat} (h : isNm a) : fx a = [] := fx_kind h (by decide +kernel) (by decide +kernel)
theorem plain_cases {a : List Nat} {v : V} (h : plainL.lookup a = some v) : (a = cds "none" ∨ a = cds "true" ∨ a = cds "false") := by
  unfold plainL at h
  simp only [List.lookup] at h
  split at h
  · rename_i e; exact .inl (by simpa using e)
  · split at h
    · rename_i e; exact .inr (.inl (by simpa using e))
    · split at h
      · rename_i e; exact .inr (.inr (by simpa using e))
      · cases h
/-! ### how an expression begins -/
/-- words that begin statements, or end bodies -/
def EN : Ws := ["end", "else", "catch", "always", "}"].map cds
def SW : Ws := ["give", "fail", "while", "if", "try", "keep", "end", "else", "catch", "always", "}", ")"].map cds
def Hd (w : Ws) : Prop := ∃ a r, w = a :: r ∧ fx a ∉ SW ∧ ((tk a).1 = cds "name" → r = [] ∨ ∃ b r', r = b :: r' ∧ ∃ l, behN.lookup b = some l)
theorem Hd.append {w v : Ws} (h : Hd w) (hv : ∃ b r', v = b :: r' ∧ ∃ l, behN.lookup b = some l) : Hd (w ++ v) := by
  obtain ⟨a, r, rfl, h1, h2⟩ := h
  refine ⟨a, r ++ v, rfl, h1, fun n => .inr ?_⟩
  rcases h2 n with rfl | ⟨b, r', rfl, hb⟩
  · exact hv
  · exact ⟨b, r' ++ v, rfl, hb⟩
theorem Hd.one {a : List Nat} {r : Ws} (h : fx a ∉ SW) (n : (tk a).1 ≠ cds "name") : Hd (a :: r) := ⟨a, r, rfl, h, fun z => absurd z n⟩
theorem hd_wm {a : List Nat} {r : Ws} (h : a ∈ WM) (hs : a ∉ SW) : Hd (a :: r) := Hd.one (by rw [wm_fx a h]; exact hs) (wm_kind a h).2.2
theorem beh_dot : behN.lookup (cds ".") = some 8 := by decide +kernel
theorem ex_hd : ∀ {h lv : Nat} {t : Tr} {w : Ws} {ns : List Ws}, Ex lv h t w ns → Hd w := by
  intro h
  induction h with
  | zero => intro lv t w ns e; cases e
  | succ h ih =>
    intro lv t w ns e
    cases e with
    | num e => exact Hd.one (by rw [fx_kind e (by decide +kernel) (by decide +kernel)]; decide +kernel) (by rw [e]; show cds "number" ≠ cds "name"; decide +kernel)
    | text e => exact Hd.one (by rw [fx_kind e (by decide +kernel) (by decide +kernel)]; decide +kernel) (by rw [e]; show cds "text" ≠ cds "name"; decide +kernel)
    | word e =>
      rcases plain_cases e with rfl | rfl | rfl
      · exact hd_wm (by decide +kernel) (by decide +kernel)
      · exact hd_wm (by decide +kernel) (by decide +kernel)
      · exact hd_wm (by decide +kernel) (by decide +kernel)
    | self => exact hd_wm (by decide +kernel) (by decide +kernel)
    | new e => exact hd_wm (by decide +kernel) (by decide +kernel)
    | name e => exact ⟨_, [], rfl, by rw [nm_fx e]; decide +kernel, fun _ => .inl rfl⟩
    | par _ e => exact hd_wm (by decide +kernel) (by decide +kernel)
    | neg _ e => exact hd_wm (by decide +kernel) (by decide +kernel)
    | not _ e => exact hd_wm (by decide +kernel) (by decide +kernel)
    | bin hl _ _ e1 _ e2 => exact (ih e1).append ⟨_, _, rfl, _, hl⟩
    | send _ e _ _ => exact (ih e).append ⟨_, _, rfl, _, beh_dot⟩
    | sup _ _ => exact hd_wm (by decide +kernel) (by decide +kernel)
    | blk0 _ => exact hd_wm (by decide +kernel) (by decide +kernel)
    | blk _ _ _ _ => exact hd_wm (by decide +kernel) (by decide +kernel)
/-- how a statement begins -/
def SHd (w : Ws) : Prop := ∃ a r, w = a :: r ∧ fx a ∉ EN ∧ ((tk a).1 = cds "name" → r = [] ∨ ∃ b r', r = b :: r' ∧ fx b ∉ [cds ",", cds "|"])
theorem shd_wm {a : List Nat} {r : Ws} (h : a ∈ WM) (hs : a ∉ EN) : SHd (a :: r) := ⟨a, r, rfl, by rw [wm_fx a h]; exact hs, fun z => absurd z (wm_kind a h).2.2⟩
theorem en_sw : ∀ a ∈ EN, a ∈ SW := by decide +kernel
theorem st_hd {h : Nat} {t : Tr} {w : Ws} {ns : List Ws} (e : St h t w ns) : SHd w := by
  cases e with
  | eval _ e =>
    obtain ⟨a, r, rfl, h1, h2⟩ := ex_hd e
    refine ⟨a, r, rfl, fun z => h1 (en_sw _ z), fun n => ?_⟩
    rcases h2 n with h | ⟨b, r', h, l, hb⟩
    · exact .inl h
    · obtain ⟨hw, _, _, _, _, _, _, h1, h2⟩ := beh_wm hb
      refine .inr ⟨b, r', h, ?_⟩
      rw [wm_fx b hw]
      intro z
      rcases List.mem_cons.mp z with z | z
      · exact h1 z
      · exact h2 (List.mem_singleton.mp z)
  | set n _ e => exact ⟨_, _, rfl, by rw [nm_fx n]; decide +kernel, fun _ => .inr ⟨_, _, rfl, by rw [wm_fx _ (by decide +kernel)]; decide +kernel⟩⟩
  | gf g _ e => rcases g with rfl | rfl <;> exact shd_wm (by decide +kernel) (by decide +kernel)
  | whl _ _ _ => exact shd_wm (by decide +kernel) (by decide +kernel)
  | if0 _ _ _ => exact shd_wm (by decide +kernel) (by decide +kernel)
  | if1 _ _ _ _ => exact shd_wm (by decide +kernel) (by decide +kernel)
  | try_ _ _ _ => exact shd_wm (by decide +kernel) (by decide +kernel)
  | keep _ _ => exact shd_wm (by decide +kernel) (by decide +kernel)
/-! ### the ends of the loop -/
section
variable {ts : List Tk} {ex : Nat → Nat → RS → Res RS Tr} {bo : List (List Nat) → Nat → RS → Res RS (List Tr)} {i d p : Nat} {ds : List Nat} {tw : Option (List Nat)} {z : List Nat}
theorem goOn_lt {lv : Nat} (h : levB z < p) : goOn z p lv = false := by
  unfold goOn
  rw [decide_eq_false (by omega)]
  rfl
theorem go_end {f k lv : Nat} {t : Tr} {S : RS} (h : goOn z p lv = false) (hk : 1 ≤ k) : gExprGo ts ex p d f k t lv z S = .ok t S := by
  cases k with
  | zero => omega
  | succ k =>
    unfold gExprGo
    rw [h]
    exact if_neg Bool.false_ne_true
theorem of_opening {j lv : Nat} {t : Tr} {sg : List Nat} {tw' : Option (List Nat)} (h : gOpening ts ex bo p d ⟨i, ds ++ [d], tw⟩ = .ok (t, lv) ⟨j, ds ++ sg, tw'⟩) (n : Nx ts j z) (hd : d ≤ 12) (hl : ds.length < 400000) :
    gExpr ts ex bo p d ⟨i, ds, tw⟩ = gExprGo ts ex p d ds.length (ts.length + 1) t lv z ⟨j, ds ++ sg, tw'⟩ := by
  unfold gExpr
  rw [begin_ok hd hl, ok_bind, h, ok_bind, fixed0 n, ok_bind]
theorem opening_prim {t : Tr} {S' : RS} (n : Nx ts i z) (h0 : (aheadN.lookup z).getD 0 < p) (h : gPrimary ts ex bo d ⟨i, ds, tw⟩ = .ok t S') : gOpening ts ex bo p d ⟨i, ds, tw⟩ = .ok (t, 9) S' := by
  unfold gOpening
  rw [fixed0 n, ok_bind, if_pos h0, h, ok_bind]
theorem opening_ahead {t : Tr} {S' : RS} {nm : List Nat} (n : Nx ts i z) (h0 : ¬ (aheadN.lookup z).getD 0 < p) (hn : treesN.lookup z = some nm) (h : ex ((aheadN.lookup z).getD 0) (d + 1) ⟨i + 1, ds, tw⟩ = .ok t S') : gOpening ts ex bo p d ⟨i, ds, tw⟩ = .ok (.t [.s nm, t], (aheadN.lookup z).getD 0) S' := by
  unfold gOpening
  rw [fixed0 n, ok_bind, if_neg h0, expect_ok n, ok_bind, hn]
  show (ex _ _ _).bind _ = _
  rw [h, ok_bind]
theorem prim_plain {k : List Nat} {v : V} {q : Nat} (h : ts[i]? = some (k, v, q)) (hk : k = cds "number" ∨ k = cds "text") : gPrimary ts ex bo d ⟨i, ds, tw⟩ = .ok (.t [str "plain", plainTr v]) ⟨i + 1, ds, tw⟩ := by
  obtain ⟨e, hl⟩ := tokN_of h
  unfold gPrimary
  show (if i < ts.length then (if (tokN ts i).1 = _ ∨ (tokN ts i).1 = _ then (rTake ts (tokN ts i).1 _).bind _ else _) else _) = _
  rw [if_pos hl, e]
  show (if k = _ ∨ k = _ then (rTake ts k _).bind _ else _) = _
  rw [if_pos hk, take_ok h, ok_bind]
theorem prim_name {v : V} {q : Nat} (h : ts[i]? = some (cds "name", v, q)) : gPrimary ts ex bo d ⟨i, ds, tw⟩ = .ok (.t [str "name", plainTr v]) ⟨i + 1, ds, tw⟩ := by
  obtain ⟨e, hl⟩ := tokN_of h
  unfold gPrimary
  show (if i < ts.length then (if (tokN ts i).1 = _ ∨ (tokN ts i).1 = _ then _ else if (tokN ts i).1 = cds "name" then (rTake ts (tokN ts i).1 _).bind _ else _) else _) = _
  rw [if_pos hl, e]
  show (if cds "name" = cds "number" ∨ cds "name" = cds "text" then _ else if cds "name" = cds "name" then (rTake ts (cds "name") _).bind _ else _) = _
  rw [if_neg (by decide +kernel), if_pos rfl, take_ok h, ok_bind]
/-- what stands behind the first word -/
def gRest (ts : List Tk) (ex : Nat → Nat → RS → Res RS Tr) (bo : List (List Nat) → Nat → RS → Res RS (List Tr)) (d : Nat) (w : List Nat) (S : RS) : Res RS Tr :=
  if w = cds "{" then gBlock ts bo d S else if w = cds "super" then gSuper ts ex d S else
      (rAccept ts (cds "(") S).bind fun b S => if b = true then (ex 1 (d + 1) S).bind fun t S => (rExpect ts (cds ")") S).bind fun _ S => .ok t S else
      (rAccept ts (cds "new") S).bind fun b S => if b = true then (rTake ts (cds "class") S).bind fun v S => .ok (.t [str "new", plainTr v]) S else
      (rAccept ts (cds "self") S).bind fun b S => if b = true then .ok (.t [str "self"]) S else
      match plainL.lookup w with
      | none => rRefuse ts S
      | some v => (rExpect ts w S).bind fun _ S => .ok (.t [str "plain", plainTr v]) S
theorem prim_rest {a : List Nat} {w : Ws} (h : Seg ts i (a :: w)) (ha : a ∈ WM) : gPrimary ts ex bo d ⟨i, ds, tw⟩ = gRest ts ex bo d a ⟨i, ds, tw⟩ := by
  have n := h.nx
  rw [wm_fx a ha] at n
  obtain ⟨⟨q, h⟩, _⟩ := h
  obtain ⟨e, hl⟩ := tokN_of h
  obtain ⟨k1, k2, k3⟩ := wm_kind a ha
  unfold gPrimary
  show (if i < ts.length then (if (tokN ts i).1 = _ ∨ (tokN ts i).1 = _ then _ else if (tokN ts i).1 = cds "name" then _ else (rFixed ts 0 ⟨i, ds, tw⟩).bind _) else _) = _
  rw [if_pos hl, e]
  show (if (tk a).1 = _ ∨ (tk a).1 = _ then _ else if (tk a).1 = cds "name" then _ else (rFixed ts 0 ⟨i, ds, tw⟩).bind _) = _
  rw [if_neg (fun z => z.elim k1 k2), if_neg k3, fixed0 n, ok_bind]
  rfl
end
end
section
open PySem PySem.Spec PyProof.Rows L2
/-- an expression's tokens, read at a place as loose as it: what the loop over the signs goes on with -/
def EGood (ts : List Tk) (h : Nat) : Prop := ∀ {lv : Nat} {t : Tr} {w : Ws} {ns : List Ws}, Ex lv h t w ns → ∀ {n p d i : Nat} {ds : List Nat} {tw : Option (List Nat)} {z : List Nat}, h ≤ n → 1 ≤ p → p ≤ lv → d + h ≤ 13 → Seg ts i w → Nx ts (i + w.length) z → levB z ≤ lv → ds.length + 2 * w.length ≤ 400001 →
  ∃ (sg : List Nat) (k : Nat), sg ≠ [] ∧ (∀ x ∈ sg, x + 1 ≤ d + h) ∧ sg.length + 1 ≤ 2 * w.length ∧ ts.length + 1 ≤ k + w.length ∧
    gExpr ts (exN ts n).1 (exN ts n).2 p d ⟨i, ds, tw⟩ = gExprGo ts (exN ts n).1 p d ds.length k t lv z ⟨i + w.length, ds ++ sg, noteAll ns tw⟩
/-- .. up to its end -/
def EDone (ts : List Tk) (h : Nat) : Prop := ∀ {lv : Nat} {t : Tr} {w : Ws} {ns : List Ws}, Ex lv h t w ns → ∀ {n p d i : Nat} {ds : List Nat} {tw : Option (List Nat)} {z : List Nat}, h + 1 ≤ n → 1 ≤ p → p ≤ lv → d + h ≤ 13 → Seg ts i w → Nx ts (i + w.length) z → levB z < p → ds.length + 2 * w.length ≤ 400001 →
  ∃ sg : List Nat, sg ≠ [] ∧ (∀ x ∈ sg, x + 1 ≤ d + h) ∧ sg.length + 1 ≤ 2 * w.length ∧ (exN ts n).1 p d ⟨i, ds, tw⟩ = .ok t ⟨i + w.length, ds ++ sg, noteAll ns tw⟩
def SDone (ts : List Tk) (h : Nat) : Prop := ∀ {t : Tr} {w : Ws} {ns : List Ws}, St h t w ns → ∀ {n d i : Nat} {ds : List Nat} {tw : Option (List Nat)} {z : List Nat}, h ≤ n → d + h ≤ 13 → Seg ts i w → Nx ts (i + w.length) z → z ∈ cds ";" :: EN → ds.length + 2 * w.length ≤ 400000 →
  ∃ sg : List Nat, (∀ x ∈ sg, x + 1 ≤ d + h) ∧ sg.length ≤ 2 * w.length ∧ gSt ts (exN ts n).1 (exN ts n).2 d ⟨i, ds, tw⟩ = .ok t ⟨i + w.length, ds ++ sg, noteAll ns tw⟩
def BDone (ts : List Tk) (h : Nat) : Prop := ∀ {l : List Tr} {w : Ws} {ns : List Ws}, Bd h l w ns → ∀ {n d i : Nat} {ms : Ws} {ds : List Nat} {tw : Option (List Nat)} {z : List Nat}, h + 1 ≤ n → (∀ m ∈ ms, m ∈ EN) → z ∈ ms → d + h ≤ 13 → Seg ts i w → Nx ts (i + w.length) z → ds.length + 2 * w.length ≤ 400000 →
  ∃ sg : List Nat, (∀ x ∈ sg, x + 1 ≤ d + h) ∧ sg.length ≤ 2 * w.length ∧ (exN ts n).2 ms d ⟨i, ds, tw⟩ = .ok l ⟨i + w.length, ds ++ sg, noteAll ns tw⟩
theorem seg_len {ts : List Tk} {i : Nat} {w : Ws} {z : List Nat} (h : Nx ts (i + w.length) z) : w.length + 1 ≤ ts.length := by
  obtain ⟨t, h, _⟩ := h
  have := (List.getElem?_eq_some_iff.mp h).1
  omega
theorem EGood.done {ts : List Tk} {h : Nat} (g : EGood ts h) : EDone ts h := by
  intro lv t w ns e n p d i ds tw z hn hp hpl hd hs hx hz hl
  obtain ⟨m, rfl⟩ : ∃ m, n = m + 1 := ⟨n - 1, by omega⟩
  obtain ⟨sg, k, h1, h2, h3, h4, h5⟩ := g e (n := m) (p := p) (d := d) (i := i) (ds := ds) (tw := tw) (z := z) (by omega) hp hpl hd hs hx (by omega) hl
  refine ⟨sg, h1, h2, h3, ?_⟩
  show gExpr ts (exN ts m).1 (exN ts m).2 p d ⟨i, ds, tw⟩ = _
  have := seg_len hx
  rw [h5, go_end (goOn_lt hz) (by omega)]
section
variable {ts : List Tk} {n d i : Nat} {ds : List Nat} {tw : Option (List Nat)} {z : List Nat}
theorem app3 {a b c : List Nat} : a ++ b ++ c = a ++ (b ++ c) := List.append_assoc ..
/-- arguments behind the first -/
theorem al_done {h : Nat} (E : EDone ts h) : ∀ {l : List Tr} {w : Ws} {ns : List Ws}, Al h l w ns → ∀ {l0 : List Tr} {i k : Nat} {ds : List Nat} {tw : Option (List Nat)}, h + 1 ≤ n → d + h ≤ 13 → Seg ts i w → Nx ts (i + w.length) (cds ")") → l0.length + l.length ≤ 8 → l.length + 1 ≤ k → ds.length + 2 * w.length ≤ 400000 →
    ∃ sg : List Nat, (∀ x ∈ sg, x + 1 ≤ d + h) ∧ sg.length ≤ 2 * w.length ∧ gArgsGo ts (exN ts n).1 d k l0 ⟨i, ds, tw⟩ = .ok (l0 ++ l) ⟨i + w.length, ds ++ sg, noteAll ns tw⟩
  | [], w, ns, e, l0, i, k, ds, tw, hn, hd, hs, hx, hc, hk, hl => by
    cases e
    obtain ⟨k, rfl⟩ : ∃ m, k = m + 1 := ⟨k - 1, by omega⟩
    refine ⟨[], fun x hx => absurd hx List.not_mem_nil, Nat.zero_le _, ?_⟩
    unfold gArgsGo
    rw [accept_no (show Nx ts i (cds ")") from hx) (by decide +kernel), ok_bind, if_neg Bool.false_ne_true, List.append_nil, List.append_nil]
    rfl
  | t :: l, w, ns, e, l0, i, k, ds, tw, hn, hd, hs, hx, hc, hk, hl => by
    cases e with
    | @cons lv _ _ w1 n1 _ w2 n2 hlv e1 e2 =>
      obtain ⟨k, rfl⟩ : ∃ m, k = m + 1 := ⟨k - 1, by omega⟩
      rw [List.length_cons] at hc hk hx hl
      rw [List.length_append] at hx hl
      have nc := hs.nx
      rw [wm_fx _ (by decide +kernel)] at nc
      obtain ⟨_, hs2⟩ := hs
      obtain ⟨s1, s2⟩ := seg_append.mp hs2
      have hx1 : Nx ts (i + 1 + w1.length) (if l = [] then cds ")" else cds ",") := by
        cases e2 with
        | nil =>
          have : i + (w1.length + ([] : Ws).length + 1) = i + 1 + w1.length := by show i + (w1.length + 0 + 1) = _; omega
          rw [if_pos rfl, ← this]
          exact hx
        | cons _ _ _ =>
          have q := s2.nx
          rw [wm_fx _ (by decide +kernel)] at q
          rw [if_neg (List.cons_ne_nil _ _)]
          exact q
      have hlev : levB (if l = [] then cds ")" else cds ",") < 1 := by split <;> decide +kernel
      obtain ⟨sg1, g1, g2, g3, g4⟩ := E e1 (n := n) (p := 1) (d := d) (i := i + 1) (ds := ds) (tw := tw) hn (Nat.le_refl _) hlv hd s1 hx1 hlev (by omega)
      obtain ⟨sg2, q1, q2, q3⟩ := al_done E e2 (l0 := l0 ++ [t]) (i := i + 1 + w1.length) (k := k) (ds := ds ++ sg1) (tw := noteAll n1 tw) hn hd s2 (by rw [show i + 1 + w1.length + w2.length = i + (w1.length + w2.length + 1) by omega]; exact hx) (by rw [List.length_append]; show l0.length + 1 + l.length ≤ 8; omega) (by omega) (by rw [List.length_append]; omega)
      refine ⟨sg1 ++ sg2, fun x hx => (List.mem_append.mp hx).elim (g2 x) (q1 x), by rw [List.length_append, List.length_cons, List.length_append]; omega, ?_⟩
      unfold gArgsGo
      rw [accept_yes nc, ok_bind, if_pos rfl, if_neg (by omega), g4, ok_bind, q3, noteAll_append, List.append_assoc, List.append_assoc]
      show Res.ok _ (RS.mk _ _ _) = Res.ok _ (RS.mk _ _ _)
      rw [List.length_cons, List.length_append, show i + 1 + w1.length + w2.length = i + (w1.length + w2.length + 1) by omega]
      rfl
/-- arguments in their brackets -/
theorem ar_done {h : Nat} (E : EDone ts h) {l : List Tr} {w : Ws} {ns : List Ws} (e : Ar h l w ns) (hn : h + 1 ≤ n) (hd : d + h ≤ 13) (hs : Seg ts i (cds "(" :: (w ++ [cds ")"]))) (hl : ds.length + 2 * w.length ≤ 400000) :
    ∃ sg : List Nat, (∀ x ∈ sg, x + 1 ≤ d + h) ∧ sg.length ≤ 2 * w.length ∧ gArgs ts (exN ts n).1 d ⟨i, ds, tw⟩ = .ok l ⟨i + (w.length + 2), ds ++ sg, noteAll ns tw⟩ := by
  have nc := hs.nx
  rw [wm_fx _ (by decide +kernel)] at nc
  obtain ⟨_, hs2⟩ := hs
  obtain ⟨s1, s2⟩ := seg_append.mp hs2
  have nz := s2.nx
  rw [wm_fx _ (by decide +kernel)] at nz
  unfold gArgs
  rw [expect_ok nc, ok_bind]
  cases e with
  | nil =>
    refine ⟨[], fun x hx => absurd hx List.not_mem_nil, Nat.zero_le _, ?_⟩
    rw [accept_yes (show Nx ts (i + 1) (cds ")") from nz), ok_bind, if_pos rfl, List.append_nil]
    rfl
  | @cons lv _ t w1 n1 l w2 n2 hlv e1 e2 hc =>
    rw [List.length_append] at nz hl
    obtain ⟨q1, q2⟩ := seg_append.mp s1
    obtain ⟨a, r, ew, hf, _⟩ := ex_hd e1
    have nf : Nx ts (i + 1) (fx a) := by rw [ew] at q1; exact q1.nx
    have nf2 : fx a ≠ cds ")" := fun z => hf (by rw [z]; decide +kernel)
    rw [accept_no nf nf2, ok_bind, if_neg Bool.false_ne_true]
    have hx1 : Nx ts (i + 1 + w1.length) (if l = [] then cds ")" else cds ",") := by
      cases e2 with
      | nil => rw [if_pos rfl]; exact nz
      | cons _ _ _ =>
        have q := q2.nx
        rw [wm_fx _ (by decide +kernel)] at q
        rw [if_neg (List.cons_ne_nil _ _)]
        exact q
    have hlev : levB (if l = [] then cds ")" else cds ",") < 1 := by split <;> decide +kernel
    obtain ⟨sg1, g1, g2, g3, g4⟩ := E e1 (n := n) (p := 1) (d := d) (i := i + 1) (ds := ds) (tw := tw) hn (Nat.le_refl _) hlv hd q1 hx1 hlev (by omega)
    obtain ⟨sg2, z1, z2, z3⟩ := al_done E e2 (l0 := [t]) (i := i + 1 + w1.length) (k := 9) (ds := ds ++ sg1) (tw := noteAll n1 tw) hn hd q2 (by rw [show i + 1 + w1.length + w2.length = i + 1 + (w1.length + w2.length) by omega]; exact nz) (by show 1 + l.length ≤ 8; omega) (by omega) (by rw [List.length_append]; omega)
    refine ⟨sg1 ++ sg2, fun x hx => (List.mem_append.mp hx).elim (g2 x) (z1 x), by rw [List.length_append, List.length_append]; omega, ?_⟩
    rw [g4, ok_bind, z3, ok_bind, show i + 1 + w1.length + w2.length = i + 1 + (w1.length + w2.length) by omega, expect_ok nz, ok_bind, noteAll_append, List.append_assoc, List.length_append]
    show Res.ok _ (RS.mk _ _ _) = Res.ok _ (RS.mk _ _ _)
    rw [show i + 1 + (w1.length + w2.length) + 1 = i + (w1.length + w2.length + 2) by omega]
    rfl
/-! ### names with commas -/
theorem commas_cons (a : List Nat) : ∀ l : Ws, commas (a :: l) = a :: (l.flatMap fun b => [cds ",", b])
  | [] => rfl
  | b :: l => by
    show a :: cds "," :: commas (b :: l) = _
    rw [commas_cons b l]
    rfl
theorem names_go {most : Nat} : ∀ {l l0 : Ws} {i k : Nat}, (∀ x ∈ l, isNm x) → Seg ts i (l.flatMap fun b => [cds ",", b]) → Nx ts (i + 2 * l.length) z → z ≠ cds "," → l0.length + l.length ≤ most → l.length + 1 ≤ k → rNamesGo ts most k l0 ⟨i, ds, tw⟩ = .ok (l0 ++ l) ⟨i + 2 * l.length, ds, tw⟩
  | [], l0, i, k, hn, hs, hx, hz, hc, hk => by
    obtain ⟨k, rfl⟩ : ∃ m, k = m + 1 := ⟨k - 1, by omega⟩
    unfold rNamesGo
    rw [accept_no (show Nx ts i z from hx) hz, ok_bind, if_neg Bool.false_ne_true, List.append_nil]
    rfl
  | a :: l, l0, i, k, hn, hs, hx, hz, hc, hk => by
    rw [List.length_cons] at hc hk hx
    obtain ⟨k, rfl⟩ : ∃ m, k = m + 1 := ⟨k - 1, by omega⟩
    have hs' : Seg ts i (cds "," :: a :: (l.flatMap fun b => [cds ",", b])) := hs
    have nc := hs'.nx
    rw [wm_fx _ (by decide +kernel)] at nc
    unfold rNamesGo
    rw [accept_yes nc, ok_bind, if_pos rfl, if_neg (by omega), name_ok hs'.2 (hn a List.mem_cons_self), ok_bind,
      names_go (l := l) (l0 := l0 ++ [a]) (i := i + 1 + 1) (k := k) (fun x hx => hn x (List.mem_cons_of_mem _ hx)) hs'.2.2 (by rw [show i + 1 + 1 + 2 * l.length = i + 2 * (l.length + 1) by omega]; exact hx) hz (by rw [List.length_append]; show l0.length + 1 + l.length ≤ most; omega) (by omega), List.append_assoc]
    show Res.ok _ (RS.mk _ _ _) = Res.ok _ (RS.mk _ _ _)
    rw [List.length_cons, show i + 1 + 1 + 2 * l.length = i + 2 * (l.length + 1) by omega]
    rfl
theorem commas_len : ∀ {l : Ws}, l ≠ [] → (commas l).length + 1 = 2 * l.length
  | [], h => absurd rfl h
  | a :: l, _ => by
    rw [commas_cons, List.length_cons, List.length_cons]
    have : ∀ l : Ws, (l.flatMap fun b => [cds ",", b]).length = 2 * l.length := fun l => by
      induction l with
      | nil => rfl
      | cons b l ih => rw [List.flatMap_cons, List.length_append, ih]; simp only [List.length_cons, List.length_nil]; omega
    rw [this]
    omega
theorem names_done {most : Nat} {l : Ws} (h0 : l ≠ []) (hn : ∀ x ∈ l, isNm x) (hs : Seg ts i (commas l)) (hx : Nx ts (i + (commas l).length) z) (hz : z ≠ cds ",") (hc : l.length ≤ most) : rNames ts most ⟨i, ds, tw⟩ = .ok l ⟨i + (commas l).length, ds, tw⟩ := by
  have cl := commas_len h0
  cases l with
  | nil => exact absurd rfl h0
  | cons a l =>
    rw [commas_cons] at hs
    rw [List.length_cons] at cl hc
    have e : i + (commas (a :: l)).length = i + 1 + 2 * l.length := by omega
    rw [e] at hx ⊢
    unfold rNames
    rw [name_ok hs (hn a List.mem_cons_self), ok_bind, names_go (l0 := [a]) (fun x hx => hn x (List.mem_cons_of_mem _ hx)) hs.2 hx hz (by show 1 + l.length ≤ most; omega) (by omega)]
    rfl
theorem before_no {ms : Ws} {a : List Nat} {w : Ws} (hs : Seg ts i (a :: w)) (h : (tk a).1 ≠ cds "name") : rBefore ts ms ⟨i, ds, tw⟩ = .ok false ⟨i, ds, tw⟩ := by
  obtain ⟨⟨q, h1⟩, _⟩ := hs
  obtain ⟨e, hl⟩ := tokN_of h1
  unfold rBefore
  show (if i < ts.length then (if (tokN ts i).1 = _ then _ else Res.ok false _) else _) = _
  rw [if_pos hl, e, if_neg h]
theorem before_is {ms : Ws} {a : List Nat} {w : Ws} (hs : Seg ts i (a :: w)) (h : (tk a).1 = cds "name") (n : Nx ts (i + 1) z) : rBefore ts ms ⟨i, ds, tw⟩ = .ok (decide (z ∈ ms)) ⟨i, ds, tw⟩ := by
  obtain ⟨⟨q, h1⟩, _⟩ := hs
  obtain ⟨e, hl⟩ := tokN_of h1
  unfold rBefore
  show (if i < ts.length then (if (tokN ts i).1 = _ then (rFixed ts 1 ⟨i, ds, tw⟩).bind _ else _) else _) = _
  rw [if_pos hl, e, if_pos h, fixed1 n, ok_bind]
end
end
section
open PySem PySem.Spec PyProof.Rows L2
section
variable {ts : List Tk} {n d i : Nat} {ds : List Nat} {tw : Option (List Nat)} {z : List Nat}
theorem en_wm : ∀ a ∈ cds ";" :: EN, a ∈ WM ∧ levB a = 0 ∧ a ≠ cds ":=" ∧ a ≠ cds "," ∧ a ≠ cds "|" := by decide +kernel
/-- statements behind the first -/
theorem bl_done {h : Nat} (E : SDone ts h) : ∀ {l : List Tr} {w : Ws} {ns : List Ws}, Bl h l w ns → ∀ {l0 : List Tr} {i k : Nat} {ds : List Nat} {tw : Option (List Nat)}, h ≤ n → d + h ≤ 13 → Seg ts i w → Nx ts (i + w.length) z → z ∈ EN → l.length + 1 ≤ k → ds.length + 2 * w.length ≤ 400000 →
    ∃ sg : List Nat, (∀ x ∈ sg, x + 1 ≤ d + h) ∧ sg.length ≤ 2 * w.length ∧ gBodyGo ts (gSt ts (exN ts n).1 (exN ts n).2) d k l0 ⟨i, ds, tw⟩ = .ok (l0 ++ l) ⟨i + w.length, ds ++ sg, noteAll ns tw⟩
  | [], w, ns, e, l0, i, k, ds, tw, hn, hd, hs, hx, hz, hk, hl => by
    cases e
    obtain ⟨k, rfl⟩ : ∃ m, k = m + 1 := ⟨k - 1, by omega⟩
    refine ⟨[], fun x hx => absurd hx List.not_mem_nil, Nat.zero_le _, ?_⟩
    have hz2 : z ≠ cds ";" := fun e => by
      have : ∀ a ∈ EN, a ≠ cds ";" := by decide +kernel
      exact this z hz e
    unfold gBodyGo
    rw [accept_no (show Nx ts i z from hx) hz2, ok_bind, if_neg Bool.false_ne_true, List.append_nil, List.append_nil]
    rfl
  | t :: l, w, ns, e, l0, i, k, ds, tw, hn, hd, hs, hx, hz, hk, hl => by
    cases e with
    | @cons _ _ w1 n1 _ w2 n2 e1 e2 =>
      obtain ⟨k, rfl⟩ : ∃ m, k = m + 1 := ⟨k - 1, by omega⟩
      rw [List.length_cons] at hk hx hl
      rw [List.length_append] at hx hl
      have nc := hs.nx
      rw [wm_fx _ (by decide +kernel)] at nc
      obtain ⟨_, hs2⟩ := hs
      obtain ⟨s1, s2⟩ := seg_append.mp hs2
      have hx1 : Nx ts (i + 1 + w1.length) (if l = [] then z else cds ";") := by
        cases e2 with
        | nil =>
          have : i + (w1.length + ([] : Ws).length + 1) = i + 1 + w1.length := by show i + (w1.length + 0 + 1) = _; omega
          rw [if_pos rfl, ← this]
          exact hx
        | cons _ _ =>
          have q := s2.nx
          rw [wm_fx _ (by decide +kernel)] at q
          rw [if_neg (List.cons_ne_nil _ _)]
          exact q
      have hlev : (if l = [] then z else cds ";") ∈ cds ";" :: EN := by split; exact List.mem_cons_of_mem _ hz; exact List.mem_cons_self
      obtain ⟨sg1, g2, g3, g4⟩ := E e1 (n := n) (d := d) (i := i + 1) (ds := ds) (tw := tw) hn hd s1 hx1 hlev (by omega)
      obtain ⟨sg2, q1, q2, q3⟩ := bl_done E e2 (l0 := l0 ++ [t]) (i := i + 1 + w1.length) (k := k) (ds := ds ++ sg1) (tw := noteAll n1 tw) hn hd s2 (by rw [show i + 1 + w1.length + w2.length = i + (w1.length + w2.length + 1) by omega]; exact hx) hz (by omega) (by rw [List.length_append]; omega)
      refine ⟨sg1 ++ sg2, fun x hx => (List.mem_append.mp hx).elim (g2 x) (q1 x), by rw [List.length_append, List.length_cons, List.length_append]; omega, ?_⟩
      unfold gBodyGo
      rw [accept_yes nc, ok_bind, if_pos rfl, g4, ok_bind, q3, noteAll_append, List.append_assoc, List.append_assoc]
      show Res.ok _ (RS.mk _ _ _) = Res.ok _ (RS.mk _ _ _)
      rw [List.length_cons, List.length_append, show i + 1 + w1.length + w2.length = i + (w1.length + w2.length + 1) by omega]
      rfl
theorem bl_len {h : Nat} : ∀ {l : List Tr} {w : Ws} {ns : List Ws}, Bl h l w ns → l.length ≤ w.length
  | [], _, _, _ => Nat.zero_le _
  | t :: l, _, _, .cons _ r => by
    have := bl_len r
    rw [List.length_cons, List.length_cons, List.length_append]
    omega
/-- a body -/
theorem SDone.body {h : Nat} (E : SDone ts h) : BDone ts h := by
  intro l w ns e n d i ms ds tw z hn hms hz hd hs hx hl
  obtain ⟨n, rfl⟩ : ∃ m, n = m + 1 := ⟨n - 1, by omega⟩
  have hlen := seg_len hx
  show ∃ sg : List Nat, _ ∧ _ ∧ gBody ts (gSt ts (exN ts n).1 (exN ts n).2) ms d ⟨i, ds, tw⟩ = _
  unfold gBody
  cases e with
  | nil =>
    refine ⟨[], fun x hx => absurd hx List.not_mem_nil, Nat.zero_le _, ?_⟩
    rw [fixed0 (show Nx ts i z from hx), ok_bind, if_pos hz, List.append_nil]
    rfl
  | @cons _ t w1 n1 l w2 n2 e1 e2 =>
    rw [List.length_append] at hx hl hlen
    obtain ⟨s1, s2⟩ := seg_append.mp hs
    obtain ⟨a, r, ew, hf, _⟩ := st_hd e1
    have nf : Nx ts i (fx a) := by rw [ew] at s1; exact s1.nx
    have hx1 : Nx ts (i + w1.length) (if l = [] then z else cds ";") := by
      cases e2 with
      | nil => rw [if_pos rfl]; exact hx
      | cons _ _ =>
        have q := s2.nx
        rw [wm_fx _ (by decide +kernel)] at q
        rw [if_neg (List.cons_ne_nil _ _)]
        exact q
    have hlev : (if l = [] then z else cds ";") ∈ cds ";" :: EN := by split; exact List.mem_cons_of_mem _ (hms z hz); exact List.mem_cons_self
    obtain ⟨sg1, g2, g3, g4⟩ := E e1 (n := n) (d := d) (i := i) (ds := ds) (tw := tw) (by omega) hd s1 hx1 hlev (by omega)
    have bl := bl_len e2
    obtain ⟨sg2, z1, z2, z3⟩ := bl_done E e2 (l0 := [t]) (i := i + w1.length) (k := ts.length + 1) (ds := ds ++ sg1) (tw := noteAll n1 tw) (n := n) (by omega) hd s2 (by rw [Nat.add_assoc]; exact hx) (hms z hz) (by omega) (by rw [List.length_append]; omega)
    refine ⟨sg1 ++ sg2, fun x hx => (List.mem_append.mp hx).elim (g2 x) (z1 x), by rw [List.length_append, List.length_append]; omega, ?_⟩
    rw [fixed0 nf, ok_bind, if_neg (fun h => hf (hms _ h)), g4, ok_bind, z3, noteAll_append, List.append_assoc, List.length_append, Nat.add_assoc]
    rfl
/-! ### statements -/
theorem st_next {z : List Nat} (h : z ∈ cds ";" :: EN) : levB z < 1 := by rw [(en_wm z h).2.1]; decide
theorem gst_else {w : List Nat} {ex : Nat → Nat → RS → Res RS Tr} {bo : List (List Nat) → Nat → RS → Res RS (List Tr)} (hd : d ≤ 12) (hl : ds.length < 400000) (n0 : Nx ts i w) (h : w ∉ SW) :
    gSt ts ex bo d ⟨i, ds, tw⟩ = (rBefore ts [cds ":="] ⟨i, ds ++ [d], tw⟩).bind fun b S => if b = true then gSet ts ex d S else (ex 1 (d + 1) S).bind fun t S => .ok (.t [str "eval", t]) S := by
  have k : ∀ a ∈ SW, w ≠ a := fun a ha e => h (by rw [e]; exact ha)
  unfold gSt
  rw [begin_ok hd hl, ok_bind, fixed0 n0, ok_bind, if_neg (fun e => e.elim (k _ (by decide +kernel)) (k _ (by decide +kernel))), if_neg (k _ (by decide +kernel)), if_neg (k _ (by decide +kernel)), if_neg (k _ (by decide +kernel)), if_neg (k _ (by decide +kernel))]
theorem sd_step {h : Nat} (E : EDone ts h) (B : BDone ts h) : SDone ts (h + 1) := by
  intro t w ns e n d i ds tw z hn hd hs hx hz hl
  have hz1 := st_next hz
  cases e with
  | @eval lv _ t _ _ hlv e =>
    obtain ⟨a, r, ew, hf, hnm⟩ := ex_hd e
    have hw1 : 1 ≤ w.length := by rw [ew, List.length_cons]; omega
    have nf : Nx ts i (fx a) := by rw [ew] at hs; exact hs.nx
    obtain ⟨sg, g1, g2, g3, g4⟩ := E e (n := n) (p := 1) (d := d + 1) (i := i) (ds := ds ++ [d]) (tw := tw) hn (Nat.le_refl _) hlv (by omega) hs hx hz1 (by rw [List.length_append]; show ds.length + 1 + _ ≤ _; omega)
    refine ⟨d :: sg, fun x hx => ?_, by rw [List.length_cons]; omega, ?_⟩
    · rcases List.mem_cons.mp hx with rfl | hx
      · omega
      · have := g2 x hx; omega
    · rw [gst_else (by omega) (by omega) nf hf]
      have hb : rBefore ts [cds ":="] ⟨i, ds ++ [d], tw⟩ = .ok false ⟨i, ds ++ [d], tw⟩ := by
        by_cases hk : (tk a).1 = cds "name"
        · rcases hnm hk with rfl | ⟨b, r', rfl, l, hb⟩
          · rw [ew] at hx hs
            have e : decide (z ∈ [cds ":="]) = false := decide_eq_false fun m => (en_wm z hz).2.2.1 (List.mem_singleton.mp m)
            rw [before_is hs hk (show Nx ts (i + 1) z from hx), e]
          · rw [ew] at hs
            have q := hs.2.nx
            obtain ⟨bw, _, _, _, _, _, bn, _⟩ := beh_wm hb
            rw [wm_fx b bw] at q
            have e : decide (b ∈ [cds ":="]) = false := decide_eq_false fun m => bn (List.mem_singleton.mp m)
            rw [before_is hs hk q, e]
        · rw [ew] at hs
          exact before_no hs hk
      rw [hb, ok_bind, if_neg Bool.false_ne_true, g4, ok_bind, List.append_assoc]
      rfl
  | @set lv _ t w ns x hx0 hlv e =>
    rw [List.length_cons, List.length_cons] at hx hl
    obtain ⟨sg, g1, g2, g3, g4⟩ := E e (n := n) (p := 1) (d := d + 1) (i := i + 1 + 1) (ds := ds ++ [d]) (tw := tw) hn (Nat.le_refl _) hlv (by omega) hs.2.2 (by rw [show i + 1 + 1 + w.length = i + (w.length + 1 + 1) by omega]; exact hx) hz1 (by rw [List.length_append]; show ds.length + 1 + _ ≤ _; omega)
    refine ⟨d :: sg, fun x hx => ?_, by rw [List.length_cons, List.length_cons, List.length_cons]; omega, ?_⟩
    · rcases List.mem_cons.mp hx with rfl | hx
      · omega
      · have := g2 x hx; omega
    · have nf := hs.nx
      rw [nm_fx hx0] at nf
      have q := hs.2.nx
      rw [wm_fx _ (by decide +kernel)] at q
      have hk : (tk x).1 = cds "name" := by rw [hx0]
      have e : decide (cds ":=" ∈ [cds ":="]) = true := by decide +kernel
      rw [gst_else (by omega) (by omega) nf (by decide +kernel), before_is hs hk q, e, ok_bind, if_pos rfl]
      unfold gSet
      rw [name_ok hs hx0, ok_bind, expect_ok q, ok_bind, g4, ok_bind, List.append_assoc, List.length_cons, List.length_cons, show i + 1 + 1 + w.length = i + (w.length + 1 + 1) by omega]
      rfl
  | @gf lv _ t w ns g hg hlv e =>
    rw [List.length_cons] at hx hl
    have gw : g ∈ WM := by rcases hg with rfl | rfl <;> decide +kernel
    obtain ⟨sg, g1, g2, g3, g4⟩ := E e (n := n) (p := 1) (d := d + 1) (i := i + 1) (ds := ds ++ [d]) (tw := tw) hn (Nat.le_refl _) hlv (by omega) hs.2 (by rw [show i + 1 + w.length = i + (w.length + 1) by omega]; exact hx) hz1 (by rw [List.length_append]; show ds.length + 1 + _ ≤ _; omega)
    refine ⟨d :: sg, fun x hx => ?_, by rw [List.length_cons, List.length_cons]; omega, ?_⟩
    · rcases List.mem_cons.mp hx with rfl | hx
      · omega
      · have := g2 x hx; omega
    · have nf := hs.nx
      rw [wm_fx g gw] at nf
      unfold gSt
      rw [begin_ok (by omega) (by omega), ok_bind, fixed0 nf, ok_bind, if_pos hg, expect_ok nf, ok_bind, g4, ok_bind, List.append_assoc, List.length_cons, show i + 1 + w.length = i + (w.length + 1) by omega]
      rfl
  | @whl lv _ t w ns l w2 n2 hlv e b =>
    simp only [List.length_cons, List.length_append, List.length_nil] at hx hl
    have nf := hs.nx
    rw [wm_fx _ (by decide +kernel)] at nf
    obtain ⟨s1, s2⟩ := seg_append.mp hs.2
    have q := s2.nx
    rw [wm_fx _ (by decide +kernel)] at q
    obtain ⟨s3, s4⟩ := seg_append.mp s2.2
    have r := s4.nx
    rw [wm_fx _ (by decide +kernel)] at r
    obtain ⟨sg, g1, g2, g3, g4⟩ := E e (n := n) (p := 1) (d := d + 1) (i := i + 1) (ds := ds ++ [d]) (tw := tw) hn (Nat.le_refl _) hlv (by omega) s1 q (by decide +kernel) (by rw [List.length_append]; show ds.length + 1 + _ ≤ _; omega)
    obtain ⟨sg2, b2, b3, b4⟩ := B b (n := n) (d := d + 1) (i := i + 1 + w.length + 1) (ms := [cds "end"]) (ds := ds ++ [d] ++ sg) (tw := noteAll ns tw) (z := cds "end") hn (by decide +kernel) (by decide +kernel) (by omega) s3 r (by rw [List.length_append, List.length_append]; show ds.length + 1 + _ + _ ≤ _; omega)
    refine ⟨d :: (sg ++ sg2), fun x hx => ?_, by simp only [List.length_cons, List.length_append, List.length_nil]; omega, ?_⟩
    · rcases List.mem_cons.mp hx with rfl | hx
      · omega
      · rcases List.mem_append.mp hx with hx | hx
        · have := g2 x hx; omega
        · have := b2 x hx; omega
    · unfold gSt
      rw [begin_ok (by omega) (by omega), ok_bind, fixed0 nf, ok_bind, if_neg (by decide +kernel), if_pos rfl]
      unfold gWhile
      rw [expect_ok nf, ok_bind, g4, ok_bind, expect_ok q, ok_bind, b4, ok_bind, expect_ok r, ok_bind, noteAll_append]
      simp only [List.length_cons, List.length_append, List.length_nil, List.append_assoc, List.cons_append, List.nil_append]
      rw [show i + 1 + w.length + 1 + w2.length + 1 = i + (w.length + (w2.length + (0 + 1) + 1) + 1) by omega]
  | @if0 lv _ t w ns l w2 n2 hlv e b =>
    simp only [List.length_cons, List.length_append, List.length_nil] at hx hl
    have nf := hs.nx
    rw [wm_fx _ (by decide +kernel)] at nf
    obtain ⟨s1, s2⟩ := seg_append.mp hs.2
    have q := s2.nx
    rw [wm_fx _ (by decide +kernel)] at q
    obtain ⟨s3, s4⟩ := seg_append.mp s2.2
    have r := s4.nx
    rw [wm_fx _ (by decide +kernel)] at r
    obtain ⟨sg, g1, g2, g3, g4⟩ := E e (n := n) (p := 1) (d := d + 1) (i := i + 1) (ds := ds ++ [d]) (tw := tw) hn (Nat.le_refl _) hlv (by omega) s1 q (by decide +kernel) (by rw [List.length_append]; show ds.length + 1 + _ ≤ _; omega)
    obtain ⟨sg2, b2, b3, b4⟩ := B b (n := n) (d := d + 1) (i := i + 1 + w.length + 1) (ms := [cds "else", cds "end"]) (ds := ds ++ [d] ++ sg) (tw := noteAll ns tw) (z := cds "end") hn (by decide +kernel) (by decide +kernel) (by omega) s3 r (by rw [List.length_append, List.length_append]; show ds.length + 1 + _ + _ ≤ _; omega)
    refine ⟨d :: (sg ++ sg2), fun x hx => ?_, by simp only [List.length_cons, List.length_append, List.length_nil]; omega, ?_⟩
    · rcases List.mem_cons.mp hx with rfl | hx
      · omega
      · rcases List.mem_append.mp hx with hx | hx
        · have := g2 x hx; omega
        · have := b2 x hx; omega
    · unfold gSt
      rw [begin_ok (by omega) (by omega), ok_bind, fixed0 nf, ok_bind, if_neg (by decide +kernel), if_neg (by decide +kernel), if_pos rfl]
      unfold gIf
      rw [expect_ok nf, ok_bind, g4, ok_bind, expect_ok q, ok_bind, b4, ok_bind, accept_no r (by decide +kernel), ok_bind, if_neg Bool.false_ne_true, expect_ok r, ok_bind, noteAll_append]
      simp only [List.length_cons, List.length_append, List.length_nil, List.append_assoc, List.cons_append, List.nil_append]
      rw [show i + 1 + w.length + 1 + w2.length + 1 = i + (w.length + (w2.length + (0 + 1) + 1) + 1) by omega]
  | @if1 lv _ t w ns l w2 n2 l3 w3 n3 hlv e b c =>
    simp only [List.length_cons, List.length_append, List.length_nil] at hx hl
    have nf := hs.nx
    rw [wm_fx _ (by decide +kernel)] at nf
    obtain ⟨s1, s2⟩ := seg_append.mp hs.2
    have q := s2.nx
    rw [wm_fx _ (by decide +kernel)] at q
    obtain ⟨s3, s4⟩ := seg_append.mp s2.2
    have r := s4.nx
    rw [wm_fx _ (by decide +kernel)] at r
    obtain ⟨s5, s6⟩ := seg_append.mp s4.2
    have u := s6.nx
    rw [wm_fx _ (by decide +kernel)] at u
    obtain ⟨sg, g1, g2, g3, g4⟩ := E e (n := n) (p := 1) (d := d + 1) (i := i + 1) (ds := ds ++ [d]) (tw := tw) hn (Nat.le_refl _) hlv (by omega) s1 q (by decide +kernel) (by rw [List.length_append]; show ds.length + 1 + _ ≤ _; omega)
    obtain ⟨sg2, b2, b3, b4⟩ := B b (n := n) (d := d + 1) (i := i + 1 + w.length + 1) (ms := [cds "else", cds "end"]) (ds := ds ++ [d] ++ sg) (tw := noteAll ns tw) (z := cds "else") hn (by decide +kernel) (by decide +kernel) (by omega) s3 r (by rw [List.length_append, List.length_append]; show ds.length + 1 + _ + _ ≤ _; omega)
    obtain ⟨sg3, c2, c3, c4⟩ := B c (n := n) (d := d + 1) (i := i + 1 + w.length + 1 + w2.length + 1) (ms := [cds "end"]) (ds := ds ++ [d] ++ sg ++ sg2) (tw := noteAll n2 (noteAll ns tw)) (z := cds "end") hn (by decide +kernel) (by decide +kernel) (by omega) s5 u (by rw [List.length_append, List.length_append, List.length_append]; show ds.length + 1 + _ + _ + _ ≤ _; omega)
    refine ⟨d :: (sg ++ (sg2 ++ sg3)), fun x hx => ?_, by simp only [List.length_cons, List.length_append, List.length_nil]; omega, ?_⟩
    · rcases List.mem_cons.mp hx with rfl | hx
      · omega
      · rcases List.mem_append.mp hx with hx | hx
        · have := g2 x hx; omega
        · rcases List.mem_append.mp hx with hx | hx
          · have := b2 x hx; omega
          · have := c2 x hx; omega
    · unfold gSt
      rw [begin_ok (by omega) (by omega), ok_bind, fixed0 nf, ok_bind, if_neg (by decide +kernel), if_neg (by decide +kernel), if_pos rfl]
      unfold gIf
      rw [expect_ok nf, ok_bind, g4, ok_bind, expect_ok q, ok_bind, b4, ok_bind, accept_yes r, ok_bind, if_pos rfl, c4, ok_bind, expect_ok u, ok_bind, noteAll_append, noteAll_append]
      simp only [List.length_cons, List.length_append, List.length_nil, List.append_assoc, List.cons_append, List.nil_append]
      rw [show i + 1 + w.length + 1 + w2.length + 1 + w3.length + 1 = i + (w.length + (w2.length + (w3.length + (0 + 1) + 1) + 1) + 1) by omega]
  | @try_ _ l w ns x l2 w2 n2 b hx0 c =>
    simp only [List.length_cons, List.length_append, List.length_nil] at hx hl
    have nf := hs.nx
    rw [wm_fx _ (by decide +kernel)] at nf
    obtain ⟨s1, s2⟩ := seg_append.mp hs.2
    have q := s2.nx
    rw [wm_fx _ (by decide +kernel)] at q
    have qt := s2.2.2.nx
    rw [wm_fx _ (by decide +kernel)] at qt
    obtain ⟨s3, s4⟩ := seg_append.mp s2.2.2.2
    have r := s4.nx
    rw [wm_fx _ (by decide +kernel)] at r
    obtain ⟨sg, g2, g3, g4⟩ := B b (n := n) (d := d + 1) (i := i + 1) (ms := [cds "catch"]) (ds := ds ++ [d]) (tw := tw) (z := cds "catch") hn (by decide +kernel) (by decide +kernel) (by omega) s1 q (by rw [List.length_append]; show ds.length + 1 + _ ≤ _; omega)
    obtain ⟨sg2, b2, b3, b4⟩ := B c (n := n) (d := d + 1) (i := i + 1 + w.length + 1 + 1 + 1) (ms := [cds "end"]) (ds := ds ++ [d] ++ sg) (tw := noteAll ns tw) (z := cds "end") hn (by decide +kernel) (by decide +kernel) (by omega) s3 r (by rw [List.length_append, List.length_append]; show ds.length + 1 + _ + _ ≤ _; omega)
    refine ⟨d :: (sg ++ sg2), fun x hx => ?_, by simp only [List.length_cons, List.length_append, List.length_nil]; omega, ?_⟩
    · rcases List.mem_cons.mp hx with rfl | hx
      · omega
      · rcases List.mem_append.mp hx with hx | hx
        · have := g2 x hx; omega
        · have := b2 x hx; omega
    · unfold gSt
      rw [begin_ok (by omega) (by omega), ok_bind, fixed0 nf, ok_bind, if_neg (by decide +kernel), if_neg (by decide +kernel), if_neg (by decide +kernel), if_pos rfl]
      unfold gTry
      rw [expect_ok nf, ok_bind, g4, ok_bind, expect_ok q, ok_bind, name_ok s2.2 hx0, ok_bind, expect_ok qt, ok_bind, b4, ok_bind, expect_ok r, ok_bind, noteAll_append]
      simp only [List.length_cons, List.length_append, List.length_nil, List.append_assoc, List.cons_append, List.nil_append]
      rw [show i + 1 + w.length + 1 + 1 + 1 + w2.length + 1 = i + (w.length + (w2.length + (0 + 1) + 1 + 1 + 1) + 1) by omega]
  | @keep _ l w ns l2 w2 n2 b c =>
    simp only [List.length_cons, List.length_append, List.length_nil] at hx hl
    have nf := hs.nx
    rw [wm_fx _ (by decide +kernel)] at nf
    obtain ⟨s1, s2⟩ := seg_append.mp hs.2
    have q := s2.nx
    rw [wm_fx _ (by decide +kernel)] at q
    obtain ⟨s3, s4⟩ := seg_append.mp s2.2
    have r := s4.nx
    rw [wm_fx _ (by decide +kernel)] at r
    obtain ⟨sg, g2, g3, g4⟩ := B b (n := n) (d := d + 1) (i := i + 1) (ms := [cds "always"]) (ds := ds ++ [d]) (tw := tw) (z := cds "always") hn (by decide +kernel) (by decide +kernel) (by omega) s1 q (by rw [List.length_append]; show ds.length + 1 + _ ≤ _; omega)
    obtain ⟨sg2, b2, b3, b4⟩ := B c (n := n) (d := d + 1) (i := i + 1 + w.length + 1) (ms := [cds "end"]) (ds := ds ++ [d] ++ sg) (tw := noteAll ns tw) (z := cds "end") hn (by decide +kernel) (by decide +kernel) (by omega) s3 r (by rw [List.length_append, List.length_append]; show ds.length + 1 + _ + _ ≤ _; omega)
    refine ⟨d :: (sg ++ sg2), fun x hx => ?_, by simp only [List.length_cons, List.length_append, List.length_nil]; omega, ?_⟩
    · rcases List.mem_cons.mp hx with rfl | hx
      · omega
      · rcases List.mem_append.mp hx with hx | hx
        · have := g2 x hx; omega
        · have := b2 x hx; omega
    · unfold gSt
      rw [begin_ok (by omega) (by omega), ok_bind, fixed0 nf, ok_bind, if_neg (by decide +kernel), if_neg (by decide +kernel), if_neg (by decide +kernel), if_neg (by decide +kernel), if_pos rfl]
      unfold gKeep
      rw [expect_ok nf, ok_bind, g4, ok_bind, expect_ok q, ok_bind, b4, ok_bind, expect_ok r, ok_bind, noteAll_append]
      simp only [List.length_cons, List.length_append, List.length_nil, List.append_assoc, List.cons_append, List.nil_append]
      rw [show i + 1 + w.length + 1 + w2.length + 1 = i + (w.length + (w2.length + (0 + 1) + 1) + 1) by omega]
end
end
section
open PySem PySem.Spec PyProof.Rows L2
section
variable {ts : List Tk} {n d i p : Nat} {ds : List Nat} {tw : Option (List Nat)} {z : List Nat}
/-- what begins with a word or mark and is tight -/
theorem tight {h : Nat} {t : Tr} {w r : Ws} {ns : List Ws} {a : List Nat} {sg : List Nat} (ew : w = a :: r) (ha : a ∈ WM) (h0 : (aheadN.lookup a).getD 0 = 0) (hp : 1 ≤ p) (hd : d + h ≤ 13) (hh : 1 ≤ h) (hs : Seg ts i w) (hx : Nx ts (i + w.length) z) (hl : ds.length < 400000)
    (h1 : ∀ x ∈ sg, x + 1 ≤ d + h) (h2 : sg.length + 2 ≤ 2 * w.length) (g : gRest ts (exN ts n).1 (exN ts n).2 d a ⟨i, ds ++ [d], tw⟩ = .ok t ⟨i + w.length, ds ++ [d] ++ sg, noteAll ns tw⟩) :
    ∃ (sg : List Nat) (k : Nat), sg ≠ [] ∧ (∀ x ∈ sg, x + 1 ≤ d + h) ∧ sg.length + 1 ≤ 2 * w.length ∧ ts.length + 1 ≤ k + w.length ∧
      gExpr ts (exN ts n).1 (exN ts n).2 p d ⟨i, ds, tw⟩ = gExprGo ts (exN ts n).1 p d ds.length k t 9 z ⟨i + w.length, ds ++ sg, noteAll ns tw⟩ := by
  have hs' := hs
  rw [ew] at hs'
  have nf := hs'.nx
  rw [wm_fx a ha] at nf
  refine ⟨d :: sg, ts.length + 1, List.cons_ne_nil _ _, fun x hx => ?_, by rw [List.length_cons]; omega, by omega, ?_⟩
  · rcases List.mem_cons.mp hx with rfl | hx
    · omega
    · exact h1 x hx
  · refine of_opening ?_ hx (by omega) hl
    refine opening_prim nf (by omega) ?_
    rw [prim_rest hs' ha, g, List.append_assoc]
    rfl
/-- one token that is no word or mark -/
theorem leaf {h : Nat} {t : Tr} {a : List Nat} (hp : 1 ≤ p) (hd : d + (h + 1) ≤ 13) (hs : Seg ts i [a]) (hx : Nx ts (i + 1) z) (hl : ds.length < 400000) (hf : fx a = []) (g : ∀ q ds, ts[i]? = some ((tk a).1, (tk a).2, q) → gPrimary ts (exN ts n).1 (exN ts n).2 d ⟨i, ds, tw⟩ = .ok t ⟨i + 1, ds, tw⟩) :
    ∃ (sg : List Nat) (k : Nat), sg ≠ [] ∧ (∀ x ∈ sg, x + 1 ≤ d + (h + 1)) ∧ sg.length + 1 ≤ 2 * [a].length ∧ ts.length + 1 ≤ k + [a].length ∧
      gExpr ts (exN ts n).1 (exN ts n).2 p d ⟨i, ds, tw⟩ = gExprGo ts (exN ts n).1 p d ds.length k t 9 z ⟨i + [a].length, ds ++ sg, noteAll [] tw⟩ := by
  have nf := hs.nx
  rw [hf] at nf
  obtain ⟨⟨q, h1⟩, _⟩ := hs
  refine ⟨[d], ts.length + 1, List.cons_ne_nil _ _, fun x hx => by rw [List.mem_singleton.mp hx]; omega, Nat.le_refl _, by omega, ?_⟩
  exact of_opening (opening_prim nf (show 0 < p by omega) (g q _ h1)) hx (by omega) hl
theorem eg_step {h : Nat} (G : EGood ts h) (E : EDone ts h) (B : BDone ts h) : EGood ts (h + 1) := by
  intro lv t w ns e n p d i ds tw z hn hp hpl hd hs hx hz hl
  cases e with
  | @num _ a x e =>
    exact leaf hp hd hs hx (by simp at hl; omega) (fx_kind e (by decide +kernel) (by decide +kernel)) fun q ds hq => by
      rw [e] at hq
      exact prim_plain hq (.inl rfl)
  | @text _ a b e =>
    exact leaf hp hd hs hx (by simp at hl; omega) (fx_kind e (by decide +kernel) (by decide +kernel)) fun q ds hq => by
      rw [e] at hq
      rw [prim_plain hq (.inr rfl)]
      show Res.ok (Tr.t [str "plain", .s (⟨b.toArray⟩ : Str).cps.toList]) _ = _
      rw [show (⟨b.toArray⟩ : Str).cps.toList = b from txtV_T' b]
  | @name _ a e =>
    exact leaf hp hd hs hx (by simp at hl; omega) (nm_fx e) fun q ds hq => by
      rw [e] at hq
      rw [prim_name hq]
      show Res.ok (Tr.t [str "name", .s (⟨a.toArray⟩ : Str).cps.toList]) _ = _
      rw [show (⟨a.toArray⟩ : Str).cps.toList = a from txtV_T' a]
  | @word _ a v e =>
    have nf := hs.nx
    have key : ∀ b ∈ [cds "none", cds "true", cds "false"], b ∈ WM ∧ (aheadN.lookup b).getD 0 = 0 ∧ b ≠ cds "{" ∧ b ≠ cds "super" ∧ b ≠ cds "(" ∧ b ≠ cds "new" ∧ b ≠ cds "self" := by decide +kernel
    have ha : a ∈ [cds "none", cds "true", cds "false"] := by
      rcases plain_cases e with rfl | rfl | rfl <;> decide +kernel
    obtain ⟨k1, k2, k3, k4, k5, k6, k7⟩ := key a ha
    rw [wm_fx a k1] at nf
    refine tight (sg := []) (h := h + 1) rfl k1 k2 hp hd (by omega) hs hx (by simp at hl; omega) (fun x hx => absurd hx List.not_mem_nil) (by simp) ?_
    unfold gRest
    rw [if_neg k3, if_neg k4, accept_no nf k5, ok_bind, if_neg Bool.false_ne_true, accept_no nf k6, ok_bind, if_neg Bool.false_ne_true, accept_no nf k7, ok_bind, if_neg Bool.false_ne_true, e]
    show (rExpect ts a _).bind _ = _
    rw [expect_ok nf, ok_bind, List.append_nil]
    rfl
  | self =>
    have nf := hs.nx
    rw [wm_fx _ (by decide +kernel)] at nf
    refine tight (sg := []) (h := h + 1) rfl (by decide +kernel) (by decide +kernel) hp hd (by omega) hs hx (by simp at hl; omega) (fun x hx => absurd hx List.not_mem_nil) (by simp) ?_
    unfold gRest
    rw [if_neg (by decide +kernel), if_neg (by decide +kernel), accept_no nf (by decide +kernel), ok_bind, if_neg Bool.false_ne_true, accept_no nf (by decide +kernel), ok_bind, if_neg Bool.false_ne_true, accept_yes nf, ok_bind, if_pos rfl, List.append_nil]
    rfl
  | @new _ a e =>
    have nf := hs.nx
    rw [wm_fx _ (by decide +kernel)] at nf
    obtain ⟨⟨q, hq⟩, _⟩ := hs.2
    rw [e] at hq
    refine tight (sg := []) (h := h + 1) rfl (by decide +kernel) (by decide +kernel) hp hd (by omega) hs hx (by simp at hl; omega) (fun x hx => absurd hx List.not_mem_nil) (by simp) ?_
    unfold gRest
    rw [if_neg (by decide +kernel), if_neg (by decide +kernel), accept_no nf (by decide +kernel), ok_bind, if_neg Bool.false_ne_true, accept_yes nf, ok_bind, if_pos rfl, take_ok hq, ok_bind, List.append_nil]
    show Res.ok (Tr.t [str "new", .s (⟨a.toArray⟩ : Str).cps.toList]) _ = _
    rw [show (⟨a.toArray⟩ : Str).cps.toList = a from txtV_T' a]
    rfl
  | @par lv1 _ t w ns h1 e =>
    simp only [List.length_cons, List.length_append, List.length_nil] at hl
    have nf := hs.nx
    rw [wm_fx _ (by decide +kernel)] at nf
    obtain ⟨s1, s2⟩ := seg_append.mp hs.2
    have q := s2.nx
    rw [wm_fx _ (by decide +kernel)] at q
    obtain ⟨sg, g1, g2, g3, g4⟩ := E e (n := n) (p := 1) (d := d + 1) (i := i + 1) (ds := ds ++ [d]) (tw := tw) hn (Nat.le_refl _) h1 (by omega) s1 q (by decide +kernel) (by rw [List.length_append]; show ds.length + 1 + _ ≤ _; omega)
    refine tight (sg := sg) (h := h + 1) rfl (by decide +kernel) (by decide +kernel) hp hd (by omega) hs hx (by omega) (fun x hx => by have := g2 x hx; omega) (by simp only [List.length_cons, List.length_append, List.length_nil]; omega) ?_
    unfold gRest
    rw [if_neg (by decide +kernel), if_neg (by decide +kernel), accept_yes nf, ok_bind, if_pos rfl, g4, ok_bind, expect_ok q, ok_bind]
    simp only [List.length_cons, List.length_append, List.length_nil]
    rw [show i + 1 + w.length + 1 = i + (w.length + (0 + 1) + 1) by omega]
  | @neg lv1 _ t w ns h1 e =>
    rw [List.length_cons] at hl hx
    have nf := hs.nx
    rw [wm_fx _ (by decide +kernel)] at nf
    have hz7 : levB z < 7 := by have := (levB_ne z).2; omega
    obtain ⟨sg, g1, g2, g3, g4⟩ := E e (n := n) (p := 7) (d := d + 1) (i := i + 1) (ds := ds ++ [d]) (tw := tw) hn (by decide) h1 (by omega) hs.2 (by rw [show i + 1 + w.length = i + (w.length + 1) by omega]; exact hx) hz7 (by rw [List.length_append]; show ds.length + 1 + _ ≤ _; omega)
    refine ⟨d :: sg, ts.length + 1, List.cons_ne_nil _ _, fun x hx => ?_, by rw [List.length_cons, List.length_cons]; omega, by omega, ?_⟩
    · rcases List.mem_cons.mp hx with rfl | hx
      · omega
      · have := g2 x hx; omega
    · have la : (aheadN.lookup (cds "-")).getD 0 = 7 := by decide +kernel
      refine of_opening ?_ hx (by omega) (by omega)
      have := opening_ahead (ts := ts) (ex := (exN ts n).1) (bo := (exN ts n).2) (p := p) (d := d) (i := i) (ds := ds ++ [d]) (tw := tw) (nm := cds "neg") nf (by rw [la]; omega) (by decide +kernel) (by rw [la]; exact g4)
      rw [this, la, List.append_assoc, List.length_cons, show i + 1 + w.length = i + (w.length + 1) by omega]
      rfl
  | @not lv1 _ t w ns h1 e =>
    rw [List.length_cons] at hl hx
    have nf := hs.nx
    rw [wm_fx _ (by decide +kernel)] at nf
    have hz7 : levB z < 3 := by have := (levB_ne z).1; omega
    obtain ⟨sg, g1, g2, g3, g4⟩ := E e (n := n) (p := 3) (d := d + 1) (i := i + 1) (ds := ds ++ [d]) (tw := tw) hn (by decide) h1 (by omega) hs.2 (by rw [show i + 1 + w.length = i + (w.length + 1) by omega]; exact hx) hz7 (by rw [List.length_append]; show ds.length + 1 + _ ≤ _; omega)
    refine ⟨d :: sg, ts.length + 1, List.cons_ne_nil _ _, fun x hx => ?_, by rw [List.length_cons, List.length_cons]; omega, by omega, ?_⟩
    · rcases List.mem_cons.mp hx with rfl | hx
      · omega
      · have := g2 x hx; omega
    · have la : (aheadN.lookup (cds "not")).getD 0 = 3 := by decide +kernel
      refine of_opening ?_ hx (by omega) (by omega)
      have := opening_ahead (ts := ts) (ex := (exN ts n).1) (bo := (exN ts n).2) (p := p) (d := d) (i := i) (ds := ds ++ [d]) (tw := tw) (nm := cds "not") nf (by rw [la]; omega) (by decide +kernel) (by rw [la]; exact g4)
      rw [this, la, List.append_assoc, List.length_cons, show i + 1 + w.length = i + (w.length + 1) by omega]
      rfl
  | @bin l lv1 lv2 _ s t1 t2 w1 w2 n1 n2 hb hdot h1 e1 h2 e2 =>
    simp only [List.length_cons, List.length_append] at hl hx
    obtain ⟨sw, sl, l1, l8, l3, l7, _, _, _⟩ := beh_wm hb
    obtain ⟨s1, s2⟩ := seg_append.mp hs
    have q := s2.nx
    rw [wm_fx s sw] at q
    have hll : lv ≤ lv1 := by split at h1 <;> omega
    obtain ⟨sg, k, g1, g2, g3, g4, g5⟩ := G e1 (n := n) (p := p) (d := d) (i := i) (ds := ds) (tw := tw) (z := s) (by omega) hp (by omega) (by omega) s1 q (by omega) (by omega)
    have hw1 : 1 ≤ w1.length := by
      obtain ⟨a, r, ew, _⟩ := ex_hd e1
      rw [ew, List.length_cons]; omega
    have hx2 : Nx ts (i + w1.length + 1 + w2.length) z := by rw [show i + w1.length + 1 + w2.length = i + (w1.length + (w2.length + 1)) by omega]; exact hx
    obtain ⟨sg2, b1, b2, b3, b4⟩ := E e2 (n := n) (p := lv + 1) (d := d + 1) (i := i + w1.length + 1) (ds := ds ++ sg.map (· + 1)) (tw := noteAll n1 tw) hn (by omega) h2 (by omega) s2.2 hx2 (by omega) (by rw [List.length_append, List.length_map]; omega)
    have hk : 1 ≤ k := by
      have := seg_len (w := w1) (i := i) q
      omega
    obtain ⟨k, rfl⟩ : ∃ m, k = m + 1 := ⟨k - 1, by omega⟩
    refine ⟨sg.map (· + 1) ++ sg2, k, by simp [g1], fun x hx => ?_, by simp only [List.length_append, List.length_map, List.length_cons]; omega, by simp only [List.length_append, List.length_cons]; omega, ?_⟩
    · rcases List.mem_append.mp hx with hx | hx
      · obtain ⟨y, hy, rfl⟩ := List.mem_map.mp hx
        have := g2 y hy; omega
      · have := b2 x hx; omega
    · have hgo : goOn s p lv1 = true := by
        unfold goOn
        rw [sl, decide_eq_true hpl]
        by_cases h4 : lv = 4
        · rw [if_pos h4] at h1
          rw [decide_eq_true (show 4 < lv1 by omega)]
          simp
        · simp [h4]
      have hsign : gSign ts (exN ts n).1 s lv d t1 ⟨i + w1.length + 1, ds ++ sg.map (· + 1), noteAll n1 tw⟩ = .ok (binT s t1 t2) ⟨i + w1.length + 1 + w2.length, ds ++ sg.map (· + 1) ++ sg2, noteAll n2 (noteAll n1 tw)⟩ := by
        unfold gSign binT
        rw [if_neg hdot]
        by_cases ha : s = cds "and" ∨ s = cds "or"
        · rw [if_pos ha, if_pos ha, b4, ok_bind]
        · rw [if_neg ha, if_neg ha, b4, ok_bind]
      rw [g5]
      show (if goOn s p lv1 = true then _ else _) = _
      rw [if_pos hgo, deepen_ok g1 (fun x hx => by have := g2 x hx; omega), ok_bind, expect_ok q, ok_bind, hb]
      show (gSign ts (exN ts n).1 s lv d t1 _).bind _ = _
      rw [hsign, ok_bind, fixed0 hx2, ok_bind, noteAll_append, List.append_assoc]
      simp only [List.length_append, List.length_cons]
      rw [show i + w1.length + 1 + w2.length = i + (w1.length + (w2.length + 1)) by omega]
  | @send lv1 _ t w ns x l w2 n2 h8 e hx0 a =>
    simp only [List.length_cons, List.length_append, List.length_nil] at hl hx
    obtain ⟨s1, s2⟩ := seg_append.mp hs
    have q := s2.nx
    rw [wm_fx _ (by decide +kernel)] at q
    have ld : levB (cds ".") = 8 := by decide +kernel
    obtain ⟨sg, k, g1, g2, g3, g4, g5⟩ := G e (n := n) (p := p) (d := d) (i := i) (ds := ds) (tw := tw) (z := cds ".") (by omega) hp (by omega) (by omega) s1 q (by omega) (by omega)
    have hx2 : Nx ts (i + w.length + 1 + 1 + (w2.length + 2)) z := by rw [show i + w.length + 1 + 1 + (w2.length + 2) = i + (w.length + (w2.length + (0 + 1) + 1 + 1 + 1)) by omega]; exact hx
    obtain ⟨sg2, b2, b3, b4⟩ := ar_done (n := n) (d := d + 1) (i := i + w.length + 1 + 1) (ds := ds ++ sg.map (· + 1)) (tw := noteAll ns tw) E a hn (by omega) s2.2.2 (by rw [List.length_append, List.length_map]; omega)
    have hk : 1 ≤ k := by
      have := seg_len (w := w) (i := i) q
      omega
    obtain ⟨k, rfl⟩ : ∃ m, k = m + 1 := ⟨k - 1, by omega⟩
    refine ⟨sg.map (· + 1) ++ sg2, k, by simp [g1], fun x hx => ?_, by simp only [List.length_append, List.length_map, List.length_cons, List.length_nil]; omega, by simp only [List.length_append, List.length_cons, List.length_nil]; omega, ?_⟩
    · rcases List.mem_append.mp hx with hx | hx
      · obtain ⟨y, hy, rfl⟩ := List.mem_map.mp hx
        have := g2 y hy; omega
      · have := b2 x hx; omega
    · have hgo : goOn (cds ".") p lv1 = true := by
        unfold goOn
        rw [ld, decide_eq_true hpl]
        simp
      have hsign : gSign ts (exN ts n).1 (cds ".") 8 d t ⟨i + w.length + 1, ds ++ sg.map (· + 1), noteAll ns tw⟩ = .ok (.t [str "send", t, .s x, .t l]) ⟨i + w.length + 1 + 1 + (w2.length + 2), ds ++ sg.map (· + 1) ++ sg2, noteAll n2 (noteAll ns tw)⟩ := by
        unfold gSign
        rw [if_pos rfl, name_ok s2.2 hx0, ok_bind, b4, ok_bind]
      rw [g5]
      show (if goOn (cds ".") p lv1 = true then _ else _) = _
      rw [if_pos hgo, deepen_ok g1 (fun x hx => by have := g2 x hx; omega), ok_bind, expect_ok q, ok_bind, beh_dot]
      show (gSign ts (exN ts n).1 (cds ".") 8 d t _).bind _ = _
      rw [hsign, ok_bind, fixed0 hx2, ok_bind, noteAll_append, List.append_assoc]
      simp only [List.length_append, List.length_cons, List.length_nil]
      rw [show i + w.length + 1 + 1 + (w2.length + 2) = i + (w.length + (w2.length + (0 + 1) + 1 + 1 + 1)) by omega]
  | @sup _ x l w2 n2 hx0 a =>
    simp only [List.length_cons, List.length_append, List.length_nil] at hl
    have nf := hs.nx
    rw [wm_fx _ (by decide +kernel)] at nf
    have q := hs.2.nx
    rw [wm_fx _ (by decide +kernel)] at q
    obtain ⟨sg2, b2, b3, b4⟩ := ar_done (n := n) (d := d + 1) (i := i + 1 + 1 + 1) (ds := ds ++ [d]) (tw := tw) E a hn (by omega) hs.2.2.2 (by rw [List.length_append]; show ds.length + 1 + _ ≤ _; omega)
    refine tight (sg := sg2) (h := h + 1) rfl (by decide +kernel) (by decide +kernel) hp hd (by omega) hs hx (by omega) (fun x hx => by have := b2 x hx; omega) (by simp only [List.length_cons, List.length_append, List.length_nil]; omega) ?_
    unfold gRest
    rw [if_neg (by decide +kernel), if_pos rfl]
    unfold gSuper
    rw [expect_ok nf, ok_bind, expect_ok q, ok_bind, name_ok hs.2.2 hx0, ok_bind, b4, ok_bind]
    simp only [List.length_cons, List.length_append, List.length_nil]
    rw [show i + 1 + 1 + 1 + (w2.length + 2) = i + (w2.length + (0 + 1) + 1 + 1 + 1 + 1) by omega]
  | @blk0 _ l w ns b =>
    simp only [List.length_cons, List.length_append, List.length_nil] at hl
    have nf := hs.nx
    rw [wm_fx _ (by decide +kernel)] at nf
    obtain ⟨s1, s2⟩ := seg_append.mp hs.2
    have q := s2.nx
    rw [wm_fx _ (by decide +kernel)] at q
    obtain ⟨sg, b2, b3, b4⟩ := B b (n := n) (d := d + 1) (i := i + 1) (ms := [cds "}"]) (ds := ds ++ [d]) (tw := tw) (z := cds "}") hn (by decide +kernel) (by decide +kernel) (by omega) s1 q (by rw [List.length_append]; show ds.length + 1 + _ ≤ _; omega)
    have hbef : rBefore ts [cds ",", cds "|"] ⟨i + 1, ds ++ [d], tw⟩ = .ok false ⟨i + 1, ds ++ [d], tw⟩ := by
      cases b with
      | nil => exact before_no hs.2 (wm_kind _ (by decide +kernel)).2.2
      | @cons _ t w1 n1 l w2 n2 e1 e2 =>
        obtain ⟨a, r, ew, hf, hnm⟩ := st_hd e1
        by_cases hk : (tk a).1 = cds "name"
        · have s1' := s1
          rw [ew] at s1'
          rcases hnm hk with rfl | ⟨b, r', rfl, hb⟩
          · have n2x : Nx ts (i + 1 + 1) (if l = [] then cds "}" else cds ";") := by
              cases e2 with
              | nil =>
                rw [if_pos rfl]
                rw [ew] at q
                exact q
              | cons _ _ =>
                rw [if_neg (List.cons_ne_nil _ _)]
                have := s1'.2.nx
                rw [wm_fx _ (by decide +kernel)] at this
                exact this
            rw [before_is s1' hk n2x]
            have : decide ((if l = [] then cds "}" else cds ";") ∈ [cds ",", cds "|"]) = false := by split <;> decide +kernel
            rw [this]
          · rw [before_is s1' hk s1'.2.nx, decide_eq_false hb]
        · rw [ew] at s1
          exact before_no s1 hk
    refine tight (sg := sg) (h := h + 1) rfl (by decide +kernel) (by decide +kernel) hp hd (by omega) hs hx (by omega) (fun x hx => by have := b2 x hx; omega) (by simp only [List.length_cons, List.length_append, List.length_nil]; omega) ?_
    unfold gRest
    rw [if_pos rfl]
    unfold gBlock
    rw [expect_ok nf, ok_bind, hbef, ok_bind, if_neg Bool.false_ne_true, b4, ok_bind, expect_ok q, ok_bind]
    simp only [List.length_cons, List.length_append, List.length_nil]
    rw [show i + 1 + w.length + 1 = i + (w.length + (0 + 1) + 1) by omega]
  | @blk _ ps l w ns hps h4 hnm b =>
    simp only [List.length_cons, List.length_append, List.length_nil] at hl
    have nf := hs.nx
    rw [wm_fx _ (by decide +kernel)] at nf
    obtain ⟨s1, s2⟩ := seg_append.mp hs.2
    have q := s2.nx
    rw [wm_fx _ (by decide +kernel)] at q
    obtain ⟨s3, s4⟩ := seg_append.mp s2.2
    have r := s4.nx
    rw [wm_fx _ (by decide +kernel)] at r
    have cl := commas_len hps
    obtain ⟨sg, b2, b3, b4⟩ := B b (n := n) (d := d + 1) (i := i + 1 + (commas ps).length + 1) (ms := [cds "}"]) (ds := ds ++ [d]) (tw := twGo ps tw ps.length) (z := cds "}") hn (by decide +kernel) (by decide +kernel) (by omega) s3 r (by rw [List.length_append]; show ds.length + 1 + _ ≤ _; omega)
    have hbef : rBefore ts [cds ",", cds "|"] ⟨i + 1, ds ++ [d], tw⟩ = .ok true ⟨i + 1, ds ++ [d], tw⟩ := by
      cases ps with
      | nil => exact absurd rfl hps
      | cons a ps =>
        have hk : (tk a).1 = cds "name" := by rw [hnm a List.mem_cons_self]
        cases ps with
        | nil =>
          have e : decide (cds "|" ∈ [cds ",", cds "|"]) = true := by decide +kernel
          rw [before_is s1 hk (show Nx ts (i + 1 + 1) (cds "|") from q), e]
        | cons c ps =>
          have e : decide (cds "," ∈ [cds ",", cds "|"]) = true := by decide +kernel
          have s1' : Seg ts (i + 1) (a :: cds "," :: commas (c :: ps)) := s1
          have q2 := s1'.2.nx
          rw [wm_fx _ (by decide +kernel)] at q2
          rw [before_is s1' hk q2, e]
    refine tight (sg := sg) (h := h + 1) rfl (by decide +kernel) (by decide +kernel) hp hd (by omega) hs hx (by omega) (fun x hx => by have := b2 x hx; omega) (by simp only [List.length_cons, List.length_append, List.length_nil]; omega) ?_
    unfold gRest
    rw [if_pos rfl]
    unfold gBlock
    rw [expect_ok nf, ok_bind, hbef, ok_bind, if_pos rfl, names_done hps hnm s1 q (by decide +kernel) h4, ok_bind, expect_ok q, ok_bind]
    show (rNote ps _).bind _ = _
    unfold rNote
    rw [ok_bind, b4, ok_bind, expect_ok r, ok_bind]
    simp only [List.length_cons, List.length_append, List.length_nil]
    rw [show i + 1 + (commas ps).length + 1 + w.length + 1 = i + ((commas ps).length + (w.length + (0 + 1) + 1) + 1) by omega]
    rfl
theorem all_good (ts : List Tk) : ∀ h, EGood ts h ∧ SDone ts h
  | 0 => by
    refine ⟨?_, ?_⟩
    · intro lv t w ns e; cases e
    · intro t w ns e; cases e
  | h + 1 => by
    obtain ⟨g, s⟩ := all_good ts h
    exact ⟨eg_step g g.done s.body, sd_step g.done s.body⟩
end
end
section
/-! Written rows of tokens, and their reading. -/
open PySem PySem.Spec PyProof.Rows L2
open TL (numL tl_num numL_digits numL_ne numL_val numL_len numL_lt numL_step)
theorem drawn_tk {k a : List Nat} {v : V} (d : Drawn k v a) : tk a = (k, v) := by
  have h := (drawn_one (rest := []) d (.inl rfl)).1
  rw [List.append_nil] at h
  unfold tk
  rw [h]
/-- a token as it is written -/
def Tok (a : List Nat) : Prop := ∃ k v, Drawn k v a
theorem Tok.ne {a : List Nat} (h : Tok a) : a ≠ [] ∧ a.length ≤ 202 := by
  obtain ⟨k, v, d⟩ := h
  obtain ⟨_, c, r, e, _⟩ := drawn_one (rest := []) d (.inl rfl)
  exact ⟨by rw [e]; exact List.cons_ne_nil _ _, d.len.1⟩
theorem name_nm {a : List Nat} (h : IsName a) : isNm a := drawn_tk (.name h)
theorem name_tok {a : List Nat} (h : IsName a) : Tok a := ⟨_, _, .name h⟩
theorem wm_tok : ∀ a ∈ WM, Tok a := by
  have key : ∀ a ∈ WM, a ∈ WL ∨ a ∈ MLs := by decide +kernel
  intro a ha
  rcases key a ha with h | h
  · exact ⟨_, _, .word h⟩
  · exact ⟨_, _, .mark h⟩
/-- what is written of a row: three signs more for each token -/
def wt : Ws → Nat
  | [] => 0
  | a :: w => a.length + 3 + wt w
theorem wt_append : ∀ u v : Ws, wt (u ++ v) = wt u + wt v
  | [], v => by rw [List.nil_append]; show _ = 0 + _; omega
  | a :: u, v => by show a.length + 3 + wt (u ++ v) = a.length + 3 + wt u + wt v; rw [wt_append u v]; omega
theorem wt_len : ∀ w : Ws, 3 * w.length ≤ wt w
  | [] => Nat.le_refl _
  | a :: w => by have := wt_len w; rw [List.length_cons]; show _ ≤ a.length + 3 + wt w; omega
def dueOf (w : Ws) (ps : List Nat) : List Tk := List.zipWith (fun a p => ((tk a).1, (tk a).2, p)) w ps
theorem due_len {w : Ws} {ps : List Nat} (h : ps.length = w.length) : (dueOf w ps).length = w.length := by
  unfold dueOf
  rw [List.length_zipWith, h, Nat.min_self]
theorem seg_due : ∀ {w : Ws} {ps : List Nat} {pre post : List Tk}, ps.length = w.length → Seg (pre ++ dueOf w ps ++ post) pre.length w
  | [], _, _, _, _ => True.intro
  | a :: w, [], _, _, h => by cases h
  | a :: w, p :: ps, pre, post, h => by
    refine ⟨⟨p, ?_⟩, ?_⟩
    · rw [List.append_assoc, List.getElem?_append_right (Nat.le_refl _), Nat.sub_self]
      rfl
    · have := seg_due (w := w) (ps := ps) (pre := pre ++ [((tk a).1, (tk a).2, p)]) (post := post) (Nat.succ.inj h)
      rw [List.length_append] at this
      have e : pre ++ [((tk a).1, (tk a).2, p)] ++ dueOf w ps ++ post = pre ++ dueOf (a :: w) (p :: ps) ++ post := by
        rw [List.append_assoc pre]
        rfl
      rw [e] at this
      exact this
theorem seg_end {w : Ws} {ps : List Nat} {cs : List Nat} (h : ps.length = w.length) : Seg (endTks cs (dueOf w ps)) 0 w := by
  have := seg_due (w := w) (ps := ps) (pre := []) (post := [(cds "nothing", T [], cs.length)]) h
  exact this
theorem nx_end {w : Ws} {ps : List Nat} {cs : List Nat} (h : ps.length = w.length) : (endTks cs (dueOf w ps))[w.length]? = some (cds "nothing", T [], cs.length) := by
  unfold endTks
  rw [List.getElem?_append_right (by rw [due_len h]; exact Nat.le_refl _), due_len h, Nat.sub_self]
  rfl
theorem nx_end' {w : Ws} {ps : List Nat} {cs : List Nat} (h : ps.length = w.length) : Nx (endTks cs (dueOf w ps)) (0 + w.length) [] := by
  refine ⟨_, by rw [Nat.zero_add]; exact nx_end h, ?_⟩
  unfold fixT
  exact if_neg (show ¬ (cds "nothing" = cds "word" ∨ cds "nothing" = cds "mark") by decide +kernel)
/-- the whole text is an expression -/
theorem read_ex {lv : Nat} {t : Tr} {w : Ws} {ns : List Ws} {ps cs : List Nat} (e : Ex lv 11 t w ns) (hlv : 1 ≤ lv) (hp : ps.length = w.length) (hw : w.length ≤ 100000) :
    ∃ ds, ((exN (endTks cs (dueOf w ps)) 14).1 1 2 ⟨0, [], none⟩).bind (fun t S => (rTake (endTks cs (dueOf w ps)) (cds "nothing") S).bind fun _ S => .ok t S) = .ok t ⟨w.length + 1, ds, noteAll ns none⟩ := by
  obtain ⟨sg, _, _, _, h⟩ := EGood.done (all_good (endTks cs (dueOf w ps)) 11).1 e (n := 14) (p := 1) (d := 2) (i := 0) (ds := []) (tw := none) (z := []) (by decide) (Nat.le_refl _) hlv (by decide) (seg_end hp) (nx_end' hp) (by decide) (by show 0 + _ ≤ _; omega)
  refine ⟨[] ++ sg, ?_⟩
  have q := nx_end (cs := cs) hp
  rw [h, ok_bind, Nat.zero_add, take_ok q, ok_bind]
theorem note_nodup {l : Ws} (h : l.Nodup) : ∀ {t : Option (List Nat)} {i : Nat}, i ≤ l.length → twGo l t i = t
  | t, 0, _ => rfl
  | t, i + 1, hi => by
    show (if twGo l t i = none ∧ l.getD i [] ∈ l.take i then some (l.getD i []) else twGo l t i) = t
    rw [note_nodup h (t := t) (i := i) (by omega), if_neg]
    intro z
    have hlt : i < l.length := by omega
    have e : l.getD i [] = l[i] := by rw [List.getD_eq_getElem?_getD, List.getElem?_eq_getElem hlt]; rfl
    rw [e] at z
    obtain ⟨j, hj, ej⟩ := List.getElem_of_mem z.2
    rw [List.length_take] at hj
    rw [List.getElem_take] at ej
    have e1 := h.idxOf_getElem j (by omega)
    have e2 := h.idxOf_getElem i hlt
    rw [ej, e2] at e1
    omega
theorem noteAll_nodup : ∀ {ns : List Ws} {t : Option (List Nat)}, (∀ l ∈ ns, l.Nodup) → noteAll ns t = t
  | [], _, _ => rfl
  | l :: ns, t, h => by
    show noteAll ns (twGo l t l.length) = t
    rw [note_nodup (h l List.mem_cons_self) (Nat.le_refl _), noteAll_nodup fun x hx => h x (List.mem_cons_of_mem _ hx)]
end
section
open PySem PySem.Spec PyProof.Rows L2
mutual
theorem trd_mono : ∀ {t : Tr} {n m : Nat}, TrD n t → n ≤ m → TrD m t
  | .t l, n + 1, m, h, hm => by
    obtain ⟨m, rfl⟩ : ∃ k, m = k + 1 := ⟨m - 1, by omega⟩
    exact ⟨h.1, trds_mono h.2 (by omega)⟩
  | .t _, 0, _, h, _ => False.elim h
  | .s _, n, m, h, hm => by
    cases m with
    | zero => cases n with
      | zero => exact h
      | succ n => omega
    | succ m => exact True.intro
  | .i _, n, m, h, hm => by
    cases m with
    | zero => cases n with
      | zero => exact h
      | succ n => omega
    | succ m => exact True.intro
  | .b _, n, m, h, hm => by
    cases m with
    | zero => cases n with
      | zero => exact h
      | succ n => omega
    | succ m => exact True.intro
  | .n, n, m, h, hm => by
    cases m with
    | zero => cases n with
      | zero => exact h
      | succ n => omega
    | succ m => exact True.intro
theorem trds_mono : ∀ {l : List Tr} {n m : Nat}, (∀ t ∈ l, TrD n t) → n ≤ m → ∀ t ∈ l, TrD m t
  | [], _, _, _, _ => fun t ht => absurd ht List.not_mem_nil
  | x :: l, n, m, h, hm => fun t ht => by
    rcases List.mem_cons.mp ht with e | ht
    · rw [e]; exact trd_mono (h x List.mem_cons_self) hm
    · exact trds_mono (fun t ht => h t (List.mem_cons_of_mem _ ht)) hm t ht
end
/-- a tuple of few -/
theorem trd_t {n : Nat} {l : List Tr} (hl : l.length < 1000000) (h : ∀ t ∈ l, TrD n t) : TrD (n + 1) (.t l) := ⟨hl, h⟩
theorem trd_cons {n : Nat} {x : Tr} {l : List Tr} (h : TrD n x) (r : ∀ t ∈ l, TrD n t) : ∀ t ∈ x :: l, TrD n t := fun t ht => by
  rcases List.mem_cons.mp ht with e | ht
  · rw [e]; exact h
  · exact r t ht
theorem trd_nil {n : Nat} : ∀ t ∈ ([] : List Tr), TrD n t := fun t ht => absurd ht List.not_mem_nil
theorem trd_s {n : Nat} {a : List Nat} : TrD (n + 1) (.s a) := True.intro
theorem trd_plain {n : Nat} (v : V) : TrD (n + 1) (plainTr v) := by cases v <;> exact True.intro
theorem trd_names {n : Nat} {ps : Ws} (h : ps.length ≤ 900000) : TrD (n + 2) (.t (ps.map Tr.s)) := ⟨by rw [List.length_map]; omega, fun t ht => by
  obtain ⟨a, _, rfl⟩ := List.mem_map.mp ht
  exact True.intro⟩
def EDp (h : Nat) : Prop := ∀ {lv : Nat} {t : Tr} {w : Ws} {ns : List Ws}, Ex lv h t w ns → w.length ≤ 900000 → TrD (2 * h + 1) t
def SDp (h : Nat) : Prop := ∀ {t : Tr} {w : Ws} {ns : List Ws}, St h t w ns → w.length ≤ 900000 → TrD (2 * h + 1) t
theorem al_dep {h : Nat} (E : EDp h) : ∀ {l : List Tr} {w : Ws} {ns : List Ws}, Al h l w ns → w.length ≤ 900000 → ∀ t ∈ l, TrD (2 * h + 1) t
  | _, _, _, .nil, _ => trd_nil
  | _, _, _, .cons _ e r, hw => by
    rw [List.length_cons, List.length_append] at hw
    exact trd_cons (E e (by omega)) (al_dep E r (by omega))
theorem ar_dep {h : Nat} (E : EDp h) {l : List Tr} {w : Ws} {ns : List Ws} (a : Ar h l w ns) (hw : w.length ≤ 900000) : TrD (2 * h + 2) (.t l) := by
  cases a with
  | nil => exact trd_t (by show 0 < 1000000; decide) trd_nil
  | cons _ e r h7 =>
    rw [List.length_append] at hw
    exact trd_t (by rw [List.length_cons]; omega) (trd_cons (E e (by omega)) (al_dep E r (by omega)))
theorem bl_dep {h : Nat} (S : SDp h) : ∀ {l : List Tr} {w : Ws} {ns : List Ws}, Bl h l w ns → w.length ≤ 900000 → ∀ t ∈ l, TrD (2 * h + 1) t
  | _, _, _, .nil, _ => trd_nil
  | _, _, _, .cons e r, hw => by
    rw [List.length_cons, List.length_append] at hw
    exact trd_cons (S e (by omega)) (bl_dep S r (by omega))
theorem bd_dep {h : Nat} (S : SDp h) {l : List Tr} {w : Ws} {ns : List Ws} (a : Bd h l w ns) (hw : w.length ≤ 900000) : TrD (2 * h + 2) (.t l) := by
  cases a with
  | nil => exact trd_t (by show 0 < 1000000; decide) trd_nil
  | cons e r =>
    have := bl_len r
    rw [List.length_append] at hw
    exact trd_t (by rw [List.length_cons]; omega) (trd_cons (S e (by omega)) (bl_dep S r (by omega)))
theorem dep_step {h : Nat} (E : EDp h) (S : SDp h) : EDp (h + 1) ∧ SDp (h + 1) := by
  have two : 2 * (h + 1) + 1 = 2 * h + 2 + 1 := by omega
  refine ⟨?_, ?_⟩
  · intro lv t w ns e hw
    rw [two]
    cases e with
    | num _ => exact trd_t (by show 2 < 1000000; decide) (trd_cons trd_s (trd_cons True.intro trd_nil))
    | text _ => exact trd_t (by show 2 < 1000000; decide) (trd_cons trd_s (trd_cons True.intro trd_nil))
    | word _ => exact trd_t (by show 2 < 1000000; decide) (trd_cons trd_s (trd_cons (trd_plain _) trd_nil))
    | self => exact trd_t (by show 1 < 1000000; decide) (trd_cons trd_s trd_nil)
    | new _ => exact trd_t (by show 2 < 1000000; decide) (trd_cons trd_s (trd_cons True.intro trd_nil))
    | name _ => exact trd_t (by show 2 < 1000000; decide) (trd_cons trd_s (trd_cons True.intro trd_nil))
    | par _ e =>
      simp only [List.length_cons, List.length_append, List.length_nil] at hw
      exact trd_mono (E e (by omega)) (by omega)
    | neg _ e =>
      simp only [List.length_cons] at hw
      exact trd_t (by show 2 < 1000000; decide) (trd_cons trd_s (trd_cons (trd_mono (E e (by omega)) (by omega)) trd_nil))
    | not _ e =>
      simp only [List.length_cons] at hw
      exact trd_t (by show 2 < 1000000; decide) (trd_cons trd_s (trd_cons (trd_mono (E e (by omega)) (by omega)) trd_nil))
    | bin _ _ _ e1 _ e2 =>
      simp only [List.length_cons, List.length_append] at hw
      have d1 := trd_mono (E e1 (by omega)) (show 2 * h + 1 ≤ 2 * h + 2 by omega)
      have d2 := trd_mono (E e2 (by omega)) (show 2 * h + 1 ≤ 2 * h + 2 by omega)
      unfold binT
      split
      · exact trd_t (by show 3 < 1000000; decide) (trd_cons trd_s (trd_cons d1 (trd_cons d2 trd_nil)))
      · exact trd_t (by show 4 < 1000000; decide) (trd_cons trd_s (trd_cons trd_s (trd_cons d1 (trd_cons d2 trd_nil))))
    | send _ e _ a =>
      simp only [List.length_cons, List.length_append, List.length_nil] at hw
      exact trd_t (by show 4 < 1000000; decide) (trd_cons trd_s (trd_cons (trd_mono (E e (by omega)) (by omega)) (trd_cons trd_s (trd_cons (ar_dep E a (by omega)) trd_nil))))
    | sup _ a =>
      simp only [List.length_cons, List.length_append, List.length_nil] at hw
      exact trd_t (by show 3 < 1000000; decide) (trd_cons trd_s (trd_cons trd_s (trd_cons (ar_dep E a (by omega)) trd_nil)))
    | blk0 b =>
      simp only [List.length_cons, List.length_append, List.length_nil] at hw
      exact trd_t (by show 3 < 1000000; decide) (trd_cons trd_s (trd_cons (trd_mono (n := 1) (trd_t (by show 0 < 1000000; decide) trd_nil) (by omega)) (trd_cons (bd_dep S b (by omega)) trd_nil)))
    | blk _ h4 _ b =>
      simp only [List.length_cons, List.length_append, List.length_nil] at hw
      exact trd_t (by show 3 < 1000000; decide) (trd_cons trd_s (trd_cons (trd_mono (n := 2) (trd_names (n := 0) (by omega)) (by omega)) (trd_cons (bd_dep S b (by omega)) trd_nil)))
  · intro t w ns e hw
    rw [two]
    cases e with
    | eval _ e => exact trd_t (by show 2 < 1000000; decide) (trd_cons trd_s (trd_cons (trd_mono (E e hw) (by omega)) trd_nil))
    | set _ _ e =>
      simp only [List.length_cons] at hw
      exact trd_t (by show 3 < 1000000; decide) (trd_cons trd_s (trd_cons trd_s (trd_cons (trd_mono (E e (by omega)) (by omega)) trd_nil)))
    | gf _ _ e =>
      simp only [List.length_cons] at hw
      exact trd_t (by show 2 < 1000000; decide) (trd_cons trd_s (trd_cons (trd_mono (E e (by omega)) (by omega)) trd_nil))
    | whl _ e b =>
      simp only [List.length_cons, List.length_append, List.length_nil] at hw
      exact trd_t (by show 3 < 1000000; decide) (trd_cons trd_s (trd_cons (trd_mono (E e (by omega)) (by omega)) (trd_cons (bd_dep S b (by omega)) trd_nil)))
    | if0 _ e b =>
      simp only [List.length_cons, List.length_append, List.length_nil] at hw
      exact trd_t (by show 4 < 1000000; decide) (trd_cons trd_s (trd_cons (trd_mono (E e (by omega)) (by omega)) (trd_cons (bd_dep S b (by omega)) (trd_cons (trd_mono (n := 1) (trd_t (by show 0 < 1000000; decide) trd_nil) (by omega)) trd_nil))))
    | if1 _ e b c =>
      simp only [List.length_cons, List.length_append, List.length_nil] at hw
      exact trd_t (by show 4 < 1000000; decide) (trd_cons trd_s (trd_cons (trd_mono (E e (by omega)) (by omega)) (trd_cons (bd_dep S b (by omega)) (trd_cons (bd_dep S c (by omega)) trd_nil))))
    | try_ b _ c =>
      simp only [List.length_cons, List.length_append, List.length_nil] at hw
      exact trd_t (by show 4 < 1000000; decide) (trd_cons trd_s (trd_cons (bd_dep S b (by omega)) (trd_cons trd_s (trd_cons (bd_dep S c (by omega)) trd_nil))))
    | keep b c =>
      simp only [List.length_cons, List.length_append, List.length_nil] at hw
      exact trd_t (by show 3 < 1000000; decide) (trd_cons trd_s (trd_cons (bd_dep S b (by omega)) (trd_cons (bd_dep S c (by omega)) trd_nil)))
theorem all_dep : ∀ h, EDp h ∧ SDp h
  | 0 => by
    refine ⟨?_, ?_⟩
    · intro lv t w ns e _
      cases e
    · intro t w ns e _
      cases e
  | h + 1 => dep_step (all_dep h).1 (all_dep h).2
end
section
open PySem PySem.Spec PyProof.Rows L2
/-- no expression and no statement begins with the word var -/
def NV (w : Ws) : Prop := ∃ a r, w = a :: r ∧ fx a ≠ cds "var"
theorem NV.append {w v : Ws} (h : NV w) : NV (w ++ v) := by
  obtain ⟨a, r, rfl, h⟩ := h
  exact ⟨a, r ++ v, rfl, h⟩
theorem nv_wm {a : List Nat} {r : Ws} (h : a ∈ WM) (n : a ≠ cds "var") : NV (a :: r) := ⟨a, r, rfl, by rw [wm_fx a h]; exact n⟩
theorem nv_e {a : List Nat} {r : Ws} (h : fx a = []) : NV (a :: r) := ⟨a, r, rfl, by rw [h]; decide +kernel⟩
theorem ex_nv : ∀ {h lv : Nat} {t : Tr} {w : Ws} {ns : List Ws}, Ex lv h t w ns → NV w := by
  intro h
  induction h with
  | zero => intro lv t w ns e; cases e
  | succ h ih =>
    intro lv t w ns e
    cases e with
    | num q => exact nv_e (fx_kind q (by decide +kernel) (by decide +kernel))
    | text q => exact nv_e (fx_kind q (by decide +kernel) (by decide +kernel))
    | word q => rcases plain_cases q with rfl | rfl | rfl <;> exact nv_wm (by decide +kernel) (by decide +kernel)
    | self => exact nv_wm (by decide +kernel) (by decide +kernel)
    | new _ => exact nv_wm (by decide +kernel) (by decide +kernel)
    | name n => exact nv_e (nm_fx n)
    | par _ _ => exact nv_wm (by decide +kernel) (by decide +kernel)
    | neg _ _ => exact nv_wm (by decide +kernel) (by decide +kernel)
    | not _ _ => exact nv_wm (by decide +kernel) (by decide +kernel)
    | bin _ _ _ e1 _ _ => exact (ih e1).append
    | send _ e1 _ _ => exact (ih e1).append
    | sup _ _ => exact nv_wm (by decide +kernel) (by decide +kernel)
    | blk0 _ => exact nv_wm (by decide +kernel) (by decide +kernel)
    | blk _ _ _ _ => exact nv_wm (by decide +kernel) (by decide +kernel)
theorem st_nv {h : Nat} {t : Tr} {w : Ws} {ns : List Ws} (e : St h t w ns) : NV w := by
  cases e with
  | eval _ e => exact ex_nv e
  | set n _ e => exact nv_e (nm_fx n)
  | gf g _ e => rcases g with rfl | rfl <;> exact nv_wm (by decide +kernel) (by decide +kernel)
  | whl _ _ _ => exact nv_wm (by decide +kernel) (by decide +kernel)
  | if0 _ _ _ => exact nv_wm (by decide +kernel) (by decide +kernel)
  | if1 _ _ _ _ => exact nv_wm (by decide +kernel) (by decide +kernel)
  | try_ _ _ _ => exact nv_wm (by decide +kernel) (by decide +kernel)
  | keep _ _ => exact nv_wm (by decide +kernel) (by decide +kernel)
theorem bd_nv {h : Nat} {l : List Tr} {w : Ws} {ns : List Ws} (b : Bd h l w ns) : NV (w ++ [cds "end"]) := by
  cases b with
  | nil => exact nv_wm (by decide +kernel) (by decide +kernel)
  | cons e _ => exact (st_nv e).append.append
/-- a method's tokens and tree -/
def vWs (v : Ws) : Ws := if v = [] then [] else cds "var" :: (commas v ++ [cds ";"])
def mWs (a : List Nat) (p v w : Ws) : Ws := cds "method" :: a :: cds "(" :: (commas p ++ cds ")" :: (vWs v ++ (w ++ [cds "end"])))
def mTr (a : List Nat) (p v : Ws) (l : List Tr) : Tr := .t [str "method", .s a, .t (p.map Tr.s), .t (v.map Tr.s), .t l]
theorem meth3 {ts : List Tk} {a : List Nat} {p v w : Ws} {l : List Tr} {ns : List Ws} {i : Nat} {tw : Option (List Nat)} (b : Bd 12 l w ns) (hs : Seg ts i (w ++ [cds "end"])) (hl : w.length ≤ 199000) :
    ∃ sg, gMethod3 ts (exN ts 14).2 a p v ⟨i, [], tw⟩ = .ok (mTr a p v l) ⟨i + w.length + 1, sg, noteAll ((p ++ v) :: ns) tw⟩ := by
  obtain ⟨s1, s2⟩ := seg_append.mp hs
  have q := s2.nx
  rw [wm_fx _ (by decide +kernel)] at q
  obtain ⟨sg, _, _, h⟩ := SDone.body (all_good ts 12).2 b (n := 14) (d := 1) (i := i) (ms := [cds "end"