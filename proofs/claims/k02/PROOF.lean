import PyProof.Rows.All
import Wide.All
import OpenK.AllK
import Wide.FinOn
import HandS.ForMost
import HandS.StrMore
import HandS.IsInst
import HandS.Steps
import HandS.Evl
import HandS.Codes
import HandS.ForExc
import KE.KExcSuper
import KE.KExcIs
import HandS.ExcIs
import PySem.Challenge.RW_livestead_k02_any_text
set_option Elab.async false
set_option linter.all false
set_option maxRecDepth 100000
set_option maxHeartbeats 2000000
/-! Readings step by step: one lemma a construct, texts as lists of codes. -/
namespace Lv
open PySem PySem.Spec PyProof.Rows L2

/-- a text of these codes -/
abbrev T (cs : List Nat) : V := .str ⟨cs.toArray⟩
theorem T_eta (x : Str) : V.str x = T x.cps.toList := by
  show V.str x = V.str ⟨x.cps.toList.toArray⟩
  simp
theorem T_inj {a b : List Nat} (h : T a = T b) : a = b := by
  have h1 : (⟨a.toArray⟩ : Str) = ⟨b.toArray⟩ := V.str.inj h
  have h2 : a.toArray = b.toArray := Str.mk.inj h1
  exact congrArg Array.toList h2
theorem T_iff {a b : List Nat} : T a = T b ↔ a = b := ⟨T_inj, fun h => by rw [h]⟩
theorem len_T (a : List Nat) : (⟨a.toArray⟩ : Str).length = a.length := by
  show a.toArray.size = a.length
  simp

def NewL (xs : List V) (H : Hp) (Q : VK) : Prop := xs.length ≤ sizeLine ∧ ∀ p, H p = none → Q (.ref p) (upd H p (.lst xs))
def NewT (xs : List V) (H : Hp) (Q : VK) : Prop := xs.length ≤ sizeLine ∧ ∀ p, H p = none → Q (.ref p) (upd H p (.tup xs))
section
variable {σ : L2.St} {H : Hp} {Q : VK} {D : Ends} {i : Nat} {v x y : V} {ta tb te : TE} {t u : TS} {g : TG} {r : R2} {K : PySem.W.Frag}
theorem w_var (h : σ[i]? = some (some v)) (k : Q v H) : tVar i σ H Q := ⟨v, h, k⟩
theorem w_c (k : Q v H) : tC v σ H Q := k
theorem w_cT {cs : List Nat} (k : Q (T cs) H) : tC (T cs) σ H Q := k
theorem ex_int {a : Int} {G : Int → Prop} (k : G a) : ∃ i, V.int a = V.int i ∧ G i := ⟨a, rfl, k⟩
theorem ex_bl {a : Bool} {G : Bool → Prop} (k : G a) : ∃ i, V.bl a = V.bl i ∧ G i := ⟨a, rfl, k⟩
theorem w_str {x : Str} (k : Q (T x.cps.toList) H) : tC (.str x) σ H Q := by
  show Q (.str x) H
  rw [T_eta]
  exact k
theorem w_seq (k : t { D with nx := u D } σ H) : tSeq t u D σ H := k
theorem w_next (k : D.nx σ H) : tNext D σ H := k
theorem w_asg (k : te σ H fun x H1 => g x σ H1 D.nx) : tAsg te g D σ H := k
theorem w_gname {G : L2.St → Hp → Prop} (k : G (σ.set i (some v)) H) : gName i v σ H G := k
theorem w_drop (k : te σ H fun _ H1 => D.nx σ H1) : tDrop te D σ H := k
theorem w_ret (k : te σ H D.rt) : tRet te D σ H := k
theorem w_retN (k : D.rt .non H) : tRetN D σ H := k
theorem w_op (k : ta σ H fun x H1 => tb σ H1 fun y H2 => r x y H2 Q) : tOp r ta tb σ H Q := k
theorem w_un {r : V → Hp → VK → Prop} (k : ta σ H fun x H1 => r x H1 Q) : tUn r ta σ H Q := k
theorem w_i0 {f : Int → Int → V} {a b : Int} (k : Q (f a b) H) : rI0 f (.int a) (.int b) H Q := ⟨a, b, rfl, rfl, k⟩
theorem w_i {C : Int → Int → Prop} {f : Int → Int → V} {a b : Int} (c : C a b) (k : Q (f a b) H) : rI C f (.int a) (.int b) H Q := ⟨a, b, rfl, rfl, c, k⟩
theorem w_mulR {f : Int → Int → V} {a b : Int} (c : -(2 ^ 64) < b ∧ b < 2 ^ 64) (k : Q (f a b) H) : rI CMul f (.int a) (.int b) H Q := ⟨a, b, rfl, rfl, .inr c, k⟩
theorem w_mulL {f : Int → Int → V} {a b : Int} (c : -(2 ^ 64) < a ∧ a < 2 ^ 64) (k : Q (f a b) H) : rI CMul f (.int a) (.int b) H Q := ⟨a, b, rfl, rfl, .inl c, k⟩
theorem w_ifS {c : TT} (k : c σ H fun b H1 => if b = true then t D σ H1 else u D σ H1) : tIfS c t u D σ H := k
theorem w_test {G : Bool → Hp → Prop} (k : te σ H fun x H' => ∃ b, x = .bl b ∧ G b H') : tTest te σ H G := k
theorem w_tB {G : Bool → Hp → Prop} (k : te σ H fun x H' => ∃ b, x = .bl b ∧ G b H') : tB te σ H G := k
theorem w_and {t u : TT} {G : Bool → Hp → Prop} (k : t σ H fun c H1 => if c = true then u σ H1 G else G false H1) : tAnd t u σ H G := k
theorem w_or {t u : TT} {G : Bool → Hp → Prop} (k : t σ H fun c H1 => if c = true then G true H1 else u σ H1 G) : tOr t u σ H G := k
theorem w_not {t : TT} {G : Bool → Hp → Prop} (k : t σ H fun c H1 => G (!c) H1) : tNot t σ H G := k
theorem w_andV (k : ta σ H fun x H1 => ∃ c, x = .bl c ∧ if c = true then tb σ H1 Q else Q (.bl false) H1) : tAndV ta tb σ H Q := k
theorem w_orV (k : ta σ H fun x H1 => ∃ c, x = .bl c ∧ if c = true then Q (.bl true) H1 else tb σ H1 Q) : tOrV ta tb σ H Q := k
theorem w_notV (k : ta σ H fun x H1 => ∃ c, x = .bl c ∧ Q (.bl (!c)) H1) : tNotV ta σ H Q := k
theorem w_eq (s : scal x y = true) (k : Q (.bl (decide (x = y))) H) : rEq x y H Q := ⟨s, k⟩
theorem w_ne (s : scal x y = true) (k : Q (.bl (!decide (x = y))) H) : rNe x y H Q := ⟨s, k⟩
theorem w_call {sp : Sp} {dvs : List V} {E : XK} {t : TA} (k : t σ H fun vs H1 => sp (vs ++ dvs) H1 Q E) : tCall sp dvs E t σ H Q := k
theorem w_cb {r : List V → Hp → VK → Prop} {t : TA} (k : t σ H fun vs H1 => r vs H1 Q) : tCB r t σ H Q := k
theorem w_nil {G : List V → Hp → Prop} (k : G [] H) : tNil σ H G := k
theorem w_cons {tr : TA} {G : List V → Hp → Prop} (k : ta σ H fun x H1 => tr σ H1 fun xs H2 => G (x :: xs) H2) : tCons ta tr σ H G := k
theorem w_tup {t : TA} (k : t σ H fun xs H1 => NewT xs H1 Q) : tTup t σ H Q := k
theorem w_lst {t : TA} (k : t σ H fun xs H1 => NewL xs H1 Q) : tLst t σ H Q := k
theorem w_sl {r : V → Option Int → Option Int → Hp → VK → Prop} {tl th : TO} (k : te σ H fun x H1 => tl σ H1 fun l H2 => th σ H2 fun u H3 => r x l u H3 Q) : tSl r te tl th σ H Q := k
theorem w_part {G : Option Int → Hp → Prop} (k : te σ H fun x H1 => ∃ i, x = .int i ∧ G (some i) H1) : tPart te σ H G := k
theorem w_nopart {G : Option Int → Hp → Prop} (k : G none H) : tNoPart σ H G := k
theorem w_gsub {to ti : TE} {t : TSet} {G : L2.St → Hp → Prop} (k : to σ H fun o H1 => ti σ H1 fun i H2 => t o i v H2 fun H3 => G σ H3) : gSub to ti t v σ H G := k
theorem w_bm {Ty : String} {r : V → List V → Hp → VK → Prop} {to : TE} {t : TA} (k : to σ H fun x H1 => tyV K Ty x H1 ∧ t σ H1 fun xs H2 => r x xs H2 Q) : tBM K Ty r to t σ H Q := k
theorem w_bm0 {Ty : String} {r : V → List V → Hp → VK → Prop} {to : TE} (k : to σ H fun x H1 => tyV K Ty x H1 ∧ r x [] H1 Q) : tBM0 K Ty r to σ H Q := k
theorem w_aug {ti : TIp} (h : σ[i]? = some (some x)) (k : te σ H fun y H1 => ti x y H1 fun z H2 => D.nx (σ.set i (some z)) H2) : tAug i te ti D σ H := ⟨x, h, k⟩
theorem w_ifE {c : TT} (k : c σ H fun b H1 => if b = true then ta σ H1 Q else tb σ H1 Q) : tIf c ta tb σ H Q := k

/-! tests -/
theorem w_if {p A B : Prop} [Decidable p] (h1 : p → A) (h2 : ¬ p → B) : if decide p = true then A else B := by
  by_cases h : p
  · rw [if_pos (decide_eq_true h)]; exact h1 h
  · rw [if_neg (by simp [h])]; exact h2 h
theorem w_ifn {p A B : Prop} [Decidable p] (h1 : ¬ p → A) (h2 : p → B) : if (!decide p) = true then A else B := by
  by_cases h : p
  · rw [if_neg (by simp [h])]; exact h2 h
  · rw [if_pos (by simp [h])]; exact h1 h
theorem w_ifI {a b : Int} {A B : Prop} (h1 : a = b → A) (h2 : a ≠ b → B) : if decide (V.int a = V.int b) = true then A else B :=
  w_if (fun h => h1 (V.int.inj h)) fun h => h2 fun e => h (by rw [e])
theorem w_ifT {a b : List Nat} {A B : Prop} (h1 : a = b → A) (h2 : a ≠ b → B) : if decide (T a = T b) = true then A else B :=
  w_if (fun h => h1 (T_inj h)) fun h => h2 fun e => h (by rw [e])
theorem w_ifIn {a b : Int} {A B : Prop} (h1 : a ≠ b → A) (h2 : a = b → B) : if (!decide (V.int a = V.int b)) = true then A else B :=
  w_ifn (fun h => h1 fun e => h (by rw [e])) fun h => h2 (V.int.inj h)
theorem w_ifTn {a b : List Nat} {A B : Prop} (h1 : a ≠ b → A) (h2 : a = b → B) : if (!decide (T a = T b)) = true then A else B :=
  w_ifn (fun h => h1 fun e => h (by rw [e])) fun h => h2 (T_inj h)
theorem w_nt {A B : Prop} (h : B) : if (!true) = true then A else B := by
  show if false = true then A else B
  exact L2.iteF h
theorem w_nf {A B : Prop} (h : A) : if (!false) = true then A else B := by
  show if true = true then A else B
  exact L2.iteT h
theorem w_ifb {b : Bool} {A B : Prop} (h1 : b = true → A) (h2 : b = false → B) : if b = true then A else B := by
  cases b with
  | true => rw [if_pos rfl]; exact h1 rfl
  | false => rw [if_neg Bool.false_ne_true]; exact h2 rfl

/-! texts -/
def rAddS : R2 := fun x y H Q => ∃ i j, x = .str i ∧ y = .str j ∧ i.length + j.length ≤ sizeLine ∧ Q (.str (i ++ j)) H
theorem op_addS {X : Cx} : OpR X (binaryOp .Add) rAddS := op_add_str
theorem w_addS {a b : List Nat} (z : a.length + b.length ≤ 1000000) (k : Q (T (a ++ b)) H) : rAddS (T a) (T b) H Q := by
  refine ⟨_, _, rfl, rfl, ?_, ?_⟩
  · rw [len_T, len_T]
    exact Nat.le_trans z (by decide)
  · have e : (⟨a.toArray⟩ : Str) ++ ⟨b.toArray⟩ = ⟨(a ++ b).toArray⟩ := by
      show (⟨a.toArray ++ b.toArray⟩ : Str) = _
      simp
    rw [e]
    exact k
def rMulS : R2 := fun x y H Q => ∃ z n, x = .str z ∧ y = .int n ∧ -(2 ^ 63) ≤ n ∧ n < 1000000 ∧ z.length * n.toNat ≤ 1000000 ∧ Q (T (List.replicate n.toNat z.cps.toList).flatten) H
theorem foldl_rep (c : Array Nat) : ∀ (n : Nat) (acc : Array Nat), (List.replicate n c).foldl (· ++ ·) acc = acc ++ (List.replicate n c.toList).flatten.toArray
  | 0, acc => by simp
  | n + 1, acc => by
    rw [List.replicate_succ, List.foldl_cons, foldl_rep c n, List.replicate_succ, List.flatten_cons]
    apply Array.ext'
    simp
theorem op_mulS {X : Cx} : OpR X (binaryOp .Mult) rMulS := by
  intro pins s σ H x y v u Q I rx ry h
  obtain ⟨z, n, rfl, rfl, h1, h2, h3, q⟩ := h
  obtain ⟨t, rfl⟩ := rx
  obtain ⟨t', rfl⟩ := ry
  refine P.mul_str ?_ ?_ ?_ ?_
  · rw [decide_eq_false (by omega), decide_eq_false (by omega)]; rfl
  · intro hn _ hc
    have hz : z.length ≤ 1000000 := by
      have : z.length * 1 ≤ z.length * n.toNat := Nat.mul_le_mul_left _ (by omega)
      omega
    have : (2 ^ 63 - 1 : Int) / n ≥ 9000000000000 := by
      refine (Int.le_ediv_iff_mul_le (by omega)).mpr ?_
      omega
    omega
  · intro hn _
    show decide (sizeLine < z.length * n.toNat) = false
    refine decide_eq_false ?_
    rw [sizeLine_eq]
    omega
  · by_cases hn : n < 1
    · rw [if_pos hn]
      have e : (List.replicate n.toNat z.cps.toList).flatten = [] := by
        rw [show n.toNat = 0 by omega]; rfl
      rw [e] at q
      exact ⟨by decide, T [], H, I.tok _, ⟨_, rfl⟩, q⟩
    · rw [if_neg hn]
      by_cases hc : (n == 1 || z.length == 0) = true
      · rw [if_pos hc]
        have e : (List.replicate n.toNat z.cps.toList).flatten = z.cps.toList := by
          rw [Bool.or_eq_true] at hc
          rcases hc with hc | hc
          · have : n = 1 := by simpa using hc
            subst this
            simp
          · have hz : z.cps.size = 0 := (beq_iff_eq.mp hc : z.length = 0)
            have : z.cps.toList = [] := by
              rw [← List.length_eq_zero_iff]; simpa using hz
            rw [this]; simp
        rw [e, ← T_eta] at q
        exact ⟨.str z, H, I, ⟨_, rfl⟩, q⟩
      · rw [if_neg hc]
        have e : (⟨(List.replicate n.toNat z.cps).foldl (· ++ ·) #[]⟩ : Str) = ⟨((List.replicate n.toNat z.cps.toList).flatten).toArray⟩ := by
          rw [foldl_rep]; simp
        rw [e]
        refine ⟨?_, T _, H, I.tok _, ⟨_, rfl⟩, q⟩
        rw [len_T]
        have : (List.replicate n.toNat z.cps.toList).flatten.length = n.toNat * z.cps.size := by simp
        rw [this, Nat.mul_comm]
        exact Nat.le_trans h3 (by rw [sizeLine_eq]; omega)
theorem w_mulS {a : List Nat} {n : Int} (h1 : -(2 ^ 63) ≤ n) (h2 : n < 1000000) (h3 : a.length * n.toNat ≤ 1000000) (k : Q (T (List.replicate n.toNat a).flatten) H) : rMulS (T a) (.int n) H Q :=
  ⟨_, n, rfl, rfl, h1, h2, by rw [len_T]; exact h3, k⟩
theorem w_ixS {a : List Nat} {j : Int} {c : Nat} (z : a.length ≤ 1000000) (h : atI a j = some c) (k : Q (T [c]) H) : rIxS (T a) (.int j) H Q :=
  ⟨_, j, c, rfl, rfl, by rw [len_T]; exact Nat.le_trans z (by decide), h, k⟩
def cut (a : List Nat) (lo hi : Option Int) : List Nat := (a.drop (HT.sIx a.length 0 lo)).take (HT.sIx a.length a.length hi - HT.sIx a.length 0 lo)
theorem w_slS {a : List Nat} {lo hi : Option Int} (z : a.length ≤ 1000000) (k : Q (T (cut a lo hi)) H) : rSlS (T a) lo hi H Q := by
  refine ⟨_, rfl, by rw [len_T]; exact Nat.le_trans z (by decide), ?_⟩
  have e : cutS ⟨a.toArray⟩ lo hi = ⟨(cut a lo hi).toArray⟩ := by
    unfold cutS cut
    rw [len_T]
  rw [e]
  exact k
def rLenS : List V → Hp → VK → Prop := fun xs H Q => ∃ z, xs = [.str z] ∧ z.length ≤ sizeLine ∧ Q (.int z.length) H
theorem call_lenS {X : Cx} : CallR X (.builtin "len") rLenS := call_len_str
theorem w_lenS {a : List Nat} (z : a.length ≤ 1000000) (k : Q (.int (a.length : Int)) H) : rLenS [T a] H Q :=
  ⟨_, rfl, by rw [len_T]; exact Nat.le_trans z (by decide), by rw [len_T]; exact k⟩
def rLenL (K : PySem.W.Frag) : List V → Hp → VK → Prop := fun xs H Q => ∃ p ys, xs = [.ref p] ∧ (SqL K H p ys ∨ SqT K H p ys) ∧ Q (.int ys.length) H
theorem call_lenL {X : Cx} : CallR X (.builtin "len") (rLenL X.K) := call_len_seq
theorem w_lenL {p : Addr} {ys : List V} (h : SqL K H p ys) (k : Q (.int (ys.length : Int)) H) : rLenL K [.ref p] H Q := ⟨p, ys, rfl, .inl h, k⟩
theorem w_lenT {p : Addr} {ys : List V} (h : SqT K H p ys) (k : Q (.int (ys.length : Int)) H) : rLenL K [.ref p] H Q := ⟨p, ys, rfl, .inr h, k⟩
def rInt1 : List V → Hp → VK → Prop := fun xs H Q => (∃ i, xs = [.int i] ∧ Q (.int i) H) ∨ ∃ k, xs = [.bl k] ∧ Q (.int (if k then 1 else 0)) H
theorem call_intI {X : Cx} : CallR X (.type "int") rInt1 := call_int1
theorem w_intI {a : Int} (k : Q (.int a) H) : rInt1 [.int a] H Q := .inl ⟨a, rfl, k⟩
theorem w_intB {b : Bool} (k : Q (.int (if b then 1 else 0)) H) : rInt1 [.bl b] H Q := .inr ⟨b, rfl, k⟩
def rIntS : List V → Hp → VK → Prop := fun xs H Q => ∃ a n, xs = [.str a] ∧ PySem.intText? a = some n ∧ a.length ≤ 640 ∧ Q (.int n) H
theorem call_intS {X : Cx} : CallR X (.type "int") rIntS := call_int_str
theorem w_intS {a : List Nat} {n : Int} (h : PySem.intText? ⟨a.toArray⟩ = some n) (z : a.length ≤ 640) (k : Q (.int n) H) : rIntS [T a] H Q := ⟨_, n, rfl, h, by rw [len_T]; exact z, k⟩
def rMax2 : List V → Hp → VK → Prop := fun xs H Q => ∃ i j, xs = [.int i, .int j] ∧ Q (.int (if j > i then j else i)) H
theorem call_maxI {X : Cx} (hc : X.calm = true) : CallR X (.builtin "max") rMax2 := call_max2 hc
theorem w_max {a b : Int} (k : Q (.int (if b > a then b else a)) H) : rMax2 [.int a, .int b] H Q := ⟨a, b, rfl, k⟩
def rStrI : List V → Hp → VK → Prop := fun xs H Q => ∃ i : Int, xs = [.int i] ∧ i.natAbs.log2 < 1920 ∧ Q (.str (toString i)) H
theorem call_strI {X : Cx} : CallR X (.type "str") rStrI := call_str_int
def rListOf (K : PySem.W.Frag) : List V → Hp → VK → Prop := fun xs H Q => ∃ p ys, xs = [.ref p] ∧ (SqL K H p ys ∨ SqT K H p ys) ∧ ∀ l, H l = none → Q (.ref l) (upd H l (.lst ys))
theorem call_listOf {X : Cx} : CallR X (.type "list") (rListOf X.K) := call_list_of
theorem w_listOf {p : Addr} {ys : List V} (h : SqL K H p ys) (k : ∀ l, H l = none → Q (.ref l) (upd H l (.lst ys))) : rListOf K [.ref p] H Q := ⟨p, ys, rfl, .inl h, k⟩
def rOrd : List V → Hp → VK → Prop := fun xs H Q => ∃ x, xs = [.str x] ∧ x.length = 1 ∧ Q (.int (x.cps.getD 0 0 : Nat)) H
theorem call_ordS {X : Cx} : CallR X (.builtin "ord") rOrd := call_ord
theorem w_ord {c : Nat} (k : Q (.int (c : Int)) H) : rOrd [T [c]] H Q := ⟨_, rfl, rfl, k⟩
/-- a text within a text: one sign -/
def rInC : R2 := fun x y H Q => ∃ (c : Nat) (z : Str), x = .str ⟨#[c]⟩ ∧ y = .str z ∧ Q (.bl (decide (c ∈ z.cps.toList))) H
theorem op_inC {X : Cx} : OpR X (compareOp .In) rInC := op_in_sign
theorem w_inC {c : Nat} {a : List Nat} (k : Q (.bl (decide (c ∈ a))) H) : rInC (T [c]) (T a) H Q := ⟨c, _, rfl, rfl, k⟩
def rNinC : R2 := fun x y H Q => ∃ (c : Nat) (z : Str), x = .str ⟨#[c]⟩ ∧ y = .str z ∧ Q (.bl (!decide (c ∈ z.cps.toList))) H
theorem op_ninC {X : Cx} : OpR X (compareOp .NotIn) rNinC := op_notIn_sign
theorem w_ninC {c : Nat} {a : List Nat} (k : Q (.bl (!decide (c ∈ a))) H) : rNinC (T [c]) (T a) H Q := ⟨c, _, rfl, rfl, k⟩
/-- a text among texts -/
theorem eqV_T (a b : List Nat) : eqV (T a) (T b) = decide (a = b) := by
  show ((⟨a.toArray⟩ : Str) == ⟨b.toArray⟩) = _
  by_cases h : a = b
  · subst h; simp
  · rw [decide_eq_false h]
    exact beq_eq_false_iff_ne.mpr fun e => h (T_inj (congrArg V.str e))
theorem inV_T (a : List Nat) (l : List (List Nat)) : inV (T a) (l.map T) = decide (a ∈ l) := by
  induction l with
  | nil => rfl
  | cons b l ih =>
    unfold inV at *
    rw [List.map_cons, List.any_cons, ih, eqV_T]
    by_cases h : b = a
    · subst h; simp
    · have h2 : ¬ a = b := fun e => h e.symm
      simp [h, h2]
theorem flat_T (l : List (List Nat)) : (l.map T).all flatV = true := by
  induction l with
  | nil => rfl
  | cons b l ih => rw [List.map_cons, List.all_cons, ih]; rfl
theorem w_inL {a : List Nat} {p : Addr} {l : List (List Nat)} (h : SqL K H p (l.map T)) (k : Q (.bl (decide (a ∈ l))) H) : rIn K false (T a) (.ref p) H Q :=
  ⟨p, _, rfl, .inl h, rfl, flat_T l, by rw [if_neg Bool.false_ne_true, inV_T]; exact k⟩
theorem w_inT {a : List Nat} {p : Addr} {l : List (List Nat)} (h : SqT K H p (l.map T)) (k : Q (.bl (decide (a ∈ l))) H) : rIn K false (T a) (.ref p) H Q :=
  ⟨p, _, rfl, .inr h, rfl, flat_T l, by rw [if_neg Bool.false_ne_true, inV_T]; exact k⟩
/-- lists and tuples at places -/
theorem w_ixL {p : Addr} {xs : List V} {j : Int} (h : SqL K H p xs) (e : atI xs j = some v) (k : Q v H) : rIxL K (.ref p) (.int j) H Q := ⟨p, xs, j, v, rfl, rfl, h, e, k⟩
theorem w_ixT {p : Addr} {xs : List V} {j : Int} (h : SqT K H p xs) (e : atI xs j = some v) (k : Q v H) : rIxT K (.ref p) (.int j) H Q := ⟨p, xs, j, v, rfl, rfl, h, e, k⟩
theorem w_setL {p : Addr} {xs : List V} {j : Int} {n : Nat} {G : Hp → Prop} (h : H p = some (.lst xs)) (e : ixN xs.length j = some n) (k : G (upd H p (.lst (xs.set n v)))) : rSetL (.ref p) (.int j) v H G := ⟨p, xs, j, n, rfl, rfl, h, e, k⟩
theorem w_append {p : Addr} {xs : List V} (h : H p = some (.lst xs)) (z : xs.length ≤ 1000000) (k : Q .non (upd H p (.lst (xs ++ [y])))) : rAppend (.ref p) [y] H Q :=
  ⟨p, xs, y, rfl, rfl, h, Nat.lt_of_le_of_lt z (by decide), k⟩
theorem w_cat {p q : Addr} {xs ys : List V} (hp : H p = some (.lst xs)) (hq : H q = some (.lst ys)) (z : xs.length + ys.length ≤ 1000000) (k : ∀ a, H a = none → Q (.ref a) (upd H a (.lst (xs ++ ys)))) : rCat (.ref p) (.ref q) H Q :=
  ⟨p, q, xs, ys, rfl, rfl, hp, hq, Nat.le_trans z (by decide), k⟩
theorem tyL {p : Addr} {xs : List V} (h : SqL K H p xs) : tyV K "list" (.ref p) H := .inl ⟨rfl, xs, h⟩
theorem tyS {a : List Nat} : tyV K "str" (T a) H := rfl
end

/-! new objects, the heap a letter -/
theorem same_new0 {p : Addr} {H : Hp} {o : HO} (h : H p = none) : Same H (upd H p o) := fun b u e => by
  rw [upd_ne (ne_of_none e h)]; exact e
section
variable {H : Hp} {Q : VK} {xs ys : List V} {K : PySem.W.Frag}
theorem w_newL (z : xs.length ≤ 1000000) (k : ∀ p H1, H p = none → Same H H1 → H1 p = some (.lst xs) → Q (.ref p) H1) : NewL xs H Q :=
  ⟨Nat.le_trans z (by decide), fun p hp => k p _ hp (same_new0 hp) upd_same⟩
theorem w_newT (z : xs.length ≤ 1000000) (k : ∀ p H1, H p = none → Same H H1 → H1 p = some (.tup xs) → Q (.ref p) H1) : NewT xs H Q :=
  ⟨Nat.le_trans z (by decide), fun p hp => k p _ hp (same_new0 hp) upd_same⟩
theorem w_cat2 {p q : Addr} (hp : H p = some (.lst xs)) (hq : H q = some (.lst ys)) (z : xs.length + ys.length ≤ 1000000) (k : ∀ a H1, H a = none → Same H H1 → H1 a = some (.lst (xs ++ ys)) → Q (.ref a) H1) : rCat (.ref p) (.ref q) H Q :=
  w_cat hp hq z fun a ha => k a _ ha (same_new0 ha) upd_same
theorem w_list2 {p : Addr} (h : SqL K H p ys) (k : ∀ l H1, H l = none → Same H H1 → H1 l = some (.lst ys) → Q (.ref l) H1) : rListOf K [.ref p] H Q := w_listOf h fun l hl => k l _ hl (same_new0 hl) upd_same
theorem w_app2 {p : Addr} {y : V} (h : H p = some (.lst xs)) (z : xs.length ≤ 1000000) (k : ∀ H1, H1 p = some (.lst (xs ++ [y])) → (∀ b o, b ≠ p → H b = some o → H1 b = some o) → Q .non H1) : rAppend (.ref p) [y] H Q :=
  w_append h z (k _ upd_same fun b o n e => by rw [upd_ne n]; exact e)
end

/-! loops -/
def ForR (g : TG) (tb : TS) (vs : List V) (D : Ends) (σ : L2.St) (H : Hp) : Prop := ∃ j : Int, vs = [.int j] ∧ -(2 ^ 62) ≤ j ∧ j < 2 ^ 62 ∧ ∃ W : Nat → Nat → L2.St → Hp → Prop, (∃ m, W 0 m σ H) ∧ ∀ i m σ H, W i m σ H →
  ((Itr 0 j.toNat).stop i H ∧ D.nx σ H) ∨ ((Itr 0 j.toNat).go i H ∧ ∃ N : L2.St → Hp → Prop, (∀ σ' H', N σ' H' → ∃ m', m' < m ∧ W (i + 1) m' σ' H') ∧ ∀ x H', (Itr 0 j.toNat).yld i H x H' → g x σ H' fun σ2 H2 => tb { D with nx := N, ct := N, bk := D.nx } σ2 H2)
def ForL (K : PySem.W.Frag) (g : TG) (tb : TS) (x : V) (D : Ends) (σ : L2.St) (H : Hp) : Prop := ∃ a, x = .ref a ∧ (∃ xs, SqL K H a xs) ∧ ∃ W : Nat → Nat → L2.St → Hp → Prop, (∃ m, W 0 m σ H) ∧ ∀ i m σ H, W i m σ H →
  ((Itl K a).stop i H ∧ D.nx σ H) ∨ ((Itl K a).go i H ∧ ∃ N : L2.St → Hp → Prop, (∀ σ' H', N σ' H' → ∃ m', m' < m ∧ W (i + 1) m' σ' H') ∧ ∀ x H', (Itl K a).yld i H x H' → g x σ H' fun σ2 H2 => tb { D with nx := N, ct := N, bk := D.nx } σ2 H2)
def ForT (K : PySem.W.Frag) (g : TG) (tb : TS) (x : V) (D : Ends) (σ : L2.St) (H : Hp) : Prop := ∃ a, x = .ref a ∧ (∃ xs, SqT K H a xs) ∧ ∃ W : Nat → Nat → L2.St → Hp → Prop, (∃ m, W 0 m σ H) ∧ ∀ i m σ H, W i m σ H →
  ((Itt K a).stop i H ∧ D.nx σ H) ∨ ((Itt K a).go i H ∧ ∃ N : L2.St → Hp → Prop, (∀ σ' H', N σ' H' → ∃ m', m' < m ∧ W (i + 1) m' σ' H') ∧ ∀ x H', (Itt K a).yld i H x H' → g x σ H' fun σ2 H2 => tb { D with nx := N, ct := N, bk := D.nx } σ2 H2)
def ForS (g : TG) (tb : TS) (x : V) (D : Ends) (σ : L2.St) (H : Hp) : Prop := ∃ z, x = .str z ∧ ∃ W : Nat → Nat → L2.St → Hp → Prop, (∃ m, W 0 m σ H) ∧ ∀ i m σ H, W i m σ H →
  ((Its z).stop i H ∧ D.nx σ H) ∨ ((Its z).go i H ∧ ∃ N : L2.St → Hp → Prop, (∀ σ' H', N σ' H' → ∃ m', m' < m ∧ W (i + 1) m' σ' H') ∧ ∀ x H', (Its z).yld i H x H' → g x σ H' fun σ2 H2 => tb { D with nx := N, ct := N, bk := D.nx } σ2 H2)
section
variable {σ : L2.St} {H : Hp} {D : Ends} {ta : TA} {te : TE} {g : TG} {tb : TS} {K : PySem.W.Frag}
theorem w_forR (k : ta σ H fun vs H1 => ForR g tb vs D σ H1) : tFor (iRng1 ta) g tb D σ H := k
theorem w_forL (k : te σ H fun x H1 => ForL K g tb x D σ H1) : tFor (iList K te) g tb D σ H := k
theorem w_forT (k : te σ H fun x H1 => ForT K g tb x D σ H1) : tFor (iTup K te) g tb D σ H := k
theorem w_forS (k : te σ H fun x H1 => ForS g tb x D σ H1) : tFor (iStr te) g tb D σ H := k
/-- what holds ahead of turn i; a turn; the end -/
theorem for_R {j : Int} (Pv : Nat → L2.St → Hp → Prop) (b0 : 0 ≤ j) (b1 : j < 1000000) (h0 : Pv 0 σ H) (hs : ∀ (i : Nat) σ H, (i : Int) < j → Pv i σ H → g (.int (0 + (i : Int))) σ H fun σ2 H2 => tb { D with nx := Pv (i + 1), ct := Pv (i + 1), bk := D.nx } σ2 H2)
    (hd : ∀ σ H, Pv j.toNat σ H → D.nx σ H) : ForR g tb [.int j] D σ H :=
  ⟨j, rfl, by omega, by omega, for_range (lo := 0) (n := j.toNat) Pv h0 (fun i σ H hi p => hs i σ H (by omega) p) hd⟩
theorem for_L {a : Addr} {xs : List V} (Pv : Nat → L2.St → Hp → Prop) (h0 : Pv 0 σ H) (hl : ∀ i σ H, i ≤ xs.length → Pv i σ H → SqL K H a xs) (hs : ∀ i x σ H, xs[i]? = some x → Pv i σ H → g x σ H fun σ2 H2 => tb { D with nx := Pv (i + 1), ct := Pv (i + 1), bk := D.nx } σ2 H2)
    (hd : ∀ σ H, Pv xs.length σ H → D.nx σ H) : ForL K g tb (.ref a) D σ H :=
  ⟨a, rfl, ⟨xs, hl 0 σ H (Nat.zero_le _) h0⟩, for_list (xs := xs) Pv h0 hl hs hd⟩
theorem for_T {a : Addr} {xs : List V} (Pv : Nat → L2.St → Hp → Prop) (h0 : Pv 0 σ H) (hl : ∀ i σ H, i ≤ xs.length → Pv i σ H → SqT K H a xs) (hs : ∀ i x σ H, xs[i]? = some x → Pv i σ H → g x σ H fun σ2 H2 => tb { D with nx := Pv (i + 1), ct := Pv (i + 1), bk := D.nx } σ2 H2)
    (hd : ∀ σ H, Pv xs.length σ H → D.nx σ H) : ForT K g tb (.ref a) D σ H :=
  ⟨a, rfl, ⟨xs, hl 0 σ H (Nat.zero_le _) h0⟩, for_tup (xs := xs) Pv h0 hl hs hd⟩
theorem for_S {cs : List Nat} (Pv : Nat → L2.St → Hp → Prop) (h0 : Pv 0 σ H) (hs : ∀ i c σ H, cs[i]? = some c → Pv i σ H → g (T [c]) σ H fun σ2 H2 => tb { D with nx := Pv (i + 1), ct := Pv (i + 1), bk := D.nx } σ2 H2)
    (hd : ∀ σ H, Pv cs.length σ H → D.nx σ H) : ForS g tb (T cs) D σ H := by
  refine ⟨⟨cs.toArray⟩, rfl, fun i m σ H => m = cs.length - i ∧ i ≤ cs.length ∧ Pv i σ H, ⟨cs.length, by simp, Nat.zero_le _, h0⟩, ?_⟩
  rintro i m σ H ⟨rfl, hi, p⟩
  by_cases hlt : i < cs.length
  · refine .inr ⟨by show i < cs.toArray.size; simpa using hlt, Pv (i + 1), fun σ' H' p' => ⟨cs.length - (i + 1), by omega, rfl, hlt, p'⟩, fun x H' y => ?_⟩
    obtain ⟨e, c, hc, rfl⟩ := y
    subst e
    have hc' : cs[i]? = some c := by simpa using hc
    exact hs i c σ _ hc' p
  · have e : i = cs.length := by omega
    subst e
    exact .inl ⟨by show cs.toArray.size ≤ cs.length; simp, hd σ H p⟩
/-- while by a word and a measure, the test a letter -/
theorem pe_c0 {X : Cx} {k j : Nat} {x : Str} {sp : Sp} {dvs : List V} {p pos : Pos} (c : C8.Cal X.prog X.w X.K X.mg X.base k x sp dvs) (hr : Room j X.A) (hk : k ≤ j) (hg : Gl X x) (hdb : (x == ("__debug__" : Str)) = false := by decide) :
    PE X (.Call (.Name x p) [] [] pos) (tCall sp dvs L2.E0 tNil) := by
  obtain ⟨f, fd, ps, ds, F, hm, kp, b, d⟩ := c.ex
  exact pe_call0 F (hr.mono hk) hg hm kp b d pass0 hdb
end

/-! heaps: what stands apart from one object -/
/-- all but the object at S is as it was (and more may stand) -/
def Fr (S : Addr) (H H' : Hp) : Prop := ∀ b o, b ≠ S → H b = some o → H' b = some o
theorem Fr.refl (S : Addr) (H : Hp) : Fr S H H := fun _ _ _ h => h
theorem Fr.trans {S : Addr} {H H1 H2 : Hp} (a : Fr S H H1) (b : Fr S H1 H2) : Fr S H H2 := fun c o n h => b c o n (a c o n h)
theorem Fr.new {S p : Addr} {H : Hp} {o : HO} (h : H p = none) : Fr S H (upd H p o) := fun b u _ e => by
  rw [upd_ne (ne_of_none e h)]; exact e
theorem Fr.own {S : Addr} {H : Hp} {o : HO} : Fr S H (upd H S o) := fun b u n e => by
  rw [upd_ne n]; exact e
theorem Fr.to {S : Addr} {H H1 H2 : Hp} (a : Fr S H H1) (b : Same H1 H2) : Fr S H H2 := fun c o n h => b c o (a c o n h)
theorem Same.fr {S : Addr} {H H1 : Hp} (b : Same H H1) : Fr S H H1 := fun c o _ h => b c o h
theorem same_new {p : Addr} {H : Hp} {o : HO} (h : H p = none) : Same H (upd H p o) := fun b u e => by
  rw [upd_ne (ne_of_none e h)]; exact e
theorem Fr.sqL {S a : Addr} {K : PySem.W.Frag} {H H' : Hp} {xs : List V} (f : Fr S H H') (n : a ≠ S) (h : SqL K H a xs) : SqL K H' a xs := by
  rcases h with (h | ⟨o, h⟩) | h
  · exact .inl (.inl (f _ _ n h))
  · exact .inl (.inr ⟨o, f _ _ n h⟩)
  · exact .inr h
theorem Fr.sqT {S a : Addr} {K : PySem.W.Frag} {H H' : Hp} {xs : List V} (f : Fr S H H') (n : a ≠ S) (h : SqT K H a xs) : SqT K H' a xs := by
  rcases h with (h | ⟨o, h⟩) | h
  · exact .inl (.inl (f _ _ n h))
  · exact .inl (.inr ⟨o, f _ _ n h⟩)
  · exact .inr h
theorem Same.sqT {a : Addr} {K : PySem.W.Frag} {H H' : Hp} {xs : List V} (f : Same H H') (h : SqT K H a xs) : SqT K H' a xs := by
  rcases h with (h | ⟨o, h⟩) | h
  · exact .inl (.inl (f _ _ h))
  · exact .inl (.inr ⟨o, f _ _ h⟩)
  · exact .inr h
end Lv
/-! An own error whose __init__ tells its text to its base and keeps one field. -/
namespace PySem
namespace SrcX
open PySem.W PySem.Calls PyProof.Rows PySem.HandSPX
/-! ### the text of __init__: the parameter's name is a letter (at, name) -/
def msg : Str := "the source is wrong at position "
def eA : Arguments := { posonlyargs := [], args := [{ arg := "self", annotation := none, pos := ⟨6, 17, 6, 21⟩ }, { arg := "at", annotation := none, pos := ⟨6, 23, 6, 25⟩ }], vararg := none, kwonlyargs := [], kw_defaults := [], kwarg := none, defaults := [] }
def eB : List Stmt :=
  [.Expr (.Call (.Attribute (.Call (.Name "super" ⟨7, 8, 7, 13⟩) [] [] ⟨7, 8, 7, 15⟩) "__init__" ⟨7, 8, 7, 24⟩) [.JoinedStr [.Constant (.str msg) 0 ⟨7, 27, 7, 59⟩, .FormattedValue (.Name "at" ⟨7, 60, 7, 62⟩) (-1) none ⟨7, 59, 7, 63⟩] ⟨7, 25, 7, 64⟩] [] ⟨7, 8, 7, 65⟩) ⟨7, 8, 7, 65⟩,
   .Assign [.Attribute (.Name "self" ⟨8, 8, 8, 12⟩) "at" ⟨8, 8, 8, 15⟩] (.Name "at" ⟨8, 18, 8, 20⟩) ⟨8, 8, 8, 20⟩]
def eS : Scope := { kind := .function, names := [(PySem.Str.ofString "self", .local), (PySem.Str.ofString "at", .local), (PySem.Str.ofString "__class__", .free), (PySem.Str.ofString "super", .globalImplicit)], isGenerator := false, isCoroutine := false, more := [] }
/-- what the written part says of the class at C, and of its __init__, at fI; x: the field -/
structure SrcTxt (P : Program) (K : Frag) (mg : Str → Option Value) (nm : Str) (C fI : Addr) : Prop where
  gC : mg nm = some (.ref C)
  cls : ∃ nm q N bs bm sn sub ab col dd k0 k1 k2 k3 k5, K.lookup C = some (excClassObj nm q C N bs bm true sn sub ab col dd k0 k1 k2 k3 k5 "ValueError.__new__") ∧ refsVE bm = true
  sa : findIn K (.ref C) "__setattr__" = some (some (.builtin "object.__setattr__"))
  ga : findIn K (.ref C) "__getattribute__" = some (some (.builtin "BaseException.__getattribute__"))
  gg : findIn K (.ref C) "__getattr__" = some none
  noN : findIn K (.ref C) "at" = some none
  iC : findIn K (.ref C) "__init__" = some (some (.ref fI))
  tC : typeIn K (.ref fI) = some (.type "function")
  kC : keepIn K (.ref C) = true
  exC : subIn K (.ref C) (.type "BaseException") = some true
  veC : subIn K (.ref C) (.type "ValueError") = some true
  tyC : typeIn K (.ref C) = some (.type "type")
  hdC : hasDictIn K C = true
  te : exmOne K (.ref C) (.ref C) = some true
  op : nsIn K cStatics "thirdparty.any" = some none
  up : ks_superIn K C C "__init__" = some (some (.builtin "ValueError.__init__"))
  mr : mroIn K C (.ref C) = some true
  su : mg "super" = none
  top : (P.main.scope.names.lookup ("super" : Str)).isSome = false
  fn : ∃ (oc : Value) (od : Option Addr) (doc pm : Value) (an : Option Addr) (cda cc : Addr) (ct : Value) (osl : Array (Option Value)) (qual : Str) (ccl cl : Value) (cdd cld : Option Addr) (ccs csl : Array (Option Value)) (vs : Array Value) (file : Str) (tf : Tok),
    K.lookup fI = some ⟨oc, od, .func (fnX "__init__" qual eA eB eS [("__class__", cc)] .none .none doc pm an (.ref cda) ct), osl⟩ ∧ codeIn K (.ref cda) qual = true ∧
    K.lookup cda = some ⟨ccl, cdd, .fields vs, ccs⟩ ∧ vs[2]? = some (.str file tf) ∧ ((P.main.file : Str) == file) = true ∧ K.lookup cc = some ⟨cl, cld, .cell (some (.ref C)), csl⟩
/-- what __init__ leaves of a fresh exception at x -/
structure InitEnd (h h' : Heap) (e C dx t1 : Addr) (v : Value) : Prop where
  keep : ∀ b o, b ≠ e → h.get? b = some o → h'.get? b = some o
  obj : h'.get? e = some { cls := .ref C, dict := some dx, data := .fields #[.ref t1, .none, .none, .none, .bool false, .none] }
  dbig : h.objs.size ≤ dx
  dne : dx ≠ e
  ns : h'.Ns1 dx (fun y => if y = "at" then some v else none)
structure OwnMade (h h' : Heap) (e C d : Addr) (v : Value) : Prop where
  keep : ∀ b o, h.get? b = some o → h'.get? b = some o
  new : h.objs.size ≤ e
  obj : ∃ oe vs, h'.get? e = some oe ∧ oe.cls = .ref C ∧ oe.dict = some d ∧ oe.data = .fields vs ∧ vs[1]? = some .none
  dbig : h.objs.size ≤ d
  dne : d ≠ e
  ns : h'.Ns1 d (fun y => if y = "at" then some v else none)
theorem one_size (v : Value) : [v].length ≤ sizeLine := by
  rw [sizeLine_eq]
  exact (by decide : 1 ≤ 16777216)
section
variable {prog : Program} {w : World} {A : Around} {E : Value → Shared → Prop} {R : Result → Shared → Prop} {s : Shared} {K : Frag} {mg mb : Str → Option Value} {nm : Str} {C fI : Addr}
/-- the base's __init__, bound, called with one value: the args are laid anew -/
theorem call_mw {h : Heap} {g : Array GenState} {d : Drawn} {t : Nat} {os : OsState} {u e t0 : Addr} {rest : List Value} {Q : Value → Shared → Prop} {nm q : Str} {N : Addr} {bs bm : List Value} {hdct : Bool} {sn : List Str} {sub : List Value} {ab : Bool} {col : Option Bool} {dd : Option Addr} {k0 k1 k2 k3 k5 : Option Value}
    (hC : h.get? C = some (excClassObj nm q C N bs bm hdct sn sub ab col dd k0 k1 k2 k3 k5 "ValueError.__new__")) (he : h.get? e = some (excO C t0)) (hu : h.get? u = some (kxs_mw "ValueError.__init__" e)) (hrest : rest.length ≤ sizeLine)
    (hq : ∀ h' t1, (∀ b o, b ≠ e → h.get? b = some o → h'.get? b = some o) → h'.get? e = some (excO C t1) → Q .none ⟨h', g, d, t, os⟩) :
    wpAny (model prog w) A (call (.ref u) rest) Q E ⟨h, g, d, t, os⟩ := by
  refine wpAny_call (codeAny_of_tree ?_)
  show wpAny _ A.in1 (callAny (.ref u) ⟨rest, []⟩) _ _ _
  simp only [callAny]
  refine wpAny_bind (wpAny_load hu ?_)
  simp only [kxs_mw, show (Value.type "method-wrapper" == Value.type "method" || Value.type "method-wrapper" == Value.type "builtin_function_or_method" || Value.type "method-wrapper" == Value.type "method-wrapper") = true by decide, if_true]
  refine KFB.if_so (by decide) ?_
  refine wpAny_bind (check_bound_init F.excBase_ValueError.toExcCallFacts hC he rfl ?_)
  refine wpAny_bind (wpAny_pure (wpAny_pure ?_))
  refine ⟨plainId_quiet F.excBase_ValueError.init.plain _, codeAny_builtin F.excBase_ValueError.initEntry ?_⟩
  exact exc_init_tree (cls := .ref C) (t0 := t0) (dv := none) (c2 := .none) (c3 := .none) (b4 := .bool false) he hrest fun h' k e' _ => hq h' _ k e'
theorem ldN {M : Model} {env : Env} {m : Str → Option Value} {x : Str} {pos : Pos} {v : Value} {Q : Value → Shared → Prop} (hn : s.heap.Ns env.locals m) (hv : m x = some v) (h : Q v s)
    (hk : env.scope.kind = .function := by rfl) (hl : env.kindOf x = some .local := by rfl) (hd : (x == ("__debug__" : Str)) = false := by decide) :
    wpAny M A (eval (.Name x pos) env) Q E s := wpAny_Name (wpAny_loadName_local hk hl hn hv h) hd
theorem src_init (T : SrcTxt prog K mg nm C fI) {e t0 : Addr} {v : Int} {tv : Tok} (hv : v.natAbs.log2 < 1920) (X : K.In s.heap) (hlim : s.heap.NoLimit) (hg : s.heap.Ns mainGlobals mg) (hb : s.heap.Ns builtinsNs mb) (hmb : mb "super" = some (.type "super"))
    (hx : s.heap.get? e = some (excO C t0)) (hnx : K.lookup e = none) (hroom : A.depth < recursionLimit)
    (hq : ∀ h' tk dx t1, InitEnd s.heap h' e C dx t1 (.int v tv) → R (.ok (.ret .none)) { s with heap := h', toks := tk }) :
    codeAny (model prog w) A (.call (.ref fI) ⟨[.ref e, .int v tv], []⟩) R s := by
  obtain ⟨oc, od, doc, pm, an, cda, cc, ct, osl, qual, ccl, cl, cdd, cld, ccs, csl, vs, file, tf, ho, hcd, hcode, hvs, hfile, hcell⟩ := T.fn
  obtain ⟨nm', q, N, bs, bm, sn, sub, ab, col, dd, k0, k1, k2, k3, k5, hC, hbm⟩ := T.cls
  have hcl : clsIn K C = some { name := nm', bases := bs, mro := .ref C :: bm, ns := N, qualname := q, hasDict := true, slotNames := sn, subclasses := sub, abstract := ab, collection := col, hasDel := false } := by unfold clsIn; rw [hC] <;> rfl
  refine ks_codeAny_call_defAt (binds := [("self", .ref e), ("at", .int v tv)]) hroom (X _ _ ho) rfl hlim (codeRec_of X hcd) rfl (BindsTo.of_eq ?b1) (show ∀ y ∈ eS.names, y.2 ≠ .cell by decide +kernel) (locs rfl) (fun h₁ hns k => ?_) rfl rfl rfl
  case b1 => first | rfl | with_unfolding_all rfl
  have I1 : InstAt s.heap e (excO C t0) C none := ⟨hx, rfl, rfl, trivial⟩
  have hne : e ≠ C := ks_ne X I1 hcl
  obtain ⟨hp, g, d, t, os⟩ := s
  have X₁ : K.In h₁ := X.keeps k
  have hx₁ := k _ _ hx
  -- super().__init__(f'..')
  refine ks_wpAt_execs_cons (ks_wpAt_Expr_any (ks_wpAt_MethodCall ?_ (by with_unfolding_all rfl)))
  have hoH := X₁ _ _ ho
  have hcodeH := X₁ _ _ hcode
  refine' ks_wpAt_super_base (attr := "__init__") (body := eB) (f := fI) (cc := cda) ?a1 ?a2 ?a3 ?a4 ?a5 ?a6 ?a7 ?a8 ?a9 ?a10 hvs hfile T.top ?_
  case a5 => exact hoH
  case a9 => exact hcodeH
  case a1 => rfl
  case a2 => rfl
  case a3 => decide
  case a4 => rfl
  case a6 => rfl
  case a7 => rfl
  case a8 => rfl
  case a10 => rfl
  have hG : h₁.Ns mainGlobals mg := hg.keeps k
  have hB : h₁.Ns builtinsNs mb := hb.keeps k
  refine ks_loadName_global rfl rfl (loadGlobal_builtin hG T.su hB hmb ⟨rfl, ?_⟩)
  refine wpAny_loadName_free rfl rfl rfl ⟨_, X₁ _ _ hcell, rfl⟩ ?_
  refine wpAny_loadName_local rfl rfl hns rfl ?_
  have hCC := X₁ _ _ hC
  refine ks_wpAny_isType_cls hCC rfl ⟨rfl, ?_⟩
  refine ks_wpAny_call_super hCC rfl hx₁ rfl (fun c z => by cases z) (looks_mroIn X₁ T.mr) (fun h₂ hso k₂ => ?_)
  have X₂ : K.In h₂ := X₁.keeps k₂
  have hx₂ := k₂ _ _ hx₁
  have I2 : InstAt h₂ e (excO C t0) C none := ⟨hx₂, rfl, rfl, trivial⟩
  have hI : Looks (model prog w) h₂ (isInstance (.ref e) (.type "ValueError")) true := I2.type.andThen (looks_subIn X₂ T.veC)
  have hup : alongIn K "__init__" (((.ref C :: bm : List Value).dropWhile (· != .ref C)).drop 1) = some (some (.builtin "ValueError.__init__")) := by
    have := T.up
    unfold ks_superIn at this
    rw [hcl] at this
    exact this
  refine kxs_getMethod kxs_ValueError hso (looks_opaque X₂ T.op) (l₀ := .ref C :: bm) ?lk rfl X₂ hup hI hne (by decide) ?_
  case lk => exact fun A Q E s k q => wpAny_bind ((looks_clsIn X₂ hcl) A _ E s k (wpAny_pure q))
  refine kxs_callWith (i := "ValueError.__init__") (x := e) rfl (evalArgs_plain ?_)
  refine Calls.spliced_cons ?_
  -- the text
  have hn₂ : h₂.Ns hp.objs.size _ := hns.keeps k₂
  have hn₃ : (h₂.push (kxs_mw "ValueError.__init__" e)).Ns hp.objs.size _ := hn₂.keeps fun b o z => Heap.get?_push_of_some _ z
  refine wpAny_JoinedStr (pos := ⟨7, 25, 7, 64⟩) ?_
  refine Calls.Constant_str (x := msg) (k := 0) (pos := ⟨7, 27, 7, 59⟩) ?_
  refine ⟨_, _, rfl, by decide +kernel, ?_⟩
  refine wpAny_FormattedValue_plain (value := .Name "at" ⟨7, 60, 7, 62⟩) (pos := ⟨7, 59, 7, 63⟩) (ldN (env := callEnv (fnX "__init__" qual eA eB eS [("__class__", cc)] .none .none doc pm an (.ref cda) ct) hp.objs.size fI) hn₃ rfl (wpAny_formatField_int hv ?_))
  have hsz : ((Str.empty ++ msg) ++ Str.ofString (toString v)).length ≤ sizeLine := by
    rw [strLen_append, PySem.ofString_length, show (Str.empty ++ msg).length = 32 by decide +kernel, sizeLine_eq]
    have := int_text_length_le (k := 1920) (by decide) hv
    omega
  refine ⟨_, _, rfl, hsz, ?_⟩
  refine ⟨hsz, ?_⟩
  refine Calls.spliced_nil ?_
  have hu₃ : (h₂.push (kxs_mw "ValueError.__init__" e)).get? h₂.objs.size = some (kxs_mw "ValueError.__init__" e) := Heap.get?_push_at rfl rfl
  refine ⟨hu₃, ?_⟩
  have k₃ : ∀ b o, h₂.get? b = some o → (h₂.push (kxs_mw "ValueError.__init__" e)).get? b = some o := fun b o z => Heap.get?_push_of_some _ z
  have X₃ : K.In (h₂.push (kxs_mw "ValueError.__init__" e)) := X₂.keeps k₃
  refine call_mw (X₃ _ _ hC) (k₃ _ _ hx₂) hu₃ (one_size _) fun h₄ t1 k₄ hx₄ => ?_
  have X₄ : K.In h₄ := fun a o z => by
    by_cases ha : a = e
    · subst ha
      have := X₃ _ _ z
      have y := k₃ _ _ hx₂
      rw [this] at y
      have nK : K.lookup a = none := hnx
      rw [nK] at z
      cases z
    · exact k₄ _ _ ha (X₃ _ _ z)
  have hn₄ : h₄.Ns hp.objs.size _ := hn₃.at fun o z => k₄ _ _ (Nat.ne_of_gt (Heap.lt_size hx)) z
  -- self.at = at
  refine wpAt_of_wpAny ?_
  refine wpAny_execs_cons (plainObj_wpAny_Assign_Attribute ?_)
  refine ldN (v := .int v tv) hn₄ rfl (ldN (v := .ref e) hn₄ rfl ?_)
  refine set_plain X₄ (ox := excO C t1) (od := none) ⟨hx₄, rfl, rfl, trivial⟩ T.sa ?_
  refine exc_osa X₄ hx₄ hcl (show refsVE (.ref C :: bm) = true from hbm) rfl T.noN (fun h₅ tk₅ dx k₅ dn dne hx₅ hn₅ => ?_)
  refine wpAny_execs_nil ?_
  have keepAll : ∀ b o, b ≠ e → hp.get? b = some o → h₅.get? b = some o := fun b o hb z => k₅ b o hb (k₄ b o hb (k₃ _ _ (k₂ _ _ (k _ _ z))))
  refine hq h₅ tk₅ dx t1 ⟨keepAll, hx₅, ?_, dne, hn₅⟩
  exact Nat.le_trans (Nat.le_of_lt hn₄.lt) dn
theorem src_made (T : SrcTxt prog K mg nm C fI) {v : Int} {tv : Tok} (hv : v.natAbs.log2 < 1920) (X : K.In s.heap) (hlim : s.heap.NoLimit) (hg : s.heap.Ns mainGlobals mg) (hb : s.heap.Ns builtinsNs mb) (hmb : mb "super" = some (.type "super")) (hroom : A.depth + 1 < recursionLimit)
    (hq : ∀ h' tk e d, OwnMade s.heap h' e C d (.int v tv) → R (.ok (.ret (.ref e))) { s with heap := h', toks := tk }) :
    codeAny (model prog w) A (.call (.ref C) ⟨[.int v tv], []⟩) R s := by
  obtain ⟨nm, q, N, bs, bm, sn, sub, ab, col, dd, k0, k1, k2, k3, k5, hC, hbm⟩ := T.cls
  obtain ⟨hp, g, dr, tk, os⟩ := s
  have k : ∀ b o, hp.get? b = some o → ((hp.push (kdv_tup [.int v tv])).push (excO C hp.objs.size)).get? b = some o := fun b o e => Heap.get?_push_of_some _ (Heap.get?_push_of_some _ e)
  have hget : ((hp.push (kdv_tup [.int v tv])).push (excO C hp.objs.size)).get? (hp.objs.size + 1) = some (excO C hp.objs.size) := by heap_get
  have hnx : K.lookup (hp.objs.size + 1) = none := by
    cases e : K.lookup (hp.objs.size + 1) with
    | none => rfl
    | some o =>
      have z : hp.get? (hp.objs.size + 1) = some o := X _ _ e
      exact absurd (Nat.lt_of_succ_lt (Heap.lt_size z)) (Nat.lt_irrefl _)
  refine call_own F.excBase_ValueError (fun X => refsVE_contains X bm hbm) (X _ _ hC) (looks_findIn X T.iC) (fun self => bind_fn X self T.tC) (one_size _) ?_
  refine src_init (s := ⟨(hp.push (kdv_tup [.int v tv])).push (excO C hp.objs.size), g, dr, tk, os⟩) T hv (X.keeps k) (hlim.keeps k) (hg.keeps k) (hb.keeps k) hmb hget hnx ?_ fun h' tk' dx t1 ⟨k', hx, dn, dne, hns⟩ => ?_
  · show A.depth + 1 < recursionLimit
    exact hroom
  · have old : ∀ b o, hp.get? b = some o → h'.get? b = some o := fun b o e => k' b o (Nat.ne_of_lt (Nat.lt_succ_of_lt (Heap.lt_size e))) (k b o e)
    have z : hp.objs.size + 1 + 1 ≤ dx := by
      first
        | (simpa only [Heap.size_push] using dn)
        | exact dn
        | (have q := dn; rw [Heap.size_push, Heap.size_push] at q; exact q)
    exact ⟨rfl, hq h' tk' (hp.objs.size + 1) dx ⟨old, Nat.le_succ _, ⟨_, _, hx, rfl, rfl, rfl, rfl⟩, Nat.le_trans (Nat.le_trans (Nat.le_succ _) (Nat.le_succ _)) z, dne, hns⟩⟩
end
end SrcX
end PySem
namespace L2
open PySem PySem.Spec PyProof.Rows
theorem relO_src {v : V} {v' : Value} (r : RelV v v') (f : Str) : RelO (List.lookup f [(("at" : Str), v)]) (if f = "at" then some v' else none) := by
  by_cases hw : f = "at"
  · subst hw
    rw [if_pos rfl]
    have q : List.lookup ("at" : Str) [(("at" : Str), v)] = some v := by simp [List.lookup]
    rw [q]
    exact r
  · rw [if_neg hw]
    have qw : (f == ("at" : Str)) = false := by simpa using hw
    have q2 : List.lookup f [(("at" : Str), v)] = none := by simp [List.lookup, qw]
    rw [q2]
    trivial
section
variable {X : Cx} {C fI : Addr} {nm : Str}
/-- C(e), e an int -/
def tMkSrc (C : Addr) (ta : TA) : St → Hp → XK → Prop := fun σ H Q => ta σ H fun vs H1 => ∃ v : Int, vs = [.int v] ∧ v.natAbs.log2 < 1920 ∧ ∀ d, H1 d = none → Q (.ref C) (some d) (upd H1 d (.xd [(("at" : Str), .int v)]))
theorem pmk_src {a : Expr} {ta : TA} {p pos : Pos} {k : Nat} (T : PySem.SrcX.SrcTxt X.prog X.K X.mg nm C fI) (hr : Room k X.A) (ha : PA X [a] ta) (hg : Gl X nm := by rfl) (hdb : (nm == ("__debug__" : Str)) = false := by decide)
    (he : starEach (a :: []) X.env = (false, eval a X.env) :: starEach [] X.env := by rfl) (hpl : (backTo pos (starEach [] X.env)).any (·.1) = false := by rfl) :
    PMk X (.Call (.Name nm p) [a] [] pos) (tMkSrc C ta) := by
  intro pins s σ H Q I h
  refine wpAny_Call_Name_kw (ld_glob I hg T.gC ?_ hdb)
  refine PySem.W.callWith_K (h₀ := X.base) I.ok.mod.kin T.kC (thn (ha.run pos pins s σ H _ I h) fun us s1 hh => ?_) he hpl
  obtain ⟨vs, H1, I1, r1, v, ev, hv, q1⟩ := hh
  subst ev
  refine ⟨I1.kIn, ?_⟩
  cases r1 with
  | cons rv rn =>
    rename_i v' us'
    cases rn
    obtain ⟨tv, rfl⟩ := rv
    show wpAny _ _ (call (.ref C) [.int v tv]) _ _ _
    have hlim := I1.nolimit
    obtain ⟨mb, hb, hmb⟩ := I1.mod.blt
    have hb1 := hb.keeps I1.bk
    have hg1 := I1.mod.glob.keeps I1.bk
    have hsup : mb "super" = some (.type "super") := (hmb _ (by decide)).trans (by decide +kernel)
    obtain ⟨hp, g, dr, tk, os⟩ := s1
    refine wpAny_call (PySem.SrcX.src_made T hv I1.kIn hlim hg1 hb1 hsup (by have := hr.dp; omega) fun h' tk' e d M => ?_)
    show MkP X pins σ Q (.ref e) ⟨h', g, dr, tk', os⟩
    obtain ⟨oe, fv, hoe, hc, hd, hdat, h1⟩ := M.obj
    have hns := M.ns
    obtain ⟨G', g1, g2⟩ := restrict h' fun b => decide (b ≠ e)
    have gk : ∀ b, b ≠ e → G'.get? b = h'.get? b := fun b hb => g1 b (decide_eq_true hb)
    have ge : G'.get? e = none := g2 e (by simp)
    have old : ∀ b o, hp.get? b = some o → G'.get? b = some o := fun b o q => (gk b (Nat.ne_of_lt (Nat.lt_of_lt_of_le (Heap.lt_size q) M.new))).trans (M.keep b o q)
    have ob : ObjOk X.prog X.w (upd H1 d (.xd [(("at" : Str), .int v)])) G' d (.xd [(("at" : Str), .int v)]) :=
      ⟨_, hns.at (fun o q => (gk d M.dne).trans q), fun f => relO_src (v := .int v) (v' := .int v tv) ⟨tv, rfl⟩ f⟩
    have J : Inv X pins σ (upd H1 d (.xd [(("at" : Str), .int v)])) ⟨G', g, dr, tk', os⟩ := I1.laid (t' := tk') old M.dbig ob
    refine ⟨e, oe, fv, ⟨G', g, dr, tk', os⟩, _, .ref C, some d, rfl, J, fun b o q => ?_, ge, hoe, ⟨hc, hd⟩, hdat, h1, ?_, rfl, I1.bare, raises_own T.exC T.tyC, q1 d (I1.hok.fresh M.dbig)⟩
    · by_cases hb : b = e
      · have q' : G'.get? b = some o := q
        rw [hb, ge] at q'; cases q'
      · exact (gk b hb).symm.trans q
    · rw [upd_ne (Ne.symm M.dne)]
      exact I1.hok.fresh M.new
/-- raise C(e) -/
def tRaiseSrc (C : Addr) (W : WX) (ta : TA) : TS := fun _ σ H => tMkSrc C ta σ H fun cls d H' => W cls d σ H'
theorem ps_raiseSrc {a : Expr} {ta : TA} {W : WX} {p pos pos2 : Pos} {k : Nat} (hc : X.calm = true) (T : PySem.SrcX.SrcTxt X.prog X.K X.mg nm C fI) (hr : Room k X.A) (tk : Takes X W) (ha : PA X [a] ta) (hg : Gl X nm := by rfl) (hdb : (nm == ("__debug__" : Str)) = false := by decide)
    (he : starEach (a :: []) X.env = (false, eval a X.env) :: starEach [] X.env := by rfl) (hpl : (backTo pos (starEach [] X.env)).any (·.1) = false := by rfl) :
    PS X (.Raise (some (.Call (.Name nm p) [a] [] pos)) none pos2) (tRaiseSrc C W ta) := ps_raise hc tk (pmk_src T hr ha hg hdb he hpl)
/-- err.at, err the exception that the suite holds (at a; its class cls, its dict d) -/
def tBySrc (C : Addr) (a : Addr) (cls : Value) (d : Option Addr) (te : TE) : TE := fun σ H Q => te σ H fun x H1 => x = .ref a ∧ cls = .ref C ∧ ∃ (dd : Addr) (v : V), d = some dd ∧ H1 dd = some (.xd [(("at" : Str), v)]) ∧ Q v H1
theorem pe_bySrc {a : Addr} {oe : Obj} {cls : Value} {d : Option Addr} {pn : List (Addr × Obj)} {e : Expr} {te : TE} {pos : Pos} (T : PySem.SrcX.SrcTxt X.prog X.K X.mg nm C fI) (hz : Zc cls d oe) (hf : ∃ vs, oe.data = .fields vs) (he : PE (X.suite a ((a, oe) :: pn)) e te)
    (hb : attributeBase e "at" X.env (eval e X.env) = eval e X.env := by rfl) :
    PE (X.suite a ((a, oe) :: pn)) (.Attribute e "at" pos) (tBySrc C a cls d te) := by
  refine ⟨fun pins s σ H Q I h => ?_⟩
  refine attr_of hb (thn (he.run pins s σ H _ I h) fun u s1 hh => ?_)
  obtain ⟨x, H1, I1, rx, ex, ec, dd, v, ed, ea, q⟩ := hh
  subst ex
  obtain rfl : u = Value.ref a := rx
  subst ec
  subst ed
  obtain ⟨ha, _⟩ := I1.pin (a, oe) (List.mem_append_left _ List.mem_cons_self)
  obtain ⟨vs, hd⟩ := hf
  have hx : ObjOk X.prog X.w H1 s1.heap dd (.xd [(("at" : Str), v)]) := I1.hok dd _ ea
  obtain ⟨mA, hns, hr⟩ := hx
  obtain ⟨od, ho, hl⟩ := lookIn_ns hns
  have l : List.lookup ("at" : Str) [(("at" : Str), v)] = some v := by simp [List.lookup]
  obtain ⟨u, hu, ru⟩ := RelO.some_of (v := v) (o := mA "at") (by rw [← l]; exact hr "at")
  have J : PySem.W.InstAt s1.heap a oe C (some od) := ⟨ha, hz.1, by unfold PySem.W.notCls; rw [hd] <;> rfl, by rw [hz.2]; exact ho⟩
  exact HandSPX.exc_get I1.kIn J T.ga T.gg T.exC (PySem.W.findObj_own T.hdC T.noN rfl (by rw [hl, hu])) (handed_of ru) ⟨v, H1, I1.tok _, ru, q⟩
end
end L2
/-! Defs that may raise, over the same layer; texts searched. -/
namespace Lv
open PySem PySem.Spec PyProof.Rows L2

section
variable {P : Program} {w : World} {K : PySem.W.Frag} {mg : Str → Option Value} {base : Heap} {N : List Str} {q : Str} {sc : Scope} {f : Addr} {cd : Value} {A : Around} {outer : List Env} {s : Shared} {H : Hp} {E : XK}
theorem tk_of : Takes (cxOf (L2.CX P w) P w K mg base N q sc f cd A outer s H E) (fun cls d _ H => E cls d H) := takes_of rfl rfl rfl rfl
theorem px_of : Passes (L2.CX P w) (cxOf (L2.CX P w) P w K mg base N q sc f cd A outer s H E) E := passes_call tk_of (fun _ _ _ _ h => h)
theorem po_of : PassesOwn (model (cxOf (L2.CX P w) P w K mg base N q sc f cd A outer s H E).prog (cxOf (L2.CX P w) P w K mg base N q sc f cd A outer s H E).w) (cxOf (L2.CX P w) P w K mg base N q sc f cd A outer s H E).A (cxOf (L2.CX P w) P w K mg base N q sc f cd A outer s H E).env (cxOf (L2.CX P w) P w K mg base N q sc f cd A outer s H E).xe := passes_of rfl
end
/-- a def that may raise, by its module's name -/
structure CalX (P : Program) (w : World) (K : PySem.W.Frag) (mg : Str → Option Value) (base : Heap) (k : Nat) (x : Str) (sp : Sp) : Prop where
  ex : ∃ (f : Addr) (fd : FuncData) (ps : List Str), FnOk P w K mg base (L2.CX P w) k f fd ps sp ∧ mg x = some (.ref f) ∧ PySem.W.keepIn K (.ref f) = true ∧ Binds K fd ps []
section
variable {X : Cx} {k j : Nat} {x : Str} {sp : Sp} {E : XK} {p pos : Pos} {e : Expr} {es : List Expr} {t : TA}
theorem pe_cx (c : CalX X.prog X.w X.K X.mg X.base k x sp) (hr : Room j X.A) (hk : k ≤ j) (hg : Gl X x) (hx : Passes (L2.CX X.prog X.w) X E) (ha : PA X (e :: es) t)
    (hdb : (x == ("__debug__" : Str)) = false := by decide) (he : starEach (e :: es) X.env = (false, eval e X.env) :: starEach es X.env := by rfl) (hpl : (backTo pos (starEach es X.env)).any (·.1) = false := by rfl) :
    PE X (.Call (.Name x p) (e :: es) [] pos) (tCall sp [] E t) := by
  obtain ⟨f, fd, ps, F, hm, kp, b⟩ := c.ex
  exact pe_call F (hr.mono hk) hg hm kp b .nil hx ha hdb he hpl
end
/-- the way out with an error of the class at C whose field is i -/
def Err (C : Addr) (E : XK) (H : Hp) (i : Nat) : Prop := ∀ d H', H d = none → Same H H' → H' d = some (.xd [(("at" : Str), .int (i : Int))]) → E (.ref C) (some d) H'
theorem Err.mono {C : Addr} {E : XK} {H H1 : Hp} {i : Nat} (e : Err C E H i) (s : Same H H1) : Err C E H1 i := fun d H' hd s' h => e d H' (s.free hd) (s.trans s') h
section
variable {σ : L2.St} {H : Hp} {D : Ends} {C : Addr} {E : XK} {ta : TA}
def RaiseI (C : Addr) (E : XK) (vs : List V) (H : Hp) : Prop := ∃ v : Int, vs = [.int v] ∧ v.natAbs.log2 < 1920 ∧ ∀ d, H d = none → E (.ref C) (some d) (upd H d (.xd [(("at" : Str), .int v)]))
theorem w_raise (k : ta σ H fun vs H1 => RaiseI C E vs H1) : tRaiseSrc C (fun cls d _ H => E cls d H) ta D σ H := k
theorem raise_I {i : Nat} (hi : i ≤ 1000000) (h : Err C E H i) : RaiseI C E [.int (i : Int)] H := by
  refine ⟨(i : Int), rfl, ?_, fun d hd => h d _ hd (same_new0 hd) upd_same⟩
  rw [Int.natAbs_natCast]
  by_cases h0 : i = 0
  · subst h0; decide
  · exact Nat.lt_trans ((Nat.log2_lt h0).mpr (show i < 2 ^ 31 by omega)) (by decide)
end

/-! ### texts: order, search -/
def rLeS : R2 := fun x y H Q => ∃ i j, x = .str i ∧ y = .str j ∧ Q (.bl (!decide (j.cps.toList < i.cps.toList))) H
theorem op_leS {X : Cx} : OpR X (compareOp .LtE) rLeS := op_le_str
theorem lt_one (a b : Nat) : (([a] : List Nat) < [b]) ↔ a < b := by
  constructor
  · intro h
    cases h with
    | rel h => exact h
    | cons h => cases h
  · intro h
    exact .rel h
theorem w_leC {Q : VK} {H : Hp} {a b : Nat} (k : Q (.bl (decide (a ≤ b))) H) : rLeS (T [a]) (T [b]) H Q := by
  refine ⟨_, _, rfl, rfl, ?_⟩
  have e : (!decide (([b] : List Nat) < [a])) = decide (a ≤ b) := by
    by_cases h : a ≤ b
    · rw [decide_eq_true h, decide_eq_false (fun z => by have := (lt_one b a).mp z; omega)]; rfl
    · rw [decide_eq_false h, decide_eq_true ((lt_one b a).mpr (by omega))]; rfl
  show Q (.bl (!decide (([b] : List Nat) < [a]))) H
  rw [e]
  exact k
def rFind3 : V → List V → Hp → VK → Prop := fun x xs H Q => ∃ (a b : Str) (i : Int), x = .str a ∧ xs = [.str b, .int i] ∧ Q (.int (Txt.find3 a b i)) H
theorem mt_findS {X : Cx} : MtR X "str.find" rFind3 := mt_find3
def rStarts3 : V → List V → Hp → VK → Prop := fun x xs H Q => ∃ (a b : Str) (i : Int), x = .str a ∧ xs = [.str b, .int i] ∧ Q (.bl (Txt.startswith3 a b i)) H
theorem mt_startsS {X : Cx} : MtR X "str.startswith" rStarts3 := mt_startswith3
def rIsdigit : V → List V → Hp → VK → Prop := fun x xs H Q => ∃ a, x = .str a ∧ xs = [] ∧ True ∧ Q (.bl (Txt.isdigit a)) H
theorem mt_isdigitS {X : Cx} : MtR X "str.isdigit" rIsdigit := mt_isdigit
/-- where the first c from i on stands; -1 -/
def findC (cs : List Nat) (c i : Nat) : Int := if i + ((cs.drop i).takeWhile (fun x => x != c)).length < cs.length then ((i + ((cs.drop i).takeWhile (fun x => x != c)).length : Nat) : Int) else -1
theorem tw_get {p : Nat → Bool} : ∀ {l : List Nat} {j : Nat} {x : Nat}, j < (l.takeWhile p).length → l[j]? = some x → p x = true
  | [], _, _, h, _ => by simp at h
  | a :: l, j, x, h, e => by
    rw [List.takeWhile_cons] at h
    by_cases ha : p a = true
    · rw [if_pos ha] at h
      cases j with
      | zero => rw [List.getElem?_cons_zero] at e; cases e; exact ha
      | succ j => exact tw_get (l := l) (j := j) (by simpa using h) (by simpa using e)
    · rw [if_neg ha] at h; simp at h
theorem tw_end {p : Nat → Bool} : ∀ {l : List Nat}, (l.takeWhile p).length < l.length → ∃ x, l[(l.takeWhile p).length]? = some x ∧ p x = false
  | [], h => by simp at h
  | a :: l, h => by
    rw [List.takeWhile_cons] at h ⊢
    by_cases ha : p a = true
    · rw [if_pos ha] at h ⊢
      obtain ⟨x, e, hx⟩ := tw_end (l := l) (by simpa using h)
      exact ⟨x, by simpa using e, hx⟩
    · rw [if_neg ha]
      exact ⟨a, by simp, by simpa using ha⟩
theorem tw_le {p : Nat → Bool} (l : List Nat) : (l.takeWhile p).length ≤ l.length := (List.takeWhile_prefix p).length_le
/-- the first place of a c is told by takeWhile -/
theorem tw_first {c : Nat} {l : List Nat} {k : Nat} (h1 : l[k]? = some c) (h2 : ∀ j, j < k → l[j]? ≠ some c) : (l.takeWhile (fun x => x != c)).length = k := by
  rcases Nat.lt_trichotomy (l.takeWhile (fun x => x != c)).length k with h | h | h
  · obtain ⟨hk, _⟩ := List.getElem?_eq_some_iff.mp h1
    obtain ⟨x, e, hx⟩ := tw_end (p := fun x => x != c) (l := l) (by omega)
    have : x = c := by simpa using hx
    exact absurd (this ▸ e) (h2 _ h)
  · exact h
  · have := tw_get h h1
    simp at this
theorem find_T {cs : List Nat} {c i : Nat} (hi : i ≤ cs.length) : Txt.find3 ⟨cs.toArray⟩ ⟨#[c]⟩ (i : Int) = findC cs c i := by
  have hf : PySem.fromIndex (⟨cs.toArray⟩ : Str).length (i : Int) = i := by
    rw [len_T]
    unfold PySem.fromIndex
    first
      | (simp; omega)
      | (simp; done)
      | omega
  have gd : ∀ v, v < cs.length → (⟨cs.toArray⟩ : Str).cps.getD v 0 = cs.getD v 0 := fun v hv => by simp [Array.getD, hv, List.getD]
  unfold findC
  rcases StrLaws.find3_spec ⟨cs.toArray⟩ c (i : Int) with ⟨e, hn⟩ | ⟨k, e, h1, h2, h3, h4⟩
  · rw [hf] at hn
    rw [len_T] at hn
    rw [e, if_neg]
    intro hlt
    have hl2 : ((cs.drop i).takeWhile (fun x => x != c)).length < (cs.drop i).length := by rw [List.length_drop]; omega
    obtain ⟨x, ex, hx⟩ := tw_end hl2
    have : x = c := by simpa using hx
    subst this
    rw [List.getElem?_drop] at ex
    obtain ⟨hv, ev⟩ := List.getElem?_eq_some_iff.mp ex
    refine hn _ (Nat.le_add_right _ _) hv ?_
    rw [gd _ hv, List.getD_eq_getElem?_getD, ex]
    rfl
  · rw [hf] at h1 h4
    rw [len_T] at h2
    have hk : (cs.drop i)[k - i]? = some c := by
      rw [List.getElem?_drop, show i + (k - i) = k by omega, List.getElem?_eq_getElem h2]
      rw [gd _ h2, List.getD_eq_getElem?_getD, List.getElem?_eq_getElem h2] at h3
      exact congrArg some h3
    have hb : ∀ j, j < k - i → (cs.drop i)[j]? ≠ some c := fun j hj z => by
      rw [List.getElem?_drop] at z
      obtain ⟨hv, ev⟩ := List.getElem?_eq_some_iff.mp z
      refine h4 (i + j) (Nat.le_add_right _ _) (by omega) ?_
      rw [gd _ hv, List.getD_eq_getElem?_getD, z]
      rfl
    have hl := tw_first hk hb
    rw [e, hl, if_pos (by omega)]
    congr 1
    omega
theorem w_find {Q : VK} {H : Hp} {cs : List Nat} {c i : Nat} (hi : i ≤ cs.length) (k : Q (.int (findC cs c i)) H) : rFind3 (T cs) [T [c], .int (i : Int)] H Q :=
  ⟨_, ⟨#[c]⟩, _, rfl, rfl, by rw [find_T hi]; exact k⟩
theorem starts_T {cs b : List Nat} {i : Nat} (hi : i ≤ cs.length) : Txt.startswith3 ⟨cs.toArray⟩ ⟨b.toArray⟩ (i : Int) = b.isPrefixOf (cs.drop i) := by
  have hf : PySem.fromIndex (⟨cs.toArray⟩ : Str).length (i : Int) = i := by
    rw [len_T]
    unfold PySem.fromIndex
    first
      | (simp; omega)
      | (simp; done)
      | omega
  unfold Txt.startswith3
  rw [hf, len_T, len_T]
  have e : Builtin.Str.subAt ⟨cs.toArray⟩ ⟨b.toArray⟩ i = decide ((cs.drop i).take b.length = b) := by
    unfold Builtin.Str.subAt
    rw [len_T]
    have : (⟨cs.toArray⟩ : Str).cps.extract i (i + b.length) = ((cs.drop i).take b.length).toArray := by
      apply Array.ext'
      simp [List.extract_eq_drop_take, List.take_drop]
    rw [this]
    by_cases h : (cs.drop i).take b.length = b
    · rw [decide_eq_true h, h]; simp
    · rw [decide_eq_false h]
      refine beq_eq_false_iff_ne.mpr fun z => h ?_
      have := congrArg Array.toList z
      simpa using this
  rw [e, Bool.eq_iff_iff, List.isPrefixOf_iff_prefix, Bool.and_eq_true, decide_eq_true_iff, decide_eq_true_iff]
  constructor
  · rintro ⟨_, h⟩
    rw [← h]
    exact List.take_prefix _ _
  · intro h
    have hl := h.length_le
    rw [List.length_drop] at hl
    refine ⟨by have : b.length = 0 ∨ 0 < b.length := by omega
               omega, (List.prefix_iff_eq_take.mp h).symm⟩
theorem w_starts {Q : VK} {H : Hp} {cs b : List Nat} {i : Nat} (hi : i ≤ cs.length) (k : Q (.bl (b.isPrefixOf (cs.drop i))) H) : rStarts3 (T cs) [T b, .int (i : Int)] H Q :=
  ⟨_, ⟨b.toArray⟩, _, rfl, rfl, by rw [starts_T hi]; exact k⟩
theorem dig_ascii : ∀ c, c < 128 → Unicode.isDigit c = (decide (48 ≤ c) && decide (c ≤ 57)) := by decide +kernel
theorem w_isdigit {Q : VK} {H : Hp} {cs : List Nat} (hne : cs ≠ []) (ha : ∀ c ∈ cs, c < 128) (k : Q (.bl (cs.all fun c => decide (48 ≤ c) && decide (c ≤ 57))) H) : rIsdigit (T cs) [] H Q := by
  refine ⟨_, rfl, rfl, trivial, ?_⟩
  have e : Txt.isdigit ⟨cs.toArray⟩ = cs.all fun c => decide (48 ≤ c) && decide (c ≤ 57) := by
    unfold Txt.isdigit
    rw [len_T]
    have h0 : 0 < cs.length := by
      cases cs with
      | nil => exact absurd rfl hne
      | cons _ _ => simp
    have h1 : cs.toArray.all Unicode.isDigit = cs.all fun c => decide (48 ≤ c) && decide (c ≤ 57) := by
      rw [List.all_toArray]
      rw [Bool.eq_iff_iff, List.all_eq_true, List.all_eq_true]
      exact ⟨fun h c hc => by rw [← dig_ascii c (ha c hc)]; exact h c hc, fun h c hc => by rw [dig_ascii c (ha c hc)]; exact h c hc⟩
    show (decide (cs.length > 0) && cs.toArray.all Unicode.isDigit) = _
    rw [h1, decide_eq_true h0, Bool.true_and]
  rw [e]
  exact k
end Lv
/-! isinstance of a caught error that has a dict of its own; a call in a try. -/
namespace L2
open PySem PySem.Spec PyProof.Rows
/-- isinstance(e, c), e the exception that the suite holds, at a, of the class cls, its dict d -/
def rIsG (K : PySem.W.Frag) (a : Addr) (cls : Value) (d : Option Addr) : List V → Hp → VK → Prop := fun xs H Q => ∃ (D dd : Addr) (fs : List (Str × V)) (c : V) (cv : Value) (b : Bool), xs = [.ref a, c] ∧ cls = .ref D ∧ d = some dd ∧ H dd = some (.xd fs) ∧ ExcC K D ∧
  (∀ u, RelV c u → u = cv) ∧ PySem.W.kitOne K (.ref D) cv = some b ∧ Q (.bl b) H
theorem call_isG {X : Cx} {a : Addr} {cls : Value} {d : Option Addr} {oe : Obj} {pn : List (Addr × Obj)} (hz : Zc cls d oe) (hf : ∃ vs, oe.data = .fields vs) : CallR (X.suite a ((a, oe) :: pn)) (.builtin "isinstance") (rIsG X.K a cls d) := by
  intro pins s σ H xs us Q I r h
  obtain ⟨D, dd, fs, c, cv, b, rfl, rfl, rfl, hdd, C, hcv, e, q⟩ := h
  cases r with
  | cons rx rr =>
    cases rr with
    | cons rt rr =>
      cases rr
      cases rx
      have ec := hcv _ rt
      subst ec
      obtain ⟨hget, _⟩ := I.pin (a, oe) (List.mem_append.mpr (.inl List.mem_cons_self))
      obtain ⟨vs, hv⟩ := hf
      have hx : ObjOk X.prog X.w H s.heap dd (.xd fs) := I.hok dd _ hdd
      obtain ⟨mA, hns, _⟩ := hx
      obtain ⟨od, es, ep, hod, _⟩ := hns
      have J : PySem.W.InstAt s.heap a oe D (some od) := by
        obtain ⟨oc, od', oda, osl⟩ := oe
        obtain ⟨h1, h2⟩ := hz
        dsimp only at h1 h2 hv
        subst h1 h2 hv
        exact ⟨hget, rfl, rfl, hod⟩
      have hcl : (PySem.W.clsIn X.K D).isSome = true := by
        obtain ⟨cd, hc, _⟩ := PySem.W.any_some C.hd
        rw [hc]; rfl
      exact PySem.W.kia_one (PySem.W.kitx_exc hcl C.hg C.hk C.hs C.ha C.hn C.ht C.hm) I.kIn J e (fun z => nomatch z) fun tk => ⟨.bl b, H, I.kept (t' := tk) fun _ _ z => z, rfl, q⟩
end L2
namespace Lv
open PySem PySem.Spec PyProof.Rows L2
section
variable {X : Cx} {k j : Nat} {x : Str} {sp : Sp} {W : WX} {p pos : Pos} {e : Expr} {es : List Expr} {t : TA}
theorem pe_cxs (c : CalX X.prog X.w X.K X.mg X.base k x sp) (hr : Room j X.A) (hk : k ≤ j) (hg : Gl X x) (tk : Takes X W) (ha : PA X (e :: es) t)
    (hdb : (x == ("__debug__" : Str)) = false := by decide) (he : starEach (e :: es) X.env = (false, eval e X.env) :: starEach es X.env := by rfl) (hpl : (backTo pos (starEach es X.env)).any (·.1) = false := by rfl) :
    PE X (.Call (.Name x p) (e :: es) [] pos) (tCallS sp (WE W) t) := by
  obtain ⟨f, fd, ps, F, hm, kp, b⟩ := c.ex
  exact pe_callS F (hr.mono hk) hg hm kp b (fun σ => passAt tk σ) ha hdb he hpl
end
end Lv
namespace Lv
open PySem PySem.Spec PyProof.Rows L2
open TL (numL tl_num numL_digits numL_ne numL_val numL_len numL_lt numL_step)
open C8 (Cal cal0 pe_c pe_gc pss_cut tCut)
local macro_rules | `(tactic| walk_at "r1") => `(tactic| first
  | with_reducible refine w_seq ?_
  | with_reducible refine w_next ?_
  | with_reducible refine w_var (by with_unfolding_all exact rfl) ?_
  | with_reducible refine w_asg ?_
  | with_reducible refine w_gname ?_
  | with_reducible refine w_ifS ?_
  | with_reducible refine w_test ?_
  | with_reducible refine w_tB ?_
  | with_reducible refine w_op ?_
  | with_reducible refine w_un ?_
  | with_reducible refine w_var (by with_unfolding_all exact rfl) ?_
  | with_reducible refine w_cT ?_
  | with_reducible refine w_str ?_
  | with_reducible refine w_c ?_
  | with_reducible refine w_i0 ?_
  | with_reducible refine w_intI ?_
  | with_reducible refine w_intB ?_
  | with_reducible refine w_cb ?_
  | with_reducible refine w_cons ?_
  | with_reducible refine w_nil ?_
  | with_reducible refine w_call ?_
  | with_reducible refine w_ret ?_
  | with_reducible refine w_retN ?_
  | with_reducible refine w_drop ?_
  | with_reducible refine w_gsub ?_
  | with_reducible refine w_sl ?_
  | with_reducible refine w_part ?_
  | with_reducible refine w_nopart ?_
  | with_reducible refine w_lst ?_
  | with_reducible refine w_tup ?_
  | with_reducible refine w_bm ?_
  | with_reducible refine w_bm0 ?_
  | with_reducible refine w_and ?_
  | with_reducible refine w_or ?_
  | with_reducible refine w_not ?_
  | with_reducible refine w_andV ?_
  | with_reducible refine w_orV ?_
  | with_reducible refine w_notV ?_
  | with_reducible refine w_inC ?_
  | with_reducible refine w_ninC ?_
  | with_reducible refine w_ord ?_
  | with_reducible refine w_max ?_
  | with_reducible refine w_ifE ?_
  | with_reducible refine w_forR ?_
  | with_reducible refine w_raise ?_
  | with_reducible refine w_leC ?_
  | with_reducible refine w_forL ?_
  | with_reducible refine w_forT ?_
  | with_reducible refine w_forS ?_
  | with_reducible refine w_eq (by with_unfolding_all exact rfl) ?_
  | with_reducible refine w_ne (by with_unfolding_all exact rfl) ?_
  | with_reducible refine L2.iteF ?_
  | with_reducible refine L2.iteT ?_
  | with_reducible refine w_nt ?_
  | with_reducible refine w_nf ?_
  | with_reducible refine ex_int ?_
  | with_reducible refine ex_bl ?_)
local macro_rules | `(tactic| walk_at "rd") => `(tactic| repeat walk_at "r1")
/-! ### codes -/
def cds (s : String) : List Nat := (Str.ofString s).cps.toList
abbrev aJ : List Nat := cds "abcdefghijklmnopqrstuvwxyzABCDEFGHIJKLMNOPQRSTUVWXYZ0123456789"
abbrev aLow : List Nat := cds "abcdefghijklmnopqrstuvwxyz"
abbrev aUp : List Nat := cds "ABCDEFGHIJKLMNOPQRSTUVWXYZ"
abbrev aDig : List Nat := cds "0123456789"
def WL : List (List Nat) := ["method", "var", "end", "give", "fail", "if", "then", "else", "while", "do", "try", "catch", "keep", "always", "none", "true", "false", "self", "super", "new", "not", "and", "or"].map cds
theorem len_aJ : aJ.length = 62 := by decide +kernel
theorem len_aLow : aLow.length = 26 := by decide +kernel
theorem len_aUp : aUp.length = 26 := by decide +kernel
theorem WL_len : ∀ x ∈ WL, x.length ≤ 6 := by decide +kernel
theorem WL_one : ∀ x ∈ WL, ¬ (x ++ [49]) ∈ WL := by decide +kernel
theorem WL_form : ∀ x ∈ WL, ∃ c r, x = c :: r ∧ c ∈ aLow ∧ (∀ d ∈ r, d ∈ aJ) := by
  have h : ∀ x ∈ WL, x.headD 0 ∈ aLow ∧ (∀ d ∈ x.tail, d ∈ aJ) ∧ x ≠ [] := by decide +kernel
  intro x hx
  obtain ⟨h1, h2, h3⟩ := h x hx
  cases x with
  | nil => exact absurd rfl h3
  | cons c r => exact ⟨c, r, rfl, h1, h2⟩
theorem at_mod {l : List Nat} {n : Nat} (hl : l.length = n) (h0 : 0 < n) (x : Int) : ∃ c, c ∈ l ∧ atI l (x.fmod (n : Int)) = some c := by
  have b0 := Int.fmod_nonneg_of_pos x (show (0 : Int) < n by omega)
  have b1 := Int.fmod_lt_of_pos x (show (0 : Int) < n by omega)
  obtain ⟨j, e⟩ : ∃ j : Nat, x.fmod (n : Int) = (j : Int) := ⟨(x.fmod (n : Int)).toNat, by omega⟩
  have hj : j < l.length := by omega
  refine ⟨l[j], List.getElem_mem hj, ?_⟩
  rw [e]
  exact atI_nat (List.getElem?_eq_getElem hj)
theorem at_lt {l : List Nat} {x : Int} (h0 : 0 ≤ x) (h1 : x < l.length) : ∃ c, c ∈ l ∧ atI l x = some c := by
  obtain ⟨j, rfl⟩ : ∃ j : Nat, x = (j : Int) := ⟨x.toNat, by omega⟩
  have hj : j < l.length := by omega
  exact ⟨l[j], List.getElem_mem hj, atI_nat (List.getElem?_eq_getElem hj)⟩
theorem cut_mem {a : List Nat} {lo hi : Option Int} {c : Nat} (h : c ∈ cut a lo hi) : c ∈ a := List.mem_of_mem_drop (List.mem_of_mem_take h)
theorem cut_len (a : List Nat) (lo hi : Option Int) : (cut a lo hi).length ≤ a.length := by
  unfold cut
  rw [List.length_take, List.length_drop]
  omega
theorem cut_to (a : List Nat) (k : Nat) : cut a none (some (k : Int)) = a.take k := by
  unfold cut
  rw [HT.sIx_none, HT.sIx_nat, List.drop_zero, Nat.sub_zero]
  by_cases h : k ≤ a.length
  · rw [Nat.min_eq_left h]
  · rw [Nat.min_eq_right (by omega), List.take_of_length_le (Nat.le_refl _), List.take_of_length_le (by omega)]
theorem cut_mid (a : List Nat) {i j : Nat} (hj : j ≤ a.length) : cut a (some (i : Int)) (some (j : Int)) = (a.drop i).take (j - i) := by
  unfold cut
  rw [HT.sIx_nat, HT.sIx_nat, Nat.min_eq_left hj]
  by_cases h : i ≤ a.length
  · rw [Nat.min_eq_left h]
  · rw [Nat.min_eq_right (by omega)]
    have e1 : j - a.length = 0 := by omega
    have e2 : j - i = 0 := by omega
    rw [e1, e2]; rfl
theorem mem_rep {n : Nat} {a : List Nat} {c : Nat} (h : c ∈ (List.replicate n a).flatten) : c ∈ a := by
  obtain ⟨l, h1, h2⟩ := List.mem_flatten.mp h
  rw [(List.mem_replicate.mp h1).2] at h2
  exact h2
theorem len_rep (n : Nat) (a : List Nat) : (List.replicate n a).flatten.length = n * a.length := by simp
theorem rep_one (n c : Nat) : (List.replicate n [c]).flatten = List.replicate n c := by
  induction n with
  | zero => rfl
  | succ n ih => rw [List.replicate_succ, List.flatten_cons, ih, List.replicate_succ]; rfl

/-! ### the tokens of a text, as a function of its codes -/
def MLs : List (List Nat) := [":=", "<=", "(", ")", "{", "}", ",", ";", ".", "|", "=", "<", "+", "-", "*", "/"].map cds
theorem len_MLs : MLs.length = 16 := by decide +kernel
theorem len_WL : WL.length = 23 := by decide +kernel
def letC (c : Nat) : Bool := decide (c ∈ aJ)
def digC (c : Nat) : Bool := decide (48 ≤ c) && decide (c ≤ 57)
def srcC (c : Nat) : Bool := decide (32 ≤ c) && decide (c ≤ 126) && !decide (c = 37)
theorem aJ_split : aJ = aLow ++ aUp ++ aDig := by decide +kernel
theorem let_or (c : Nat) : letC c = (decide (c ∈ aLow) || (decide (c ∈ aUp) || decide (c ∈ aDig))) := by
  unfold letC
  rw [aJ_split]
  simp only [List.mem_append, Bool.decide_or, Bool.or_assoc]
theorem aJ_ascii : ∀ c ∈ aJ, c < 128 := by decide +kernel
theorem dig_iff (c : Nat) : decide (c ∈ aDig) = digC c := by
  have e : aDig = [48, 49, 50, 51, 52, 53, 54, 55, 56, 57] := by decide +kernel
  unfold digC
  rw [e, Bool.eq_iff_iff, Bool.and_eq_true, decide_eq_true_iff, decide_eq_true_iff, decide_eq_true_iff]
  simp only [List.mem_cons, List.not_mem_nil, or_false]
  omega
theorem dig_let {c : Nat} (h : digC c = true) : letC c = true := by
  rw [let_or, dig_iff, h]; simp
/-- kind, value, length -/
def numRun (a : List Nat) : Option Nat := if (a.all digC && !(decide (a.headD 0 = 48) && decide (1 < a.length)) && decide (a.length ≤ 10) && decide (NumText.digitsVal a ≤ 1000000000)) = true then some (NumText.digitsVal a) else none
def ofRun (a : List Nat) : Option (List Nat × V) :=
  if digC (a.headD 0) = true then (numRun a).map fun n => (cds "number", .int (n : Int))
  else if 20 < a.length then none
  else if a.headD 0 ∈ aUp then some (cds "class", T a)
  else if a ∈ WL then some (cds "word", T a)
  else some (cds "name", T a)
def upQ (r : List Nat) : List Nat := r.takeWhile (fun x => x != 39)
def endTx (r : List Nat) : Option (List Nat) := if (decide ((upQ r).length < r.length) && decide ((upQ r).length ≤ 200) && (upQ r).all srcC) = true then some (upQ r) else none
def one : List Nat → Option (List Nat × V × Nat)
  | [] => none
  | c :: r => if c = 39 then (endTx r).map fun b => (cds "text", T b, b.length + 2)
    else if letC c = true then (ofRun ((c :: r).takeWhile letC)).map fun p => (p.1, p.2, ((c :: r).takeWhile letC).length)
    else (MLs.find? fun m => m.isPrefixOf (c :: r)).map fun m => (cds "mark", T m, m.length)
theorem one_cons (c : Nat) (r : List Nat) : one (c :: r) = if c = 39 then (endTx r).map fun b => (cds "text", T b, b.length + 2)
    else if letC c = true then (ofRun ((c :: r).takeWhile letC)).map fun p => (p.1, p.2, ((c :: r).takeWhile letC).length)
    else (MLs.find? fun m => m.isPrefixOf (c :: r)).map fun m => (cds "mark", T m, m.length) := rfl
abbrev Tk := List Nat × V × Nat
def lex (pos : Nat) : List Nat → List Tk × Option Nat
  | [] => ([], none)
  | c :: r => if c = 32 then lex (pos + 1) r
    else match one (c :: r) with
      | none => ([], some pos)
      | some t => let q := lex (pos + t.2.2) (r.drop (t.2.2 - 1)); ((t.1, t.2.1, pos) :: q.1, q.2)
termination_by l => l.length
decreasing_by
  · simp
  · simp only [List.length_drop, List.length_cons]; omega
theorem lex_nil (pos : Nat) : lex pos [] = ([], none) := by rw [lex]
theorem lex_sp (pos : Nat) (r : List Nat) : lex pos (32 :: r) = lex (pos + 1) r := by rw [lex, if_pos rfl]
theorem lex_wrong {pos c : Nat} {r : List Nat} (h : c ≠ 32) (e : one (c :: r) = none) : lex pos (c :: r) = ([], some pos) := by rw [lex, if_neg h, e]
theorem lex_tok {pos c n : Nat} {r k : List Nat} {v : V} (h : c ≠ 32) (e : one (c :: r) = some (k, v, n)) : lex pos (c :: r) = ((k, v, pos) :: (lex (pos + n) (r.drop (n - 1))).1, (lex (pos + n) (r.drop (n - 1))).2) := by rw [lex, if_neg h, e]
theorem MLs_pos : ∀ m ∈ MLs, 1 ≤ m.length := by decide +kernel
theorem one_pos {l k : List Nat} {v : V} {n : Nat} (h : one l = some (k, v, n)) : 1 ≤ n ∧ n ≤ l.length := by
  cases l with
  | nil => cases h
  | cons c r =>
    rw [one_cons] at h
    by_cases hc : c = 39
    · rw [if_pos hc] at h
      cases e : endTx r with
      | none => rw [e] at h; cases h
      | some b =>
        rw [e] at h
        injection h with h
        injection h with _ h
        injection h with _ h
        unfold endTx at e
        split at e
        · rename_i hb
          cases e
          rw [Bool.and_eq_true, Bool.and_eq_true, decide_eq_true_iff] at hb
          have := hb.1.1
          rw [List.length_cons]
          omega
        · cases e
    · rw [if_neg hc] at h
      by_cases hl : letC c = true
      · rw [if_pos hl] at h
        cases e : ofRun ((c :: r).takeWhile letC) with
        | none => rw [e] at h; cases h
        | some p =>
          rw [e] at h
          injection h with h
          injection h with _ h
          injection h with _ h
          subst h
          refine ⟨?_, tw_le _⟩
          rw [List.takeWhile_cons, if_pos hl]
          simp
      · rw [if_neg hl] at h
        cases e : MLs.find? fun m => m.isPrefixOf (c :: r) with
        | none => rw [e] at h; cases h
        | some m =>
          rw [e] at h
          injection h with h
          injection h with _ h
          injection h with _ h
          subst h
          refine ⟨MLs_pos m (List.mem_of_find?_eq_some e), ?_⟩
          have := List.find?_some e
          exact (List.isPrefixOf_iff_prefix.mp this).length_le

def topS (i : Nat) : Stmt := PySem.Challenge.pw_livestead_k02_any_text.main.body.getD i (.Pass ⟨0, 0, 0, 0⟩)

/-- the draws' state: a list of the ints, a place in it, the cell, what is left of it, a flag, what is left of the text -/
def StL (L : Addr) (i c k : Int) (b : Bool) (r : Int) : List V := [.ref L, .int i, .int c, .int k, .bl b, .int r]
def StAt (H : Hp) (S L : Addr) : Prop := ∃ (ns : List Int) (i c k : Int) (b : Bool) (r : Int), L ≠ S ∧ H L = some (.lst (ns.map V.int)) ∧ 0 ≤ i ∧ H S = some (.lst (StL L i c k b r))
theorem StAt.mono {H H' : Hp} {S L : Addr} (h : StAt H S L) (f : Same H H') : StAt H' S L := by
  obtain ⟨ns, i, c, k, b, r, h1, h2, h3, h4⟩ := h
  exact ⟨ns, i, c, k, b, r, h1, f _ _ h2, h3, f _ _ h4⟩
theorem stl_set1 {L : Addr} {i c k : Int} {b : Bool} {r z : Int} : (StL L i c k b r).set 1 (.int z) = StL L z c k b r := rfl
theorem stl_set2 {L : Addr} {i c k : Int} {b : Bool} {r z : Int} : (StL L i c k b r).set 2 (.int z) = StL L i z k b r := rfl
theorem stl_set3 {L : Addr} {i c k : Int} {b : Bool} {r z : Int} : (StL L i c k b r).set 3 (.int z) = StL L i c z b r := rfl
theorem stl_set4 {L : Addr} {i c k : Int} {b z : Bool} {r : Int} : (StL L i c k b r).set 4 (.bl z) = StL L i c k z r := rfl
theorem stl_set5 {L : Addr} {i c k : Int} {b : Bool} {r z : Int} : (StL L i c k b r).set 5 (.int z) = StL L i c k b z := rfl

theorem w_stset {H : Hp} {S : Addr} {xs : List V} {j : Int} {n : Nat} {v : V} {G : Hp → Prop} (hS : H S = some (.lst xs)) (e : ixN xs.length j = some n)
    (k : ∀ H2, H2 S = some (.lst (xs.set n v)) → Fr S H H2 → G H2) : rSetL (.ref S) (.int j) v H G := w_setL hS e (k _ upd_same Fr.own)
theorem at_ints {ns : List Int} {i : Int} (h0 : 0 ≤ i) (h1 : ¬ (ns.map V.int).length ≤ i) : ∃ z, atI (ns.map V.int) i = some (V.int z) := by
  have h2 : i.toNat < ns.length := by rw [List.length_map] at h1; omega
  obtain ⟨j, rfl⟩ : ∃ j : Nat, i = (j : Int) := ⟨i.toNat, by omega⟩
  rw [Int.toNat_natCast] at h2
  refine ⟨ns[j], atI_nat ?_⟩
  rw [List.getElem?_map, List.getElem?_eq_getElem h2]
  rfl

structure Bn (mg : Str → Option Value) : Prop where
  n_len : mg "len" = none
  n_int : mg "int" = none
  n_list : mg "list" = none
  n_range : mg "range" = none
  n_max : mg "max" = none
  n_str : mg "str" = none
  n_isinstance : mg "isinstance" = none
  n_bool : mg "bool" = none
  n_ord : mg "ord" = none

section
variable {P : Program} {w : World} {K : PySem.W.Frag} {mg : Str → Option Value} {base : Heap}

abbrev s_law_state : Stmt := topS 26
abbrev N_law_state : List Str := ["script"]
theorem sc_law_state : FnScope N_law_state ["script"] (defScope s_law_state) := ⟨rfl, rfl, rfl, by decide +kernel, rfl, by decide +kernel, by decide +kernel⟩
def spState (K : PySem.W.Frag) : Sp := fun vs H Q _ => ∃ (a : Addr) (ns : List Int), vs = [.ref a] ∧ SqL K H a (ns.map V.int) ∧ ∀ S L H', StAt H' S L → Same H H' → H S = none → H L = none → Q (.ref S) H'
theorem ok_law_state {f : Addr} {fd : FuncData} (F : Fun K "_law_state" "_law_state" s_law_state f fd) (Y : Bn mg) : FnOk P w K mg base CX0 1 f fd ["script"] (spState K) := by
  refine F.ok sc_law_state (fun vs H Q E h => ?_) (fun cdv A outer s H vs Q E hr h => ?_)
  · obtain ⟨a, ns, rfl, _⟩ := h
    rfl
  · obtain ⟨a, ns, rfl, hS, kQ⟩ := h
    have nd := sc_law_state.nd
    refine ⟨_, (pss_one (ps_ret (pe_lst (pa_cons (pe_callTy call_listOf (by rfl) Y.n_list (by decide +kernel) (pa_cons (pv 0) pa_nil)) (pa_cons pe_int (pa_cons pe_int (pa_cons pe_int (pa_cons pe_bl (pa_cons pe_int pa_nil))))))))), ?_⟩
    rw [show L2.start N_law_state [.ref a] = [some (.ref a)] from rfl]
    walk_at "rd"
    refine w_listOf hS fun l hl => ?_
    walk_at "rd"
    refine ⟨by show 6 ≤ sizeLine; decide, fun p hp => ?_⟩
    have nlp : l ≠ p := fun e => by rw [← e, upd_same] at hp; cases hp
    refine kQ p l _ ⟨ns, 0, 0, 0, false, 500, nlp, ?_, by decide, upd_same⟩ ((same_new hl).trans (same_new hp)) ((same_new hl).free hp) hl
    rw [upd_ne nlp, upd_same]

abbrev s_law_draw : Stmt := topS 27
abbrev N_law_draw : List Str := ["state", "limit", "cell", "digit", "mixed"]
theorem sc_law_draw : FnScope N_law_draw ["state", "limit"] (defScope s_law_draw) := ⟨rfl, rfl, rfl, by decide +kernel, rfl, by decide +kernel, by decide +kernel⟩
def spDraw : Sp := fun vs H Q _ => ∃ (S L : Addr) (m : Int), vs = [.ref S, .int m] ∧ StAt H S L ∧ 0 < m ∧ m < 1073741824 ∧ ∀ r H', 0 ≤ r → r < m → StAt H' S L → Fr S H H' → Q (.int r) H'
theorem ok_law_draw {f : Addr} {fd : FuncData} (F : Fun K "_law_draw" "_law_draw" s_law_draw f fd) (Y : Bn mg) : FnOk P w K mg base CX0 1 f fd ["state", "limit"] spDraw := by
  refine F.ok sc_law_draw (fun vs H Q E h => ?_) (fun cdv A outer s H vs Q E hr h => ?_)
  · obtain ⟨S, L, m, rfl, _⟩ := h
    rfl
  · obtain ⟨S, L, m, rfl, ⟨ns, i, c, k, b, r, hLS, hL, hi, hS⟩, hm, hm2, kQ⟩ := h
    have nd := sc_law_draw.nd
    refine ⟨_, (pss_cut (ps_if (pt_cmpR op_eq (pe_ix ix_list (pv 0) pe_int (fun _ _ => rfl)) pe_int (nomark _)) (pss_cons (ps_if (pt_cmpR op_ge (pe_ix ix_list (pv 0) pe_int (fun _ _ => rfl)) (pe_callB call_lenL (by rfl) Y.n_len (by decide +kernel) (pa_cons (pe_ix ix_list (pv 0) pe_int (fun _ _ => rfl)) pa_nil)) (nomark _)) (pss_one (ps_ret pe_int)) pss_nil)
      (pss_cons (ps_set (i := 2) nd rfl (Or.inl rfl) (pe_ix ix_list (pe_ix ix_list (pv 0) pe_int (fun _ _ => rfl)) (pe_ix ix_list (pv 0) pe_int (fun _ _ => rfl)) (fun _ _ => rfl)))
      (pss_cut (ps_if (pt_cmpR op_lt (pv 2) pe_int (nomark _)) (pss_one (ps_set (i := 2) nd rfl (Or.inl rfl) (pe_op op_sub (pe_un un_neg pe_int) (pv 2)))) pss_nil)
      (pss_cons (ps_asg (pe_op op_add (pe_ix ix_list (pv 0) pe_int (fun _ _ => rfl)) pe_int) (pg_sub (pv 0) pe_int set_list))
      (pss_cons (ps_asg (pv 2) (pg_sub (pv 0) pe_int set_list))
      (pss_cons (ps_asg (pe_cmpR op_ge (pv 2) (pe_op op_pow pe_int pe_int) (nomark _)) (pg_sub (pv 0) pe_int set_list))
      (pss_cons (ps_asg pe_int (pg_sub (pv 0) pe_int set_list))
      (pss_one (ps_if (pt_val (pe_ix ix_list (pv 0) pe_int (fun _ _ => rfl))) (pss_one (ps_asg pe_int (pg_sub (pv 0) pe_int set_list))) pss_nil))))))))) pss_nil)
      (pss_cons (ps_asg (pe_op op_sub (pe_ix ix_list (pv 0) pe_int (fun _ _ => rfl)) pe_int) (pg_sub (pv 0) pe_int set_list))
      (pss_cons (ps_if (pt_val (pe_ix ix_list (pv 0) pe_int (fun _ _ => rfl))) (pss_cons (ps_set (i := 3) nd rfl (Or.inl rfl) (pe_op op_modN (pe_callTy call_intI (by rfl) Y.n_int (by decide +kernel) (pa_cons (pe_ix ix_list (pv 0) pe_int (fun _ _ => rfl)) pa_nil)) (pv 1)))
      (pss_cons (ps_asg (pe_op op_fdivN (pe_ix ix_list (pv 0) pe_int (fun _ _ => rfl)) (pv 1)) (pg_sub (pv 0) pe_int set_list))
      (pss_cons (ps_if (pt_cmpR op_eq (pe_ix ix_list (pv 0) pe_int (fun _ _ => rfl)) pe_int (nomark _)) (pss_one (ps_asg pe_int (pg_sub (pv 0) pe_int set_list))) pss_nil)
      (pss_one (ps_ret (pv 3)))))) pss_nil)
      (pss_cons (ps_set (i := 4) nd rfl (Or.inl rfl) (pe_op op_modN (pe_callTy call_intI (by rfl) Y.n_int (by decide +kernel) (pa_cons (pe_op op_add (pe_op op_add (pe_op op_mul (pe_ix ix_list (pv 0) pe_int (fun _ _ => rfl)) pe_int) (pe_op op_mul (pe_ix ix_list (pv 0) pe_int (fun _ _ => rfl)) pe_int)) pe_int) pa_nil)) pe_int))
      (pss_cons (ps_set (i := 4) nd rfl (Or.inl rfl) (pe_op op_modN (pe_callTy call_intI (by rfl) Y.n_int (by decide +kernel) (pa_cons (pe_op op_add (pe_op op_add (pe_op op_mul (pv 4) (pv 4)) (pe_op op_mul (pe_ix ix_list (pv 0) pe_int (fun _ _ => rfl)) pe_int)) (pe_ix ix_list (pv 0) pe_int (fun _ _ => rfl))) pa_nil)) pe_int))
      (pss_one (ps_ret (pe_op op_modN (pe_callTy call_intI (by rfl) Y.n_int (by decide +kernel) (pa_cons (pv 4) pa_nil)) (pv 1))))))))), ?_⟩
    rw [show L2.start N_law_draw [.ref S, .int m] = [some (.ref S), some (.int m), none, none, none] from rfl]
    refine ⟨fun σ' H' => ∃ x, σ' = [some (.ref S), some (.int m), x, none, none] ∧ (∃ (i c k : Int) (b : Bool) (r : Int), 0 ≤ i ∧ H' L = some (.lst (ns.map V.int)) ∧ H' S = some (.lst (StL L i c k b r))) ∧ Fr S H H', ?_, ?_⟩
    · walk_at "rd"
      refine w_ixL (SqL.of hS) rfl ?_
      walk_at "rd"
      refine w_ifI (fun hk => ?_) (fun hk => ?_)
      · walk_at "rd"
        refine w_ixL (SqL.of hS) rfl ?_
        walk_at "rd"
        refine w_ixL (SqL.of hS) rfl ?_
        walk_at "rd"
        refine w_lenL (SqL.of hL) ?_
        walk_at "rd"
        refine w_if (fun hl => ?_) (fun hl => ?_)
        · walk_at "rd"
          exact kQ 0 H (by decide) hm ⟨ns, i, c, k, b, r, hLS, hL, hi, hS⟩ (Fr.refl S H)
        · walk_at "rd"
          refine w_ixL (SqL.of hS) rfl ?_
          walk_at "rd"
          refine w_ixL (SqL.of hS) rfl ?_
          obtain ⟨z, hz⟩ := at_ints hi hl
          refine w_ixL (SqL.of hL) hz ?_
          walk_at "rd"
          refine ⟨fun σ' H' => H' = H ∧ ∃ z, σ' = [some (.ref S), some (.int m), some (.int z), none, none], ?_, ?_⟩
          · walk_at "rd"
            refine w_if (fun _ => ?_) (fun _ => ?_)
            · walk_at "rd"
              refine ⟨_, rfl, ?_⟩
              walk_at "rd"
              exact ⟨rfl, _, rfl⟩
            · exact ⟨rfl, _, rfl⟩
          · rintro σ' H' ⟨rfl, z, rfl⟩
            walk_at "rd"
            refine w_ixL (SqL.of hS) rfl ?_
            walk_at "rd"
            refine w_stset hS rfl fun H1 hS1 f1 => ?_
            walk_at "rd"
            refine w_stset hS1 rfl fun H2 hS2 f2 => ?_
            walk_at "rd"
            refine w_i ⟨by decide, by decide, by decide⟩ ?_
            walk_at "rd"
            refine w_stset hS2 rfl fun H3 hS3 f3 => ?_
            walk_at "rd"
            refine w_stset hS3 rfl fun H4 hS4 f4 => ?_
            walk_at "rd"
            refine w_ixL (SqL.of hS4) rfl ?_
            have f := ((f1.trans f2).trans f3).trans f4
            walk_at "rd"
            refine w_if (fun _ => ?_) (fun _ => ?_)
            · walk_at "rd"
              refine w_stset hS4 rfl fun H5 hS5 f5 => ?_
              exact ⟨_, rfl, ⟨_, _, _, _, _, Int.add_nonneg hi (by decide), (f.trans f5) _ _ hLS hL, hS5⟩, f.trans f5⟩
            · exact ⟨_, rfl, ⟨_, _, _, _, _, Int.add_nonneg hi (by decide), f _ _ hLS hL, hS4⟩, f⟩
      · exact ⟨_, rfl, ⟨i, c, k, b, r, hi, hL, hS⟩, Fr.refl S H⟩
    · rintro σ' H0 ⟨x, rfl, ⟨i, c, k, b, r, hi, hL, hS⟩, fr⟩
      walk_at "rd"
      refine w_ixL (SqL.of hS) rfl ?_
      walk_at "rd"
      refine w_stset hS rfl fun H1 hS1 f1 => ?_
      walk_at "rd"
      refine w_ixL (SqL.of hS1) rfl ?_
      walk_at "rd"
      refine w_ifb (fun _ => ?_) (fun _ => ?_)
      · walk_at "rd"
        refine w_ixL (SqL.of hS1) rfl ?_
        walk_at "rd"
        refine w_i (by omega) ?_
        walk_at "rd"
        refine w_ixL (SqL.of hS1) rfl ?_
        walk_at "rd"
        refine w_i ⟨by omega, by omega⟩ ?_
        walk_at "rd"
        refine w_stset hS1 rfl fun H2 hS2 f2 => ?_
        walk_at "rd"
        refine w_ixL (SqL.of hS2) rfl ?_
        walk_at "rd"
        have b0 := Int.fmod_nonneg_of_pos c hm
        have b1 := Int.fmod_lt_of_pos c hm
        refine w_ifI (fun _ => ?_) (fun _ => ?_)
        · walk_at "rd"
          refine w_stset hS2 rfl fun H3 hS3 f3 => ?_
          walk_at "rd"
          have f := ((fr.trans f1).trans f2).trans f3
          exact kQ _ H3 b0 b1 ⟨ns, _, _, _, _, _, hLS, ((f1.trans f2).trans f3) _ _ hLS hL, hi, hS3⟩ f
        · walk_at "rd"
          exact kQ _ H2 b0 b1 ⟨ns, _, _, _, _, _, hLS, (f1.trans f2) _ _ hLS hL, hi, hS2⟩ ((fr.trans f1).trans f2)
      · walk_at "rd"
        refine w_ixL (SqL.of hS1) rfl ?_
        walk_at "rd"
        refine w_mulR (by decide) ?_
        walk_at "rd"
        refine w_ixL (SqL.of hS1) rfl ?_
        walk_at "rd"
        refine w_mulR (by decide) ?_
        walk_at "rd"
        refine w_i (by decide) ?_
        walk_at "rd"
        refine w_mulR ?_ ?_
        · have b0 := Int.fmod_nonneg_of_pos (c * 48271 + (k - 1) * 69621 + 7) (show (0 : Int) < 2147483647 by decide)
          have b1 := Int.fmod_lt_of_pos (c * 48271 + (k - 1) * 69621 + 7) (show (0 : Int) < 2147483647 by decide)
          omega
        walk_at "rd"
        refine w_ixL (SqL.of hS1) rfl ?_
        walk_at "rd"
        refine w_mulR (by decide) ?_
        walk_at "rd"
        refine w_ixL (SqL.of hS1) rfl ?_
        walk_at "rd"
        refine w_i (by decide) ?_
        walk_at "rd"
        refine w_i (by omega) ?_
        exact kQ _ H1 (Int.fmod_nonneg_of_pos _ hm) (Int.fmod_lt_of_pos _ hm) ⟨ns, _, _, _, _, _, hLS, f1 _ _ hLS hL, hi, hS1⟩ (fr.trans f1)
end

/-- what the module tokens has -/
structure TokTx (P : Program) (K : PySem.W.Frag) (mg : Str → Option Value) (C fI : Addr) : Prop where
  src : PySem.SrcX.SrcTxt P K mg "SourceError" C fI
  c_WORDS : ∃ a, (∃ u, mg "WORDS" = some u ∧ RelV (.ref a) u) ∧ ∀ H, SqT K H a (WL.map T)
  c_MARKS : ∃ a, (∃ u, mg "MARKS" = some u ∧ RelV (.ref a) u) ∧ ∀ H, SqT K H a (MLs.map T)
  c_SMALL : ∃ u, mg "SMALL" = some u ∧ RelV (T aLow) u
  c_CAPITAL : ∃ u, mg "CAPITAL" = some u ∧ RelV (T aUp) u
  c_DIGITS : ∃ u, mg "DIGITS" = some u ∧ RelV (T aDig) u
  c_QUOTE : ∃ u, mg "QUOTE" = some u ∧ RelV (T [39]) u
  c_PERCENT : ∃ u, mg "PERCENT" = some u ∧ RelV (.int 37) u
  c_LONGEST_NAME : ∃ u, mg "LONGEST_NAME" = some u ∧ RelV (.int 20) u
  c_LONGEST_TEXT : ∃ u, mg "LONGEST_TEXT" = some u ∧ RelV (.int 200) u
  c_GREATEST_NUMBER : ∃ u, mg "GREATEST_NUMBER" = some u ∧ RelV (.int 1000000000) u
  c_MOST_DIGITS : ∃ u, mg "MOST_DIGITS" = some u ∧ RelV (.int 10) u

section
variable {P : Program} {w : World} {K : PySem.W.Frag} {mg : Str → Option Value} {base : Heap} {C fI : Addr}

abbrev s_is_letter_or_digit : Stmt := topS 20
abbrev N_is_letter_or_digit : List Str := ["character"]
theorem sc_is_letter_or_digit : FnScope N_is_letter_or_digit ["character"] (defScope s_is_letter_or_digit) := ⟨rfl, rfl, rfl, by decide +kernel, rfl, by decide +kernel, by decide +kernel⟩
def spLet : Sp := fun vs H Q _ => ∃ c, vs = [T [c]] ∧ Q (.bl (letC c)) H
theorem ok_is_letter_or_digit {f : Addr} {fd : FuncData} (F : Fun K "_is_letter_or_digit" "_is_letter_or_digit" s_is_letter_or_digit f fd) (Z : TokTx P K mg C fI) : FnOk P w K mg base CX0 1 f fd ["character"] spLet := by
  refine F.ok sc_is_letter_or_digit (fun vs H Q E h => ?_) (fun cdv A outer s H vs Q E hr h => ?_)
  · obtain ⟨c, rfl, _⟩ := h
    rfl
  · obtain ⟨c, rfl, kQ⟩ := h
    have nd := sc_is_letter_or_digit.nd
    refine ⟨_, (pss_one (ps_ret (pe_or (pe_cmpR op_inC (pv 0) (pe_gc rfl Z.c_SMALL) (by rfl)) (pe_or (pe_cmpR op_inC (pv 0) (pe_gc rfl Z.c_CAPITAL) (by rfl)) (pe_one (pe_cmpR op_inC (pv 0) (pe_gc rfl Z.c_DIGITS) (by rfl))))))), ?_⟩
    rw [show L2.start N_is_letter_or_digit [T [c]] = [some (T [c])] from rfl]
    walk_at "rd"
    rw [let_or] at kQ
    refine w_ifb (fun h => ?_) (fun h => ?_)
    · rw [h] at kQ
      exact kQ
    · rw [h, Bool.false_or] at kQ
      walk_at "rd"
      refine w_ifb (fun h => ?_) (fun h => ?_)
      · rw [h] at kQ
        exact kQ
      · rw [h, Bool.false_or] at kQ
        walk_at "rd"
        exact kQ

abbrev s_is_source_character : Stmt := topS 19
abbrev N_is_source_character : List Str := ["character"]
theorem sc_is_source_character : FnScope N_is_source_character ["character"] (defScope s_is_source_character) := ⟨rfl, rfl, rfl, by decide +kernel, rfl, by decide +kernel, by decide +kernel⟩
def spSrcC : Sp := fun vs H Q _ => ∃ c, vs = [T [c]] ∧ Q (.bl (srcC c)) H
theorem ok_is_source_character {f : Addr} {fd : FuncData} (F : Fun K "_is_source_character" "_is_source_character" s_is_source_character f fd) (Z : TokTx P K mg C fI) (Y : Bn mg) : FnOk P w K mg base CX0 1 f fd ["character"] spSrcC := by
  refine F.ok sc_is_source_character (fun vs H Q E h => ?_) (fun cdv A outer s H vs Q E hr h => ?_)
  · obtain ⟨c, rfl, _⟩ := h
    rfl
  · obtain ⟨c, rfl, kQ⟩ := h
    have nd := sc_is_source_character.nd
    refine ⟨_, (pss_one (ps_ret (pe_and (pe_cmpR op_leS pe_str (pv 0) (nomark _)) (pe_and (pe_cmpR op_leS (pv 0) pe_str (nomark _)) (pe_one (pe_cmpR op_ne (pe_callB call_ordS (by rfl) Y.n_ord (by decide +kernel) (pa_cons (pv 0) pa_nil)) (pe_gc rfl Z.c_PERCENT) (nomark _))))))), ?_⟩
    rw [show L2.start N_is_source_character [T [c]] = [some (T [c])] from rfl]
    unfold srcC at kQ
    walk_at "rd"
    rw [show (Str.ofString " ").cps.toList = [32] by decide +kernel]
    walk_at "rd"
    refine w_ifb (fun h => ?_) (fun h => ?_)
    · rw [h, Bool.true_and] at kQ
      walk_at "rd"
      rw [show (Str.ofString "~").cps.toList = [126] by decide +kernel]
      walk_at "rd"
      refine w_ifb (fun h => ?_) (fun h => ?_)
      · rw [h, Bool.true_and] at kQ
        walk_at "rd"
        have e : decide (V.int (c : Int) = V.int 37) = decide (c = 37) := decide_eq_decide.mpr ⟨fun h => by have := V.int.inj h; omega, fun h => by rw [h]; rfl⟩
        rw [e]
        exact kQ
      · rw [h, Bool.false_and] at kQ
        exact kQ
    · rw [h, Bool.false_and, Bool.false_and] at kQ
      exact kQ

abbrev s_end_of_run : Stmt := topS 21
abbrev N_end_of_run : List Str := ["text", "at", "end"]
theorem sc_end_of_run : FnScope N_end_of_run ["text", "at"] (defScope s_end_of_run) := ⟨rfl, rfl, rfl, by decide +kernel, rfl, by decide +kernel, by decide +kernel⟩
def spEndRun : Sp := fun vs H Q _ => ∃ (cs : List Nat) (i : Nat), vs = [T cs, .int (i : Int)] ∧ i ≤ cs.length ∧ cs.length ≤ 100000 ∧ Q (.int ((i + ((cs.drop i).takeWhile letC).length : Nat) : Int)) H
theorem ok_end_of_run {f : Addr} {fd : FuncData} (F : Fun K "_end_of_run" "_end_of_run" s_end_of_run f fd) (Y : Bn mg) (c_is_letter_or_digit : Cal P w K mg base 1 "_is_letter_or_digit" spLet []) : FnOk P w K mg base CX0 2 f fd ["text", "at"] spEndRun := by
  refine F.ok sc_end_of_run (fun vs H Q E h => ?_) (fun cdv A outer s H vs Q E hr h => ?_)
  · obtain ⟨cs, i, rfl, _⟩ := h
    rfl
  · obtain ⟨cs, i, rfl, hi, hl, kQ⟩ := h
    have nd := sc_end_of_run.nd
    refine ⟨_, (pss_cons (ps_set (i := 2) nd rfl (Or.inl rfl) (pv 1))
      (pss_cons (ps_while PassesOwn.never (PW.pt (pw_and (pt_cmpR op_lt (pv 2) (pe_callB call_lenS (by rfl) Y.n_len (by decide +kernel) (pa_cons (pv 0) pa_nil)) (nomark _)) (pw_and1 (pt_val (pe_c c_is_letter_or_digit hr (by decide) rfl (pa_cons (pe_ix ix_str (pv 0) (pv 2) (fun _ _ => rfl)) pa_nil)))))) (pss_one (ps_aug (i := 2) nd rfl (Or.inl rfl) pe_int ip_add)))
      (pss_one (ps_ret (pv 2))))), ?_⟩
    rw [show L2.start N_end_of_run [T cs, .int (i : Int)] = [some (T cs), some (.int (i : Int)), none] from rfl]
    walk_at "rd"
    generalize hT : ((cs.drop i).takeWhile letC).length = n at kQ
    have hn : i + n ≤ cs.length := by
      have := tw_le (p := letC) (cs.drop i)
      rw [hT, List.length_drop] at this
      omega
    refine ⟨fun m σ' H' => ∃ j : Nat, σ' = [some (T cs), some (.int (i : Int)), some (.int ((i + j : Nat) : Int))] ∧ H' = H ∧ j ≤ n ∧ m = n - j, ⟨n, 0, rfl, rfl, Nat.zero_le _, rfl⟩, ?_⟩
    rintro m σ' H' ⟨j, rfl, rfl, hj, rfl⟩
    have fin : ¬ (j < n) → Q (.int ((i + j : Nat) : Int)) H' := fun h => by
      have : j = n := by omega
      rw [this]; exact kQ
    have hget : ∀ x, cs[i + j]? = some x → (letC x = true ↔ j < n) := fun x hx => by
      have hx2 : (cs.drop i)[j]? = some x := by rw [List.getElem?_drop]; exact hx
      constructor
      · intro hl
        refine Nat.lt_of_not_le fun hle => ?_
        have : j = n := by omega
        subst this
        rw [← hT] at hx2
        obtain ⟨y, ey, hy⟩ := tw_end (p := letC) (l := cs.drop i) (by
          obtain ⟨h1, _⟩ := List.getElem?_eq_some_iff.mp hx2
          exact h1)
        rw [hx2] at ey
        cases ey
        rw [hl] at hy; cases hy
      · intro h
        exact tw_get (by rw [hT]; exact h) hx2
    walk_at "rd"
    refine w_lenS (by omega) ?_
    walk_at "rd"
    refine w_if (fun h => ?_) (fun h => ?_)
    · walk_at "rd"
      have hlt : i + j < cs.length := by omega
      refine w_ixS (by omega) (atI_nat (List.getElem?_eq_getElem hlt)) ?_
      walk_at "rd"
      refine ⟨_, rfl, ?_⟩
      walk_at "rd"
      have hg := hget _ (List.getElem?_eq_getElem hlt)
      refine w_ifb (fun hb => ?_) (fun hb => ?_)
      · have hjn := hg.mp hb
        refine ⟨fun σ' H'' => σ' = [some (T cs), some (.int (i : Int)), some (.int ((i + (j + 1) : Nat) : Int))] ∧ H'' = H', fun σ'' H'' ⟨e1, e2⟩ => ⟨n - (j + 1), by omega, j + 1, e1, e2, by omega, rfl⟩, ?_⟩
        refine w_aug (by with_unfolding_all exact rfl) ?_
        walk_at "rd"
        refine ⟨_, _, rfl, rfl, ?_⟩
        exact ⟨rfl, rfl⟩
      · walk_at "rd"
        refine fin fun hjn => ?_
        rw [hg.mpr hjn] at hb; cases hb
    · walk_at "rd"
      exact fin (by omega)
end

theorem at_zeroX {c : Nat} {r : List Nat} : atI (c :: r) 0 = some c := atI_nat (xs := c :: r) (j := 0) rfl
theorem tw_take {p : Nat → Bool} : ∀ l : List Nat, l.takeWhile p = l.take (l.takeWhile p).length
  | [] => rfl
  | a :: l => by
    rw [List.takeWhile_cons]
    by_cases h : p a = true
    · rw [if_pos h, List.length_cons, List.take_succ_cons, ← tw_take l]
    · rw [if_neg h]; rfl
theorem endTx_none {r : List Nat} (h : ¬ ((upQ r).length < r.length ∧ (upQ r).length ≤ 200 ∧ (upQ r).all srcC = true)) : endTx r = none := by
  unfold endTx
  rw [if_neg]
  intro z
  rw [Bool.and_eq_true, Bool.and_eq_true, decide_eq_true_iff, decide_eq_true_iff] at z
  exact h ⟨z.1.1, z.1.2, z.2⟩
theorem endTx_some {r : List Nat} (h1 : (upQ r).length < r.length) (h2 : (upQ r).length ≤ 200) (h3 : (upQ r).all srcC = true) : endTx r = some (upQ r) := by
  unfold endTx
  rw [if_pos]
  rw [Bool.and_eq_true, Bool.and_eq_true, decide_eq_true_iff, decide_eq_true_iff]
  exact ⟨⟨h1, h2⟩, h3⟩

section
variable {P : Program} {w : World} {K : PySem.W.Frag} {mg : Str → Option Value} {base : Heap} {C fI : Addr}

abbrev s_end_of_text : Stmt := topS 18
abbrev N_end_of_text : List Str := ["text", "at", "end", "character"]
theorem sc_end_of_text : FnScope N_end_of_text ["text", "at"] (defScope s_end_of_text) := ⟨rfl, rfl, rfl, by decide +kernel, rfl, by decide +kernel, by decide +kernel⟩
def spEndTx (C : Addr) : Sp := fun vs H Q E => ∃ (cs : List Nat) (i : Nat), vs = [T cs, .int (i : Int)] ∧ i < cs.length ∧ cs.length ≤ 100000 ∧
  (∀ b, endTx (cs.drop (i + 1)) = some b → Q (.int ((i + b.length + 2 : Nat) : Int)) H) ∧ (endTx (cs.drop (i + 1)) = none → Err C E H i)
theorem ok_end_of_text {f : Addr} {fd : FuncData} (F : Fun K "_end_of_text" "_end_of_text" s_end_of_text f fd) (Z : TokTx P K mg C fI) (c_is_source_character : Cal P w K mg base 1 "_is_source_character" spSrcC []) : FnOk P w K mg base (L2.CX P w) 2 f fd ["text", "at"] (spEndTx C) := by
  refine F.okX sc_end_of_text (fun vs H Q E h => ?_) (fun cdv A outer s H vs Q E hr h => ?_)
  · obtain ⟨cs, i, rfl, _⟩ := h
    rfl
  · obtain ⟨cs, i, rfl, hi, hl, kQ, kE⟩ := h
    have nd := sc_end_of_text.nd
    refine ⟨_, (pss_cons (ps_set (i := 2) nd rfl (Or.inl rfl) (pe_bm PySem.F.plainAttrs_str PySem.F.slot_str_find PySem.F.type_str_find mt_findS (pv 0) (pa_cons (pe_gc rfl Z.c_QUOTE) (pa_cons (pe_op op_add (pv 1) pe_int) pa_nil))))
      (pss_cons (ps_if (PW.pt (pw_or (pt_cmpR op_lt (pv 2) pe_int (nomark _)) (pw_or1 (pt_cmpR op_gt (pe_op op_sub (pe_op op_sub (pv 2) (pv 1)) pe_int) (pe_gc rfl Z.c_LONGEST_TEXT) (nomark _))))) (pss_one (ps_raiseSrc rfl Z.src hr tk_of (pa_cons (pv 1) pa_nil))) pss_nil)
      (pss_cons (ps_for po_of rfl (pi_str (pe_slice sl_str (pv 0) (po_some (pe_op op_add (pv 1) pe_int)) (po_some (pv 2)))) (pg_name (i := 3) nd rfl (Or.inl rfl)) (pss_one (ps_if (pt_not (pt_val (pe_c c_is_source_character hr (by decide) rfl (pa_cons (pv 3) pa_nil)))) (pss_one (ps_raiseSrc rfl Z.src hr tk_of (pa_cons (pv 1) pa_nil))) pss_nil)))
      (pss_one (ps_ret (pe_op op_add (pv 2) pe_int)))))), ?_⟩
    rw [show L2.start N_end_of_text [T cs, .int (i : Int)] = [some (T cs), some (.int (i : Int)), none, none] from rfl]
    walk_at "rd"
    refine ⟨tyS, ?_⟩
    walk_at "rd"
    refine w_find (i := i + 1) (by omega) ?_
    walk_at "rd"
    have hb : upQ (cs.drop (i + 1)) = (cs.drop (i + 1)).take (upQ (cs.drop (i + 1))).length := tw_take _
    have hbl : (upQ (cs.drop (i + 1))).length ≤ (cs.drop (i + 1)).length := tw_le _
    have hf : findC cs 39 (i + 1) = if (upQ (cs.drop (i + 1))).length < (cs.drop (i + 1)).length then ((i + 1 + (upQ (cs.drop (i + 1))).length : Nat) : Int) else -1 := by
      unfold findC
      rw [List.length_drop] at hbl ⊢
      by_cases h : (upQ (cs.drop (i + 1))).length < cs.length - (i + 1)
      · rw [if_pos h, if_pos (show i + 1 + ((cs.drop (i + 1)).takeWhile fun x => x != 39).length < cs.length from by show i + 1 + (upQ (cs.drop (i + 1))).length < _; omega)]
        rfl
      · rw [if_neg h, if_neg (show ¬ i + 1 + ((cs.drop (i + 1)).takeWhile fun x => x != 39).length < cs.length from by show ¬ i + 1 + (upQ (cs.drop (i + 1))).length < _; omega)]
    rw [hf]
    generalize hB : upQ (cs.drop (i + 1)) = b at hb hbl
    have bad : ¬ (b.length < (cs.drop (i + 1)).length ∧ b.length ≤ 200 ∧ b.all srcC = true) → Err C E H i := fun h => kE (endTx_none (by rw [hB]; exact h))
    rw [List.length_drop] at hbl bad ⊢
    by_cases hlt : b.length < cs.length - (i + 1)
    · rw [if_pos hlt]
      refine w_if (fun h => absurd h (by omega)) (fun _ => ?_)
      walk_at "rd"
      refine w_if (fun h => ?_) (fun h => ?_)
      · walk_at "rd"
        exact raise_I (by omega) (bad fun z => by omega)
      · walk_at "rd"
        refine w_slS (by omega) ?_
        have ec : cut cs (some ((i : Int) + 1)) (some ((i + 1 + b.length : Nat) : Int)) = b := by
          have e1 : ((i : Int) + 1) = ((i + 1 : Nat) : Int) := by omega
          rw [e1, cut_mid cs (by omega), show i + 1 + b.length - (i + 1) = b.length by omega]
          exact hb.symm
        rw [ec]
        refine for_S (fun j σ' H' => ∃ x, σ' = [some (T cs), some (.int (i : Int)), some (.int ((i + 1 + b.length : Nat) : Int)), x] ∧ H' = H ∧ ∀ k x, k < j → b[k]? = some x → srcC x = true)
          ⟨none, rfl, rfl, fun k x h => absurd h (Nat.not_lt_zero _)⟩ ?_ ?_
        · rintro j c σ' H' hc ⟨x, rfl, rfl, hall⟩
          walk_at "rd"
          refine ⟨c, rfl, ?_⟩
          walk_at "rd"
          have e : (!srcC c) = true ↔ srcC c = false := by cases srcC c <;> simp
          refine w_ifb (fun hn => ?_) (fun hn => ?_)
          · walk_at "rd"
            refine raise_I (by omega) (bad fun z => ?_)
            have := List.all_eq_true.mp z.2.2 c (List.mem_of_getElem? hc)
            rw [this] at hn; cases hn
          · refine ⟨_, rfl, rfl, fun k y hk hy => ?_⟩
            by_cases hkj : k < j
            · exact hall k y hkj hy
            · have : k = j := by omega
              subst this
              rw [hc] at hy
              cases hy
              cases hs : srcC c with
              | true => rfl
              | false => rw [hs] at hn; cases hn
        · rintro σ' H' ⟨x, rfl, rfl, hall⟩
          walk_at "rd"
          have hsrc : b.all srcC = true := List.all_eq_true.mpr fun c hc => by
            obtain ⟨k, hk, e⟩ := List.mem_iff_getElem.mp hc
            exact hall k c hk (by rw [List.getElem?_eq_getElem hk, e])
          have := kQ b (by rw [endTx_some (by rw [hB, List.length_drop]; exact hlt) (by rw [hB]; omega) (by rw [hB]; exact hsrc), hB])
          rw [show ((i + 1 + b.length : Nat) : Int) + 1 = ((i + b.length + 2 : Nat) : Int) by omega]
          exact this
    · rw [if_neg hlt]
      refine w_if (fun _ => ?_) (fun h => absurd (show (-1 : Int) < 0 by decide) h)
      walk_at "rd"
      exact raise_I (by omega) (bad fun z => hlt z.1)

abbrev s_number_of : Stmt := topS 23
abbrev N_number_of : List Str := ["run", "at"]
theorem sc_number_of : FnScope N_number_of ["run", "at"] (defScope s_number_of) := ⟨rfl, rfl, rfl, by decide +kernel, rfl, by decide +kernel, by decide +kernel⟩
def spNumOf (C : Addr) : Sp := fun vs H Q E => ∃ (a : List Nat) (i : Nat), vs = [T a, .int (i : Int)] ∧ a ≠ [] ∧ (∀ c ∈ a, c ∈ aJ) ∧ a.length ≤ 100000 ∧ i ≤ 1000000 ∧ (∀ n : Nat, numRun a = some n → Q (.int (n : Int)) H) ∧ (numRun a = none → Err C E H i)
theorem ok_number_of {f : Addr} {fd : FuncData} (F : Fun K "_number_of" "_number_of" s_number_of f fd) (Z : TokTx P K mg C fI) (Y : Bn mg) : FnOk P w K mg base (L2.CX P w) 1 f fd ["run", "at"] (spNumOf C) := by
  refine F.okX sc_number_of (fun vs H Q E h => ?_) (fun cdv A outer s H vs Q E hr h => ?_)
  · obtain ⟨a, i, rfl, _⟩ := h
    rfl
  · obtain ⟨a, i, rfl, hne, hJ, hl, hi, kQ, kE⟩ := h
    have nd := sc_number_of.nd
    refine ⟨_, (pss_cons (ps_if (PW.pt (pw_or (pt_not (pt_val (pe_bm0 PySem.F.plainAttrs_str PySem.F.slot_str_isdigit PySem.F.type_str_isdigit mt_isdigitS (pv 0)))) (pw_or1 (PW.pt (pw_and (pt_cmpR op_eq (pe_ix ix_str (pv 0) pe_int (fun _ _ => rfl)) pe_str (nomark _)) (pw_and1 (pt_cmpR op_gt (pe_callB call_lenS (by rfl) Y.n_len (by decide +kernel) (pa_cons (pv 0) pa_nil)) pe_int (nomark _)))))))) (pss_one (ps_raiseSrc rfl Z.src hr tk_of (pa_cons (pv 1) pa_nil))) pss_nil)
      (pss_cons (ps_if (PW.pt (pw_or (pt_cmpR op_gt (pe_callB call_lenS (by rfl) Y.n_len (by decide +kernel) (pa_cons (pv 0) pa_nil)) (pe_gc rfl Z.c_MOST_DIGITS) (nomark _)) (pw_or1 (pt_cmpR op_gt (pe_callTy call_intS (by rfl) Y.n_int (by decide +kernel) (pa_cons (pv 0) pa_nil)) (pe_gc rfl Z.c_GREATEST_NUMBER) (nomark _))))) (pss_one (ps_raiseSrc rfl Z.src hr tk_of (pa_cons (pv 1) pa_nil))) pss_nil)
      (pss_one (ps_ret (pe_callTy call_intS (by rfl) Y.n_int (by decide +kernel) (pa_cons (pv 0) pa_nil)))))), ?_⟩
    rw [show L2.start N_number_of [T a, .int (i : Int)] = [some (T a), some (.int (i : Int))] from rfl]
    obtain ⟨c, r, rfl⟩ : ∃ c r, a = c :: r := by
      cases a with
      | nil => exact absurd rfl hne
      | cons c r => exact ⟨c, r, rfl⟩
    have e0 : (Str.ofString "0").cps.toList = ([48] : List Nat) := by decide +kernel
    have bad : ¬ ((c :: r).all digC = true ∧ ¬ (c = 48 ∧ 1 < (c :: r).length) ∧ (c :: r).length ≤ 10 ∧ NumText.digitsVal (c :: r) ≤ 1000000000) → Err C E H i := fun h => kE (by
      unfold numRun
      rw [if_neg]
      intro z
      simp only [Bool.and_eq_true, Bool.not_eq_true', decide_eq_true_iff, List.headD_cons] at z
      refine h ⟨z.1.1.1, fun y => ?_, z.1.2, z.2⟩
      rcases Bool.and_eq_false_iff.mp z.1.1.2 with h | h
      · exact of_decide_eq_false h y.1
      · exact of_decide_eq_false h y.2)
    have good : (c :: r).all digC = true → ¬ (c = 48 ∧ 1 < (c :: r).length) → (c :: r).length ≤ 10 → NumText.digitsVal (c :: r) ≤ 1000000000 → Q (.int ((NumText.digitsVal (c :: r) : Nat) : Int)) H := fun h1 h2 h3 h4 => kQ _ (by
      unfold numRun
      rw [if_pos]
      simp only [Bool.and_eq_true, Bool.not_eq_true', decide_eq_true_iff, List.headD_cons]
      refine ⟨⟨⟨h1, ?_⟩, h3⟩, h4⟩
      by_cases hc : c = 48
      · refine Bool.and_eq_false_iff.mpr (.inr (decide_eq_false fun z => h2 ⟨hc, z⟩))
      · exact Bool.and_eq_false_iff.mpr (.inl (decide_eq_false hc)))
    walk_at "rd"
    refine ⟨tyS, ?_⟩
    refine w_isdigit hne (fun d hd => aJ_ascii d (hJ d hd)) ?_
    walk_at "rd"
    refine w_ifb (fun hd => ?_) (fun hd => ?_)
    · walk_at "rd"
      refine raise_I hi (bad fun z => ?_)
      have h1 : (c :: r).all digC = true := z.1
      have h2 : (!((c :: r).all digC)) = true := hd
      rw [h1] at h2; cases h2
    · have hall : (c :: r).all digC = true := by
        have h2 : (!((c :: r).all digC)) = false := hd
        cases h3 : (c :: r).all digC with
        | true => rfl
        | false => rw [h3] at h2; cases h2
      walk_at "rd"
      refine w_ixS (by omega) at_zeroX ?_
      walk_at "rd"
      rw [e0]
      have hz : (c = 48 ∧ 1 < (c :: r).length) → Err C E H i := fun y => bad fun z => z.2.1 y
      have hdig : NumText.AllDigits (c :: r) := fun d hd => by
        have := List.all_eq_true.mp hall d hd
        unfold digC at this
        rw [Bool.and_eq_true, decide_eq_true_iff, decide_eq_true_iff] at this
        exact this
      have hval : (c :: r).length ≤ 10 → PySem.intText? ⟨(c :: r).toArray⟩ = some ((NumText.digitsVal (c :: r) : Nat) : Int) := fun hl => PySem.intText_digits (x := ⟨(c :: r).toArray⟩) hdig hne (by rw [len_T]; omega)
      refine w_ifT (fun h48 => ?_) (fun h48 => ?_)
      · have hc : c = 48 := (List.cons.inj h48).1
        walk_at "rd"
        refine w_lenS (by omega) ?_
        walk_at "rd"
        refine w_if (fun h1 => ?_) (fun h1 => ?_)
        · walk_at "rd"
          exact raise_I hi (hz ⟨hc, by omega⟩)
        · walk_at "rd"
          have hlen : (c :: r).length ≤ 1 := by omega
          refine w_lenS (by omega) ?_
          walk_at "rd"
          refine w_if (fun h2 => ?_) (fun h2 => ?_)
          · exact absurd h2 (by omega)
          · walk_at "rd"
            refine w_intS (hval (by omega)) (by omega) ?_
            walk_at "rd"
            refine w_if (fun h3 => ?_) (fun h3 => ?_)
            · walk_at "rd"
              exact raise_I hi (bad fun z => by omega)
            · walk_at "rd"
              refine w_intS (hval (by omega)) (by omega) ?_
              exact good hall (fun y => by omega) (by omega) (by omega)
      · have hc : ¬ c = 48 := fun e => h48 (by rw [e])
        walk_at "rd"
        refine w_lenS (by omega) ?_
        walk_at "rd"
        refine w_if (fun h2 => ?_) (fun h2 => ?_)
        · walk_at "rd"
          exact raise_I hi (bad fun z => by omega)
        · walk_at "rd"
          refine w_intS (hval (by omega)) (by omega) ?_
          walk_at "rd"
          refine w_if (fun h3 => ?_) (fun h3 => ?_)
          · walk_at "rd"
            exact raise_I hi (bad fun z => by omega)
          · walk_at "rd"
            refine w_intS (hval (by omega)) (by omega) ?_
            exact good hall (fun y => hc y.1) (by omega) (by omega)

abbrev s_token_of_run : Stmt := topS 22
abbrev N_token_of_run : List Str := ["run", "at"]
theorem sc_token_of_run : FnScope N_token_of_run ["run", "at"] (defScope s_token_of_run) := ⟨rfl, rfl, rfl, by decide +kernel, rfl, by decide +kernel, by decide +kernel⟩
def spTokRun (C : Addr) : Sp := fun vs H Q E => ∃ (a : List Nat) (i : Nat), vs = [T a, .int (i : Int)] ∧ a ≠ [] ∧ (∀ c ∈ a, c ∈ aJ) ∧ a.length ≤ 100000 ∧ i ≤ 1000000 ∧
  (∀ (k : List Nat) (v : V), ofRun a = some (k, v) → ∀ p H', H p = none → Same H H' → H' p = some (.tup [T k, v]) → Q (.ref p) H') ∧ (ofRun a = none → Err C E H i)
theorem w_inWords {a : List Nat} {p : Addr} {H : Hp} {Q : VK} (h : ∀ H, SqT K H p (WL.map T)) (k : Q (.bl (decide (a ∈ WL))) H) : rIn K false (T a) (.ref p) H Q := w_inT (h H) k
theorem ok_token_of_run {f : Addr} {fd : FuncData} (F : Fun K "_token_of_run" "_token_of_run" s_token_of_run f fd) (Z : TokTx P K mg C fI) (Y : Bn mg) (c_number_of : CalX P w K mg base 1 "_number_of" (spNumOf C)) : FnOk P w K mg base (L2.CX P w) 2 f fd ["run", "at"] (spTokRun C) := by
  obtain ⟨aW, gW, hW⟩ := Z.c_WORDS
  refine F.okX sc_token_of_run (fun vs H Q E h => ?_) (fun cdv A outer s H vs Q E hr h => ?_)
  · obtain ⟨a, i, rfl, _⟩ := h
    rfl
  · obtain ⟨a, i, rfl, hne, hJ, hl, hi, kQ, kE⟩ := h
    have nd := sc_token_of_run.nd
    refine ⟨_, (pss_cons (ps_if (pt_cmpR op_inC (pe_ix ix_str (pv 0) pe_int (fun _ _ => rfl)) (pe_gc rfl Z.c_DIGITS) (by rfl)) (pss_one (ps_ret (pe_tup (pa_cons pe_str (pa_cons (pe_cx c_number_of hr (by decide) rfl px_of (pa_cons (pv 0) (pa_cons (pv 1) pa_nil))) pa_nil))))) pss_nil)
      (pss_cons (ps_if (pt_cmpR op_gt (pe_callB call_lenS (by rfl) Y.n_len (by decide +kernel) (pa_cons (pv 0) pa_nil)) (pe_gc rfl Z.c_LONGEST_NAME) (nomark _)) (pss_one (ps_raiseSrc rfl Z.src hr tk_of (pa_cons (pv 1) pa_nil))) pss_nil)
      (pss_cons (ps_if (pt_cmpR op_inC (pe_ix ix_str (pv 0) pe_int (fun _ _ => rfl)) (pe_gc rfl Z.c_CAPITAL) (by rfl)) (pss_one (ps_ret (pe_tup (pa_cons pe_str (pa_cons (pv 0) pa_nil))))) pss_nil)
      (pss_cons (ps_if (pt_cmpR op_in_seq (pv 0) (pe_gc rfl gW) (by rfl)) (pss_one (ps_ret (pe_tup (pa_cons pe_str (pa_cons (pv 0) pa_nil))))) pss_nil)
      (pss_one (ps_ret (pe_tup (pa_cons pe_str (pa_cons (pv 0) pa_nil))))))))), ?_⟩
    rw [show L2.start N_token_of_run [T a, .int (i : Int)] = [some (T a), some (.int (i : Int))] from rfl]
    obtain ⟨c, r, rfl⟩ : ∃ c r, a = c :: r := by
      cases a with
      | nil => exact absurd rfl hne
      | cons c r => exact ⟨c, r, rfl⟩
    unfold ofRun at kQ kE
    rw [List.headD_cons] at kQ kE
    walk_at "rd"
    refine w_ixS (by omega) at_zeroX ?_
    walk_at "rd"
    have ed := dig_iff c
    refine w_if (fun hd => ?_) (fun hd => ?_)
    · rw [decide_eq_true hd] at ed
      rw [if_pos ed.symm] at kQ kE
      walk_at "rd"
      refine ⟨c :: r, i, rfl, hne, hJ, hl, hi, fun n hn => ?_, fun hn => kE (by rw [hn]; rfl)⟩
      walk_at "rd"
      refine w_newT (by show 2 ≤ 1000000; decide) fun p H1 hp s1 h1 => ?_
      exact kQ _ _ (by rw [hn]; rfl) p H1 hp s1 h1
    · rw [decide_eq_false hd] at ed
      rw [if_neg (by rw [← ed]; exact Bool.false_ne_true)] at kQ kE
      walk_at "rd"
      refine w_lenS (by omega) ?_
      walk_at "rd"
      refine w_if (fun h20 => ?_) (fun h20 => ?_)
      · rw [if_pos (by omega)] at kE
        walk_at "rd"
        exact raise_I hi (kE rfl)
      · rw [if_neg (by omega)] at kQ
        walk_at "rd"
        refine w_ixS (by omega) at_zeroX ?_
        walk_at "rd"
        refine w_if (fun hu => ?_) (fun hu => ?_)
        · rw [if_pos hu] at kQ
          walk_at "rd"
          exact w_newT (by show 2 ≤ 1000000; decide) fun p H1 hp s1 h1 => kQ _ _ rfl p H1 hp s1 h1
        · rw [if_neg hu] at kQ
          walk_at "rd"
          refine w_inWords hW ?_
          walk_at "rd"
          refine w_if (fun hw => ?_) (fun hw => ?_)
          · rw [if_pos hw] at kQ
            walk_at "rd"
            exact w_newT (by show 2 ≤ 1000000; decide) fun p H1 hp s1 h1 => kQ _ _ rfl p H1 hp s1 h1
          · rw [if_neg hw] at kQ
            walk_at "rd"
            exact w_newT (by show 2 ≤ 1000000; decide) fun p H1 hp s1 h1 => kQ _ _ rfl p H1 hp s1 h1

abbrev s_mark_at : Stmt := topS 24
abbrev N_mark_at : List Str := ["text", "at", "mark"]
theorem sc_mark_at : FnScope N_mark_at ["text", "at"] (defScope s_mark_at) := ⟨rfl, rfl, rfl, by decide +kernel, rfl, by decide +kernel, by decide +kernel⟩
def spMark (C : Addr) : Sp := fun vs H Q E => ∃ (cs : List Nat) (i : Nat), vs = [T cs, .int (i : Int)] ∧ i ≤ cs.length ∧ cs.length ≤ 100000 ∧
  (∀ m, (MLs.find? fun m => m.isPrefixOf (cs.drop i)) = some m → Q (T m) H) ∧ ((MLs.find? fun m => m.isPrefixOf (cs.drop i)) = none → Err C E H i)
theorem find_here' {p : List Nat → Bool} : ∀ {l : List (List Nat)} {j : Nat} {m : List Nat}, l[j]? = some m → p m = true → (∀ k x, k < j → l[k]? = some x → p x = false) → l.find? p = some m
  | [], _, _, h, _, _ => by simp at h
  | a :: l, 0, m, h, hp, _ => by
    rw [List.getElem?_cons_zero] at h
    cases h
    rw [List.find?_cons, hp]
  | a :: l, j + 1, m, h, hp, hn => by
    rw [List.find?_cons, hn 0 a (Nat.zero_lt_succ j) rfl]
    exact find_here' (l := l) (j := j) (by simpa using h) hp fun k x hk hx => hn (k + 1) x (by omega) (by simpa using hx)
theorem ok_mark_at {f : Addr} {fd : FuncData} (F : Fun K "_mark_at" "_mark_at" s_mark_at f fd) (Z : TokTx P K mg C fI) : FnOk P w K mg base (L2.CX P w) 1 f fd ["text", "at"] (spMark C) := by
  obtain ⟨aM, gM, hM⟩ := Z.c_MARKS
  refine F.okX sc_mark_at (fun vs H Q E h => ?_) (fun cdv A outer s H vs Q E hr h => ?_)
  · obtain ⟨cs, i, rfl, _⟩ := h
    rfl
  · obtain ⟨cs, i, rfl, hi, hl, kQ, kE⟩ := h
    have nd := sc_mark_at.nd
    refine ⟨_, (pss_cons (ps_for po_of rfl (pi_tup (pe_gc rfl gM)) (pg_name (i := 2) nd rfl (Or.inl rfl)) (pss_one (ps_if (pt_val (pe_bm PySem.F.plainAttrs_str PySem.F.slot_str_startswith PySem.F.type_str_startswith mt_startsS (pv 0) (pa_cons (pv 2) (pa_cons (pv 1) pa_nil)))) (pss_one (ps_ret (pv 2))) pss_nil)))
      (pss_one (ps_raiseSrc rfl Z.src hr tk_of (pa_cons (pv 1) pa_nil)))), ?_⟩
    rw [show L2.start N_mark_at [T cs, .int (i : Int)] = [some (T cs), some (.int (i : Int)), none] from rfl]
    walk_at "rd"
    refine for_T (xs := MLs.map T) (fun j σ' H' => ∃ x, σ' = [some (T cs), some (.int (i : Int)), x] ∧ H' = H ∧ ∀ k m, k < j → MLs[k]? = some m → m.isPrefixOf (cs.drop i) = false)
      ⟨none, rfl, rfl, fun k x h => absurd h (Nat.not_lt_zero _)⟩ (fun _ _ H' _ _ => hM H') ?_ ?_
    · rintro j x σ' H' hx ⟨y, rfl, rfl, hn⟩
      obtain ⟨m, hm, rfl⟩ : ∃ m, MLs[j]? = some m ∧ x = T m := by
        rw [List.getElem?_map] at hx
        cases e : MLs[j]? with
        | none => rw [e] at hx; cases hx
        | some m => rw [e] at hx; exact ⟨m, rfl, (Option.some.inj hx).symm⟩
      walk_at "rd"
      refine ⟨tyS, ?_⟩
      walk_at "rd"
      refine w_starts hi ?_
      walk_at "rd"
      refine w_ifb (fun hp => ?_) (fun hp => ?_)
      · walk_at "rd"
        exact kQ m (find_here' hm hp hn)
      · refine ⟨_, rfl, rfl, fun k m' hk hm' => ?_⟩
        by_cases hkj : k < j
        · exact hn k m' hkj hm'
        · have : k = j := by omega
          subst this
          rw [hm] at hm'
          cases hm'
          exact hp
    · rintro σ' H' ⟨y, rfl, rfl, hn⟩
      walk_at "rd"
      refine raise_I (by omega) (kE ?_)
      rw [List.find?_eq_none]
      intro m hm
      obtain ⟨k, hk, e⟩ := List.mem_iff_getElem.mp hm
      have := hn k m (by rw [List.length_map]; exact hk) (by rw [List.getElem?_eq_getElem hk, e])
      rw [this]
      exact Bool.false_ne_true
end

section
variable {P : Program} {w : World} {K : PySem.W.Frag} {mg : Str → Option Value} {base : Heap} {C fI : Addr}
theorem drop_cons {cs : List Nat} {i : Nat} (h : i < cs.length) : cs.drop i = cs[i] :: cs.drop (i + 1) := List.drop_eq_getElem_cons h
theorem sqT_of {p : Addr} {xs : List V} {H : Hp} (h : H p = some (.tup xs)) : SqT K H p xs := Or.inl (Or.inl h)
abbrev s_token_at : Stmt := topS 17
abbrev N_token_at : List Str := ["text", "at", "end", "kind", "value", "mark"]
theorem sc_token_at : FnScope N_token_at ["text", "at"] (defScope s_token_at) := ⟨rfl, rfl, rfl, by decide +kernel, rfl, by decide +kernel, by decide +kernel⟩
def spTokAt (C : Addr) : Sp := fun vs H Q E => ∃ (cs : List Nat) (i : Nat), vs = [T cs, .int (i : Int)] ∧ i < cs.length ∧ cs.length ≤ 100000 ∧
  (∀ (k : List Nat) (v : V) (n : Nat), one (cs.drop i) = some (k, v, n) → ∀ p H', H p = none → Same H H' → H' p = some (.tup [T k, v, .int ((i + n : Nat) : Int)]) → Q (.ref p) H') ∧ (one (cs.drop i) = none → Err C E H i)
theorem ok_token_at {f : Addr} {fd : FuncData} (F : Fun K "_token_at" "_token_at" s_token_at f fd) (Z : TokTx P K mg C fI) (Y : Bn mg) (c_is_letter_or_digit : Cal P w K mg base 1 "_is_letter_or_digit" spLet []) (c_end_of_run : Cal P w K mg base 2 "_end_of_run" spEndRun [])
    (c_end_of_text : CalX P w K mg base 2 "_end_of_text" (spEndTx C)) (c_token_of_run : CalX P w K mg base 2 "_token_of_run" (spTokRun C)) (c_mark_at : CalX P w K mg base 1 "_mark_at" (spMark C)) : FnOk P w K mg base (L2.CX P w) 3 f fd ["text", "at"] (spTokAt C) := by
  refine F.okX sc_token_at (fun vs H Q E h => ?_) (fun cdv A outer s H vs Q E hr h => ?_)
  · obtain ⟨cs, i, rfl, _⟩ := h
    rfl
  · obtain ⟨cs, i, rfl, hi, hl, kQ, kE⟩ := h
    have nd := sc_token_at.nd
    refine ⟨_, (pss_cons (ps_if (pt_cmpR op_eq (pe_ix ix_str (pv 0) (pv 1) (fun _ _ => rfl)) (pe_gc rfl Z.c_QUOTE) (nomark _)) (pss_cons (ps_set (i := 2) nd rfl (Or.inl rfl) (pe_cx c_end_of_text hr (by decide) rfl px_of (pa_cons (pv 0) (pa_cons (pv 1) pa_nil))))
      (pss_one (ps_ret (pe_tup (pa_cons pe_str (pa_cons (pe_slice sl_str (pv 0) (po_some (pe_op op_add (pv 1) pe_int)) (po_some (pe_op op_sub (pv 2) pe_int))) (pa_cons (pv 2) pa_nil))))))) pss_nil)
      (pss_cons (ps_if (pt_val (pe_c c_is_letter_or_digit hr (by decide) rfl (pa_cons (pe_ix ix_str (pv 0) (pv 1) (fun _ _ => rfl)) pa_nil))) (pss_cons (ps_set (i := 2) nd rfl (Or.inl rfl) (pe_c c_end_of_run hr (by decide) rfl (pa_cons (pv 0) (pa_cons (pv 1) pa_nil))))
      (pss_cons (ps_asg (pe_cx c_token_of_run hr (by decide) rfl px_of (pa_cons (pe_slice sl_str (pv 0) (po_some (pv 1)) (po_some (pv 2))) (pa_cons (pv 1) pa_nil))) (pg_tup (by rfl) (pgs_cons (pg_name (i := 3) nd rfl (Or.inl rfl)) (pgs_cons (pg_name (i := 4) nd rfl (Or.inl rfl)) pgs_nil))))
      (pss_one (ps_ret (pe_tup (pa_cons (pv 3) (pa_cons (pv 4) (pa_cons (pv 2) pa_nil)))))))) pss_nil)
      (pss_cons (ps_set (i := 5) nd rfl (Or.inl rfl) (pe_cx c_mark_at hr (by decide) rfl px_of (pa_cons (pv 0) (pa_cons (pv 1) pa_nil))))
      (pss_one (ps_ret (pe_tup (pa_cons pe_str (pa_cons (pv 5) (pa_cons (pe_op op_add (pv 1) (pe_callB call_lenS (by rfl) Y.n_len (by decide +kernel) (pa_cons (pv 5) pa_nil))) pa_nil))))))))), ?_⟩
    rw [show L2.start N_token_at [T cs, .int (i : Int)] = [some (T cs), some (.int (i : Int)), none, none, none, none] from rfl]
    rw [drop_cons hi, one_cons] at kQ kE
    have hat := atI_nat (List.getElem?_eq_getElem hi)
    walk_at "rd"
    refine w_ixS (by omega) hat ?_
    walk_at "rd"
    refine w_ifT (fun hq => ?_) (fun hq => ?_)
    · have hc : cs[i] = 39 := (List.cons.inj hq).1
      rw [if_pos hc] at kQ kE
      walk_at "rd"
      refine ⟨cs, i, rfl, hi, hl, fun b hb => ?_, fun hn => kE (by rw [hn]; rfl)⟩
      walk_at "rd"
      refine w_slS (by omega) ?_
      have hbl : b = upQ (cs.drop (i + 1)) ∧ i + 1 + b.length < cs.length := by
        unfold endTx at hb
        split at hb
        · rename_i hz
          cases hb
          rw [Bool.and_eq_true, Bool.and_eq_true, decide_eq_true_iff] at hz
          have := hz.1.1
          rw [List.length_drop] at this
          exact ⟨rfl, by omega⟩
        · cases hb
      have ec : cut cs (some ((i : Int) + 1)) (some (((i + b.length + 2 : Nat) : Int) - 1)) = b := by
        have e1 : ((i : Int) + 1) = ((i + 1 : Nat) : Int) := by omega
        have e2 : (((i + b.length + 2 : Nat) : Int) - 1) = ((i + 1 + b.length : Nat) : Int) := by omega
        rw [e1, e2, cut_mid cs (by omega), show i + 1 + b.length - (i + 1) = b.length by omega]
        have := tw_take (p := fun x => x != 39) (cs.drop (i + 1))
        rw [hbl.1]
        exact this.symm
      rw [ec]
      walk_at "rd"
      refine w_newT (by show 3 ≤ 1000000; decide) fun p H1 hp s1 h1 => ?_
      refine kQ _ _ (b.length + 2) (by rw [hb]; rfl) p H1 hp s1 ?_
      rw [h1]
      rfl
    · have hc : ¬ cs[i] = 39 := fun e => hq (by rw [e])
      rw [if_neg hc] at kQ kE
      walk_at "rd"
      refine w_ixS (by omega) hat ?_
      walk_at "rd"
      refine ⟨_, rfl, ?_⟩
      walk_at "rd"
      refine w_ifb (fun hlt => ?_) (fun hlt => ?_)
      · rw [if_pos hlt] at kQ kE
        rw [← drop_cons hi] at kQ kE
        walk_at "rd"
        refine ⟨cs, i, rfl, by omega, hl, ?_⟩
        walk_at "rd"
        refine w_slS (by omega) ?_
        have hn := tw_le (p := letC) (cs.drop i)
        rw [List.length_drop] at hn
        have ec : cut cs (some (i : Int)) (some ((i + ((cs.drop i).takeWhile letC).length : Nat) : Int)) = (cs.drop i).takeWhile letC := by
          rw [cut_mid cs (by omega), show i + ((cs.drop i).takeWhile letC).length - i = ((cs.drop i).takeWhile letC).length by omega]
          exact (tw_take _).symm
        rw [ec]
        have hne : (cs.drop i).takeWhile letC ≠ [] := by
          rw [drop_cons hi, List.takeWhile_cons, if_pos hlt]
          exact List.cons_ne_nil _ _
        have hJ : ∀ c ∈ (cs.drop i).takeWhile letC, c ∈ aJ := fun c hc => by
          obtain ⟨k, hk, e⟩ := List.mem_iff_getElem.mp hc
          have hx : ((cs.drop i).takeWhile letC)[k]? = some c := by rw [List.getElem?_eq_getElem hk, e]
          rw [tw_take, List.getElem?_take_of_lt hk] at hx
          exact of_decide_eq_true (tw_get hk hx)
        walk_at "rd"
        refine ⟨_, i, rfl, hne, hJ, by omega, by omega, fun k v hk p H1 hp s1 h1 => ?_, fun hn => kE (by rw [hn]; rfl)⟩
        walk_at "rd"
        refine ⟨p, _, rfl, sqT_of h1, rfl, ?_⟩
        refine ⟨_, _, rfl, ?_⟩
        walk_at "rd"
        refine ⟨_, _, rfl, ?_⟩
        walk_at "rd"
        refine ⟨rfl, ?_⟩
        walk_at "rd"
        refine w_newT (by show 3 ≤ 1000000; decide) fun p2 H2 hp2 s2 h2 => ?_
        exact kQ _ _ _ (by rw [hk]; rfl) p2 H2 (s1.free hp2) (s1.trans s2) h2
      · rw [if_neg (by rw [hlt]; exact Bool.false_ne_true)] at kQ kE
        rw [← drop_cons hi] at kQ kE
        walk_at "rd"
        refine ⟨cs, i, rfl, by omega, hl, fun m hm => ?_, fun hn => kE (by rw [hn]; rfl)⟩
        have hml : m.length ≤ cs.length := by
          have := List.find?_some hm
          have := (List.isPrefixOf_iff_prefix.mp this).length_le
          rw [List.length_drop] at this
          omega
        walk_at "rd"
        refine w_lenS (by omega) ?_
        walk_at "rd"
        refine w_newT (by show 3 ≤ 1000000; decide) fun p H1 hp s1 h1 => ?_
        refine kQ _ _ m.length (by rw [hm]; rfl) p H1 hp s1 ?_
        rw [h1]
        rfl

/-- the tokens, each a tuple at its place -/
def TokAt (H : Hp) (ps : List Addr) (ts : List Tk) : Prop := Paired (fun p (t : Tk) => H p = some (.tup [T t.1, t.2.1, .int (t.2.2 : Int)])) ps ts
theorem TokAt.same {H H' : Hp} (s : Same H H') : ∀ {ps : List Addr} {ts : List Tk}, TokAt H ps ts → TokAt H' ps ts
  | _, _, .nil => .nil
  | _, _, .cons h t => .cons (s _ _ h) (TokAt.same s t)
theorem TokAt.snoc {H : Hp} {p : Addr} {t : Tk} (h : H p = some (.tup [T t.1, t.2.1, .int (t.2.2 : Int)])) : ∀ {ps : List Addr} {ts : List Tk}, TokAt H ps ts → TokAt H (ps ++ [p]) (ts ++ [t])
  | _, _, .nil => .cons h .nil
  | _, _, .cons a r => .cons a (TokAt.snoc h r)
/-- a list changes that the heap of the entry has not -/
theorem TokAt.but {H H' : Hp} {D : Addr} (k : ∀ b o, b ≠ D → H b = some o → H' b = some o) (hD : ∀ t, H D ≠ some (.tup t)) : ∀ {ps : List Addr} {ts : List Tk}, TokAt H ps ts → TokAt H' ps ts
  | _, _, .nil => .nil
  | _, _, .cons h t => .cons (k _ _ (fun e => hD _ (e ▸ h)) h) (TokAt.but k hD t)
abbrev s_tokenize : Stmt := topS 16
abbrev N_tokenize : List Str := ["text", "tokens", "at", "kind", "value", "end"]
theorem sc_tokenize : FnScope N_tokenize ["text"] (defScope s_tokenize) := ⟨rfl, rfl, rfl, by decide +kernel, rfl, by decide +kernel, by decide +kernel⟩
def spTokenize (C : Addr) : Sp := fun vs H Q E => ∃ (cs : List Nat), vs = [T cs] ∧ cs.length ≤ 100000 ∧
  (∀ ts, lex 0 cs = (ts, none) → ∀ p ps H', H p = none → Same H H' → H' p = some (.lst (ps.map V.ref)) → TokAt H' ps ts → ts.length ≤ cs.length → Q (.ref p) H') ∧ (∀ ts i, lex 0 cs = (ts, some i) → Err C E H i)
theorem ok_tokenize {f : Addr} {fd : FuncData} (F : Fun K "tokenize" "tokenize" s_tokenize f fd) (Y : Bn mg) (c_token_at : CalX P w K mg base 3 "_token_at" (spTokAt C)) : FnOk P w K mg base (L2.CX P w) 4 f fd ["text"] (spTokenize C) := by
  refine F.okX sc_tokenize (fun vs H Q E h => ?_) (fun cdv A outer s H vs Q E hr h => ?_)
  · obtain ⟨cs, rfl, _⟩ := h
    rfl
  · obtain ⟨cs, rfl, hl, kQ, kE⟩ := h
    have nd := sc_tokenize.nd
    refine ⟨_, (pss_cons (ps_set (i := 1) nd rfl (Or.inl rfl) (pe_lst pa_nil))
      (pss_cons (ps_set (i := 2) nd rfl (Or.inl rfl) pe_int)
      (pss_cons (ps_while po_of (pt_cmpR op_lt (pv 2) (pe_callB call_lenS (by rfl) Y.n_len (by decide +kernel) (pa_cons (pv 0) pa_nil)) (nomark _)) (pss_one (ps_if (pt_cmpR op_eq (pe_ix ix_str (pv 0) (pv 2) (fun _ _ => rfl)) pe_str (nomark _)) (pss_one (ps_aug (i := 2) nd rfl (Or.inl rfl) pe_int ip_add)) (pss_cons (ps_asg (pe_cx c_token_at hr (by decide) rfl px_of (pa_cons (pv 0) (pa_cons (pv 2) pa_nil))) (pg_tup (by rfl) (pgs_cons (pg_name (i := 3) nd rfl (Or.inl rfl)) (pgs_cons (pg_name (i := 4) nd rfl (Or.inl rfl)) (pgs_cons (pg_name (i := 5) nd rfl (Or.inl rfl)) pgs_nil)))))
      (pss_cons (ps_expr (pe_bm PySem.F.plainAttrs_list PySem.F.slot_list_append PySem.F.type_list_append mt_append (pv 1) (pa_cons (pe_tup (pa_cons (pv 3) (pa_cons (pv 4) (pa_cons (pv 2) pa_nil)))) pa_nil)))
      (pss_one (ps_set (i := 2) nd rfl (Or.inl rfl) (pv 5))))))))
      (pss_one (ps_ret (pv 1)))))), ?_⟩
    rw [show L2.start N_tokenize [T cs] = [some (T cs), none, none, none, none, none] from rfl]
    walk_at "rd"
    refine w_newL (by show 0 ≤ 1000000; decide) fun D H1 hD s1 h1 => ?_
    walk_at "rd"
    refine ⟨fun m σ' H' => ∃ (i : Nat) (ps : List Addr) (ts : List Tk) (x y z : Option V), σ' = [some (T cs), some (.ref D), some (.int (i : Int)), x, y, z] ∧ i ≤ cs.length ∧ m = cs.length - i ∧ Same H H' ∧ H' D = some (.lst (ps.map V.ref)) ∧ TokAt H' ps ts ∧ ts.length ≤ i ∧
        lex 0 cs = (ts ++ (lex i (cs.drop i)).1, (lex i (cs.drop i)).2), ⟨cs.length, 0, [], [], none, none, none, rfl, Nat.zero_le _, rfl, s1, h1, .nil, Nat.zero_le _, rfl⟩, ?_⟩
    rintro m σ' H' ⟨i, ps, ts, x, y, z, rfl, hi, rfl, sm, hL, hT, hlen, hlex⟩
    walk_at "rd"
    refine w_lenS (by omega) ?_
    walk_at "rd"
    refine w_if (fun hlt => ?_) (fun hlt => ?_)
    · have hi2 : i < cs.length := by omega
      refine ⟨fun σ' H' => ∃ (i' : Nat) (ps : List Addr) (ts : List Tk) (x y z : Option V), i < i' ∧ σ' = [some (T cs), some (.ref D), some (.int (i' : Int)), x, y, z] ∧ i' ≤ cs.length ∧ Same H H' ∧ H' D = some (.lst (ps.map V.ref)) ∧ TokAt H' ps ts ∧ ts.length ≤ i' ∧
        lex 0 cs = (ts ++ (lex i' (cs.drop i')).1, (lex i' (cs.drop i')).2), fun σ'' H'' ⟨i', ps, ts, x, y, z, h1, h2, h3, h4, h5, h6, h7, h8⟩ => ⟨cs.length - i', by omega, i', ps, ts, x, y, z, h2, h3, rfl, h4, h5, h6, h7, h8⟩, ?_⟩
      rw [drop_cons hi2] at hlex
      walk_at "rd"
      refine w_ixS (by omega) (atI_nat (List.getElem?_eq_getElem hi2)) ?_
      walk_at "rd"
      rw [show (Str.ofString " ").cps.toList = [32] by decide +kernel]
      refine w_ifT (fun hs => ?_) (fun hs => ?_)
      · have hc : cs[i] = 32 := (List.cons.inj hs).1
        rw [hc, lex_sp] at hlex
        refine w_aug (by with_unfolding_all exact rfl) ?_
        walk_at "rd"
        refine ⟨_, _, rfl, rfl, ?_⟩
        exact ⟨i + 1, ps, ts, x, y, z, by omega, rfl, by omega, sm, hL, hT, by omega, hlex⟩
      · have hc : ¬ cs[i] = 32 := fun e => hs (by rw [e])
        walk_at "rd"
        refine ⟨cs, i, rfl, hi2, hl, fun k v n hk p H2 hp s2 h2 => ?_, fun hn => ?_⟩
        · rw [drop_cons hi2] at hk
          have hpos := one_pos hk
          rw [← drop_cons hi2, List.length_drop] at hpos
          rw [lex_tok hc hk] at hlex
          walk_at "rd"
          refine ⟨p, _, rfl, sqT_of h2, rfl, ?_⟩
          refine ⟨_, _, rfl, ?_⟩
          walk_at "rd"
          refine ⟨_, _, rfl, ?_⟩
          walk_at "rd"
          refine ⟨_, _, rfl, ?_⟩
          walk_at "rd"
          refine ⟨rfl, ?_⟩
          walk_at "rd"
          have hL2 := s2 _ _ hL
          refine ⟨tyL (SqL.of hL2), ?_⟩
          walk_at "rd"
          refine w_newT (by show 3 ≤ 1000000; decide) fun p3 H3 hp3 s3 h3 => ?_
          walk_at "rd"
          have hpl : ps.length = ts.length := hT.length
          refine w_app2 (s3 _ _ hL2) (by rw [List.length_map]; omega) fun H4 h4 k4 => ?_
          walk_at "rd"
          have hDt : ∀ t, H3 D ≠ some (.tup t) := fun t e => by rw [s3 _ _ hL2] at e; cases e
          have sm4 : Same H H4 := fun b o hb => k4 b o (ne_of_none hb hD) (s3 _ _ (s2 _ _ (sm _ _ hb)))
          refine ⟨i + n, ps ++ [p3], ts ++ [(k, v, i)], _, _, _, by omega, rfl, by omega, sm4, ?_, ?_, ?_, ?_⟩
          · rw [h4, List.map_append]; rfl
          · refine TokAt.but k4 hDt (TokAt.snoc h3 ((hT.same s2).same s3))
          · rw [List.length_append]; show ts.length + 1 ≤ i + n; omega
          · rw [hlex, List.append_assoc, List.drop_drop]
            have : i + 1 + (n - 1) = i + n := by omega
            rw [this]
            rfl
        · rw [drop_cons hi2] at hn
          rw [lex_wrong hc hn] at hlex
          exact (kE _ _ hlex).mono sm
    · have : i = cs.length := by omega
      subst this
      rw [List.drop_length, lex_nil, List.append_nil] at hlex
      walk_at "rd"
      exact kQ ts hlex D ps H' hD sm hL hT hlen
end

/-! ### tokens as data -/
def vD : V → PyData
  | .str x => .str x
  | .int i => .int i
  | _ => .none
def tkD (t : Tk) : PyData := .tuple [.str ⟨t.1.toArray⟩, vD t.2.1, .int (t.2.2 : Int)]
def FlatTk (t : Tk) : Prop := (∀ c ∈ t.1, c < 128) ∧ ((∃ a : List Nat, t.2.1 = T a ∧ ∀ c ∈ a, c < 128) ∨ ∃ i : Int, t.2.1 = .int i)
theorem strOk_T {a : List Nat} (h : ∀ c ∈ a, c < 128) : (PyData.str ⟨a.toArray⟩).canLay0 = true := by
  show (a.toArray.all fun c => decide (c < 0x110000)) = true
  rw [List.all_toArray, List.all_eq_true]
  intro c hc
  have := h c hc
  exact decide_eq_true (by omega)
theorem tkD_lay {t : Tk} (h : FlatTk t) : (tkD t).canLay0 = true ∧ (tkD t).depth = 1 := by
  obtain ⟨k, v, n⟩ := t
  obtain ⟨hk, h⟩ := h
  rcases h with ⟨a, rfl, ha⟩ | ⟨i, rfl⟩
  · refine ⟨?_, rfl⟩
    show ((PyData.str ⟨k.toArray⟩).canLay0 && ((PyData.str ⟨a.toArray⟩).canLay0 && (true && true))) = true
    rw [strOk_T hk, strOk_T ha]; rfl
  · refine ⟨?_, rfl⟩
    show ((PyData.str ⟨k.toArray⟩).canLay0 && (true && (true && true))) = true
    rw [strOk_T hk]; rfl
theorem tks_lay : ∀ {ts : List Tk}, (∀ t ∈ ts, FlatTk t) → PyData.canLayAll0 (ts.map tkD) = true ∧ PyData.depthAll (ts.map tkD) ≤ 1
  | [], _ => ⟨rfl, Nat.zero_le _⟩
  | t :: ts, h => by
    obtain ⟨h1, h2⟩ := tkD_lay (h t List.mem_cons_self)
    obtain ⟨h3, h4⟩ := tks_lay (ts := ts) fun t ht => h t (List.mem_cons_of_mem _ ht)
    refine ⟨?_, ?_⟩
    · show ((tkD t).canLay0 && PyData.canLayAll0 (ts.map tkD)) = true
      rw [h1, h3]; rfl
    · show max (tkD t).depth (PyData.depthAll (ts.map tkD)) ≤ 1
      rw [h2]; omega
theorem list_shaped {ts : List Tk} (h : ∀ t ∈ ts, FlatTk t) : SeqAt.shaped (.list (ts.map tkD)) = true := by
  obtain ⟨h1, h2⟩ := tks_lay h
  unfold SeqAt.shaped
  rw [Bool.and_eq_true]
  refine ⟨h1, decide_eq_true ?_⟩
  show PyData.depthAll (ts.map tkD) + 1 ≤ 64
  omega
theorem dp_tks {K : PySem.W.Frag} {H : Hp} : ∀ {ps : List Addr} {ts : List Tk}, TokAt H ps ts → (∀ t ∈ ts, FlatTk t) → DpAll K H (ps.map V.ref) (ts.map tkD)
  | _, _, .nil, _ => .nil
  | _, _, .cons (l₁ := _) (b := t) h r, f => by
    refine .cons (.tup (sqT_of h) ?_) (dp_tks r fun t ht => f t (List.mem_cons_of_mem _ ht))
    refine .cons (.str _) (.cons ?_ (.cons (.int _) .nil))
    rcases (f t List.mem_cons_self).2 with ⟨a, e, _⟩ | ⟨i, e⟩
    · rw [e]; exact .str _
    · rw [e]; exact .int _
theorem dp_list {K : PySem.W.Frag} {H : Hp} {p : Addr} {ps : List Addr} {ts : List Tk} (hp : H p = some (.lst (ps.map V.ref))) (h : TokAt H ps ts) (f : ∀ t ∈ ts, FlatTk t) : Dp K H (.ref p) (.list (ts.map tkD)) :=
  .lst (SqL.of hp) (dp_tks h f)
theorem TokAt.get {H : Hp} : ∀ {ps : List Addr} {ts : List Tk} {i : Nat} {p : Addr}, TokAt H ps ts → ps[i]? = some p → ∃ t, t ∈ ts ∧ H p = some (.tup [T t.1, t.2.1, .int (t.2.2 : Int)])
  | _, _, _, _, .nil, h => by simp at h
  | _, _, 0, _, .cons (b := t) h _, e => by
    rw [List.getElem?_cons_zero] at e
    cases e
    exact ⟨t, List.mem_cons_self, h⟩
  | _, _, i + 1, p, .cons _ r, e => by
    obtain ⟨t, h1, h2⟩ := TokAt.get r (i := i) (by simpa using e)
    exact ⟨t, List.mem_cons_of_mem _ h1, h2⟩

theorem w_isBool {K : PySem.W.Frag} {H : Hp} {Q : VK} {v : V} (h : (∃ a : List Nat, v = T a ∧ ∀ c ∈ a, c < 128) ∨ ∃ i : Int, v = .int i) (k : Q (.bl false) H) : rIsi K [v, .ty "bool"] H Q := by
  rcases h with ⟨a, rfl, _⟩ | ⟨i, rfl⟩
  · exact ⟨_, _, _, _, _, rfl, .ty _, .base (.str _), kit_ty (r := false) (by decide +kernel), k⟩
  · exact ⟨_, _, _, _, _, rfl, .ty _, .base (.int _), kit_ty (r := false) (by decide +kernel), k⟩

theorem const_ascii {x : List Nat} (h : x ∈ (["number", "class", "word", "name", "text", "mark"].map cds)) : ∀ c ∈ x, c < 128 := by
  revert x
  decide +kernel
theorem MLs_ascii : ∀ m ∈ MLs, ∀ c ∈ m, c < 128 := by decide +kernel
theorem ofRun_flat {a k : List Nat} {v : V} (ha : ∀ c ∈ a, c < 128) (h : ofRun a = some (k, v)) : (∀ c ∈ k, c < 128) ∧ ((∃ b : List Nat, v = T b ∧ ∀ c ∈ b, c < 128) ∨ ∃ i : Int, v = .int i) := by
  unfold ofRun at h
  split at h
  · cases e : numRun a with
    | none => rw [e] at h; cases h
    | some n =>
      rw [e] at h
      cases h
      exact ⟨const_ascii (by simp), .inr ⟨_, rfl⟩⟩
  · split at h
    · cases h
    · split at h
      · cases h; exact ⟨const_ascii (by simp), .inl ⟨a, rfl, ha⟩⟩
      · split at h
        · cases h; exact ⟨const_ascii (by simp), .inl ⟨a, rfl, ha⟩⟩
        · cases h; exact ⟨const_ascii (by simp), .inl ⟨a, rfl, ha⟩⟩
theorem one_flat {l k : List Nat} {v : V} {n : Nat} (hl : ∀ c ∈ l, c < 128) (h : one l = some (k, v, n)) : (∀ c ∈ k, c < 128) ∧ ((∃ b : List Nat, v = T b ∧ ∀ c ∈ b, c < 128) ∨ ∃ i : Int, v = .int i) := by
  cases l with
  | nil => cases h
  | cons c r =>
    rw [one_cons] at h
    split at h
    · cases e : endTx r with
      | none => rw [e] at h; cases h
      | some b =>
        rw [e] at h
        cases h
        refine ⟨const_ascii (by simp), .inl ⟨b, rfl, fun d hd => ?_⟩⟩
        unfold endTx at e
        split at e
        · cases e
          exact hl d (List.mem_cons_of_mem _ ((List.takeWhile_sublist _).subset hd))
        · cases e
    · split at h
      · cases e : ofRun ((c :: r).takeWhile letC) with
        | none => rw [e] at h; cases h
        | some p =>
          obtain ⟨k', v'⟩ := p
          rw [e] at h
          cases h
          exact ofRun_flat (fun d hd => hl d ((List.takeWhile_sublist _).subset hd)) e
      · cases e : MLs.find? fun m => m.isPrefixOf (c :: r) with
        | none => rw [e] at h; cases h
        | some m =>
          rw [e] at h
          cases h
          exact ⟨const_ascii (by simp), .inl ⟨m, rfl, MLs_ascii m (List.mem_of_find?_eq_some e)⟩⟩
theorem lex_flat : ∀ {n : Nat} {l : List Nat} {pos : Nat}, l.length ≤ n → (∀ c ∈ l, c < 128) → ∀ t ∈ (lex pos l).1, FlatTk t
  | 0, l, pos, hn, _, t, ht => by
    cases l with
    | nil => rw [lex_nil] at ht; cases ht
    | cons c r => simp at hn
  | n + 1, [], pos, hn, _, t, ht => by rw [lex_nil] at ht; cases ht
  | n + 1, c :: r, pos, hn, hl, t, ht => by
    by_cases hc : c = 32
    · subst hc
      rw [lex_sp] at ht
      exact lex_flat (n := n) (by simpa using hn) (fun d hd => hl d (List.mem_cons_of_mem _ hd)) t ht
    · cases e : one (c :: r) with
      | none => rw [lex_wrong hc e] at ht; cases ht
      | some p =>
        obtain ⟨k, v, m⟩ := p
        rw [lex_tok hc e] at ht
        rcases List.mem_cons.mp ht with rfl | ht
        · exact one_flat hl e
        · refine lex_flat (n := n) ?_ (fun d hd => hl d (List.mem_cons_of_mem _ (List.mem_of_mem_drop hd))) t ht
          rw [List.length_drop]
          simp at hn
          omega
/-- ("tokens", tokens); ("wrong", a place) -/
theorem pair_shaped {ts : List Tk} (h : ∀ t ∈ ts, FlatTk t) : SeqAt.shaped (.tuple [.str (Str.ofString "tokens"), .list (ts.map tkD)]) = true := by
  obtain ⟨h1, h2⟩ := tks_lay h
  unfold SeqAt.shaped
  rw [Bool.and_eq_true]
  refine ⟨?_, decide_eq_true ?_⟩
  · show ((PyData.str (Str.ofString "tokens")).canLay0 && (PyData.canLayAll0 (ts.map tkD) && true)) = true
    rw [h1]
    decide +kernel
  · show max (0 : Nat) (max (PyData.depthAll (ts.map tkD) + 1) 0) + 1 ≤ 64
    omega
theorem wrong_shaped {i : Int} : SeqAt.shaped (.tuple [.str (Str.ofString "wrong"), .int i]) = true := by
  unfold SeqAt.shaped
  rw [Bool.and_eq_true]
  refine ⟨?_, decide_eq_true ?_⟩
  · show ((PyData.str (Str.ofString "wrong")).canLay0 && (true && true)) = true
    decide +kernel
  · show max (0 : Nat) (max 0 0) + 1 ≤ 64
    omega

/-- the signs that are drawn -/
abbrev aSg : List Nat := cds " !\"#$&'()*+,-./0123456789:;<=>?@ABCDEFGHIJKLMNOPQRSTUVWXYZ[\\]^_`abcdefghijklmnopqrstuvwxyz{|}~"
theorem len_aSg : aSg.length = 94 := by decide +kernel
theorem src_aSg : ∀ c ∈ aSg, srcC c = true := by decide +kernel
theorem src_aDig : ∀ c, digC c = true → srcC c = true := fun c h => by
  unfold digC at h
  unfold srcC
  rw [Bool.and_eq_true, decide_eq_true_iff, decide_eq_true_iff] at h
  rw [decide_eq_true (by omega), decide_eq_true (by omega), decide_eq_false (by omega)]; rfl
def IsPiece (a : List Nat) : Prop := (∀ d ∈ a, srcC d = true) ∧ a.length ≤ 204
theorem srcAll_app {a b : List Nat} (ha : ∀ d ∈ a, srcC d = true) (hb : ∀ d ∈ b, srcC d = true) : ∀ d ∈ a ++ b, srcC d = true := fun d hd => by
  rcases List.mem_append.mp hd with h | h
  · exact ha d h
  · exact hb d h
theorem srcAll_one {c : Nat} (h : c ∈ aSg) : ∀ d ∈ [c], srcC d = true := fun d hd => by
  rw [List.mem_singleton.mp hd]; exact src_aSg c h
theorem srcAll_num (n : Nat) : ∀ d ∈ numL n, srcC d = true := fun d hd => by
  have := numL_digits n d hd
  refine src_aDig d ?_
  unfold digC
  rw [decide_eq_true this.1, decide_eq_true this.2]; rfl

section
variable {P : Program} {w : World} {K : PySem.W.Frag} {mg : Str → Option Value} {base : Heap}

abbrev s_law_words : Stmt := topS 28
abbrev N_law_words : List Str := ["words"]
theorem sc_law_words : FnScope N_law_words [] (defScope s_law_words) := ⟨rfl, rfl, rfl, by decide +kernel, rfl, by decide +kernel, by decide +kernel⟩
def spWords : Sp := fun vs H Q _ => vs = [] ∧ ∀ p H', Same H H' → H p = none → H' p = some (.lst (WL.map T)) → Q (.ref p) H'
theorem ok_law_words {f : Addr} {fd : FuncData} (F : Fun K "_law_words" "_law_words" s_law_words f fd) : FnOk P w K mg base CX0 1 f fd [] spWords := by
  refine F.ok sc_law_words (fun vs H Q E h => ?_) (fun cdv A outer s H vs Q E hr h => ?_)
  · obtain ⟨rfl, _⟩ := h
    rfl
  · obtain ⟨rfl, kQ⟩ := h
    have nd := sc_law_words.nd
    refine ⟨_, (pss_cons (ps_set (i := 0) nd rfl (Or.inl rfl) (pe_lst (pa_cons pe_str (pa_cons pe_str (pa_cons pe_str (pa_cons pe_str (pa_cons pe_str (pa_cons pe_str (pa_cons pe_str (pa_cons pe_str (pa_cons pe_str (pa_cons pe_str (pa_cons pe_str (pa_cons pe_str (pa_cons pe_str pa_nil)))))))))))))))
      (pss_one (ps_ret (pe_op op_cat (pv 0) (pe_lst (pa_cons pe_str (pa_cons pe_str (pa_cons pe_str (pa_cons pe_str (pa_cons pe_str (pa_cons pe_str (pa_cons pe_str (pa_cons pe_str (pa_cons pe_str (pa_cons pe_str pa_nil))))))))))))))), ?_⟩
    rw [show L2.start N_law_words [] = [none] from rfl]
    walk_at "rd"
    refine w_newL (by show 13 ≤ 1000000; decide) fun p H1 _ s1 hp => ?_
    walk_at "rd"
    refine w_newL (by show 10 ≤ 1000000; decide) fun q H2 _ s2 hq => ?_
    refine w_cat2 (s2 _ _ hp) hq (by show 13 + 10 ≤ 1000000; decide) fun a H3 ha s3 h3 => ?_
    exact kQ a _ ((s1.trans s2).trans s3) ((s1.trans s2).free ha) h3

abbrev s_law_signs : Stmt := topS 29
abbrev N_law_signs : List Str := ["signs"]
theorem sc_law_signs : FnScope N_law_signs [] (defScope s_law_signs) := ⟨rfl, rfl, rfl, by decide +kernel, rfl, by decide +kernel, by decide +kernel⟩
def spSigns : Sp := fun vs H Q _ => vs = [] ∧ Q (T aSg) H
theorem ok_law_signs {f : Addr} {fd : FuncData} (F : Fun K "_law_signs" "_law_signs" s_law_signs f fd) : FnOk P w K mg base CX0 1 f fd [] spSigns := by
  refine F.ok sc_law_signs (fun vs H Q E h => ?_) (fun cdv A outer s H vs Q E hr h => ?_)
  · obtain ⟨rfl, _⟩ := h
    rfl
  · obtain ⟨rfl, kQ⟩ := h
    have nd := sc_law_signs.nd
    refine ⟨_, (pss_cons (ps_set (i := 0) nd rfl (Or.inl rfl) pe_str)
      (pss_one (ps_ret (pv 0)))), ?_⟩
    rw [show L2.start N_law_signs [] = [none] from rfl]
    walk_at "rd"
    exact kQ

theorem use_draw {S L : Addr} {m : Int} {H : Hp} {Q : VK} {E : XK} (h : StAt H S L) (h0 : 0 < m) (h1 : m < 1073741824) (k : ∀ r H', 0 ≤ r → r < m → StAt H' S L → Fr S H H' → Q (.int r) H') : spDraw ([.ref S, .int m] ++ []) H Q E :=
  ⟨S, L, m, rfl, h, h0, h1, k⟩
theorem StAt.obj {H : Hp} {S L : Addr} (h : StAt H S L) : ∃ (i c k : Int) (b : Bool) (r : Int), H S = some (.lst (StL L i c k b r)) := by
  obtain ⟨_, i, c, k, b, r, _, _, _, h⟩ := h
  exact ⟨i, c, k, b, r, h⟩
def spTx (Ok : List Nat → Prop) : Sp := fun vs H Q _ => ∃ (S L : Addr), vs = [.ref S] ∧ StAt H S L ∧ ∀ a H', Ok a → StAt H' S L → Fr S H H' → Q (T a) H'
theorem use_tx {Ok : List Nat → Prop} {S L : Addr} {H : Hp} {Q : VK} {E : XK} (h : StAt H S L) (k : ∀ a H', Ok a → StAt H' S L → Fr S H H' → Q (T a) H') : spTx Ok ([.ref S] ++ []) H Q E := ⟨S, L, rfl, h, k⟩
theorem w_strI {n : Nat} {H : Hp} {Q : VK} (hn : n < 2 ^ 64) (k : Q (T (numL n)) H) : rStrI [.int (n : Int)] H Q := by
  refine ⟨(n : Int), rfl, ?_, ?_⟩
  · rw [Int.natAbs_natCast]
    by_cases h0 : n = 0
    · subst h0; decide
    · exact Nat.lt_trans ((Nat.log2_lt h0).mpr hn) (by decide)
  · have e : V.str (toString (n : Int)) = T (numL n) := by rw [T_eta]; exact congrArg T (tl_num n)
    rw [e]; exact k
def FL : List (List Nat) := [":=", "<=", "<", "=", "''", "'a'", " ", "x1"].map cds
theorem len_FL : FL.length = 8 := by decide +kernel
theorem piece_FL : ∀ m ∈ FL, IsPiece m := by unfold IsPiece; decide +kernel
theorem piece_WL : ∀ m ∈ WL, IsPiece m := by unfold IsPiece; decide +kernel
theorem at_list {l : List (List Nat)} {i : Int} (h0 : 0 ≤ i) (h1 : i < l.length) : ∃ m, m ∈ l ∧ atI (l.map T) i = some (T m) := by
  obtain ⟨j, rfl⟩ : ∃ j : Nat, i = (j : Int) := ⟨i.toNat, by omega⟩
  have hj : j < l.length := by omega
  exact ⟨l[j], List.getElem_mem hj, atI_nat (by rw [List.getElem?_map, List.getElem?_eq_getElem hj]; rfl)⟩
theorem StAt.apart {H : Hp} {S L p : Addr} {l : List (List Nat)} (h : StAt H S L) (hp : H p = some (.lst (l.map T))) : p ≠ S := fun e => by
  obtain ⟨i, c', k, b, r, hS⟩ := h.obj
  rw [← e, hp] at hS
  have := HO.lst.inj (Option.some.inj hS)
  cases l with
  | nil => cases this
  | cons a l => cases (List.cons.inj this).1

abbrev s_law_piece : Stmt := topS 30
abbrev N_law_piece : List Str := ["state", "kind", "first", "size"]
theorem sc_law_piece : FnScope N_law_piece ["state"] (defScope s_law_piece) := ⟨rfl, rfl, rfl, by decide +kernel, rfl, by decide +kernel, by decide +kernel⟩
theorem ok_law_piece {f : Addr} {fd : FuncData} (F : Fun K "_law_piece" "_law_piece" s_law_piece f fd) (Y : Bn mg) (c_law_draw : Cal P w K mg base 1 "_law_draw" spDraw []) (c_law_words : Cal P w K mg base 1 "_law_words" spWords [])
    (c_law_signs : Cal P w K mg base 1 "_law_signs" spSigns []) : FnOk P w K mg base CX0 2 f fd ["state"] (spTx IsPiece) := by
  refine F.ok sc_law_piece (fun vs H Q E h => ?_) (fun cdv A outer s H vs Q E hr h => ?_)
  · obtain ⟨S, L, rfl, _⟩ := h
    rfl
  · obtain ⟨S, L, rfl, hSt, kQ⟩ := h
    have nd := sc_law_piece.nd
    refine ⟨_, (pss_cons (ps_set (i := 1) nd rfl (Or.inl rfl) (pe_c c_law_draw hr (by decide) rfl (pa_cons (pv 0) (pa_cons pe_int pa_nil))))
      (pss_cons (ps_if (pt_cmpR op_eq (pv 1) pe_int (nomark _)) (pss_one (ps_ret (pe_callTy call_strI (by rfl) Y.n_str (by decide +kernel) (pa_cons (pe_op op_add pe_int (pe_c c_law_draw hr (by decide) rfl (pa_cons (pv 0) (pa_cons pe_int pa_nil)))) pa_nil)))) pss_nil)
      (pss_cons (ps_if (pt_cmpR op_eq (pv 1) pe_int (nomark _)) (pss_one (ps_ret (pe_op op_addS (pe_op op_mulS pe_str (pe_c c_law_draw hr (by decide) rfl (pa_cons (pv 0) (pa_cons pe_int pa_nil)))) (pe_callTy call_strI (by rfl) Y.n_str (by decide +kernel) (pa_cons (pe_c c_law_draw hr (by decide) rfl (pa_cons (pv 0) (pa_cons pe_int pa_nil))) pa_nil))))) pss_nil)
      (pss_cons (ps_if (pt_cmpR op_eq (pv 1) pe_int (nomark _)) (pss_cons (ps_set (i := 2) nd rfl (Or.inl rfl) (pe_ix ix_str (pe_c0 c_law_signs hr (by decide) rfl) (pe_c c_law_draw hr (by decide) rfl (pa_cons (pv 0) (pa_cons pe_int pa_nil))) (fun _ _ => rfl)))
      (pss_one (ps_ret (pe_slice sl_str (pe_op op_addS (pv 2) (pe_op op_mulS pe_str pe_int)) po_none (po_some (pe_op op_add pe_int (pe_c c_law_draw hr (by decide) rfl (pa_cons (pv 0) (pa_cons pe_int pa_nil))))))))) pss_nil)
      (pss_cons (ps_if (pt_cmpR op_eq (pv 1) pe_int (nomark _)) (pss_cons (ps_set (i := 3) nd rfl (Or.inl rfl) (pe_op op_add pe_int (pe_c c_law_draw hr (by decide) rfl (pa_cons (pv 0) (pa_cons pe_int pa_nil)))))
      (pss_one (ps_ret (pe_op op_addS (pe_op op_addS pe_str (pe_op op_mulS (pe_ix ix_str (pe_c0 c_law_signs hr (by decide) rfl) (pe_op op_add pe_int (pe_c c_law_draw hr (by decide) rfl (pa_cons (pv 0) (pa_cons pe_int pa_nil)))) (fun _ _ => rfl)) (pv 3))) pe_str)))) pss_nil)
      (pss_cons (ps_if (pt_cmpR op_eq (pv 1) pe_int (nomark _)) (pss_one (ps_ret (pe_ix ix_list (pe_c0 c_law_words hr (by decide) rfl) (pe_c c_law_draw hr (by decide) rfl (pa_cons (pv 0) (pa_cons pe_int pa_nil))) (fun _ _ => rfl)))) pss_nil)
      (pss_cons (ps_if (pt_cmpR op_eq (pv 1) pe_int (nomark _)) (pss_one (ps_ret (pe_ix ix_list (pe_lst (pa_cons pe_str (pa_cons pe_str (pa_cons pe_str (pa_cons pe_str (pa_cons pe_str (pa_cons pe_str (pa_cons pe_str (pa_cons pe_str pa_nil))))))))) (pe_c c_law_draw hr (by decide) rfl (pa_cons (pv 0) (pa_cons pe_int pa_nil))) (fun _ _ => rfl)))) pss_nil)
      (pss_one (ps_ret (pe_ix ix_str (pe_c0 c_law_signs hr (by decide) rfl) (pe_c c_law_draw hr (by decide) rfl (pa_cons (pv 0) (pa_cons pe_int pa_nil))) (fun _ _ => rfl))))))))))), ?_⟩
    rw [show L2.start N_law_piece [.ref S] = [some (.ref S), none, none, none] from rfl]
    have e0 : (Str.ofString "0").cps.toList = ([48] : List Nat) := by decide +kernel
    have eB : (Str.ofString "aB9xY0").cps.toList = cds "aB9xY0" := rfl
    have lB : (cds "aB9xY0").length = 6 := by decide +kernel
    have sB : ∀ d ∈ cds "aB9xY0", srcC d = true := by decide +kernel
    have e39 : (Str.ofString "'").cps.toList = ([39] : List Nat) := by decide +kernel
    have sg : ∀ i : Int, 0 ≤ i → i < 94 → ∃ c, c ∈ aSg ∧ atI aSg i = some c := fun i hi h => at_lt (l := aSg) hi (by rw [len_aSg]; exact h)
    have l94 : aSg.length ≤ 1000000 := by rw [len_aSg]; decide
    walk_at "rd"
    refine use_draw hSt (by decide) (by decide) fun y H1 y0 y1 hSt1 f1 => ?_
    walk_at "rd"
    refine w_ifI (fun _ => ?_) (fun _ => ?_)
    · walk_at "rd"
      refine use_draw hSt1 (by decide) (by decide) fun n H2 n0 n1 hSt2 f2 => ?_
      walk_at "rd"
      have e : (999999995 + n : Int) = ((999999995 + n.toNat : Nat) : Int) := by omega
      rw [e]
      refine w_strI (by omega) ?_
      refine kQ _ _ ⟨srcAll_num _, ?_⟩ hSt2 (f1.trans f2)
      exact Nat.le_trans (numL_len (k := 10) (by decide) (by omega)) (by decide)
    · walk_at "rd"
      refine w_ifI (fun _ => ?_) (fun _ => ?_)
      · walk_at "rd"
        refine use_draw hSt1 (by decide) (by decide) fun z H2 z0 z1 hSt2 f2 => ?_
        rw [e0]
        refine w_mulS (by omega) (by omega) (by show 1 * z.toNat ≤ 1000000; omega) ?_
        rw [rep_one]
        walk_at "rd"
        refine use_draw hSt2 (by decide) (by decide) fun n H3 n0 n1 hSt3 f3 => ?_
        walk_at "rd"
        have e : n = ((n.toNat : Nat) : Int) := by omega
        rw [e]
        refine w_strI (by omega) ?_
        have ln : (numL n.toNat).length ≤ 3 := numL_len (k := 3) (by decide) (by omega)
        refine w_addS (by rw [List.length_replicate]; omega) ?_
        refine kQ _ _ ⟨srcAll_app (fun d hd => ?_) (srcAll_num _), ?_⟩ hSt3 ((f1.trans f2).trans f3)
        · rw [(List.mem_replicate.mp hd).2]; decide
        · rw [List.length_append, List.length_replicate]; omega
      · walk_at "rd"
        refine w_ifI (fun _ => ?_) (fun _ => ?_)
        · walk_at "rd"
          refine ⟨rfl, ?_⟩
          walk_at "rd"
          refine use_draw hSt1 (by decide) (by decide) fun i H2 i0 i1 hSt2 f2 => ?_
          obtain ⟨c, hc, ec⟩ := sg i i0 i1
          refine w_ixS l94 ec ?_
          walk_at "rd"
          rw [eB]
          refine w_mulS (by decide) (by decide) (by rw [lB]; decide) ?_
          have lr : (List.replicate (Int.toNat 4) (cds "aB9xY0")).flatten.length = 24 := by rw [len_rep, lB]; decide
          refine w_addS (by rw [lr]; show 1 + 24 ≤ 1000000; decide) ?_
          walk_at "rd"
          refine use_draw hSt2 (by decide) (by decide) fun e H3 e0' e1 hSt3 f3 => ?_
          walk_at "rd"
          refine w_slS (by rw [List.length_append, lr]; show 1 + 24 ≤ 1000000; decide) ?_
          refine kQ _ _ ⟨fun d hd => ?_, ?_⟩ hSt3 ((f1.trans f2).trans f3)
          · exact srcAll_app (srcAll_one hc) (fun d hd => sB d (mem_rep hd)) d (cut_mem hd)
          · have := cut_len ([c] ++ (List.replicate (Int.toNat 4) (cds "aB9xY0")).flatten) none (some (18 + e))
            rw [List.length_append, lr] at this
            exact Nat.le_trans this (show 1 + 24 ≤ 204 by decide)
        · walk_at "rd"
          refine w_ifI (fun _ => ?_) (fun _ => ?_)
          · walk_at "rd"
            refine use_draw hSt1 (by decide) (by decide) fun z H2 z0 z1 hSt2 f2 => ?_
            walk_at "rd"
            refine ⟨rfl, ?_⟩
            walk_at "rd"
            refine use_draw hSt2 (by decide) (by decide) fun i H3 i0 i1 hSt3 f3 => ?_
            walk_at "rd"
            obtain ⟨c, hc, ec⟩ := sg (8 + i) (by omega) (by omega)
            refine w_ixS l94 ec ?_
            walk_at "rd"
            refine w_mulS (by omega) (by omega) (by show 1 * (197 + z).toNat ≤ 1000000; omega) ?_
            rw [rep_one, e39]
            refine w_addS (by rw [List.length_replicate]; show 1 + _ ≤ 1000000; omega) ?_
            walk_at "rd"
            rw [e39]
            refine w_addS (by rw [List.length_append, List.length_replicate]; show 1 + _ + 1 ≤ 1000000; omega) ?_
            have s39 : ∀ d ∈ ([39] : List Nat), srcC d = true := by decide
            refine kQ _ _ ⟨srcAll_app (srcAll_app s39 fun d hd => ?_) s39, ?_⟩ hSt3 ((f1.trans f2).trans f3)
            · rw [(List.mem_replicate.mp hd).2]; exact src_aSg c hc
            · rw [List.length_append, List.length_append, List.length_replicate]
              show 1 + (197 + z).toNat + 1 ≤ 204
              omega
          · walk_at "rd"
            refine w_ifI (fun _ => ?_) (fun _ => ?_)
            · walk_at "rd"
              refine ⟨rfl, fun p H2 s2 _ hp => ?_⟩
              walk_at "rd"
              refine use_draw (hSt1.mono s2) (by decide) (by decide) fun i H3 i0 i1 hSt3 f3 => ?_
              have hp3 := f3 _ _ ((hSt1.mono s2).apart (l := WL) hp) hp
              obtain ⟨m, hm, em⟩ := at_list (l := WL) i0 (by rw [len_WL]; exact i1)
              refine w_ixL (xs := WL.map T) (SqL.of hp3) em ?_
              exact kQ m _ (piece_WL m hm) hSt3 ((f1.to s2).trans f3)
            · walk_at "rd"
              refine w_ifI (fun _ => ?_) (fun _ => ?_)
              · walk_at "rd"
                refine w_newL (by show 8 ≤ 1000000; decide) fun p H2 _ s2 hp => ?_
                walk_at "rd"
                refine use_draw (hSt1.mono s2) (by decide) (by decide) fun i H3 i0 i1 hSt3 f3 => ?_
                have hp3 := f3 _ _ ((hSt1.mono s2).apart (l := FL) hp) hp
                obtain ⟨m, hm, em⟩ := at_list (l := FL) i0 (by rw [len_FL]; exact i1)
                refine w_ixL (xs := FL.map T) (SqL.of hp3) em ?_
                exact kQ m _ (piece_FL m hm) hSt3 ((f1.to s2).trans f3)
              · walk_at "rd"
                refine ⟨rfl, ?_⟩
                walk_at "rd"
                refine use_draw hSt1 (by decide) (by decide) fun i H2 i0 i1 hSt2 f2 => ?_
                obtain ⟨c, hc, ec⟩ := sg i i0 i1
                refine w_ixS l94 ec ?_
                exact kQ _ _ ⟨srcAll_one hc, show 1 ≤ 204 by decide⟩ hSt2 (f1.trans f2)
end

def rIsN : R2 := fun x y H Q => y = .non ∧ Q (.bl (decide (x = .non))) H
theorem op_isN {X : Cx} : OpR X (compareOp .Is) rIsN := L2.op_isN
theorem w_isN {x : V} {H : Hp} {Q : VK} (k : Q (.bl (decide (x = .non))) H) : rIsN x .non H Q := ⟨rfl, k⟩
/-- [.. for c in a text ..] -/
theorem lc_S {cs : List Nat} {g : TG} {tt : TT} {te : TE} {vs : List Nat} {σ : L2.St} {H1 : Hp} {D : Addr} {Qd : Hp → Prop} (Pv : Nat → Hp → Prop) (h0 : Pv 0 (upd H1 D (.lst [])))
    (hs : ∀ i c H, cs[i]? = some c → Pv i H → g (T [c]) (wipe σ vs) H fun σ2 H2 => wipe σ2 vs = wipe σ vs ∧ tt σ2 H2 fun b H3 =>
      if b = true then te σ2 H3 fun y H4 => ∃ acc, H4 D = some (.lst acc) ∧ acc.length < sizeLine ∧ Pv (i + 1) (upd H4 D (.lst (acc ++ [y]))) else Pv (i + 1) H3) (hd : ∀ H, Pv cs.length H → Qd H) :
    ∃ W : Nat → Nat → Hp → Prop, (∃ m, W 0 m (upd H1 D (.lst []))) ∧ ∀ i m H, W i m H →
      ((Its ⟨cs.toArray⟩).stop i H ∧ Qd H) ∨ ((Its ⟨cs.toArray⟩).go i H ∧ ∃ Nx : Hp → Prop, (∀ H', Nx H' → ∃ m', m' < m ∧ W (i + 1) m' H') ∧ ∀ x H', (Its ⟨cs.toArray⟩).yld i H x H' → g x (wipe σ vs) H' fun σ2 H2 => wipe σ2 vs = wipe σ vs ∧ tt σ2 H2 fun b H3 =>
        if b = true then te σ2 H3 fun y H4 => ∃ acc, H4 D = some (.lst acc) ∧ acc.length < sizeLine ∧ Nx (upd H4 D (.lst (acc ++ [y]))) else Nx H3) := by
  refine ⟨fun i m H => m = cs.length - i ∧ i ≤ cs.length ∧ Pv i H, ⟨cs.length, by simp, Nat.zero_le _, h0⟩, ?_⟩
  rintro i m H ⟨rfl, hi, p⟩
  by_cases hlt : i < cs.length
  · refine .inr ⟨by show i < cs.toArray.size; simpa using hlt, Pv (i + 1), fun H' p' => ⟨cs.length - (i + 1), by omega, rfl, hlt, p'⟩, fun x H' y => ?_⟩
    obtain ⟨e, c, hc, rfl⟩ := y
    subst e
    have hc' : cs[i]? = some c := by simpa using hc
    exact hs i c _ hc' p
  · have e : i = cs.length := by omega
    subst e
    exact .inl ⟨by show cs.toArray.size ≤ cs.length; simp, hd H p⟩

section
variable {P : Program} {w : World} {K : PySem.W.Frag} {mg : Str → Option Value} {base : Heap}

abbrev s_law_digits : Stmt := topS 31
abbrev N_law_digits : List Str := ["run", "char"]
theorem sc_law_digits : FnScope N_law_digits ["run"] (defScope s_law_digits) := ⟨rfl, rfl, rfl, by decide +kernel, rfl, by decide +kernel, by decide +kernel⟩
def spDigits : Sp := fun vs H Q _ => ∃ (a : List Nat), vs = [T a] ∧ a.length ≤ 100000 ∧ ∀ H', Same H H' → Q (.bl (a.all digC)) H'
theorem ok_law_digits {f : Addr} {fd : FuncData} (F : Fun K "_law_digits" "_law_digits" s_law_digits f fd) (Y : Bn mg) : FnOk P w K mg base CX0 1 f fd ["run"] spDigits := by
  refine F.ok sc_law_digits (fun vs H Q E h => ?_) (fun cdv A outer s H vs Q E hr h => ?_)
  · obtain ⟨a, rfl, _⟩ := h
    rfl
  · obtain ⟨a, rfl, hl, kQ⟩ := h
    have nd := sc_law_digits.nd
    refine ⟨_, (pss_one (ps_ret (pe_cmpR op_eq (pe_callB call_lenL (by rfl) Y.n_len (by decide +kernel) (pa_cons (pe_lc (own := [("char", 1)]) (g := gName 1) rfl nd (pi_str (pv 0)) (blkOk_by (own := [("char", 1)]) (N := N_law_digits) (sc := defScope s_law_digits) (by decide +kernel)) (fun _ _ _ _ _ => pg_name (i := 1) nd rfl (Or.inl rfl)) (fun _ _ _ _ _ => pts_one (pt_cmpR op_ninC (pv 1) pe_str (by rfl))) (fun _ _ _ _ _ => (pv 1))) pa_nil)) pe_int (nomark _)))), ?_⟩
    rw [show L2.start N_law_digits [T a] = [some (T a), none] from rfl]
    walk_at "rd"
    refine ⟨_, rfl, _, rfl, fun D hD => ?_⟩
    have sD : Same H (upd H D (.lst [])) := same_new hD
    refine lc_S (fun i H' => Same H H' ∧ ∃ l, H' D = some (.lst l) ∧ l.length ≤ i ∧ (l = [] ↔ ∀ c ∈ a.take i, digC c = true)) ⟨sD, [], upd_same, Nat.le_refl _, by simp⟩ ?_ ?_
    · rintro i c H' hc ⟨s', l, hl', hli, hiff⟩
      have hlt : i < a.length := (List.getElem?_eq_some_iff.mp hc).1
      have et : a.take (i + 1) = a.take i ++ [c] := by
        rw [List.take_succ, hc]; rfl
      refine ⟨rfl, ?_⟩
      walk_at "rd"
      have ed := dig_iff c
      have key : decide (c ∈ (Str.ofString "0123456789").cps.toList) = digC c := ed
      rw [key]
      refine w_ifb (fun hb => ?_) (fun hb => ?_)
      · walk_at "rd"
        refine ⟨l, hl', by have : l.length ≤ 100000 := by omega
                           exact Nat.lt_of_le_of_lt this (by decide), fun b o hb2 => ?_, l ++ [_], upd_same, by rw [List.length_append]; show l.length + 1 ≤ i + 1; omega, ?_⟩
        · rw [upd_ne (fun e => by rw [e] at hb2; rw [hD] at hb2; cases hb2)]
          exact s' _ _ hb2
        · constructor
          · intro h; exact absurd h (by simp)
          · intro h
            have := h c (by rw [et]; exact List.mem_append_right _ List.mem_cons_self)
            rw [this] at hb; cases hb
      · refine ⟨s', l, hl', by omega, ?_⟩
        have hb' : digC c = true := by cases h : digC c with
          | true => rfl
          | false => rw [h] at hb; cases hb
        rw [hiff, et]
        constructor
        · intro h d hd
          rcases List.mem_append.mp hd with hd | hd
          · exact h d hd
          · rw [List.mem_singleton.mp hd]; exact hb'
        · intro h d hd
          exact h d (List.mem_append_left _ hd)
    · rintro H' ⟨s', l, hl', hli, hiff⟩
      walk_at "rd"
      refine w_lenL (SqL.of hl') ?_
      walk_at "rd"
      have e : decide (V.int (l.length : Int) = V.int 0) = a.all digC := by
        rw [List.take_length] at hiff
        by_cases hn : l = []
        · rw [decide_eq_true (by rw [hn]; rfl)]
          exact (List.all_eq_true.mpr (hiff.mp hn)).symm
        · rw [decide_eq_false (fun h => hn (List.length_eq_zero_iff.mp (by have := V.int.inj h; omega)))]
          cases h : a.all digC with
          | false => rfl
          | true => exact absurd (hiff.mpr (List.all_eq_true.mp h)) hn
      rw [e]
      exact kQ _ s'

abbrev s_law_of_run : Stmt := topS 32
abbrev N_law_of_run : List Str := ["run", "at"]
theorem sc_law_of_run : FnScope N_law_of_run ["run", "at"] (defScope s_law_of_run) := ⟨rfl, rfl, rfl, by decide +kernel, rfl, by decide +kernel, by decide +kernel⟩
def spOfRun : Sp := fun vs H Q _ => ∃ (a : List Nat) (i : Nat), vs = [T a, .int (i : Int)] ∧ a ≠ [] ∧ (∀ c ∈ a, c ∈ aJ) ∧ a.length ≤ 100000 ∧
  (∀ (k : List Nat) (v : V), ofRun a = some (k, v) → ∀ p H', H p = none → Same H H' → H' p = some (.tup [T k, v, .int (i : Int)]) → Q (.ref p) H') ∧ (ofRun a = none → ∀ H', Same H H' → Q .non H')
theorem ok_law_of_run {f : Addr} {fd : FuncData} (F : Fun K "_law_of_run" "_law_of_run" s_law_of_run f fd) (Y : Bn mg) (c_law_digits : Cal P w K mg base 1 "_law_digits" spDigits []) (c_law_words : Cal P w K mg base 1 "_law_words" spWords []) : FnOk P w K mg base CX0 2 f fd ["run", "at"] spOfRun := by
  refine F.ok sc_law_of_run (fun vs H Q E h => ?_) (fun cdv A outer s H vs Q E hr h => ?_)
  · obtain ⟨a, i, rfl, _⟩ := h
    rfl
  · obtain ⟨a, i, rfl, hne, hJ, hl, kQ, kN⟩ := h
    have nd := sc_law_of_run.nd
    refine ⟨_, (pss_cons (ps_if (pt_cmpR op_inC (pe_ix ix_str (pv 0) pe_int (fun _ _ => rfl)) pe_str (by rfl)) (pss_cons (ps_if (PW.pt (pw_or (pt_not (pt_val (pe_c c_law_digits hr (by decide) rfl (pa_cons (pv 0) pa_nil)))) (pw_or (pt_cmpR op_gt (pe_callB call_lenS (by rfl) Y.n_len (by decide +kernel) (pa_cons (pv 0) pa_nil)) pe_int (nomark _)) (pw_or1 (PW.pt (pw_and (pt_cmpR op_eq (pe_ix ix_str (pv 0) pe_int (fun _ _ => rfl)) pe_str (nomark _)) (pw_and1 (pt_cmpR op_gt (pe_callB call_lenS (by rfl) Y.n_len (by decide +kernel) (pa_cons (pv 0) pa_nil)) pe_int (nomark _))))))))) (pss_one (ps_ret pe_non)) pss_nil)
      (pss_cons (ps_if (pt_cmpR op_gt (pe_callTy call_intS (by rfl) Y.n_int (by decide +kernel) (pa_cons (pv 0) pa_nil)) pe_int (nomark _)) (pss_one (ps_ret pe_non)) pss_nil)
      (pss_one (ps_ret (pe_tup (pa_cons pe_str (pa_cons (pe_callTy call_intS (by rfl) Y.n_int (by decide +kernel) (pa_cons (pv 0) pa_nil)) (pa_cons (pv 1) pa_nil)))))))) pss_nil)
      (pss_cons (ps_if (pt_cmpR op_gt (pe_callB call_lenS (by rfl) Y.n_len (by decide +kernel) (pa_cons (pv 0) pa_nil)) pe_int (nomark _)) (pss_one (ps_ret pe_non)) pss_nil)
      (pss_cons (ps_if (pt_cmpR op_inC (pe_ix ix_str (pv 0) pe_int (fun _ _ => rfl)) pe_str (by rfl)) (pss_one (ps_ret (pe_tup (pa_cons pe_str (pa_cons (pv 0) (pa_cons (pv 1) pa_nil)))))) pss_nil)
      (pss_cons (ps_if (pt_cmpR op_in_seq (pv 0) (pe_c0 c_law_words hr (by decide) rfl) (by rfl)) (pss_one (ps_ret (pe_tup (pa_cons pe_str (pa_cons (pv 0) (pa_cons (pv 1) pa_nil)))))) pss_nil)
      (pss_one (ps_ret (pe_tup (pa_cons pe_str (pa_cons (pv 0) (pa_cons (pv 1) pa_nil)))))))))), ?_⟩
    rw [show L2.start N_law_of_run [T a, .int (i : Int)] = [some (T a), some (.int (i : Int))] from rfl]
    obtain ⟨c, r, rfl⟩ : ∃ c r, a = c :: r := by
      cases a with
      | nil => exact absurd rfl hne
      | cons c r => exact ⟨c, r, rfl⟩
    have e0 : (Str.ofString "0").cps.toList = ([48] : List Nat) := by decide +kernel
    unfold ofRun at kQ kN
    rw [List.headD_cons] at kQ kN
    walk_at "rd"
    refine w_ixS (by omega) at_zeroX ?_
    walk_at "rd"
    have ed := dig_iff c
    refine w_if (fun hd => ?_) (fun hd => ?_)
    · have ed2 : digC c = true := by rw [← ed]; exact decide_eq_true hd
      rw [if_pos ed2] at kQ kN
      have bad : ¬ ((c :: r).all digC = true ∧ ¬ (c = 48 ∧ 1 < (c :: r).length) ∧ (c :: r).length ≤ 10 ∧ NumText.digitsVal (c :: r) ≤ 1000000000) → numRun (c :: r) = none := fun h => by
        unfold numRun
        rw [if_neg]
        intro z
        simp only [Bool.and_eq_true, Bool.not_eq_true', decide_eq_true_iff, List.headD_cons] at z
        refine h ⟨z.1.1.1, fun y => ?_, z.1.2, z.2⟩
        rcases Bool.and_eq_false_iff.mp z.1.1.2 with h | h
        · exact of_decide_eq_false h y.1
        · exact of_decide_eq_false h y.2
      have good : (c :: r).all digC = true → ¬ (c = 48 ∧ 1 < (c :: r).length) → (c :: r).length ≤ 10 → NumText.digitsVal (c :: r) ≤ 1000000000 → numRun (c :: r) = some (NumText.digitsVal (c :: r)) := fun h1 h2 h3 h4 => by
        unfold numRun
        rw [if_pos]
        simp only [Bool.and_eq_true, Bool.not_eq_true', decide_eq_true_iff, List.headD_cons]
        refine ⟨⟨⟨h1, ?_⟩, h3⟩, h4⟩
        by_cases hc : c = 48
        · refine Bool.and_eq_false_iff.mpr (.inr (decide_eq_false fun z => h2 ⟨hc, z⟩))
        · exact Bool.and_eq_false_iff.mpr (.inl (decide_eq_false hc))
      have kB : ∀ {H'}, Same H H' → numRun (c :: r) = none → Q .non H' := fun s e => kN (by rw [e]; rfl) _ s
      walk_at "rd"
      refine ⟨_, rfl, by omega, fun H1 s1 => ?_⟩
      walk_at "rd"
      refine w_ifb (fun hb => ?_) (fun hb => ?_)
      · walk_at "rd"
        refine kB s1 (bad fun z => ?_)
        have h1 : (c :: r).all digC = true := z.1
        have h2 : (!((c :: r).all digC)) = true := hb
        rw [h1] at h2; cases h2
      · have hall : (c :: r).all digC = true := by
          have h2 : (!((c :: r).all digC)) = false := hb
          cases h3 : (c :: r).all digC with
          | true => rfl
          | false => rw [h3] at h2; cases h2
        have hdig : NumText.AllDigits (c :: r) := fun d hd => by
          have := List.all_eq_true.mp hall d hd
          unfold digC at this
          rw [Bool.and_eq_true, decide_eq_true_iff, decide_eq_true_iff] at this
          exact this
        have hval : (c :: r).length ≤ 10 → PySem.intText? ⟨(c :: r).toArray⟩ = some ((NumText.digitsVal (c :: r) : Nat) : Int) := fun hl => PySem.intText_digits (x := ⟨(c :: r).toArray⟩) hdig hne (by rw [len_T]; omega)
        walk_at "rd"
        refine w_lenS (by omega) ?_
        walk_at "rd"
        refine w_if (fun h10 => ?_) (fun h10 => ?_)
        · walk_at "rd"
          exact kB s1 (bad fun z => by omega)
        · walk_at "rd"
          refine w_ixS (by omega) at_zeroX ?_
          walk_at "rd"
          rw [e0]
          have gd := good hall
          have kG : ¬ (c = 48 ∧ 1 < (c :: r).length) → (c :: r).length ≤ 10 → NumText.digitsVal (c :: r) ≤ 1000000000 → ∀ p H', H p = none → Same H H' → H' p = some (.tup [T (cds "number"), .int ((NumText.digitsVal (c :: r) : Nat) : Int), .int (i : Int)]) → Q (.ref p) H' :=
            fun z1 z2 z3 => kQ _ _ (by rw [good hall z1 z2 z3]; rfl)
          refine w_ifT (fun h48 => ?_) (fun h48 => ?_)
          · have hc : c = 48 := (List.cons.inj h48).1
            walk_at "rd"
            refine w_lenS (by omega) ?_
            walk_at "rd"
            refine w_if (fun h1 => ?_) (fun h1 => ?_)
            · walk_at "rd"
              exact kB s1 (bad fun z => z.2.1 ⟨hc, by omega⟩)
            · walk_at "rd"
              have hlen : (c :: r).length ≤ 1 := by omega
              refine w_intS (hval (by omega)) (by omega) ?_
              walk_at "rd"
              refine w_if (fun h3 => ?_) (fun h3 => ?_)
              · walk_at "rd"
                exact kB s1 (bad fun z => by omega)
              · walk_at "rd"
                refine w_intS (hval (by omega)) (by omega) ?_
                walk_at "rd"
                refine w_newT (by show 3 ≤ 1000000; decide) fun p H2 hp s2 h2 => ?_
                exact kG (fun y => by omega) (by omega) (by omega) p H2 (s1.free hp) (s1.trans s2) h2
          · have hc : ¬ c = 48 := fun e => h48 (by rw [e])
            walk_at "rd"
            refine w_intS (hval (by omega)) (by omega) ?_
            walk_at "rd"
            refine w_if (fun h3 => ?_) (fun h3 => ?_)
            · walk_at "rd"
              exact kB s1 (bad fun z => by omega)
            · walk_at "rd"
              refine w_intS (hval (by omega)) (by omega) ?_
              walk_at "rd"
              refine w_newT (by show 3 ≤ 1000000; decide) fun p H2 hp s2 h2 => ?_
              exact kG (fun y => hc y.1) (by omega) (by omega) p H2 (s1.free hp) (s1.trans s2) h2
    · have hd' : ¬ c ∈ aDig := hd
      have ed2 : ¬ digC c = true := by rw [← ed, decide_eq_false hd']; exact Bool.false_ne_true
      rw [if_neg ed2] at kQ kN
      walk_at "rd"
      refine w_lenS (by omega) ?_
      walk_at "rd"
      refine w_if (fun h20 => ?_) (fun h20 => ?_)
      · rw [if_pos (by omega)] at kN
        walk_at "rd"
        exact kN rfl H (fun _ _ h => h)
      · rw [if_neg (by omega)] at kQ
        walk_at "rd"
        refine w_ixS (by omega) at_zeroX ?_
        walk_at "rd"
        refine w_if (fun hu => ?_) (fun hu => ?_)
        · have hu' : c ∈ aUp := hu
          rw [if_pos hu'] at kQ
          walk_at "rd"
          exact w_newT (by show 3 ≤ 1000000; decide) fun p H1 hp s1 h1 => kQ _ _ rfl p H1 hp s1 h1
        · have hu' : ¬ c ∈ aUp := hu
          rw [if_neg hu'] at kQ
          walk_at "rd"
          refine ⟨rfl, fun p H1 s1 _ hp => ?_⟩
          refine w_inL (SqL.of hp) ?_
          walk_at "rd"
          refine w_if (fun hw => ?_) (fun hw => ?_)
          · rw [if_pos hw] at kQ
            walk_at "rd"
            exact w_newT (by show 3 ≤ 1000000; decide) fun p H2 hp s2 h2 => kQ _ _ rfl p H2 (s1.free hp) (s1.trans s2) h2
          · rw [if_neg hw] at kQ
            walk_at "rd"
            exact w_newT (by show 3 ≤ 1000000; decide) fun p H2 hp s2 h2 => kQ _ _ rfl p H2 (s1.free hp) (s1.trans s2) h2
end

/-- where the letters and digits from j on end -/
def endN (cs : List Nat) (j : Nat) : Nat := j + ((cs.drop j).takeWhile letC).length
def endV (cs : List Nat) (j : Nat) : V := .int (endN cs j : Int)
def endL (cs : List Nat) : List V := (List.range (cs.length + 1)).map (endV cs)
theorem endL_len (cs : List Nat) : (endL cs).length = cs.length + 1 := by unfold endL; simp
theorem endL_get {cs : List Nat} {j : Nat} (h : j ≤ cs.length) : (endL cs)[j]? = some (endV cs j) := by
  unfold endL
  rw [List.getElem?_map, List.getElem?_range (by omega)]
  rfl
theorem endN_le (cs : List Nat) {j : Nat} (h : j ≤ cs.length) : endN cs j ≤ cs.length := by
  have := tw_le (p := letC) (cs.drop j)
  rw [List.length_drop] at this
  unfold endN
  omega
theorem endN_end {cs : List Nat} {j : Nat} (h : cs.length ≤ j) : endN cs j = j := by
  unfold endN
  rw [List.drop_eq_nil_of_le h]; rfl
theorem endN_not {cs : List Nat} {j c : Nat} (h : cs[j]? = some c) (hc : letC c = false) : endN cs j = j := by
  obtain ⟨hj, e⟩ := List.getElem?_eq_some_iff.mp h
  unfold endN
  rw [List.drop_eq_getElem_cons hj, List.takeWhile_cons, e, hc]; rfl
theorem endN_let {cs : List Nat} {j c : Nat} (h : cs[j]? = some c) (hc : letC c = true) : endN cs j = endN cs (j + 1) := by
  obtain ⟨hj, e⟩ := List.getElem?_eq_some_iff.mp h
  unfold endN
  rw [List.drop_eq_getElem_cons hj, List.takeWhile_cons, e, hc, if_pos rfl, List.length_cons]
  omega
theorem ext_get {α : Type} {a b : List α} {n : Nat} (ha : a.length = n) (hb : b.length = n) (h : ∀ j, j < n → a[j]? = b[j]?) : a = b := List.ext_getElem? fun j => by
  by_cases hj : j < n
  · exact h j hj
  · rw [List.getElem?_eq_none (by omega), List.getElem?_eq_none (by omega)]
theorem same_fr {D : Addr} {H H1 H2 : Hp} (hD : H D = none) (s : Same H H1) (f : Fr D H1 H2) : Same H H2 := fun b o hb => f b o (fun e => by rw [e, hD] at hb; cases hb) (s b o hb)
theorem w_yes {σ : L2.St} {H : Hp} {A B : Hp → Prop} (k : A H) : tYes σ H fun b H3 => if b = true then A H3 else B H3 := by
  show if true = true then A H else B H
  exact L2.iteT k
theorem ixN_nat' {n j : Nat} (hj : j < n) : ixN n (j : Int) = some j := by
  unfold ixN
  rw [if_pos (by omega), if_pos (by omega), Int.toNat_natCast]
/-- a list cell set -/
theorem w_setF {H : Hp} {S : Addr} {xs : List V} {j : Nat} {v : V} {G : Hp → Prop} (hS : H S = some (.lst xs)) (e : j < xs.length)
    (k : ∀ H2, H2 S = some (.lst (xs.set j v)) → Fr S H H2 → G H2) : rSetL (.ref S) (.int (j : Int)) v H G := w_setL hS (ixN_nat' e) (k _ upd_same Fr.own)
/-- [.. for k in range(n)] -/
def LcR (g : TG) (tt : TT) (te : TE) (vs : List Nat) (σ : L2.St) (Q : VK) (xs : List V) (H1 : Hp) : Prop := ∃ j : Int, xs = [.int j] ∧ -(2 ^ 62) ≤ j ∧ j < 2 ^ 62 ∧ ∀ D, H1 D = none → ∃ W : Nat → Nat → Hp → Prop, (∃ m, W 0 m (upd H1 D (.lst []))) ∧ ∀ i m H, W i m H →
  ((Itr 0 j.toNat).stop i H ∧ Q (.ref D) H) ∨ ((Itr 0 j.toNat).go i H ∧ ∃ Nx : Hp → Prop, (∀ H', Nx H' → ∃ m', m' < m ∧ W (i + 1) m' H') ∧ ∀ x H', (Itr 0 j.toNat).yld i H x H' → g x (wipe σ vs) H' fun σ2 H2 => wipe σ2 vs = wipe σ vs ∧ tt σ2 H2 fun b H3 =>
    if b = true then te σ2 H3 fun y H4 => ∃ acc, H4 D = some (.lst acc) ∧ acc.length < sizeLine ∧ Nx (upd H4 D (.lst (acc ++ [y]))) else Nx H3)
theorem w_lcR {ta : TA} {g : TG} {tt : TT} {te : TE} {vs : List Nat} {σ : L2.St} {H : Hp} {Q : VK} (k : ta σ H fun xs H1 => LcR g tt te vs σ Q xs H1) : tLc (iRng1 ta) g tt te vs σ H Q := k
theorem lcR {g : TG} {tt : TT} {te : TE} {vs : List Nat} {σ : L2.St} {H1 : Hp} {Q : VK} {n : Nat} (hn : n < 1000000) (Pv : Addr → Nat → Hp → Prop) (h0 : ∀ D, H1 D = none → Pv D 0 (upd H1 D (.lst [])))
    (hs : ∀ D, H1 D = none → ∀ i H, i < n → Pv D i H → g (.int (0 + (i : Int))) (wipe σ vs) H fun σ2 H2 => wipe σ2 vs = wipe σ vs ∧ tt σ2 H2 fun b H3 =>
      if b = true then te σ2 H3 fun y H4 => ∃ acc, H4 D = some (.lst acc) ∧ acc.length < sizeLine ∧ Pv D (i + 1) (upd H4 D (.lst (acc ++ [y]))) else Pv D (i + 1) H3) (hd : ∀ D, H1 D = none → ∀ H, Pv D n H → Q (.ref D) H) : LcR g tt te vs σ Q [.int (n : Int)] H1 :=
  ⟨n, rfl, by omega, by omega, fun D hD => by
    have := lc_range (lo := 0) (n := n) (Pv D) (h0 D hD) (hs D hD) (hd D hD)
    rw [Int.toNat_natCast]
    exact this⟩

section
variable {P : Program} {w : World} {K : PySem.W.Frag} {mg : Str → Option Value} {base : Heap}

abbrev s_law_ends : Stmt := topS 33
abbrev N_law_ends : List Str := ["text", "joint", "k", "ends", "back", "at"]
theorem sc_law_ends : FnScope N_law_ends ["text"] (defScope s_law_ends) := ⟨rfl, rfl, rfl, by decide +kernel, rfl, by decide +kernel, by decide +kernel⟩
def spEnds : Sp := fun vs H Q _ => ∃ (cs : List Nat), vs = [T cs] ∧ cs.length ≤ 100000 ∧ ∀ p H', H p = none → Same H H' → H' p = some (.lst (endL cs)) → Q (.ref p) H'
theorem ok_law_ends {f : Addr} {fd : FuncData} (F : Fun K "_law_ends" "_law_ends" s_law_ends f fd) (Y : Bn mg) : FnOk P w K mg base CX0 1 f fd ["text"] spEnds := by
  refine F.ok sc_law_ends (fun vs H Q E h => ?_) (fun cdv A outer s H vs Q E hr h => ?_)
  · obtain ⟨cs, rfl, _⟩ := h
    rfl
  · obtain ⟨cs, rfl, hl, kQ⟩ := h
    have nd := sc_law_ends.nd
    refine ⟨_, (pss_cons (ps_set (i := 1) nd rfl (Or.inl rfl) pe_str)
      (pss_cons (ps_setLc (i := 3) (own := [("k", 2)]) (g := gName 2) (tt := tYes) rfl nd rfl rfl (sw_true rfl rfl rfl (by decide +kernel)) (pi_range1 rfl Y.n_range (pa_cons (pe_op op_add (pe_callB call_lenS (by rfl) Y.n_len (by decide +kernel) (pa_cons (pv 0) pa_nil)) pe_int) pa_nil)) (blkOk_by (own := [("k", 2)]) (N := N_law_ends) (sc := defScope s_law_ends) (by decide +kernel)) (fun _ _ _ _ _ => pg_name (i := 2) nd rfl (Or.inl rfl)) (fun _ _ _ _ _ => pts_nil) (fun _ _ _ _ _ => (pe_callB call_lenS (by rfl) Y.n_len (by decide +kernel) (pa_cons (pv 0) pa_nil))))
      (pss_cons (ps_for PassesOwn.never rfl (pi_range1 rfl Y.n_range (pa_cons (pe_callB call_lenS (by rfl) Y.n_len (by decide +kernel) (pa_cons (pv 0) pa_nil)) pa_nil)) (pg_name (i := 4) nd rfl (Or.inl rfl)) (pss_cons (ps_set (i := 5) nd rfl (Or.inl rfl) (pe_op op_sub (pe_op op_sub (pe_callB call_lenS (by rfl) Y.n_len (by decide +kernel) (pa_cons (pv 0) pa_nil)) pe_int) (pv 4)))
      (pss_cons (ps_asg (pv 5) (pg_sub (pv 3) (pv 5) set_list))
      (pss_one (ps_if (pt_cmpR op_inC (pe_ix ix_str (pv 0) (pv 5) (fun _ _ => rfl)) (pv 1) (by rfl)) (pss_cons (ps_asg (pe_op op_add (pv 5) pe_int) (pg_sub (pv 3) (pv 5) set_list))
      (pss_one (ps_if (PW.pt (pw_and (pt_cmpR op_lt (pe_op op_add (pv 5) pe_int) (pe_callB call_lenS (by rfl) Y.n_len (by decide +kernel) (pa_cons (pv 0) pa_nil)) (nomark _)) (pw_and1 (pt_cmpR op_inC (pe_ix ix_str (pv 0) (pe_op op_add (pv 5) pe_int) (fun _ _ => rfl)) (pv 1) (by rfl))))) (pss_one (ps_asg (pe_ix ix_list (pv 3) (pe_op op_add (pv 5) pe_int) (fun _ _ => rfl)) (pg_sub (pv 3) (pv 5) set_list))) pss_nil))) pss_nil)))))
      (pss_one (ps_ret (pv 3)))))), ?_⟩
    rw [show L2.start N_law_ends [T cs] = [some (T cs), none, none, none, none, none] from rfl]
    walk_at "rd"
    refine w_lcR ?_
    walk_at "rd"
    refine w_lenS (by omega) ?_
    walk_at "rd"
    rw [show ((cs.length : Int) + 1) = ((cs.length + 1 : Nat) : Int) by omega]
    refine lcR (by omega) (fun D i H' => Same H H' ∧ H' D = some (.lst (List.replicate i (.int (cs.length : Int))))) (fun D hD => ⟨same_new hD, upd_same⟩) ?_ ?_
    · rintro D hD i H' hi ⟨s1, h1⟩
      refine ⟨rfl, ?_⟩
      refine w_yes ?_
      walk_at "rd"
      refine w_lenS (by omega) ?_
      refine ⟨_, h1, by rw [List.length_replicate]; exact Nat.lt_of_lt_of_le (show i < 1000000 by omega) (by decide), fun b o hb => ?_, ?_⟩
      · rw [upd_ne (fun e => by rw [e] at hb; rw [hD] at hb; cases hb)]
        exact s1 _ _ hb
      · rw [upd_same, List.replicate_succ']
    · rintro D hD H1 ⟨s1, h1⟩
      walk_at "rd"
      refine w_lenS (by omega) ?_
      walk_at "rd"
      refine for_R (fun i σ' H' => ∃ (x y : Option V) (xs : List V), σ' = [some (T cs), some (T aJ), none, some (.ref D), x, y] ∧ Same H H' ∧ H' D = some (.lst xs) ∧ xs.length = cs.length + 1 ∧ ∀ j, cs.length ≤ i + j → j ≤ cs.length → xs[j]? = some (endV cs j)) (by omega) (by omega)
        ⟨none, none, _, rfl, s1, h1, List.length_replicate, fun j h0 h2 => ?_⟩ ?_ ?_
      · have : j = cs.length := by omega
        subst this
        rw [List.getElem?_replicate, if_pos (by omega)]
        unfold endV
        rw [endN_end (Nat.le_refl _)]
      · rintro i σ' H' hi ⟨x, y, xs, rfl, s', h', hxl, hx⟩
        have hi' : i < cs.length := by omega
        generalize hm : cs.length - 1 - i = m
        have hm' : m < cs.length := by omega
        have em : ((cs.length : Int) - 1 - (0 + (i : Int))) = (m : Int) := by omega
        have hgm := List.getElem?_eq_getElem hm'
        walk_at "rd"
        refine w_lenS (by omega) ?_
        walk_at "rd"
        rw [em]
        have fin : ∀ (H2 : Hp) (ys : List V), Same H H2 → H2 D = some (.lst ys) → ys.length = cs.length + 1 → ys[m]? = some (endV cs m) → (∀ j, j ≠ m → ys[j]? = xs[j]?) → ∃ (x y : Option V) (xs : List V), [some (T cs), some (T aJ), none, some (.ref D), some (.int (0 + (i : Int))), some (.int (m : Int))] = [some (T cs), some (T aJ), none, some (.ref D), x, y] ∧ Same H H2 ∧ H2 D = some (.lst xs) ∧ xs.length = cs.length + 1 ∧ ∀ j, cs.length ≤ (i + 1) + j → j ≤ cs.length → xs[j]? = some (endV cs j) :=
          fun H2 ys q1 q2 q3 q4 q5 => ⟨_, _, ys, rfl, q1, q2, q3, fun j j0 j1 => by
            by_cases e : j = m
            · rw [e]; exact q4
            · rw [q5 j e]; exact hx j (by omega) j1⟩
        refine w_setF h' (by omega) fun H2 h2 f2 => ?_
        have s2 := same_fr hD s' f2
        walk_at "rd"
        refine w_ixS (by omega) (atI_nat hgm) ?_
        walk_at "rd"
        refine w_ifb (fun hb => ?_) (fun hb => ?_)
        · have hb' : letC cs[m] = true := hb
          have en := endN_let hgm hb'
          walk_at "rd"
          refine w_setF h2 (by rw [List.length_set]; omega) fun H3 h3 f3 => ?_
          have s3 := same_fr hD s2 f3
          rw [List.set_set] at h3
          walk_at "rd"
          refine w_lenS (by omega) ?_
          walk_at "rd"
          have same0 : endN cs (m + 1) = m + 1 → ∃ (x y : Option V) (xs : List V), [some (T cs), some (T aJ), none, some (.ref D), some (.int (0 + (i : Int))), some (.int (m : Int))] = [some (T cs), some (T aJ), none, some (.ref D), x, y] ∧ Same H H3 ∧ H3 D = some (.lst xs) ∧ xs.length = cs.length + 1 ∧ ∀ j, cs.length ≤ (i + 1) + j → j ≤ cs.length → xs[j]? = some (endV cs j) := fun e => by
            refine fin H3 _ s3 h3 (by rw [List.length_set]; exact hxl) ?_ (fun j hj => List.getElem?_set_ne (Ne.symm hj))
            rw [List.getElem?_set_self (by omega)]
            unfold endV
            rw [en, e]
            rfl
          refine w_if (fun hlt => ?_) (fun hlt => ?_)
          · have hlt' : m + 1 < cs.length := by omega
            have hg2 := List.getElem?_eq_getElem hlt'
            walk_at "rd"
            refine w_ixS (by omega) (atI_nat (j := m + 1) hg2) ?_
            walk_at "rd"
            refine w_ifb (fun hb2 => ?_) (fun hb2 => ?_)
            · walk_at "rd"
              refine w_ixL (SqL.of h3) (atI_nat (j := m + 1) (v := endV cs (m + 1)) (by rw [List.getElem?_set_ne (by omega)]; exact hx _ (by omega) (by omega))) ?_
              walk_at "rd"
              refine w_setF h3 (by rw [List.length_set]; omega) fun H4 h4 f4 => ?_
              rw [List.set_set] at h4
              refine fin H4 _ (same_fr hD s3 f4) h4 (by rw [List.length_set]; exact hxl) ?_ (fun j hj => List.getElem?_set_ne (Ne.symm hj))
              rw [List.getElem?_set_self (by omega)]
              unfold endV
              rw [en]
            · have hb2' : letC cs[m + 1] = false := hb2
              exact same0 (endN_not hg2 hb2')
          · exact same0 (endN_end (by omega))
        · have hb' : letC cs[m] = false := hb
          refine fin H2 _ s2 h2 (by rw [List.length_set]; exact hxl) ?_ (fun j hj => List.getElem?_set_ne (Ne.symm hj))
          rw [List.getElem?_set_self (by omega)]
          unfold endV
          rw [endN_not hgm hb']
      · rintro σ' H' ⟨x, y, xs, rfl, s', h', hxl, hx⟩
        walk_at "rd"
        refine kQ D H' hD s' ?_
        rw [h']
        have : xs = endL cs := ext_get hxl (endL_len cs) fun j hj => by rw [hx j (by omega) (by omega), endL_get (by omega)]
        rw [this]
end

abbrev aMk : List Nat := cds "(){},;.|=<+-*/"
def M2 : List (List Nat) := [":=", "<="].map cds
theorem MLs_two : MLs = M2 ++ [[40], [41], [123], [125], [44], [59], [46], [124], [61], [60], [43], [45], [42], [47]] := by decide +kernel
theorem M2_eq : M2 = [[58, 61], [60, 61]] := by decide +kernel
theorem aMk_eq : aMk = [40, 41, 123, 125, 44, 59, 46, 124, 61, 60, 43, 45, 42, 47] := by decide +kernel
theorem find_one (c : Nat) (r : List Nat) : ∀ l : List Nat, ((l.map fun x => [x]).find? fun m => m.isPrefixOf (c :: r)) = if c ∈ l then some [c] else none
  | [] => rfl
  | x :: l => by
    rw [List.map_cons, List.find?_cons]
    have e : ([x] : List Nat).isPrefixOf (c :: r) = decide (x = c) := by
      show (x == c && ([] : List Nat).isPrefixOf r) = _
      rw [List.isPrefixOf_nil_left, Bool.and_true]
      rfl
    rw [e]
    by_cases h : x = c
    · subst h
      rw [decide_eq_true rfl, if_pos List.mem_cons_self]
    · rw [decide_eq_false h, find_one c r l]
      by_cases h2 : c ∈ l
      · rw [if_pos h2, if_pos (List.mem_cons_of_mem _ h2)]
      · rw [if_neg h2, if_neg (fun z => by rcases List.mem_cons.mp z with z | z
                                           · exact h z.symm
                                           · exact h2 z)]
theorem pre_two (a b : Nat) (l : List Nat) : ([a, b] : List Nat).isPrefixOf l = decide (l.take 2 = [a, b]) := by
  rw [Bool.eq_iff_iff, List.isPrefixOf_iff_prefix, decide_eq_true_iff, List.prefix_iff_eq_take]
  exact ⟨fun h => h.symm, fun h => h.symm⟩
theorem find_MLs (c : Nat) (r : List Nat) : (MLs.find? fun m => m.isPrefixOf (c :: r)) = if (c :: r).take 2 ∈ M2 then some ((c :: r).take 2) else if c ∈ aMk then some [c] else none := by
  rw [MLs_two, List.find?_append]
  have e1 : (M2.find? fun m => m.isPrefixOf (c :: r)) = if (c :: r).take 2 ∈ M2 then some ((c :: r).take 2) else none := by
    rw [M2_eq, List.find?_cons, List.find?_cons, List.find?_nil, pre_two, pre_two]
    by_cases h : (c :: r).take 2 = [58, 61]
    · rw [decide_eq_true h, if_pos (by rw [h]; exact List.mem_cons_self), h]
    · rw [decide_eq_false h]
      by_cases h2 : (c :: r).take 2 = [60, 61]
      · rw [decide_eq_true h2, if_pos (by rw [h2]; exact List.mem_cons_of_mem _ List.mem_cons_self), h2]
      · rw [decide_eq_false h2, if_neg]
        intro z
        rcases List.mem_cons.mp z with z | z
        · exact h z
        · exact h2 (List.mem_singleton.mp z)
  have e2 : (([[40], [41], [123], [125], [44], [59], [46], [124], [61], [60], [43], [45], [42], [47]] : List (List Nat)).find? fun m => m.isPrefixOf (c :: r)) = if c ∈ aMk then some [c] else none := by
    rw [aMk_eq]
    exact find_one c r [40, 41, 123, 125, 44, 59, 46, 124, 61, 60, 43, 45, 42, 47]
  rw [e1, e2]
  by_cases h : (c :: r).take 2 ∈ M2
  · rw [if_pos h, if_pos h]; rfl
  · rw [if_neg h, if_neg h]; rfl
theorem cut_two (a : List Nat) {i : Nat} (hi : i < a.length) : cut a (some (i : Int)) (some ((i : Int) + 2)) = (a.drop i).take 2 := by
  have e : ((i : Int) + 2) = ((i + 2 : Nat) : Int) := by omega
  rw [e]
  by_cases h : i + 2 ≤ a.length
  · rw [cut_mid a h, show i + 2 - i = 2 by omega]
  · unfold cut
    have m1 : min i a.length = i := Nat.min_eq_left (by omega)
    have m2 : min (i + 2) a.length = a.length := Nat.min_eq_right (by omega)
    rw [HT.sIx_nat, HT.sIx_nat, m1, m2]
    rw [List.take_of_length_le (by rw [List.length_drop]; omega), List.take_of_length_le (by rw [List.length_drop]; omega)]
theorem M2_len : ∀ m ∈ M2, m.length = 2 := by decide +kernel
theorem endTx_src {r : List Nat} (hs : ∀ c ∈ r, srcC c = true) : endTx r = if (upQ r).length < r.length ∧ (upQ r).length ≤ 200 then some (upQ r) else none := by
  have h3 : (upQ r).all srcC = true := List.all_eq_true.mpr fun c hc => hs c ((List.takeWhile_sublist _).subset hc)
  by_cases h : (upQ r).length < r.length ∧ (upQ r).length ≤ 200
  · rw [if_pos h, endTx_some h.1 h.2 h3]
  · rw [if_neg h, endTx_none fun z => h ⟨z.1, z.2.1⟩]

section
variable {P : Program} {w : World} {K : PySem.W.Frag} {mg : Str → Option Value} {base : Heap}

abbrev s_law_step : Stmt := topS 34
abbrev N_law_step : List Str := ["text", "ends", "at", "end"]
theorem sc_law_step : FnScope N_law_step ["text", "ends", "at"] (defScope s_law_step) := ⟨rfl, rfl, rfl, by decide +kernel, rfl, by decide +kernel, by decide +kernel⟩
def spStep : Sp := fun vs H Q _ => ∃ (cs : List Nat) (i : Nat) (e : Addr), vs = [T cs, .ref e, .int (i : Int)] ∧ i < cs.length ∧ cs.length ≤ 100000 ∧ (∀ c ∈ cs, srcC c = true) ∧ H e = some (.lst (endL cs)) ∧
  (∀ (k : List Nat) (v : V) (n : Nat), one (cs.drop i) = some (k, v, n) → ∀ p q H', Same H H' → H' q = some (.tup [T k, v, .int (i : Int)]) → H' p = some (.tup [.ref q, .int ((i + n : Nat) : Int)]) → Q (.ref p) H') ∧
  (one (cs.drop i) = none → ∀ p (j : Int) H', Same H H' → H' p = some (.tup [.non, .int j]) → Q (.ref p) H')
theorem ok_law_step {f : Addr} {fd : FuncData} (F : Fun K "_law_step" "_law_step" s_law_step f fd) (Y : Bn mg) (c_law_of_run : Cal P w K mg base 2 "_law_of_run" spOfRun []) : FnOk P w K mg base CX0 3 f fd ["text", "ends", "at"] spStep := by
  refine F.ok sc_law_step (fun vs H Q E h => ?_) (fun cdv A outer s H vs Q E hr h => ?_)
  · obtain ⟨cs, i, e, rfl, _⟩ := h
    rfl
  · obtain ⟨cs, i, e, rfl, hi, hl, hs, he, kQ, kN⟩ := h
    have nd := sc_law_step.nd
    refine ⟨_, (pss_cons (ps_if (pt_cmpR op_gt (pe_ix ix_list (pv 1) (pv 2) (fun _ _ => rfl)) (pv 2) (nomark _)) (pss_one (ps_ret (pe_tup (pa_cons (pe_c c_law_of_run hr (by decide) rfl (pa_cons (pe_slice sl_str (pv 0) (po_some (pv 2)) (po_some (pe_ix ix_list (pv 1) (pv 2) (fun _ _ => rfl)))) (pa_cons (pv 2) pa_nil))) (pa_cons (pe_ix ix_list (pv 1) (pv 2) (fun _ _ => rfl)) pa_nil))))) pss_nil)
      (pss_cons (ps_if (pt_cmpR op_eq (pe_ix ix_str (pv 0) (pv 2) (fun _ _ => rfl)) pe_str (nomark _)) (pss_cons (ps_set (i := 3) nd rfl (Or.inl rfl) (pe_bm PySem.F.plainAttrs_str PySem.F.slot_str_find PySem.F.type_str_find mt_findS (pv 0) (pa_cons pe_str (pa_cons (pe_op op_add (pv 2) pe_int) pa_nil))))
      (pss_cons (ps_if (PW.pt (pw_or (pt_cmpR op_lt (pv 3) pe_int (nomark _)) (pw_or1 (pt_cmpR op_gt (pe_op op_sub (pv 3) (pv 2)) pe_int (nomark _))))) (pss_one (ps_ret (pe_tup (pa_cons pe_non (pa_cons (pv 2) pa_nil))))) pss_nil)
      (pss_one (ps_ret (pe_tup (pa_cons (pe_tup (pa_cons pe_str (pa_cons (pe_slice sl_str (pv 0) (po_some (pe_op op_add (pv 2) pe_int)) (po_some (pv 3))) (pa_cons (pv 2) pa_nil)))) (pa_cons (pe_op op_add (pv 3) pe_int) pa_nil))))))) pss_nil)
      (pss_cons (ps_if (pt_cmpR op_in_seq (pe_slice sl_str (pv 0) (po_some (pv 2)) (po_some (pe_op op_add (pv 2) pe_int))) (pe_lst (pa_cons pe_str (pa_cons pe_str pa_nil))) (by rfl)) (pss_one (ps_ret (pe_tup (pa_cons (pe_tup (pa_cons pe_str (pa_cons (pe_slice sl_str (pv 0) (po_some (pv 2)) (po_some (pe_op op_add (pv 2) pe_int))) (pa_cons (pv 2) pa_nil)))) (pa_cons (pe_op op_add (pv 2) pe_int) pa_nil))))) pss_nil)
      (pss_cons (ps_if (pt_cmpR op_inC (pe_ix ix_str (pv 0) (pv 2) (fun _ _ => rfl)) pe_str (by rfl)) (pss_one (ps_ret (pe_tup (pa_cons (pe_tup (pa_cons pe_str (pa_cons (pe_ix ix_str (pv 0) (pv 2) (fun _ _ => rfl)) (pa_cons (pv 2) pa_nil)))) (pa_cons (pe_op op_add (pv 2) pe_int) pa_nil))))) pss_nil)
      (pss_one (ps_ret (pe_tup (pa_cons pe_non (pa_cons (pv 2) pa_nil))))))))), ?_⟩
    rw [show L2.start N_law_step [T cs, .ref e, .int (i : Int)] = [some (T cs), some (.ref e), some (.int (i : Int)), none] from rfl]
    rw [drop_cons hi, one_cons] at kQ kN
    have hat := atI_nat (List.getElem?_eq_getElem hi)
    have hen : atI (endL cs) (i : Int) = some (endV cs i) := atI_nat (endL_get (by omega))
    have e39 : (Str.ofString "'").cps.toList = ([39] : List Nat) := by decide +kernel
    walk_at "rd"
    refine w_ixL (SqL.of he) hen ?_
    walk_at "rd"
    have n39 : letC 39 = false := by decide +kernel
    unfold endV
    walk_at "rd"
    refine w_if (fun hgt => ?_) (fun hgt => ?_)
    · have hlet : letC cs[i] = true := by
        cases h : letC cs[i] with
        | true => rfl
        | false =>
          have := endN_not (List.getElem?_eq_getElem hi) h
          omega
      have hc : ¬ cs[i] = 39 := fun e => by rw [e, n39] at hlet; cases hlet
      rw [if_neg hc, if_pos hlet] at kQ kN
      rw [← drop_cons hi] at kQ kN
      walk_at "rd"
      refine w_ixL (SqL.of he) hen ?_
      unfold endV
      walk_at "rd"
      have hle := endN_le cs (Nat.le_of_lt hi)
      refine w_slS (by omega) ?_
      have ec : cut cs (some (i : Int)) (some (endN cs i : Int)) = (cs.drop i).takeWhile letC := by
        rw [cut_mid cs hle]
        unfold endN
        rw [show i + ((cs.drop i).takeWhile letC).length - i = ((cs.drop i).takeWhile letC).length by omega]
        exact (tw_take _).symm
      have hn := tw_le (p := letC) (cs.drop i)
      rw [List.length_drop] at hn
      rw [ec]
      have hne : (cs.drop i).takeWhile letC ≠ [] := by
        rw [drop_cons hi, List.takeWhile_cons, if_pos hlet]
        exact List.cons_ne_nil _ _
      have hJ : ∀ c ∈ (cs.drop i).takeWhile letC, c ∈ aJ := fun c hc => by
        obtain ⟨k, hk, e⟩ := List.mem_iff_getElem.mp hc
        have hx : ((cs.drop i).takeWhile letC)[k]? = some c := by rw [List.getElem?_eq_getElem hk, e]
        rw [tw_take, List.getElem?_take_of_lt hk] at hx
        exact of_decide_eq_true (tw_get hk hx)
      walk_at "rd"
      refine ⟨_, i, rfl, hne, hJ, by omega, fun k v hk p H1 hp s1 h1 => ?_, fun hn' H1 s1 => ?_⟩
      · walk_at "rd"
        refine w_ixL (SqL.of (s1 _ _ he)) hen ?_
        walk_at "rd"
        refine w_newT (by show 2 ≤ 1000000; decide) fun p2 H2 hp2 s2 h2 => ?_
        exact kQ k v _ (by rw [hk]; rfl) p2 p H2 (s1.trans s2) (s2 _ _ h1) h2
      · walk_at "rd"
        refine w_ixL (SqL.of (s1 _ _ he)) hen ?_
        walk_at "rd"
        refine w_newT (by show 2 ≤ 1000000; decide) fun p2 H2 hp2 s2 h2 => ?_
        exact kN (by rw [hn']; rfl) p2 _ H2 (s1.trans s2) h2
    · have hlet : letC cs[i] = false := by
        cases h : letC cs[i] with
        | false => rfl
        | true =>
          have := endN_let (List.getElem?_eq_getElem hi) h
          unfold endN at this hgt
          omega
      walk_at "rd"
      refine w_ixS (by omega) hat ?_
      walk_at "rd"
      rw [e39]
      refine w_ifT (fun hq => ?_) (fun hq => ?_)
      · have hc : cs[i] = 39 := (List.cons.inj hq).1
        rw [if_pos hc] at kQ kN
        have hsd : ∀ c ∈ cs.drop (i + 1), srcC c = true := fun c hc => hs c (List.mem_of_mem_drop hc)
        rw [endTx_src hsd] at kQ kN
        walk_at "rd"
        refine ⟨tyS, ?_⟩
        walk_at "rd"
        rw [e39]
        walk_at "rd"
        refine w_find (i := i + 1) (by omega) ?_
        walk_at "rd"
        have hb : upQ (cs.drop (i + 1)) = (cs.drop (i + 1)).take (upQ (cs.drop (i + 1))).length := tw_take _
        have hbl : (upQ (cs.drop (i + 1))).length ≤ (cs.drop (i + 1)).length := tw_le _
        have hf : findC cs 39 (i + 1) = if (upQ (cs.drop (i + 1))).length < (cs.drop (i + 1)).length then ((i + 1 + (upQ (cs.drop (i + 1))).length : Nat) : Int) else -1 := by
          unfold findC
          rw [List.length_drop] at hbl ⊢
          by_cases h : (upQ (cs.drop (i + 1))).length < cs.length - (i + 1)
          · rw [if_pos h, if_pos (show i + 1 + ((cs.drop (i + 1)).takeWhile fun x => x != 39).length < cs.length from by show i + 1 + (upQ (cs.drop (i + 1))).length < _; omega)]
            rfl
          · rw [if_neg h, if_neg (show ¬ i + 1 + ((cs.drop (i + 1)).takeWhile fun x => x != 39).length < cs.length from by show ¬ i + 1 + (upQ (cs.drop (i + 1))).length < _; omega)]
        rw [hf]
        generalize hB : upQ (cs.drop (i + 1)) = b at hb hbl kQ kN
        rw [List.length_drop] at hbl kQ kN ⊢
        have bad : ¬ (b.length < cs.length - (i + 1) ∧ b.length ≤ 200) → NewT [.non, .int (i : Int)] H Q := fun h => by
          refine w_newT (by show 2 ≤ 1000000; decide) fun p2 H2 hp2 s2 h2 => ?_
          exact kN (by rw [if_neg h]; rfl) p2 _ H2 s2 h2
        by_cases hlt : b.length < cs.length - (i + 1)
        · rw [if_pos hlt]
          refine w_if (fun h => absurd h (by omega)) (fun _ => ?_)
          walk_at "rd"
          refine w_if (fun h => ?_) (fun h => ?_)
          · walk_at "rd"
            exact bad fun z => by omega
          · walk_at "rd"
            refine w_slS (by omega) ?_
            have ec : cut cs (some ((i : Int) + 1)) (some ((i + 1 + b.length : Nat) : Int)) = b := by
              have e1 : ((i : Int) + 1) = ((i + 1 : Nat) : Int) := by omega
              rw [e1, cut_mid cs (by omega), show i + 1 + b.length - (i + 1) = b.length by omega]
              exact hb.symm
            rw [ec]
            walk_at "rd"
            refine w_newT (by show 3 ≤ 1000000; decide) fun p1 H1 hp1 s1 h1 => ?_
            walk_at "rd"
            refine w_newT (by show 2 ≤ 1000000; decide) fun p2 H2 hp2 s2 h2 => ?_
            refine kQ _ _ (b.length + 2) (by rw [if_pos ⟨hlt, by omega⟩]; rfl) p2 p1 H2 (s1.trans s2) (s2 _ _ h1) ?_
            rw [h2, show ((i + (b.length + 2) : Nat) : Int) = ((i + 1 + b.length : Nat) : Int) + 1 by omega]
        · rw [if_neg hlt]
          refine w_if (fun _ => ?_) (fun h => absurd (show (-1 : Int) < 0 by decide) h)
          walk_at "rd"
          exact bad fun z => hlt z.1
      · have hc : ¬ cs[i] = 39 := fun e => hq (by rw [e])
        rw [if_neg hc, if_neg (by rw [hlet]; exact Bool.false_ne_true), find_MLs, ← drop_cons hi] at kQ kN
        walk_at "rd"
        refine w_slS (by omega) ?_
        rw [cut_two cs hi]
        walk_at "rd"
        refine w_newL (by show 2 ≤ 1000000; decide) fun p1 H1 hp1 s1 h1 => ?_
        refine w_inL (l := M2) (SqL.of h1) ?_
        walk_at "rd"
        refine w_if (fun h2 => ?_) (fun h2 => ?_)
        · rw [if_pos h2] at kQ
          have l2 := M2_len _ h2
          walk_at "rd"
          refine w_slS (by omega) ?_
          rw [cut_two cs hi]
          walk_at "rd"
          refine w_newT (by show 3 ≤ 1000000; decide) fun p3 H3 hp3 s3 h3 => ?_
          walk_at "rd"
          refine w_newT (by show 2 ≤ 1000000; decide) fun p4 H4 hp4 s4 h4 => ?_
          refine kQ _ _ 2 (by rw [Option.map_some, l2]; rfl) p4 p3 H4 ((s1.trans s3).trans s4) (s4 _ _ h3) ?_
          rw [h4]
          rfl
        · rw [if_neg h2] at kQ kN
          walk_at "rd"
          refine w_ixS (by omega) hat ?_
          walk_at "rd"
          refine w_if (fun h3 => ?_) (fun h3 => ?_)
          · have h3' : cs[i] ∈ aMk := h3
            rw [if_pos h3'] at kQ
            walk_at "rd"
            refine w_ixS (by omega) hat ?_
            walk_at "rd"
            refine w_newT (by show 3 ≤ 1000000; decide) fun p3 H3 hp3 s3 h3 => ?_
            walk_at "rd"
            refine w_newT (by show 2 ≤ 1000000; decide) fun p4 H4 hp4 s4 h4 => ?_
            refine kQ _ _ 1 rfl p4 p3 H4 ((s1.trans s3).trans s4) (s4 _ _ h3) ?_
            rw [h4]
            rfl
          · have h3' : ¬ cs[i] ∈ aMk := h3
            rw [if_neg h3'] at kN
            walk_at "rd"
            refine w_newT (by show 2 ≤ 1000000; decide) fun p4 H4 hp4 s4 h4 => ?_
            exact kN rfl p4 _ H4 (s1.trans s4) h4
end

section
variable {P : Program} {w : World} {K : PySem.W.Frag} {mg : Str → Option Value} {base : Heap} {C fI : Addr}

abbrev s_law_due : Stmt := topS 35
abbrev N_law_due : List Str := ["text", "ends", "found", "at", "k", "token", "end"]
theorem sc_law_due : FnScope N_law_due ["text"] (defScope s_law_due) := ⟨rfl, rfl, rfl, by decide +kernel, rfl, by decide +kernel, by decide +kernel⟩
def spDue : Sp := fun vs H Q _ => ∃ (cs : List Nat), vs = [T cs] ∧ cs.length ≤ 100000 ∧ (∀ c ∈ cs, srcC c = true) ∧
  (∀ ts, lex 0 cs = (ts, none) → ∀ p q ps H', Same H H' → H' p = some (.tup [T (cds "tokens"), .ref q]) → H' q = some (.lst (ps.map V.ref)) → TokAt H' ps ts → ts.length ≤ cs.length → Q (.ref p) H') ∧
  (∀ ts i, lex 0 cs = (ts, some i) → ∀ p H', Same H H' → H' p = some (.tup [T (cds "wrong"), .int ((i : Nat) : Int)]) → Q (.ref p) H')
theorem ok_law_due {f : Addr} {fd : FuncData} (F : Fun K "_law_due" "_law_due" s_law_due f fd) (Y : Bn mg) (c_law_ends : Cal P w K mg base 1 "_law_ends" spEnds []) (c_law_step : Cal P w K mg base 3 "_law_step" spStep []) : FnOk P w K mg base CX0 4 f fd ["text"] spDue := by
  refine F.ok sc_law_due (fun vs H Q E h => ?_) (fun cdv A outer s H vs Q E hr h => ?_)
  · obtain ⟨cs, rfl, _⟩ := h
    rfl
  · obtain ⟨cs, rfl, hl, hs, kQ, kW⟩ := h
    have nd := sc_law_due.nd
    refine ⟨_, (pss_cons (ps_set (i := 1) nd rfl (Or.inl rfl) (pe_c c_law_ends hr (by decide) rfl (pa_cons (pv 0) pa_nil)))
      (pss_cons (ps_set (i := 2) nd rfl (Or.inl rfl) (pe_lst pa_nil))
      (pss_cons (ps_set (i := 3) nd rfl (Or.inl rfl) pe_int)
      (pss_cons (ps_for PassesOwn.never rfl (pi_range1 rfl Y.n_range (pa_cons (pe_callB call_lenS (by rfl) Y.n_len (by decide +kernel) (pa_cons (pv 0) pa_nil)) pa_nil)) (pg_name (i := 4) nd rfl (Or.inl rfl)) (pss_cons (ps_if (pt_cmpR op_ge (pv 3) (pe_callB call_lenS (by rfl) Y.n_len (by decide +kernel) (pa_cons (pv 0) pa_nil)) (nomark _)) (pss_one (ps_ret (pe_tup (pa_cons pe_str (pa_cons (pv 2) pa_nil))))) pss_nil)
      (pss_one (ps_if (pt_cmpR op_eq (pe_ix ix_str (pv 0) (pv 3) (fun _ _ => rfl)) pe_str (nomark _)) (pss_one (ps_set (i := 3) nd rfl (Or.inl rfl) (pe_op op_add (pv 3) pe_int))) (pss_cons (ps_asg (pe_c c_law_step hr (by decide) rfl (pa_cons (pv 0) (pa_cons (pv 1) (pa_cons (pv 3) pa_nil)))) (pg_tup (by rfl) (pgs_cons (pg_name (i := 5) nd rfl (Or.inl rfl)) (pgs_cons (pg_name (i := 6) nd rfl (Or.inl rfl)) pgs_nil))))
      (pss_cons (ps_if (pt_cmpR op_isN (pv 5) pe_non (nomark _)) (pss_one (ps_ret (pe_tup (pa_cons pe_str (pa_cons (pv 3) pa_nil))))) pss_nil)
      (pss_cons (ps_expr (pe_bm PySem.F.plainAttrs_list PySem.F.slot_list_append PySem.F.type_list_append mt_append (pv 2) (pa_cons (pv 5) pa_nil)))
      (pss_one (ps_set (i := 3) nd rfl (Or.inl rfl) (pv 6))))))))))
      (pss_one (ps_ret (pe_tup (pa_cons pe_str (pa_cons (pv 2) pa_nil))))))))), ?_⟩
    rw [show L2.start N_law_due [T cs] = [some (T cs), none, none, none, none, none, none] from rfl]
    walk_at "rd"
    refine ⟨cs, rfl, hl, fun e H1 he0 s1 he => ?_⟩
    walk_at "rd"
    refine w_newL (by show 0 ≤ 1000000; decide) fun D H2 hD s2 h2 => ?_
    walk_at "rd"
    have hDe : e ≠ D := fun z => by rw [← z, he] at hD; cases hD
    have hD0 : H D = none := s1.free hD
    refine w_lenS (by omega) ?_
    walk_at "rd"
    have e32 : (Str.ofString " ").cps.toList = ([32] : List Nat) := by decide +kernel
    refine for_R (fun i σ' H' => ∃ (j : Nat) (ps : List Addr) (ts : List Tk) (x y z : Option V), σ' = [some (T cs), some (.ref e), some (.ref D), some (.int (j : Int)), x, y, z] ∧ i ≤ j ∧ j ≤ cs.length ∧ Same H H' ∧ H' e = some (.lst (endL cs)) ∧ H' D = some (.lst (ps.map V.ref)) ∧ TokAt H' ps ts ∧ ts.length ≤ j ∧
        lex 0 cs = (ts ++ (lex j (cs.drop j)).1, (lex j (cs.drop j)).2)) (by omega) (by omega)
      ⟨0, [], [], none, none, none, rfl, Nat.le_refl _, Nat.zero_le _, s1.trans s2, s2 _ _ he, h2, .nil, Nat.zero_le _, rfl⟩ ?_ ?_
    · rintro i σ' H' hi ⟨j, ps, ts, x, y, z, rfl, hij, hj, sm, he', hL, hT, hlen, hlex⟩
      walk_at "rd"
      refine w_lenS (by omega) ?_
      walk_at "rd"
      refine w_if (fun hge => ?_) (fun hge => ?_)
      · have : j = cs.length := by omega
        subst this
        rw [List.drop_length, lex_nil, List.append_nil] at hlex
        walk_at "rd"
        refine w_newT (by show 2 ≤ 1000000; decide) fun p H3 hp s3 h3 => ?_
        exact kQ ts hlex p D ps H3 (sm.trans s3) h3 (s3 _ _ hL) (hT.same s3) hlen
      · have hj2 : j < cs.length := by omega
        walk_at "rd"
        refine w_ixS (by omega) (atI_nat (List.getElem?_eq_getElem hj2)) ?_
        walk_at "rd"
        rw [e32]
        refine w_ifT (fun hsp => ?_) (fun hsp => ?_)
        · have hc : cs[j] = 32 := (List.cons.inj hsp).1
          rw [drop_cons hj2, hc, lex_sp] at hlex
          walk_at "rd"
          exact ⟨j + 1, ps, ts, _, y, z, rfl, by omega, by omega, sm, he', hL, hT, by omega, hlex⟩
        · have hc : ¬ cs[j] = 32 := fun e => hsp (by rw [e])
          walk_at "rd"
          refine ⟨cs, j, e, rfl, hj2, hl, hs, he', fun k v n hk p q H3 s3 hq hp => ?_, fun hn p j2 H3 s3 hp => ?_⟩
          · have hk' := hk
            rw [drop_cons hj2] at hk'
            have hpos := one_pos hk'
            rw [← drop_cons hj2, List.length_drop] at hpos
            rw [drop_cons hj2, lex_tok hc hk'] at hlex
            refine ⟨p, _, rfl, sqT_of hp, rfl, ?_⟩
            refine ⟨_, _, rfl, ?_⟩
            walk_at "rd"
            refine ⟨_, _, rfl, ?_⟩
            walk_at "rd"
            refine ⟨rfl, ?_⟩
            walk_at "rd"
            refine w_isN ?_
            walk_at "rd"
            refine w_if (fun h => V.noConfusion h) (fun _ => ?_)
            walk_at "rd"
            have hL3 := s3 _ _ hL
            refine ⟨tyL (SqL.of hL3), ?_⟩
            walk_at "rd"
            have hpl : ps.length = ts.length := hT.length
            refine w_app2 hL3 (by rw [List.length_map]; omega) fun H4 h4 k4 => ?_
            walk_at "rd"
            have hDt : ∀ t, H3 D ≠ some (.tup t) := fun t e => by rw [hL3] at e; cases e
            have sm4 : Same H H4 := fun b o hb => k4 b o (ne_of_none hb hD0) (s3 _ _ (sm _ _ hb))
            refine ⟨j + n, ps ++ [q], ts ++ [(k, v, j)], _, _, _, rfl, by omega, by omega, sm4, k4 _ _ hDe (s3 _ _ he'), ?_, ?_, ?_, ?_⟩
            · rw [h4, List.map_append]; rfl
            · exact TokAt.but k4 hDt (TokAt.snoc (t := (k, v, j)) hq (hT.same s3))
            · rw [List.length_append]; show ts.length + 1 ≤ j + n; omega
            · rw [hlex, List.append_assoc, List.drop_drop]
              have : j + 1 + (n - 1) = j + n := by omega
              rw [this]
              rfl
          · have hn' := hn
            rw [drop_cons hj2] at hn'
            rw [drop_cons hj2, lex_wrong hc hn'] at hlex
            refine ⟨p, _, rfl, sqT_of hp, rfl, ?_⟩
            refine ⟨_, _, rfl, ?_⟩
            walk_at "rd"
            refine ⟨_, _, rfl, ?_⟩
            walk_at "rd"
            refine ⟨rfl, ?_⟩
            walk_at "rd"
            refine w_isN ?_
            walk_at "rd"
            refine w_if (fun _ => ?_) (fun h => absurd rfl h)
            walk_at "rd"
            refine w_newT (by show 2 ≤ 1000000; decide) fun p5 H5 hp5 s5 h5 => ?_
            exact kW _ j hlex p5 H5 ((sm.trans s3).trans s5) h5
    · rintro σ' H' ⟨j, ps, ts, x, y, z, rfl, hij, hj, sm, he', hL, hT, hlen, hlex⟩
      have : j = cs.length := by omega
      subst this
      rw [List.drop_length, lex_nil, List.append_nil] at hlex
      walk_at "rd"
      refine w_newT (by show 2 ≤ 1000000; decide) fun p H3 hp s3 h3 => ?_
      exact kQ ts hlex p D ps H3 (sm.trans s3) h3 (s3 _ _ hL) (hT.same s3) hlen

theorem w_callS {sp : Sp} {E : L2.St → XK} {t : TA} {σ : L2.St} {H : Hp} {Q : VK} (k : t σ H fun vs H1 => sp vs H1 Q (E σ)) : tCallS sp E t σ H Q := k
abbrev s_law_told : Stmt := topS 36
abbrev N_law_told : List Str := ["text", "e"]
theorem sc_law_told : FnScope N_law_told ["text"] (defScope s_law_told) := ⟨rfl, rfl, rfl, by decide +kernel, rfl, by decide +kernel, by decide +kernel⟩
def spTold : Sp := fun vs H Q _ => ∃ (cs : List Nat), vs = [T cs] ∧ cs.length ≤ 100000 ∧
  (∀ ts, lex 0 cs = (ts, none) → ∀ p q ps H', Same H H' → H' p = some (.tup [T (cds "tokens"), .ref q]) → H' q = some (.lst (ps.map V.ref)) → TokAt H' ps ts → ts.length ≤ cs.length → Q (.ref p) H') ∧
  (∀ ts i, lex 0 cs = (ts, some i) → ∀ p H', Same H H' → H' p = some (.tup [T (cds "wrong"), .int ((i : Nat) : Int)]) → Q (.ref p) H')
theorem ok_law_told {f : Addr} {fd : FuncData} {LE NT : Addr} (F : Fun K "_law_told" "_law_told" s_law_told f fd) (Z : TokTx P K mg C fI) (Y : Bn mg) (ctokenize : CalX P w K mg base 4 "tokenize" (spTokenize C))
    (mLE : mg "LivesteadError" = some (.ref LE)) (hEx : PySem.W.exmOne K (.ref C) (.ref LE) = some true) (X : ExcC K C) (gC : ∃ u, mg "SourceError" = some u ∧ RelV (.ref C) u) (gN : ∃ u, mg "NameTwice" = some u ∧ RelV (.ref NT) u) (gV : mg "ValueError" = none)
    (k1 : PySem.W.kitOne K (.ref C) (.ref C) = some true) (k2 : PySem.W.kitOne K (.ref C) (.ref NT) = some false) (k3 : PySem.W.kitOne K (.ref C) (.type "ValueError") = some true) : FnOk P w K mg base CX0 5 f fd ["text"] spTold := by
  refine F.ok sc_law_told (fun vs H Q E h => ?_) (fun cdv A outer s H vs Q E hr h => ?_)
  · obtain ⟨cs, rfl, _⟩ := h
    rfl
  · obtain ⟨cs, rfl, hl, kQ, kW⟩ := h
    have nd := sc_law_told.nd
    have gLE : Names (cxOf CX0 P w K mg base N_law_told "_law_told" (defScope s_law_told) f cdv A outer s H E).nox "LivesteadError" (.ref LE) := ⟨rfl, by decide, .inl mLE⟩
    refine ⟨_, (pss_cons (ps_try_as (i := 1) rfl rfl nd rfl rfl gLE takes0 (fun W pn xe tk po => pss_one (ps_ret (pe_tup (pa_cons pe_str (pa_cons (pe_cxs ctokenize hr (by decide) rfl tk (pa_cons (pv 0) pa_nil)) pa_nil))))) (fun a oe cls d pn hz hf => pss_one (ps_if (PW.pt (pw_and (pt_val (pe_callB (call_isG hz hf) (by rfl) Y.n_isinstance (by decide +kernel) (pa_cons (pv 1) (pa_cons (pe_gc rfl gC) pa_nil)))) (pw_and (pt_not (pt_val (pe_callB (call_isG hz hf) (by rfl) Y.n_isinstance (by decide +kernel) (pa_cons (pv 1) (pa_cons (pe_gc rfl gN) pa_nil))))) (pw_and1 (pt_val (pe_callB (call_isG hz hf) (by rfl) Y.n_isinstance (by decide +kernel) (pa_cons (pv 1) (pa_cons (pe_bltn (v := .ty "ValueError") (by rfl) gV (by decide +kernel) rfl) pa_nil)))))))) (pss_one (ps_ret (pe_tup (pa_cons pe_str (pa_cons (pe_bySrc Z.src hz hf (pv 1)) pa_nil))))) pss_nil)))
      (pss_one (ps_ret pe_non))), ?_⟩
    rw [show L2.start N_law_told [T cs] = [some (T cs), none] from rfl]
    walk_at "rd"
    refine w_callS ?_
    walk_at "rd"
    refine ⟨cs, rfl, hl, fun ts hts p ps H1 hp s1 h1 hT hlen => ?_, fun ts i hts d H1 hd s1 h1 => ?_⟩
    · walk_at "rd"
      refine w_newT (by show 2 ≤ 1000000; decide) fun p2 H2 hp2 s2 h2 => ?_
      exact kQ ts hts p2 p ps H2 (s1.trans s2) h2 (s2 _ _ h1) (hT.same s2) hlen
    · refine ⟨true, hEx, fun _ a ha => ?_, fun h => nomatch h⟩
      walk_at "rd"
      refine ⟨C, d, _, _, _, true, rfl, rfl, rfl, h1, X, fun u h => h, k1, ?_⟩
      refine ⟨true, rfl, L2.iteT ?_⟩
      walk_at "rd"
      refine ⟨C, d, _, _, _, false, rfl, rfl, rfl, h1, X, fun u h => h, k2, ?_⟩
      refine ⟨false, rfl, L2.iteT ?_⟩
      walk_at "rd"
      refine ⟨C, d, _, _, _, true, rfl, rfl, rfl, h1, X, fun u h => h, k3, ?_⟩
      refine ⟨true, rfl, L2.iteT ?_⟩
      walk_at "rd"
      refine ⟨_, rfl, rfl, rfl, d, _, rfl, h1, ?_⟩
      walk_at "rd"
      refine w_newT (by show 2 ≤ 1000000; decide) fun p2 H2 hp2 s2 h2 => ?_
      exact kW ts i hts p2 H2 (s1.trans s2) h2
end

section
variable {P : Program} {w : World} {K : PySem.W.Frag} {mg : Str → Option Value} {base : Heap} {C fI : Addr}
abbrev s_law : Stmt := topS 37
abbrev N_law : List Str := ["script", "state", "text", "k", "due", "actual", "token"]
theorem sc_law : FnScope N_law ["script"] (defScope s_law) := ⟨rfl, rfl, rfl, by decide +kernel, rfl, by decide +kernel, by decide +kernel⟩
def spLaw (K : PySem.W.Frag) : Sp := fun vs H Q _ => ∃ (a : Addr) (ns : List Int), vs = [.ref a] ∧ SqL K H a (ns.map V.int) ∧ ns.length ≤ 63 ∧ ∀ H', Q (.bl true) H'
theorem src_ascii {c : Nat} (h : srcC c = true) : c < 128 := by
  unfold srcC at h
  rw [Bool.and_eq_true, Bool.and_eq_true, decide_eq_true_iff, decide_eq_true_iff] at h
  omega
theorem ok_law {f : Addr} {fd : FuncData} (F : Fun K "law" "law" s_law f fd) (Y : Bn mg) (c_law_state : Cal P w K mg base 1 "_law_state" (spState K) []) (c_law_draw : Cal P w K mg base 1 "_law_draw" spDraw [])
    (c_law_piece : Cal P w K mg base 2 "_law_piece" (spTx IsPiece) []) (c_law_due : Cal P w K mg base 4 "_law_due" spDue []) (c_law_told : Cal P w K mg base 5 "_law_told" spTold []) : FnOk P w K mg base CX0 6 f fd ["script"] (spLaw K) := by
  refine F.ok sc_law (fun vs H Q E h => ?_) (fun cdv A outer s H vs Q E hr h => ?_)
  · obtain ⟨a, ns, rfl, _⟩ := h
    rfl
  · obtain ⟨a, ns, rfl, hS, hlen, kQ⟩ := h
    have nd := sc_law.nd
    refine ⟨_, (pss_cons (ps_set (i := 1) nd rfl (Or.inl rfl) (pe_c c_law_state hr (by decide) rfl (pa_cons (pv 0) pa_nil)))
      (pss_cons (ps_set (i := 2) nd rfl (Or.inl rfl) pe_str)
      (pss_cons (ps_for PassesOwn.never rfl (pi_range1 rfl Y.n_range (pa_cons (pe_c c_law_draw hr (by decide) rfl (pa_cons (pv 1) (pa_cons pe_int pa_nil))) pa_nil)) (pg_name (i := 3) nd rfl (Or.inl rfl)) (pss_one (ps_if (pt_cmpR op_lt (pe_callB call_lenS (by rfl) Y.n_len (by decide +kernel) (pa_cons (pv 2) pa_nil)) pe_int (nomark _)) (pss_one (ps_set (i := 2) nd rfl (Or.inl rfl) (pe_op op_addS (pv 2) (pe_c c_law_piece hr (by decide) rfl (pa_cons (pv 1) pa_nil))))) pss_nil)))
      (pss_cons (ps_set (i := 4) nd rfl (Or.inl rfl) (pe_c c_law_due hr (by decide) rfl (pa_cons (pv 2) pa_nil)))
      (pss_cons (ps_set (i := 5) nd rfl (Or.inl rfl) (pe_c c_law_told hr (by decide) rfl (pa_cons (pv 2) pa_nil)))
      (pss_cons (ps_if (pt_cmpR (op_neD hr.units) (pv 5) (pv 4) (nomark _)) (pss_one (ps_ret pe_bl)) pss_nil)
      (pss_cons (ps_if (pt_cmpR op_eq (pe_ix ix_tup (pv 4) pe_int (fun _ _ => rfl)) pe_str (nomark _)) (pss_one (ps_ret (pe_not (pe_callB call_isi (by rfl) Y.n_isinstance (by decide +kernel) (pa_cons (pe_ix ix_tup (pv 5) pe_int (fun _ _ => rfl)) (pa_cons (pe_bltn (v := .ty "bool") (by rfl) Y.n_bool (by decide +kernel) rfl) pa_nil)))))) pss_nil)
      (pss_one (ps_ret (pe_cmpR op_eq (pe_callB call_lenL (by rfl) Y.n_len (by decide +kernel) (pa_cons (pe_lc (own := [("token", 6)]) (g := gName 6) (tt := tOr (tB (tCB (rIsi K) (tCons (tOp (rIxT K) (tVar 6) (tC (.int 1))) (tCons (tC (.ty "bool")) tNil)))) (tB (tCB (rIsi K) (tCons (tOp (rIxT K) (tVar 6) (tC (.int 2))) (tCons (tC (.ty "bool")) tNil))))) rfl nd (pi_list (pe_ix ix_tup (pv 5) pe_int (fun _ _ => rfl))) (blkOk_by (own := [("token", 6)]) (N := N_law) (sc := defScope s_law) (by decide +kernel)) (fun _ _ _ _ _ => pg_name (i := 6) nd rfl (Or.inl rfl)) (fun _ _ _ _ _ => pts_one (PW.pt (pw_or (pt_val (pe_callB call_isi (by rfl) Y.n_isinstance (by decide +kernel) (pa_cons (pe_ix ix_tup (pv 6) pe_int (fun _ _ => rfl)) (pa_cons (pe_bltn (v := .ty "bool") (by rfl) Y.n_bool (by decide +kernel) rfl) pa_nil)))) (pw_or1 (pt_val (pe_callB call_isi (by rfl) Y.n_isinstance (by decide +kernel) (pa_cons (pe_ix ix_tup (pv 6) pe_int (fun _ _ => rfl)) (pa_cons (pe_bltn (v := .ty "bool") (by rfl) Y.n_bool (by decide +kernel) rfl) pa_nil)))))))) (fun _ _ _ _ _ => (pv 6))) pa_nil)) pe_int (nomark _))))))))))), ?_⟩
    rw [show L2.start N_law [.ref a] = [some (.ref a), none, none, none, none, none, none] from rfl]
    walk_at "rd"
    refine ⟨a, ns, rfl, hS, fun S L H1 hSt1 s1 hS0 hL0 => ?_⟩
    walk_at "rd"
    have e0 : (Str.ofString "").cps.toList = ([] : List Nat) := by decide +kernel
    rw [e0]
    refine use_draw hSt1 (by decide) (by decide) fun count H2 c0 c1 hSt2 f2 => ?_
    walk_at "rd"
    refine for_R (fun i σ' H' => ∃ (cs : List Nat) (x : Option V), σ' = [some (.ref a), some (.ref S), some (T cs), x, none, none, none] ∧ (∀ c ∈ cs, srcC c = true) ∧ cs.length ≤ 1604 ∧ StAt H' S L) c0 (by omega)
      ⟨[], none, rfl, fun c h => (List.not_mem_nil h).elim, by decide, hSt2⟩ ?_ ?_
    · rintro i σ' H' hi ⟨cs, x, rfl, hs, hl, hSt⟩
      walk_at "rd"
      refine w_lenS (by omega) ?_
      walk_at "rd"
      refine w_if (fun h => ?_) (fun h => ?_)
      · walk_at "rd"
        refine use_tx hSt fun b H3 hb hSt3 f3 => ?_
        have lb := hb.2
        refine w_addS (by omega) ?_
        walk_at "rd"
        exact ⟨cs ++ b, _, rfl, srcAll_app hs hb.1, by rw [List.length_append]; omega, hSt3⟩
      · exact ⟨cs, _, rfl, hs, hl, hSt⟩
    · rintro σ' H3 ⟨cs, x, rfl, hs, hl, hSt⟩
      have hF : ∀ ts o, lex 0 cs = (ts, o) → ∀ t ∈ ts, FlatTk t := fun ts o h => by
        have := lex_flat (n := cs.length) (l := cs) (pos := 0) (Nat.le_refl _) (fun c hc => src_ascii (hs c hc))
        rw [h] at this
        exact this
      have e6 : (Str.ofString "tokens").cps.toList = cds "tokens" := rfl
      have e5 : (Str.ofString "wrong").cps.toList = cds "wrong" := rfl
      have ne56 : cds "tokens" ≠ cds "wrong" := by decide +kernel
      walk_at "rd"
      refine ⟨cs, rfl, by omega, hs, fun ts hts p q ps H4 s4 hp hq hT hln => ?_, fun ts i hts p H4 s4 hp => ?_⟩
      · walk_at "rd"
        refine ⟨cs, rfl, by omega, fun ts2 hts2 p2 q2 ps2 H5 s5 hp2 hq2 hT2 _ => ?_, fun ts2 i hts2 => ?_⟩
        · rw [hts] at hts2
          have ets : ts = ts2 := congrArg Prod.fst hts2
          subst ets
          have hFt := hF ts none hts
          walk_at "rd"
          refine ⟨.tuple [.str (Str.ofString "tokens"), .list (ts.map tkD)], .tuple [.str (Str.ofString "tokens"), .list (ts.map tkD)], ?_, ?_, pair_shaped hFt, pair_shaped hFt, ?_⟩
          · exact .tup (sqT_of hp2) (.cons (T_eta (Str.ofString "tokens") ▸ .str _) (.cons (dp_list hq2 hT2 hFt) .nil))
          · exact .tup (sqT_of (s5 _ _ hp)) (.cons (T_eta (Str.ofString "tokens") ▸ .str _) (.cons (dp_list (s5 _ _ hq) (hT.same s5) hFt) .nil))
          rw [SeqAt.eqv_refl _ (SeqAt.canLay_of_shaped (pair_shaped hFt))]
          walk_at "rd"
          refine w_ixT (sqT_of (s5 _ _ hp)) (v := T (cds "tokens")) rfl ?_
          walk_at "rd"
          refine w_ifT (fun h => absurd h ne56) (fun _ => ?_)
          walk_at "rd"
          refine ⟨_, rfl, ?_⟩
          walk_at "rd"
          refine w_ixT (sqT_of hp2) (v := .ref q2) rfl ?_
          refine ⟨q2, rfl, ⟨_, SqL.of hq2⟩, fun D2 hD2 => ?_⟩
          have sD : Same H5 (upd H5 D2 (.lst [])) := same_new hD2
          refine lc_list (K := K) (a := q2) (xs := ps2.map V.ref) (fun _ H9 => Same H5 H9 ∧ H9 D2 = some (.lst [])) ⟨sD, upd_same⟩ (fun _ H9 _ hP => SqL.of (hP.1 _ _ hq2)) ?_ ?_
          · rintro i x H9 hx ⟨s9, h9⟩
            obtain ⟨r, hr', rfl⟩ : ∃ q, ps2[i]? = some q ∧ x = V.ref q := by
              rw [List.getElem?_map] at hx
              cases e : ps2[i]? with
              | none => rw [e] at hx; cases hx
              | some q => rw [e] at hx; exact ⟨q, rfl, (Option.some.inj hx).symm⟩
            obtain ⟨t, ht, htq⟩ := (hT2.same s9).get hr'
            have hv := (hFt t ht).2
            refine ⟨rfl, ?_⟩
            walk_at "rd"
            refine w_ixT (sqT_of htq) (v := t.2.1) rfl ?_
            walk_at "rd"
            refine w_isBool hv ?_
            walk_at "rd"
            refine w_ixT (sqT_of htq) (v := .int (t.2.2 : Int)) rfl ?_
            walk_at "rd"
            refine w_isBool (.inr ⟨_, rfl⟩) ?_
            walk_at "rd"
            exact ⟨s9, h9⟩
          · rintro H9 ⟨s9, h9⟩
            walk_at "rd"
            refine w_lenL (SqL.of h9) ?_
            walk_at "rd"
            exact kQ _
        · rw [hts] at hts2
          exact absurd (congrArg Prod.snd hts2) (by simp)
      · walk_at "rd"
        refine ⟨cs, rfl, by omega, fun ts2 hts2 => ?_, fun ts2 i2 hts2 p2 H5 s5 hp2 => ?_⟩
        · rw [hts] at hts2
          exact absurd (congrArg Prod.snd hts2) (by simp)
        · rw [hts] at hts2
          have ei : i = i2 := Option.some.inj (congrArg Prod.snd hts2)
          subst ei
          walk_at "rd"
          refine ⟨.tuple [.str (Str.ofString "wrong"), .int (i : Int)], .tuple [.str (Str.ofString "wrong"), .int (i : Int)], ?_, ?_, wrong_shaped, wrong_shaped, ?_⟩
          · exact .tup (sqT_of hp2) (.cons (T_eta (Str.ofString "wrong") ▸ .str _) (.cons (.int _) .nil))
          · exact .tup (sqT_of (s5 _ _ hp)) (.cons (T_eta (Str.ofString "wrong") ▸ .str _) (.cons (.int _) .nil))
          rw [SeqAt.eqv_refl _ (SeqAt.canLay_of_shaped wrong_shaped)]
          walk_at "rd"
          refine w_ixT (sqT_of (s5 _ _ hp)) (v := T (cds "wrong")) rfl ?_
          walk_at "rd"
          refine w_ifT (fun _ => ?_) (fun h => absurd rfl h)
          walk_at "rd"
          refine w_ixT (sqT_of hp2) (v := .int (i : Int)) rfl ?_
          walk_at "rd"
          refine w_isBool (.inr ⟨_, rfl⟩) ?_
          walk_at "rd"
          exact kQ _
end
/-- an error of the class at S is what «except S» names -/
theorem exm_self {K : PySem.W.Frag} {S : Addr} (h1 : PySem.W.subIn K (.ref S) (.type "BaseException") = some true) (h2 : PySem.W.isClsIn K S = true) (h3 : PySem.W.typeIn K (.ref S) = some (.type "type")) (h4 : PySem.W.subIn K (.ref S) (.ref S) = some true) :
    PySem.W.exmOne K (.ref S) (.ref S) = some true := by
  have e1 : (PySem.W.subIn K (.ref S) (.type "BaseException") == some true) = true := by rw [h1] <;> rfl
  have e2 : ((PySem.W.clsIn K S).isSome && PySem.W.typeIn K (.ref S) == some (.type "type")) = true := by
    have h2' : (PySem.W.clsIn K S).isSome = true := h2
    rw [h2', h3] <;> rfl
  show (if (PySem.W.subIn K (.ref S) (.type "BaseException") == some true) = true then (if ((PySem.W.clsIn K S).isSome && PySem.W.typeIn K (.ref S) == some (.type "type")) = true then PySem.W.subIn K (.ref S) (.ref S) else none) else none) = some true
  rw [if_pos e1, if_pos e2]
  exact h4
/-- texts of a tuple that the top has made -/
def valsT : List (List Nat) → List Value → Bool
  | [], [] => true
  | c :: l, .str x _ :: us => decide (x.cps.toList = c) && valsT l us
  | _, _ => false
theorem valsT_ok : ∀ {l : List (List Nat)} {us : List Value}, valsT l us = true → Vals (l.map T) us
  | [], [], _ => .nil
  | [], _ :: _, h => by cases h
  | _ :: _, [], h => by cases h
  | c :: l, u :: us, h => by
    cases u with
    | str x t =>
      have h' : (decide (x.cps.toList = c) && valsT l us) = true := h
      rw [Bool.and_eq_true, decide_eq_true_iff] at h'
      refine .cons ⟨t, ?_⟩ (valsT_ok h'.2)
      rw [← h'.1]
    | _ => cases h
theorem sqT_top {K : PySem.W.Frag} {a : Addr} {o : Option Addr} {its : Array Value} {n : Nat} {sl : Array (Option Value)} {l : List (List Nat)} (h : K.lookup a = some ⟨.type "tuple", o, .seq its n, sl⟩) (e : valsT l its.toList = true) (hl : l.length ≤ 1000) (H : Hp) : SqT K H a (l.map T) := by
  have v := valsT_ok e
  refine .inr ⟨_, its, n, h, rfl, rfl, ?_, v⟩
  have z : its.size = l.length := by
    have z := v.length
    rw [List.length_map] at z
    rw [z]
    exact Array.length_toList.symm
  rw [z]
  exact Nat.le_trans hl (by decide)

theorem kit_same {K : PySem.W.Frag} {C : Addr} : PySem.W.kitOne K (.ref C) (.ref C) = some true := by
  unfold PySem.W.kitOne
  rw [if_pos (beq_self_eq_true _)]
theorem kit_no {K : PySem.W.Frag} {C N : Addr} (h1 : PySem.W.subIn K (.ref C) (.ref C) = some true) (h2 : PySem.W.subIn K (.ref C) (.ref N) = some false) (h3 : PySem.W.isClsIn K N = true) (h4 : PySem.W.typeIn K (.ref N) = some (.type "type")) :
    PySem.W.kitOne K (.ref C) (.ref N) = some false := by
  unfold PySem.W.kitOne
  have ne : ¬ ((Value.ref C == Value.ref N) = true) := fun e => by
    have e' := beq_iff_eq.mp e
    rw [← e', h1] at h2
    cases h2
  rw [if_neg ne]
  have e2 : ((PySem.W.clsIn K N).isSome && PySem.W.typeIn K (.ref N) == some (.type "type")) = true := by
    have h3' : (PySem.W.clsIn K N).isSome = true := h3
    rw [h3', h4] <;> rfl
  show (if ((PySem.W.clsIn K N).isSome && PySem.W.typeIn K (.ref N) == some (.type "type")) = true then PySem.W.subIn K (.ref C) (.ref N) else none) = some false
  rw [if_pos e2]
  exact h2
theorem kit_ve {K : PySem.W.Frag} {C : Addr} (h : PySem.W.subIn K (.ref C) (.type "ValueError") = some true) : PySem.W.kitOne K (.ref C) (.type "ValueError") = some true := by
  unfold PySem.W.kitOne
  have ne : ¬ ((Value.ref C == Value.type "ValueError") = true) := fun e => by
    have e' := beq_iff_eq.mp e
    cases e'
  rw [if_neg ne]
  show (if PySem.W.kitMeta "ValueError" = true then PySem.W.subIn K (.ref C) (.type "ValueError") else none) = some true
  rw [if_pos (by decide +kernel)]
  exact h
theorem all_mk {P : Program} {w : World} {K : PySem.W.Frag} {h : Heap} {mg : Str → Option Value} {fa f0 f1 f2 f3 f4 f5 f6 f7 f8 f9 f10 f11 f12 f13 f14 f15 f16 f17 f18 f19 f20 : Addr} (X : K.In h) (G : h.Ns mainGlobals mg) (hfa : mg "law" = some (.ref fa))
    {od0 an0 od1 an1 od2 an2 od3 an3 od4 an4 od5 an5 od6 an6 od7 an7 od8 an8 od9 an9 od10 an10 od11 an11 od12 an12 od13 an13 od14 an14 od15 an15 od16 an16 od17 an17 od18 an18 od19 an19 od20 an20 : Option Addr} {sl0 sl1 sl2 sl3 sl4 sl5 sl6 sl7 sl8 sl9 sl10 sl11 sl12 sl13 sl14 sl15 sl16 sl17 sl18 sl19 sl20 : Array (Option Value)} {oc0 kV0 dc0 pm0 cd0 ct0 oc1 kV1 dc1 pm1 cd1 ct1 oc2 kV2 dc2 pm2 cd2 ct2 oc3 kV3 dc3 pm3 cd3 ct3 oc4 kV4 dc4 pm4 cd4 ct4 oc5 kV5 dc5 pm5 cd5 ct5 oc6 kV6 dc6 pm6 cd6 ct6 oc7 kV7 dc7 pm7 cd7 ct7 oc8 kV8 dc8 pm8 cd8 ct8 oc9 kV9 dc9 pm9 cd9 ct9 oc10 kV10 dc10 pm10 cd10 ct10 oc11 kV11 dc11 pm11 cd11 ct11 oc12 kV12 dc12 pm12 cd12 ct12 oc13 kV13 dc13 pm13 cd13 ct13 oc14 kV14 dc14 pm14 cd14 ct14 oc15 kV15 dc15 pm15 cd15 ct15 oc16 kV16 dc16 pm16 cd16 ct16 oc17 kV17 dc17 pm17 cd17 ct17 oc18 kV18 dc18 pm18 cd18 ct18 oc19 kV19 dc19 pm19 cd19 ct19 oc20 kV20 dc20 pm20 cd20 ct20 : Value} {x_SMALL : Str} {t_SMALL : Tok} {x_CAPITAL : Str} {t_CAPITAL : Tok} {x_DIGITS : Str} {t_DIGITS : Tok} {x_QUOTE : Str} {t_QUOTE : Tok} {t_PERCENT : Tok} {t_LONGEST_NAME : Tok} {t_LONGEST_TEXT : Tok} {t_GREATEST_NUMBER : Tok} {t_MOST_DIGITS : Tok} {p_WORDS : Addr} {o_WORDS : Option Addr} {i_WORDS : Array Value} {n_WORDS : Nat} {s_WORDS : Array (Option Value)} {p_MARKS : Addr} {o_MARKS : Option Addr} {i_MARKS : Array Value} {n_MARKS : Nat} {s_MARKS : Array (Option Value)} {C N cda cc fI : Addr} {nm q file : Str} {bs bm : List Value} {sn : List Str} {sub : List Value} {ab : Bool} {col : Option Bool} {dd : Option Addr} {m0 m1 m2 m3 m5 : Option Value} {ocI docI pmI ctI ccl ccl2 : Value} {odI anI cdd cdd2 : Option Addr} {oslI ccs ccs2 : Array (Option Value)} {qual : Str} {vs : Array Value} {tf : Tok} {LE NT : Addr}
    (a0 : PySem.W.nsIn K mainGlobals "_is_letter_or_digit" = some (some (.ref f0)))
    (l0 : K.lookup f0 = some ⟨oc0, od0, .func (PySem.W.fnOf "_is_letter_or_digit" "_is_letter_or_digit" (defArgs s_is_letter_or_digit) (defBody s_is_letter_or_digit) (defScope s_is_letter_or_digit) .none kV0 dc0 pm0 an0 cd0 ct0), sl0⟩)
    (c0 : PySem.W.codeIn K cd0 "_is_letter_or_digit" = true)
    (k0 : PySem.W.keepIn K (.ref f0) = true)
    (a1 : PySem.W.nsIn K mainGlobals "_is_source_character" = some (some (.ref f1)))
    (l1 : K.lookup f1 = some ⟨oc1, od1, .func (PySem.W.fnOf "_is_source_character" "_is_source_character" (defArgs s_is_source_character) (defBody s_is_source_character) (defScope s_is_source_character) .none kV1 dc1 pm1 an1 cd1 ct1), sl1⟩)
    (c1 : PySem.W.codeIn K cd1 "_is_source_character" = true)
    (k1 : PySem.W.keepIn K (.ref f1) = true)
    (a2 : PySem.W.nsIn K mainGlobals "_end_of_run" = some (some (.ref f2)))
    (l2 : K.lookup f2 = some ⟨oc2, od2, .func (PySem.W.fnOf "_end_of_run" "_end_of_run" (defArgs s_end_of_run) (defBody s_end_of_run) (defScope s_end_of_run) .none kV2 dc2 pm2 an2 cd2 ct2), sl2⟩)
    (c2 : PySem.W.codeIn K cd2 "_end_of_run" = true)
    (k2 : PySem.W.keepIn K (.ref f2) = true)
    (a3 : PySem.W.nsIn K mainGlobals "_end_of_text" = some (some (.ref f3)))
    (l3 : K.lookup f3 = some ⟨oc3, od3, .func (PySem.W.fnOf "_end_of_text" "_end_of_text" (defArgs s_end_of_text) (defBody s_end_of_text) (defScope s_end_of_text) .none kV3 dc3 pm3 an3 cd3 ct3), sl3⟩)
    (c3 : PySem.W.codeIn K cd3 "_end_of_text" = true)
    (k3 : PySem.W.keepIn K (.ref f3) = true)
    (a4 : PySem.W.nsIn K mainGlobals "_number_of" = some (some (.ref f4)))
    (l4 : K.lookup f4 = some ⟨oc4, od4, .func (PySem.W.fnOf "_number_of" "_number_of" (defArgs s_number_of) (defBody s_number_of) (defScope s_number_of) .none kV4 dc4 pm4 an4 cd4 ct4), sl4⟩)
    (c4 : PySem.W.codeIn K cd4 "_number_of" = true)
    (k4 : PySem.W.keepIn K (.ref f4) = true)
    (a5 : PySem.W.nsIn K mainGlobals "_token_of_run" = some (some (.ref f5)))
    (l5 : K.lookup f5 = some ⟨oc5, od5, .func (PySem.W.fnOf "_token_of_run" "_token_of_run" (defArgs s_token_of_run) (defBody s_token_of_run) (defScope s_token_of_run) .none kV5 dc5 pm5 an5 cd5 ct5), sl5⟩)
    (c5 : PySem.W.codeIn K cd5 "_token_of_run" = true)
    (k5 : PySem.W.keepIn K (.ref f5) = true)
    (a6 : PySem.W.nsIn K mainGlobals "_mark_at" = some (some (.ref f6)))
    (l6 : K.lookup f6 = some ⟨oc6, od6, .func (PySem.W.fnOf "_mark_at" "_mark_at" (defArgs s_mark_at) (defBody s_mark_at) (defScope s_mark_at) .none kV6 dc6 pm6 an6 cd6 ct6), sl6⟩)
    (c6 : PySem.W.codeIn K cd6 "_mark_at" = true)
    (k6 : PySem.W.keepIn K (.ref f6) = true)
    (a7 : PySem.W.nsIn K mainGlobals "_token_at" = some (some (.ref f7)))
    (l7 : K.lookup f7 = some ⟨oc7, od7, .func (PySem.W.fnOf "_token_at" "_token_at" (defArgs s_token_at) (defBody s_token_at) (defScope s_token_at) .none kV7 dc7 pm7 an7 cd7 ct7), sl7⟩)
    (c7 : PySem.W.codeIn K cd7 "_token_at" = true)
    (k7 : PySem.W.keepIn K (.ref f7) = true)
    (a8 : PySem.W.nsIn K mainGlobals "tokenize" = some (some (.ref f8)))
    (l8 : K.lookup f8 = some ⟨oc8, od8, .func (PySem.W.fnOf "tokenize" "tokenize" (defArgs s_tokenize) (defBody s_tokenize) (defScope s_tokenize) .none kV8 dc8 pm8 an8 cd8 ct8), sl8⟩)
    (c8 : PySem.W.codeIn K cd8 "tokenize" = true)
    (k8 : PySem.W.keepIn K (.ref f8) = true)
    (a9 : PySem.W.nsIn K mainGlobals "_law_state" = some (some (.ref f9)))
    (l9 : K.lookup f9 = some ⟨oc9, od9, .func (PySem.W.fnOf "_law_state" "_law_state" (defArgs s_law_state) (defBody s_law_state) (defScope s_law_state) .none kV9 dc9 pm9 an9 cd9 ct9), sl9⟩)
    (c9 : PySem.W.codeIn K cd9 "_law_state" = true)
    (k9 : PySem.W.keepIn K (.ref f9) = true)
    (a10 : PySem.W.nsIn K mainGlobals "_law_draw" = some (some (.ref f10)))
    (l10 : K.lookup f10 = some ⟨oc10, od10, .func (PySem.W.fnOf "_law_draw" "_law_draw" (defArgs s_law_draw) (defBody s_law_draw) (defScope s_law_draw) .none kV10 dc10 pm10 an10 cd10 ct10), sl10⟩)
    (c10 : PySem.W.codeIn K cd10 "_law_draw" = true)
    (k10 : PySem.W.keepIn K (.ref f10) = true)
    (a11 : PySem.W.nsIn K mainGlobals "_law_words" = some (some (.ref f11)))
    (l11 : K.lookup f11 = some ⟨oc11, od11, .func (PySem.W.fnOf "_law_words" "_law_words" (defArgs s_law_words) (defBody s_law_words) (defScope s_law_words) .none kV11 dc11 pm11 an11 cd11 ct11), sl11⟩)
    (c11 : PySem.W.codeIn K cd11 "_law_words" = true)
    (k11 : PySem.W.keepIn K (.ref f11) = true)
    (a12 : PySem.W.nsIn K mainGlobals "_law_signs" = some (some (.ref f12)))
    (l12 : K.lookup f12 = some ⟨oc12, od12, .func (PySem.W.fnOf "_law_signs" "_law_signs" (defArgs s_law_signs) (defBody s_law_signs) (defScope s_law_signs) .none kV12 dc12 pm12 an12 cd12 ct12), sl12⟩)
    (c12 : PySem.W.codeIn K cd12 "_law_signs" = true)
    (k12 : PySem.W.keepIn K (.ref f12) = true)
    (a13 : PySem.W.nsIn K mainGlobals "_law_piece" = some (some (.ref f13)))
    (l13 : K.lookup f13 = some ⟨oc13, od13, .func (PySem.W.fnOf "_law_piece" "_law_piece" (defArgs s_law_piece) (defBody s_law_piece) (defScope s_law_piece) .none kV13 dc13 pm13 an13 cd13 ct13), sl13⟩)
    (c13 : PySem.W.codeIn K cd13 "_law_piece" = true)
    (k13 : PySem.W.keepIn K (.ref f13) = true)
    (a14 : PySem.W.nsIn K mainGlobals "_law_digits" = some (some (.ref f14)))
    (l14 : K.lookup f14 = some ⟨oc14, od14, .func (PySem.W.fnOf "_law_digits" "_law_digits" (defArgs s_law_digits) (defBody s_law_digits) (defScope s_law_digits) .none kV14 dc14 pm14 an14 cd14 ct14), sl14⟩)
    (c14 : PySem.W.codeIn K cd14 "_law_digits" = true)
    (k14 : PySem.W.keepIn K (.ref f14) = true)
    (a15 : PySem.W.nsIn K mainGlobals "_law_of_run" = some (some (.ref f15)))
    (l15 : K.lookup f15 = some ⟨oc15, od15, .func (PySem.W.fnOf "_law_of_run" "_law_of_run" (defArgs s_law_of_run) (defBody s_law_of_run) (defScope s_law_of_run) .none kV15 dc15 pm15 an15 cd15 ct15), sl15⟩)
    (c15 : PySem.W.codeIn K cd15 "_law_of_run" = true)
    (k15 : PySem.W.keepIn K (.ref f15) = true)
    (a16 : PySem.W.nsIn K mainGlobals "_law_ends" = some (some (.ref f16)))
    (l16 : K.lookup f16 = some ⟨oc16, od16, .func (PySem.W.fnOf "_law_ends" "_law_ends" (defArgs s_law_ends) (defBody s_law_ends) (defScope s_law_ends) .none kV16 dc16 pm16 an16 cd16 ct16), sl16⟩)
    (c16 : PySem.W.codeIn K cd16 "_law_ends" = true)
    (k16 : PySem.W.keepIn K (.ref f16) = true)
    (a17 : PySem.W.nsIn K mainGlobals "_law_step" = some (some (.ref f17)))
    (l17 : K.lookup f17 = some ⟨oc17, od17, .func (PySem.W.fnOf "_law_step" "_law_step" (defArgs s_law_step) (defBody s_law_step) (defScope s_law_step) .none kV17 dc17 pm17 an17 cd17 ct17), sl17⟩)
    (c17 : PySem.W.codeIn K cd17 "_law_step" = true)
    (k17 : PySem.W.keepIn K (.ref f17) = true)
    (a18 : PySem.W.nsIn K mainGlobals "_law_due" = some (some (.ref f18)))
    (l18 : K.lookup f18 = some ⟨oc18, od18, .func (PySem.W.fnOf "_law_due" "_law_due" (defArgs s_law_due) (defBody s_law_due) (defScope s_law_due) .none kV18 dc18 pm18 an18 cd18 ct18), sl18⟩)
    (c18 : PySem.W.codeIn K cd18 "_law_due" = true)
    (k18 : PySem.W.keepIn K (.ref f18) = true)
    (a19 : PySem.W.nsIn K mainGlobals "_law_told" = some (some (.ref f19)))
    (l19 : K.lookup f19 = some ⟨oc19, od19, .func (PySem.W.fnOf "_law_told" "_law_told" (defArgs s_law_told) (defBody s_law_told) (defScope s_law_told) .none kV19 dc19 pm19 an19 cd19 ct19), sl19⟩)
    (c19 : PySem.W.codeIn K cd19 "_law_told" = true)
    (k19 : PySem.W.keepIn K (.ref f19) = true)
    (a20 : PySem.W.nsIn K mainGlobals "law" = some (some (.ref f20)))
    (l20 : K.lookup f20 = some ⟨oc20, od20, .func (PySem.W.fnOf "law" "law" (defArgs s_law) (defBody s_law) (defScope s_law) .none kV20 dc20 pm20 an20 cd20 ct20), sl20⟩)
    (c20 : PySem.W.codeIn K cd20 "law" = true)
    (k20 : PySem.W.keepIn K (.ref f20) = true)
    (z_len : PySem.W.nsIn K mainGlobals "len" = some none)
    (z_int : PySem.W.nsIn K mainGlobals "int" = some none)
    (z_list : PySem.W.nsIn K mainGlobals "list" = some none)
    (z_range : PySem.W.nsIn K mainGlobals "range" = some none)
    (z_max : PySem.W.nsIn K mainGlobals "max" = some none)
    (z_str : PySem.W.nsIn K mainGlobals "str" = some none)
    (z_isinstance : PySem.W.nsIn K mainGlobals "isinstance" = some none)
    (z_bool : PySem.W.nsIn K mainGlobals "bool" = some none)
    (z_ord : PySem.W.nsIn K mainGlobals "ord" = some none)
    (g_SMALL : PySem.W.nsIn K mainGlobals "SMALL" = some (some (.str x_SMALL t_SMALL)))
    (e_SMALL : x_SMALL = ⟨(aLow : List Nat).toArray⟩)
    (g_CAPITAL : PySem.W.nsIn K mainGlobals "CAPITAL" = some (some (.str x_CAPITAL t_CAPITAL)))
    (e_CAPITAL : x_CAPITAL = ⟨(aUp : List Nat).toArray⟩)
    (g_DIGITS : PySem.W.nsIn K mainGlobals "DIGITS" = some (some (.str x_DIGITS t_DIGITS)))
    (e_DIGITS : x_DIGITS = ⟨(aDig : List Nat).toArray⟩)
    (g_QUOTE : PySem.W.nsIn K mainGlobals "QUOTE" = some (some (.str x_QUOTE t_QUOTE)))
    (e_QUOTE : x_QUOTE = ⟨([39] : List Nat).toArray⟩)
    (g_PERCENT : PySem.W.nsIn K mainGlobals "PERCENT" = some (some (.int 37 t_PERCENT)))
    (g_LONGEST_NAME : PySem.W.nsIn K mainGlobals "LONGEST_NAME" = some (some (.int 20 t_LONGEST_NAME)))
    (g_LONGEST_TEXT : PySem.W.nsIn K mainGlobals "LONGEST_TEXT" = some (some (.int 200 t_LONGEST_TEXT)))
    (g_GREATEST_NUMBER : PySem.W.nsIn K mainGlobals "GREATEST_NUMBER" = some (some (.int 1000000000 t_GREATEST_NUMBER)))
    (g_MOST_DIGITS : PySem.W.nsIn K mainGlobals "MOST_DIGITS" = some (some (.int 10 t_MOST_DIGITS)))
    (g_WORDS : PySem.W.nsIn K mainGlobals "WORDS" = some (some (.ref p_WORDS)))
    (l_WORDS : K.lookup p_WORDS = some ⟨.type "tuple", o_WORDS, .seq i_WORDS n_WORDS, s_WORDS⟩)
    (e_WORDS : valsT (WL) i_WORDS.toList = true)
    (g_MARKS : PySem.W.nsIn K mainGlobals "MARKS" = some (some (.ref p_MARKS)))
    (l_MARKS : K.lookup p_MARKS = some ⟨.type "tuple", o_MARKS, .seq i_MARKS n_MARKS, s_MARKS⟩)
    (e_MARKS : valsT (MLs) i_MARKS.toList = true)
    (sC : PySem.W.nsIn K mainGlobals "SourceError" = some (some (.ref C)))
    (sL : K.lookup C = some (excClassObj nm q C N bs bm true sn sub ab col dd m0 m1 m2 m3 m5 "ValueError.__new__"))
    (sV : PySem.HandSPX.refsVE bm = true)
    (sA : PySem.W.findIn K (.ref C) "__setattr__" = some (some (.builtin "object.__setattr__")))
    (sG : PySem.W.findIn K (.ref C) "__getattribute__" = some (some (.builtin "BaseException.__getattribute__")))
    (sH : PySem.W.findIn K (.ref C) "__getattr__" = some none)
    (sN : PySem.W.findIn K (.ref C) "at" = some none)
    (sI : PySem.W.findIn K (.ref C) "__init__" = some (some (.ref fI)))
    (sT : PySem.W.typeIn K (.ref fI) = some (.type "function"))
    (sK : PySem.W.keepIn K (.ref C) = true)
    (sB : PySem.W.subIn K (.ref C) (.type "BaseException") = some true)
    (sE : PySem.W.subIn K (.ref C) (.type "ValueError") = some true)
    (sY : PySem.W.typeIn K (.ref C) = some (.type "type"))
    (sD : PySem.W.hasDictIn K C = true)
    (sJ : PySem.W.isClsIn K C = true)
    (sS : PySem.W.subIn K (.ref C) (.ref C) = some true)
    (sO : PySem.W.nsIn K cStatics "thirdparty.any" = some none)
    (sU : PySem.W.ks_superIn K C C "__init__" = some (some (.builtin "ValueError.__init__")))
    (sM : PySem.W.mroIn K C (.ref C) = some true)
    (sF : PySem.W.nsIn K mainGlobals "super" = some none)
    (sP : (P.main.scope.names.lookup ("super" : Str)).isSome = false)
    (sQ : K.lookup fI = some ⟨ocI, odI, .func (PySem.W.fnX "__init__" qual PySem.SrcX.eA PySem.SrcX.eB PySem.SrcX.eS [("__class__", cc)] .none .none docI pmI anI (.ref cda) ctI), oslI⟩)
    (sR : PySem.W.codeIn K (.ref cda) qual = true)
    (sW : K.lookup cda = some ⟨ccl, cdd, .fields vs, ccs⟩)
    (sX : vs[2]? = some (.str file tf))
    (sZ : ((P.main.file : Str) == file) = true)
    (s0 : K.lookup cc = some ⟨ccl2, cdd2, .cell (some (.ref C)), ccs2⟩)
    (gLE : PySem.W.nsIn K mainGlobals "LivesteadError" = some (some (.ref LE)))
    (bLE : PySem.W.subIn K (.ref LE) (.type "BaseException") = some true)
    (dLE : PySem.W.hasDictIn K LE = true)
    (tLE : PySem.W.typeIn K (.ref LE) = some (.type "type"))
    (uLE : PySem.W.subIn K (.ref C) (.ref LE) = some true)
    (gNT : PySem.W.nsIn K mainGlobals "NameTwice" = some (some (.ref NT)))
    (jNT : PySem.W.isClsIn K NT = true)
    (tNT : PySem.W.typeIn K (.ref NT) = some (.type "type"))
    (uNT : PySem.W.subIn K (.ref C) (.ref NT) = some false)
    (xA : PySem.W.findIn K (.ref C) "__class__" = some (some (.builtin "object.__class__")))
    (xN : PySem.W.specialIn K (.builtin "object.__class__") "__get__" = some (some (.builtin "getset_descriptor.__get__")))
    (xT : PySem.W.takesIn K (.builtin "object.__class__") = some true)
    (xM : PySem.W.mroIn K C (.type "object") = some true)
    (zV : PySem.W.nsIn K mainGlobals "ValueError" = some none)
    : ∃ fd : FuncData, (∀ (s : Shared) (v : Value), BindsTo s fd ⟨[v], []⟩ [("script", v)]) ∧ ∀ base : Heap, K.In base → base.Ns mainGlobals mg → FnOk P w K mg base CX0 6 fa fd ["script"] (spLaw K) := by
  have e := hfa.symm.trans (PySem.W.mg_of X G a20)
  cases e
  have Y : Bn mg := ⟨PySem.W.mg_none_of X G z_len, PySem.W.mg_none_of X G z_int, PySem.W.mg_none_of X G z_list, PySem.W.mg_none_of X G z_range, PySem.W.mg_none_of X G z_max, PySem.W.mg_none_of X G z_str, PySem.W.mg_none_of X G z_isinstance, PySem.W.mg_none_of X G z_bool, PySem.W.mg_none_of X G z_ord⟩
  have src : PySem.SrcX.SrcTxt P K mg "SourceError" C fI := {
    gC := PySem.W.mg_of X G sC, cls := ⟨nm, q, N, bs, bm, sn, sub, ab, col, dd, m0, m1, m2, m3, m5, sL, sV⟩, sa := sA, ga := sG, gg := sH, noN := sN, iC := sI, tC := sT, kC := sK, exC := sB, veC := sE, tyC := sY, hdC := sD,
    te := exm_self sB sJ sY sS, op := sO, up := sU, mr := sM, su := PySem.W.mg_none_of X G sF, top := sP,
    fn := ⟨ocI, odI, docI, pmI, anI, cda, cc, ctI, oslI, qual, ccl, ccl2, cdd, cdd2, ccs, ccs2, vs, file, tf, sQ, sR, sW, sX, sZ, s0⟩ }
  have Z : TokTx P K mg C fI := ⟨src, ⟨p_WORDS, ⟨_, PySem.W.mg_of X G g_WORDS, rfl⟩, sqT_top l_WORDS e_WORDS (by decide +kernel)⟩, ⟨p_MARKS, ⟨_, PySem.W.mg_of X G g_MARKS, rfl⟩, sqT_top l_MARKS e_MARKS (by decide +kernel)⟩, ⟨_, PySem.W.mg_of X G g_SMALL, ⟨t_SMALL, by rw [e_SMALL]⟩⟩, ⟨_, PySem.W.mg_of X G g_CAPITAL, ⟨t_CAPITAL, by rw [e_CAPITAL]⟩⟩, ⟨_, PySem.W.mg_of X G g_DIGITS, ⟨t_DIGITS, by rw [e_DIGITS]⟩⟩, ⟨_, PySem.W.mg_of X G g_QUOTE, ⟨t_QUOTE, by rw [e_QUOTE]⟩⟩, ⟨_, PySem.W.mg_of X G g_PERCENT, ⟨t_PERCENT, rfl⟩⟩, ⟨_, PySem.W.mg_of X G g_LONGEST_NAME, ⟨t_LONGEST_NAME, rfl⟩⟩, ⟨_, PySem.W.mg_of X G g_LONGEST_TEXT, ⟨t_LONGEST_TEXT, rfl⟩⟩, ⟨_, PySem.W.mg_of X G g_GREATEST_NUMBER, ⟨t_GREATEST_NUMBER, rfl⟩⟩, ⟨_, PySem.W.mg_of X G g_MOST_DIGITS, ⟨t_MOST_DIGITS, rfl⟩⟩⟩
  have mLE := PySem.W.mg_of X G gLE
  have hEx : PySem.W.exmOne K (.ref C) (.ref LE) = some true := PySem.W.exm_ref bLE dLE tLE uLE
  have hX : ExcC K C := ⟨sG, sH, sB, sD, xA, xN, xT, xM⟩
  have gC : ∃ u, mg "SourceError" = some u ∧ RelV (.ref C) u := ⟨_, PySem.W.mg_of X G sC, rfl⟩
  have gN : ∃ u, mg "NameTwice" = some u ∧ RelV (.ref NT) u := ⟨_, PySem.W.mg_of X G gNT, rfl⟩
  have gV := PySem.W.mg_none_of X G zV
  have kit1 := kit_same (K := K) (C := C)
  have kit2 := kit_no sS uNT jNT tNT
  have kit3 := kit_ve sE
  have F0 := fun_mk (st := s_is_letter_or_digit) l0 c0 k0
  have b0 := F0.binds (ps := ["character"]) fun _ _ _ _ _ _ us hl => match us, hl with | [_], _ => rfl
  have m0 := PySem.W.mg_of X G a0
  have F1 := fun_mk (st := s_is_source_character) l1 c1 k1
  have b1 := F1.binds (ps := ["character"]) fun _ _ _ _ _ _ us hl => match us, hl with | [_], _ => rfl
  have m1 := PySem.W.mg_of X G a1
  have F2 := fun_mk (st := s_end_of_run) l2 c2 k2
  have b2 := F2.binds (ps := ["text", "at"]) fun _ _ _ _ _ _ us hl => match us, hl with | [_, _], _ => rfl
  have m2 := PySem.W.mg_of X G a2
  have F3 := fun_mk (st := s_end_of_text) l3 c3 k3
  have b3 := F3.binds (ps := ["text", "at"]) fun _ _ _ _ _ _ us hl => match us, hl with | [_, _], _ => rfl
  have m3 := PySem.W.mg_of X G a3
  have F4 := fun_mk (st := s_number_of) l4 c4 k4
  have b4 := F4.binds (ps := ["run", "at"]) fun _ _ _ _ _ _ us hl => match us, hl with | [_, _], _ => rfl
  have m4 := PySem.W.mg_of X G a4
  have F5 := fun_mk (st := s_token_of_run) l5 c5 k5
  have b5 := F5.binds (ps := ["run", "at"]) fun _ _ _ _ _ _ us hl => match us, hl with | [_, _], _ => rfl
  have m5 := PySem.W.mg_of X G a5
  have F6 := fun_mk (st := s_mark_at) l6 c6 k6
  have b6 := F6.binds (ps := ["text", "at"]) fun _ _ _ _ _ _ us hl => match us, hl with | [_, _], _ => rfl
  have m6 := PySem.W.mg_of X G a6
  have F7 := fun_mk (st := s_token_at) l7 c7 k7
  have b7 := F7.binds (ps := ["text", "at"]) fun _ _ _ _ _ _ us hl => match us, hl with | [_, _], _ => rfl
  have m7 := PySem.W.mg_of X G a7
  have F8 := fun_mk (st := s_tokenize) l8 c8 k8
  have b8 := F8.binds (ps := ["text"]) fun _ _ _ _ _ _ us hl => match us, hl with | [_], _ => rfl
  have m8 := PySem.W.mg_of X G a8
  have F9 := fun_mk (st := s_law_state) l9 c9 k9
  have b9 := F9.binds (ps := ["script"]) fun _ _ _ _ _ _ us hl => match us, hl with | [_], _ => rfl
  have m9 := PySem.W.mg_of X G a9
  have F10 := fun_mk (st := s_law_draw) l10 c10 k10
  have b10 := F10.binds (ps := ["state", "limit"]) fun _ _ _ _ _ _ us hl => match us, hl with | [_, _], _ => rfl
  have m10 := PySem.W.mg_of X G a10
  have F11 := fun_mk (st := s_law_words) l11 c11 k11
  have b11 := F11.binds (ps := []) fun _ _ _ _ _ _ us hl => match us, hl with | [], _ => rfl
  have m11 := PySem.W.mg_of X G a11
  have F12 := fun_mk (st := s_law_signs) l12 c12 k12
  have b12 := F12.binds (ps := []) fun _ _ _ _ _ _ us hl => match us, hl with | [], _ => rfl
  have m12 := PySem.W.mg_of X G a12
  have F13 := fun_mk (st := s_law_piece) l13 c13 k13
  have b13 := F13.binds (ps := ["state"]) fun _ _ _ _ _ _ us hl => match us, hl with | [_], _ => rfl
  have m13 := PySem.W.mg_of X G a13
  have F14 := fun_mk (st := s_law_digits) l14 c14 k14
  have b14 := F14.binds (ps := ["run"]) fun _ _ _ _ _ _ us hl => match us, hl with | [_], _ => rfl
  have m14 := PySem.W.mg_of X G a14
  have F15 := fun_mk (st := s_law_of_run) l15 c15 k15
  have b15 := F15.binds (ps := ["run", "at"]) fun _ _ _ _ _ _ us hl => match us, hl with | [_, _], _ => rfl
  have m15 := PySem.W.mg_of X G a15
  have F16 := fun_mk (st := s_law_ends) l16 c16 k16
  have b16 := F16.binds (ps := ["text"]) fun _ _ _ _ _ _ us hl => match us, hl with | [_], _ => rfl
  have m16 := PySem.W.mg_of X G a16
  have F17 := fun_mk (st := s_law_step) l17 c17 k17
  have b17 := F17.binds (ps := ["text", "ends", "at"]) fun _ _ _ _ _ _ us hl => match us, hl with | [_, _, _], _ => rfl
  have m17 := PySem.W.mg_of X G a17
  have F18 := fun_mk (st := s_law_due) l18 c18 k18
  have b18 := F18.binds (ps := ["text"]) fun _ _ _ _ _ _ us hl => match us, hl with | [_], _ => rfl
  have m18 := PySem.W.mg_of X G a18
  have F19 := fun_mk (st := s_law_told) l19 c19 k19
  have b19 := F19.binds (ps := ["text"]) fun _ _ _ _ _ _ us hl => match us, hl with | [_], _ => rfl
  have m19 := PySem.W.mg_of X G a19
  have F20 := fun_mk (st := s_law) l20 c20 k20
  refine ⟨PySem.W.fnOf "law" "law" (defArgs s_law) (defBody s_law) (defScope s_law) .none kV20 dc20 pm20 an20 cd20 ct20, fun s v => .of_eq rfl, fun base _ _ => ?_⟩
  have c_is_letter_or_digit : Cal P w K mg base 1 "_is_letter_or_digit" spLet [] := ⟨f0, _, _, _, ok_is_letter_or_digit F0 Z, m0, k0, b0, .nil⟩
  have c_is_source_character : Cal P w K mg base 1 "_is_source_character" spSrcC [] := ⟨f1, _, _, _, ok_is_source_character F1 Z Y, m1, k1, b1, .nil⟩
  have c_end_of_run : Cal P w K mg base 2 "_end_of_run" spEndRun [] := ⟨f2, _, _, _, ok_end_of_run F2 Y c_is_letter_or_digit, m2, k2, b2, .nil⟩
  have c_end_of_text : CalX P w K mg base 2 "_end_of_text" (spEndTx C) := ⟨f3, _, _, ok_end_of_text F3 Z c_is_source_character, m3, k3, b3⟩
  have c_number_of : CalX P w K mg base 1 "_number_of" (spNumOf C) := ⟨f4, _, _, ok_number_of F4 Z Y, m4, k4, b4⟩
  have c_token_of_run : CalX P w K mg base 2 "_token_of_run" (spTokRun C) := ⟨f5, _, _, ok_token_of_run F5 Z Y c_number_of, m5, k5, b5⟩
  have c_mark_at : CalX P w K mg base 1 "_mark_at" (spMark C) := ⟨f6, _, _, ok_mark_at F6 Z, m6, k6, b6⟩
  have c_token_at : CalX P w K mg base 3 "_token_at" (spTokAt C) := ⟨f7, _, _, ok_token_at F7 Z Y c_is_letter_or_digit c_end_of_run c_end_of_text c_token_of_run c_mark_at, m7, k7, b7⟩
  have ctokenize : CalX P w K mg base 4 "tokenize" (spTokenize C) := ⟨f8, _, _, ok_tokenize F8 Y c_token_at, m8, k8, b8⟩
  have c_law_state : Cal P w K mg base 1 "_law_state" (spState K) [] := ⟨f9, _, _, _, ok_law_state F9 Y, m9, k9, b9, .nil⟩
  have c_law_draw : Cal P w K mg base 1 "_law_draw" spDraw [] := ⟨f10, _, _, _, ok_law_draw F10 Y, m10, k10, b10, .nil⟩
  have c_law_words : Cal P w K mg base 1 "_law_words" spWords [] := ⟨f11, _, _, _, ok_law_words F11, m11, k11, b11, .nil⟩
  have c_law_signs : Cal P w K mg base 1 "_law_signs" spSigns [] := ⟨f12, _, _, _, ok_law_signs F12, m12, k12, b12, .nil⟩
  have c_law_piece : Cal P w K mg base 2 "_law_piece" (spTx IsPiece) [] := ⟨f13, _, _, _, ok_law_piece F13 Y c_law_draw c_law_words c_law_signs, m13, k13, b13, .nil⟩
  have c_law_digits : Cal P w K mg base 1 "_law_digits" spDigits [] := ⟨f14, _, _, _, ok_law_digits F14 Y, m14, k14, b14, .nil⟩
  have c_law_of_run : Cal P w K mg base 2 "_law_of_run" spOfRun [] := ⟨f15, _, _, _, ok_law_of_run F15 Y c_law_digits c_law_words, m15, k15, b15, .nil⟩
  have c_law_ends : Cal P w K mg base 1 "_law_ends" spEnds [] := ⟨f16, _, _, _, ok_law_ends F16 Y, m16, k16, b16, .nil⟩
  have c_law_step : Cal P w K mg base 3 "_law_step" spStep [] := ⟨f17, _, _, _, ok_law_step F17 Y c_law_of_run, m17, k17, b17, .nil⟩
  have c_law_due : Cal P w K mg base 4 "_law_due" spDue [] := ⟨f18, _, _, _, ok_law_due F18 Y c_law_ends c_law_step, m18, k18, b18, .nil⟩
  have c_law_told : Cal P w K mg base 5 "_law_told" spTold [] := ⟨f19, _, _, _, ok_law_told (LE := LE) (NT := NT) F19 Z Y ctokenize mLE hEx hX gC gN gV kit1 kit2 kit3, m19, k19, b19, .nil⟩
  exact ok_law F20 Y c_law_state c_law_draw c_law_piece c_law_due c_law_told
theorem walk {l : PySem.W.OpenLaw} {q : Program} {loose : List Str} {XP : (Str → Option Value) → Heap → Prop} {YP : World → Heap → Prop} {d : DefRec} {K : Params → PySem.W.Frag} (hn : l.most = some 63) (hdf : d.params.defaults = [])
    (hY : ∀ (w : World) (h : Heap), YP w h → (K w.params).In h)
    (F : ∀ (w : World) (mg : Str → Option Value) (fa : Addr) (h : Heap), (K w.params).In h → h.Ns mainGlobals mg → mg d.name = some (.ref fa) →
      ∃ fd : FuncData, (∀ (s : Shared) (u : Value), BindsTo s fd ⟨[u], []⟩ [("script", u)]) ∧ ∀ base : Heap, (K w.params).In base → base.Ns mainGlobals mg → FnOk l.prog w (K w.params) mg base CX0 6 fa fd ["script"] (spLaw (K w.params))) :
    PySem.W.WalkO q loose XP YP l.row.toRowW d [] (fun f vs => PySem.call f vs) :=
  L2.walk_of (n := 63) (k := 6) (x := "script") (CX := fun _ => CX0) (sp := fun w => spLaw (K w.params)) hn (by decide) hdf ⟨rfl, by decide, by decide⟩ hY F (fun _ _ a ns hl _ hS => ⟨a, ns, rfl, hS, hl, fun _ => rfl⟩) fun _ _ _ _ _ z => z
end Lv

open PySem PySem.W PyProof.Rows in
set_option maxRecDepth 100000 in
set_option maxHeartbeats 0 in
theorem PySem.Challenge.cw_livestead_k02_any_text_holds : PySem.Challenge.rw_livestead_k02_any_text.Holds := by
  w_on; o_law; k_head; (case hw => w_witness2)
  k_fill
  refine Lv.walk (l := PySem.Challenge.rw_livestead_k02_any_text) rfl rfl (fun w h Y => PySem.W.kIn_of Y) ?F
  case F =>
    intro w mg fa h KX G hmg
    refine' Lv.all_mk (P := PySem.Challenge.rw_livestead_k02_any_text.prog) KX G hmg ?a0 ?l0 ?c0 ?k0 ?a1 ?l1 ?c1 ?k1 ?a2 ?l2 ?c2 ?k2 ?a3 ?l3 ?c3 ?k3 ?a4 ?l4 ?c4 ?k4 ?a5 ?l5 ?c5 ?k5 ?a6 ?l6 ?c6 ?k6 ?a7 ?l7 ?c7 ?k7 ?a8 ?l8 ?c8 ?k8 ?a9 ?l9 ?c9 ?k9 ?a10 ?l10 ?c10 ?k10 ?a11 ?l11 ?c11 ?k11 ?a12 ?l12 ?c12 ?k12 ?a13 ?l13 ?c13 ?k13 ?a14 ?l14 ?c14 ?k14 ?a15 ?l15 ?c15 ?k15 ?a16 ?l16 ?c16 ?k16 ?a17 ?l17 ?c17 ?k17 ?a18 ?l18 ?c18 ?k18 ?a19 ?l19 ?c19 ?k19 ?a20 ?l20 ?c20 ?k20 ?z_len ?z_int ?z_list ?z_range ?z_max ?z_str ?z_isinstance ?z_bool ?z_ord ?g_SMALL ?e_SMALL ?g_CAPITAL ?e_CAPITAL ?g_DIGITS ?e_DIGITS ?g_QUOTE ?e_QUOTE ?g_PERCENT ?g_LONGEST_NAME ?g_LONGEST_TEXT ?g_GREATEST_NUMBER ?g_MOST_DIGITS ?g_WORDS ?l_WORDS ?e_WORDS ?g_MARKS ?l_MARKS ?e_MARKS ?sC ?sL ?sV ?sA ?sG ?sH ?sN ?sI ?sT ?sK ?sB ?sE ?sY ?sD ?sJ ?sS ?sO ?sU ?sM ?sF ?sP ?sQ ?sR ?sW ?sX ?sZ ?s0 ?gLE ?bLE ?dLE ?tLE ?uLE ?gNT ?jNT ?tNT ?uNT ?xA ?xN ?xT ?xM ?zV
    (case a0 => k_is)
    (case l0 => k_is)
    (case c0 => k_is)
    (case k0 => k_is)
    (case a1 => k_is)
    (case l1 => k_is)
    (case c1 => k_is)
    (case k1 => k_is)
    (case a2 => k_is)
    (case l2 => k_is)
    (case c2 => k_is)
    (case k2 => k_is)
    (case a3 => k_is)
    (case l3 => k_is)
    (case c3 => k_is)
    (case k3 => k_is)
    (case a4 => k_is)
    (case l4 => k_is)
    (case c4 => k_is)
    (case k4 => k_is)
    (case a5 => k_is)
    (case l5 => k_is)
    (case c5 => k_is)
    (case k5 => k_is)
    (case a6 => k_is)
    (case l6 => k_is)
    (case c6 => k_is)
    (case k6 => k_is)
    (case a7 => k_is)
    (case l7 => k_is)
    (case c7 => k_is)
    (case k7 => k_is)
    (case a8 => k_is)
    (case l8 => k_is)
    (case c8 => k_is)
    (case k8 => k_is)
    (case a9 => k_is)
    (case l9 => k_is)
    (case c9 => k_is)
    (case k9 => k_is)
    (case a10 => k_is)
    (case l10 => k_is)
    (case c10 => k_is)
    (case k10 => k_is)
    (case a11 => k_is)
    (case l11 => k_is)
    (case c11 => k_is)
    (case k11 => k_is)
    (case a12 => k_is)
    (case l12 => k_is)
    (case c12 => k_is)
    (case k12 => k_is)
    (case a13 => k_is)
    (case l13 => k_is)
    (case c13 => k_is)
    (case k13 => k_is)
    (case a14 => k_is)
    (case l14 => k_is)
    (case c14 => k_is)
    (case k14 => k_is)
    (case a15 => k_is)
    (case l15 => k_is)
    (case c15 => k_is)
    (case k15 => k_is)
    (case a16 => k_is)
    (case l16 => k_is)
    (case c16 => k_is)
    (case k16 => k_is)
    (case a17 => k_is)
    (case l17 => k_is)
    (case c17 => k_is)
    (case k17 => k_is)
    (case a18 => k_is)
    (case l18 => k_is)
    (case c18 => k_is)
    (case k18 => k_is)
    (case a19 => k_is)
    (case l19 => k_is)
    (case c19 => k_is)
    (case k19 => k_is)
    (case a20 => k_is)
    (case l20 => k_is)
    (case c20 => k_is)
    (case k20 => k_is)
    (case z_len => k_is)
    (case z_int => k_is)
    (case z_list => k_is)
    (case z_range => k_is)
    (case z_max => k_is)
    (case z_str => k_is)
    (case z_isinstance => k_is)
    (case z_bool => k_is)
    (case z_ord => k_is)
    (case g_SMALL => k_is)
    (case e_SMALL => decide +kernel)
    (case g_CAPITAL => k_is)
    (case e_CAPITAL => decide +kernel)
    (case g_DIGITS => k_is)
    (case e_DIGITS => decide +kernel)
    (case g_QUOTE => k_is)
    (case e_QUOTE => decide +kernel)
    (case g_PERCENT => k_is)
    (case g_LONGEST_NAME => k_is)
    (case g_LONGEST_TEXT => k_is)
    (case g_GREATEST_NUMBER => k_is)
    (case g_MOST_DIGITS => k_is)
    (case g_WORDS => k_is)
    (case l_WORDS => k_is)
    (case e_WORDS => first | decide +kernel | kernel_rfl)
    (case g_MARKS => k_is)
    (case l_MARKS => k_is)
    (case e_MARKS => first | decide +kernel | kernel_rfl)
    (case sC => k_is)
    (case sL => k_is)
    (case sV => first | decide +kernel | kernel_rfl)
    (case sA => k_is)
    (case sG => k_is)
    (case sH => k_is)
    (case sN => k_is)
    (case sI => k_is)
    (case sT => k_is)
    (case sK => k_is)
    (case sB => k_is)
    (case sE => k_is)
    (case sY => k_is)
    (case sD => k_is)
    (case sJ => k_is)
    (case sS => first | rfl | k_is)
    (case sO => k_is)
    (case sU => ks_is)
    (case sM => k_is)
    (case sF => k_is)
    (case sP => decide +kernel)
    (case sQ => k_is)
    (case sR => k_is)
    (case sW => k_is)
    (case sX => exact rfl)
    (case sZ => decide +kernel)
    (case s0 => k_is)
    (case gLE => k_is)
    (case bLE => k_is)
    (case dLE => k_is)
    (case tLE => k_is)
    (case uLE => k_is)
    (case gNT => k_is)
    (case jNT => k_is)
    (case tNT => k_is)
    (case uNT => k_is)
    (case xA => k_is)
    (case xN => k_is)
    (case xT => k_is)
    (case xM => k_is)
    (case zV => k_is)
#print axioms PySem.Challenge.cw_livestead_k02_any_text_holds
