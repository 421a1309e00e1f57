import PyProof.Rows.All
import Wide.All
import OpenK.AllK
import Wide.FinOn
import HandS.ForMost
import HandS.StrMore
import HandS.IsInst
import HandS.Steps
import HandS.Evl
import HandS.Codes
import HandS.ForExc
import KE.KExcSuper
import HandS.Strs
import HandS.Wide
import PySem.Challenge.RW_livestead_k21_operators
set_option Elab.async false
set_option linter.all false
set_option maxRecDepth 100000
set_option maxHeartbeats 2000000
/-! Readings step by step: one lemma a construct, texts as lists of codes. -/
namespace Lv
open PySem PySem.Spec PyProof.Rows L2

/-- a text of these codes -/
abbrev T (cs : List Nat) : V := .str ⟨cs.toArray⟩
theorem T_eta (x : Str) : V.str x = T x.cps.toList := by
  show V.str x = V.str ⟨x.cps.toList.toArray⟩
  simp
theorem T_inj {a b : List Nat} (h : T a = T b) : a = b := by
  have h1 : (⟨a.toArray⟩ : Str) = ⟨b.toArray⟩ := V.str.inj h
  have h2 : a.toArray = b.toArray := Str.mk.inj h1
  exact congrArg Array.toList h2
theorem T_iff {a b : List Nat} : T a = T b ↔ a = b := ⟨T_inj, fun h => by rw [h]⟩
theorem len_T (a : List Nat) : (⟨a.toArray⟩ : Str).length = a.length := by
  show a.toArray.size = a.length
  simp

def NewL (xs : List V) (H : Hp) (Q : VK) : Prop := xs.length ≤ sizeLine ∧ ∀ p, H p = none → Q (.ref p) (upd H p (.lst xs))
def NewT (xs : List V) (H : Hp) (Q : VK) : Prop := xs.length ≤ sizeLine ∧ ∀ p, H p = none → Q (.ref p) (upd H p (.tup xs))
section
variable {σ : L2.St} {H : Hp} {Q : VK} {D : Ends} {i : Nat} {v x y : V} {ta tb te : TE} {t u : TS} {g : TG} {r : R2} {K : PySem.W.Frag}
theorem w_var (h : σ[i]? = some (some v)) (k : Q v H) : tVar i σ H Q := ⟨v, h, k⟩
theorem w_c (k : Q v H) : tC v σ H Q := k
theorem w_cT {cs : List Nat} (k : Q (T cs) H) : tC (T cs) σ H Q := k
theorem ex_int {a : Int} {G : Int → Prop} (k : G a) : ∃ i, V.int a = V.int i ∧ G i := ⟨a, rfl, k⟩
theorem ex_bl {a : Bool} {G : Bool → Prop} (k : G a) : ∃ i, V.bl a = V.bl i ∧ G i := ⟨a, rfl, k⟩
theorem w_str {x : Str} (k : Q (T x.cps.toList) H) : tC (.str x) σ H Q := by
  show Q (.str x) H
  rw [T_eta]
  exact k
theorem w_seq (k : t { D with nx := u D } σ H) : tSeq t u D σ H := k
theorem w_next (k : D.nx σ H) : tNext D σ H := k
theorem w_asg (k : te σ H fun x H1 => g x σ H1 D.nx) : tAsg te g D σ H := k
theorem w_gname {G : L2.St → Hp → Prop} (k : G (σ.set i (some v)) H) : gName i v σ H G := k
theorem w_drop (k : te σ H fun _ H1 => D.nx σ H1) : tDrop te D σ H := k
theorem w_ret (k : te σ H D.rt) : tRet te D σ H := k
theorem w_retN (k : D.rt .non H) : tRetN D σ H := k
theorem w_op (k : ta σ H fun x H1 => tb σ H1 fun y H2 => r x y H2 Q) : tOp r ta tb σ H Q := k
theorem w_un {r : V → Hp → VK → Prop} (k : ta σ H fun x H1 => r x H1 Q) : tUn r ta σ H Q := k
theorem w_i0 {f : Int → Int → V} {a b : Int} (k : Q (f a b) H) : rI0 f (.int a) (.int b) H Q := ⟨a, b, rfl, rfl, k⟩
theorem w_i {C : Int → Int → Prop} {f : Int → Int → V} {a b : Int} (c : C a b) (k : Q (f a b) H) : rI C f (.int a) (.int b) H Q := ⟨a, b, rfl, rfl, c, k⟩
theorem w_mulR {f : Int → Int → V} {a b : Int} (c : -(2 ^ 64) < b ∧ b < 2 ^ 64) (k : Q (f a b) H) : rI CMul f (.int a) (.int b) H Q := ⟨a, b, rfl, rfl, .inr c, k⟩
theorem w_mulL {f : Int → Int → V} {a b : Int} (c : -(2 ^ 64) < a ∧ a < 2 ^ 64) (k : Q (f a b) H) : rI CMul f (.int a) (.int b) H Q := ⟨a, b, rfl, rfl, .inl c, k⟩
theorem w_ifS {c : TT} (k : c σ H fun b H1 => if b = true then t D σ H1 else u D σ H1) : tIfS c t u D σ H := k
theorem w_test {G : Bool → Hp → Prop} (k : te σ H fun x H' => ∃ b, x = .bl b ∧ G b H') : tTest te σ H G := k
theorem w_tB {G : Bool → Hp → Prop} (k : te σ H fun x H' => ∃ b, x = .bl b ∧ G b H') : tB te σ H G := k
theorem w_and {t u : TT} {G : Bool → Hp → Prop} (k : t σ H fun c H1 => if c = true then u σ H1 G else G false H1) : tAnd t u σ H G := k
theorem w_or {t u : TT} {G : Bool → Hp → Prop} (k : t σ H fun c H1 => if c = true then G true H1 else u σ H1 G) : tOr t u σ H G := k
theorem w_not {t : TT} {G : Bool → Hp → Prop} (k : t σ H fun c H1 => G (!c) H1) : tNot t σ H G := k
theorem w_andV (k : ta σ H fun x H1 => ∃ c, x = .bl c ∧ if c = true then tb σ H1 Q else Q (.bl false) H1) : tAndV ta tb σ H Q := k
theorem w_orV (k : ta σ H fun x H1 => ∃ c, x = .bl c ∧ if c = true then Q (.bl true) H1 else tb σ H1 Q) : tOrV ta tb σ H Q := k
theorem w_notV (k : ta σ H fun x H1 => ∃ c, x = .bl c ∧ Q (.bl (!c)) H1) : tNotV ta σ H Q := k
theorem w_eq (s : scal x y = true) (k : Q (.bl (decide (x = y))) H) : rEq x y H Q := ⟨s, k⟩
theorem w_ne (s : scal x y = true) (k : Q (.bl (!decide (x = y))) H) : rNe x y H Q := ⟨s, k⟩
theorem w_call {sp : Sp} {dvs : List V} {E : XK} {t : TA} (k : t σ H fun vs H1 => sp (vs ++ dvs) H1 Q E) : tCall sp dvs E t σ H Q := k
theorem w_cb {r : List V → Hp → VK → Prop} {t : TA} (k : t σ H fun vs H1 => r vs H1 Q) : tCB r t σ H Q := k
theorem w_nil {G : List V → Hp → Prop} (k : G [] H) : tNil σ H G := k
theorem w_cons {tr : TA} {G : List V → Hp → Prop} (k : ta σ H fun x H1 => tr σ H1 fun xs H2 => G (x :: xs) H2) : tCons ta tr σ H G := k
theorem w_tup {t : TA} (k : t σ H fun xs H1 => NewT xs H1 Q) : tTup t σ H Q := k
theorem w_lst {t : TA} (k : t σ H fun xs H1 => NewL xs H1 Q) : tLst t σ H Q := k
theorem w_sl {r : V → Option Int → Option Int → Hp → VK → Prop} {tl th : TO} (k : te σ H fun x H1 => tl σ H1 fun l H2 => th σ H2 fun u H3 => r x l u H3 Q) : tSl r te tl th σ H Q := k
theorem w_part {G : Option Int → Hp → Prop} (k : te σ H fun x H1 => ∃ i, x = .int i ∧ G (some i) H1) : tPart te σ H G := k
theorem w_nopart {G : Option Int → Hp → Prop} (k : G none H) : tNoPart σ H G := k
theorem w_gsub {to ti : TE} {t : TSet} {G : L2.St → Hp → Prop} (k : to σ H fun o H1 => ti σ H1 fun i H2 => t o i v H2 fun H3 => G σ H3) : gSub to ti t v σ H G := k
theorem w_bm {Ty : String} {r : V → List V → Hp → VK → Prop} {to : TE} {t : TA} (k : to σ H fun x H1 => tyV K Ty x H1 ∧ t σ H1 fun xs H2 => r x xs H2 Q) : tBM K Ty r to t σ H Q := k
theorem w_bm0 {Ty : String} {r : V → List V → Hp → VK → Prop} {to : TE} (k : to σ H fun x H1 => tyV K Ty x H1 ∧ r x [] H1 Q) : tBM0 K Ty r to σ H Q := k
theorem w_aug {ti : TIp} (h : σ[i]? = some (some x)) (k : te σ H fun y H1 => ti x y H1 fun z H2 => D.nx (σ.set i (some z)) H2) : tAug i te ti D σ H := ⟨x, h, k⟩
theorem w_ifE {c : TT} (k : c σ H fun b H1 => if b = true then ta σ H1 Q else tb σ H1 Q) : tIf c ta tb σ H Q := k

/-! tests -/
theorem w_if {p A B : Prop} [Decidable p] (h1 : p → A) (h2 : ¬ p → B) : if decide p = true then A else B := by
  by_cases h : p
  · rw [if_pos (decide_eq_true h)]; exact h1 h
  · rw [if_neg (by simp [h])]; exact h2 h
theorem w_ifn {p A B : Prop} [Decidable p] (h1 : ¬ p → A) (h2 : p → B) : if (!decide p) = true then A else B := by
  by_cases h : p
  · rw [if_neg (by simp [h])]; exact h2 h
  · rw [if_pos (by simp [h])]; exact h1 h
theorem w_ifI {a b : Int} {A B : Prop} (h1 : a = b → A) (h2 : a ≠ b → B) : if decide (V.int a = V.int b) = true then A else B :=
  w_if (fun h => h1 (V.int.inj h)) fun h => h2 fun e => h (by rw [e])
theorem w_ifT {a b : List Nat} {A B : Prop} (h1 : a = b → A) (h2 : a ≠ b → B) : if decide (T a = T b) = true then A else B :=
  w_if (fun h => h1 (T_inj h)) fun h => h2 fun e => h (by rw [e])
theorem w_ifIn {a b : Int} {A B : Prop} (h1 : a ≠ b → A) (h2 : a = b → B) : if (!decide (V.int a = V.int b)) = true then A else B :=
  w_ifn (fun h => h1 fun e => h (by rw [e])) fun h => h2 (V.int.inj h)
theorem w_ifTn {a b : List Nat} {A B : Prop} (h1 : a ≠ b → A) (h2 : a = b → B) : if (!decide (T a = T b)) = true then A else B :=
  w_ifn (fun h => h1 fun e => h (by rw [e])) fun h => h2 (T_inj h)
theorem w_nt {A B : Prop} (h : B) : if (!true) = true then A else B := by
  show if false = true then A else B
  exact L2.iteF h
theorem w_nf {A B : Prop} (h : A) : if (!false) = true then A else B := by
  show if true = true then A else B
  exact L2.iteT h
theorem w_ifb {b : Bool} {A B : Prop} (h1 : b = true → A) (h2 : b = false → B) : if b = true then A else B := by
  cases b with
  | true => rw [if_pos rfl]; exact h1 rfl
  | false => rw [if_neg Bool.false_ne_true]; exact h2 rfl

/-! texts -/
def rAddS : R2 := fun x y H Q => ∃ i j, x = .str i ∧ y = .str j ∧ i.length + j.length ≤ sizeLine ∧ Q (.str (i ++ j)) H
theorem op_addS {X : Cx} : OpR X (binaryOp .Add) rAddS := op_add_str
theorem w_addS {a b : List Nat} (z : a.length + b.length ≤ 1000000) (k : Q (T (a ++ b)) H) : rAddS (T a) (T b) H Q := by
  refine ⟨_, _, rfl, rfl, ?_, ?_⟩
  · rw [len_T, len_T]
    exact Nat.le_trans z (by decide)
  · have e : (⟨a.toArray⟩ : Str) ++ ⟨b.toArray⟩ = ⟨(a ++ b).toArray⟩ := by
      show (⟨a.toArray ++ b.toArray⟩ : Str) = _
      simp
    rw [e]
    exact k
def rMulS : R2 := fun x y H Q => ∃ z n, x = .str z ∧ y = .int n ∧ -(2 ^ 63) ≤ n ∧ n < 1000000 ∧ z.length * n.toNat ≤ 1000000 ∧ Q (T (List.replicate n.toNat z.cps.toList).flatten) H
theorem foldl_rep (c : Array Nat) : ∀ (n : Nat) (acc : Array Nat), (List.replicate n c).foldl (· ++ ·) acc = acc ++ (List.replicate n c.toList).flatten.toArray
  | 0, acc => by simp
  | n + 1, acc => by
    rw [List.replicate_succ, List.foldl_cons, foldl_rep c n, List.replicate_succ, List.flatten_cons]
    apply Array.ext'
    simp
theorem op_mulS {X : Cx} : OpR X (binaryOp .Mult) rMulS := by
  intro pins s σ H x y v u Q I rx ry h
  obtain ⟨z, n, rfl, rfl, h1, h2, h3, q⟩ := h
  obtain ⟨t, rfl⟩ := rx
  obtain ⟨t', rfl⟩ := ry
  refine P.mul_str ?_ ?_ ?_ ?_
  · rw [decide_eq_false (by omega), decide_eq_false (by omega)]; rfl
  · intro hn _ hc
    have hz : z.length ≤ 1000000 := by
      have : z.length * 1 ≤ z.length * n.toNat := Nat.mul_le_mul_left _ (by omega)
      omega
    have : (2 ^ 63 - 1 : Int) / n ≥ 9000000000000 := by
      refine (Int.le_ediv_iff_mul_le (by omega)).mpr ?_
      omega
    omega
  · intro hn _
    show decide (sizeLine < z.length * n.toNat) = false
    refine decide_eq_false ?_
    rw [sizeLine_eq]
    omega
  · by_cases hn : n < 1
    · rw [if_pos hn]
      have e : (List.replicate n.toNat z.cps.toList).flatten = [] := by
        rw [show n.toNat = 0 by omega]; rfl
      rw [e] at q
      exact ⟨by decide, T [], H, I.tok _, ⟨_, rfl⟩, q⟩
    · rw [if_neg hn]
      by_cases hc : (n == 1 || z.length == 0) = true
      · rw [if_pos hc]
        have e : (List.replicate n.toNat z.cps.toList).flatten = z.cps.toList := by
          rw [Bool.or_eq_true] at hc
          rcases hc with hc | hc
          · have : n = 1 := by simpa using hc
            subst this
            simp
          · have hz : z.cps.size = 0 := (beq_iff_eq.mp hc : z.length = 0)
            have : z.cps.toList = [] := by
              rw [← List.length_eq_zero_iff]; simpa using hz
            rw [this]; simp
        rw [e, ← T_eta] at q
        exact ⟨.str z, H, I, ⟨_, rfl⟩, q⟩
      · rw [if_neg hc]
        have e : (⟨(List.replicate n.toNat z.cps).foldl (· ++ ·) #[]⟩ : Str) = ⟨((List.replicate n.toNat z.cps.toList).flatten).toArray⟩ := by
          rw [foldl_rep]; simp
        rw [e]
        refine ⟨?_, T _, H, I.tok _, ⟨_, rfl⟩, q⟩
        rw [len_T]
        have : (List.replicate n.toNat z.cps.toList).flatten.length = n.toNat * z.cps.size := by simp
        rw [this, Nat.mul_comm]
        exact Nat.le_trans h3 (by rw [sizeLine_eq]; omega)
theorem w_mulS {a : List Nat} {n : Int} (h1 : -(2 ^ 63) ≤ n) (h2 : n < 1000000) (h3 : a.length * n.toNat ≤ 1000000) (k : Q (T (List.replicate n.toNat a).flatten) H) : rMulS (T a) (.int n) H Q :=
  ⟨_, n, rfl, rfl, h1, h2, by rw [len_T]; exact h3, k⟩
theorem w_ixS {a : List Nat} {j : Int} {c : Nat} (z : a.length ≤ 1000000) (h : atI a j = some c) (k : Q (T [c]) H) : rIxS (T a) (.int j) H Q :=
  ⟨_, j, c, rfl, rfl, by rw [len_T]; exact Nat.le_trans z (by decide), h, k⟩
def cut (a : List Nat) (lo hi : Option Int) : List Nat := (a.drop (HT.sIx a.length 0 lo)).take (HT.sIx a.length a.length hi - HT.sIx a.length 0 lo)
theorem w_slS {a : List Nat} {lo hi : Option Int} (z : a.length ≤ 1000000) (k : Q (T (cut a lo hi)) H) : rSlS (T a) lo hi H Q := by
  refine ⟨_, rfl, by rw [len_T]; exact Nat.le_trans z (by decide), ?_⟩
  have e : cutS ⟨a.toArray⟩ lo hi = ⟨(cut a lo hi).toArray⟩ := by
    unfold cutS cut
    rw [len_T]
  rw [e]
  exact k
def rLenS : List V → Hp → VK → Prop := fun xs H Q => ∃ z, xs = [.str z] ∧ z.length ≤ sizeLine ∧ Q (.int z.length) H
theorem call_lenS {X : Cx} : CallR X (.builtin "len") rLenS := call_len_str
theorem w_lenS {a : List Nat} (z : a.length ≤ 1000000) (k : Q (.int (a.length : Int)) H) : rLenS [T a] H Q :=
  ⟨_, rfl, by rw [len_T]; exact Nat.le_trans z (by decide), by rw [len_T]; exact k⟩
def rLenL (K : PySem.W.Frag) : List V → Hp → VK → Prop := fun xs H Q => ∃ p ys, xs = [.ref p] ∧ (SqL K H p ys ∨ SqT K H p ys) ∧ Q (.int ys.length) H
theorem call_lenL {X : Cx} : CallR X (.builtin "len") (rLenL X.K) := call_len_seq
theorem w_lenL {p : Addr} {ys : List V} (h : SqL K H p ys) (k : Q (.int (ys.length : Int)) H) : rLenL K [.ref p] H Q := ⟨p, ys, rfl, .inl h, k⟩
theorem w_lenT {p : Addr} {ys : List V} (h : SqT K H p ys) (k : Q (.int (ys.length : Int)) H) : rLenL K [.ref p] H Q := ⟨p, ys, rfl, .inr h, k⟩
def rInt1 : List V → Hp → VK → Prop := fun xs H Q => (∃ i, xs = [.int i] ∧ Q (.int i) H) ∨ ∃ k, xs = [.bl k] ∧ Q (.int (if k then 1 else 0)) H
theorem call_intI {X : Cx} : CallR X (.type "int") rInt1 := call_int1
theorem w_intI {a : Int} (k : Q (.int a) H) : rInt1 [.int a] H Q := .inl ⟨a, rfl, k⟩
theorem w_intB {b : Bool} (k : Q (.int (if b then 1 else 0)) H) : rInt1 [.bl b] H Q := .inr ⟨b, rfl, k⟩
def rIntS : List V → Hp → VK → Prop := fun xs H Q => ∃ a n, xs = [.str a] ∧ PySem.intText? a = some n ∧ a.length ≤ 640 ∧ Q (.int n) H
theorem call_intS {X : Cx} : CallR X (.type "int") rIntS := call_int_str
theorem w_intS {a : List Nat} {n : Int} (h : PySem.intText? ⟨a.toArray⟩ = some n) (z : a.length ≤ 640) (k : Q (.int n) H) : rIntS [T a] H Q := ⟨_, n, rfl, h, by rw [len_T]; exact z, k⟩
def rMax2 : List V → Hp → VK → Prop := fun xs H Q => ∃ i j, xs = [.int i, .int j] ∧ Q (.int (if j > i then j else i)) H
theorem call_maxI {X : Cx} (hc : X.calm = true) : CallR X (.builtin "max") rMax2 := call_max2 hc
theorem w_max {a b : Int} (k : Q (.int (if b > a then b else a)) H) : rMax2 [.int a, .int b] H Q := ⟨a, b, rfl, k⟩
def rStrI : List V → Hp → VK → Prop := fun xs H Q => ∃ i : Int, xs = [.int i] ∧ i.natAbs.log2 < 1920 ∧ Q (.str (toString i)) H
theorem call_strI {X : Cx} : CallR X (.type "str") rStrI := call_str_int
def rListOf (K : PySem.W.Frag) : List V → Hp → VK → Prop := fun xs H Q => ∃ p ys, xs = [.ref p] ∧ (SqL K H p ys ∨ SqT K H p ys) ∧ ∀ l, H l = none → Q (.ref l) (upd H l (.lst ys))
theorem call_listOf {X : Cx} : CallR X (.type "list") (rListOf X.K) := call_list_of
theorem w_listOf {p : Addr} {ys : List V} (h : SqL K H p ys) (k : ∀ l, H l = none → Q (.ref l) (upd H l (.lst ys))) : rListOf K [.ref p] H Q := ⟨p, ys, rfl, .inl h, k⟩
def rOrd : List V → Hp → VK → Prop := fun xs H Q => ∃ x, xs = [.str x] ∧ x.length = 1 ∧ Q (.int (x.cps.getD 0 0 : Nat)) H
theorem call_ordS {X : Cx} : CallR X (.builtin "ord") rOrd := call_ord
theorem w_ord {c : Nat} (k : Q (.int (c : Int)) H) : rOrd [T [c]] H Q := ⟨_, rfl, rfl, k⟩
/-- a text within a text: one sign -/
def rInC : R2 := fun x y H Q => ∃ (c : Nat) (z : Str), x = .str ⟨#[c]⟩ ∧ y = .str z ∧ Q (.bl (decide (c ∈ z.cps.toList))) H
theorem op_inC {X : Cx} : OpR X (compareOp .In) rInC := op_in_sign
theorem w_inC {c : Nat} {a : List Nat} (k : Q (.bl (decide (c ∈ a))) H) : rInC (T [c]) (T a) H Q := ⟨c, _, rfl, rfl, k⟩
def rNinC : R2 := fun x y H Q => ∃ (c : Nat) (z : Str), x = .str ⟨#[c]⟩ ∧ y = .str z ∧ Q (.bl (!decide (c ∈ z.cps.toList))) H
theorem op_ninC {X : Cx} : OpR X (compareOp .NotIn) rNinC := op_notIn_sign
theorem w_ninC {c : Nat} {a : List Nat} (k : Q (.bl (!decide (c ∈ a))) H) : rNinC (T [c]) (T a) H Q := ⟨c, _, rfl, rfl, k⟩
/-- a text among texts -/
theorem eqV_T (a b : List Nat) : eqV (T a) (T b) = decide (a = b) := by
  show ((⟨a.toArray⟩ : Str) == ⟨b.toArray⟩) = _
  by_cases h : a = b
  · subst h; simp
  · rw [decide_eq_false h]
    exact beq_eq_false_iff_ne.mpr fun e => h (T_inj (congrArg V.str e))
theorem inV_T (a : List Nat) (l : List (List Nat)) : inV (T a) (l.map T) = decide (a ∈ l) := by
  induction l with
  | nil => rfl
  | cons b l ih =>
    unfold inV at *
    rw [List.map_cons, List.any_cons, ih, eqV_T]
    by_cases h : b = a
    · subst h; simp
    · have h2 : ¬ a = b := fun e => h e.symm
      simp [h, h2]
theorem flat_T (l : List (List Nat)) : (l.map T).all flatV = true := by
  induction l with
  | nil => rfl
  | cons b l ih => rw [List.map_cons, List.all_cons, ih]; rfl
theorem w_inL {a : List Nat} {p : Addr} {l : List (List Nat)} (h : SqL K H p (l.map T)) (k : Q (.bl (decide (a ∈ l))) H) : rIn K false (T a) (.ref p) H Q :=
  ⟨p, _, rfl, .inl h, rfl, flat_T l, by rw [if_neg Bool.false_ne_true, inV_T]; exact k⟩
theorem w_inT {a : List Nat} {p : Addr} {l : List (List Nat)} (h : SqT K H p (l.map T)) (k : Q (.bl (decide (a ∈ l))) H) : rIn K false (T a) (.ref p) H Q :=
  ⟨p, _, rfl, .inr h, rfl, flat_T l, by rw [if_neg Bool.false_ne_true, inV_T]; exact k⟩
/-- lists and tuples at places -/
theorem w_ixL {p : Addr} {xs : List V} {j : Int} (h : SqL K H p xs) (e : atI xs j = some v) (k : Q v H) : rIxL K (.ref p) (.int j) H Q := ⟨p, xs, j, v, rfl, rfl, h, e, k⟩
theorem w_ixT {p : Addr} {xs : List V} {j : Int} (h : SqT K H p xs) (e : atI xs j = some v) (k : Q v H) : rIxT K (.ref p) (.int j) H Q := ⟨p, xs, j, v, rfl, rfl, h, e, k⟩
theorem w_setL {p : Addr} {xs : List V} {j : Int} {n : Nat} {G : Hp → Prop} (h : H p = some (.lst xs)) (e : ixN xs.length j = some n) (k : G (upd H p (.lst (xs.set n v)))) : rSetL (.ref p) (.int j) v H G := ⟨p, xs, j, n, rfl, rfl, h, e, k⟩
theorem w_append {p : Addr} {xs : List V} (h : H p = some (.lst xs)) (z : xs.length ≤ 1000000) (k : Q .non (upd H p (.lst (xs ++ [y])))) : rAppend (.ref p) [y] H Q :=
  ⟨p, xs, y, rfl, rfl, h, Nat.lt_of_le_of_lt z (by decide), k⟩
theorem w_cat {p q : Addr} {xs ys : List V} (hp : H p = some (.lst xs)) (hq : H q = some (.lst ys)) (z : xs.length + ys.length ≤ 1000000) (k : ∀ a, H a = none → Q (.ref a) (upd H a (.lst (xs ++ ys)))) : rCat (.ref p) (.ref q) H Q :=
  ⟨p, q, xs, ys, rfl, rfl, hp, hq, Nat.le_trans z (by decide), k⟩
theorem tyL {p : Addr} {xs : List V} (h : SqL K H p xs) : tyV K "list" (.ref p) H := .inl ⟨rfl, xs, h⟩
theorem tyS {a : List Nat} : tyV K "str" (T a) H := rfl
end

/-! new objects, the heap a letter -/
theorem same_new0 {p : Addr} {H : Hp} {o : HO} (h : H p = none) : Same H (upd H p o) := fun b u e => by
  rw [upd_ne (ne_of_none e h)]; exact e
section
variable {H : Hp} {Q : VK} {xs ys : List V} {K : PySem.W.Frag}
theorem w_newL (z : xs.length ≤ 1000000) (k : ∀ p H1, H p = none → Same H H1 → H1 p = some (.lst xs) → Q (.ref p) H1) : NewL xs H Q :=
  ⟨Nat.le_trans z (by decide), fun p hp => k p _ hp (same_new0 hp) upd_same⟩
theorem w_newT (z : xs.length ≤ 1000000) (k : ∀ p H1, H p = none → Same H H1 → H1 p = some (.tup xs) → Q (.ref p) H1) : NewT xs H Q :=
  ⟨Nat.le_trans z (by decide), fun p hp => k p _ hp (same_new0 hp) upd_same⟩
theorem w_cat2 {p q : Addr} (hp : H p = some (.lst xs)) (hq : H q = some (.lst ys)) (z : xs.length + ys.length ≤ 1000000) (k : ∀ a H1, H a = none → Same H H1 → H1 a = some (.lst (xs ++ ys)) → Q (.ref a) H1) : rCat (.ref p) (.ref q) H Q :=
  w_cat hp hq z fun a ha => k a _ ha (same_new0 ha) upd_same
theorem w_list2 {p : Addr} (h : SqL K H p ys) (k : ∀ l H1, H l = none → Same H H1 → H1 l = some (.lst ys) → Q (.ref l) H1) : rListOf K [.ref p] H Q := w_listOf h fun l hl => k l _ hl (same_new0 hl) upd_same
theorem w_app2 {p : Addr} {y : V} (h : H p = some (.lst xs)) (z : xs.length ≤ 1000000) (k : ∀ H1, H1 p = some (.lst (xs ++ [y])) → (∀ b o, b ≠ p → H b = some o → H1 b = some o) → Q .non H1) : rAppend (.ref p) [y] H Q :=
  w_append h z (k _ upd_same fun b o n e => by rw [upd_ne n]; exact e)
end

/-! loops -/
def ForR (g : TG) (tb : TS) (vs : List V) (D : Ends) (σ : L2.St) (H : Hp) : Prop := ∃ j : Int, vs = [.int j] ∧ -(2 ^ 62) ≤ j ∧ j < 2 ^ 62 ∧ ∃ W : Nat → Nat → L2.St → Hp → Prop, (∃ m, W 0 m σ H) ∧ ∀ i m σ H, W i m σ H →
  ((Itr 0 j.toNat).stop i H ∧ D.nx σ H) ∨ ((Itr 0 j.toNat).go i H ∧ ∃ N : L2.St → Hp → Prop, (∀ σ' H', N σ' H' → ∃ m', m' < m ∧ W (i + 1) m' σ' H') ∧ ∀ x H', (Itr 0 j.toNat).yld i H x H' → g x σ H' fun σ2 H2 => tb { D with nx := N, ct := N, bk := D.nx } σ2 H2)
def ForL (K : PySem.W.Frag) (g : TG) (tb : TS) (x : V) (D : Ends) (σ : L2.St) (H : Hp) : Prop := ∃ a, x = .ref a ∧ (∃ xs, SqL K H a xs) ∧ ∃ W : Nat → Nat → L2.St → Hp → Prop, (∃ m, W 0 m σ H) ∧ ∀ i m σ H, W i m σ H →
  ((Itl K a).stop i H ∧ D.nx σ H) ∨ ((Itl K a).go i H ∧ ∃ N : L2.St → Hp → Prop, (∀ σ' H', N σ' H' → ∃ m', m' < m ∧ W (i + 1) m' σ' H') ∧ ∀ x H', (Itl K a).yld i H x H' → g x σ H' fun σ2 H2 => tb { D with nx := N, ct := N, bk := D.nx } σ2 H2)
def ForT (K : PySem.W.Frag) (g : TG) (tb : TS) (x : V) (D : Ends) (σ : L2.St) (H : Hp) : Prop := ∃ a, x = .ref a ∧ (∃ xs, SqT K H a xs) ∧ ∃ W : Nat → Nat → L2.St → Hp → Prop, (∃ m, W 0 m σ H) ∧ ∀ i m σ H, W i m σ H →
  ((Itt K a).stop i H ∧ D.nx σ H) ∨ ((Itt K a).go i H ∧ ∃ N : L2.St → Hp → Prop, (∀ σ' H', N σ' H' → ∃ m', m' < m ∧ W (i + 1) m' σ' H') ∧ ∀ x H', (Itt K a).yld i H x H' → g x σ H' fun σ2 H2 => tb { D with nx := N, ct := N, bk := D.nx } σ2 H2)
def ForS (g : TG) (tb : TS) (x : V) (D : Ends) (σ : L2.St) (H : Hp) : Prop := ∃ z, x = .str z ∧ ∃ W : Nat → Nat → L2.St → Hp → Prop, (∃ m, W 0 m σ H) ∧ ∀ i m σ H, W i m σ H →
  ((Its z).stop i H ∧ D.nx σ H) ∨ ((Its z).go i H ∧ ∃ N : L2.St → Hp → Prop, (∀ σ' H', N σ' H' → ∃ m', m' < m ∧ W (i + 1) m' σ' H') ∧ ∀ x H', (Its z).yld i H x H' → g x σ H' fun σ2 H2 => tb { D with nx := N, ct := N, bk := D.nx } σ2 H2)
section
variable {σ : L2.St} {H : Hp} {D : Ends} {ta : TA} {te : TE} {g : TG} {tb : TS} {K : PySem.W.Frag}
theorem w_forR (k : ta σ H fun vs H1 => ForR g tb vs D σ H1) : tFor (iRng1 ta) g tb D σ H := k
theorem w_forL (k : te σ H fun x H1 => ForL K g tb x D σ H1) : tFor (iList K te) g tb D σ H := k
theorem w_forT (k : te σ H fun x H1 => ForT K g tb x D σ H1) : tFor (iTup K te) g tb D σ H := k
theorem w_forS (k : te σ H fun x H1 => ForS g tb x D σ H1) : tFor (iStr te) g tb D σ H := k
/-- what holds ahead of turn i; a turn; the end -/
theorem for_R {j : Int} (Pv : Nat → L2.St → Hp → Prop) (b0 : 0 ≤ j) (b1 : j < 1000000) (h0 : Pv 0 σ H) (hs : ∀ (i : Nat) σ H, (i : Int) < j → Pv i σ H → g (.int (0 + (i : Int))) σ H fun σ2 H2 => tb { D with nx := Pv (i + 1), ct := Pv (i + 1), bk := D.nx } σ2 H2)
    (hd : ∀ σ H, Pv j.toNat σ H → D.nx σ H) : ForR g tb [.int j] D σ H :=
  ⟨j, rfl, by omega, by omega, for_range (lo := 0) (n := j.toNat) Pv h0 (fun i σ H hi p => hs i σ H (by omega) p) hd⟩
theorem for_L {a : Addr} {xs : List V} (Pv : Nat → L2.St → Hp → Prop) (h0 : Pv 0 σ H) (hl : ∀ i σ H, i ≤ xs.length → Pv i σ H → SqL K H a xs) (hs : ∀ i x σ H, xs[i]? = some x → Pv i σ H → g x σ H fun σ2 H2 => tb { D with nx := Pv (i + 1), ct := Pv (i + 1), bk := D.nx } σ2 H2)
    (hd : ∀ σ H, Pv xs.length σ H → D.nx σ H) : ForL K g tb (.ref a) D σ H :=
  ⟨a, rfl, ⟨xs, hl 0 σ H (Nat.zero_le _) h0⟩, for_list (xs := xs) Pv h0 hl hs hd⟩
theorem for_T {a : Addr} {xs : List V} (Pv : Nat → L2.St → Hp → Prop) (h0 : Pv 0 σ H) (hl : ∀ i σ H, i ≤ xs.length → Pv i σ H → SqT K H a xs) (hs : ∀ i x σ H, xs[i]? = some x → Pv i σ H → g x σ H fun σ2 H2 => tb { D with nx := Pv (i + 1), ct := Pv (i + 1), bk := D.nx } σ2 H2)
    (hd : ∀ σ H, Pv xs.length σ H → D.nx σ H) : ForT K g tb (.ref a) D σ H :=
  ⟨a, rfl, ⟨xs, hl 0 σ H (Nat.zero_le _) h0⟩, for_tup (xs := xs) Pv h0 hl hs hd⟩
theorem for_S {cs : List Nat} (Pv : Nat → L2.St → Hp → Prop) (h0 : Pv 0 σ H) (hs : ∀ i c σ H, cs[i]? = some c → Pv i σ H → g (T [c]) σ H fun σ2 H2 => tb { D with nx := Pv (i + 1), ct := Pv (i + 1), bk := D.nx } σ2 H2)
    (hd : ∀ σ H, Pv cs.length σ H → D.nx σ H) : ForS g tb (T cs) D σ H := by
  refine ⟨⟨cs.toArray⟩, rfl, fun i m σ H => m = cs.length - i ∧ i ≤ cs.length ∧ Pv i σ H, ⟨cs.length, by simp, Nat.zero_le _, h0⟩, ?_⟩
  rintro i m σ H ⟨rfl, hi, p⟩
  by_cases hlt : i < cs.length
  · refine .inr ⟨by show i < cs.toArray.size; simpa using hlt, Pv (i + 1), fun σ' H' p' => ⟨cs.length - (i + 1), by omega, rfl, hlt, p'⟩, fun x H' y => ?_⟩
    obtain ⟨e, c, hc, rfl⟩ := y
    subst e
    have hc' : cs[i]? = some c := by simpa using hc
    exact hs i c σ _ hc' p
  · have e : i = cs.length := by omega
    subst e
    exact .inl ⟨by show cs.toArray.size ≤ cs.length; simp, hd σ H p⟩
/-- while by a word and a measure, the test a letter -/
theorem pe_c0 {X : Cx} {k j : Nat} {x : Str} {sp : Sp} {dvs : List V} {p pos : Pos} (c : C8.Cal X.prog X.w X.K X.mg X.base k x sp dvs) (hr : Room j X.A) (hk : k ≤ j) (hg : Gl X x) (hdb : (x == ("__debug__" : Str)) = false := by decide) :
    PE X (.Call (.Name x p) [] [] pos) (tCall sp dvs L2.E0 tNil) := by
  obtain ⟨f, fd, ps, ds, F, hm, kp, b, d⟩ := c.ex
  exact pe_call0 F (hr.mono hk) hg hm kp b d pass0 hdb
end

/-! heaps: what stands apart from one object -/
/-- all but the object at S is as it was (and more may stand) -/
def Fr (S : Addr) (H H' : Hp) : Prop := ∀ b o, b ≠ S → H b = some o → H' b = some o
theorem Fr.refl (S : Addr) (H : Hp) : Fr S H H := fun _ _ _ h => h
theorem Fr.trans {S : Addr} {H H1 H2 : Hp} (a : Fr S H H1) (b : Fr S H1 H2) : Fr S H H2 := fun c o n h => b c o n (a c o n h)
theorem Fr.new {S p : Addr} {H : Hp} {o : HO} (h : H p = none) : Fr S H (upd H p o) := fun b u _ e => by
  rw [upd_ne (ne_of_none e h)]; exact e
theorem Fr.own {S : Addr} {H : Hp} {o : HO} : Fr S H (upd H S o) := fun b u n e => by
  rw [upd_ne n]; exact e
theorem Fr.to {S : Addr} {H H1 H2 : Hp} (a : Fr S H H1) (b : Same H1 H2) : Fr S H H2 := fun c o n h => b c o (a c o n h)
theorem Same.fr {S : Addr} {H H1 : Hp} (b : Same H H1) : Fr S H H1 := fun c o _ h => b c o h
theorem same_new {p : Addr} {H : Hp} {o : HO} (h : H p = none) : Same H (upd H p o) := fun b u e => by
  rw [upd_ne (ne_of_none e h)]; exact e
theorem Fr.sqL {S a : Addr} {K : PySem.W.Frag} {H H' : Hp} {xs : List V} (f : Fr S H H') (n : a ≠ S) (h : SqL K H a xs) : SqL K H' a xs := by
  rcases h with (h | ⟨o, h⟩) | h
  · exact .inl (.inl (f _ _ n h))
  · exact .inl (.inr ⟨o, f _ _ n h⟩)
  · exact .inr h
theorem Fr.sqT {S a : Addr} {K : PySem.W.Frag} {H H' : Hp} {xs : List V} (f : Fr S H H') (n : a ≠ S) (h : SqT K H a xs) : SqT K H' a xs := by
  rcases h with (h | ⟨o, h⟩) | h
  · exact .inl (.inl (f _ _ n h))
  · exact .inl (.inr ⟨o, f _ _ n h⟩)
  · exact .inr h
theorem Same.sqT {a : Addr} {K : PySem.W.Frag} {H H' : Hp} {xs : List V} (f : Same H H') (h : SqT K H a xs) : SqT K H' a xs := by
  rcases h with (h | ⟨o, h⟩) | h
  · exact .inl (.inl (f _ _ h))
  · exact .inl (.inr ⟨o, f _ _ h⟩)
  · exact .inr h
end Lv
/-! An own error whose __init__ tells its text to its base and keeps one field. -/
namespace PySem
namespace SrcX
open PySem.W PySem.Calls PyProof.Rows PySem.HandSPX
/-! ### the text of __init__: the parameter's name is a letter (at, name) -/
def msg : Str := "the source is wrong at position "
def eA : Arguments := { posonlyargs := [], args := [{ arg := "self", annotation := none, pos := ⟨6, 17, 6, 21⟩ }, { arg := "at", annotation := none, pos := ⟨6, 23, 6, 25⟩ }], vararg := none, kwonlyargs := [], kw_defaults := [], kwarg := none, defaults := [] }
def eB : List Stmt :=
  [.Expr (.Call (.Attribute (.Call (.Name "super" ⟨7, 8, 7, 13⟩) [] [] ⟨7, 8, 7, 15⟩) "__init__" ⟨7, 8, 7, 24⟩) [.JoinedStr [.Constant (.str msg) 0 ⟨7, 27, 7, 59⟩, .FormattedValue (.Name "at" ⟨7, 60, 7, 62⟩) (-1) none ⟨7, 59, 7, 63⟩] ⟨7, 25, 7, 64⟩] [] ⟨7, 8, 7, 65⟩) ⟨7, 8, 7, 65⟩,
   .Assign [.Attribute (.Name "self" ⟨8, 8, 8, 12⟩) "at" ⟨8, 8, 8, 15⟩] (.Name "at" ⟨8, 18, 8, 20⟩) ⟨8, 8, 8, 20⟩]
def eS : Scope := { kind := .function, names := [(PySem.Str.ofString "self", .local), (PySem.Str.ofString "at", .local), (PySem.Str.ofString "__class__", .free), (PySem.Str.ofString "super", .globalImplicit)], isGenerator := false, isCoroutine := false, more := [] }
/-- what the written part says of the class at C, and of its __init__, at fI; x: the field -/
structure SrcTxt (P : Program) (K : Frag) (mg : Str → Option Value) (nm : Str) (C fI : Addr) : Prop where
  gC : mg nm = some (.ref C)
  cls : ∃ nm q N bs bm sn sub ab col dd k0 k1 k2 k3 k5, K.lookup C = some (excClassObj nm q C N bs bm true sn sub ab col dd k0 k1 k2 k3 k5 "ValueError.__new__") ∧ refsVE bm = true
  sa : findIn K (.ref C) "__setattr__" = some (some (.builtin "object.__setattr__"))
  ga : findIn K (.ref C) "__getattribute__" = some (some (.builtin "BaseException.__getattribute__"))
  gg : findIn K (.ref C) "__getattr__" = some none
  noN : findIn K (.ref C) "at" = some none
  iC : findIn K (.ref C) "__init__" = some (some (.ref fI))
  tC : typeIn K (.ref fI) = some (.type "function")
  kC : keepIn K (.ref C) = true
  exC : subIn K (.ref C) (.type "BaseException") = some true
  veC : subIn K (.ref C) (.type "ValueError") = some true
  tyC : typeIn K (.ref C) = some (.type "type")
  hdC : hasDictIn K C = true
  te : exmOne K (.ref C) (.ref C) = some true
  op : nsIn K cStatics "thirdparty.any" = some none
  up : ks_superIn K C C "__init__" = some (some (.builtin "ValueError.__init__"))
  mr : mroIn K C (.ref C) = some true
  su : mg "super" = none
  top : (P.main.scope.names.lookup ("super" : Str)).isSome = false
  fn : ∃ (oc : Value) (od : Option Addr) (doc pm : Value) (an : Option Addr) (cda cc : Addr) (ct : Value) (osl : Array (Option Value)) (qual : Str) (ccl cl : Value) (cdd cld : Option Addr) (ccs csl : Array (Option Value)) (vs : Array Value) (file : Str) (tf : Tok),
    K.lookup fI = some ⟨oc, od, .func (fnX "__init__" qual eA eB eS [("__class__", cc)] .none .none doc pm an (.ref cda) ct), osl⟩ ∧ codeIn K (.ref cda) qual = true ∧
    K.lookup cda = some ⟨ccl, cdd, .fields vs, ccs⟩ ∧ vs[2]? = some (.str file tf) ∧ ((P.main.file : Str) == file) = true ∧ K.lookup cc = some ⟨cl, cld, .cell (some (.ref C)), csl⟩
/-- what __init__ leaves of a fresh exception at x -/
structure InitEnd (h h' : Heap) (e C dx t1 : Addr) (v : Value) : Prop where
  keep : ∀ b o, b ≠ e → h.get? b = some o → h'.get? b = some o
  obj : h'.get? e = some { cls := .ref C, dict := some dx, data := .fields #[.ref t1, .none, .none, .none, .bool false, .none] }
  dbig : h.objs.size ≤ dx
  dne : dx ≠ e
  ns : h'.Ns1 dx (fun y => if y = "at" then some v else none)
structure OwnMade (h h' : Heap) (e C d : Addr) (v : Value) : Prop where
  keep : ∀ b o, h.get? b = some o → h'.get? b = some o
  new : h.objs.size ≤ e
  obj : ∃ oe vs, h'.get? e = some oe ∧ oe.cls = .ref C ∧ oe.dict = some d ∧ oe.data = .fields vs ∧ vs[1]? = some .none
  dbig : h.objs.size ≤ d
  dne : d ≠ e
  ns : h'.Ns1 d (fun y => if y = "at" then some v else none)
theorem one_size (v : Value) : [v].length ≤ sizeLine := by
  rw [sizeLine_eq]
  exact (by decide : 1 ≤ 16777216)
section
variable {prog : Program} {w : World} {A : Around} {E : Value → Shared → Prop} {R : Result → Shared → Prop} {s : Shared} {K : Frag} {mg mb : Str → Option Value} {nm : Str} {C fI : Addr}
/-- the base's __init__, bound, called with one value: the args are laid anew -/
theorem call_mw {h : Heap} {g : Array GenState} {d : Drawn} {t : Nat} {os : OsState} {u e t0 : Addr} {rest : List Value} {Q : Value → Shared → Prop} {nm q : Str} {N : Addr} {bs bm : List Value} {hdct : Bool} {sn : List Str} {sub : List Value} {ab : Bool} {col : Option Bool} {dd : Option Addr} {k0 k1 k2 k3 k5 : Option Value}
    (hC : h.get? C = some (excClassObj nm q C N bs bm hdct sn sub ab col dd k0 k1 k2 k3 k5 "ValueError.__new__")) (he : h.get? e = some (excO C t0)) (hu : h.get? u = some (kxs_mw "ValueError.__init__" e)) (hrest : rest.length ≤ sizeLine)
    (hq : ∀ h' t1, (∀ b o, b ≠ e → h.get? b = some o → h'.get? b = some o) → h'.get? e = some (excO C t1) → Q .none ⟨h', g, d, t, os⟩) :
    wpAny (model prog w) A (call (.ref u) rest) Q E ⟨h, g, d, t, os⟩ := by
  refine wpAny_call (codeAny_of_tree ?_)
  show wpAny _ A.in1 (callAny (.ref u) ⟨rest, []⟩) _ _ _
  simp only [callAny]
  refine wpAny_bind (wpAny_load hu ?_)
  simp only [kxs_mw, show (Value.type "method-wrapper" == Value.type "method" || Value.type "method-wrapper" == Value.type "builtin_function_or_method" || Value.type "method-wrapper" == Value.type "method-wrapper") = true by decide, if_true]
  refine KFB.if_so (by decide) ?_
  refine wpAny_bind (check_bound_init F.excBase_ValueError.toExcCallFacts hC he rfl ?_)
  refine wpAny_bind (wpAny_pure (wpAny_pure ?_))
  refine ⟨plainId_quiet F.excBase_ValueError.init.plain _, codeAny_builtin F.excBase_ValueError.initEntry ?_⟩
  exact exc_init_tree (cls := .ref C) (t0 := t0) (dv := none) (c2 := .none) (c3 := .none) (b4 := .bool false) he hrest fun h' k e' _ => hq h' _ k e'
theorem ldN {M : Model} {env : Env} {m : Str → Option Value} {x : Str} {pos : Pos} {v : Value} {Q : Value → Shared → Prop} (hn : s.heap.Ns env.locals m) (hv : m x = some v) (h : Q v s)
    (hk : env.scope.kind = .function := by rfl) (hl : env.kindOf x = some .local := by rfl) (hd : (x == ("__debug__" : Str)) = false := by decide) :
    wpAny M A (eval (.Name x pos) env) Q E s := wpAny_Name (wpAny_loadName_local hk hl hn hv h) hd
theorem src_init (T : SrcTxt prog K mg nm C fI) {e t0 : Addr} {v : Int} {tv : Tok} (hv : v.natAbs.log2 < 1920) (X : K.In s.heap) (hlim : s.heap.NoLimit) (hg : s.heap.Ns mainGlobals mg) (hb : s.heap.Ns builtinsNs mb) (hmb : mb "super" = some (.type "super"))
    (hx : s.heap.get? e = some (excO C t0)) (hnx : K.lookup e = none) (hroom : A.depth < recursionLimit)
    (hq : ∀ h' tk dx t1, InitEnd s.heap h' e C dx t1 (.int v tv) → R (.ok (.ret .none)) { s with heap := h', toks := tk }) :
    codeAny (model prog w) A (.call (.ref fI) ⟨[.ref e, .int v tv], []⟩) R s := by
  obtain ⟨oc, od, doc, pm, an, cda, cc, ct, osl, qual, ccl, cl, cdd, cld, ccs, csl, vs, file, tf, ho, hcd, hcode, hvs, hfile, hcell⟩ := T.fn
  obtain ⟨nm', q, N, bs, bm, sn, sub, ab, col, dd, k0, k1, k2, k3, k5, hC, hbm⟩ := T.cls
  have hcl : clsIn K C = some { name := nm', bases := bs, mro := .ref C :: bm, ns := N, qualname := q, hasDict := true, slotNames := sn, subclasses := sub, abstract := ab, collection := col, hasDel := false } := by unfold clsIn; rw [hC] <;> rfl
  refine ks_codeAny_call_defAt (binds := [("self", .ref e), ("at", .int v tv)]) hroom (X _ _ ho) rfl hlim (codeRec_of X hcd) rfl (BindsTo.of_eq ?b1) (show ∀ y ∈ eS.names, y.2 ≠ .cell by decide +kernel) (locs rfl) (fun h₁ hns k => ?_) rfl rfl rfl
  case b1 => first | rfl | with_unfolding_all rfl
  have I1 : InstAt s.heap e (excO C t0) C none := ⟨hx, rfl, rfl, trivial⟩
  have hne : e ≠ C := ks_ne X I1 hcl
  obtain ⟨hp, g, d, t, os⟩ := s
  have X₁ : K.In h₁ := X.keeps k
  have hx₁ := k _ _ hx
  -- super().__init__(f'..')
  refine ks_wpAt_execs_cons (ks_wpAt_Expr_any (ks_wpAt_MethodCall ?_ (by with_unfolding_all rfl)))
  have hoH := X₁ _ _ ho
  have hcodeH := X₁ _ _ hcode
  refine' ks_wpAt_super_base (attr := "__init__") (body := eB) (f := fI) (cc := cda) ?a1 ?a2 ?a3 ?a4 ?a5 ?a6 ?a7 ?a8 ?a9 ?a10 hvs hfile T.top ?_
  case a5 => exact hoH
  case a9 => exact hcodeH
  case a1 => rfl
  case a2 => rfl
  case a3 => decide
  case a4 => rfl
  case a6 => rfl
  case a7 => rfl
  case a8 => rfl
  case a10 => rfl
  have hG : h₁.Ns mainGlobals mg := hg.keeps k
  have hB : h₁.Ns builtinsNs mb := hb.keeps k
  refine ks_loadName_global rfl rfl (loadGlobal_builtin hG T.su hB hmb ⟨rfl, ?_⟩)
  refine wpAny_loadName_free rfl rfl rfl ⟨_, X₁ _ _ hcell, rfl⟩ ?_
  refine wpAny_loadName_local rfl rfl hns rfl ?_
  have hCC := X₁ _ _ hC
  refine ks_wpAny_isType_cls hCC rfl ⟨rfl, ?_⟩
  refine ks_wpAny_call_super hCC rfl hx₁ rfl (fun c z => by cases z) (looks_mroIn X₁ T.mr) (fun h₂ hso k₂ => ?_)
  have X₂ : K.In h₂ := X₁.keeps k₂
  have hx₂ := k₂ _ _ hx₁
  have I2 : InstAt h₂ e (excO C t0) C none := ⟨hx₂, rfl, rfl, trivial⟩
  have hI : Looks (model prog w) h₂ (isInstance (.ref e) (.type "ValueError")) true := I2.type.andThen (looks_subIn X₂ T.veC)
  have hup : alongIn K "__init__" (((.ref C :: bm : List Value).dropWhile (· != .ref C)).drop 1) = some (some (.builtin "ValueError.__init__")) := by
    have := T.up
    unfold ks_superIn at this
    rw [hcl] at this
    exact this
  refine kxs_getMethod kxs_ValueError hso (looks_opaque X₂ T.op) (l₀ := .ref C :: bm) ?lk rfl X₂ hup hI hne (by decide) ?_
  case lk => exact fun A Q E s k q => wpAny_bind ((looks_clsIn X₂ hcl) A _ E s k (wpAny_pure q))
  refine kxs_callWith (i := "ValueError.__init__") (x := e) rfl (evalArgs_plain ?_)
  refine Calls.spliced_cons ?_
  -- the text
  have hn₂ : h₂.Ns hp.objs.size _ := hns.keeps k₂
  have hn₃ : (h₂.push (kxs_mw "ValueError.__init__" e)).Ns hp.objs.size _ := hn₂.keeps fun b o z => Heap.get?_push_of_some _ z
  refine wpAny_JoinedStr (pos := ⟨7, 25, 7, 64⟩) ?_
  refine Calls.Constant_str (x := msg) (k := 0) (pos := ⟨7, 27, 7, 59⟩) ?_
  refine ⟨_, _, rfl, by decide +kernel, ?_⟩
  refine wpAny_FormattedValue_plain (value := .Name "at" ⟨7, 60, 7, 62⟩) (pos := ⟨7, 59, 7, 63⟩) (ldN (env := callEnv (fnX "__init__" qual eA eB eS [("__class__", cc)] .none .none doc pm an (.ref cda) ct) hp.objs.size fI) hn₃ rfl (wpAny_formatField_int hv ?_))
  have hsz : ((Str.empty ++ msg) ++ Str.ofString (toString v)).length ≤ sizeLine := by
    rw [strLen_append, PySem.ofString_length, show (Str.empty ++ msg).length = 32 by decide +kernel, sizeLine_eq]
    have := int_text_length_le (k := 1920) (by decide) hv
    omega
  refine ⟨_, _, rfl, hsz, ?_⟩
  refine ⟨hsz, ?_⟩
  refine Calls.spliced_nil ?_
  have hu₃ : (h₂.push (kxs_mw "ValueError.__init__" e)).get? h₂.objs.size = some (kxs_mw "ValueError.__init__" e) := Heap.get?_push_at rfl rfl
  refine ⟨hu₃, ?_⟩
  have k₃ : ∀ b o, h₂.get? b = some o → (h₂.push (kxs_mw "ValueError.__init__" e)).get? b = some o := fun b o z => Heap.get?_push_of_some _ z
  have X₃ : K.In (h₂.push (kxs_mw "ValueError.__init__" e)) := X₂.keeps k₃
  refine call_mw (X₃ _ _ hC) (k₃ _ _ hx₂) hu₃ (one_size _) fun h₄ t1 k₄ hx₄ => ?_
  have X₄ : K.In h₄ := fun a o z => by
    by_cases ha : a = e
    · subst ha
      have := X₃ _ _ z
      have y := k₃ _ _ hx₂
      rw [this] at y
      have nK : K.lookup a = none := hnx
      rw [nK] at z
      cases z
    · exact k₄ _ _ ha (X₃ _ _ z)
  have hn₄ : h₄.Ns hp.objs.size _ := hn₃.at fun o z => k₄ _ _ (Nat.ne_of_gt (Heap.lt_size hx)) z
  -- self.at = at
  refine wpAt_of_wpAny ?_
  refine wpAny_execs_cons (plainObj_wpAny_Assign_Attribute ?_)
  refine ldN (v := .int v tv) hn₄ rfl (ldN (v := .ref e) hn₄ rfl ?_)
  refine set_plain X₄ (ox := excO C t1) (od := none) ⟨hx₄, rfl, rfl, trivial⟩ T.sa ?_
  refine exc_osa X₄ hx₄ hcl (show refsVE (.ref C :: bm) = true from hbm) rfl T.noN (fun h₅ tk₅ dx k₅ dn dne hx₅ hn₅ => ?_)
  refine wpAny_execs_nil ?_
  have keepAll : ∀ b o, b ≠ e → hp.get? b = some o → h₅.get? b = some o := fun b o hb z => k₅ b o hb (k₄ b o hb (k₃ _ _ (k₂ _ _ (k _ _ z))))
  refine hq h₅ tk₅ dx t1 ⟨keepAll, hx₅, ?_, dne, hn₅⟩
  exact Nat.le_trans (Nat.le_of_lt hn₄.lt) dn
theorem src_made (T : SrcTxt prog K mg nm C fI) {v : Int} {tv : Tok} (hv : v.natAbs.log2 < 1920) (X : K.In s.heap) (hlim : s.heap.NoLimit) (hg : s.heap.Ns mainGlobals mg) (hb : s.heap.Ns builtinsNs mb) (hmb : mb "super" = some (.type "super")) (hroom : A.depth + 1 < recursionLimit)
    (hq : ∀ h' tk e d, OwnMade s.heap h' e C d (.int v tv) → R (.ok (.ret (.ref e))) { s with heap := h', toks := tk }) :
    codeAny (model prog w) A (.call (.ref C) ⟨[.int v tv], []⟩) R s := by
  obtain ⟨nm, q, N, bs, bm, sn, sub, ab, col, dd, k0, k1, k2, k3, k5, hC, hbm⟩ := T.cls
  obtain ⟨hp, g, dr, tk, os⟩ := s
  have k : ∀ b o, hp.get? b = some o → ((hp.push (kdv_tup [.int v tv])).push (excO C hp.objs.size)).get? b = some o := fun b o e => Heap.get?_push_of_some _ (Heap.get?_push_of_some _ e)
  have hget : ((hp.push (kdv_tup [.int v tv])).push (excO C hp.objs.size)).get? (hp.objs.size + 1) = some (excO C hp.objs.size) := by heap_get
  have hnx : K.lookup (hp.objs.size + 1) = none := by
    cases e : K.lookup (hp.objs.size + 1) with
    | none => rfl
    | some o =>
      have z : hp.get? (hp.objs.size + 1) = some o := X _ _ e
      exact absurd (Nat.lt_of_succ_lt (Heap.lt_size z)) (Nat.lt_irrefl _)
  refine call_own F.excBase_ValueError (fun X => refsVE_contains X bm hbm) (X _ _ hC) (looks_findIn X T.iC) (fun self => bind_fn X self T.tC) (one_size _) ?_
  refine src_init (s := ⟨(hp.push (kdv_tup [.int v tv])).push (excO C hp.objs.size), g, dr, tk, os⟩) T hv (X.keeps k) (hlim.keeps k) (hg.keeps k) (hb.keeps k) hmb hget hnx ?_ fun h' tk' dx t1 ⟨k', hx, dn, dne, hns⟩ => ?_
  · show A.depth + 1 < recursionLimit
    exact hroom
  · have old : ∀ b o, hp.get? b = some o → h'.get? b = some o := fun b o e => k' b o (Nat.ne_of_lt (Nat.lt_succ_of_lt (Heap.lt_size e))) (k b o e)
    have z : hp.objs.size + 1 + 1 ≤ dx := by
      first
        | (simpa only [Heap.size_push] using dn)
        | exact dn
        | (have q := dn; rw [Heap.size_push, Heap.size_push] at q; exact q)
    exact ⟨rfl, hq h' tk' (hp.objs.size + 1) dx ⟨old, Nat.le_succ _, ⟨_, _, hx, rfl, rfl, rfl, rfl⟩, Nat.le_trans (Nat.le_trans (Nat.le_succ _) (Nat.le_succ _)) z, dne, hns⟩⟩
end
end SrcX
end PySem
namespace L2
open PySem PySem.Spec PyProof.Rows
theorem relO_src {v : V} {v' : Value} (r : RelV v v') (f : Str) : RelO (List.lookup f [(("at" : Str), v)]) (if f = "at" then some v' else none) := by
  by_cases hw : f = "at"
  · subst hw
    rw [if_pos rfl]
    have q : List.lookup ("at" : Str) [(("at" : Str), v)] = some v := by simp [List.lookup]
    rw [q]
    exact r
  · rw [if_neg hw]
    have qw : (f == ("at" : Str)) = false := by simpa using hw
    have q2 : List.lookup f [(("at" : Str), v)] = none := by simp [List.lookup, qw]
    rw [q2]
    trivial
section
variable {X : Cx} {C fI : Addr} {nm : Str}
/-- C(e), e an int -/
def tMkSrc (C : Addr) (ta : TA) : St → Hp → XK → Prop := fun σ H Q => ta σ H fun vs H1 => ∃ v : Int, vs = [.int v] ∧ v.natAbs.log2 < 1920 ∧ ∀ d, H1 d = none → Q (.ref C) (some d) (upd H1 d (.xd [(("at" : Str), .int v)]))
theorem pmk_src {a : Expr} {ta : TA} {p pos : Pos} {k : Nat} (T : PySem.SrcX.SrcTxt X.prog X.K X.mg nm C fI) (hr : Room k X.A) (ha : PA X [a] ta) (hg : Gl X nm := by rfl) (hdb : (nm == ("__debug__" : Str)) = false := by decide)
    (he : starEach (a :: []) X.env = (false, eval a X.env) :: starEach [] X.env := by rfl) (hpl : (backTo pos (starEach [] X.env)).any (·.1) = false := by rfl) :
    PMk X (.Call (.Name nm p) [a] [] pos) (tMkSrc C ta) := by
  intro pins s σ H Q I h
  refine wpAny_Call_Name_kw (ld_glob I hg T.gC ?_ hdb)
  refine PySem.W.callWith_K (h₀ := X.base) I.ok.mod.kin T.kC (thn (ha.run pos pins s σ H _ I h) fun us s1 hh => ?_) he hpl
  obtain ⟨vs, H1, I1, r1, v, ev, hv, q1⟩ := hh
  subst ev
  refine ⟨I1.kIn, ?_⟩
  cases r1 with
  | cons rv rn =>
    rename_i v' us'
    cases rn
    obtain ⟨tv, rfl⟩ := rv
    show wpAny _ _ (call (.ref C) [.int v tv]) _ _ _
    have hlim := I1.nolimit
    obtain ⟨mb, hb, hmb⟩ := I1.mod.blt
    have hb1 := hb.keeps I1.bk
    have hg1 := I1.mod.glob.keeps I1.bk
    have hsup : mb "super" = some (.type "super") := (hmb _ (by decide)).trans (by decide +kernel)
    obtain ⟨hp, g, dr, tk, os⟩ := s1
    refine wpAny_call (PySem.SrcX.src_made T hv I1.kIn hlim hg1 hb1 hsup (by have := hr.dp; omega) fun h' tk' e d M => ?_)
    show MkP X pins σ Q (.ref e) ⟨h', g, dr, tk', os⟩
    obtain ⟨oe, fv, hoe, hc, hd, hdat, h1⟩ := M.obj
    have hns := M.ns
    obtain ⟨G', g1, g2⟩ := restrict h' fun b => decide (b ≠ e)
    have gk : ∀ b, b ≠ e → G'.get? b = h'.get? b := fun b hb => g1 b (decide_eq_true hb)
    have ge : G'.get? e = none := g2 e (by simp)
    have old : ∀ b o, hp.get? b = some o → G'.get? b = some o := fun b o q => (gk b (Nat.ne_of_lt (Nat.lt_of_lt_of_le (Heap.lt_size q) M.new))).trans (M.keep b o q)
    have ob : ObjOk X.prog X.w (upd H1 d (.xd [(("at" : Str), .int v)])) G' d (.xd [(("at" : Str), .int v)]) :=
      ⟨_, hns.at (fun o q => (gk d M.dne).trans q), fun f => relO_src (v := .int v) (v' := .int v tv) ⟨tv, rfl⟩ f⟩
    have J : Inv X pins σ (upd H1 d (.xd [(("at" : Str), .int v)])) ⟨G', g, dr, tk', os⟩ := I1.laid (t' := tk') old M.dbig ob
    refine ⟨e, oe, fv, ⟨G', g, dr, tk', os⟩, _, .ref C, some d, rfl, J, fun b o q => ?_, ge, hoe, ⟨hc, hd⟩, hdat, h1, ?_, rfl, I1.bare, raises_own T.exC T.tyC, q1 d (I1.hok.fresh M.dbig)⟩
    · by_cases hb : b = e
      · have q' : G'.get? b = some o := q
        rw [hb, ge] at q'; cases q'
      · exact (gk b hb).symm.trans q
    · rw [upd_ne (Ne.symm M.dne)]
      exact I1.hok.fresh M.new
/-- raise C(e) -/
def tRaiseSrc (C : Addr) (W : WX) (ta : TA) : TS := fun _ σ H => tMkSrc C ta σ H fun cls d H' => W cls d σ H'
theorem ps_raiseSrc {a : Expr} {ta : TA} {W : WX} {p pos pos2 : Pos} {k : Nat} (hc : X.calm = true) (T : PySem.SrcX.SrcTxt X.prog X.K X.mg nm C fI) (hr : Room k X.A) (tk : Takes X W) (ha : PA X [a] ta) (hg : Gl X nm := by rfl) (hdb : (nm == ("__debug__" : Str)) = false := by decide)
    (he : starEach (a :: []) X.env = (false, eval a X.env) :: starEach [] X.env := by rfl) (hpl : (backTo pos (starEach [] X.env)).any (·.1) = false := by rfl) :
    PS X (.Raise (some (.Call (.Name nm p) [a] [] pos)) none pos2) (tRaiseSrc C W ta) := ps_raise hc tk (pmk_src T hr ha hg hdb he hpl)
/-- err.at, err the exception that the suite holds (at a; its class cls, its dict d) -/
def tBySrc (C : Addr) (a : Addr) (cls : Value) (d : Option Addr) (te : TE) : TE := fun σ H Q => te σ H fun x H1 => x = .ref a ∧ cls = .ref C ∧ ∃ (dd : Addr) (v : V), d = some dd ∧ H1 dd = some (.xd [(("at" : Str), v)]) ∧ Q v H1
theorem pe_bySrc {a : Addr} {oe : Obj} {cls : Value} {d : Option Addr} {pn : List (Addr × Obj)} {e : Expr} {te : TE} {pos : Pos} (T : PySem.SrcX.SrcTxt X.prog X.K X.mg nm C fI) (hz : Zc cls d oe) (hf : ∃ vs, oe.data = .fields vs) (he : PE (X.suite a ((a, oe) :: pn)) e te)
    (hb : attributeBase e "at" X.env (eval e X.env) = eval e X.env := by rfl) :
    PE (X.suite a ((a, oe) :: pn)) (.Attribute e "at" pos) (tBySrc C a cls d te) := by
  refine ⟨fun pins s σ H Q I h => ?_⟩
  refine attr_of hb (thn (he.run pins s σ H _ I h) fun u s1 hh => ?_)
  obtain ⟨x, H1, I1, rx, ex, ec, dd, v, ed, ea, q⟩ := hh
  subst ex
  obtain rfl : u = Value.ref a := rx
  subst ec
  subst ed
  obtain ⟨ha, _⟩ := I1.pin (a, oe) (List.mem_append_left _ List.mem_cons_self)
  obtain ⟨vs, hd⟩ := hf
  have hx : ObjOk X.prog X.w H1 s1.heap dd (.xd [(("at" : Str), v)]) := I1.hok dd _ ea
  obtain ⟨mA, hns, hr⟩ := hx
  obtain ⟨od, ho, hl⟩ := lookIn_ns hns
  have l : List.lookup ("at" : Str) [(("at" : Str), v)] = some v := by simp [List.lookup]
  obtain ⟨u, hu, ru⟩ := RelO.some_of (v := v) (o := mA "at") (by rw [← l]; exact hr "at")
  have J : PySem.W.InstAt s1.heap a oe C (some od) := ⟨ha, hz.1, by unfold PySem.W.notCls; rw [hd] <;> rfl, by rw [hz.2]; exact ho⟩
  exact HandSPX.exc_get I1.kIn J T.ga T.gg T.exC (PySem.W.findObj_own T.hdC T.noN rfl (by rw [hl, hu])) (handed_of ru) ⟨v, H1, I1.tok _, ru, q⟩
end
end L2
/-! Defs that may raise, over the same layer; texts searched. -/
namespace Lv
open PySem PySem.Spec PyProof.Rows L2

section
variable {P : Program} {w : World} {K : PySem.W.Frag} {mg : Str → Option Value} {base : Heap} {N : List Str} {q : Str} {sc : Scope} {f : Addr} {cd : Value} {A : Around} {outer : List Env} {s : Shared} {H : Hp} {E : XK}
theorem tk_of : Takes (cxOf (L2.CX P w) P w K mg base N q sc f cd A outer s H E) (fun cls d _ H => E cls d H) := takes_of rfl rfl rfl rfl
theorem px_of : Passes (L2.CX P w) (cxOf (L2.CX P w) P w K mg base N q sc f cd A outer s H E) E := passes_call tk_of (fun _ _ _ _ h => h)
theorem po_of : PassesOwn (model (cxOf (L2.CX P w) P w K mg base N q sc f cd A outer s H E).prog (cxOf (L2.CX P w) P w K mg base N q sc f cd A outer s H E).w) (cxOf (L2.CX P w) P w K mg base N q sc f cd A outer s H E).A (cxOf (L2.CX P w) P w K mg base N q sc f cd A outer s H E).env (cxOf (L2.CX P w) P w K mg base N q sc f cd A outer s H E).xe := passes_of rfl
end
/-- a def that may raise, by its module's name -/
structure CalX (P : Program) (w : World) (K : PySem.W.Frag) (mg : Str → Option Value) (base : Heap) (k : Nat) (x : Str) (sp : Sp) : Prop where
  ex : ∃ (f : Addr) (fd : FuncData) (ps : List Str), FnOk P w K mg base (L2.CX P w) k f fd ps sp ∧ mg x = some (.ref f) ∧ PySem.W.keepIn K (.ref f) = true ∧ Binds K fd ps []
section
variable {X : Cx} {k j : Nat} {x : Str} {sp : Sp} {E : XK} {p pos : Pos} {e : Expr} {es : List Expr} {t : TA}
theorem pe_cx (c : CalX X.prog X.w X.K X.mg X.base k x sp) (hr : Room j X.A) (hk : k ≤ j) (hg : Gl X x) (hx : Passes (L2.CX X.prog X.w) X E) (ha : PA X (e :: es) t)
    (hdb : (x == ("__debug__" : Str)) = false := by decide) (he : starEach (e :: es) X.env = (false, eval e X.env) :: starEach es X.env := by rfl) (hpl : (backTo pos (starEach es X.env)).any (·.1) = false := by rfl) :
    PE X (.Call (.Name x p) (e :: es) [] pos) (tCall sp [] E t) := by
  obtain ⟨f, fd, ps, F, hm, kp, b⟩ := c.ex
  exact pe_call F (hr.mono hk) hg hm kp b .nil hx ha hdb he hpl
end
/-- the way out with an error of the class at C whose field is i -/
def Err (C : Addr) (E : XK) (H : Hp) (i : Nat) : Prop := ∀ d H', H d = none → Same H H' → H' d = some (.xd [(("at" : Str), .int (i : Int))]) → E (.ref C) (some d) H'
theorem Err.mono {C : Addr} {E : XK} {H H1 : Hp} {i : Nat} (e : Err C E H i) (s : Same H H1) : Err C E H1 i := fun d H' hd s' h => e d H' (s.free hd) (s.trans s') h
section
variable {σ : L2.St} {H : Hp} {D : Ends} {C : Addr} {E : XK} {ta : TA}
def RaiseI (C : Addr) (E : XK) (vs : List V) (H : Hp) : Prop := ∃ v : Int, vs = [.int v] ∧ v.natAbs.log2 < 1920 ∧ ∀ d, H d = none → E (.ref C) (some d) (upd H d (.xd [(("at" : Str), .int v)]))
theorem w_raise (k : ta σ H fun vs H1 => RaiseI C E vs H1) : tRaiseSrc C (fun cls d _ H => E cls d H) ta D σ H := k
theorem raise_I {i : Nat} (hi : i ≤ 1000000) (h : Err C E H i) : RaiseI C E [.int (i : Int)] H := by
  refine ⟨(i : Int), rfl, ?_, fun d hd => h d _ hd (same_new0 hd) upd_same⟩
  rw [Int.natAbs_natCast]
  by_cases h0 : i = 0
  · subst h0; decide
  · exact Nat.lt_trans ((Nat.log2_lt h0).mpr (show i < 2 ^ 31 by omega)) (by decide)
end

/-! ### texts: order, search -/
def rLeS : R2 := fun x y H Q => ∃ i j, x = .str i ∧ y = .str j ∧ Q (.bl (!decide (j.cps.toList < i.cps.toList))) H
theorem op_leS {X : Cx} : OpR X (compareOp .LtE) rLeS := op_le_str
theorem lt_one (a b : Nat) : (([a] : List Nat) < [b]) ↔ a < b := by
  constructor
  · intro h
    cases h with
    | rel h => exact h
    | cons h => cases h
  · intro h
    exact .rel h
theorem w_leC {Q : VK} {H : Hp} {a b : Nat} (k : Q (.bl (decide (a ≤ b))) H) : rLeS (T [a]) (T [b]) H Q := by
  refine ⟨_, _, rfl, rfl, ?_⟩
  have e : (!decide (([b] : List Nat) < [a])) = decide (a ≤ b) := by
    by_cases h : a ≤ b
    · rw [decide_eq_true h, decide_eq_false (fun z => by have := (lt_one b a).mp z; omega)]; rfl
    · rw [decide_eq_false h, decide_eq_true ((lt_one b a).mpr (by omega))]; rfl
  show Q (.bl (!decide (([b] : List Nat) < [a]))) H
  rw [e]
  exact k
def rFind3 : V → List V → Hp → VK → Prop := fun x xs H Q => ∃ (a b : Str) (i : Int), x = .str a ∧ xs = [.str b, .int i] ∧ Q (.int (Txt.find3 a b i)) H
theorem mt_findS {X : Cx} : MtR X "str.find" rFind3 := mt_find3
def rStarts3 : V → List V → Hp → VK → Prop := fun x xs H Q => ∃ (a b : Str) (i : Int), x = .str a ∧ xs = [.str b, .int i] ∧ Q (.bl (Txt.startswith3 a b i)) H
theorem mt_startsS {X : Cx} : MtR X "str.startswith" rStarts3 := mt_startswith3
def rIsdigit : V → List V → Hp → VK → Prop := fun x xs H Q => ∃ a, x = .str a ∧ xs = [] ∧ True ∧ Q (.bl (Txt.isdigit a)) H
theorem mt_isdigitS {X : Cx} : MtR X "str.isdigit" rIsdigit := mt_isdigit
/-- where the first c from i on stands; -1 -/
def findC (cs : List Nat) (c i : Nat) : Int := if i + ((cs.drop i).takeWhile (fun x => x != c)).length < cs.length then ((i + ((cs.drop i).takeWhile (fun x => x != c)).length : Nat) : Int) else -1
theorem tw_get {p : Nat → Bool} : ∀ {l : List Nat} {j : Nat} {x : Nat}, j < (l.takeWhile p).length → l[j]? = some x → p x = true
  | [], _, _, h, _ => by simp at h
  | a :: l, j, x, h, e => by
    rw [List.takeWhile_cons] at h
    by_cases ha : p a = true
    · rw [if_pos ha] at h
      cases j with
      | zero => rw [List.getElem?_cons_zero] at e; cases e; exact ha
      | succ j => exact tw_get (l := l) (j := j) (by simpa using h) (by simpa using e)
    · rw [if_neg ha] at h; simp at h
theorem tw_end {p : Nat → Bool} : ∀ {l : List Nat}, (l.takeWhile p).length < l.length → ∃ x, l[(l.takeWhile p).length]? = some x ∧ p x = false
  | [], h => by simp at h
  | a :: l, h => by
    rw [List.takeWhile_cons] at h ⊢
    by_cases ha : p a = true
    · rw [if_pos ha] at h ⊢
      obtain ⟨x, e, hx⟩ := tw_end (l := l) (by simpa using h)
      exact ⟨x, by simpa using e, hx⟩
    · rw [if_neg ha]
      exact ⟨a, by simp, by simpa using ha⟩
theorem tw_le {p : Nat → Bool} (l : List Nat) : (l.takeWhile p).length ≤ l.length := (List.takeWhile_prefix p).length_le
/-- the first place of a c is told by takeWhile -/
theorem tw_first {c : Nat} {l : List Nat} {k : Nat} (h1 : l[k]? = some c) (h2 : ∀ j, j < k → l[j]? ≠ some c) : (l.takeWhile (fun x => x != c)).length = k := by
  rcases Nat.lt_trichotomy (l.takeWhile (fun x => x != c)).length k with h | h | h
  · obtain ⟨hk, _⟩ := List.getElem?_eq_some_iff.mp h1
    obtain ⟨x, e, hx⟩ := tw_end (p := fun x => x != c) (l := l) (by omega)
    have : x = c := by simpa using hx
    exact absurd (this ▸ e) (h2 _ h)
  · exact h
  · have := tw_get h h1
    simp at this
theorem find_T {cs : List Nat} {c i : Nat} (hi : i ≤ cs.length) : Txt.find3 ⟨cs.toArray⟩ ⟨#[c]⟩ (i : Int) = findC cs c i := by
  have hf : PySem.fromIndex (⟨cs.toArray⟩ : Str).length (i : Int) = i := by
    rw [len_T]
    unfold PySem.fromIndex
    first
      | (simp; omega)
      | (simp; done)
      | omega
  have gd : ∀ v, v < cs.length → (⟨cs.toArray⟩ : Str).cps.getD v 0 = cs.getD v 0 := fun v hv => by simp [Array.getD, hv, List.getD]
  unfold findC
  rcases StrLaws.find3_spec ⟨cs.toArray⟩ c (i : Int) with ⟨e, hn⟩ | ⟨k, e, h1, h2, h3, h4⟩
  · rw [hf] at hn
    rw [len_T] at hn
    rw [e, if_neg]
    intro hlt
    have hl2 : ((cs.drop i).takeWhile (fun x => x != c)).length < (cs.drop i).length := by rw [List.length_drop]; omega
    obtain ⟨x, ex, hx⟩ := tw_end hl2
    have : x = c := by simpa using hx
    subst this
    rw [List.getElem?_drop] at ex
    obtain ⟨hv, ev⟩ := List.getElem?_eq_some_iff.mp ex
    refine hn _ (Nat.le_add_right _ _) hv ?_
    rw [gd _ hv, List.getD_eq_getElem?_getD, ex]
    rfl
  · rw [hf] at h1 h4
    rw [len_T] at h2
    have hk : (cs.drop i)[k - i]? = some c := by
      rw [List.getElem?_drop, show i + (k - i) = k by omega, List.getElem?_eq_getElem h2]
      rw [gd _ h2, List.getD_eq_getElem?_getD, List.getElem?_eq_getElem h2] at h3
      exact congrArg some h3
    have hb : ∀ j, j < k - i → (cs.drop i)[j]? ≠ some c := fun j hj z => by
      rw [List.getElem?_drop] at z
      obtain ⟨hv, ev⟩ := List.getElem?_eq_some_iff.mp z
      refine h4 (i + j) (Nat.le_add_right _ _) (by omega) ?_
      rw [gd _ hv, List.getD_eq_getElem?_getD, z]
      rfl
    have hl := tw_first hk hb
    rw [e, hl, if_pos (by omega)]
    congr 1
    omega
theorem w_find {Q : VK} {H : Hp} {cs : List Nat} {c i : Nat} (hi : i ≤ cs.length) (k : Q (.int (findC cs c i)) H) : rFind3 (T cs) [T [c], .int (i : Int)] H Q :=
  ⟨_, ⟨#[c]⟩, _, rfl, rfl, by rw [find_T hi]; exact k⟩
theorem starts_T {cs b : List Nat} {i : Nat} (hi : i ≤ cs.length) : Txt.startswith3 ⟨cs.toArray⟩ ⟨b.toArray⟩ (i : Int) = b.isPrefixOf (cs.drop i) := by
  have hf : PySem.fromIndex (⟨cs.toArray⟩ : Str).length (i : Int) = i := by
    rw [len_T]
    unfold PySem.fromIndex
    first
      | (simp; omega)
      | (simp; done)
      | omega
  unfold Txt.startswith3
  rw [hf, len_T, len_T]
  have e : Builtin.Str.subAt ⟨cs.toArray⟩ ⟨b.toArray⟩ i = decide ((cs.drop i).take b.length = b) := by
    unfold Builtin.Str.subAt
    rw [len_T]
    have : (⟨cs.toArray⟩ : Str).cps.extract i (i + b.length) = ((cs.drop i).take b.length).toArray := by
      apply Array.ext'
      simp [List.extract_eq_drop_take, List.take_drop]
    rw [this]
    by_cases h : (cs.drop i).take b.length = b
    · rw [decide_eq_true h, h]; simp
    · rw [decide_eq_false h]
      refine beq_eq_false_iff_ne.mpr fun z => h ?_
      have := congrArg Array.toList z
      simpa using this
  rw [e, Bool.eq_iff_iff, List.isPrefixOf_iff_prefix, Bool.and_eq_true, decide_eq_true_iff, decide_eq_true_iff]
  constructor
  · rintro ⟨_, h⟩
    rw [← h]
    exact List.take_prefix _ _
  · intro h
    have hl := h.length_le
    rw [List.length_drop] at hl
    refine ⟨by have : b.length = 0 ∨ 0 < b.length := by omega
               omega, (List.prefix_iff_eq_take.mp h).symm⟩
theorem w_starts {Q : VK} {H : Hp} {cs b : List Nat} {i : Nat} (hi : i ≤ cs.length) (k : Q (.bl (b.isPrefixOf (cs.drop i))) H) : rStarts3 (T cs) [T b, .int (i : Int)] H Q :=
  ⟨_, ⟨b.toArray⟩, _, rfl, rfl, by rw [starts_T hi]; exact k⟩
theorem dig_ascii : ∀ c, c < 128 → Unicode.isDigit c = (decide (48 ≤ c) && decide (c ≤ 57)) := by decide +kernel
theorem w_isdigit {Q : VK} {H : Hp} {cs : List Nat} (hne : cs ≠ []) (ha : ∀ c ∈ cs, c < 128) (k : Q (.bl (cs.all fun c => decide (48 ≤ c) && decide (c ≤ 57))) H) : rIsdigit (T cs) [] H Q := by
  refine ⟨_, rfl, rfl, trivial, ?_⟩
  have e : Txt.isdigit ⟨cs.toArray⟩ = cs.all fun c => decide (48 ≤ c) && decide (c ≤ 57) := by
    unfold Txt.isdigit
    rw [len_T]
    have h0 : 0 < cs.length := by
      cases cs with
      | nil => exact absurd rfl hne
      | cons _ _ => simp
    have h1 : cs.toArray.all Unicode.isDigit = cs.all fun c => decide (48 ≤ c) && decide (c ≤ 57) := by
      rw [List.all_toArray]
      rw [Bool.eq_iff_iff, List.all_eq_true, List.all_eq_true]
      exact ⟨fun h c hc => by rw [← dig_ascii c (ha c hc)]; exact h c hc, fun h c hc => by rw [dig_ascii c (ha c hc)]; exact h c hc⟩
    show (decide (cs.length > 0) && cs.toArray.all Unicode.isDigit) = _
    rw [h1, decide_eq_true h0, Bool.true_and]
  rw [e]
  exact k
end Lv
/-! Trees of tuples, texts, numbers, truths and None; two of one shape are told the same. -/
namespace Lv
open PySem PySem.Spec PyProof.Rows L2
inductive Tr where
  | s (a : List Nat)
  | i (x : Int)
  | b (x : Bool)
  | n
  | t (l : List Tr)
mutual
inductive TrAt (K : PySem.W.Frag) (H : Hp) : V → Tr → Prop
  | s {a : List Nat} : TrAt K H (T a) (.s a)
  | i {x : Int} : TrAt K H (.int x) (.i x)
  | b {x : Bool} : TrAt K H (.bl x) (.b x)
  | n : TrAt K H .non .n
  | t {p : Addr} {vs : List V} {l : List Tr} : SqT K H p vs → TrsAt K H vs l → TrAt K H (.ref p) (.t l)
inductive TrsAt (K : PySem.W.Frag) (H : Hp) : List V → List Tr → Prop
  | nil : TrsAt K H [] []
  | cons {v : V} {t : Tr} {vs : List V} {l : List Tr} : TrAt K H v t → TrsAt K H vs l → TrsAt K H (v :: vs) (t :: l)
end
mutual
theorem TrAt.imp {K : PySem.W.Frag} {H H' : Hp} (f : ∀ p vs, SqT K H p vs → SqT K H' p vs) : ∀ {v : V} {t : Tr}, TrAt K H v t → TrAt K H' v t
  | _, _, .s => .s
  | _, _, .i => .i
  | _, _, .b => .b
  | _, _, .n => .n
  | _, _, .t h r => .t (f _ _ h) (TrsAt.imp f r)
theorem TrsAt.imp {K : PySem.W.Frag} {H H' : Hp} (f : ∀ p vs, SqT K H p vs → SqT K H' p vs) : ∀ {vs : List V} {l : List Tr}, TrsAt K H vs l → TrsAt K H' vs l
  | _, _, .nil => .nil
  | _, _, .cons h r => .cons (TrAt.imp f h) (TrsAt.imp f r)
end
theorem TrAt.same {K : PySem.W.Frag} {H H1 : Hp} {v : V} {t : Tr} (h : TrAt K H v t) (s : Same H H1) : TrAt K H1 v t := h.imp fun p vs q => Same.sqT s q
theorem TrsAt.same {K : PySem.W.Frag} {H H1 : Hp} {vs : List V} {l : List Tr} (h : TrsAt K H vs l) (s : Same H H1) : TrsAt K H1 vs l := h.imp fun p vs q => Same.sqT s q
theorem sqT_but {K : PySem.W.Frag} {D p : Addr} {H H1 : Hp} {xs vs : List V} (q : SqT K H p vs) (hD : H D = some (.lst xs)) (k : ∀ b o, b ≠ D → H b = some o → H1 b = some o) : SqT K H1 p vs := by
  rcases q with (h | ⟨o, h⟩) | h
  · exact .inl (.inl (k _ _ (fun e => by rw [e, hD] at h; cases h) h))
  · exact .inl (.inr ⟨o, k _ _ (fun e => by rw [e, hD] at h; cases h) h⟩)
  · exact .inr h
theorem TrAt.but {K : PySem.W.Frag} {D : Addr} {H H1 : Hp} {xs : List V} {v : V} {t : Tr} (h : TrAt K H v t) (hD : H D = some (.lst xs)) (k : ∀ b o, b ≠ D → H b = some o → H1 b = some o) : TrAt K H1 v t := h.imp fun _ _ q => sqT_but q hD k
theorem TrsAt.but {K : PySem.W.Frag} {D : Addr} {H H1 : Hp} {xs : List V} {vs : List V} {l : List Tr} (h : TrsAt K H vs l) (hD : H D = some (.lst xs)) (k : ∀ b o, b ≠ D → H b = some o → H1 b = some o) : TrsAt K H1 vs l := h.imp fun _ _ q => sqT_but q hD k
theorem TrsAt.snoc {K : PySem.W.Frag} {H : Hp} {v : V} {t : Tr} (h : TrAt K H v t) : ∀ {vs : List V} {l : List Tr}, TrsAt K H vs l → TrsAt K H (vs ++ [v]) (l ++ [t])
  | _, _, .nil => .cons h .nil
  | _, _, .cons a r => .cons a (TrsAt.snoc h r)
theorem TrsAt.length {K : PySem.W.Frag} {H : Hp} : ∀ {vs : List V} {l : List Tr}, TrsAt K H vs l → vs.length = l.length
  | _, _, .nil => rfl
  | _, _, .cons _ r => by rw [List.length_cons, List.length_cons, TrsAt.length r]
theorem TrsAt.get {K : PySem.W.Frag} {H : Hp} : ∀ {vs : List V} {l : List Tr} {i : Nat}, TrsAt K H vs l → i < l.length → ∃ v t, vs[i]? = some v ∧ l[i]? = some t ∧ TrAt K H v t
  | _, _, _, .nil, h => absurd h (Nat.not_lt_zero _)
  | _, _, 0, .cons h _, _ => ⟨_, _, rfl, rfl, h⟩
  | _, _, i + 1, .cons _ r, h => by
    obtain ⟨v, t, h1, h2, h3⟩ := TrsAt.get r (i := i) (by simpa using h)
    exact ⟨v, t, by simpa using h1, by simpa using h2, h3⟩
theorem trs_texts {K : PySem.W.Frag} {H : Hp} : ∀ l : List (List Nat), TrsAt K H (l.map T) (l.map Tr.s)
  | [] => .nil
  | _ :: l => .cons .s (trs_texts l)
/-- no tree is nested deeper than so -/
def TrD : Nat → Tr → Prop
  | 0, _ => False
  | n + 1, .t l => l.length < 1000000 ∧ ∀ t ∈ l, TrD n t
  | _ + 1, _ => True
/-! isinstance -/
section
variable {K : PySem.W.Frag} {H : Hp} {Q : VK}
theorem w_isi {x : V} {a ty : String} {r : Bool} (hx : TyX K H x (.type a)) (k : Q (.bl r) H) (hk : kitB a ty = some r := by decide +kernel) : rIsi K [x, .ty ty] H Q := ⟨_, _, _, _, _, rfl, .ty _, hx, kit_ty hk, k⟩
theorem tyx_tup {p : Addr} {vs : List V} (h : SqT K H p vs) : TyX K H (.ref p) (.type "tuple") := by
  rcases h with (h | ⟨o, h⟩) | ⟨o, its, n, h, e1, e2, _⟩
  · exact .base (.tup h)
  · exact .fTuple h
  · exact .kTuple h e1
theorem tyx_s {a : List Nat} : TyX K H (T a) (.type "str") := .base (.str _)
theorem tyx_i {i : Int} : TyX K H (.int i) (.type "int") := .base (.int _)
theorem tyx_b {b : Bool} : TyX K H (.bl b) (.type "bool") := .base (.bl _)
theorem tyx_n : TyX K H .non (.type "NoneType") := .base .non
theorem isi_s_tuple {a : List Nat} (k : Q (.bl false) H) : rIsi K [T a, .ty "tuple"] H Q := w_isi (r := false) tyx_s k
theorem isi_s_bool {a : List Nat} (k : Q (.bl false) H) : rIsi K [T a, .ty "bool"] H Q := w_isi (r := false) tyx_s k
theorem isi_s_int {a : List Nat} (k : Q (.bl false) H) : rIsi K [T a, .ty "int"] H Q := w_isi (r := false) tyx_s k
theorem isi_s_str {a : List Nat} (k : Q (.bl true) H) : rIsi K [T a, .ty "str"] H Q := w_isi (r := true) tyx_s k
theorem isi_i_tuple {i : Int} (k : Q (.bl false) H) : rIsi K [.int i, .ty "tuple"] H Q := w_isi (r := false) tyx_i k
theorem isi_i_bool {i : Int} (k : Q (.bl false) H) : rIsi K [.int i, .ty "bool"] H Q := w_isi (r := false) tyx_i k
theorem isi_i_int {i : Int} (k : Q (.bl true) H) : rIsi K [.int i, .ty "int"] H Q := w_isi (r := true) tyx_i k
theorem isi_i_str {i : Int} (k : Q (.bl false) H) : rIsi K [.int i, .ty "str"] H Q := w_isi (r := false) tyx_i k
theorem isi_b_tuple {b : Bool} (k : Q (.bl false) H) : rIsi K [.bl b, .ty "tuple"] H Q := w_isi (r := false) tyx_b k
theorem isi_b_bool {b : Bool} (k : Q (.bl true) H) : rIsi K [.bl b, .ty "bool"] H Q := w_isi (r := true) tyx_b k
theorem isi_b_int {b : Bool} (k : Q (.bl true) H) : rIsi K [.bl b, .ty "int"] H Q := w_isi (r := true) tyx_b k
theorem isi_b_str {b : Bool} (k : Q (.bl false) H) : rIsi K [.bl b, .ty "str"] H Q := w_isi (r := false) tyx_b k
theorem isi_n_tuple  (k : Q (.bl false) H) : rIsi K [.non, .ty "tuple"] H Q := w_isi (r := false) tyx_n k
theorem isi_n_bool  (k : Q (.bl false) H) : rIsi K [.non, .ty "bool"] H Q := w_isi (r := false) tyx_n k
theorem isi_n_int  (k : Q (.bl false) H) : rIsi K [.non, .ty "int"] H Q := w_isi (r := false) tyx_n k
theorem isi_n_str  (k : Q (.bl false) H) : rIsi K [.non, .ty "str"] H Q := w_isi (r := false) tyx_n k
theorem isi_t_tuple {p : Addr} (h : ∃ vs, SqT K H p vs) (k : Q (.bl true) H) : rIsi K [.ref p, .ty "tuple"] H Q := w_isi (r := true) (h.elim fun _ h => tyx_tup h) k
theorem isi_t_bool {p : Addr} (h : ∃ vs, SqT K H p vs) (k : Q (.bl false) H) : rIsi K [.ref p, .ty "bool"] H Q := w_isi (r := false) (h.elim fun _ h => tyx_tup h) k
theorem isi_t_int {p : Addr} (h : ∃ vs, SqT K H p vs) (k : Q (.bl false) H) : rIsi K [.ref p, .ty "int"] H Q := w_isi (r := false) (h.elim fun _ h => tyx_tup h) k
theorem isi_t_str {p : Addr} (h : ∃ vs, SqT K H p vs) (k : Q (.bl false) H) : rIsi K [.ref p, .ty "str"] H Q := w_isi (r := false) (h.elim fun _ h => tyx_tup h) k
end

/-! is it None -/
theorem ifN_s {a : List Nat} {A B : Prop} (k : B) : if decide (T a = V.non) = true then A else B := by rw [if_neg (by simp)]; exact k
theorem ifN_i {a : Int} {A B : Prop} (k : B) : if decide (V.int a = V.non) = true then A else B := by rw [if_neg (by simp)]; exact k
theorem ifN_b {a : Bool} {A B : Prop} (k : B) : if decide (V.bl a = V.non) = true then A else B := by rw [if_neg (by simp)]; exact k
theorem ifN_r {a : Addr} {A B : Prop} (k : B) : if decide (V.ref a = V.non) = true then A else B := by rw [if_neg (by simp)]; exact k
theorem ifN_n {A B : Prop} (k : A) : if decide (V.non = V.non) = true then A else B := by rw [if_pos (by simp)]; exact k
theorem ifM_s {a : List Nat} {A B : Prop} (k : A) : if (!decide (T a = V.non)) = true then A else B := by rw [if_pos (by simp)]; exact k
theorem ifM_i {a : Int} {A B : Prop} (k : A) : if (!decide (V.int a = V.non)) = true then A else B := by rw [if_pos (by simp)]; exact k
theorem ifM_b {a : Bool} {A B : Prop} (k : A) : if (!decide (V.bl a = V.non)) = true then A else B := by rw [if_pos (by simp)]; exact k
theorem ifM_r {a : Addr} {A B : Prop} (k : A) : if (!decide (V.ref a = V.non)) = true then A else B := by rw [if_pos (by simp)]; exact k
theorem ifM_n {A B : Prop} (k : B) : if (!decide (V.non = V.non)) = true then A else B := by rw [if_neg (by simp)]; exact k
theorem ifB_tt {A B : Prop} (k : A) : if decide (V.bl true = V.bl true) = true then A else B := by rw [if_pos (by simp)]; exact k
theorem ifB_ff {A B : Prop} (k : A) : if decide (V.bl false = V.bl false) = true then A else B := by rw [if_pos (by simp)]; exact k
theorem ifB_tf {A B : Prop} (k : B) : if decide (V.bl true = V.bl false) = true then A else B := by rw [if_neg (by simp)]; exact k
theorem ifB_ft {A B : Prop} (k : B) : if decide (V.bl false = V.bl true) = true then A else B := by rw [if_neg (by simp)]; exact k
theorem at_self {x : V} {H : Hp} {Q : VK} (k : Q (.bl true) H) : Q (.bl (decide (x = x))) H := by rw [decide_eq_true rfl]; exact k
theorem ifE_self {x : V} {A B : Prop} (k : A) : if decide (x = x) = true then A else B := by rw [if_pos (by simp)]; exact k
theorem ifD_self {x : V} {A B : Prop} (k : B) : if (!decide (x = x)) = true then A else B := by rw [if_neg (by simp)]; exact k
end Lv
/-! More steps: a comprehension over a range or a list, the heap a letter; enumerate over a list; a tuple's index; not in. -/
namespace Lv
open PySem PySem.Spec PyProof.Rows L2
/-- all but the list at D is as it was -/
def But (D : Addr) (H H1 : Hp) : Prop := ∀ b o, b ≠ D → H b = some o → H1 b = some o
theorem same_of_but {D : Addr} {H H1 H2 : Hp} (hD : H D = none) (s : Same H H1) (k : But D H1 H2) : Same H H2 := fun b o h => k b o (fun e => by rw [e, hD] at h; cases h) (s b o h)
section
variable {σ : L2.St} {H : Hp} {Q : VK} {K : PySem.W.Frag}
/-- what a comprehension over a range asks -/
def LcR (g : TG) (tt : TT) (te : TE) (vs : List Nat) (ws : List V) (σ : L2.St) (H : Hp) (Q : VK) : Prop := ∃ j : Int, ws = [.int j] ∧ -(2 ^ 62) ≤ j ∧ j < 2 ^ 62 ∧ ∀ D, H D = none → ∃ W : Nat → Nat → Hp → Prop, (∃ m, W 0 m (upd H D (.lst []))) ∧ ∀ i m H, W i m H →
  ((Itr 0 j.toNat).stop i H ∧ Q (.ref D) H) ∨ ((Itr 0 j.toNat).go i H ∧ ∃ Nx : Hp → Prop, (∀ H', Nx H' → ∃ m', m' < m ∧ W (i + 1) m' H') ∧ ∀ x H', (Itr 0 j.toNat).yld i H x H' → g x (wipe σ vs) H' fun σ2 H2 => wipe σ2 vs = wipe σ vs ∧ tt σ2 H2 fun b H3 =>
    if b = true then te σ2 H3 fun y H4 => ∃ acc, H4 D = some (.lst acc) ∧ acc.length < sizeLine ∧ Nx (upd H4 D (.lst (acc ++ [y]))) else Nx H3)
theorem w_lcR {ta : TA} {g : TG} {tt : TT} {te : TE} {vs : List Nat} (k : ta σ H fun ws H1 => LcR g tt te vs ws σ H1 Q) : tLc (iRng1 ta) g tt te vs σ H Q := k
/-- what holds between two turns: of the list at D, and what is made so far -/
def LcN (Pv : Addr → Nat → List V → Hp → Prop) (D : Addr) (i : Nat) (H1 : Hp) : Prop := ∃ acc, acc.length ≤ i ∧ H1 D = some (.lst acc) ∧ Pv D i acc H1
theorem lc_skip {Pv : Addr → Nat → List V → Hp → Prop} {D : Addr} {i : Nat} {acc : List V} {H1 : Hp} (hl : acc.length ≤ i) (h : H1 D = some (.lst acc)) (p : Pv D (i + 1) acc H1) : LcN Pv D (i + 1) H1 := ⟨acc, by omega, h, p⟩
theorem lc_keep {Pv : Addr → Nat → List V → Hp → Prop} {D : Addr} {i : Nat} {acc : List V} {y : V} {H1 : Hp} (hl : acc.length ≤ i) (hi : i < 1000000) (h : H1 D = some (.lst acc)) (p : ∀ H5, H5 D = some (.lst (acc ++ [y])) → But D H1 H5 → Pv D (i + 1) (acc ++ [y]) H5) :
    ∃ acc, H1 D = some (.lst acc) ∧ acc.length < sizeLine ∧ LcN Pv D (i + 1) (upd H1 D (.lst (acc ++ [y]))) :=
  ⟨acc, h, Nat.lt_of_le_of_lt hl (Nat.lt_trans hi (by decide)), acc ++ [y], by rw [List.length_append]; show acc.length + 1 ≤ i + 1; omega, upd_same, p _ upd_same fun b o n e => by rw [upd_ne n]; exact e⟩
/-- over range(n) -/
theorem lc_R {g : TG} {tt : TT} {te : TE} {vs : List Nat} {j : Int} (Pv : Addr → Nat → List V → Hp → Prop) (hj : 0 ≤ j) (hn : j < 1000000)
    (h0 : ∀ D H1, H D = none → Same H H1 → H1 D = some (.lst []) → Pv D 0 [] H1)
    (hs : ∀ D (i : Nat) acc H1, (i : Int) < j → acc.length ≤ i → H1 D = some (.lst acc) → Pv D i acc H1 → g (.int (0 + (i : Int))) (wipe σ vs) H1 fun σ2 H2 => wipe σ2 vs = wipe σ vs ∧ tt σ2 H2 fun b H3 =>
      if b = true then te σ2 H3 fun y H4 => ∃ acc, H4 D = some (.lst acc) ∧ acc.length < sizeLine ∧ LcN Pv D (i + 1) (upd H4 D (.lst (acc ++ [y]))) else LcN Pv D (i + 1) H3)
    (hd : ∀ D acc H1, acc.length ≤ j.toNat → H1 D = some (.lst acc) → Pv D j.toNat acc H1 → Q (.ref D) H1) : LcR g tt te vs [.int j] σ H Q := by
  refine ⟨j, rfl, by omega, by omega, fun D hD => ?_⟩
  refine ⟨fun i m H1 => m = j.toNat - i ∧ i ≤ j.toNat ∧ LcN Pv D i H1, ⟨j.toNat, by simp, Nat.zero_le _, [], Nat.le_refl _, upd_same, h0 D _ hD (same_new0 hD) upd_same⟩, ?_⟩
  rintro i m H1 ⟨rfl, hi, acc, ha, hD1, p⟩
  by_cases hlt : i < j.toNat
  · refine .inr ⟨hlt, LcN Pv D (i + 1), fun H' p' => ⟨j.toNat - (i + 1), by omega, rfl, hlt, p'⟩, fun x H' y => ?_⟩
    obtain ⟨e, y⟩ := y
    subst e y
    exact hs D i acc _ (by omega) ha hD1 p
  · have e : i = j.toNat := by omega
    subst e
    exact .inl ⟨Nat.le_refl _, hd D acc _ ha hD1 p⟩
/-- over a list -/
def LcL (K : PySem.W.Frag) (g : TG) (tt : TT) (te : TE) (vs : List Nat) (x : V) (σ : L2.St) (H : Hp) (Q : VK) : Prop := ∃ a, x = .ref a ∧ (∃ xs, SqL K H a xs) ∧ ∀ D, H D = none → ∃ W : Nat → Nat → Hp → Prop, (∃ m, W 0 m (upd H D (.lst []))) ∧ ∀ i m H, W i m H →
  ((Itl K a).stop i H ∧ Q (.ref D) H) ∨ ((Itl K a).go i H ∧ ∃ Nx : Hp → Prop, (∀ H', Nx H' → ∃ m', m' < m ∧ W (i + 1) m' H') ∧ ∀ x H', (Itl K a).yld i H x H' → g x (wipe σ vs) H' fun σ2 H2 => wipe σ2 vs = wipe σ vs ∧ tt σ2 H2 fun b H3 =>
    if b = true then te σ2 H3 fun y H4 => ∃ acc, H4 D = some (.lst acc) ∧ acc.length < sizeLine ∧ Nx (upd H4 D (.lst (acc ++ [y]))) else Nx H3)
theorem w_lcL {te0 : TE} {g : TG} {tt : TT} {te : TE} {vs : List Nat} (k : te0 σ H fun x H1 => LcL K g tt te vs x σ H1 Q) : tLc (iList K te0) g tt te vs σ H Q := k
theorem lc_L {g : TG} {tt : TT} {te : TE} {vs : List Nat} {a : Addr} {xs : List V} (Pv : Addr → Nat → List V → Hp → Prop) (ha : SqL K H a xs)
    (h0 : ∀ D H1, H D = none → Same H H1 → H1 D = some (.lst []) → Pv D 0 [] H1)
    (hl : ∀ D i acc H1, i ≤ xs.length → Pv D i acc H1 → SqL K H1 a xs)
    (hs : ∀ D (i : Nat) x acc H1, xs[i]? = some x → acc.length ≤ i → H1 D = some (.lst acc) → Pv D i acc H1 → g x (wipe σ vs) H1 fun σ2 H2 => wipe σ2 vs = wipe σ vs ∧ tt σ2 H2 fun b H3 =>
      if b = true then te σ2 H3 fun y H4 => ∃ acc, H4 D = some (.lst acc) ∧ acc.length < sizeLine ∧ LcN Pv D (i + 1) (upd H4 D (.lst (acc ++ [y]))) else LcN Pv D (i + 1) H3)
    (hd : ∀ D acc H1, acc.length ≤ xs.length → H1 D = some (.lst acc) → Pv D xs.length acc H1 → Q (.ref D) H1) : LcL K g tt te vs (.ref a) σ H Q := by
  refine ⟨a, rfl, ⟨xs, ha⟩, fun D hD => ?_⟩
  refine ⟨fun i m H1 => m = xs.length - i ∧ i ≤ xs.length ∧ LcN Pv D i H1, ⟨xs.length, by simp, Nat.zero_le _, [], Nat.le_refl _, upd_same, h0 D _ hD (same_new0 hD) upd_same⟩, ?_⟩
  rintro i m H1 ⟨rfl, hi, acc, hac, hD1, p⟩
  have q := hl D i acc H1 hi p
  by_cases hlt : i < xs.length
  · refine .inr ⟨⟨xs, xs[i], q, List.getElem?_eq_getElem hlt⟩, LcN Pv D (i + 1), fun H' p' => ⟨xs.length - (i + 1), by omega, rfl, hlt, p'⟩, fun x H' y => ?_⟩
    obtain ⟨e, y⟩ := y
    subst e
    exact hs D i x acc _ (y xs q) hac hD1 p
  · have e : i = xs.length := by omega
    subst e
    exact .inl ⟨⟨xs, q, Nat.le_refl _⟩, hd D acc _ hac hD1 p⟩
/-- a comprehension without a test -/
theorem w_yes {G : Bool → Hp → Prop} (k : G true H) : tYes σ H G := k
/-! truth of a value -/
def rTru (K : PySem.W.Frag) (x : V) (H : Hp) (Q : Bool → Hp → Prop) : Prop := ∃ k, TruV K x H k ∧ Q k H
def tTruV (K : PySem.W.Frag) (ta : TE) : TT := fun σ H Q => ta σ H fun x H' => rTru K x H' Q
theorem pt_tru {X : Cx} {a : Expr} {ta : TE} (ha : PE X a ta) (he : ∀ whole, isTrue a X.env whole = (do let v ← whole; standAt a.pos; holding [v] (truthy v)) := by intro _; rfl) : PT X a (tTruV X.K ta) := pt_truth ha he
theorem w_tru {ta : TE} {G : Bool → Hp → Prop} (k : ta σ H fun x H' => rTru K x H' G) : tTruV K ta σ H G := k
theorem w_truL {p : Addr} {xs : List V} {G : Bool → Hp → Prop} (h : SqL K H p xs) (k1 : xs ≠ [] → G true H) (k2 : xs = [] → G false H) : rTru K (.ref p) H G := by
  refine ⟨!xs.isEmpty, .inl ⟨xs, h, rfl⟩, ?_⟩
  cases xs with
  | nil => exact k2 rfl
  | cons x xs => exact k1 (List.cons_ne_nil _ _)
theorem w_truT {p : Addr} {xs : List V} {G : Bool → Hp → Prop} (h : SqT K H p xs) (k1 : xs ≠ [] → G true H) (k2 : xs = [] → G false H) : rTru K (.ref p) H G := by
  refine ⟨!xs.isEmpty, .inr (.inl ⟨xs, h, rfl⟩), ?_⟩
  cases xs with
  | nil => exact k2 rfl
  | cons x xs => exact k1 (List.cons_ne_nil _ _)
/-! is None -/
def rIsN : R2 := fun x y H Q => y = .non ∧ Q (.bl (decide (x = .non))) H
theorem op_isN {X : Cx} : OpR X (compareOp .Is) rIsN := L2.op_isN
theorem w_isN {x : V} (k : Q (.bl (decide (x = .non))) H) : rIsN x .non H Q := ⟨rfl, k⟩
def rNotN : R2 := fun x y H Q => y = .non ∧ Q (.bl (!decide (x = .non))) H
theorem op_notN {X : Cx} : OpR X (compareOp .IsNot) rNotN := L2.op_notN
theorem w_notN {x : V} (k : Q (.bl (!decide (x = .non))) H) : rNotN x .non H Q := ⟨rfl, k⟩
/-! not in -/
theorem w_ninL {a : List Nat} {p : Addr} {l : List (List Nat)} (h : SqL K H p (l.map T)) (k : Q (.bl (!decide (a ∈ l))) H) : rIn K true (T a) (.ref p) H Q :=
  ⟨p, _, rfl, .inl h, rfl, flat_T l, by rw [if_pos rfl, inV_T]; exact k⟩
theorem w_ninT {a : List Nat} {p : Addr} {l : List (List Nat)} (h : SqT K H p (l.map T)) (k : Q (.bl (!decide (a ∈ l))) H) : rIn K true (T a) (.ref p) H Q :=
  ⟨p, _, rfl, .inr h, rfl, flat_T l, by rw [if_pos rfl, inV_T]; exact k⟩
/-! tuple(list): the new tuple's object is known (it has no dict) -/
def FT (H : Hp) (p : Addr) (xs : List V) : Prop := ∃ o : Obj, o.dict = none ∧ H p = some (.frz o (.tup xs))
theorem FT.sq {p : Addr} {xs : List V} (h : FT H p xs) : SqT K H p xs := by
  obtain ⟨o, _, h⟩ := h
  exact .inl (.inr ⟨o, h⟩)
theorem FT.same {p : Addr} {xs : List V} {H1 : Hp} (h : FT H p xs) (s : Same H H1) : FT H1 p xs := by
  obtain ⟨o, e, h⟩ := h
  exact ⟨o, e, s _ _ h⟩
theorem FT.but {p D : Addr} {xs ys : List V} {H1 : Hp} (h : FT H p xs) (hD : H D = some (.lst ys)) (k : ∀ b o, b ≠ D → H b = some o → H1 b = some o) : FT H1 p xs := by
  obtain ⟨o, e, h⟩ := h
  exact ⟨o, e, k _ _ (fun z => by rw [z, hD] at h; cases h) h⟩
def rTupOf (K : PySem.W.Frag) : List V → Hp → VK → Prop := fun xs H Q => ∃ p ys, xs = [.ref p] ∧ SqL K H p ys ∧ ∀ l o, H l = none → o.dict = none → Q (.ref l) (upd H l (.frz o (.tup ys)))
theorem call_tupleOf {X : Cx} : CallR X (.type "tuple") (rTupOf X.K) := by
  intro pins s σ H xs us Q I r h
  obtain ⟨p, ys, rfl, hq, q⟩ := h
  obtain ⟨u, rfl, rx⟩ := vals1 r
  cases rx
  obtain ⟨its, r', pl, hz⟩ := I.list hq
  have hlen := r'.length
  refine call_tuple_list pl.isList (fun h' kp => ?_) (by simp only [List.size_toArray] <;> omega)
  have I1 : Inv X pins σ H { s with heap := h' } := I.kept (t' := s.toks) kp
  have I2 : Inv X pins σ (upd H h'.objs.size (.frz { cls := .type "tuple", data := .seq its.toArray } (.tup ys))) { s with heap := h'.push { cls := .type "tuple", data := .seq its.toArray } } :=
    I1.laid (t' := s.toks) (fun b o e => Heap.get?_push_of_some _ e) (Nat.le_refl _) (show ObjOk X.prog X.w _ _ _ (.frz _ (.tup ys)) from ⟨Heap.get?_push_size _ rfl, hz, its, r', IsTup.new _ _⟩)
  exact ⟨.ref h'.objs.size, _, I2, rfl, q _ _ (I1.hok.fresh (Nat.le_refl _)) rfl⟩
theorem w_tupOf {p : Addr} {ys : List V} (h : SqL K H p ys) (k : ∀ l H1, H l = none → Same H H1 → FT H1 l ys → Q (.ref l) H1) : rTupOf K [.ref p] H Q :=
  ⟨p, ys, rfl, h, fun l o hl e => k l _ hl (same_new0 hl) ⟨o, e, upd_same⟩⟩
/-! a tuple's own method -/
def tBMT (r : V → List V → Hp → VK → Prop) (to : TE) (t : TA) : TE := fun σ H Q => to σ H fun x H1 => (∃ p xs, x = .ref p ∧ FT H1 p xs) ∧ t σ H1 fun xs H2 => r x xs H2 Q
theorem pe_bmT {X : Cx} {o e : Expr} {es : List Expr} {name : Str} {id : String} {r : V → List V → Hp → VK → Prop} {to : TE} {t : TA} {apos cpos : Pos} (pa : PlainAttrs "tuple") (slot : Slot "tuple" name id) (hty : typeOf (.builtin id) = pure (.type "method_descriptor")) (hm : MtR X id r) (ho : PE X o to) (ha : PA X (e :: es) t)
    (hbase : attributeBase o name X.env (eval o X.env) = eval o X.env := by rfl)
    (hfew : ((backTo cpos (starEach (e :: es) X.env)).all (fun x => !x.1) && (backToKw cpos (keywordEach [] X.env)).all (fun x => x.1.isSome)
      && decide ((e :: es).length + ([] : List Keyword).length + (if ([] : List Keyword).isEmpty then 0 else 1) < 30)) = true := by rfl)
    (hline : (apos.endLine == cpos.line) = true := by rfl) (hs : starEach (e :: es) X.env = (false, eval e X.env) :: starEach es X.env := by rfl) (hplain : (backTo cpos (starEach es X.env)).any (·.1) = false := by rfl) :
    PE X (.Call (.Attribute o name apos) (e :: es) [] cpos) (tBMT r to t) := by
  refine ⟨fun pins s σ H Q I h => ?_⟩
  refine wpAny_Call_method_late hbase hfew hline rfl (thn (ho.run pins s σ H _ I h) fun v s1 ⟨x, H1, I1, r1, ty, q1⟩ => ?_)
  obtain ⟨p, ys, rfl, o, hd, hp⟩ := ty
  cases r1
  obtain ⟨g, hz, its, rv, o2, g2, hc, n, hda⟩ := (show ObjOk X.prog X.w H1 s1.heap p (.frz o (.tup ys)) from I1.hok p _ hp)
  have eo : o2 = o := Option.some.inj (g2.symm.trans g)
  subst eo
  have h1 : s1.TypeIs (.ref p) "tuple" := ⟨o2, g, hc⟩
  have h2 : ∀ a, Value.ref p = .ref a → ∃ ob, s1.heap.get? a = some ob ∧ ob.dict = none := fun a e => by cases e; exact ⟨o2, g, hd⟩
  refine ⟨"tuple", id, pa, slot, hty, h1, h2, ?_⟩
  have hA := ha.run cpos pins s1 σ H1 _ I1 q1
  rw [hs] at hA ⊢
  refine Calls.callWith_builtin (by show (false || (backTo cpos (starEach es X.env)).any (·.1)) = false; rw [hplain] <;> rfl) (Calls.evalArgs_plain ?_)
  exact thn hA fun us s2 ⟨vs, H2, I2, r2, q2⟩ => hm pins s2 σ H2 (V.ref p) vs (.ref p) us Q I2 rfl r2 q2
theorem w_bmT {r : V → List V → Hp → VK → Prop} {to : TE} {t : TA} {σ : L2.St} (k : to σ H fun x H1 => (∃ p xs, x = .ref p ∧ FT H1 p xs) ∧ t σ H1 fun xs H2 => r x xs H2 Q) : tBMT r to t σ H Q := k
/-! t.index(x) -/
def rTupIx (K : PySem.W.Frag) : V → List V → Hp → VK → Prop := fun x xs H Q => ∃ p, ∃ ys : List Str, ∃ z j, x = .ref p ∧ xs = [.str z] ∧ SqT K H p (ys.map V.str) ∧ ys[j]? = some z ∧ (∀ m, m < j → ys[m]? ≠ some z) ∧ Q (.int (j : Nat)) H
theorem mt_tupIx {X : Cx} : MtR X "tuple.index" (rTupIx X.K) := L2.mt_tup_index
def S (a : List Nat) : Str := ⟨a.toArray⟩
theorem S_inj {a b : List Nat} (h : S a = S b) : a = b := T_inj (congrArg V.str h)
theorem map_T_S (l : List (List Nat)) : l.map T = (l.map S).map V.str := by rw [List.map_map]; rfl
theorem w_tupIx {a : List Nat} {p : Addr} {l : List (List Nat)} (h : SqT K H p (l.map T)) (ha : a ∈ l) (k : Q (.int ((l.idxOf a : Nat) : Int)) H) : rTupIx K (.ref p) [T a] H Q := by
  have hlt : l.idxOf a < l.length := List.idxOf_lt_length_of_mem ha
  refine ⟨p, l.map S, S a, l.idxOf a, rfl, rfl, by rw [← map_T_S]; exact h, ?_, fun m hm e => ?_, k⟩
  · rw [List.getElem?_map, List.getElem?_eq_getElem hlt, List.getElem_idxOf hlt]; rfl
  · have hm2 : m < l.length := Nat.lt_trans hm hlt
    rw [List.getElem?_map, List.getElem?_eq_getElem hm2] at e
    have e2 : l[m] = a := S_inj (Option.some.inj e)
    have z := List.not_of_lt_findIdx (p := (· == a)) (xs := l) (i := m) hm
    rw [e2] at z
    simp at z
def rAbs : List V → Hp → VK → Prop := fun xs H Q => ∃ i, xs = [.int i] ∧ Q (.int (if i < 0 then -i else i)) H
theorem call_absI {X : Cx} : CallR X (.builtin "abs") rAbs := L2.call_abs
theorem w_abs {a : Int} (k : Q (.int (if a < 0 then -a else a)) H) : rAbs [.int a] H Q := ⟨a, rfl, k⟩
theorem w_neg {f : Int → V} {a : Int} (k : Q (f a) H) : rU f (.int a) H Q := ⟨a, rfl, k⟩
def rLtS : R2 := fun x y H Q => ∃ i j, x = .str i ∧ y = .str j ∧ Q (.bl (decide (i.cps.toList < j.cps.toList))) H
theorem op_ltS {X : Cx} : OpR X (compareOp .Lt) rLtS := L2.op_lt_str
theorem w_ltS {a b : List Nat} (k : Q (.bl (decide (a < b))) H) : rLtS (T a) (T b) H Q := ⟨_, _, rfl, rfl, k⟩
def rLeT : R2 := fun x y H Q => ∃ i j, x = .str i ∧ y = .str j ∧ Q (.bl (!decide (j.cps.toList < i.cps.toList))) H
theorem op_leT {X : Cx} : OpR X (compareOp .LtE) rLeT := L2.op_le_str
theorem w_leS {a b : List Nat} (k : Q (.bl (!decide (b < a))) H) : rLeT (T a) (T b) H Q := ⟨_, _, rfl, rfl, k⟩
theorem w_all {p : Addr} {bs : List Bool} (h : SqL K H p (bs.map V.bl)) (k : Q (.bl (bs.all id)) H) : L2.rAll K [.ref p] H Q := ⟨p, bs, rfl, h, k⟩
end
/-! for i, x in enumerate(xs), a list -/
section
variable {K : PySem.W.Frag} {ta : TA} {g : TG} {tb : TS} {D : Ends} {σ : L2.St} {H : Hp}
def ForEl (K : PySem.W.Frag) (g : TG) (tb : TS) (vs : List V) (D : Ends) (σ : L2.St) (H : Hp) : Prop := ∃ a xs, vs = [.ref a] ∧ SqL K H a xs ∧ ∃ W : Nat → Nat → L2.St → Hp → Prop, (∃ m, W 0 m σ H) ∧ ∀ i m σ H, W i m σ H →
  ((Ite K a).stop i H ∧ D.nx σ H) ∨ ((Ite K a).go i H ∧ ∃ N : L2.St → Hp → Prop, (∀ σ' H', N σ' H' → ∃ m', m' < m ∧ W (i + 1) m' σ' H') ∧ ∀ x H', (Ite K a).yld i H x H' → g x σ H' fun σ2 H2 => tb { D with nx := N, ct := N, bk := D.nx } σ2 H2)
theorem w_forEl (k : ta σ H fun vs H1 => ForEl K g tb vs D σ H1) : tFor (iEnum K ta) g tb D σ H := k
theorem for_El {a : Addr} {xs : List V} (Pv : Nat → L2.St → Hp → Prop) (h0 : Pv 0 σ H) (hl : ∀ i σ H, i ≤ xs.length → Pv i σ H → SqL K H a xs)
    (hs : ∀ i x σ H p H', xs[i]? = some x → Pv i σ H → H p = none → Same H H' → H' p = some (.tup [.int (i : Int), x]) → g (.ref p) σ H' fun σ2 H2 => tb { D with nx := Pv (i + 1), ct := Pv (i + 1), bk := D.nx } σ2 H2)
    (hd : ∀ σ H, Pv xs.length σ H → D.nx σ H) : ForEl K g tb [.ref a] D σ H := by
  refine ⟨a, xs, rfl, hl 0 σ H (Nat.zero_le _) h0, fun i m σ H => m = xs.length - i ∧ i ≤ xs.length ∧ Pv i σ H, ⟨xs.length, by simp, Nat.zero_le _, h0⟩, ?_⟩
  rintro i m σ H ⟨rfl, hi, p⟩
  by_cases hlt : i < xs.length
  · refine .inr ⟨⟨xs, xs[i], hl i σ H hi p, List.getElem?_eq_getElem hlt⟩, Pv (i + 1), fun σ' H' p' => ⟨xs.length - (i + 1), by omega, rfl, hlt, p'⟩, fun x H' y => ?_⟩
    obtain ⟨q, z, rfl, hq, rfl, hz⟩ := y
    exact hs i z σ H q _ (hz xs (hl i σ H hi p)) p hq (same_new hq) upd_same
  · have e : i = xs.length := by omega
    subst e
    exact .inl ⟨⟨xs, hl _ σ H hi p, Nat.le_refl _⟩, hd σ H p⟩
end
end Lv
namespace Lv
section
open PySem PySem.Spec PyProof.Rows L2
open TL (numL tl_num numL_digits numL_ne numL_val numL_len numL_lt numL_step)
/-! ### codes -/
def cds (s : String) : List Nat := (Str.ofString s).cps.toList
abbrev aJ : List Nat := cds "abcdefghijklmnopqrstuvwxyzABCDEFGHIJKLMNOPQRSTUVWXYZ0123456789"
abbrev aLow : List Nat := cds "abcdefghijklmnopqrstuvwxyz"
abbrev aUp : List Nat := cds "ABCDEFGHIJKLMNOPQRSTUVWXYZ"
abbrev aDig : List Nat := cds "0123456789"
def WL : List (List Nat) := ["method", "var", "end", "give", "fail", "if", "then", "else", "while", "do", "try", "catch", "keep", "always", "none", "true", "false", "self", "super", "new", "not", "and", "or"].map cds
theorem len_aJ : aJ.length = 62 := by decide +kernel
theorem len_aLow : aLow.length = 26 := by decide +kernel
theorem len_aUp : aUp.length = 26 := by decide +kernel
theorem WL_len : ∀ x ∈ WL, x.length ≤ 6 := by decide +kernel
theorem WL_one : ∀ x ∈ WL, ¬ (x ++ [49]) ∈ WL := by decide +kernel
theorem WL_form : ∀ x ∈ WL, ∃ c r, x = c :: r ∧ c ∈ aLow ∧ (∀ d ∈ r, d ∈ aJ) := by
  have h : ∀ x ∈ WL, x.headD 0 ∈ aLow ∧ (∀ d ∈ x.tail, d ∈ aJ) ∧ x ≠ [] := by decide +kernel
  intro x hx
  obtain ⟨h1, h2, h3⟩ := h x hx
  cases x with
  | nil => exact absurd rfl h3
  | cons c r => exact ⟨c, r, rfl, h1, h2⟩
theorem at_mod {l : List Nat} {n : Nat} (hl : l.length = n) (h0 : 0 < n) (x : Int) : ∃ c, c ∈ l ∧ atI l (x.fmod (n : Int)) = some c := by
  have b0 := Int.fmod_nonneg_of_pos x (show (0 : Int) < n by omega)
  have b1 := Int.fmod_lt_of_pos x (show (0 : Int) < n by omega)
  obtain ⟨j, e⟩ : ∃ j : Nat, x.fmod (n : Int) = (j : Int) := ⟨(x.fmod (n : Int)).toNat, by omega⟩
  have hj : j < l.length := by omega
  refine ⟨l[j], List.getElem_mem hj, ?_⟩
  rw [e]
  exact atI_nat (List.getElem?_eq_getElem hj)
theorem at_lt {l : List Nat} {x : Int} (h0 : 0 ≤ x) (h1 : x < l.length) : ∃ c, c ∈ l ∧ atI l x = some c := by
  obtain ⟨j, rfl⟩ : ∃ j : Nat, x = (j : Int) := ⟨x.toNat, by omega⟩
  have hj : j < l.length := by omega
  exact ⟨l[j], List.getElem_mem hj, atI_nat (List.getElem?_eq_getElem hj)⟩
theorem cut_mem {a : List Nat} {lo hi : Option Int} {c : Nat} (h : c ∈ cut a lo hi) : c ∈ a := List.mem_of_mem_drop (List.mem_of_mem_take h)
theorem cut_len (a : List Nat) (lo hi : Option Int) : (cut a lo hi).length ≤ a.length := by
  unfold cut
  rw [List.length_take, List.length_drop]
  omega
theorem cut_to (a : List Nat) (k : Nat) : cut a none (some (k : Int)) = a.take k := by
  unfold cut
  rw [HT.sIx_none, HT.sIx_nat, List.drop_zero, Nat.sub_zero]
  by_cases h : k ≤ a.length
  · rw [Nat.min_eq_left h]
  · rw [Nat.min_eq_right (by omega), List.take_of_length_le (Nat.le_refl _), List.take_of_length_le (by omega)]
theorem cut_mid (a : List Nat) {i j : Nat} (hj : j ≤ a.length) : cut a (some (i : Int)) (some (j : Int)) = (a.drop i).take (j - i) := by
  unfold cut
  rw [HT.sIx_nat, HT.sIx_nat, Nat.min_eq_left hj]
  by_cases h : i ≤ a.length
  · rw [Nat.min_eq_left h]
  · rw [Nat.min_eq_right (by omega)]
    have e1 : j - a.length = 0 := by omega
    have e2 : j - i = 0 := by omega
    rw [e1, e2]; rfl
theorem mem_rep {n : Nat} {a : List Nat} {c : Nat} (h : c ∈ (List.replicate n a).flatten) : c ∈ a := by
  obtain ⟨l, h1, h2⟩ := List.mem_flatten.mp h
  rw [(List.mem_replicate.mp h1).2] at h2
  exact h2
theorem len_rep (n : Nat) (a : List Nat) : (List.replicate n a).flatten.length = n * a.length := by simp
theorem rep_one (n c : Nat) : (List.replicate n [c]).flatten = List.replicate n c := by
  induction n with
  | zero => rfl
  | succ n ih => rw [List.replicate_succ, List.flatten_cons, ih, List.replicate_succ]; rfl

/-! ### the tokens of a text, as a function of its codes -/
def MLs : List (List Nat) := [":=", "<=", "(", ")", "{", "}", ",", ";", ".", "|", "=", "<", "+", "-", "*", "/"].map cds
theorem len_MLs : MLs.length = 16 := by decide +kernel
theorem len_WL : WL.length = 23 := by decide +kernel
def letC (c : Nat) : Bool := decide (c ∈ aJ)
def digC (c : Nat) : Bool := decide (48 ≤ c) && decide (c ≤ 57)
def srcC (c : Nat) : Bool := decide (32 ≤ c) && decide (c ≤ 126) && !decide (c = 37)
theorem aJ_split : aJ = aLow ++ aUp ++ aDig := by decide +kernel
theorem let_or (c : Nat) : letC c = (decide (c ∈ aLow) || (decide (c ∈ aUp) || decide (c ∈ aDig))) := by
  unfold letC
  rw [aJ_split]
  simp only [List.mem_append, Bool.decide_or, Bool.or_assoc]
theorem aJ_ascii : ∀ c ∈ aJ, c < 128 := by decide +kernel
theorem dig_iff (c : Nat) : decide (c ∈ aDig) = digC c := by
  have e : aDig = [48, 49, 50, 51, 52, 53, 54, 55, 56, 57] := by decide +kernel
  unfold digC
  rw [e, Bool.eq_iff_iff, Bool.and_eq_true, decide_eq_true_iff, decide_eq_true_iff, decide_eq_true_iff]
  simp only [List.mem_cons, List.not_mem_nil, or_false]
  omega
theorem dig_let {c : Nat} (h : digC c = true) : letC c = true := by
  rw [let_or, dig_iff, h]; simp
/-- kind, value, length -/
def numRun (a : List Nat) : Option Nat := if (a.all digC && !(decide (a.headD 0 = 48) && decide (1 < a.length)) && decide (a.length ≤ 10) && decide (NumText.digitsVal a ≤ 1000000000)) = true then some (NumText.digitsVal a) else none
def ofRun (a : List Nat) : Option (List Nat × V) :=
  if digC (a.headD 0) = true then (numRun a).map fun n => (cds "number", .int (n : Int))
  else if 20 < a.length then none
  else if a.headD 0 ∈ aUp then some (cds "class", T a)
  else if a ∈ WL then some (cds "word", T a)
  else some (cds "name", T a)
def upQ (r : List Nat) : List Nat := r.takeWhile (fun x => x != 39)
def endTx (r : List Nat) : Option (List Nat) := if (decide ((upQ r).length < r.length) && decide ((upQ r).length ≤ 200) && (upQ r).all srcC) = true then some (upQ r) else none
def one : List Nat → Option (List Nat × V × Nat)
  | [] => none
  | c :: r => if c = 39 then (endTx r).map fun b => (cds "text", T b, b.length + 2)
    else if letC c = true then (ofRun ((c :: r).takeWhile letC)).map fun p => (p.1, p.2, ((c :: r).takeWhile letC).length)
    else (MLs.find? fun m => m.isPrefixOf (c :: r)).map fun m => (cds "mark", T m, m.length)
theorem one_cons (c : Nat) (r : List Nat) : one (c :: r) = if c = 39 then (endTx r).map fun b => (cds "text", T b, b.length + 2)
    else if letC c = true then (ofRun ((c :: r).takeWhile letC)).map fun p => (p.1, p.2, ((c :: r).takeWhile letC).length)
    else (MLs.find? fun m => m.isPrefixOf (c :: r)).map fun m => (cds "mark", T m, m.length) := rfl
abbrev Tk := List Nat × V × Nat
def lex (pos : Nat) : List Nat → List Tk × Option Nat
  | [] => ([], none)
  | c :: r => if c = 32 then lex (pos + 1) r
    else match one (c :: r) with
      | none => ([], some pos)
      | some t => let q := lex (pos + t.2.2) (r.drop (t.2.2 - 1)); ((t.1, t.2.1, pos) :: q.1, q.2)
termination_by l => l.length
decreasing_by
  · simp
  · simp only [List.length_drop, List.length_cons]; omega
theorem lex_nil (pos : Nat) : lex pos [] = ([], none) := by rw [lex]
theorem lex_sp (pos : Nat) (r : List Nat) : lex pos (32 :: r) = lex (pos + 1) r := by rw [lex, if_pos rfl]
theorem lex_wrong {pos c : Nat} {r : List Nat} (h : c ≠ 32) (e : one (c :: r) = none) : lex pos (c :: r) = ([], some pos) := by rw [lex, if_neg h, e]
theorem lex_tok {pos c n : Nat} {r k : List Nat} {v : V} (h : c ≠ 32) (e : one (c :: r) = some (k, v, n)) : lex pos (c :: r) = ((k, v, pos) :: (lex (pos + n) (r.drop (n - 1))).1, (lex (pos + n) (r.drop (n - 1))).2) := by rw [lex, if_neg h, e]
theorem MLs_pos : ∀ m ∈ MLs, 1 ≤ m.length := by decide +kernel
theorem one_pos {l k : List Nat} {v : V} {n : Nat} (h : one l = some (k, v, n)) : 1 ≤ n ∧ n ≤ l.length := by
  cases l with
  | nil => cases h
  | cons c r =>
    rw [one_cons] at h
    by_cases hc : c = 39
    · rw [if_pos hc] at h
      cases e : endTx r with
      | none => rw [e] at h; cases h
      | some b =>
        rw [e] at h
        injection h with h
        injection h with _ h
        injection h with _ h
        unfold endTx at e
        split at e
        · rename_i hb
          cases e
          rw [Bool.and_eq_true, Bool.and_eq_true, decide_eq_true_iff] at hb
          have := hb.1.1
          rw [List.length_cons]
          omega
        · cases e
    · rw [if_neg hc] at h
      by_cases hl : letC c = true
      · rw [if_pos hl] at h
        cases e : ofRun ((c :: r).takeWhile letC) with
        | none => rw [e] at h; cases h
        | some p =>
          rw [e] at h
          injection h with h
          injection h with _ h
          injection h with _ h
          subst h
          refine ⟨?_, tw_le _⟩
          rw [List.takeWhile_cons, if_pos hl]
          simp
      · rw [if_neg hl] at h
        cases e : MLs.find? fun m => m.isPrefixOf (c :: r) with
        | none => rw [e] at h; cases h
        | some m =>
          rw [e] at h
          injection h with h
          injection h with _ h
          injection h with _ h
          subst h
          refine ⟨MLs_pos m (List.mem_of_find?_eq_some e), ?_⟩
          have := List.find?_some e
          exact (List.isPrefixOf_iff_prefix.mp this).length_le
end
section
open PySem PySem.Spec PyProof.Rows L2
def topS (i : Nat) : Stmt := PySem.Challenge.pw_livestead_k21_operators.main.body.getD i (.Pass ⟨0, 0, 0, 0⟩)
structure Bn (mg : Str → Option Value) : Prop where
  n_len : mg "len" = none
  n_int : mg "int" = none
  n_list : mg "list" = none
  n_range : mg "range" = none
  n_max : mg "max" = none
  n_str : mg "str" = none
  n_isinstance : mg "isinstance" = none
  n_bool : mg "bool" = none
  n_ord : mg "ord" = none
  n_tuple : mg "tuple" = none
  n_enumerate : mg "enumerate" = none
  n_min : mg "min" = none
  n_abs : mg "abs" = none
  n_all : mg "all" = none
  n_any : mg "any" = none
  n_sorted : mg "sorted" = none
  n_sum : mg "sum" = none

end
section
open PySem PySem.Spec PyProof.Rows L2
open C8 (Cal cal0 pe_c pe_gc pss_cut tCut)
local macro_rules | `(tactic| walk_at "r1") => `(tactic| first
  | with_reducible refine w_seq ?_
  | with_reducible refine w_next ?_
  | with_reducible refine w_var (by with_unfolding_all exact rfl) ?_
  | with_reducible refine w_asg ?_
  | with_reducible refine w_gname ?_
  | with_reducible refine w_ifS ?_
  | with_reducible refine w_test ?_
  | with_reducible refine w_tB ?_
  | with_reducible refine w_op ?_
  | with_reducible refine w_un ?_
  | with_reducible refine w_var (by with_unfolding_all exact rfl) ?_
  | with_reducible refine w_cT ?_
  | with_reducible refine w_str ?_
  | with_reducible refine w_c ?_
  | with_reducible refine w_i0 ?_
  | with_reducible refine w_intI ?_
  | with_reducible refine w_intB ?_
  | with_reducible refine w_cb ?_
  | with_reducible refine w_cons ?_
  | with_reducible refine w_nil ?_
  | with_reducible refine w_call ?_
  | with_reducible refine w_ret ?_
  | with_reducible refine w_retN ?_
  | with_reducible refine w_drop ?_
  | with_reducible refine w_gsub ?_
  | with_reducible refine w_sl ?_
  | with_reducible refine w_part ?_
  | with_reducible refine w_nopart ?_
  | with_reducible refine w_lst ?_
  | with_reducible refine w_tup ?_
  | with_reducible refine w_bm ?_
  | with_reducible refine w_bm0 ?_
  | with_reducible refine w_bmT ?_
  | with_reducible refine w_and ?_
  | with_reducible refine w_or ?_
  | with_reducible refine w_not ?_
  | with_reducible refine w_andV ?_
  | with_reducible refine w_orV ?_
  | with_reducible refine w_notV ?_
  | with_reducible refine w_inC ?_
  | with_reducible refine w_ninC ?_
  | with_reducible refine w_ord ?_
  | with_reducible refine w_max ?_
  | with_reducible refine w_ifE ?_
  | with_reducible refine w_forR ?_
  | with_reducible refine w_forL ?_
  | with_reducible refine w_forT ?_
  | with_reducible refine w_forS ?_
  | with_reducible refine w_forEl ?_
  | with_reducible refine w_lcR ?_
  | with_reducible refine w_lcL ?_
  | with_reducible refine w_yes ?_
  | with_reducible refine w_tru ?_
  | with_reducible refine w_isN ?_
  | with_reducible refine w_notN ?_
  | with_reducible refine isi_s_tuple ?_
  | with_reducible refine isi_s_bool ?_
  | with_reducible refine isi_s_int ?_
  | with_reducible refine isi_s_str ?_
  | with_reducible refine isi_i_tuple ?_
  | with_reducible refine isi_i_bool ?_
  | with_reducible refine isi_i_int ?_
  | with_reducible refine isi_i_str ?_
  | with_reducible refine isi_b_tuple ?_
  | with_reducible refine isi_b_bool ?_
  | with_reducible refine isi_b_int ?_
  | with_reducible refine isi_b_str ?_
  | with_reducible refine isi_n_tuple ?_
  | with_reducible refine isi_n_bool ?_
  | with_reducible refine isi_n_int ?_
  | with_reducible refine isi_n_str ?_
  | ((with_reducible refine isi_t_tuple ?hSq ?_); (case hSq => exact ⟨_, by assumption⟩))
  | ((with_reducible refine isi_t_bool ?hSq ?_); (case hSq => exact ⟨_, by assumption⟩))
  | ((with_reducible refine isi_t_int ?hSq ?_); (case hSq => exact ⟨_, by assumption⟩))
  | ((with_reducible refine isi_t_str ?hSq ?_); (case hSq => exact ⟨_, by assumption⟩))
  | with_reducible refine ifB_tt ?_
  | with_reducible refine ifB_ff ?_
  | with_reducible refine ifB_tf ?_
  | with_reducible refine ifB_ft ?_
  | with_reducible refine ifN_s ?_
  | with_reducible refine ifN_i ?_
  | with_reducible refine ifN_b ?_
  | with_reducible refine ifN_r ?_
  | with_reducible refine ifN_n ?_
  | with_reducible refine ifM_s ?_
  | with_reducible refine ifM_i ?_
  | with_reducible refine ifM_b ?_
  | with_reducible refine ifM_r ?_
  | with_reducible refine ifM_n ?_
  | ((with_reducible show rLenL _ [V.ref _] _ _); first | refine w_lenL (SqL.of (by assumption)) ?_ | refine w_lenL (by assumption) ?_ | refine w_lenT (by assumption) ?_)
  | ((with_reducible show rIxL _ (V.ref _) (V.int _) _ _); refine w_ixL (SqL.of (by assumption)) (by with_unfolding_all exact rfl) ?_)
  | ((with_reducible show rIxT _ (V.ref _) (V.int _) _ _); refine w_ixT (by assumption) (by with_unfolding_all exact rfl) ?_)
  | with_reducible refine w_abs ?_
  | with_reducible refine w_neg ?_
  | with_reducible refine w_ltS ?_
  | with_reducible refine w_leS ?_
  | with_reducible refine w_eq (by with_unfolding_all exact rfl) ?_
  | with_reducible refine w_ne (by with_unfolding_all exact rfl) ?_
  | with_reducible refine L2.iteF ?_
  | with_reducible refine L2.iteT ?_
  | with_reducible refine w_nt ?_
  | with_reducible refine w_nf ?_
  | with_reducible refine ex_int ?_
  | with_reducible refine ex_bl ?_)
local macro_rules | `(tactic| walk_at "rd") => `(tactic| repeat walk_at "r1")
local macro_rules | `(tactic| walk_at "up") => `(tactic| (refine ⟨_, _, rfl, .inl (.inl (by assumption)), (by rfl), ?_⟩; refine ⟨_, _, rfl, ?_⟩; walk_at "rd"; refine ⟨_, _, rfl, ?_⟩; walk_at "rd"; refine ⟨rfl, ?_⟩; walk_at "rd"))

/-- what draws are made from: the cell, what is mixed in, its place, a number that stays -/
def Src (H : Hp) (S : Addr) : Prop := ∃ c d k e : Int, H S = some (.lst [.int c, .int d, .int k, .int e])
theorem Src.mono {H H' : Hp} {S : Addr} (h : Src H S) (f : Same H H') : Src H' S := by
  obtain ⟨c, d, k, e, h⟩ := h
  exact ⟨c, d, k, e, f _ _ h⟩
theorem Src.new {H : Hp} {S D : Addr} (h : Src H S) (hD : H D = none) : D ≠ S := by
  obtain ⟨c, d, k, e, h⟩ := h
  exact fun z => by rw [z, h] at hD; cases hD
theorem Src.grow {H H1 : Hp} {S D : Addr} (h : Src H S) (n : D ≠ S) (k : ∀ b o, b ≠ D → H b = some o → H1 b = some o) : Src H1 S := by
  obtain ⟨c, d, i, e, h⟩ := h
  exact ⟨c, d, i, e, k _ _ n.symm h⟩
theorem Src.tr {K : PySem.W.Frag} {H H1 : Hp} {S : Addr} {v : V} {t : Tr} (h : Src H S) (f : Fr S H H1) (a : TrAt K H v t) : TrAt K H1 v t := by
  obtain ⟨c, d, i, e, h⟩ := h
  exact a.but h f
section
variable {P : Program} {w : World} {K : PySem.W.Frag} {mg : Str → Option Value} {base : Heap}
abbrev s_law_draw : Stmt := topS 14
abbrev N_law_draw : List Str := ["src", "many", "value"]
theorem sc_law_draw : FnScope N_law_draw ["src", "many"] (defScope s_law_draw) := ⟨rfl, rfl, rfl, by decide +kernel, rfl, by decide +kernel, by decide +kernel⟩
def spDrawB : Sp := fun vs H Q _ => ∃ (S : Addr) (m : Int), vs = [.ref S, .int m] ∧ Src H S ∧ 0 < m ∧ m < 2 ^ 60 ∧ ∀ r H', 0 ≤ r → r < m → Src H' S → Fr S H H' → Q (.int r) H'
theorem use_drawB {S : Addr} {m : Int} {H : Hp} {Q : VK} {E : XK} (h : Src H S) (h0 : 0 < m) (h1 : m < 2 ^ 60) (k : ∀ r H', 0 ≤ r → r < m → Src H' S → Fr S H H' → Q (.int r) H') : spDrawB ([.ref S, .int m] ++ []) H Q E :=
  ⟨S, m, rfl, h, h0, h1, k⟩
theorem w_set4 {H : Hp} {S : Addr} {xs : List V} {j : Int} {n : Nat} {v : V} {G : Hp → Prop} (hS : H S = some (.lst xs)) (e : ixN xs.length j = some n)
    (k : ∀ H2, H2 S = some (.lst (xs.set n v)) → Fr S H H2 → G H2) : rSetL (.ref S) (.int j) v H G := w_setL hS e (k _ upd_same Fr.own)
theorem ok_law_draw {f : Addr} {fd : FuncData} (F : Fun K "_law_draw" "_law_draw" s_law_draw f fd) (Y : Bn mg) : FnOk P w K mg base CX0 1 f fd ["src", "many"] spDrawB := by
  refine F.ok sc_law_draw (fun vs H Q E h => ?_) (fun cdv A outer s H vs Q E hr h => ?_)
  · obtain ⟨S, m, rfl, _⟩ := h
    rfl
  · obtain ⟨S, m, rfl, ⟨c, d, i, e, hS⟩, hm, hm2, kQ⟩ := h
    have nd := sc_law_draw.nd
    refine ⟨_, (pss_cut (ps_if (pt_cmpR op_lt (pe_ix ix_list (pv 0) pe_int (fun _ _ => rfl)) (pv 1) (nomark _)) (pss_cons (ps_asg (pe_op op_modN (pe_callTy call_intI (by rfl) Y.n_int (by decide +kernel) (pa_cons (pe_op op_add (pe_op op_add (pe_op op_mul (pe_ix ix_list (pv 0) pe_int (fun _ _ => rfl)) pe_int) pe_int) (pe_ix ix_list (pv 0) pe_int (fun _ _ => rfl))) pa_nil)) pe_int) (pg_sub (pv 0) pe_int set_list))
      (pss_one (ps_asg (pe_op op_add (pe_ix ix_list (pv 0) pe_int (fun _ _ => rfl)) (pe_op op_mul (pe_ix ix_list (pv 0) pe_int (fun _ _ => rfl)) pe_int)) (pg_sub (pv 0) pe_int set_list)))) pss_nil)
      (pss_cons (ps_set (i := 2) nd rfl (Or.inl rfl) (pe_op op_modN (pe_callTy call_intI (by rfl) Y.n_int (by decide +kernel) (pa_cons (pe_ix ix_list (pv 0) pe_int (fun _ _ => rfl)) pa_nil)) (pv 1)))
      (pss_cons (ps_asg (pe_op op_fdivW (pe_ix ix_list (pv 0) pe_int (fun _ _ => rfl)) (pv 1)) (pg_sub (pv 0) pe_int set_list))
      (pss_one (ps_ret (pv 2)))))), ?_⟩
    rw [show L2.start N_law_draw [.ref S, .int m] = [some (.ref S), some (.int m), none] from rfl]
    refine ⟨fun σ' H' => σ' = [some (.ref S), some (.int m), none] ∧ (∃ c d i e : Int, H' S = some (.lst [.int c, .int d, .int i, .int e])) ∧ Fr S H H', ?_, ?_⟩
    · walk_at "rd"
      refine w_if (fun hk => ?_) (fun hk => ?_)
      · walk_at "rd"
        refine w_mulR (by decide) ?_
        walk_at "rd"
        refine w_i (by decide) ?_
        walk_at "rd"
        refine w_set4 hS rfl fun H1 hS1 f1 => ?_
        walk_at "rd"
        refine w_mulR (by decide) ?_
        walk_at "rd"
        refine w_set4 hS1 rfl fun H2 hS2 f2 => ?_
        exact ⟨rfl, ⟨_, _, _, _, hS2⟩, f1.trans f2⟩
      · exact ⟨rfl, ⟨_, _, _, _, hS⟩, Fr.refl S H⟩
    · rintro σ' H0 ⟨rfl, ⟨c, d, i, e, hS⟩, fr⟩
      walk_at "rd"
      refine w_i (by omega) ?_
      walk_at "rd"
      refine w_i ?_ ?_
      · exact wide_div hm (b := 60) (by omega) (by decide) (by decide)
      walk_at "rd"
      refine w_set4 hS rfl fun H1 hS1 f1 => ?_
      walk_at "rd"
      exact kQ _ H1 (Int.fmod_nonneg_of_pos _ hm) (Int.fmod_lt_of_pos _ hm) ⟨_, _, _, _, hS1⟩ (fr.trans f1)
abbrev s_law_source : Stmt := topS 15
abbrev N_law_source : List Str := ["script", "k", "cell"]
theorem sc_law_source : FnScope N_law_source ["script", "k"] (defScope s_law_source) := ⟨rfl, rfl, rfl, by decide +kernel, rfl, by decide +kernel, by decide +kernel⟩
def spSource (K : PySem.W.Frag) : Sp := fun vs H Q _ => ∃ (a : Addr) (ns : List Int) (k : Nat), vs = [.ref a, .int (k : Int)] ∧ SqL K H a (ns.map V.int) ∧ k < 100000 ∧ ∀ S H', Src H' S → Same H H' → H S = none → Q (.ref S) H'
theorem ok_law_source {f : Addr} {fd : FuncData} (F : Fun K "_law_source" "_law_source" s_law_source f fd) (Y : Bn mg) : FnOk P w K mg base CX0 1 f fd ["script", "k"] (spSource K) := by
  refine F.ok sc_law_source (fun vs H Q E h => ?_) (fun cdv A outer s H vs Q E hr h => ?_)
  · obtain ⟨a, ns, k, rfl, _⟩ := h
    rfl
  · obtain ⟨a, ns, k, rfl, hA, hk, kQ⟩ := h
    have nd := sc_law_source.nd
    refine ⟨_, (pss_cons (ps_set (i := 2) nd rfl (Or.inl rfl) pe_int)
      (pss_cut (ps_if (pt_cmpR op_lt (pv 1) (pe_callB call_lenL (by rfl) Y.n_len (by decide +kernel) (pa_cons (pv 0) pa_nil)) (nomark _)) (pss_one (ps_set (i := 2) nd rfl (Or.inl rfl) (pe_ix ix_list (pv 0) (pv 1) (fun _ _ => rfl)))) pss_nil)
      (pss_cut (ps_if (pt_cmpR op_lt (pv 2) pe_int (nomark _)) (pss_one (ps_set (i := 2) nd rfl (Or.inl rfl) (pe_op op_add (pe_op op_mul (pe_un un_neg pe_int) (pv 2)) pe_int))) pss_nil)
      (pss_one (ps_ret (pe_lst (pa_cons (pv 2) (pa_cons (pe_op op_add (pe_op op_modN (pe_callTy call_intI (by rfl) Y.n_int (by decide +kernel) (pa_cons (pv 2) pa_nil)) pe_int) (pe_op op_mul pe_int (pv 1))) (pa_cons (pv 1) (pa_cons pe_int pa_nil)))))))))), ?_⟩
    rw [show L2.start N_law_source [.ref a, .int (k : Int)] = [some (.ref a), some (.int (k : Int)), none] from rfl]
    walk_at "rd"
    refine ⟨fun σ' H' => H' = H ∧ ∃ c : Int, σ' = [some (.ref a), some (.int (k : Int)), some (.int c)], ?_, ?_⟩
    · walk_at "rd"
      refine w_if (fun hk => ?_) (fun hk => ?_)
      · walk_at "rd"
        rw [List.length_map] at hk
        have hk2 : k < ns.length := by omega
        refine w_ixL hA (atI_nat (by rw [List.getElem?_map, List.getElem?_eq_getElem hk2]; rfl)) ?_
        walk_at "rd"
        exact ⟨rfl, _, rfl⟩
      · exact ⟨rfl, 0, rfl⟩
    · rintro σ' H0 ⟨rfl, c, rfl⟩
      walk_at "rd"
      refine ⟨fun σ' H' => H' = H0 ∧ ∃ c : Int, σ' = [some (.ref a), some (.int (k : Int)), some (.int c)], ?_, ?_⟩
      · walk_at "rd"
        refine w_if (fun hk => ?_) (fun hk => ?_)
        · walk_at "rd"
          refine w_mulL (by decide) ?_
          walk_at "rd"
          exact ⟨rfl, _, rfl⟩
        · exact ⟨rfl, _, rfl⟩
      · rintro σ' H1 ⟨rfl, c2, rfl⟩
        walk_at "rd"
        refine w_i (by decide) ?_
        walk_at "rd"
        refine w_mulL (by decide) ?_
        walk_at "rd"
        refine w_newL (by show 4 ≤ 1000000; decide) fun S H2 hS s2 h2 => ?_
        exact kQ S H2 ⟨_, _, _, _, h2⟩ s2 hS
abbrev s_law_choice : Stmt := topS 16
abbrev N_law_choice : List Str := ["src", "options"]
theorem sc_law_choice : FnScope N_law_choice ["src", "options"] (defScope s_law_choice) := ⟨rfl, rfl, rfl, by decide +kernel, rfl, by decide +kernel, by decide +kernel⟩
def spChoice : Sp := fun vs H Q _ => ∃ (S N : Addr) (xs : List V), vs = [.ref S, .ref N] ∧ Src H S ∧ H N = some (.lst xs) ∧ N ≠ S ∧ 0 < xs.length ∧ xs.length ≤ 1000000 ∧ ∀ x ∈ xs, ∀ H', Src H' S → Fr S H H' → Q x H'
theorem ok_law_choice {f : Addr} {fd : FuncData} (F : Fun K "_law_choice" "_law_choice" s_law_choice f fd) (Y : Bn mg) (c_law_draw : Cal P w K mg base 1 "_law_draw" spDrawB []) : FnOk P w K mg base CX0 2 f fd ["src", "options"] spChoice := by
  refine F.ok sc_law_choice (fun vs H Q E h => ?_) (fun cdv A outer s H vs Q E hr h => ?_)
  · obtain ⟨S, N, xs, rfl, _⟩ := h
    rfl
  · obtain ⟨S, N, xs, rfl, hS, hN, nN, n0, n1, kQ⟩ := h
    have nd := sc_law_choice.nd
    refine ⟨_, (pss_one (ps_ret (pe_ix ix_list (pv 1) (pe_c c_law_draw hr (by decide) rfl (pa_cons (pv 0) (pa_cons (pe_callB call_lenL (by rfl) Y.n_len (by decide +kernel) (pa_cons (pv 1) pa_nil)) pa_nil))) (fun _ _ => rfl)))), ?_⟩
    rw [show L2.start N_law_choice [.ref S, .ref N] = [some (.ref S), some (.ref N)] from rfl]
    walk_at "rd"
    refine use_drawB hS (by omega) (by omega) fun r H1 r0 r1 hS1 f1 => ?_
    have hr2 : r.toNat < xs.length := by omega
    obtain ⟨q, rfl⟩ : ∃ q : Nat, r = (q : Int) := ⟨r.toNat, by omega⟩
    rw [Int.toNat_natCast] at hr2
    refine w_ixL (SqL.of (f1 _ _ nN hN)) (atI_nat (List.getElem?_eq_getElem hr2)) ?_
    exact kQ _ (List.getElem_mem hr2) H1 hS1 f1
end
end
section
open PySem PySem.Spec PyProof.Rows L2
open C8 (Cal cal0 pe_c pe_gc pss_cut tCut)
local macro_rules | `(tactic| walk_at "r1") => `(tactic| first
  | with_reducible refine w_seq ?_
  | with_reducible refine w_next ?_
  | with_reducible refine w_var (by with_unfolding_all exact rfl) ?_
  | with_reducible refine w_asg ?_
  | with_reducible refine w_gname ?_
  | with_reducible refine w_ifS ?_
  | with_reducible refine w_test ?_
  | with_reducible refine w_tB ?_
  | with_reducible refine w_op ?_
  | with_reducible refine w_un ?_
  | with_reducible refine w_var (by with_unfolding_all exact rfl) ?_
  | with_reducible refine w_cT ?_
  | with_reducible refine w_str ?_
  | with_reducible refine w_c ?_
  | with_reducible refine w_i0 ?_
  | with_reducible refine w_intI ?_
  | with_reducible refine w_intB ?_
  | with_reducible refine w_cb ?_
  | with_reducible refine w_cons ?_
  | with_reducible refine w_nil ?_
  | with_reducible refine w_call ?_
  | with_reducible refine w_ret ?_
  | with_reducible refine w_retN ?_
  | with_reducible refine w_drop ?_
  | with_reducible refine w_gsub ?_
  | with_reducible refine w_sl ?_
  | with_reducible refine w_part ?_
  | with_reducible refine w_nopart ?_
  | with_reducible refine w_lst ?_
  | with_reducible refine w_tup ?_
  | with_reducible refine w_bm ?_
  | with_reducible refine w_bm0 ?_
  | with_reducible refine w_bmT ?_
  | with_reducible refine w_and ?_
  | with_reducible refine w_or ?_
  | with_reducible refine w_not ?_
  | with_reducible refine w_andV ?_
  | with_reducible refine w_orV ?_
  | with_reducible refine w_notV ?_
  | with_reducible refine w_inC ?_
  | with_reducible refine w_ninC ?_
  | with_reducible refine w_ord ?_
  | with_reducible refine w_max ?_
  | with_reducible refine w_ifE ?_
  | with_reducible refine w_forR ?_
  | with_reducible refine w_forL ?_
  | with_reducible refine w_forT ?_
  | with_reducible refine w_forS ?_
  | with_reducible refine w_forEl ?_
  | with_reducible refine w_lcR ?_
  | with_reducible refine w_lcL ?_
  | with_reducible refine w_yes ?_
  | with_reducible refine w_tru ?_
  | with_reducible refine w_isN ?_
  | with_reducible refine w_notN ?_
  | with_reducible refine isi_s_tuple ?_
  | with_reducible refine isi_s_bool ?_
  | with_reducible refine isi_s_int ?_
  | with_reducible refine isi_s_str ?_
  | with_reducible refine isi_i_tuple ?_
  | with_reducible refine isi_i_bool ?_
  | with_reducible refine isi_i_int ?_
  | with_reducible refine isi_i_str ?_
  | with_reducible refine isi_b_tuple ?_
  | with_reducible refine isi_b_bool ?_
  | with_reducible refine isi_b_int ?_
  | with_reducible refine isi_b_str ?_
  | with_reducible refine isi_n_tuple ?_
  | with_reducible refine isi_n_bool ?_
  | with_reducible refine isi_n_int ?_
  | with_reducible refine isi_n_str ?_
  | ((with_reducible refine isi_t_tuple ?hSq ?_); (case hSq => exact ⟨_, by assumption⟩))
  | ((with_reducible refine isi_t_bool ?hSq ?_); (case hSq => exact ⟨_, by assumption⟩))
  | ((with_reducible refine isi_t_int ?hSq ?_); (case hSq => exact ⟨_, by assumption⟩))
  | ((with_reducible refine isi_t_str ?hSq ?_); (case hSq => exact ⟨_, by assumption⟩))
  | with_reducible refine ifB_tt ?_
  | with_reducible refine ifB_ff ?_
  | with_reducible refine ifB_tf ?_
  | with_reducible refine ifB_ft ?_
  | with_reducible refine ifN_s ?_
  | with_reducible refine ifN_i ?_
  | with_reducible refine ifN_b ?_
  | with_reducible refine ifN_r ?_
  | with_reducible refine ifN_n ?_
  | with_reducible refine ifM_s ?_
  | with_reducible refine ifM_i ?_
  | with_reducible refine ifM_b ?_
  | with_reducible refine ifM_r ?_
  | with_reducible refine ifM_n ?_
  | ((with_reducible show rLenL _ [V.ref _] _ _); first | refine w_lenL (SqL.of (by assumption)) ?_ | refine w_lenL (by assumption) ?_ | refine w_lenT (by assumption) ?_)
  | ((with_reducible show rIxL _ (V.ref _) (V.int _) _ _); refine w_ixL (SqL.of (by assumption)) (by with_unfolding_all exact rfl) ?_)
  | ((with_reducible show rIxT _ (V.ref _) (V.int _) _ _); refine w_ixT (by assumption) (by with_unfolding_all exact rfl) ?_)
  | with_reducible refine w_abs ?_
  | with_reducible refine w_neg ?_
  | with_reducible refine w_ltS ?_
  | with_reducible refine w_leS ?_
  | with_reducible refine w_eq (by with_unfolding_all exact rfl) ?_
  | with_reducible refine w_ne (by with_unfolding_all exact rfl) ?_
  | with_reducible refine L2.iteF ?_
  | with_reducible refine L2.iteT ?_
  | with_reducible refine w_nt ?_
  | with_reducible refine w_nf ?_
  | with_reducible refine ex_int ?_
  | with_reducible refine ex_bl ?_)
local macro_rules | `(tactic| walk_at "rd") => `(tactic| repeat walk_at "r1")
local macro_rules | `(tactic| walk_at "up") => `(tactic| (refine ⟨_, _, rfl, .inl (.inl (by assumption)), (by rfl), ?_⟩; refine ⟨_, _, rfl, ?_⟩; walk_at "rd"; refine ⟨_, _, rfl, ?_⟩; walk_at "rd"; refine ⟨rfl, ?_⟩; walk_at "rd"))

mutual
def eqTr : Tr → Tr → Bool
  | .s a, .s b => decide (a = b)
  | .i a, .i b => decide (a = b)
  | .b a, .b b => decide (a = b)
  | .n, .n => true
  | .t l, .t m => eqTrs l m
  | _, _ => false
def eqTrs : List Tr → List Tr → Bool
  | [], [] => true
  | x :: l, y :: m => eqTr x y && eqTrs l m
  | _, _ => false
end
mutual
theorem eqTr_refl : ∀ t : Tr, eqTr t t = true
  | .s a => by unfold eqTr; exact decide_eq_true rfl
  | .i a => by unfold eqTr; exact decide_eq_true rfl
  | .b a => by unfold eqTr; exact decide_eq_true rfl
  | .n => by unfold eqTr; rfl
  | .t l => by unfold eqTr; exact eqTrs_refl l
theorem eqTrs_refl : ∀ l : List Tr, eqTrs l l = true
  | [] => by unfold eqTrs; rfl
  | t :: l => by unfold eqTrs; rw [eqTr_refl t, eqTrs_refl l]; rfl
end
theorem eqTrs_len : ∀ {l m : List Tr}, l.length ≠ m.length → eqTrs l m = false
  | [], [], h => absurd rfl h
  | [], _ :: _, _ => by unfold eqTrs; rfl
  | _ :: _, [], _ => by unfold eqTrs; rfl
  | x :: l, y :: m, h => by
    unfold eqTrs
    rw [eqTrs_len (l := l) (m := m) fun e => h (by rw [List.length_cons, List.length_cons, e]), Bool.and_false]
theorem eqTrs_zip : ∀ {l m : List Tr}, l.length = m.length → (List.zipWith eqTr l m).all id = eqTrs l m
  | [], [], _ => by unfold eqTrs; rfl
  | [], _ :: _, h => by cases h
  | _ :: _, [], h => by cases h
  | x :: l, y :: m, h => by
    unfold eqTrs
    rw [List.zipWith_cons_cons, List.all_cons, eqTrs_zip (l := l) (m := m) (Nat.succ.inj h)]
    rfl
theorem zip_take {l m : List Tr} {i : Nat} {x y : Tr} (hx : l[i]? = some x) (hy : m[i]? = some y) : (List.zipWith eqTr l m).take (i + 1) = (List.zipWith eqTr l m).take i ++ [eqTr x y] := by
  have hz : (List.zipWith eqTr l m)[i]? = some (eqTr x y) := by rw [List.getElem?_zipWith, hx, hy]
  obtain ⟨hlt, e⟩ := List.getElem?_eq_some_iff.mp hz
  rw [List.take_succ_eq_append_getElem hlt, e]
theorem decT {a b : List Nat} : decide (T a = T b) = decide (a = b) := decide_eq_decide.mpr T_iff
theorem decI {a b : Int} : decide (V.int a = V.int b) = decide (a = b) := decide_eq_decide.mpr ⟨fun h => V.int.inj h, fun h => by rw [h]⟩
theorem decB {a b : Bool} : decide (V.bl a = V.bl b) = decide (a = b) := decide_eq_decide.mpr ⟨fun h => V.bl.inj h, fun h => by rw [h]⟩
/-- True exactly for two of one shape -/
def spEqual (K : PySem.W.Frag) (n : Nat) : Sp := fun vs H Q _ => ∃ (x y : V) (t u : Tr), vs = [x, y] ∧ TrAt K H x t ∧ TrAt K H y u ∧ TrD n t ∧ ∀ H', Same H H' → Q (.bl (eqTr t u)) H'
section
variable {P : Program} {w : World} {K : PySem.W.Frag} {mg : Str → Option Value} {base : Heap}
abbrev s_law_equal : Stmt := topS 17
abbrev N_law_equal : List Str := ["left", "right", "k"]
theorem sc_law_equal : FnScope N_law_equal ["left", "right"] (defScope s_law_equal) := ⟨rfl, rfl, rfl, by decide +kernel, rfl, by decide +kernel, by decide +kernel⟩
theorem ok_equal0 {f : Addr} {fd : FuncData} (F : Fun K "_law_equal" "_law_equal" s_law_equal f fd) : FnOk P w K mg base CX0 1 f fd ["left", "right"] (spEqual K 0) :=
  F.ok sc_law_equal (fun vs H Q E ⟨x, y, t, u, e, _⟩ => by rw [e]; rfl) fun cdv A outer s H vs Q E hr ⟨x, y, t, u, e, _, _, h, _⟩ => False.elim h
theorem ok_equal1 {n : Nat} {f : Addr} {fd : FuncData} (F : Fun K "_law_equal" "_law_equal" s_law_equal f fd) (Y : Bn mg) (c_law_equal : Cal P w K mg base (n + 1) "_law_equal" (spEqual K n) []) : FnOk P w K mg base CX0 (n + 2) f fd ["left", "right"] (spEqual K (n + 1)) := by
  refine F.ok sc_law_equal (fun vs H Q E h => ?_) (fun cdv A outer s H vs Q E hr h => ?_)
  · obtain ⟨x, y, t, u, rfl, _⟩ := h
    rfl
  · obtain ⟨x, y, t, u, rfl, hx, hy, hd, kQ⟩ := h
    have nd := sc_law_equal.nd
    refine ⟨_, (pss_cons (ps_if (PW.pt (pw_or (pt_val (pe_callB call_isi (by rfl) Y.n_isinstance (by decide +kernel) (pa_cons (pv 0) (pa_cons (pe_bltn (v := .ty "tuple") (by rfl) Y.n_tuple (by decide +kernel) rfl) pa_nil)))) (pw_or1 (pt_val (pe_callB call_isi (by rfl) Y.n_isinstance (by decide +kernel) (pa_cons (pv 1) (pa_cons (pe_bltn (v := .ty "tuple") (by rfl) Y.n_tuple (by decide +kernel) rfl) pa_nil))))))) (pss_cons (ps_if (PW.pt (pw_or (pt_not (pt_val (pe_callB call_isi (by rfl) Y.n_isinstance (by decide +kernel) (pa_cons (pv 0) (pa_cons (pe_bltn (v := .ty "tuple") (by rfl) Y.n_tuple (by decide +kernel) rfl) pa_nil))))) (pw_or (pt_not (pt_val (pe_callB call_isi (by rfl) Y.n_isinstance (by decide +kernel) (pa_cons (pv 1) (pa_cons (pe_bltn (v := .ty "tuple") (by rfl) Y.n_tuple (by decide +kernel) rfl) pa_nil))))) (pw_or1 (pt_cmpR op_ne (pe_callB call_lenL (by rfl) Y.n_len (by decide +kernel) (pa_cons (pv 0) pa_nil)) (pe_callB call_lenL (by rfl) Y.n_len (by decide +kernel) (pa_cons (pv 1) pa_nil)) (nomark _)))))) (pss_one (ps_ret pe_bl)) pss_nil)
      (pss_one (ps_ret (pe_callB (cr_all rfl) (by rfl) Y.n_all (by decide +kernel) (pa_cons (pe_lc (own := [("k", 2)]) (g := gName 2) (tt := tYes) (te := tCall (spEqual K n) [] L2.E0 (tCons (tOp (rIxT K) (tVar 0) (tVar 2)) (tCons (tOp (rIxT K) (tVar 1) (tVar 2)) tNil))) rfl nd (pi_range1 rfl Y.n_range (pa_cons (pe_callB call_lenL (by rfl) Y.n_len (by decide +kernel) (pa_cons (pv 0) pa_nil)) pa_nil)) (blkOk_by (own := [("k", 2)]) (N := N_law_equal) (sc := defScope s_law_equal) (by decide +kernel)) (fun _ _ _ _ _ => pg_name (i := 2) nd rfl (Or.inl rfl)) (fun _ _ _ _ _ => pts_nil) (fun _ _ _ _ _ => (pe_c c_law_equal hr (by omega) rfl (pa_cons (pe_ix ix_tup (pv 0) (pv 2) (fun _ _ => rfl)) (pa_cons (pe_ix ix_tup (pv 1) (pv 2) (fun _ _ => rfl)) pa_nil))))) pa_nil))))) pss_nil)
      (pss_cons (ps_if (PW.pt (pw_or (pt_val (pe_callB call_isi (by rfl) Y.n_isinstance (by decide +kernel) (pa_cons (pv 0) (pa_cons (pe_bltn (v := .ty "bool") (by rfl) Y.n_bool (by decide +kernel) rfl) pa_nil)))) (pw_or1 (pt_val (pe_callB call_isi (by rfl) Y.n_isinstance (by decide +kernel) (pa_cons (pv 1) (pa_cons (pe_bltn (v := .ty "bool") (by rfl) Y.n_bool (by decide +kernel) rfl) pa_nil))))))) (pss_one (ps_ret (pe_and (pe_callB call_isi (by rfl) Y.n_isinstance (by decide +kernel) (pa_cons (pv 0) (pa_cons (pe_bltn (v := .ty "bool") (by rfl) Y.n_bool (by decide +kernel) rfl) pa_nil))) (pe_and (pe_callB call_isi (by rfl) Y.n_isinstance (by decide +kernel) (pa_cons (pv 1) (pa_cons (pe_bltn (v := .ty "bool") (by rfl) Y.n_bool (by decide +kernel) rfl) pa_nil))) (pe_one (pe_cmpR op_eq (pv 0) (pv 1) (nomark _))))))) pss_nil)
      (pss_cons (ps_if (PW.pt (pw_or (pt_val (pe_callB call_isi (by rfl) Y.n_isinstance (by decide +kernel) (pa_cons (pv 0) (pa_cons (pe_bltn (v := .ty "int") (by rfl) Y.n_int (by decide +kernel) rfl) pa_nil)))) (pw_or1 (pt_val (pe_callB call_isi (by rfl) Y.n_isinstance (by decide +kernel) (pa_cons (pv 1) (pa_cons (pe_bltn (v := .ty "int") (by rfl) Y.n_int (by decide +kernel) rfl) pa_nil))))))) (pss_one (ps_ret (pe_and (pe_callB call_isi (by rfl) Y.n_isinstance (by decide +kernel) (pa_cons (pv 0) (pa_cons (pe_bltn (v := .ty "int") (by rfl) Y.n_int (by decide +kernel) rfl) pa_nil))) (pe_and (pe_callB call_isi (by rfl) Y.n_isinstance (by decide +kernel) (pa_cons (pv 1) (pa_cons (pe_bltn (v := .ty "int") (by rfl) Y.n_int (by decide +kernel) rfl) pa_nil))) (pe_one (pe_cmpR op_eq (pv 0) (pv 1) (nomark _))))))) pss_nil)
      (pss_cons (ps_if (PW.pt (pw_or (pt_val (pe_callB call_isi (by rfl) Y.n_isinstance (by decide +kernel) (pa_cons (pv 0) (pa_cons (pe_bltn (v := .ty "str") (by rfl) Y.n_str (by decide +kernel) rfl) pa_nil)))) (pw_or1 (pt_val (pe_callB call_isi (by rfl) Y.n_isinstance (by decide +kernel) (pa_cons (pv 1) (pa_cons (pe_bltn (v := .ty "str") (by rfl) Y.n_str (by decide +kernel) rfl) pa_nil))))))) (pss_one (ps_ret (pe_and (pe_callB call_isi (by rfl) Y.n_isinstance (by decide +kernel) (pa_cons (pv 0) (pa_cons (pe_bltn (v := .ty "str") (by rfl) Y.n_str (by decide +kernel) rfl) pa_nil))) (pe_and (pe_callB call_isi (by rfl) Y.n_isinstance (by decide +kernel) (pa_cons (pv 1) (pa_cons (pe_bltn (v := .ty "str") (by rfl) Y.n_str (by decide +kernel) rfl) pa_nil))) (pe_one (pe_cmpR op_eq (pv 0) (pv 1) (nomark _))))))) pss_nil)
      (pss_one (ps_ret (pe_and (pe_cmpR op_isN (pv 0) pe_non (nomark _)) (pe_one (pe_cmpR op_isN (pv 1) pe_non (nomark _)))))))))), ?_⟩
    rw [show L2.start N_law_equal [x, y] = [some x, some y, none] from rfl]
    have kF : eqTr t u = false → Q (.bl false) H := fun e => by rw [← e]; exact kQ _ fun _ _ h => h
    cases hx with
    | @s a =>
      cases hy with
      | @s b => walk_at "rd"; rw [decT]; exact kQ _ fun _ _ h => h
      | @i b => walk_at "rd"; exact kF rfl
      | @b b => walk_at "rd"; exact kF rfl
      | n => walk_at "rd"; exact kF rfl
      | @t p vs l hp hl => walk_at "rd"; exact kF rfl
    | @i a =>
      cases hy with
      | @s b => walk_at "rd"; exact kF rfl
      | @i b => walk_at "rd"; rw [decI]; exact kQ _ fun _ _ h => h
      | @b b => walk_at "rd"; exact kF rfl
      | n => walk_at "rd"; exact kF rfl
      | @t p vs l hp hl => walk_at "rd"; exact kF rfl
    | @b a =>
      cases hy with
      | @s b => walk_at "rd"; exact kF rfl
      | @i b => walk_at "rd"; exact kF rfl
      | @b b => walk_at "rd"; rw [decB]; exact kQ _ fun _ _ h => h
      | n => walk_at "rd"; exact kF rfl
      | @t p vs l hp hl => walk_at "rd"; exact kF rfl
    | n =>
      cases hy with
      | @s b => walk_at "rd"; exact kF rfl
      | @i b => walk_at "rd"; exact kF rfl
      | @b b => walk_at "rd"; exact kF rfl
      | n => walk_at "rd"; exact kQ _ fun _ _ h => h
      | @t p vs l hp hl => walk_at "rd"; exact kF rfl
    | @t p vs l hp hl =>
      cases hy with
      | @s b => walk_at "rd"; exact kF rfl
      | @i b => walk_at "rd"; exact kF rfl
      | @b b => walk_at "rd"; exact kF rfl
      | n => walk_at "rd"; exact kF rfl
      | @t p2 vs2 m hp2 hl2 =>
        obtain ⟨hlen, hall⟩ := hd
        have e1 := hl.length
        have e2 := hl2.length
        walk_at "rd"
        rw [e1, e2]
        refine w_ifIn (fun h => ?_) (fun h => ?_)
        · walk_at "rd"
          exact kF (eqTrs_len fun e => h (by rw [e]))
        · walk_at "rd"
          rw [e1]
          have hlm : l.length = m.length := by omega
          refine lc_R (j := (l.length : Int)) (fun D i acc H' => acc = ((List.zipWith eqTr l m).take i).map V.bl ∧ Same H H' ∧ H D = none) (by omega) (by omega) (fun D H1 hD s1 h1 => ⟨rfl, s1, hD⟩) ?_ ?_
          · rintro D i acc H1 hi hal hD1 ⟨ea, s1, hD0⟩
            obtain ⟨v, t, g1, g2, g3⟩ := hl.get (i := i) (by omega)
            obtain ⟨v2, t2, k1, k2, k3⟩ := hl2.get (i := i) (by omega)
            walk_at "rd"
            refine ⟨rfl, ?_⟩
            walk_at "rd"
            have i0 : (0 : Int) + (i : Int) = (i : Int) := Int.zero_add _
            rw [i0]
            refine w_ixT (Same.sqT s1 hp) (atI_nat g1) ?_
            walk_at "rd"
            refine w_ixT (Same.sqT s1 hp2) (atI_nat k1) ?_
            walk_at "rd"
            refine ⟨v, v2, t, t2, rfl, g3.same s1, k3.same s1, hall t (List.mem_of_getElem? g2), fun H2 s2 => ?_⟩
            refine lc_keep hal (by omega) (s2 _ _ hD1) fun H5 h5 k5 => ⟨?_, same_of_but hD0 (s1.trans s2) k5, hD0⟩
            rw [ea, zip_take g2 k2, List.map_append]
            rfl
          · rintro D acc H1 _ hD1 ⟨ea, s1, hD0⟩
            rw [ea] at hD1
            refine w_all (SqL.of hD1) ?_
            rw [Int.toNat_natCast, List.take_of_length_le (by rw [List.length_zipWith]; omega), eqTrs_zip hlm]
            exact kQ _ s1
end
end
section
open PySem PySem.Spec PyProof.Rows L2
open C8 (Cal cal0 pe_c pe_gc pss_cut tCut)
local macro_rules | `(tactic| walk_at "r1") => `(tactic| first
  | with_reducible refine w_seq ?_
  | with_reducible refine w_next ?_
  | with_reducible refine w_var (by with_unfolding_all exact rfl) ?_
  | with_reducible refine w_asg ?_
  | with_reducible refine w_gname ?_
  | with_reducible refine w_ifS ?_
  | with_reducible refine w_test ?_
  | with_reducible refine w_tB ?_
  | with_reducible refine w_op ?_
  | with_reducible refine w_un ?_
  | with_reducible refine w_var (by with_unfolding_all exact rfl) ?_
  | with_reducible refine w_cT ?_
  | with_reducible refine w_str ?_
  | with_reducible refine w_c ?_
  | with_reducible refine w_i0 ?_
  | with_reducible refine w_intI ?_
  | with_reducible refine w_intB ?_
  | with_reducible refine w_cb ?_
  | with_reducible refine w_cons ?_
  | with_reducible refine w_nil ?_
  | with_reducible refine w_call ?_
  | with_reducible refine w_ret ?_
  | with_reducible refine w_retN ?_
  | with_reducible refine w_drop ?_
  | with_reducible refine w_gsub ?_
  | with_reducible refine w_sl ?_
  | with_reducible refine w_part ?_
  | with_reducible refine w_nopart ?_
  | with_reducible refine w_lst ?_
  | with_reducible refine w_tup ?_
  | with_reducible refine w_bm ?_
  | with_reducible refine w_bm0 ?_
  | with_reducible refine w_bmT ?_
  | with_reducible refine w_and ?_
  | with_reducible refine w_or ?_
  | with_reducible refine w_not ?_
  | with_reducible refine w_andV ?_
  | with_reducible refine w_orV ?_
  | with_reducible refine w_notV ?_
  | with_reducible refine w_inC ?_
  | with_reducible refine w_ninC ?_
  | with_reducible refine w_ord ?_
  | with_reducible refine w_max ?_
  | with_reducible refine w_ifE ?_
  | with_reducible refine w_forR ?_
  | with_reducible refine w_forL ?_
  | with_reducible refine w_forT ?_
  | with_reducible refine w_forS ?_
  | with_reducible refine w_forEl ?_
  | with_reducible refine w_lcR ?_
  | with_reducible refine w_lcL ?_
  | with_reducible refine w_yes ?_
  | with_reducible refine w_tru ?_
  | with_reducible refine w_isN ?_
  | with_reducible refine w_notN ?_
  | with_reducible refine isi_s_tuple ?_
  | with_reducible refine isi_s_bool ?_
  | with_reducible refine isi_s_int ?_
  | with_reducible refine isi_s_str ?_
  | with_reducible refine isi_i_tuple ?_
  | with_reducible refine isi_i_bool ?_
  | with_reducible refine isi_i_int ?_
  | with_reducible refine isi_i_str ?_
  | with_reducible refine isi_b_tuple ?_
  | with_reducible refine isi_b_bool ?_
  | with_reducible refine isi_b_int ?_
  | with_reducible refine isi_b_str ?_
  | with_reducible refine isi_n_tuple ?_
  | with_reducible refine isi_n_bool ?_
  | with_reducible refine isi_n_int ?_
  | with_reducible refine isi_n_str ?_
  | ((with_reducible refine isi_t_tuple ?hSq ?_); (case hSq => exact ⟨_, by assumption⟩))
  | ((with_reducible refine isi_t_bool ?hSq ?_); (case hSq => exact ⟨_, by assumption⟩))
  | ((with_reducible refine isi_t_int ?hSq ?_); (case hSq => exact ⟨_, by assumption⟩))
  | ((with_reducible refine isi_t_str ?hSq ?_); (case hSq => exact ⟨_, by assumption⟩))
  | with_reducible refine ifB_tt ?_
  | with_reducible refine ifB_ff ?_
  | with_reducible refine ifB_tf ?_
  | with_reducible refine ifB_ft ?_
  | with_reducible refine ifN_s ?_
  | with_reducible refine ifN_i ?_
  | with_reducible refine ifN_b ?_
  | with_reducible refine ifN_r ?_
  | with_reducible refine ifN_n ?_
  | with_reducible refine ifM_s ?_
  | with_reducible refine ifM_i ?_
  | with_reducible refine ifM_b ?_
  | with_reducible refine ifM_r ?_
  | with_reducible refine ifM_n ?_
  | ((with_reducible show rLenL _ [V.ref _] _ _); first | refine w_lenL (SqL.of (by assumption)) ?_ | refine w_lenL (by assumption) ?_ | refine w_lenT (by assumption) ?_)
  | ((with_reducible show rIxL _ (V.ref _) (V.int _) _ _); refine w_ixL (SqL.of (by assumption)) (by with_unfolding_all exact rfl) ?_)
  | ((with_reducible show rIxT _ (V.ref _) (V.int _) _ _); refine w_ixT (by assumption) (by with_unfolding_all exact rfl) ?_)
  | with_reducible refine w_abs ?_
  | with_reducible refine w_neg ?_
  | with_reducible refine w_ltS ?_
  | with_reducible refine w_leS ?_
  | with_reducible refine w_eq (by with_unfolding_all exact rfl) ?_
  | with_reducible refine w_ne (by with_unfolding_all exact rfl) ?_
  | with_reducible refine L2.iteF ?_
  | with_reducible refine L2.iteT ?_
  | with_reducible refine w_nt ?_
  | with_reducible refine w_nf ?_
  | with_reducible refine ex_int ?_
  | with_reducible refine ex_bl ?_)
local macro_rules | `(tactic| walk_at "rd") => `(tactic| repeat walk_at "r1")
local macro_rules | `(tactic| walk_at "up") => `(tactic| (refine ⟨_, _, rfl, .inl (.inl (by assumption)), (by rfl), ?_⟩; refine ⟨_, _, rfl, ?_⟩; walk_at "rd"; refine ⟨_, _, rfl, ?_⟩; walk_at "rd"; refine ⟨rfl, ?_⟩; walk_at "rd"))

/-- the trees of values -/
def VT : Tr → Prop
  | .n => True
  | .b _ => True
  | .i x => -1000000000 ≤ x ∧ x ≤ 1000000000
  | .s a => a.length ≤ 200 ∧ ∀ c ∈ a, c < 128
  | .t l => ∃ i : Int, l = [.s (cds "object"), .i i]
theorem VT.d {t : Tr} (h : VT t) : TrD 2 t := by
  cases t with
  | n => exact True.intro
  | b _ => exact True.intro
  | i _ => exact True.intro
  | s _ => exact True.intro
  | t l =>
    obtain ⟨i, rfl⟩ := h
    refine ⟨by show 2 < 1000000; decide, fun t ht => ?_⟩
    rcases List.mem_cons.mp ht with h | ht
    · rw [h]; exact True.intro
    · rw [List.mem_singleton.mp ht]; exact True.intro
/-- a value that is no object -/
def Flat (K : PySem.W.Frag) (x : V) : Prop := ∃ t, VT t ∧ ∀ H, TrAt K H x t
theorem flat_n {K : PySem.W.Frag} : Flat K .non := ⟨.n, True.intro, fun _ => .n⟩
theorem flat_b {K : PySem.W.Frag} {b : Bool} : Flat K (.bl b) := ⟨.b b, True.intro, fun _ => .b⟩
theorem flat_i {K : PySem.W.Frag} {i : Int} (h : -1000000000 ≤ i ∧ i ≤ 1000000000) : Flat K (.int i) := ⟨.i i, h, fun _ => .i⟩
theorem flat_s {K : PySem.W.Frag} {a : List Nat} (h : a.length ≤ 200 ∧ ∀ c ∈ a, c < 128) : Flat K (T a) := ⟨.s a, h, fun _ => .s⟩
theorem flat_nil {K : PySem.W.Frag} : ∀ x ∈ ([] : List V), Flat K x := fun _ h => absurd h List.not_mem_nil
theorem flat_cons {K : PySem.W.Frag} {x : V} {xs : List V} (h : Flat K x) (r : ∀ x ∈ xs, Flat K x) : ∀ y ∈ x :: xs, Flat K y := fun y hy => by
  rcases List.mem_cons.mp hy with e | hy
  · rw [e]; exact h
  · exact r y hy
def okT (t : Tr) : Tr := .t [.s (cds "value"), t]
def badT (m : String) : Tr := .t [.s (cds "failure"), .s (cds m)]
def isI : Tr → Bool
  | .i _ => true
  | _ => false
def resT : Tr → Tr
  | .s a => if 200 < a.length then badT "too large" else okT (.s a)
  | .i x => if x > 1000000000 ∨ x < -1000000000 then badT "too large" else okT (.i x)
  | t => okT t
theorem resT_i {x : Int} : resT (.i x) = if x > 1000000000 ∨ x < -1000000000 then badT "too large" else okT (.i x) := rfl
theorem resT_s {a : List Nat} : resT (.s a) = if 200 < a.length then badT "too large" else okT (.s a) := rfl
/-- a new pair of a text and what stands at v -/
theorem at_pair {K : PySem.W.Frag} {H : Hp} {p : Addr} {a : List Nat} {v : V} {t : Tr} (h : H p = some (.tup [T a, v])) (hv : TrAt K H v t) : TrAt K H (.ref p) (.t [.s a, t]) :=
  .t (.inl (.inl h)) (.cons .s (.cons hv .nil))
section
variable {P : Program} {w : World} {K : PySem.W.Frag} {mg : Str → Option Value} {base : Heap}
abbrev s_law_value : Stmt := topS 18
abbrev N_law_value : List Str := ["src", "kind"]
theorem sc_law_value : FnScope N_law_value ["src"] (defScope s_law_value) := ⟨rfl, rfl, rfl, by decide +kernel, rfl, by decide +kernel, by decide +kernel⟩
def spValue (K : PySem.W.Frag) : Sp := fun vs H Q _ => ∃ S : Addr, vs = [.ref S] ∧ Src H S ∧ ∀ v t H', TrAt K H' v t → VT t → Src H' S → Fr S H H' → Q v H'
theorem use_choice {S N : Addr} {xs : List V} {H H0 : Hp} {Q : VK} {E : XK} (h : Src H0 S) (hN : H0 N = none) (s : Same H0 H) (h1 : H N = some (.lst xs)) (n0 : 0 < xs.length) (n1 : xs.length ≤ 1000000) (k : ∀ x ∈ xs, ∀ H', Src H' S → Fr S H H' → Q x H') : spChoice ([.ref S, .ref N] ++ []) H Q E :=
  ⟨S, N, xs, rfl, h.mono s, h1, h.new hN, n0, n1, k⟩
theorem ok_law_value {f : Addr} {fd : FuncData} (F : Fun K "_law_value" "_law_value" s_law_value f fd) (Y : Bn mg) (c_law_draw : Cal P w K mg base 1 "_law_draw" spDrawB []) (c_law_choice : Cal P w K mg base 2 "_law_choice" spChoice []) : FnOk P w K mg base CX0 3 f fd ["src"] (spValue K) := by
  refine F.ok sc_law_value (fun vs H Q E h => ?_) (fun cdv A outer s H vs Q E hr h => ?_)
  · obtain ⟨S, rfl, _⟩ := h
    rfl
  · obtain ⟨S, rfl, hS, kQ⟩ := h
    have nd := sc_law_value.nd
    refine ⟨_, (pss_cons (ps_set (i := 1) nd rfl (Or.inl rfl) (pe_c c_law_draw hr (by decide) rfl (pa_cons (pv 0) (pa_cons pe_int pa_nil))))
      (pss_cons (ps_if (pt_cmpR op_lt (pv 1) pe_int (nomark _)) (pss_one (ps_ret (pe_c c_law_choice hr (by decide) rfl (pa_cons (pv 0) (pa_cons (pe_lst (pa_cons pe_non (pa_cons pe_bl (pa_cons pe_bl (pa_cons pe_int (pa_cons pe_int (pa_cons (pe_un un_neg pe_int) pa_nil))))))) pa_nil))))) pss_nil)
      (pss_cons (ps_if (pt_cmpR op_eq (pv 1) pe_int (nomark _)) (pss_one (ps_ret (pe_op op_sub (pe_c c_law_draw hr (by decide) rfl (pa_cons (pv 0) (pa_cons pe_int pa_nil))) pe_int))) pss_nil)
      (pss_cons (ps_if (pt_cmpR op_eq (pv 1) pe_int (nomark _)) (pss_one (ps_ret (pe_c c_law_choice hr (by decide) rfl (pa_cons (pv 0) (pa_cons (pe_lst (pa_cons pe_int (pa_cons (pe_un un_neg pe_int) (pa_cons pe_int (pa_cons pe_int (pa_cons (pe_un un_neg pe_int) (pa_cons pe_int (pa_cons (pe_un un_neg pe_int) (pa_cons pe_int pa_nil))))))))) pa_nil))))) pss_nil)
      (pss_cons (ps_if (pt_cmpR op_eq (pv 1) pe_int (nomark _)) (pss_one (ps_ret (pe_op op_mulS pe_str (pe_c c_law_draw hr (by decide) rfl (pa_cons (pv 0) (pa_cons pe_int pa_nil)))))) pss_nil)
      (pss_cons (ps_if (pt_cmpR op_eq (pv 1) pe_int (nomark _)) (pss_one (ps_ret (pe_tup (pa_cons pe_str (pa_cons (pe_op op_add pe_int (pe_c c_law_draw hr (by decide) rfl (pa_cons (pv 0) (pa_cons pe_int pa_nil)))) pa_nil))))) pss_nil)
      (pss_one (ps_ret (pe_c c_law_choice hr (by decide) rfl (pa_cons (pv 0) (pa_cons (pe_lst (pa_cons pe_str (pa_cons pe_str (pa_cons pe_str (pa_cons pe_str (pa_cons pe_str (pa_cons pe_str (pa_cons pe_str (pa_cons pe_str (pa_cons pe_str pa_nil)))))))))) pa_nil))))))))))), ?_⟩
    rw [show L2.start N_law_value [.ref S] = [some (.ref S), none] from rfl]
    walk_at "rd"
    refine use_drawB hS (by decide) (by decide) fun r H1 r0 r1 hS1 f1 => ?_
    have pick : ∀ {xs : List V} {H2 : Hp}, Fr S H1 H2 → (∀ x ∈ xs, Flat K x) → ∀ x ∈ xs, ∀ H', Src H' S → Fr S H2 H' → Q x H' := fun f2 hx x hxm H' hS' f' => by
      obtain ⟨t, ht, hat⟩ := hx x hxm
      exact kQ x t H' (hat H') ht hS' ((f1.trans f2).trans f')
    walk_at "rd"
    refine w_if (fun _ => ?_) (fun _ => ?_)
    · walk_at "rd"
      refine w_newL (by show 6 ≤ 1000000; decide) fun N H2 hN s2 h2 => ?_
      walk_at "rd"
      exact use_choice hS1 hN s2 h2 (by show 0 < 6; decide) (by show 6 ≤ 1000000; decide) (pick (Same.fr s2) (flat_cons flat_n (flat_cons flat_b (flat_cons flat_b (flat_cons (flat_i (by decide)) (flat_cons (flat_i (by decide)) (flat_cons (flat_i (by decide)) flat_nil)))))))
    · walk_at "rd"
      refine w_ifI (fun _ => ?_) (fun _ => ?_)
      · walk_at "rd"
        refine use_drawB hS1 (by decide) (by decide) fun r H2 r0 r1 hS2 f2 => ?_
        walk_at "rd"
        exact kQ _ (.i (r - 1000000000)) H2 .i ⟨by omega, by omega⟩ hS2 (f1.trans f2)
      · walk_at "rd"
        refine w_ifI (fun _ => ?_) (fun _ => ?_)
        · walk_at "rd"
          refine w_newL (by show 8 ≤ 1000000; decide) fun N H2 hN s2 h2 => ?_
          walk_at "rd"
          exact use_choice hS1 hN s2 h2 (by show 0 < 8; decide) (by show 8 ≤ 1000000; decide) (pick (Same.fr s2) (flat_cons (flat_i (by decide)) (flat_cons (flat_i (by decide)) (flat_cons (flat_i (by decide)) (flat_cons (flat_i (by decide)) (flat_cons (flat_i (by decide)) (flat_cons (flat_i (by decide)) (flat_cons (flat_i (by decide)) (flat_cons (flat_i (by decide)) flat_nil)))))))))
        · walk_at "rd"
          refine w_ifI (fun _ => ?_) (fun _ => ?_)
          · walk_at "rd"
            refine use_drawB hS1 (by decide) (by decide) fun r H2 r0 r1 hS2 f2 => ?_
            refine w_mulS (by omega) (by omega) (by show 2 * r.toNat ≤ 1000000; omega) ?_
            refine kQ _ (.s _) H2 .s ⟨?_, fun c hc => ?_⟩ hS2 (f1.trans f2)
            · rw [len_rep]
              show r.toNat * 2 ≤ 200
              omega
            · have : ∀ c ∈ (Str.ofString "ab").cps.toList, c < 128 := by decide +kernel
              exact this c (mem_rep hc)
          · walk_at "rd"
            refine w_ifI (fun _ => ?_) (fun _ => ?_)
            · walk_at "rd"
              refine use_drawB hS1 (by decide) (by decide) fun r H2 r0 r1 hS2 f2 => ?_
              walk_at "rd"
              refine w_newT (by show 2 ≤ 1000000; decide) fun p H3 hp s3 h3 => ?_
              exact kQ (.ref p) _ H3 (at_pair h3 .i) ⟨_, rfl⟩ (hS2.mono s3) ((f1.trans f2).to s3)
            · walk_at "rd"
              refine w_newL (by show 9 ≤ 1000000; decide) fun N H2 hN s2 h2 => ?_
              walk_at "rd"
              have ks : ∀ {a : List Nat}, a.length ≤ 200 ∧ (∀ c ∈ a, c < 128) → Flat K (T a) := fun h => flat_s h
              exact use_choice hS1 hN s2 h2 (by show 0 < 9; decide) (by show 9 ≤ 1000000; decide) (pick (Same.fr s2) (flat_cons (ks (by decide +kernel)) (flat_cons (ks (by decide +kernel)) (flat_cons (ks (by decide +kernel)) (flat_cons (ks (by decide +kernel)) (flat_cons (ks (by decide +kernel)) (flat_cons (ks (by decide +kernel)) (flat_cons (ks (by decide +kernel)) (flat_cons (ks (by decide +kernel)) (flat_cons (ks (by decide +kernel)) flat_nil))))))))))
def spIsI (K : PySem.W.Frag) : Sp := fun vs H Q _ => ∃ (x : V) (t : Tr), vs = [x] ∧ TrAt K H x t ∧ Q (.bl (isI t)) H
abbrev s_law_number : Stmt := topS 19
abbrev N_law_number : List Str := ["value"]
theorem sc_law_number : FnScope N_law_number ["value"] (defScope s_law_number) := ⟨rfl, rfl, rfl, by decide +kernel, rfl, by decide +kernel, by decide +kernel⟩
theorem ok_law_number {f : Addr} {fd : FuncData} (F : Fun K "_law_number" "_law_number" s_law_number f fd) (Y : Bn mg) : FnOk P w K mg base CX0 1 f fd ["value"] (spIsI K) := by
  refine F.ok sc_law_number (fun vs H Q E h => ?_) (fun cdv A outer s H vs Q E hr h => ?_)
  · obtain ⟨x, t, rfl, _⟩ := h
    rfl
  · obtain ⟨x, t, rfl, hx, kQ⟩ := h
    have nd := sc_law_number.nd
    refine ⟨_, (pss_one (ps_ret (pe_and (pe_callB call_isi (by rfl) Y.n_isinstance (by decide +kernel) (pa_cons (pv 0) (pa_cons (pe_bltn (v := .ty "int") (by rfl) Y.n_int (by decide +kernel) rfl) pa_nil))) (pe_one (pe_not (pe_callB call_isi (by rfl) Y.n_isinstance (by decide +kernel) (pa_cons (pv 0) (pa_cons (pe_bltn (v := .ty "bool") (by rfl) Y.n_bool (by decide +kernel) rfl) pa_nil)))))))), ?_⟩
    rw [show L2.start N_law_number [x] = [some x] from rfl]
    cases hx <;> (walk_at "rd"; exact kQ)
def isBo : Tr → Bool
  | .b _ => true
  | _ => false
def spTruth (K : PySem.W.Frag) : Sp := fun vs H Q _ => ∃ (x : V) (t : Tr), vs = [x] ∧ TrAt K H x t ∧ Q (.bl (isBo t)) H
abbrev s_is_truth : Stmt := topS 7
abbrev N_is_truth : List Str := ["value"]
theorem sc_is_truth : FnScope N_is_truth ["value"] (defScope s_is_truth) := ⟨rfl, rfl, rfl, by decide +kernel, rfl, by decide +kernel, by decide +kernel⟩
theorem ok_is_truth {f : Addr} {fd : FuncData} (F : Fun K "is_truth" "is_truth" s_is_truth f fd) (Y : Bn mg) : FnOk P w K mg base CX0 1 f fd ["value"] (spTruth K) := by
  refine F.ok sc_is_truth (fun vs H Q E h => ?_) (fun cdv A outer s H vs Q E hr h => ?_)
  · obtain ⟨x, t, rfl, _⟩ := h
    rfl
  · obtain ⟨x, t, rfl, hx, kQ⟩ := h
    have nd := sc_is_truth.nd
    refine ⟨_, (pss_one (ps_ret (pe_callB call_isi (by rfl) Y.n_isinstance (by decide +kernel) (pa_cons (pv 0) (pa_cons (pe_bltn (v := .ty "bool") (by rfl) Y.n_bool (by decide +kernel) rfl) pa_nil))))), ?_⟩
    rw [show L2.start N_is_truth [x] = [some x] from rfl]
    cases hx <;> (walk_at "rd"; exact kQ)
abbrev s_is_number : Stmt := topS 9
abbrev N_is_number : List Str := ["value"]
theorem sc_is_number : FnScope N_is_number ["value"] (defScope s_is_number) := ⟨rfl, rfl, rfl, by decide +kernel, rfl, by decide +kernel, by decide +kernel⟩
theorem ok_is_number {f : Addr} {fd : FuncData} (F : Fun K "_is_number" "_is_number" s_is_number f fd) (Y : Bn mg) (cis_truth : Cal P w K mg base 1 "is_truth" (spTruth K) []) : FnOk P w K mg base CX0 2 f fd ["value"] (spIsI K) := by
  refine F.ok sc_is_number (fun vs H Q E h => ?_) (fun cdv A outer s H vs Q E hr h => ?_)
  · obtain ⟨x, t, rfl, _⟩ := h
    rfl
  · obtain ⟨x, t, rfl, hx, kQ⟩ := h
    have nd := sc_is_number.nd
    refine ⟨_, (pss_one (ps_ret (pe_and (pe_callB call_isi (by rfl) Y.n_isinstance (by decide +kernel) (pa_cons (pv 0) (pa_cons (pe_bltn (v := .ty "int") (by rfl) Y.n_int (by decide +kernel) rfl) pa_nil))) (pe_one (pe_not (pe_c cis_truth hr (by decide) rfl (pa_cons (pv 0) pa_nil))))))), ?_⟩
    rw [show L2.start N_is_number [x] = [some x] from rfl]
    have gx := hx
    cases hx <;> (walk_at "rd"; first | exact kQ | (refine ⟨_, _, rfl, gx, ?_⟩; walk_at "rd"; exact kQ))
abbrev s_law_result : Stmt := topS 20
abbrev N_law_result : List Str := ["value"]
theorem sc_law_result : FnScope N_law_result ["value"] (defScope s_law_result) := ⟨rfl, rfl, rfl, by decide +kernel, rfl, by decide +kernel, by decide +kernel⟩
def spRes (K : PySem.W.Frag) : Sp := fun vs H Q _ => ∃ (x : V) (t : Tr), vs = [x] ∧ TrAt K H x t ∧ ((∃ i, t = .i i) ∨ ∃ a, t = .s a ∧ a.length ≤ 100000) ∧ ∀ p H', TrAt K H' (.ref p) (resT t) → Same H H' → Q (.ref p) H'
theorem ok_law_result {f : Addr} {fd : FuncData} (F : Fun K "_law_result" "_law_result" s_law_result f fd) (Y : Bn mg) : FnOk P w K mg base CX0 1 f fd ["value"] (spRes K) := by
  refine F.ok sc_law_result (fun vs H Q E h => ?_) (fun cdv A outer s H vs Q E hr h => ?_)
  · obtain ⟨x, t, rfl, _⟩ := h
    rfl
  · obtain ⟨x, t, rfl, hx, hc, kQ⟩ := h
    have nd := sc_law_result.nd
    refine ⟨_, (pss_cons (ps_if (pt_val (pe_callB call_isi (by rfl) Y.n_isinstance (by decide +kernel) (pa_cons (pv 0) (pa_cons (pe_bltn (v := .ty "str") (by rfl) Y.n_str (by decide +kernel) rfl) pa_nil)))) (pss_cons (ps_if (pt_cmpR op_gt (pe_callB call_lenS (by rfl) Y.n_len (by decide +kernel) (pa_cons (pv 0) pa_nil)) pe_int (nomark _)) (pss_one (ps_ret (pe_tup (pa_cons pe_str (pa_cons pe_str pa_nil))))) pss_nil)
      (pss_one (ps_ret (pe_tup (pa_cons pe_str (pa_cons (pv 0) pa_nil)))))) pss_nil)
      (pss_cons (ps_if (PW.pt (pw_or (pt_cmpR op_gt (pv 0) pe_int (nomark _)) (pw_or1 (pt_cmpR op_lt (pv 0) (pe_un un_neg pe_int) (nomark _))))) (pss_one (ps_ret (pe_tup (pa_cons pe_str (pa_cons pe_str pa_nil))))) pss_nil)
      (pss_one (ps_ret (pe_tup (pa_cons pe_str (pa_cons (pv 0) pa_nil))))))), ?_⟩
    rw [show L2.start N_law_result [x] = [some x] from rfl]
    rcases hc with ⟨i, rfl⟩ | ⟨a, rfl, ha⟩
    · cases hx
      walk_at "rd"
      refine w_if (fun h1 => ?_) (fun h1 => ?_)
      · walk_at "rd"
        refine w_newT (by show 2 ≤ 1000000; decide) fun p H3 hp s3 h3 => ?_
        refine kQ p H3 ?_ s3
        rw [resT_i, if_pos (.inl h1)]
        exact at_pair h3 .s
      · walk_at "rd"
        refine w_if (fun h2 => ?_) (fun h2 => ?_)
        · walk_at "rd"
          refine w_newT (by show 2 ≤ 1000000; decide) fun p H3 hp s3 h3 => ?_
          refine kQ p H3 ?_ s3
          rw [resT_i, if_pos (.inr h2)]
          exact at_pair h3 .s
        · walk_at "rd"
          refine w_newT (by show 2 ≤ 1000000; decide) fun p H3 hp s3 h3 => ?_
          refine kQ p H3 ?_ s3
          rw [resT_i, if_neg (fun h => h.elim h1 h2)]
          exact at_pair h3 .i
    · cases hx
      walk_at "rd"
      refine w_lenS (by omega) ?_
      walk_at "rd"
      refine w_if (fun h1 => ?_) (fun h1 => ?_)
      · walk_at "rd"
        refine w_newT (by show 2 ≤ 1000000; decide) fun p H3 hp s3 h3 => ?_
        refine kQ p H3 ?_ s3
        rw [resT_s, if_pos (by omega)]
        exact at_pair h3 .s
      · walk_at "rd"
        refine w_newT (by show 2 ≤ 1000000; decide) fun p H3 hp s3 h3 => ?_
        refine kQ p H3 ?_ s3
        rw [resT_s, if_neg (by omega)]
        exact at_pair h3 .s
end
end
section
open PySem PySem.Spec PyProof.Rows L2
open C8 (Cal cal0 pe_c pe_gc pss_cut tCut)
local macro_rules | `(tactic| walk_at "r1") => `(tactic| first
  | with_reducible refine w_seq ?_
  | with_reducible refine w_next ?_
  | with_reducible refine w_var (by with_unfolding_all exact rfl) ?_
  | with_reducible refine w_asg ?_
  | with_reducible refine w_gname ?_
  | with_reducible refine w_ifS ?_
  | with_reducible refine w_test ?_
  | with_reducible refine w_tB ?_
  | with_reducible refine w_op ?_
  | with_reducible refine w_un ?_
  | with_reducible refine w_var (by with_unfolding_all exact rfl) ?_
  | with_reducible refine w_cT ?_
  | with_reducible refine w_str ?_
  | with_reducible refine w_c ?_
  | with_reducible refine w_i0 ?_
  | with_reducible refine w_intI ?_
  | with_reducible refine w_intB ?_
  | with_reducible refine w_cb ?_
  | with_reducible refine w_cons ?_
  | with_reducible refine w_nil ?_
  | with_reducible refine w_call ?_
  | with_reducible refine w_ret ?_
  | with_reducible refine w_retN ?_
  | with_reducible refine w_drop ?_
  | with_reducible refine w_gsub ?_
  | with_reducible refine w_sl ?_
  | with_reducible refine w_part ?_
  | with_reducible refine w_nopart ?_
  | with_reducible refine w_lst ?_
  | with_reducible refine w_tup ?_
  | with_reducible refine w_bm ?_
  | with_reducible refine w_bm0 ?_
  | with_reducible refine w_bmT ?_
  | with_reducible refine w_and ?_
  | with_reducible refine w_or ?_
  | with_reducible refine w_not ?_
  | with_reducible refine w_andV ?_
  | with_reducible refine w_orV ?_
  | with_reducible refine w_notV ?_
  | with_reducible refine w_inC ?_
  | with_reducible refine w_ninC ?_
  | with_reducible refine w_ord ?_
  | with_reducible refine w_max ?_
  | with_reducible refine w_ifE ?_
  | with_reducible refine w_forR ?_
  | with_reducible refine w_forL ?_
  | with_reducible refine w_forT ?_
  | with_reducible refine w_forS ?_
  | with_reducible refine w_forEl ?_
  | with_reducible refine w_lcR ?_
  | with_reducible refine w_lcL ?_
  | with_reducible refine w_yes ?_
  | with_reducible refine w_tru ?_
  | with_reducible refine w_isN ?_
  | with_reducible refine w_notN ?_
  | with_reducible refine isi_s_tuple ?_
  | with_reducible refine isi_s_bool ?_
  | with_reducible refine isi_s_int ?_
  | with_reducible refine isi_s_str ?_
  | with_reducible refine isi_i_tuple ?_
  | with_reducible refine isi_i_bool ?_
  | with_reducible refine isi_i_int ?_
  | with_reducible refine isi_i_str ?_
  | with_reducible refine isi_b_tuple ?_
  | with_reducible refine isi_b_bool ?_
  | with_reducible refine isi_b_int ?_
  | with_reducible refine isi_b_str ?_
  | with_reducible refine isi_n_tuple ?_
  | with_reducible refine isi_n_bool ?_
  | with_reducible refine isi_n_int ?_
  | with_reducible refine isi_n_str ?_
  | ((with_reducible refine isi_t_tuple ?hSq ?_); (case hSq => exact ⟨_, by assumption⟩))
  | ((with_reducible refine isi_t_bool ?hSq ?_); (case hSq => exact ⟨_, by assumption⟩))
  | ((with_reducible refine isi_t_int ?hSq ?_); (case hSq => exact ⟨_, by assumption⟩))
  | ((with_reducible refine isi_t_str ?hSq ?_); (case hSq => exact ⟨_, by assumption⟩))
  | with_reducible refine ifB_tt ?_
  | with_reducible refine ifB_ff ?_
  | with_reducible refine ifB_tf ?_
  | with_reducible refine ifB_ft ?_
  | with_reducible refine ifN_s ?_
  | with_reducible refine ifN_i ?_
  | with_reducible refine ifN_b ?_
  | with_reducible refine ifN_r ?_
  | with_reducible refine ifN_n ?_
  | with_reducible refine ifM_s ?_
  | with_reducible refine ifM_i ?_
  | with_reducible refine ifM_b ?_
  | with_reducible refine ifM_r ?_
  | with_reducible refine ifM_n ?_
  | ((with_reducible show rLenL _ [V.ref _] _ _); first | refine w_lenL (SqL.of (by assumption)) ?_ | refine w_lenL (by assumption) ?_ | refine w_lenT (by assumption) ?_)
  | ((with_reducible show rIxL _ (V.ref _) (V.int _) _ _); refine w_ixL (SqL.of (by assumption)) (by with_unfolding_all exact rfl) ?_)
  | ((with_reducible show rIxT _ (V.ref _) (V.int _) _ _); refine w_ixT (by assumption) (by with_unfolding_all exact rfl) ?_)
  | with_reducible refine w_abs ?_
  | with_reducible refine w_neg ?_
  | with_reducible refine w_ltS ?_
  | with_reducible refine w_leS ?_
  | with_reducible refine w_eq (by with_unfolding_all exact rfl) ?_
  | with_reducible refine w_ne (by with_unfolding_all exact rfl) ?_
  | with_reducible refine L2.iteF ?_
  | with_reducible refine L2.iteT ?_
  | with_reducible refine w_nt ?_
  | with_reducible refine w_nf ?_
  | with_reducible refine ex_int ?_
  | with_reducible refine ex_bl ?_)
local macro_rules | `(tactic| walk_at "rd") => `(tactic| repeat walk_at "r1")
local macro_rules | `(tactic| walk_at "up") => `(tactic| (refine ⟨_, _, rfl, .inl (.inl (by assumption)), (by rfl), ?_⟩; refine ⟨_, _, rfl, ?_⟩; walk_at "rd"; refine ⟨_, _, rfl, ?_⟩; walk_at "rd"; refine ⟨rfl, ?_⟩; walk_at "rd"))

mutual
def dOf : Tr → PyData
  | .s a => .str ⟨a.toArray⟩
  | .i i => .int i
  | .b b => .bool b
  | .n => .none
  | .t l => .tuple (dOfs l)
def dOfs : List Tr → List PyData
  | [] => []
  | t :: l => dOf t :: dOfs l
end
mutual
theorem dp_of {K : PySem.W.Frag} {H : Hp} : ∀ {v : V} {t : Tr}, TrAt K H v t → Dp K H v (dOf t)
  | _, _, .s => by unfold dOf; exact .str _
  | _, _, .i => by unfold dOf; exact .int _
  | _, _, .b => by unfold dOf; exact .bl _
  | _, _, .n => by unfold dOf; exact .non
  | _, _, .t h r => by unfold dOf; exact .tup h (dps_of r)
theorem dps_of {K : PySem.W.Frag} {H : Hp} : ∀ {vs : List V} {l : List Tr}, TrsAt K H vs l → DpAll K H vs (dOfs l)
  | _, _, .nil => by unfold dOfs; exact .nil
  | _, _, .cons h r => by unfold dOfs; exact .cons (dp_of h) (dps_of r)
end
theorem strLay {a : List Nat} (h : ∀ c ∈ a, c < 128) : (PyData.str ⟨a.toArray⟩).canLay0 = true := by
  show (a.toArray.all fun c => decide (c < 0x110000)) = true
  rw [List.all_toArray, List.all_eq_true]
  intro c hc
  have := h c hc
  exact decide_eq_true (by omega)
theorem VT.shaped {t : Tr} (h : VT t) : SeqAt.shaped (dOf t) = true := by
  cases t with
  | n => unfold dOf; rfl
  | b _ => unfold dOf; rfl
  | i _ => unfold dOf; rfl
  | s a => unfold dOf SeqAt.shaped; rw [Bool.and_eq_true]; exact ⟨strLay h.2, rfl⟩
  | t l =>
    obtain ⟨i, rfl⟩ := h
    have e : dOf (.t [.s (cds "object"), .i i]) = .tuple [.str ⟨(cds "object").toArray⟩, .int i] := by simp [dOf, dOfs]
    rw [e]
    unfold SeqAt.shaped
    rw [Bool.and_eq_true]
    refine ⟨?_, rfl⟩
    show ((PyData.str ⟨(cds "object").toArray⟩).canLay0 && (true && true)) = true
    rw [strLay (by decide +kernel)]
    rfl
theorem eqTr_bo {t u : Tr} (h : isBo t ≠ isBo u) : eqTr t u = false := by
  cases t <;> cases u <;> first | (unfold eqTr; rfl) | exact absurd rfl h
theorem eqv_str {a b : List Nat} : ((⟨a.toArray⟩ : Str) == ⟨b.toArray⟩) = decide (a = b) := eqV_T a b
theorem VT.eqv {t u : Tr} (h : VT t) (g : VT u) (e : isBo t = isBo u) : PyData.eqv (dOf t) (dOf u) = eqTr t u := by
  cases t with
  | n => cases u <;> first | (simp [dOf, PyData.eqv, eqTr]; done) | cases e
  | b x =>
    cases u with
    | b y => unfold dOf PyData.eqv eqTr; cases x <;> cases y <;> rfl
    | _ => cases e
  | i x =>
    cases u with
    | b y => cases e
    | i y => unfold dOf PyData.eqv eqTr; rw [Bool.eq_iff_iff]; simp
    | _ => simp [dOf, PyData.eqv, eqTr]
  | s a =>
    cases u with
    | b y => cases e
    | s b => unfold dOf PyData.eqv eqTr; exact eqv_str
    | _ => simp [dOf, PyData.eqv, eqTr]
  | t l =>
    obtain ⟨i, rfl⟩ := h
    cases u with
    | b y => cases e
    | t m =>
      obtain ⟨j, rfl⟩ := g
      simp only [dOf, dOfs, PyData.eqv, PyData.eqvAll, eqTr, eqTrs, eqv_str, Bool.and_true]
      congr 1
    | _ => simp [dOf, PyData.eqv, eqTr]
theorem w_ifC {a : List Nat} {s : String} {A B : Prop} (h1 : a = cds s → A) (h2 : a ≠ cds s → B) : if decide (T a = T (Str.ofString s).cps.toList) = true then A else B := w_ifT h1 h2
theorem w_ifCn {a : List Nat} {s : String} {A B : Prop} (h1 : a ≠ cds s → A) (h2 : a = cds s → B) : if (!decide (T a = T (Str.ofString s).cps.toList)) = true then A else B := w_ifTn h1 h2
def SG : List (List Nat) := ["=", "<", "<=", "+", "-", "*", "/"].map cds
def calcM (a : List Nat) (x y : Int) : Int := if a = cds "+" then x + y else if a = cds "-" then x - y else if a = cds "*" then x * y else x.fdiv y
def numM (a : List Nat) (x y : Int) : Tr := if a = cds "<" then okT (.b (decide (x < y))) else if a = cds "<=" then okT (.b (decide (x ≤ y))) else if a = cds "/" ∧ y = 0 then badT "by nothing" else resT (.i (calcM a x y))
def txM (a x y : List Nat) : Tr := if a = cds "<" then okT (.b (decide (x < y))) else if a = cds "<=" then okT (.b (!decide (y < x))) else if a ≠ cds "+" then badT "wrong kind" else resT (.s (x ++ y))
def opM (a : List Nat) (t u : Tr) : Tr := if a = cds "=" then okT (.b (eqTr t u)) else match t, u with
  | .i x, .i y => numM a x y
  | .s x, .s y => txM a x y
  | _, _ => badT "wrong kind"
structure OpTx (mg : Str → Option Value) : Prop where
  c_WRONG_KIND : ∃ u, mg "WRONG_KIND" = some u ∧ RelV (T (cds "wrong kind")) u
  c_BY_NOTHING : ∃ u, mg "BY_NOTHING" = some u ∧ RelV (T (cds "by nothing")) u
  c_TOO_LARGE : ∃ u, mg "TOO_LARGE" = some u ∧ RelV (T (cds "too large")) u
  c_GREATEST_NUMBER : ∃ u, mg "GREATEST_NUMBER" = some u ∧ RelV (.int 1000000000) u
  c_LONGEST_TEXT : ∃ u, mg "LONGEST_TEXT" = some u ∧ RelV (.int 200) u
section
variable {P : Program} {w : World} {K : PySem.W.Frag} {mg : Str → Option Value} {base : Heap}
abbrev s_are_equal : Stmt := topS 8
abbrev N_are_equal : List Str := ["left", "right"]
theorem sc_are_equal : FnScope N_are_equal ["left", "right"] (defScope s_are_equal) := ⟨rfl, rfl, rfl, by decide +kernel, rfl, by decide +kernel, by decide +kernel⟩
def spAreEq (K : PySem.W.Frag) : Sp := fun vs H Q _ => ∃ (x y : V) (t u : Tr), vs = [x, y] ∧ TrAt K H x t ∧ TrAt K H y u ∧ VT t ∧ VT u ∧ Q (.bl (eqTr t u)) H
theorem ok_are_equal {f : Addr} {fd : FuncData} (F : Fun K "_are_equal" "_are_equal" s_are_equal f fd) (Y : Bn mg) (cis_truth : Cal P w K mg base 1 "is_truth" (spTruth K) []) : FnOk P w K mg base CX0 2 f fd ["left", "right"] (spAreEq K) := by
  refine F.ok sc_are_equal (fun vs H Q E h => ?_) (fun cdv A outer s H vs Q E hr h => ?_)
  · obtain ⟨x, y, t, u, rfl, _⟩ := h
    rfl
  · obtain ⟨x, y, t, u, rfl, hx, hy, ht, hu, kQ⟩ := h
    have nd := sc_are_equal.nd
    refine ⟨_, (pss_one (ps_ret (pe_and (pe_cmpR op_eq (pe_c cis_truth hr (by decide) rfl (pa_cons (pv 0) pa_nil)) (pe_c cis_truth hr (by decide) rfl (pa_cons (pv 1) pa_nil)) (nomark _)) (pe_one (pe_cmpR (op_eqD hr.units) (pv 0) (pv 1) (nomark _)))))), ?_⟩
    rw [show L2.start N_are_equal [x, y] = [some x, some y] from rfl]
    have gx := hx
    have gy := hy
    have fin : isBo t = isBo u → rEqD K x y H Q := fun e => ⟨_, _, dp_of gx, dp_of gy, ht.shaped, hu.shaped, by rw [ht.eqv hu e]; exact kQ⟩
    have kF : eqTr t u = false → Q (.bl false) H := fun e => by rw [← e]; exact kQ
    walk_at "rd"
    refine ⟨_, _, rfl, gx, ?_⟩
    walk_at "rd"
    refine ⟨_, _, rfl, gy, ?_⟩
    walk_at "rd"
    refine w_if (fun e => ?_) (fun e => ?_)
    · walk_at "rd"
      exact fin (V.bl.inj e)
    · exact kF (eqTr_bo fun z => e (by rw [z]))
abbrev s_calculated : Stmt := topS 11
abbrev N_calculated : List Str := ["sign", "left", "right"]
theorem sc_calculated : FnScope N_calculated ["sign", "left", "right"] (defScope s_calculated) := ⟨rfl, rfl, rfl, by decide +kernel, rfl, by decide +kernel, by decide +kernel⟩
def spCalc : Sp := fun vs H Q _ => ∃ (a : List Nat) (x y : Int), vs = [T a, .int x, .int y] ∧ y.natAbs ≤ 1000000000 ∧ (a = cds "+" ∨ a = cds "-" ∨ a = cds "*" ∨ y ≠ 0) ∧ Q (.int (calcM a x y)) H
theorem ok_calculated {f : Addr} {fd : FuncData} (F : Fun K "_calculated" "_calculated" s_calculated f fd) (Y : Bn mg) : FnOk P w K mg base CX0 1 f fd ["sign", "left", "right"] spCalc := by
  refine F.ok sc_calculated (fun vs H Q E h => ?_) (fun cdv A outer s H vs Q E hr h => ?_)
  · obtain ⟨a, x, y, rfl, _⟩ := h
    rfl
  · obtain ⟨a, x, y, rfl, hy, hc, kQ⟩ := h
    have nd := sc_calculated.nd
    refine ⟨_, (pss_cons (ps_if (pt_cmpR op_eq (pv 0) pe_str (nomark _)) (pss_one (ps_ret (pe_op op_add (pv 1) (pv 2)))) pss_nil)
      (pss_cons (ps_if (pt_cmpR op_eq (pv 0) pe_str (nomark _)) (pss_one (ps_ret (pe_op op_sub (pv 1) (pv 2)))) pss_nil)
      (pss_cons (ps_if (pt_cmpR op_eq (pv 0) pe_str (nomark _)) (pss_one (ps_ret (pe_op op_mul (pv 1) (pv 2)))) pss_nil)
      (pss_one (ps_ret (pe_op op_fdivN (pv 1) (pv 2))))))), ?_⟩
    rw [show L2.start N_calculated [T a, .int x, .int y] = [some (T a), some (.int x), some (.int y)] from rfl]
    unfold calcM at kQ
    walk_at "rd"
    refine w_ifC (fun h1 => ?_) (fun h1 => ?_)
    · rw [if_pos h1] at kQ
      walk_at "rd"
      exact kQ
    · rw [if_neg h1] at kQ
      walk_at "rd"
      refine w_ifC (fun h2 => ?_) (fun h2 => ?_)
      · rw [if_pos h2] at kQ
        walk_at "rd"
        exact kQ
      · rw [if_neg h2] at kQ
        walk_at "rd"
        refine w_ifC (fun h3 => ?_) (fun h3 => ?_)
        · rw [if_pos h3] at kQ
          walk_at "rd"
          refine w_mulR (by omega) ?_
          exact kQ
        · rw [if_neg h3] at kQ
          walk_at "rd"
          have h4 : y ≠ 0 := by
            rcases hc with h | h | h | h
            · exact absurd h h1
            · exact absurd h h2
            · exact absurd h h3
            · exact h
          refine w_i ⟨h4, by omega⟩ ?_
          exact kQ
abbrev s_with_numbers : Stmt := topS 10
abbrev N_with_numbers : List Str := ["sign", "left", "right", "number"]
theorem sc_with_numbers : FnScope N_with_numbers ["sign", "left", "right"] (defScope s_with_numbers) := ⟨rfl, rfl, rfl, by decide +kernel, rfl, by decide +kernel, by decide +kernel⟩
def spNums (K : PySem.W.Frag) : Sp := fun vs H Q _ => ∃ (a : List Nat) (x y : Int), vs = [T a, .int x, .int y] ∧ y.natAbs ≤ 1000000000 ∧ a ∈ SG ∧ a ≠ cds "=" ∧ ∀ p H', TrAt K H' (.ref p) (numM a x y) → Same H H' → Q (.ref p) H'
theorem ok_with_numbers {f : Addr} {fd : FuncData} (F : Fun K "_with_numbers" "_with_numbers" s_with_numbers f fd) (Y : Bn mg) (Z : OpTx mg) (c_calculated : Cal P w K mg base 1 "_calculated" spCalc []) : FnOk P w K mg base CX0 2 f fd ["sign", "left", "right"] (spNums K) := by
  refine F.ok sc_with_numbers (fun vs H Q E h => ?_) (fun cdv A outer s H vs Q E hr h => ?_)
  · obtain ⟨a, x, y, rfl, _⟩ := h
    rfl
  · obtain ⟨a, x, y, rfl, hy, ha, hne, kQ⟩ := h
    have nd := sc_with_numbers.nd
    refine ⟨_, (pss_cons (ps_if (pt_cmpR op_eq (pv 0) pe_str (nomark _)) (pss_one (ps_ret (pe_tup (pa_cons pe_str (pa_cons (pe_cmpR op_lt (pv 1) (pv 2) (nomark _)) pa_nil))))) pss_nil)
      (pss_cons (ps_if (pt_cmpR op_eq (pv 0) pe_str (nomark _)) (pss_one (ps_ret (pe_tup (pa_cons pe_str (pa_cons (pe_cmpR op_le (pv 1) (pv 2) (nomark _)) pa_nil))))) pss_nil)
      (pss_cons (ps_if (PW.pt (pw_and (pt_cmpR op_eq (pv 0) pe_str (nomark _)) (pw_and1 (pt_cmpR op_eq (pv 2) pe_int (nomark _))))) (pss_one (ps_ret (pe_tup (pa_cons pe_str (pa_cons (pe_gc rfl Z.c_BY_NOTHING) pa_nil))))) pss_nil)
      (pss_cons (ps_set (i := 3) nd rfl (Or.inl rfl) (pe_c c_calculated hr (by decide) rfl (pa_cons (pv 0) (pa_cons (pv 1) (pa_cons (pv 2) pa_nil)))))
      (pss_cons (ps_if (pt_cmpR op_gt (pe_callB call_absI (by rfl) Y.n_abs (by decide +kernel) (pa_cons (pv 3) pa_nil)) (pe_gc rfl Z.c_GREATEST_NUMBER) (nomark _)) (pss_one (ps_ret (pe_tup (pa_cons pe_str (pa_cons (pe_gc rfl Z.c_TOO_LARGE) pa_nil))))) pss_nil)
      (pss_one (ps_ret (pe_tup (pa_cons pe_str (pa_cons (pv 3) pa_nil)))))))))), ?_⟩
    rw [show L2.start N_with_numbers [T a, .int x, .int y] = [some (T a), some (.int x), some (.int y), none] from rfl]
    unfold numM at kQ
    walk_at "rd"
    refine w_ifC (fun h1 => ?_) (fun h1 => ?_)
    · rw [if_pos h1] at kQ
      walk_at "rd"
      refine w_newT (by show 2 ≤ 1000000; decide) fun p H3 hp s3 h3 => ?_
      exact kQ p H3 (at_pair h3 .b) s3
    · rw [if_neg h1] at kQ
      walk_at "rd"
      refine w_ifC (fun h2 => ?_) (fun h2 => ?_)
      · rw [if_pos h2] at kQ
        walk_at "rd"
        refine w_newT (by show 2 ≤ 1000000; decide) fun p H3 hp s3 h3 => ?_
        exact kQ p H3 (at_pair h3 .b) s3
      · rw [if_neg h2] at kQ
        have go : ¬ (a = cds "/" ∧ y = 0) → (a = cds "+" ∨ a = cds "-" ∨ a = cds "*" ∨ y ≠ 0) := fun z => by
          unfold SG at ha
          simp only [List.map_cons, List.map_nil, List.mem_cons, List.not_mem_nil, or_false] at ha
          rcases ha with h | h | h | h | h | h | h
          · exact absurd h hne
          · exact absurd h h1
          · exact absurd h h2
          · exact .inl h
          · exact .inr (.inl h)
          · exact .inr (.inr (.inl h))
          · exact .inr (.inr (.inr fun e => z ⟨h, e⟩))
        walk_at "rd"
        refine w_ifC (fun h3 => ?_) (fun h3 => ?_)
        · walk_at "rd"
          refine w_ifI (fun h4 => ?_) (fun h4 => ?_)
          · rw [if_pos ⟨h3, h4⟩] at kQ
            walk_at "rd"
            refine w_newT (by show 2 ≤ 1000000; decide) fun p H3 hp s3 h3 => ?_
            exact kQ p H3 (at_pair h3 .s) s3
          · rw [if_neg (fun z => h4 z.2)] at kQ
            walk_at "rd"
            refine ⟨a, x, y, rfl, hy, go fun z => h4 z.2, ?_⟩
            rw [resT_i] at kQ
            walk_at "rd"
            generalize calcM a x y = n at kQ
            refine w_if (fun h5 => ?_) (fun h5 => ?_)
            · rw [if_pos (by split at h5 <;> omega)] at kQ
              walk_at "rd"
              refine w_newT (by show 2 ≤ 1000000; decide) fun p H3 hp s3 h3 => ?_
              exact kQ p H3 (at_pair h3 .s) s3
            · rw [if_neg (by split at h5 <;> omega)] at kQ
              walk_at "rd"
              refine w_newT (by show 2 ≤ 1000000; decide) fun p H3 hp s3 h3 => ?_
              exact kQ p H3 (at_pair h3 .i) s3
        · rw [if_neg (fun z => h3 z.1)] at kQ
          walk_at "rd"
          refine ⟨a, x, y, rfl, hy, go fun z => h3 z.1, ?_⟩
          rw [resT_i] at kQ
          walk_at "rd"
          generalize calcM a x y = n at kQ
          refine w_if (fun h5 => ?_) (fun h5 => ?_)
          · rw [if_pos (by split at h5 <;> omega)] at kQ
            walk_at "rd"
            refine w_newT (by show 2 ≤ 1000000; decide) fun p H3 hp s3 h3 => ?_
            exact kQ p H3 (at_pair h3 .s) s3
          · rw [if_neg (by split at h5 <;> omega)] at kQ
            walk_at "rd"
            refine w_newT (by show 2 ≤ 1000000; decide) fun p H3 hp s3 h3 => ?_
            exact kQ p H3 (at_pair h3 .i) s3
abbrev s_with_texts : Stmt := topS 12
abbrev N_with_texts : List Str := ["sign", "left", "right"]
theorem sc_with_texts : FnScope N_with_texts ["sign", "left", "right"] (defScope s_with_texts) := ⟨rfl, rfl, rfl, by decide +kernel, rfl, by decide +kernel, by decide +kernel⟩
def spTxs (K : PySem.W.Frag) : Sp := fun vs H Q _ => ∃ (a x y : List Nat), vs = [T a, T x, T y] ∧ x.length ≤ 1000 ∧ y.length ≤ 1000 ∧ ∀ p H', TrAt K H' (.ref p) (txM a x y) → Same H H' → Q (.ref p) H'
theorem ok_with_texts {f : Addr} {fd : FuncData} (F : Fun K "_with_texts" "_with_texts" s_with_texts f fd) (Y : Bn mg) (Z : OpTx mg) : FnOk P w K mg base CX0 1 f fd ["sign", "left", "right"] (spTxs K) := by
  refine F.ok sc_with_texts (fun vs H Q E h => ?_) (fun cdv A outer s H vs Q E hr h => ?_)
  · obtain ⟨a, x, y, rfl, _⟩ := h
    rfl
  · obtain ⟨a, x, y, rfl, hx, hy, kQ⟩ := h
    have nd := sc_with_texts.nd
    refine ⟨_, (pss_cons (ps_if (pt_cmpR op_eq (pv 0) pe_str (nomark _)) (pss_one (ps_ret (pe_tup (pa_cons pe_str (pa_cons (pe_cmpR op_ltS (pv 1) (pv 2) (nomark _)) pa_nil))))) pss_nil)
      (pss_cons (ps_if (pt_cmpR op_eq (pv 0) pe_str (nomark _)) (pss_one (ps_ret (pe_tup (pa_cons pe_str (pa_cons (pe_cmpR op_leT (pv 1) (pv 2) (nomark _)) pa_nil))))) pss_nil)
      (pss_cons (ps_if (pt_cmpR op_ne (pv 0) pe_str (nomark _)) (pss_one (ps_ret (pe_tup (pa_cons pe_str (pa_cons (pe_gc rfl Z.c_WRONG_KIND) pa_nil))))) pss_nil)
      (pss_cons (ps_if (pt_cmpR op_gt (pe_op op_add (pe_callB call_lenS (by rfl) Y.n_len (by decide +kernel) (pa_cons (pv 1) pa_nil)) (pe_callB call_lenS (by rfl) Y.n_len (by decide +kernel) (pa_cons (pv 2) pa_nil))) (pe_gc rfl Z.c_LONGEST_TEXT) (nomark _)) (pss_one (ps_ret (pe_tup (pa_cons pe_str (pa_cons (pe_gc rfl Z.c_TOO_LARGE) pa_nil))))) pss_nil)
      (pss_one (ps_ret (pe_tup (pa_cons pe_str (pa_cons (pe_op op_addS (pv 1) (pv 2)) pa_nil))))))))), ?_⟩
    rw [show L2.start N_with_texts [T a, T x, T y] = [some (T a), some (T x), some (T y)] from rfl]
    unfold txM at kQ
    walk_at "rd"
    refine w_ifC (fun h1 => ?_) (fun h1 => ?_)
    · rw [if_pos h1] at kQ
      walk_at "rd"
      refine w_newT (by show 2 ≤ 1000000; decide) fun p H3 hp s3 h3 => ?_
      exact kQ p H3 (at_pair h3 .b) s3
    · rw [if_neg h1] at kQ
      walk_at "rd"
      refine w_ifC (fun h2 => ?_) (fun h2 => ?_)
      · rw [if_pos h2] at kQ
        walk_at "rd"
        refine w_newT (by show 2 ≤ 1000000; decide) fun p H3 hp s3 h3 => ?_
        exact kQ p H3 (at_pair h3 .b) s3
      · rw [if_neg h2] at kQ
        walk_at "rd"
        refine w_ifCn (fun h3 => ?_) (fun h3 => ?_)
        · rw [if_pos h3] at kQ
          walk_at "rd"
          refine w_newT (by show 2 ≤ 1000000; decide) fun p H3 hp s3 h3 => ?_
          exact kQ p H3 (at_pair h3 .s) s3
        · rw [if_neg (fun z => z h3), resT_s, List.length_append] at kQ
          walk_at "rd"
          refine w_lenS (by omega) ?_
          walk_at "rd"
          refine w_lenS (by omega) ?_
          walk_at "rd"
          refine w_if (fun h4 => ?_) (fun h4 => ?_)
          · rw [if_pos (by omega)] at kQ
            walk_at "rd"
            refine w_newT (by show 2 ≤ 1000000; decide) fun p H3 hp s3 h3 => ?_
            exact kQ p H3 (at_pair h3 .s) s3
          · rw [if_neg (by omega)] at kQ
            walk_at "rd"
            refine w_addS (by omega) ?_
            refine w_newT (by show 2 ≤ 1000000; decide) fun p H3 hp s3 h3 => ?_
            exact kQ p H3 (at_pair h3 .s) s3
abbrev s_operate : Stmt := topS 6
abbrev N_operate : List Str := ["sign", "left", "right"]
theorem sc_operate : FnScope N_operate ["sign", "left", "right"] (defScope s_operate) := ⟨rfl, rfl, rfl, by decide +kernel, rfl, by decide +kernel, by decide +kernel⟩
def spOp (K : PySem.W.Frag) : Sp := fun vs H Q _ => ∃ (a : List Nat) (x y : V) (t u : Tr), vs = [T a, x, y] ∧ a ∈ SG ∧ TrAt K H x t ∧ TrAt K H y u ∧ VT t ∧ VT u ∧ ∀ p H', TrAt K H' (.ref p) (opM a t u) → Same H H' → Q (.ref p) H'
theorem ok_operate {f : Addr} {fd : FuncData} (F : Fun K "operate" "operate" s_operate f fd) (Y : Bn mg) (Z : OpTx mg) (c_are_equal : Cal P w K mg base 2 "_are_equal" (spAreEq K) []) (c_is_number : Cal P w K mg base 2 "_is_number" (spIsI K) []) (c_with_numbers : Cal P w K mg base 2 "_with_numbers" (spNums K) []) (c_with_texts : Cal P w K mg base 1 "_with_texts" (spTxs K) []) :
    FnOk P w K mg base CX0 3 f fd ["sign", "left", "right"] (spOp K) := by
  refine F.ok sc_operate (fun vs H Q E h => ?_) (fun cdv A outer s H vs Q E hr h => ?_)
  · obtain ⟨a, x, y, t, u, rfl, _⟩ := h
    rfl
  · obtain ⟨a, x, y, t, u, rfl, ha, hx, hy, ht, hu, kQ⟩ := h
    have nd := sc_operate.nd
    refine ⟨_, (pss_cons (ps_if (pt_cmpR op_eq (pv 0) pe_str (nomark _)) (pss_one (ps_ret (pe_tup (pa_cons pe_str (pa_cons (pe_c c_are_equal hr (by decide) rfl (pa_cons (pv 1) (pa_cons (pv 2) pa_nil))) pa_nil))))) pss_nil)
      (pss_cons (ps_if (PW.pt (pw_and (pt_val (pe_c c_is_number hr (by decide) rfl (pa_cons (pv 1) pa_nil))) (pw_and1 (pt_val (pe_c c_is_number hr (by decide) rfl (pa_cons (pv 2) pa_nil)))))) (pss_one (ps_ret (pe_c c_with_numbers hr (by decide) rfl (pa_cons (pv 0) (pa_cons (pv 1) (pa_cons (pv 2) pa_nil)))))) pss_nil)
      (pss_cons (ps_if (PW.pt (pw_and (pt_val (pe_callB call_isi (by rfl) Y.n_isinstance (by decide +kernel) (pa_cons (pv 1) (pa_cons (pe_bltn (v := .ty "str") (by rfl) Y.n_str (by decide +kernel) rfl) pa_nil)))) (pw_and1 (pt_val (pe_callB call_isi (by rfl) Y.n_isinstance (by decide +kernel) (pa_cons (pv 2) (pa_cons (pe_bltn (v := .ty "str") (by rfl) Y.n_str (by decide +kernel) rfl) pa_nil))))))) (pss_one (ps_ret (pe_c c_with_texts hr (by decide) rfl (pa_cons (pv 0) (pa_cons (pv 1) (pa_cons (pv 2) pa_nil)))))) pss_nil)
      (pss_one (ps_ret (pe_tup (pa_cons pe_str (pa_cons (pe_gc rfl Z.c_WRONG_KIND) pa_nil)))))))), ?_⟩
    rw [show L2.start N_operate [T a, x, y] = [some (T a), some x, some y] from rfl]
    unfold opM at kQ
    walk_at "rd"
    refine w_ifC (fun h1 => ?_) (fun h1 => ?_)
    · rw [if_pos h1] at kQ
      walk_at "rd"
      refine ⟨x, y, t, u, rfl, hx, hy, ht, hu, ?_⟩
      walk_at "rd"
      refine w_newT (by show 2 ≤ 1000000; decide) fun p H3 hp s3 h3 => ?_
      exact kQ p H3 (at_pair h3 .b) s3
    · rw [if_neg h1] at kQ
      walk_at "rd"
      refine ⟨x, t, rfl, hx, ?_⟩
      have bad : (∀ p H', TrAt K H' (.ref p) (badT "wrong kind") → Same H H' → Q (.ref p) H') → ∀ (p : Addr) (H3 : Hp), H p = none → Same H H3 → H3 p = some (.tup [T (cds "failure"), T (cds "wrong kind")]) → Q (.ref p) H3 := fun k p H3 hp s3 h3 => k p H3 (at_pair h3 .s) s3
      cases hx with
      | i =>
        refine ⟨_, rfl, L2.iteT ?_⟩
        walk_at "rd"
        refine ⟨y, u, rfl, hy, ?_⟩
        cases hy with
        | i =>
          refine ⟨_, rfl, L2.iteT ?_⟩
          walk_at "rd"
          exact ⟨a, _, _, rfl, (by have := hu.1; have := hu.2; omega), ha, h1, kQ⟩
        | _ => refine ⟨_, rfl, L2.iteF ?_⟩; walk_at "rd"; exact w_newT (by show 2 ≤ 1000000; decide) (bad kQ)
      | s =>
        refine ⟨_, rfl, L2.iteF ?_⟩
        walk_at "rd"
        cases hy with
        | s => walk_at "rd"; exact ⟨a, _, _, rfl, Nat.le_trans ht.1 (by decide), Nat.le_trans hu.1 (by decide), kQ⟩
        | _ => walk_at "rd"; exact w_newT (by show 2 ≤ 1000000; decide) (bad kQ)
      | _ => refine ⟨_, rfl, L2.iteF ?_⟩; walk_at "rd"; exact w_newT (by show 2 ≤ 1000000; decide) (bad kQ)
end
end
section
open PySem PySem.Spec PyProof.Rows L2
open C8 (Cal cal0 pe_c pe_gc pss_cut tCut)
local macro_rules | `(tactic| walk_at "r1") => `(tactic| first
  | with_reducible refine w_seq ?_
  | with_reducible refine w_next ?_
  | with_reducible refine w_var (by with_unfolding_all exact rfl) ?_
  | with_reducible refine w_asg ?_
  | with_reducible refine w_gname ?_
  | with_reducible refine w_ifS ?_
  | with_reducible refine w_test ?_
  | with_reducible refine w_tB ?_
  | with_reducible refine w_op ?_
  | with_reducible refine w_un ?_
  | with_reducible refine w_var (by with_unfolding_all exact rfl) ?_
  | with_reducible refine w_cT ?_
  | with_reducible refine w_str ?_
  | with_reducible refine w_c ?_
  | with_reducible refine w_i0 ?_
  | with_reducible refine w_intI ?_
  | with_reducible refine w_intB ?_
  | with_reducible refine w_cb ?_
  | with_reducible refine w_cons ?_
  | with_reducible refine w_nil ?_
  | with_reducible refine w_call ?_
  | with_reducible refine w_ret ?_
  | with_reducible refine w_retN ?_
  | with_reducible refine w_drop ?_
  | with_reducible refine w_gsub ?_
  | with_reducible refine w_sl ?_
  | with_reducible refine w_part ?_
  | with_reducible refine w_nopart ?_
  | with_reducible refine w_lst ?_
  | with_reducible refine w_tup ?_
  | with_reducible refine w_bm ?_
  | with_reducible refine w_bm0 ?_
  | with_reducible refine w_bmT ?_
  | with_reducible refine w_and ?_
  | with_reducible refine w_or ?_
  | with_reducible refine w_not ?_
  | with_reducible refine w_andV ?_
  | with_reducible refine w_orV ?_
  | with_reducible refine w_notV ?_
  | with_reducible refine w_inC ?_
  | with_reducible refine w_ninC ?_
  | with_reducible refine w_ord ?_
  | with_reducible refine w_max ?_
  | with_reducible refine w_ifE ?_
  | with_reducible refine w_forR ?_
  | with_reducible refine w_forL ?_
  | with_reducible refine w_forT ?_
  | with_reducible refine w_forS ?_
  | with_reducible refine w_forEl ?_
  | with_reducible refine w_lcR ?_
  | with_reducible refine w_lcL ?_
  | with_reducible refine w_yes ?_
  | with_reducible refine w_tru ?_
  | with_reducible refine w_isN ?_
  | with_reducible refine w_notN ?_
  | with_reducible refine isi_s_tuple ?_
  | with_reducible refine isi_s_bool ?_
  | with_reducible refine isi_s_int ?_
  | with_reducible refine isi_s_str ?_
  | with_reducible refine isi_i_tuple ?_
  | with_reducible refine isi_i_bool ?_
  | with_reducible refine isi_i_int ?_
  | with_reducible refine isi_i_str ?_
  | with_reducible refine isi_b_tuple ?_
  | with_reducible refine isi_b_bool ?_
  | with_reducible refine isi_b_int ?_
  | with_reducible refine isi_b_str ?_
  | with_reducible refine isi_n_tuple ?_
  | with_reducible refine isi_n_bool ?_
  | with_reducible refine isi_n_int ?_
  | with_reducible refine isi_n_str ?_
  | ((with_reducible refine isi_t_tuple ?hSq ?_); (case hSq => exact ⟨_, by assumption⟩))
  | ((with_reducible refine isi_t_bool ?hSq ?_); (case hSq => exact ⟨_, by assumption⟩))
  | ((with_reducible refine isi_t_int ?hSq ?_); (case hSq => exact ⟨_, by assumption⟩))
  | ((with_reducible refine isi_t_str ?hSq ?_); (case hSq => exact ⟨_, by assumption⟩))
  | with_reducible refine ifB_tt ?_
  | with_reducible refine ifB_ff ?_
  | with_reducible refine ifB_tf ?_
  | with_reducible refine ifB_ft ?_
  | with_reducible refine ifN_s ?_
  | with_reducible refine ifN_i ?_
  | with_reducible refine ifN_b ?_
  | with_reducible refine ifN_r ?_
  | with_reducible refine ifN_n ?_
  | with_reducible refine ifM_s ?_
  | with_reducible refine ifM_i ?_
  | with_reducible refine ifM_b ?_
  | with_reducible refine ifM_r ?_
  | with_reducible refine ifM_n ?_
  | ((with_reducible show rLenL _ [V.ref _] _ _); first | refine w_lenL (SqL.of (by assumption)) ?_ | refine w_lenL (by assumption) ?_ | refine w_lenT (by assumption) ?_)
  | ((with_reducible show rIxL _ (V.ref _) (V.int _) _ _); refine w_ixL (SqL.of (by assumption)) (by with_unfolding_all exact rfl) ?_)
  | ((with_reducible show rIxT _ (V.ref _) (V.int _) _ _); refine w_ixT (by assumption) (by with_unfolding_all exact rfl) ?_)
  | with_reducible refine w_abs ?_
  | with_reducible refine w_neg ?_
  | with_reducible refine w_ltS ?_
  | with_reducible refine w_leS ?_
  | with_reducible refine w_eq (by with_unfolding_all exact rfl) ?_
  | with_reducible refine w_ne (by with_unfolding_all exact rfl) ?_
  | with_reducible refine L2.iteF ?_
  | with_reducible refine L2.iteT ?_
  | with_reducible refine w_nt ?_
  | with_reducible refine w_nf ?_
  | with_reducible refine ex_int ?_
  | with_reducible refine ex_bl ?_)
local macro_rules | `(tactic| walk_at "rd") => `(tactic| repeat walk_at "r1")
local macro_rules | `(tactic| walk_at "up") => `(tactic| (refine ⟨_, _, rfl, .inl (.inl (by assumption)), (by rfl), ?_⟩; refine ⟨_, _, rfl, ?_⟩; walk_at "rd"; refine ⟨_, _, rfl, ?_⟩; walk_at "rd"; refine ⟨rfl, ?_⟩; walk_at "rd"))

def absI (x : Int) : Int := if x < 0 then -x else x
theorem fdiv_pos {x y q : Int} (hy : 0 < y) (h1 : q * y ≤ x) (h2 : x < q * y + y) : x.fdiv y = q := by
  rw [Int.fdiv_eq_ediv_of_nonneg _ (by omega)]
  exact ((Int.ediv_emod_unique (a := x) (b := y) (r := x - q * y) (q := q) hy).mpr ⟨by rw [Int.mul_comm y q]; omega, by omega, by omega⟩).1
theorem fdiv_neg' {x y : Int} : x.fdiv (-y) = (-x).fdiv y := by
  rw [← Int.neg_fdiv_neg, Int.neg_neg]
/-- the quotient as the law reckons it -/
def q0 (x y : Int) : Int := (absI x).fdiv (absI y)
def q1 (x y : Int) : Int := if decide (x < 0) ≠ decide (y < 0) ∧ q0 x y * absI y ≠ absI x then q0 x y + 1 else q0 x y
def q2 (x y : Int) : Int := if decide (x < 0) ≠ decide (y < 0) then -q1 x y else q1 x y
theorem q2_eq {x y : Int} (hy : y ≠ 0) : q2 x y = x.fdiv y := by
  have hb : 0 < absI y := by unfold absI; split <;> omega
  have ha : 0 ≤ absI x := by unfold absI; split <;> omega
  have e0 : q0 x y = absI x / absI y := Int.fdiv_eq_ediv_of_nonneg _ (by omega)
  have d1 : q0 x y * absI y ≤ absI x := by rw [e0]; exact Int.ediv_mul_le _ (by omega)
  have d2 : absI x < q0 x y * absI y + absI y := by
    rw [e0]
    have := Int.lt_ediv_add_one_mul_self (absI x) hb
    rw [Int.add_mul, Int.one_mul] at this
    exact this
  generalize hq : q0 x y = q at d1 d2
  unfold q2 q1
  rw [hq]
  by_cases hx0 : x < 0 <;> by_cases hy0 : y < 0
  · have ex : absI x = -x := if_pos hx0
    have ey : absI y = -y := if_pos hy0
    rw [ex, ey] at d1 d2
    rw [if_neg (by simp [hx0, hy0]), if_neg (by simp [hx0, hy0]), ← Int.neg_fdiv_neg]
    exact (fdiv_pos (by omega) d1 d2).symm
  · have ex : absI x = -x := if_pos hx0
    have ey : absI y = y := if_neg hy0
    rw [ex, ey] at d1 d2 ⊢
    rw [if_pos (by simp [hx0, hy0])]
    by_cases hr : q * y = -x
    · rw [if_neg (by simp [hr])]
      refine (fdiv_pos (by omega) ?_ ?_).symm
      · rw [Int.neg_mul]; omega
      · rw [Int.neg_mul]; omega
    · rw [if_pos ⟨by simp [hx0, hy0], hr⟩]
      refine (fdiv_pos (by omega) ?_ ?_).symm
      · rw [Int.neg_mul, Int.add_mul, Int.one_mul]; omega
      · rw [Int.neg_mul, Int.add_mul, Int.one_mul]; omega
  · have ex : absI x = x := if_neg hx0
    have ey : absI y = -y := if_pos hy0
    rw [ex, ey] at d1 d2 ⊢
    rw [if_pos (by simp [hx0, hy0])]
    have e : x.fdiv y = (-x).fdiv (-y) := (Int.neg_fdiv_neg ..).symm
    rw [e]
    by_cases hr : q * -y = x
    · rw [if_neg (by simp [hr])]
      refine (fdiv_pos (by omega) ?_ ?_).symm
      · rw [Int.neg_mul]; omega
      · rw [Int.neg_mul]; omega
    · rw [if_pos ⟨by simp [hx0, hy0], hr⟩]
      refine (fdiv_pos (by omega) ?_ ?_).symm
      · rw [Int.neg_mul, Int.add_mul, Int.one_mul]; omega
      · rw [Int.neg_mul, Int.add_mul, Int.one_mul]; omega
  · have ex : absI x = x := if_neg hx0
    have ey : absI y = y := if_neg hy0
    rw [ex, ey] at d1 d2
    rw [if_neg (by simp [hx0, hy0]), if_neg (by simp [hx0, hy0])]
    exact (fdiv_pos (by omega) d1 d2).symm
theorem w_ifBn {p q : Bool} {A B : Prop} (h1 : p ≠ q → A) (h2 : p = q → B) : if (!decide (V.bl p = V.bl q)) = true then A else B :=
  w_ifn (fun h => h1 fun e => h (by rw [e])) fun h => h2 (V.bl.inj h)
theorem sg_cases {a : List Nat} (ha : a ∈ SG) : a = cds "=" ∨ a = cds "<" ∨ a = cds "<=" ∨ a = cds "+" ∨ a = cds "-" ∨ a = cds "*" ∨ a = cds "/" := by
  unfold SG at ha
  simp only [List.map_cons, List.map_nil, List.mem_cons, List.not_mem_nil, or_false] at ha
  exact ha
theorem le_txt {x y : List Nat} : (!decide (y < x)) = (decide (x < y) || decide (x = y)) := by
  rw [Bool.eq_iff_iff]
  simp [List.not_lt, List.le_iff_lt_or_eq]
section
variable {P : Program} {w : World} {K : PySem.W.Frag} {mg : Str → Option Value} {base : Heap}
abbrev s_law_due : Stmt := topS 21
abbrev N_law_due : List Str := ["sign", "left", "right", "quotient"]
theorem sc_law_due : FnScope N_law_due ["sign", "left", "right"] (defScope s_law_due) := ⟨rfl, rfl, rfl, by decide +kernel, rfl, by decide +kernel, by decide +kernel⟩
theorem ok_law_due {f : Addr} {fd : FuncData} (F : Fun K "_law_due" "_law_due" s_law_due f fd) (Y : Bn mg) (c_law_equal : Cal P w K mg base 3 "_law_equal" (spEqual K 2) []) (c_law_number : Cal P w K mg base 1 "_law_number" (spIsI K) []) (c_law_result : Cal P w K mg base 1 "_law_result" (spRes K) []) :
    FnOk P w K mg base CX0 4 f fd ["sign", "left", "right"] (spOp K) := by
  refine F.ok sc_law_due (fun vs H Q E h => ?_) (fun cdv A outer s H vs Q E hr h => ?_)
  · obtain ⟨a, x, y, t, u, rfl, _⟩ := h
    rfl
  · obtain ⟨a, x, y, t, u, rfl, ha, hx, hy, ht, hu, kQ⟩ := h
    have nd := sc_law_due.nd
    refine ⟨_, (pss_cons (ps_if (pt_cmpR op_eq (pv 0) pe_str (nomark _)) (pss_one (ps_ret (pe_tup (pa_cons pe_str (pa_cons (pe_c c_law_equal hr (by omega) rfl (pa_cons (pv 1) (pa_cons (pv 2) pa_nil))) pa_nil))))) pss_nil)
      (pss_cons (ps_if (PW.pt (pw_and (pt_val (pe_c c_law_number hr (by decide) rfl (pa_cons (pv 1) pa_nil))) (pw_and1 (pt_val (pe_c c_law_number hr (by decide) rfl (pa_cons (pv 2) pa_nil)))))) (pss_cons (ps_if (pt_cmpR op_eq (pv 0) pe_str (nomark _)) (pss_cons (ps_if (pt_cmpR op_eq (pv 2) pe_int (nomark _)) (pss_one (ps_ret (pe_tup (pa_cons pe_str (pa_cons pe_str pa_nil))))) pss_nil)
      (pss_cons (ps_set (i := 3) nd rfl (Or.inl rfl) (pe_op op_fdivN (pe_callB call_absI (by rfl) Y.n_abs (by decide +kernel) (pa_cons (pv 1) pa_nil)) (pe_callB call_absI (by rfl) Y.n_abs (by decide +kernel) (pa_cons (pv 2) pa_nil))))
      (pss_cut (ps_if (PW.pt (pw_and (pt_cmpR op_ne (pe_cmpR op_lt (pv 1) pe_int (nomark _)) (pe_cmpR op_lt (pv 2) pe_int (nomark _)) (nomark _)) (pw_and1 (pt_cmpR op_ne (pe_op op_mul (pv 3) (pe_callB call_absI (by rfl) Y.n_abs (by decide +kernel) (pa_cons (pv 2) pa_nil))) (pe_callB call_absI (by rfl) Y.n_abs (by decide +kernel) (pa_cons (pv 1) pa_nil)) (nomark _))))) (pss_one (ps_set (i := 3) nd rfl (Or.inl rfl) (pe_op op_add (pv 3) pe_int))) pss_nil)
      (pss_cut (ps_if (pt_cmpR op_ne (pe_cmpR op_lt (pv 1) pe_int (nomark _)) (pe_cmpR op_lt (pv 2) pe_int (nomark _)) (nomark _)) (pss_one (ps_set (i := 3) nd rfl (Or.inl rfl) (pe_un un_neg (pv 3)))) pss_nil)
      (pss_one (ps_ret (pe_c c_law_result hr (by decide) rfl (pa_cons (pv 3) pa_nil)))))))) pss_nil)
      (pss_cons (ps_if (pt_cmpR op_eq (pv 0) pe_str (nomark _)) (pss_one (ps_ret (pe_c c_law_result hr (by decide) rfl (pa_cons (pe_op op_add (pv 1) (pv 2)) pa_nil)))) pss_nil)
      (pss_cons (ps_if (pt_cmpR op_eq (pv 0) pe_str (nomark _)) (pss_one (ps_ret (pe_c c_law_result hr (by decide) rfl (pa_cons (pe_op op_sub (pv 1) (pv 2)) pa_nil)))) pss_nil)
      (pss_cons (ps_if (pt_cmpR op_eq (pv 0) pe_str (nomark _)) (pss_one (ps_ret (pe_c c_law_result hr (by decide) rfl (pa_cons (pe_op op_mul (pv 1) (pv 2)) pa_nil)))) pss_nil)
      (pss_one (ps_ret (pe_tup (pa_cons pe_str (pa_cons (pe_or (pe_cmpR op_lt (pv 1) (pv 2) (nomark _)) (pe_one (pe_and (pe_cmpR op_eq (pv 0) pe_str (nomark _)) (pe_one (pe_cmpR op_eq (pv 1) (pv 2) (nomark _)))))) pa_nil))))))))) pss_nil)
      (pss_cons (ps_if (PW.pt (pw_and (pt_val (pe_callB call_isi (by rfl) Y.n_isinstance (by decide +kernel) (pa_cons (pv 1) (pa_cons (pe_bltn (v := .ty "str") (by rfl) Y.n_str (by decide +kernel) rfl) pa_nil)))) (pw_and1 (pt_val (pe_callB call_isi (by rfl) Y.n_isinstance (by decide +kernel) (pa_cons (pv 2) (pa_cons (pe_bltn (v := .ty "str") (by rfl) Y.n_str (by decide +kernel) rfl) pa_nil))))))) (pss_cons (ps_if (pt_cmpR op_eq (pv 0) pe_str (nomark _)) (pss_one (ps_ret (pe_c c_law_result hr (by decide) rfl (pa_cons (pe_op op_addS (pv 1) (pv 2)) pa_nil)))) pss_nil)
      (pss_one (ps_if (PW.pt (pw_or (pt_cmpR op_eq (pv 0) pe_str (nomark _)) (pw_or1 (pt_cmpR op_eq (pv 0) pe_str (nomark _))))) (pss_one (ps_ret (pe_tup (pa_cons pe_str (pa_cons (pe_or (pe_cmpR op_ltS (pv 1) (pv 2) (nomark _)) (pe_one (pe_and (pe_cmpR op_eq (pv 0) pe_str (nomark _)) (pe_one (pe_cmpR op_eq (pv 1) (pv 2) (nomark _)))))) pa_nil))))) pss_nil))) pss_nil)
      (pss_one (ps_ret (pe_tup (pa_cons pe_str (pa_cons pe_str pa_nil)))))))), ?_⟩
    rw [show L2.start N_law_due [T a, x, y] = [some (T a), some x, some y, none] from rfl]
    have sg := sg_cases ha
    unfold opM at kQ
    walk_at "rd"
    refine w_ifC (fun h1 => ?_) (fun h1 => ?_)
    · rw [if_pos h1] at kQ
      walk_at "rd"
      refine ⟨x, y, t, u, rfl, hx, hy, ht.d, fun H1 s1 => ?_⟩
      refine w_newT (by show 2 ≤ 1000000; decide) fun p H3 hp s3 h3 => ?_
      exact kQ p H3 (at_pair h3 .b) (s1.trans s3)
    · rw [if_neg h1] at kQ
      walk_at "rd"
      refine ⟨x, t, rfl, hx, ?_⟩
      have bad : (∀ p H', TrAt K H' (.ref p) (badT "wrong kind") → Same H H' → Q (.ref p) H') → ∀ (p : Addr) (H3 : Hp), H p = none → Same H H3 → H3 p = some (.tup [T (cds "failure"), T (cds "wrong kind")]) → Q (.ref p) H3 := fun k p H3 hp s3 h3 => k p H3 (at_pair h3 .s) s3
      cases hx with
      | @i x =>
        refine ⟨_, rfl, L2.iteT ?_⟩
        walk_at "rd"
        refine ⟨y, u, rfl, hy, ?_⟩
        cases hy with
        | @i y =>
          refine ⟨_, rfl, L2.iteT ?_⟩
          have kQ' : ∀ (p : Addr) (H' : Hp), TrAt K H' (.ref p) (numM a x y) → Same H H' → Q (.ref p) H' := kQ
          have b1 := ht.1
          have b2 := ht.2
          have b3 := hu.1
          have b4 := hu.2
          unfold numM at kQ'
          walk_at "rd"
          refine w_ifC (fun h2 => ?_) (fun h2 => ?_)
          · rw [if_neg (by rw [h2]; decide +kernel), if_neg (by rw [h2]; decide +kernel)] at kQ'
            walk_at "rd"
            refine w_ifI (fun h3 => ?_) (fun h3 => ?_)
            · rw [if_pos ⟨h2, h3⟩] at kQ'
              walk_at "rd"
              refine w_newT (by show 2 ≤ 1000000; decide) fun p H3 hp s3 h3 => ?_
              exact kQ' p H3 (at_pair h3 .s) s3
            · rw [if_neg (fun z => h3 z.2)] at kQ'
              walk_at "rd"
              have eb : (if y < 0 then -y else y) = absI y := rfl
              have ea : (if x < 0 then -x else x) = absI x := rfl
              rw [ea, eb]
              have hb : 0 < absI y ∧ absI y ≤ 1000000000 := by unfold absI; constructor <;> split <;> omega
              refine w_i ⟨by omega, by omega⟩ ?_
              have eq0 : (absI x).fdiv (absI y) = q0 x y := rfl
              rw [eq0]
              walk_at "rd"
              refine ⟨fun σ' H' => H' = H ∧ σ' = [some (T a), some (.int x), some (.int y), some (.int (q1 x y))], ?_, ?_⟩
              · walk_at "rd"
                refine w_ifBn (fun h4 => ?_) (fun h4 => ?_)
                · walk_at "rd"
                  rw [eb]
                  refine w_mulR (by omega) ?_
                  walk_at "rd"
                  rw [ea]
                  refine w_ifIn (fun h5 => ?_) (fun h5 => ?_)
                  · walk_at "rd"
                    refine ⟨rfl, ?_⟩
                    have : q1 x y = q0 x y + 1 := if_pos ⟨h4, h5⟩
                    rw [this]
                    rfl
                  · refine ⟨rfl, ?_⟩
                    have : q1 x y = q0 x y := if_neg fun z => z.2 h5
                    rw [this]
                    rfl
                · refine ⟨rfl, ?_⟩
                  have : q1 x y = q0 x y := if_neg fun z => z.1 h4
                  rw [this]
                  rfl
              · rintro σ' H1 ⟨rfl, rfl⟩
                walk_at "rd"
                refine ⟨fun σ' H' => H' = H1 ∧ σ' = [some (T a), some (.int x), some (.int y), some (.int (q2 x y))], ?_, ?_⟩
                · walk_at "rd"
                  refine w_ifBn (fun h4 => ?_) (fun h4 => ?_)
                  · walk_at "rd"
                    refine ⟨rfl, ?_⟩
                    have : q2 x y = -q1 x y := if_pos h4
                    rw [this]
                    rfl
                  · refine ⟨rfl, ?_⟩
                    have : q2 x y = q1 x y := if_neg fun z => z h4
                    rw [this]
                · rintro σ' H2 ⟨rfl, rfl⟩
                  walk_at "rd"
                  refine ⟨_, _, rfl, .i, .inl ⟨_, rfl⟩, fun p H3 h3' s3 => kQ' p H3 ?_ s3⟩
                  have ec : calcM a x y = q2 x y := by
                    unfold calcM
                    rw [if_neg (by rw [h2]; decide +kernel), if_neg (by rw [h2]; decide +kernel), if_neg (by rw [h2]; decide +kernel), q2_eq h3]
                  rw [ec]
                  exact h3'
          · walk_at "rd"
            refine w_ifC (fun h3 => ?_) (fun h3 => ?_)
            · rw [if_neg (by rw [h3]; decide +kernel), if_neg (by rw [h3]; decide +kernel), if_neg (fun z => h2 z.1)] at kQ'
              have ec : calcM a x y = x + y := if_pos h3
              rw [ec] at kQ'
              walk_at "rd"
              exact ⟨_, _, rfl, .i, .inl ⟨_, rfl⟩, kQ'⟩
            · walk_at "rd"
              refine w_ifC (fun h4 => ?_) (fun h4 => ?_)
              · rw [if_neg (by rw [h4]; decide +kernel), if_neg (by rw [h4]; decide +kernel), if_neg (fun z => h2 z.1)] at kQ'
                have ec : calcM a x y = x - y := by unfold calcM; rw [if_neg h3, if_pos h4]
                rw [ec] at kQ'
                walk_at "rd"
                exact ⟨_, _, rfl, .i, .inl ⟨_, rfl⟩, kQ'⟩
              · walk_at "rd"
                refine w_ifC (fun h5 => ?_) (fun h5 => ?_)
                · rw [if_neg (by rw [h5]; decide +kernel), if_neg (by rw [h5]; decide +kernel), if_neg (fun z => h2 z.1)] at kQ'
                  have ec : calcM a x y = x * y := by unfold calcM; rw [if_neg h3, if_neg h4, if_pos h5]
                  rw [ec] at kQ'
                  walk_at "rd"
                  refine w_mulR (by omega) ?_
                  walk_at "rd"
                  exact ⟨_, _, rfl, .i, .inl ⟨_, rfl⟩, kQ'⟩
                · rcases sg with h | h | h | h | h | h | h
                  · exact absurd h h1
                  · rw [if_pos h] at kQ'
                    walk_at "rd"
                    refine w_if (fun h6 => ?_) (fun h6 => ?_)
                    · refine w_newT (by show 2 ≤ 1000000; decide) fun p H3 hp s3 h3 => ?_
                      rw [decide_eq_true h6] at kQ'
                      exact kQ' p H3 (at_pair h3 .b) s3
                    · walk_at "rd"
                      refine w_ifC (fun h7 => ?_) (fun h7 => ?_)
                      · rw [h] at h7; exact absurd h7 (by decide +kernel)
                      · refine w_newT (by show 2 ≤ 1000000; decide) fun p H3 hp s3 h3 => ?_
                        rw [decide_eq_false h6] at kQ'
                        exact kQ' p H3 (at_pair h3 .b) s3
                  · rw [if_neg (by rw [h]; decide +kernel), if_pos h] at kQ'
                    walk_at "rd"
                    refine w_if (fun h6 => ?_) (fun h6 => ?_)
                    · refine w_newT (by show 2 ≤ 1000000; decide) fun p H3 hp s3 h3 => ?_
                      rw [decide_eq_true (show x ≤ y by omega)] at kQ'
                      exact kQ' p H3 (at_pair h3 .b) s3
                    · walk_at "rd"
                      refine w_ifC (fun h7 => ?_) (fun h7 => ?_)
                      · walk_at "rd"
                        rw [decI]
                        refine w_newT (by show 2 ≤ 1000000; decide) fun p H3 hp s3 h3 => ?_
                        have e : decide (x = y) = decide (x ≤ y) := decide_eq_decide.mpr (by omega)
                        rw [← e] at kQ'
                        exact kQ' p H3 (at_pair h3 .b) s3
                      · exact absurd h h7
                  · exact absurd h h3
                  · exact absurd h h4
                  · exact absurd h h5
                  · exact absurd h h2
        | _ => refine ⟨_, rfl, L2.iteF ?_⟩; walk_at "rd"; exact w_newT (by show 2 ≤ 1000000; decide) (bad kQ)
      | @s x =>
        refine ⟨_, rfl, L2.iteF ?_⟩
        walk_at "rd"
        cases hy with
        | @s y =>
          have kQ' : ∀ (p : Addr) (H' : Hp), TrAt K H' (.ref p) (txM a x y) → Same H H' → Q (.ref p) H' := kQ
          have b1 := ht.1
          have b2 := hu.1
          unfold txM at kQ'
          walk_at "rd"
          refine w_ifC (fun h2 => ?_) (fun h2 => ?_)
          · rw [if_neg (by rw [h2]; decide +kernel), if_neg (by rw [h2]; decide +kernel), if_neg (fun z => z h2)] at kQ'
            walk_at "rd"
            refine w_addS (by omega) ?_
            exact ⟨_, _, rfl, .s, .inr ⟨_, rfl, by rw [List.length_append]; omega⟩, kQ'⟩
          · have low : ∀ (h : a = cds "<" ∨ a = cds "<="), (a = cds "<" → ∀ (p : Addr) (H' : Hp), TrAt K H' (.ref p) (okT (.b (decide (x < y)))) → Same H H' → Q (.ref p) H') ∧ (a = cds "<=" → ∀ (p : Addr) (H' : Hp), TrAt K H' (.ref p) (okT (.b (decide (x < y) || decide (x = y)))) → Same H H' → Q (.ref p) H') := fun _ =>
              ⟨fun e => by rw [if_pos e] at kQ'; exact kQ', fun e => by rw [if_neg (by rw [e]; decide +kernel), if_pos e, le_txt] at kQ'; exact kQ'⟩
            have tail : (a = cds "<" ∨ a = cds "<=") → if decide (x < y) = true then NewT [T (cds "value"), .bl true] H Q else if decide (T a = T (cds "<=")) = true then NewT [T (cds "value"), .bl (decide (T x = T y))] H Q else NewT [T (cds "value"), .bl false] H Q := fun hh => by
              obtain ⟨k1, k2⟩ := low hh
              refine w_if (fun h6 => ?_) (fun h6 => ?_)
              · refine w_newT (by show 2 ≤ 1000000; decide) fun p H3 hp s3 h3 => ?_
                rw [decide_eq_true h6] at k1 k2
                rcases hh with hh | hh
                · exact k1 hh p H3 (at_pair h3 .b) s3
                · exact k2 hh p H3 (at_pair h3 .b) s3
              · rw [decide_eq_false h6] at k1 k2
                refine w_ifT (fun h7 => ?_) (fun h7 => ?_)
                · rw [decT]
                  refine w_newT (by show 2 ≤ 1000000; decide) fun p H3 hp s3 h3 => ?_
                  exact k2 h7 p H3 (at_pair h3 .b) s3
                · refine w_newT (by show 2 ≤ 1000000; decide) fun p H3 hp s3 h3 => ?_
                  rcases hh with hh | hh
                  · exact k1 hh p H3 (at_pair h3 .b) s3
                  · exact absurd hh h7
            walk_at "rd"
            refine w_ifC (fun h3 => ?_) (fun h3 => ?_)
            · walk_at "rd"
              have z := tail (.inl h3)
              by_cases h6 : x < y
              · rw [if_pos (decide_eq_true h6)] at z ⊢; exact z
              · rw [if_neg (by simp [h6])] at z ⊢
                walk_at "rd"
                by_cases h7 : T a = T (cds "<=")
                · rw [if_pos (decide_eq_true h7)] at z
                  refine w_ifC (fun h8 => ?_) (fun h8 => absurd (T_inj h7) h8)
                  walk_at "rd"
                  exact z
                · rw [if_neg (by simp only [decide_eq_true_eq]; exact h7)] at z
                  refine w_ifC (fun h8 => absurd (by rw [h8]) h7) (fun h8 => ?_)
                  exact z
            · walk_at "rd"
              refine w_ifC (fun h4 => ?_) (fun h4 => ?_)
              · walk_at "rd"
                have z := tail (.inr h4)
                by_cases h6 : x < y
                · rw [if_pos (decide_eq_true h6)] at z ⊢; exact z
                · rw [if_neg (by simp [h6])] at z ⊢
                  walk_at "rd"
                  by_cases h7 : T a = T (cds "<=")
                  · rw [if_pos (decide_eq_true h7)] at z
                    refine w_ifC (fun h8 => ?_) (fun h8 => absurd (T_inj h7) h8)
                    walk_at "rd"
                    exact z
                  · rw [if_neg (by simp only [decide_eq_true_eq]; exact h7)] at z
                    refine w_ifC (fun h8 => absurd (by rw [h8]) h7) (fun h8 => ?_)
                    exact z
              · rw [if_neg h3, if_neg h4, if_pos h2] at kQ'
                walk_at "rd"
                exact w_newT (by show 2 ≤ 1000000; decide) (bad kQ')
        | _ => walk_at "rd"; exact w_newT (by show 2 ≤ 1000000; decide) (bad kQ)
      | _ => refine ⟨_, rfl, L2.iteF ?_⟩; walk_at "rd"; exact w_newT (by show 2 ≤ 1000000; decide) (bad kQ)
end
end
section
open PySem PySem.Spec PyProof.Rows L2
open C8 (Cal cal0 pe_c pe_gc pss_cut tCut)
local macro_rules | `(tactic| walk_at "r1") => `(tactic| first
  | with_reducible refine w_seq ?_
  | with_reducible refine w_next ?_
  | with_reducible refine w_var (by with_unfolding_all exact rfl) ?_
  | with_reducible refine w_asg ?_
  | with_reducible refine w_gname ?_
  | with_reducible refine w_ifS ?_
  | with_reducible refine w_test ?_
  | with_reducible refine w_tB ?_
  | with_reducible refine w_op ?_
  | with_reducible refine w_un ?_
  | with_reducible refine w_var (by with_unfolding_all exact rfl) ?_
  | with_reducible refine w_cT ?_
  | with_reducible refine w_str ?_
  | with_reducible refine w_c ?_
  | with_reducible refine w_i0 ?_
  | with_reducible refine w_intI ?_
  | with_reducible refine w_intB ?_
  | with_reducible refine w_cb ?_
  | with_reducible refine w_cons ?_
  | with_reducible refine w_nil ?_
  | with_reducible refine w_call ?_
  | with_reducible refine w_ret ?_
  | with_reducible refine w_retN ?_
  | with_reducible refine w_drop ?_
  | with_reducible refine w_gsub ?_
  | with_reducible refine w_sl ?_
  | with_reducible refine w_part ?_
  | with_reducible refine w_nopart ?_
  | with_reducible refine w_lst ?_
  | with_reducible refine w_tup ?_
  | with_reducible refine w_bm ?_
  | with_reducible refine w_bm0 ?_
  | with_reducible refine w_bmT ?_
  | with_reducible refine w_and ?_
  | with_reducible refine w_or ?_
  | with_reducible refine w_not ?_
  | with_reducible refine w_andV ?_
  | with_reducible refine w_orV ?_
  | with_reducible refine w_notV ?_
  | with_reducible refine w_inC ?_
  | with_reducible refine w_ninC ?_
  | with_reducible refine w_ord ?_
  | with_reducible refine w_max ?_
  | with_reducible refine w_ifE ?_
  | with_reducible refine w_forR ?_
  | with_reducible refine w_forL ?_
  | with_reducible refine w_forT ?_
  | with_reducible refine w_forS ?_
  | with_reducible refine w_forEl ?_
  | with_reducible refine w_lcR ?_
  | with_reducible refine w_lcL ?_
  | with_reducible refine w_yes ?_
  | with_reducible refine w_tru ?_
  | with_reducible refine w_isN ?_
  | with_reducible refine w_notN ?_
  | with_reducible refine isi_s_tuple ?_
  | with_reducible refine isi_s_bool ?_
  | with_reducible refine isi_s_int ?_
  | with_reducible refine isi_s_str ?_
  | with_reducible refine isi_i_tuple ?_
  | with_reducible refine isi_i_bool ?_
  | with_reducible refine isi_i_int ?_
  | with_reducible refine isi_i_str ?_
  | with_reducible refine isi_b_tuple ?_
  | with_reducible refine isi_b_bool ?_
  | with_reducible refine isi_b_int ?_
  | with_reducible refine isi_b_str ?_
  | with_reducible refine isi_n_tuple ?_
  | with_reducible refine isi_n_bool ?_
  | with_reducible refine isi_n_int ?_
  | with_reducible refine isi_n_str ?_
  | ((with_reducible refine isi_t_tuple ?hSq ?_); (case hSq => exact ⟨_, by assumption⟩))
  | ((with_reducible refine isi_t_bool ?hSq ?_); (case hSq => exact ⟨_, by assumption⟩))
  | ((with_reducible refine isi_t_int ?hSq ?_); (case hSq => exact ⟨_, by assumption⟩))
  | ((with_reducible refine isi_t_str ?hSq ?_); (case hSq => exact ⟨_, by assumption⟩))
  | with_reducible refine ifB_tt ?_
  | with_reducible refine ifB_ff ?_
  | with_reducible refine ifB_tf ?_
  | with_reducible refine ifB_ft ?_
  | with_reducible refine ifN_s ?_
  | with_reducible refine ifN_i ?_
  | with_reducible refine ifN_b ?_
  | with_reducible refine ifN_r ?_
  | with_reducible refine ifN_n ?_
  | with_reducible refine ifM_s ?_
  | with_reducible refine ifM_i ?_
  | with_reducible refine ifM_b ?_
  | with_reducible refine ifM_r ?_
  | with_reducible refine ifM_n ?_
  | ((with_reducible show rLenL _ [V.ref _] _ _); first | refine w_lenL (SqL.of (by assumption)) ?_ | refine w_lenL (by assumption) ?_ | refine w_lenT (by assumption) ?_)
  | ((with_reducible show rIxL _ (V.ref _) (V.int _) _ _); refine w_ixL (SqL.of (by assumption)) (by with_unfolding_all exact rfl) ?_)
  | ((with_reducible show rIxT _ (V.ref _) (V.int _) _ _); refine w_ixT (by assumption) (by with_unfolding_all exact rfl) ?_)
  | with_reducible refine w_abs ?_
  | with_reducible refine w_neg ?_
  | with_reducible refine w_ltS ?_
  | with_reducible refine w_leS ?_
  | with_reducible refine w_eq (by with_unfolding_all exact rfl) ?_
  | with_reducible refine w_ne (by with_unfolding_all exact rfl) ?_
  | with_reducible refine L2.iteF ?_
  | with_reducible refine L2.iteT ?_
  | with_reducible refine w_nt ?_
  | with_reducible refine w_nf ?_
  | with_reducible refine ex_int ?_
  | with_reducible refine ex_bl ?_)
local macro_rules | `(tactic| walk_at "rd") => `(tactic| repeat walk_at "r1")
local macro_rules | `(tactic| walk_at "up") => `(tactic| (refine ⟨_, _, rfl, .inl (.inl (by assumption)), (by rfl), ?_⟩; refine ⟨_, _, rfl, ?_⟩; walk_at "rd"; refine ⟨_, _, rfl, ?_⟩; walk_at "rd"; refine ⟨rfl, ?_⟩; walk_at "rd"))

theorem opM_d {a : List Nat} {t u : Tr} : TrD 2 (opM a t u) := by
  have two : ∀ {a : List Nat} {t : Tr}, TrD 1 t → TrD 2 (.t [.s a, t]) := fun {a t} h => ⟨by show 2 < 1000000; decide, fun x hx => by
    rcases List.mem_cons.mp hx with e | hx
    · rw [e]; exact True.intro
    · rw [List.mem_singleton.mp hx]; exact h⟩
  have ok : ∀ {b}, TrD 2 (okT (.b b)) := two True.intro
  have bad : ∀ {m}, TrD 2 (badT m) := two True.intro
  have ri : ∀ {x}, TrD 2 (resT (.i x)) := fun {x} => by rw [resT_i]; split; exact bad; exact two True.intro
  have rs : ∀ {x}, TrD 2 (resT (.s x)) := fun {x} => by rw [resT_s]; split; exact bad; exact two True.intro
  unfold opM
  split
  · exact ok
  · split
    · unfold numM; repeat' split
      all_goals first | exact ok | exact bad | exact ri
    · unfold txM; repeat' split
      all_goals first | exact ok | exact bad | exact rs
    · exact bad
section
variable {P : Program} {w : World} {K : PySem.W.Frag} {mg : Str → Option Value} {base : Heap}
abbrev s_law : Stmt := topS 22
abbrev N_law : List Str := ["script", "k", "src", "sign", "left", "right", "actual"]
theorem sc_law : FnScope N_law ["script"] (defScope s_law) := ⟨rfl, rfl, rfl, by decide +kernel, rfl, by decide +kernel, by decide +kernel⟩
def spLaw (K : PySem.W.Frag) : Sp := fun vs H Q _ => ∃ (a : Addr) (ns : List Int), vs = [.ref a] ∧ SqL K H a (ns.map V.int) ∧ ns.length ≤ 63 ∧ ∀ H', Q (.bl true) H'
theorem ok_law {f : Addr} {fd : FuncData} (F : Fun K "law" "law" s_law f fd) (Y : Bn mg) (c_law_source : Cal P w K mg base 1 "_law_source" (spSource K) []) (c_law_draw : Cal P w K mg base 1 "_law_draw" spDrawB []) (c_law_choice : Cal P w K mg base 2 "_law_choice" spChoice []) (c_law_value : Cal P w K mg base 3 "_law_value" (spValue K) [])
    (coperate : Cal P w K mg base 3 "operate" (spOp K) []) (c_law_equal : Cal P w K mg base 3 "_law_equal" (spEqual K 2) []) (c_law_due : Cal P w K mg base 4 "_law_due" (spOp K) []) : FnOk P w K mg base CX0 5 f fd ["script"] (spLaw K) := by
  refine F.ok sc_law (fun vs H Q E h => ?_) (fun cdv A outer s H vs Q E hr h => ?_)
  · obtain ⟨a, ns, rfl, _⟩ := h
    rfl
  · obtain ⟨a, ns, rfl, hA, hlen, kQ⟩ := h
    have nd := sc_law.nd
    refine ⟨_, (pss_cons (ps_for PassesOwn.never rfl (pi_range1 rfl Y.n_range (pa_cons pe_int pa_nil)) (pg_name (i := 1) nd rfl (Or.inl rfl)) (pss_cons (ps_set (i := 2) nd rfl (Or.inl rfl) (pe_c c_law_source hr (by decide) rfl (pa_cons (pv 0) (pa_cons (pv 1) pa_nil))))
      (pss_cons (ps_set (i := 3) nd rfl (Or.inl rfl) (pe_c c_law_choice hr (by decide) rfl (pa_cons (pv 2) (pa_cons (pe_lst (pa_cons pe_str (pa_cons pe_str (pa_cons pe_str (pa_cons pe_str (pa_cons pe_str (pa_cons pe_str (pa_cons pe_str pa_nil)))))))) pa_nil))))
      (pss_cons (ps_set (i := 4) nd rfl (Or.inl rfl) (pe_c c_law_value hr (by decide) rfl (pa_cons (pv 2) pa_nil)))
      (pss_cons (ps_set (i := 5) nd rfl (Or.inl rfl) (pe_c c_law_value hr (by decide) rfl (pa_cons (pv 2) pa_nil)))
      (pss_cut (ps_if (pt_cmpR op_eq (pe_c c_law_draw hr (by decide) rfl (pa_cons (pv 2) (pa_cons pe_int pa_nil))) pe_int (nomark _)) (pss_one (ps_set (i := 5) nd rfl (Or.inl rfl) (pv 4))) pss_nil)
      (pss_cons (ps_set (i := 6) nd rfl (Or.inl rfl) (pe_c coperate hr (by decide) rfl (pa_cons (pv 3) (pa_cons (pv 4) (pa_cons (pv 5) pa_nil)))))
      (pss_one (ps_if (pt_not (pt_val (pe_c c_law_equal hr (by omega) rfl (pa_cons (pv 6) (pa_cons (pe_c c_law_due hr (by decide) rfl (pa_cons (pv 3) (pa_cons (pv 4) (pa_cons (pv 5) pa_nil)))) pa_nil))))) (pss_one (ps_ret pe_bl)) pss_nil)))))))))
      (pss_one (ps_ret pe_bl))), ?_⟩
    rw [show L2.start N_law [.ref a] = [some (.ref a), none, none, none, none, none, none] from rfl]
    walk_at "rd"
    refine for_R (fun i σ' H' => ∃ x1 x2 x3 x4 x5 x6 : Option V, σ' = [some (.ref a), x1, x2, x3, x4, x5, x6] ∧ Same H H') (by decide) (by decide) ⟨_, _, _, _, _, _, rfl, fun _ _ h => h⟩ ?_ ?_
    · rintro i σ' H1 hi ⟨x1, x2, x3, x4, x5, x6, rfl, s1⟩
      have i0 : (0 : Int) + (i : Int) = (i : Int) := Int.zero_add _
      rw [i0]
      walk_at "rd"
      refine ⟨a, ns, i, rfl, Same.seq s1 hA, by omega, fun S H2 hS2 s2 hS0 => ?_⟩
      walk_at "rd"
      refine w_newL (by show 7 ≤ 1000000; decide) fun N H3 hN s3 h3 => ?_
      walk_at "rd"
      refine use_choice hS2 hN s3 h3 (by show 0 < 7; decide) (by show 7 ≤ 1000000; decide) fun sg hsg H4 hS4 f4 => ?_
      obtain ⟨g, hg, rfl⟩ : ∃ g ∈ SG, sg = T g := by
        rcases List.mem_cons.mp hsg with e | hsg
        · exact ⟨_, List.mem_of_elem_eq_true (by decide +kernel), e⟩
        rcases List.mem_cons.mp hsg with e | hsg
        · exact ⟨_, List.mem_of_elem_eq_true (by decide +kernel), e⟩
        rcases List.mem_cons.mp hsg with e | hsg
        · exact ⟨_, List.mem_of_elem_eq_true (by decide +kernel), e⟩
        rcases List.mem_cons.mp hsg with e | hsg
        · exact ⟨_, List.mem_of_elem_eq_true (by decide +kernel), e⟩
        rcases List.mem_cons.mp hsg with e | hsg
        · exact ⟨_, List.mem_of_elem_eq_true (by decide +kernel), e⟩
        rcases List.mem_cons.mp hsg with e | hsg
        · exact ⟨_, List.mem_of_elem_eq_true (by decide +kernel), e⟩
        exact ⟨_, List.mem_of_elem_eq_true (by decide +kernel), List.mem_singleton.mp hsg⟩
      walk_at "rd"
      refine ⟨S, rfl, hS4, fun x t H5 hx ht hS5 f5 => ?_⟩
      walk_at "rd"
      refine ⟨S, rfl, hS5, fun y u H6 hy hu hS6 f6 => ?_⟩
      have hx6 := hS5.tr f6 hx
      walk_at "rd"
      refine ⟨fun σ' H' => Same H H' ∧ TrAt K H' x t ∧ ∃ (y : V) (u : Tr), σ' = [some (.ref a), some (.int (i : Int)), some (.ref S), some (T g), some x, some y, x6] ∧ TrAt K H' y u ∧ VT u, ?_, ?_⟩
      · walk_at "rd"
        refine use_drawB hS6 (by decide) (by decide) fun r H7 r0 r1 hS7 f7 => ?_
        have hx7 := hS6.tr f7 hx6
        have hy7 := hS6.tr f7 hy
        have s17 : Same H H7 := same_of_but (s1.free hS0) (((s1.trans s2).trans s3)) (((f4.trans f5).trans f6).trans f7)
        walk_at "rd"
        refine w_ifI (fun _ => ?_) (fun _ => ?_)
        · walk_at "rd"
          exact ⟨s17, hx7, x, t, rfl, hx7, ht⟩
        · exact ⟨s17, hx7, y, u, rfl, hy7, hu⟩
      · rintro σ' H7 ⟨s17, hx7, y, u, rfl, hy8, hu⟩
        walk_at "rd"
        refine ⟨g, x, y, t, u, rfl, hg, hx7, hy8, ht, hu, fun p H9 h9 s9 => ?_⟩
        walk_at "rd"
        refine ⟨g, x, y, t, u, rfl, hg, hx7.same s9, hy8.same s9, ht, hu, fun q H10 h10 s10 => ?_⟩
        refine ⟨_, _, _, _, rfl, h9.same s10, h10, opM_d, fun H11 s11 => ?_⟩
        rw [eqTr_refl]
        walk_at "rd"
        exact ⟨_, _, _, _, _, _, rfl, ((s17.trans s9).trans s10).trans s11⟩
    · rintro σ' H1 ⟨x1, x2, x3, x4, x5, x6, rfl, s1⟩
      walk_at "rd"
      exact kQ _
end
end
section
open PySem PySem.Spec PyProof.Rows L2
open C8 (Cal cal0 pe_c pe_gc pss_cut tCut)
theorem all_mk {P : Program} {w : World} {K : PySem.W.Frag} {h : Heap} {mg : Str → Option Value} {fa f0 f1 f2 f3 f4 f5 f6 f7 f8 f9 f10 f11 f12 f13 f14 f15 : Addr} (X : K.In h) (G : h.Ns mainGlobals mg) (hfa : mg "law" = some (.ref fa))
    {od0 an0 od1 an1 od2 an2 od3 an3 od4 an4 od5 an5 od6 an6 od7 an7 od8 an8 od9 an9 od10 an10 od11 an11 od12 an12 od13 an13 od14 an14 od15 an15 : Option Addr} {sl0 sl1 sl2 sl3 sl4 sl5 sl6 sl7 sl8 sl9 sl10 sl11 sl12 sl13 sl14 sl15 : Array (Option Value)} {oc0 kV0 dc0 pm0 cd0 ct0 oc1 kV1 dc1 pm1 cd1 ct1 oc2 kV2 dc2 pm2 cd2 ct2 oc3 kV3 dc3 pm3 cd3 ct3 oc4 kV4 dc4 pm4 cd4 ct4 oc5 kV5 dc5 pm5 cd5 ct5 oc6 kV6 dc6 pm6 cd6 ct6 oc7 kV7 dc7 pm7 cd7 ct7 oc8 kV8 dc8 pm8 cd8 ct8 oc9 kV9 dc9 pm9 cd9 ct9 oc10 kV10 dc10 pm10 cd10 ct10 oc11 kV11 dc11 pm11 cd11 ct11 oc12 kV12 dc12 pm12 cd12 ct12 oc13 kV13 dc13 pm13 cd13 ct13 oc14 kV14 dc14 pm14 cd14 ct14 oc15 kV15 dc15 pm15 cd15 ct15 : Value} {x_WRONG_KIND : Str} {t_WRONG_KIND : PySem.Tok} {x_BY_NOTHING : Str} {t_BY_NOTHING : PySem.Tok} {x_TOO_LARGE : Str} {t_TOO_LARGE : PySem.Tok} {t_GREATEST_NUMBER : PySem.Tok} {t_LONGEST_TEXT : PySem.Tok}
    (a0 : PySem.W.nsIn K mainGlobals "operate" = some (some (.ref f0)))
    (l0 : K.lookup f0 = some ⟨oc0, od0, .func (PySem.W.fnOf "operate" "operate" (defArgs s_operate) (defBody s_operate) (defScope s_operate) .none kV0 dc0 pm0 an0 cd0 ct0), sl0⟩)
    (c0 : PySem.W.codeIn K cd0 "operate" = true)
    (k0 : PySem.W.keepIn K (.ref f0) = true)
    (a1 : PySem.W.nsIn K mainGlobals "is_truth" = some (some (.ref f1)))
    (l1 : K.lookup f1 = some ⟨oc1, od1, .func (PySem.W.fnOf "is_truth" "is_truth" (defArgs s_is_truth) (defBody s_is_truth) (defScope s_is_truth) .none kV1 dc1 pm1 an1 cd1 ct1), sl1⟩)
    (c1 : PySem.W.codeIn K cd1 "is_truth" = true)
    (k1 : PySem.W.keepIn K (.ref f1) = true)
    (a2 : PySem.W.nsIn K mainGlobals "_are_equal" = some (some (.ref f2)))
    (l2 : K.lookup f2 = some ⟨oc2, od2, .func (PySem.W.fnOf "_are_equal" "_are_equal" (defArgs s_are_equal) (defBody s_are_equal) (defScope s_are_equal) .none kV2 dc2 pm2 an2 cd2 ct2), sl2⟩)
    (c2 : PySem.W.codeIn K cd2 "_are_equal" = true)
    (k2 : PySem.W.keepIn K (.ref f2) = true)
    (a3 : PySem.W.nsIn K mainGlobals "_is_number" = some (some (.ref f3)))
    (l3 : K.lookup f3 = some ⟨oc3, od3, .func (PySem.W.fnOf "_is_number" "_is_number" (defArgs s_is_number) (defBody s_is_number) (defScope s_is_number) .none kV3 dc3 pm3 an3 cd3 ct3), sl3⟩)
    (c3 : PySem.W.codeIn K cd3 "_is_number" = true)
    (k3 : PySem.W.keepIn K (.ref f3) = true)
    (a4 : PySem.W.nsIn K mainGlobals "_with_numbers" = some (some (.ref f4)))
    (l4 : K.lookup f4 = some ⟨oc4, od4, .func (PySem.W.fnOf "_with_numbers" "_with_numbers" (defArgs s_with_numbers) (defBody s_with_numbers) (defScope s_with_numbers) .none kV4 dc4 pm4 an4 cd4 ct4), sl4⟩)
    (c4 : PySem.W.codeIn K cd4 "_with_numbers" = true)
    (k4 : PySem.W.keepIn K (.ref f4) = true)
    (a5 : PySem.W.nsIn K mainGlobals "_calculated" = some (some (.ref f5)))
    (l5 : K.lookup f5 = some ⟨oc5, od5, .func (PySem.W.fnOf "_calculated" "_calculated" (defArgs s_calculated) (defBody s_calculated) (defScope s_calculated) .none kV5 dc5 pm5 an5 cd5 ct5), sl5⟩)
    (c5 : PySem.W.codeIn K cd5 "_calculated" = true)
    (k5 : PySem.W.keepIn K (.ref f5) = true)
    (a6 : PySem.W.nsIn K mainGlobals "_with_texts" = some (some (.ref f6)))
    (l6 : K.lookup f6 = some ⟨oc6, od6, .func (PySem.W.fnOf "_with_texts" "_with_texts" (defArgs s_with_texts) (defBody s_with_texts) (defScope s_with_texts) .none kV6 dc6 pm6 an6 cd6 ct6), sl6⟩)
    (c6 : PySem.W.codeIn K cd6 "_with_texts" = true)
    (k6 : PySem.W.keepIn K (.ref f6) = true)
    (a7 : PySem.W.nsIn K mainGlobals "_law_draw" = some (some (.ref f7)))
    (l7 : K.lookup f7 = some ⟨oc7, od7, .func (PySem.W.fnOf "_law_draw" "_law_draw" (defArgs s_law_draw) (defBody s_law_draw) (defScope s_law_draw) .none kV7 dc7 pm7 an7 cd7 ct7), sl7⟩)
    (c7 : PySem.W.codeIn K cd7 "_law_draw" = true)
    (k7 : PySem.W.keepIn K (.ref f7) = true)
    (a8 : PySem.W.nsIn K mainGlobals "_law_source" = some (some (.ref f8)))
    (l8 : K.lookup f8 = some ⟨oc8, od8, .func (PySem.W.fnOf "_law_source" "_law_source" (defArgs s_law_source) (defBody s_law_source) (defScope s_law_source) .none kV8 dc8 pm8 an8 cd8 ct8), sl8⟩)
    (c8 : PySem.W.codeIn K cd8 "_law_source" = true)
    (k8 : PySem.W.keepIn K (.ref f8) = true)
    (a9 : PySem.W.nsIn K mainGlobals "_law_choice" = some (some (.ref f9)))
    (l9 : K.lookup f9 = some ⟨oc9, od9, .func (PySem.W.fnOf "_law_choice" "_law_choice" (defArgs s_law_choice) (defBody s_law_choice) (defScope s_law_choice) .none kV9 dc9 pm9 an9 cd9 ct9), sl9⟩)
    (c9 : PySem.W.codeIn K cd9 "_law_choice" = true)
    (k9 : PySem.W.keepIn K (.ref f9) = true)
    (a10 : PySem.W.nsIn K mainGlobals "_law_equal" = some (some (.ref f10)))
    (l10 : K.lookup f10 = some ⟨oc10, od10, .func (PySem.W.fnOf "_law_equal" "_law_equal" (defArgs s_law_equal) (defBody s_law_equal) (defScope s_law_equal) .none kV10 dc10 pm10 an10 cd10 ct10), sl10⟩)
    (c10 : PySem.W.codeIn K cd10 "_law_equal" = true)
    (k10 : PySem.W.keepIn K (.ref f10) = true)
    (a11 : PySem.W.nsIn K mainGlobals "_law_value" = some (some (.ref f11)))
    (l11 : K.lookup f11 = some ⟨oc11, od11, .func (PySem.W.fnOf "_law_value" "_law_value" (defArgs s_law_value) (defBody s_law_value) (defScope s_law_value) .none kV11 dc11 pm11 an11 cd11 ct11), sl11⟩)
    (c11 : PySem.W.codeIn K cd11 "_law_value" = true)
    (k11 : PySem.W.keepIn K (.ref f11) = true)
    (a12 : PySem.W.nsIn K mainGlobals "_law_number" = some (some (.ref f12)))
    (l12 : K.lookup f12 = some ⟨oc12, od12, .func (PySem.W.fnOf "_law_number" "_law_number" (defArgs s_law_number) (defBody s_law_number) (defScope s_law_number) .none kV12 dc12 pm12 an12 cd12 ct12), sl12⟩)
    (c12 : PySem.W.codeIn K cd12 "_law_number" = true)
    (k12 : PySem.W.keepIn K (.ref f12) = true)
    (a13 : PySem.W.nsIn K mainGlobals "_law_result" = some (some (.ref f13)))
    (l13 : K.lookup f13 = some ⟨oc13, od13, .func (PySem.W.fnOf "_law_result" "_law_result" (defArgs s_law_result) (defBody s_law_result) (defScope s_law_result) .none kV13 dc13 pm13 an13 cd13 ct13), sl13⟩)
    (c13 : PySem.W.codeIn K cd13 "_law_result" = true)
    (k13 : PySem.W.keepIn K (.ref f13) = true)
    (a14 : PySem.W.nsIn K mainGlobals "_law_due" = some (some (.ref f14)))
    (l14 : K.lookup f14 = some ⟨oc14, od14, .func (PySem.W.fnOf "_law_due" "_law_due" (defArgs s_law_due) (defBody s_law_due) (defScope s_law_due) .none kV14 dc14 pm14 an14 cd14 ct14), sl14⟩)
    (c14 : PySem.W.codeIn K cd14 "_law_due" = true)
    (k14 : PySem.W.keepIn K (.ref f14) = true)
    (a15 : PySem.W.nsIn K mainGlobals "law" = some (some (.ref f15)))
    (l15 : K.lookup f15 = some ⟨oc15, od15, .func (PySem.W.fnOf "law" "law" (defArgs s_law) (defBody s_law) (defScope s_law) .none kV15 dc15 pm15 an15 cd15 ct15), sl15⟩)
    (c15 : PySem.W.codeIn K cd15 "law" = true)
    (k15 : PySem.W.keepIn K (.ref f15) = true)
    (z_len : PySem.W.nsIn K mainGlobals "len" = some none)
    (z_int : PySem.W.nsIn K mainGlobals "int" = some none)
    (z_list : PySem.W.nsIn K mainGlobals "list" = some none)
    (z_range : PySem.W.nsIn K mainGlobals "range" = some none)
    (z_max : PySem.W.nsIn K mainGlobals "max" = some none)
    (z_str : PySem.W.nsIn K mainGlobals "str" = some none)
    (z_isinstance : PySem.W.nsIn K mainGlobals "isinstance" = some none)
    (z_bool : PySem.W.nsIn K mainGlobals "bool" = some none)
    (z_ord : PySem.W.nsIn K mainGlobals "ord" = some none)
    (z_tuple : PySem.W.nsIn K mainGlobals "tuple" = some none)
    (z_enumerate : PySem.W.nsIn K mainGlobals "enumerate" = some none)
    (z_min : PySem.W.nsIn K mainGlobals "min" = some none)
    (z_abs : PySem.W.nsIn K mainGlobals "abs" = some none)
    (z_all : PySem.W.nsIn K mainGlobals "all" = some none)
    (z_any : PySem.W.nsIn K mainGlobals "any" = some none)
    (z_sorted : PySem.W.nsIn K mainGlobals "sorted" = some none)
    (z_sum : PySem.W.nsIn K mainGlobals "sum" = some none)
    (g_WRONG_KIND : PySem.W.nsIn K mainGlobals "WRONG_KIND" = some (some (.str x_WRONG_KIND t_WRONG_KIND)))
    (e_WRONG_KIND : x_WRONG_KIND = ⟨(cds "wrong kind" : List Nat).toArray⟩)
    (g_BY_NOTHING : PySem.W.nsIn K mainGlobals "BY_NOTHING" = some (some (.str x_BY_NOTHING t_BY_NOTHING)))
    (e_BY_NOTHING : x_BY_NOTHING = ⟨(cds "by nothing" : List Nat).toArray⟩)
    (g_TOO_LARGE : PySem.W.nsIn K mainGlobals "TOO_LARGE" = some (some (.str x_TOO_LARGE t_TOO_LARGE)))
    (e_TOO_LARGE : x_TOO_LARGE = ⟨(cds "too large" : List Nat).toArray⟩)
    (g_GREATEST_NUMBER : PySem.W.nsIn K mainGlobals "GREATEST_NUMBER" = some (some (.int 1000000000 t_GREATEST_NUMBER)))
    (g_LONGEST_TEXT : PySem.W.nsIn K mainGlobals "LONGEST_TEXT" = some (some (.int 200 t_LONGEST_TEXT)))
    : ∃ fd : FuncData, (∀ (s : Shared) (v : Value), BindsTo s fd ⟨[v], []⟩ [("script", v)]) ∧ ∀ base : Heap, K.In base → base.Ns mainGlobals mg → FnOk P w K mg base CX0 5 fa fd ["script"] (spLaw K) := by
  have e := hfa.symm.trans (PySem.W.mg_of X G a15)
  cases e
  have Y : Bn mg := ⟨PySem.W.mg_none_of X G z_len, PySem.W.mg_none_of X G z_int, PySem.W.mg_none_of X G z_list, PySem.W.mg_none_of X G z_range, PySem.W.mg_none_of X G z_max, PySem.W.mg_none_of X G z_str, PySem.W.mg_none_of X G z_isinstance, PySem.W.mg_none_of X G z_bool, PySem.W.mg_none_of X G z_ord, PySem.W.mg_none_of X G z_tuple, PySem.W.mg_none_of X G z_enumerate, PySem.W.mg_none_of X G z_min, PySem.W.mg_none_of X G z_abs, PySem.W.mg_none_of X G z_all, PySem.W.mg_none_of X G z_any, PySem.W.mg_none_of X G z_sorted, PySem.W.mg_none_of X G z_sum⟩
  have Z : OpTx mg := ⟨⟨_, PySem.W.mg_of X G g_WRONG_KIND, ⟨t_WRONG_KIND, by rw [e_WRONG_KIND]⟩⟩, ⟨_, PySem.W.mg_of X G g_BY_NOTHING, ⟨t_BY_NOTHING, by rw [e_BY_NOTHING]⟩⟩, ⟨_, PySem.W.mg_of X G g_TOO_LARGE, ⟨t_TOO_LARGE, by rw [e_TOO_LARGE]⟩⟩, ⟨_, PySem.W.mg_of X G g_GREATEST_NUMBER, ⟨t_GREATEST_NUMBER, rfl⟩⟩, ⟨_, PySem.W.mg_of X G g_LONGEST_TEXT, ⟨t_LONGEST_TEXT, rfl⟩⟩⟩
  have F0 := fun_mk (st := s_operate) l0 c0 k0
  have b0 := F0.binds (ps := ["sign", "left", "right"]) fun _ _ _ _ _ _ us hl => match us, hl with | [_, _, _], _ => rfl
  have m0 := PySem.W.mg_of X G a0
  have F1 := fun_mk (st := s_is_truth) l1 c1 k1
  have b1 := F1.binds (ps := ["value"]) fun _ _ _ _ _ _ us hl => match us, hl with | [_], _ => rfl
  have m1 := PySem.W.mg_of X G a1
  have F2 := fun_mk (st := s_are_equal) l2 c2 k2
  have b2 := F2.binds (ps := ["left", "right"]) fun _ _ _ _ _ _ us hl => match us, hl with | [_, _], _ => rfl
  have m2 := PySem.W.mg_of X G a2
  have F3 := fun_mk (st := s_is_number) l3 c3 k3
  have b3 := F3.binds (ps := ["value"]) fun _ _ _ _ _ _ us hl => match us, hl with | [_], _ => rfl
  have m3 := PySem.W.mg_of X G a3
  have F4 := fun_mk (st := s_with_numbers) l4 c4 k4
  have b4 := F4.binds (ps := ["sign", "left", "right"]) fun _ _ _ _ _ _ us hl => match us, hl with | [_, _, _], _ => rfl
  have m4 := PySem.W.mg_of X G a4
  have F5 := fun_mk (st := s_calculated) l5 c5 k5
  have b5 := F5.binds (ps := ["sign", "left", "right"]) fun _ _ _ _ _ _ us hl => match us, hl with | [_, _, _], _ => rfl
  have m5 := PySem.W.mg_of X G a5
  have F6 := fun_mk (st := s_with_texts) l6 c6 k6
  have b6 := F6.binds (ps := ["sign", "left", "right"]) fun _ _ _ _ _ _ us hl => match us, hl with | [_, _, _], _ => rfl
  have m6 := PySem.W.mg_of X G a6
  have F7 := fun_mk (st := s_law_draw) l7 c7 k7
  have b7 := F7.binds (ps := ["src", "many"]) fun _ _ _ _ _ _ us hl => match us, hl with | [_, _], _ => rfl
  have m7 := PySem.W.mg_of X G a7
  have F8 := fun_mk (st := s_law_source) l8 c8 k8
  have b8 := F8.binds (ps := ["script", "k"]) fun _ _ _ _ _ _ us hl => match us, hl with | [_, _], _ => rfl
  have m8 := PySem.W.mg_of X G a8
  have F9 := fun_mk (st := s_law_choice) l9 c9 k9
  have b9 := F9.binds (ps := ["src", "options"]) fun _ _ _ _ _ _ us hl => match us, hl with | [_, _], _ => rfl
  have m9 := PySem.W.mg_of X G a9
  have F10 := fun_mk (st := s_law_equal) l10 c10 k10
  have b10 := F10.binds (ps := ["left", "right"]) fun _ _ _ _ _ _ us hl => match us, hl with | [_, _], _ => rfl
  have m10 := PySem.W.mg_of X G a10
  have F11 := fun_mk (st := s_law_value) l11 c11 k11
  have b11 := F11.binds (ps := ["src"]) fun _ _ _ _ _ _ us hl => match us, hl with | [_], _ => rfl
  have m11 := PySem.W.mg_of X G a11
  have F12 := fun_mk (st := s_law_number) l12 c12 k12
  have b12 := F12.binds (ps := ["value"]) fun _ _ _ _ _ _ us hl => match us, hl with | [_], _ => rfl
  have m12 := PySem.W.mg_of X G a12
  have F13 := fun_mk (st := s_law_result) l13 c13 k13
  have b13 := F13.binds (ps := ["value"]) fun _ _ _ _ _ _ us hl => match us, hl with | [_], _ => rfl
  have m13 := PySem.W.mg_of X G a13
  have F14 := fun_mk (st := s_law_due) l14 c14 k14
  have b14 := F14.binds (ps := ["sign", "left", "right"]) fun _ _ _ _ _ _ us hl => match us, hl with | [_, _, _], _ => rfl
  have m14 := PySem.W.mg_of X G a14
  have F15 := fun_mk (st := s_law) l15 c15 k15
  refine ⟨PySem.W.fnOf "law" "law" (defArgs s_law) (defBody s_law) (defScope s_law) .none kV15 dc15 pm15 an15 cd15 ct15, fun s v => .of_eq rfl, fun base _ _ => ?_⟩
  have cis_truth : Cal P w K mg base 1 "is_truth" (spTruth K) [] := ⟨f1, _, _, _, ok_is_truth F1 Y, m1, k1, b1, .nil⟩
  have c_are_equal : Cal P w K mg base 2 "_are_equal" (spAreEq K) [] := ⟨f2, _, _, _, ok_are_equal F2 Y cis_truth, m2, k2, b2, .nil⟩
  have c_is_number : Cal P w K mg base 2 "_is_number" (spIsI K) [] := ⟨f3, _, _, _, ok_is_number F3 Y cis_truth, m3, k3, b3, .nil⟩
  have c_calculated : Cal P w K mg base 1 "_calculated" spCalc [] := ⟨f5, _, _, _, ok_calculated F5 Y, m5, k5, b5, .nil⟩
  have c_with_numbers : Cal P w K mg base 2 "_with_numbers" (spNums K) [] := ⟨f4, _, _, _, ok_with_numbers F4 Y Z c_calculated, m4, k4, b4, .nil⟩
  have c_with_texts : Cal P w K mg base 1 "_with_texts" (spTxs K) [] := ⟨f6, _, _, _, ok_with_texts F6 Y Z, m6, k6, b6, .nil⟩
  have coperate : Cal P w K mg base 3 "operate" (spOp K) [] := ⟨f0, _, _, _, ok_operate F0 Y Z c_are_equal c_is_number c_with_numbers c_with_texts, m0, k0, b0, .nil⟩
  have c_law_draw : Cal P w K mg base 1 "_law_draw" spDrawB [] := ⟨f7, _, _, _, ok_law_draw F7 Y, m7, k7, b7, .nil⟩
  have c_law_source : Cal P w K mg base 1 "_law_source" (spSource K) [] := ⟨f8, _, _, _, ok_law_source F8 Y, m8, k8, b8, .nil⟩
  have c_law_choice : Cal P w K mg base 2 "_law_choice" spChoice [] := ⟨f9, _, _, _, ok_law_choice F9 Y c_law_draw, m9, k9, b9, .nil⟩
  have c_eq0 : Cal P w K mg base 1 "_law_equal" (spEqual K 0) [] := ⟨f10, _, _, _, ok_equal0 F10, m10, k10, b10, .nil⟩
  have c_eq1 : Cal P w K mg base 2 "_law_equal" (spEqual K 1) [] := ⟨f10, _, _, _, ok_equal1 F10 Y c_eq0, m10, k10, b10, .nil⟩
  have c_law_equal : Cal P w K mg base 3 "_law_equal" (spEqual K 2) [] := ⟨f10, _, _, _, ok_equal1 F10 Y c_eq1, m10, k10, b10, .nil⟩
  have c_law_value : Cal P w K mg base 3 "_law_value" (spValue K) [] := ⟨f11, _, _, _, ok_law_value F11 Y c_law_draw c_law_choice, m11, k11, b11, .nil⟩
  have c_law_number : Cal P w K mg base 1 "_law_number" (spIsI K) [] := ⟨f12, _, _, _, ok_law_number F12 Y, m12, k12, b12, .nil⟩
  have c_law_result : Cal P w K mg base 1 "_law_result" (spRes K) [] := ⟨f13, _, _, _, ok_law_result F13 Y, m13, k13, b13, .nil⟩
  have c_law_due : Cal P w K mg base 4 "_law_due" (spOp K) [] := ⟨f14, _, _, _, ok_law_due F14 Y c_law_equal c_law_number c_law_result, m14, k14, b14, .nil⟩
  exact ok_law F15 Y c_law_source c_law_draw c_law_choice c_law_value coperate c_law_equal c_law_due
theorem walk {l : PySem.W.OpenLaw} {q : Program} {loose : List Str} {XP : (Str → Option Value) → Heap → Prop} {YP : World → Heap → Prop} {d : DefRec} {K : Params → PySem.W.Frag} (hn : l.most = some 63) (hdf : d.params.defaults = [])
    (hY : ∀ (w : World) (h : Heap), YP w h → (K w.params).In h)
    (F : ∀ (w : World) (mg : Str → Option Value) (fa : Addr) (h : Heap), (K w.params).In h → h.Ns mainGlobals mg → mg d.name = some (.ref fa) →
      ∃ fd : FuncData, (∀ (s : Shared) (u : Value), BindsTo s fd ⟨[u], []⟩ [("script", u)]) ∧ ∀ base : Heap, (K w.params).In base → base.Ns mainGlobals mg → FnOk l.prog w (K w.params) mg base CX0 5 fa fd ["script"] (spLaw (K w.params))) :
    PySem.W.WalkO q loose XP YP l.row.toRowW d [] (fun f vs => PySem.call f vs) :=
  L2.walk_of (n := 63) (k := 5) (x := "script") (CX := fun _ => CX0) (sp := fun w => spLaw (K w.params)) hn (by decide) hdf ⟨rfl, by decide, by decide⟩ hY F (fun _ _ a ns hl _ hS => ⟨a, ns, rfl, hS, hl, fun _ => rfl⟩) fun _ _ _ _ _ z => z
end
end Lv

open PySem PySem.W PyProof.Rows in
set_option maxRecDepth 100000 in
set_option maxHeartbeats 0 in
theorem PySem.Challenge.cw_livestead_k21_operators_holds : PySem.Challenge.rw_livestead_k21_operators.Holds := by
  w_on; o_law; k_head; (case hw => w_witness2)
  k_fill
  refine Lv.walk (l := PySem.Challenge.rw_livestead_k21_operators) rfl rfl (fun w h Y => PySem.W.kIn_of Y) ?F
  case F =>
    intro w mg fa h KX G hmg
    refine' Lv.all_mk (P := PySem.Challenge.rw_livestead_k21_operators.prog) KX G hmg ?a0 ?l0 ?c0 ?k0 ?a1 ?l1 ?c1 ?k1 ?a2 ?l2 ?c2 ?k2 ?a3 ?l3 ?c3 ?k3 ?a4 ?l4 ?c4 ?k4 ?a5 ?l5 ?c5 ?k5 ?a6 ?l6 ?c6 ?k6 ?a7 ?l7 ?c7 ?k7 ?a8 ?l8 ?c8 ?k8 ?a9 ?l9 ?c9 ?k9 ?a10 ?l10 ?c10 ?k10 ?a11 ?l11 ?c11 ?k11 ?a12 ?l12 ?c12 ?k12 ?a13 ?l13 ?c13 ?k13 ?a14 ?l14 ?c14 ?k14 ?a15 ?l15 ?c15 ?k15 ?z_len ?z_int ?z_list ?z_range ?z_max ?z_str ?z_isinstance ?z_bool ?z_ord ?z_tuple ?z_enumerate ?z_min ?z_abs ?z_all ?z_any ?z_sorted ?z_sum ?g_WRONG_KIND ?e_WRONG_KIND ?g_BY_NOTHING ?e_BY_NOTHING ?g_TOO_LARGE ?e_TOO_LARGE ?g_GREATEST_NUMBER ?g_LONGEST_TEXT
    (case a0 => k_is)
    (case l0 => k_is)
    (case c0 => k_is)
    (case k0 => k_is)
    (case a1 => k_is)
    (case l1 => k_is)
    (case c1 => k_is)
    (case k1 => k_is)
    (case a2 => k_is)
    (case l2 => k_is)
    (case c2 => k_is)
    (case k2 => k_is)
    (case a3 => k_is)
    (case l3 => k_is)
    (case c3 => k_is)
    (case k3 => k_is)
    (case a4 => k_is)
    (case l4 => k_is)
    (case c4 => k_is)
    (case k4 => k_is)
    (case a5 => k_is)
    (case l5 => k_is)
    (case c5 => k_is)
    (case k5 => k_is)
    (case a6 => k_is)
    (case l6 => k_is)
    (case c6 => k_is)
    (case k6 => k_is)
    (case a7 => k_is)
    (case l7 => k_is)
    (case c7 => k_is)
    (case k7 => k_is)
    (case a8 => k_is)
    (case l8 => k_is)
    (case c8 => k_is)
    (case k8 => k_is)
    (case a9 => k_is)
    (case l9 => k_is)
    (case c9 => k_is)
    (case k9 => k_is)
    (case a10 => k_is)
    (case l10 => k_is)
    (case c10 => k_is)
    (case k10 => k_is)
    (case a11 => k_is)
    (case l11 => k_is)
    (case c11 => k_is)
    (case k11 => k_is)
    (case a12 => k_is)
    (case l12 => k_is)
    (case c12 => k_is)
    (case k12 => k_is)
    (case a13 => k_is)
    (case l13 => k_is)
    (case c13 => k_is)
    (case k13 => k_is)
    (case a14 => k_is)
    (case l14 => k_is)
    (case c14 => k_is)
    (case k14 => k_is)
    (case a15 => k_is)
    (case l15 => k_is)
    (case c15 => k_is)
    (case k15 => k_is)
    (case z_len => k_is)
    (case z_int => k_is)
    (case z_list => k_is)
    (case z_range => k_is)
    (case z_max => k_is)
    (case z_str => k_is)
    (case z_isinstance => k_is)
    (case z_bool => k_is)
    (case z_ord => k_is)
    (case z_tuple => k_is)
    (case z_enumerate => k_is)
    (case z_min => k_is)
    (case z_abs => k_is)
    (case z_all => k_is)
    (case z_any => k_is)
    (case z_sorted => k_is)
    (case z_sum => k_is)
    (case g_WRONG_KIND => k_is)
    (case e_WRONG_KIND => decide +kernel)
    (case g_BY_NOTHING => k_is)
    (case e_BY_NOTHING => decide +kernel)
    (case g_TOO_LARGE => k_is)
    (case e_TOO_LARGE => decide +kernel)
    (case g_GREATEST_NUMBER => k_is)
    (case g_LONGEST_TEXT => k_is)
#print axioms PySem.Challenge.cw_livestead_k21_operators_holds
