import PyProof.Rows.All
import Wide.All
import OpenK.AllK
import Wide.FinOn
import HandS.ForMost
import HandS.StrMore
import HandS.IsInst
import HandS.Steps
import HandS.Evl
import HandS.Codes
import HandS.ForExc
import KE.KExcSuper
import HandS.Strs
import PySem.Challenge.RW_livestead_k15_place_of_a_name
set_option Elab.async false
set_option linter.all false
set_option maxRecDepth 100000
set_option maxHeartbeats 2000000
/-! Readings step by step: one lemma a construct, texts as lists of codes. -/
namespace Lv
open PySem PySem.Spec PyProof.Rows L2

/-- a text of these codes -/
abbrev T (cs : List Nat) : V := .str ⟨cs.toArray⟩
theorem T_eta (x : Str) : V.str x = T x.cps.toList := by
  show V.str x = V.str ⟨x.cps.toList.toArray⟩
  simp
theorem T_inj {a b : List Nat} (h : T a = T b) : a = b := by
  have h1 : (⟨a.toArray⟩ : Str) = ⟨b.toArray⟩ := V.str.inj h
  have h2 : a.toArray = b.toArray := Str.mk.inj h1
  exact congrArg Array.toList h2
theorem T_iff {a b : List Nat} : T a = T b ↔ a = b := ⟨T_inj, fun h => by rw [h]⟩
theorem len_T (a : List Nat) : (⟨a.toArray⟩ : Str).length = a.length := by
  show a.toArray.size = a.length
  simp

def NewL (xs : List V) (H : Hp) (Q : VK) : Prop := xs.length ≤ sizeLine ∧ ∀ p, H p = none → Q (.ref p) (upd H p (.lst xs))
def NewT (xs : List V) (H : Hp) (Q : VK) : Prop := xs.length ≤ sizeLine ∧ ∀ p, H p = none → Q (.ref p) (upd H p (.tup xs))
section
variable {σ : L2.St} {H : Hp} {Q : VK} {D : Ends} {i : Nat} {v x y : V} {ta tb te : TE} {t u : TS} {g : TG} {r : R2} {K : PySem.W.Frag}
theorem w_var (h : σ[i]? = some (some v)) (k : Q v H) : tVar i σ H Q := ⟨v, h, k⟩
theorem w_c (k : Q v H) : tC v σ H Q := k
theorem w_cT {cs : List Nat} (k : Q (T cs) H) : tC (T cs) σ H Q := k
theorem ex_int {a : Int} {G : Int → Prop} (k : G a) : ∃ i, V.int a = V.int i ∧ G i := ⟨a, rfl, k⟩
theorem ex_bl {a : Bool} {G : Bool → Prop} (k : G a) : ∃ i, V.bl a = V.bl i ∧ G i := ⟨a, rfl, k⟩
theorem w_str {x : Str} (k : Q (T x.cps.toList) H) : tC (.str x) σ H Q := by
  show Q (.str x) H
  rw [T_eta]
  exact k
theorem w_seq (k : t { D with nx := u D } σ H) : tSeq t u D σ H := k
theorem w_next (k : D.nx σ H) : tNext D σ H := k
theorem w_asg (k : te σ H fun x H1 => g x σ H1 D.nx) : tAsg te g D σ H := k
theorem w_gname {G : L2.St → Hp → Prop} (k : G (σ.set i (some v)) H) : gName i v σ H G := k
theorem w_drop (k : te σ H fun _ H1 => D.nx σ H1) : tDrop te D σ H := k
theorem w_ret (k : te σ H D.rt) : tRet te D σ H := k
theorem w_retN (k : D.rt .non H) : tRetN D σ H := k
theorem w_op (k : ta σ H fun x H1 => tb σ H1 fun y H2 => r x y H2 Q) : tOp r ta tb σ H Q := k
theorem w_un {r : V → Hp → VK → Prop} (k : ta σ H fun x H1 => r x H1 Q) : tUn r ta σ H Q := k
theorem w_i0 {f : Int → Int → V} {a b : Int} (k : Q (f a b) H) : rI0 f (.int a) (.int b) H Q := ⟨a, b, rfl, rfl, k⟩
theorem w_i {C : Int → Int → Prop} {f : Int → Int → V} {a b : Int} (c : C a b) (k : Q (f a b) H) : rI C f (.int a) (.int b) H Q := ⟨a, b, rfl, rfl, c, k⟩
theorem w_mulR {f : Int → Int → V} {a b : Int} (c : -(2 ^ 64) < b ∧ b < 2 ^ 64) (k : Q (f a b) H) : rI CMul f (.int a) (.int b) H Q := ⟨a, b, rfl, rfl, .inr c, k⟩
theorem w_mulL {f : Int → Int → V} {a b : Int} (c : -(2 ^ 64) < a ∧ a < 2 ^ 64) (k : Q (f a b) H) : rI CMul f (.int a) (.int b) H Q := ⟨a, b, rfl, rfl, .inl c, k⟩
theorem w_ifS {c : TT} (k : c σ H fun b H1 => if b = true then t D σ H1 else u D σ H1) : tIfS c t u D σ H := k
theorem w_test {G : Bool → Hp → Prop} (k : te σ H fun x H' => ∃ b, x = .bl b ∧ G b H') : tTest te σ H G := k
theorem w_tB {G : Bool → Hp → Prop} (k : te σ H fun x H' => ∃ b, x = .bl b ∧ G b H') : tB te σ H G := k
theorem w_and {t u : TT} {G : Bool → Hp → Prop} (k : t σ H fun c H1 => if c = true then u σ H1 G else G false H1) : tAnd t u σ H G := k
theorem w_or {t u : TT} {G : Bool → Hp → Prop} (k : t σ H fun c H1 => if c = true then G true H1 else u σ H1 G) : tOr t u σ H G := k
theorem w_not {t : TT} {G : Bool → Hp → Prop} (k : t σ H fun c H1 => G (!c) H1) : tNot t σ H G := k
theorem w_andV (k : ta σ H fun x H1 => ∃ c, x = .bl c ∧ if c = true then tb σ H1 Q else Q (.bl false) H1) : tAndV ta tb σ H Q := k
theorem w_orV (k : ta σ H fun x H1 => ∃ c, x = .bl c ∧ if c = true then Q (.bl true) H1 else tb σ H1 Q) : tOrV ta tb σ H Q := k
theorem w_notV (k : ta σ H fun x H1 => ∃ c, x = .bl c ∧ Q (.bl (!c)) H1) : tNotV ta σ H Q := k
theorem w_eq (s : scal x y = true) (k : Q (.bl (decide (x = y))) H) : rEq x y H Q := ⟨s, k⟩
theorem w_ne (s : scal x y = true) (k : Q (.bl (!decide (x = y))) H) : rNe x y H Q := ⟨s, k⟩
theorem w_call {sp : Sp} {dvs : List V} {E : XK} {t : TA} (k : t σ H fun vs H1 => sp (vs ++ dvs) H1 Q E) : tCall sp dvs E t σ H Q := k
theorem w_cb {r : List V → Hp → VK → Prop} {t : TA} (k : t σ H fun vs H1 => r vs H1 Q) : tCB r t σ H Q := k
theorem w_nil {G : List V → Hp → Prop} (k : G [] H) : tNil σ H G := k
theorem w_cons {tr : TA} {G : List V → Hp → Prop} (k : ta σ H fun x H1 => tr σ H1 fun xs H2 => G (x :: xs) H2) : tCons ta tr σ H G := k
theorem w_tup {t : TA} (k : t σ H fun xs H1 => NewT xs H1 Q) : tTup t σ H Q := k
theorem w_lst {t : TA} (k : t σ H fun xs H1 => NewL xs H1 Q) : tLst t σ H Q := k
theorem w_sl {r : V → Option Int → Option Int → Hp → VK → Prop} {tl th : TO} (k : te σ H fun x H1 => tl σ H1 fun l H2 => th σ H2 fun u H3 => r x l u H3 Q) : tSl r te tl th σ H Q := k
theorem w_part {G : Option Int → Hp → Prop} (k : te σ H fun x H1 => ∃ i, x = .int i ∧ G (some i) H1) : tPart te σ H G := k
theorem w_nopart {G : Option Int → Hp → Prop} (k : G none H) : tNoPart σ H G := k
theorem w_gsub {to ti : TE} {t : TSet} {G : L2.St → Hp → Prop} (k : to σ H fun o H1 => ti σ H1 fun i H2 => t o i v H2 fun H3 => G σ H3) : gSub to ti t v σ H G := k
theorem w_bm {Ty : String} {r : V → List V → Hp → VK → Prop} {to : TE} {t : TA} (k : to σ H fun x H1 => tyV K Ty x H1 ∧ t σ H1 fun xs H2 => r x xs H2 Q) : tBM K Ty r to t σ H Q := k
theorem w_bm0 {Ty : String} {r : V → List V → Hp → VK → Prop} {to : TE} (k : to σ H fun x H1 => tyV K Ty x H1 ∧ r x [] H1 Q) : tBM0 K Ty r to σ H Q := k
theorem w_aug {ti : TIp} (h : σ[i]? = some (some x)) (k : te σ H fun y H1 => ti x y H1 fun z H2 => D.nx (σ.set i (some z)) H2) : tAug i te ti D σ H := ⟨x, h, k⟩
theorem w_ifE {c : TT} (k : c σ H fun b H1 => if b = true then ta σ H1 Q else tb σ H1 Q) : tIf c ta tb σ H Q := k

/-! tests -/
theorem w_if {p A B : Prop} [Decidable p] (h1 : p → A) (h2 : ¬ p → B) : if decide p = true then A else B := by
  by_cases h : p
  · rw [if_pos (decide_eq_true h)]; exact h1 h
  · rw [if_neg (by simp [h])]; exact h2 h
theorem w_ifn {p A B : Prop} [Decidable p] (h1 : ¬ p → A) (h2 : p → B) : if (!decide p) = true then A else B := by
  by_cases h : p
  · rw [if_neg (by simp [h])]; exact h2 h
  · rw [if_pos (by simp [h])]; exact h1 h
theorem w_ifI {a b : Int} {A B : Prop} (h1 : a = b → A) (h2 : a ≠ b → B) : if decide (V.int a = V.int b) = true then A else B :=
  w_if (fun h => h1 (V.int.inj h)) fun h => h2 fun e => h (by rw [e])
theorem w_ifT {a b : List Nat} {A B : Prop} (h1 : a = b → A) (h2 : a ≠ b → B) : if decide (T a = T b) = true then A else B :=
  w_if (fun h => h1 (T_inj h)) fun h => h2 fun e => h (by rw [e])
theorem w_ifIn {a b : Int} {A B : Prop} (h1 : a ≠ b → A) (h2 : a = b → B) : if (!decide (V.int a = V.int b)) = true then A else B :=
  w_ifn (fun h => h1 fun e => h (by rw [e])) fun h => h2 (V.int.inj h)
theorem w_ifTn {a b : List Nat} {A B : Prop} (h1 : a ≠ b → A) (h2 : a = b → B) : if (!decide (T a = T b)) = true then A else B :=
  w_ifn (fun h => h1 fun e => h (by rw [e])) fun h => h2 (T_inj h)
theorem w_nt {A B : Prop} (h : B) : if (!true) = true then A else B := by
  show if false = true then A else B
  exact L2.iteF h
theorem w_nf {A B : Prop} (h : A) : if (!false) = true then A else B := by
  show if true = true then A else B
  exact L2.iteT h
theorem w_ifb {b : Bool} {A B : Prop} (h1 : b = true → A) (h2 : b = false → B) : if b = true then A else B := by
  cases b with
  | true => rw [if_pos rfl]; exact h1 rfl
  | false => rw [if_neg Bool.false_ne_true]; exact h2 rfl

/-! texts -/
def rAddS : R2 := fun x y H Q => ∃ i j, x = .str i ∧ y = .str j ∧ i.length + j.length ≤ sizeLine ∧ Q (.str (i ++ j)) H
theorem op_addS {X : Cx} : OpR X (binaryOp .Add) rAddS := op_add_str
theorem w_addS {a b : List Nat} (z : a.length + b.length ≤ 1000000) (k : Q (T (a ++ b)) H) : rAddS (T a) (T b) H Q := by
  refine ⟨_, _, rfl, rfl, ?_, ?_⟩
  · rw [len_T, len_T]
    exact Nat.le_trans z (by decide)
  · have e : (⟨a.toArray⟩ : Str) ++ ⟨b.toArray⟩ = ⟨(a ++ b).toArray⟩ := by
      show (⟨a.toArray ++ b.toArray⟩ : Str) = _
      simp
    rw [e]
    exact k
def rMulS : R2 := fun x y H Q => ∃ z n, x = .str z ∧ y = .int n ∧ -(2 ^ 63) ≤ n ∧ n < 1000000 ∧ z.length * n.toNat ≤ 1000000 ∧ Q (T (List.replicate n.toNat z.cps.toList).flatten) H
theorem foldl_rep (c : Array Nat) : ∀ (n : Nat) (acc : Array Nat), (List.replicate n c).foldl (· ++ ·) acc = acc ++ (List.replicate n c.toList).flatten.toArray
  | 0, acc => by simp
  | n + 1, acc => by
    rw [List.replicate_succ, List.foldl_cons, foldl_rep c n, List.replicate_succ, List.flatten_cons]
    apply Array.ext'
    simp
theorem op_mulS {X : Cx} : OpR X (binaryOp .Mult) rMulS := by
  intro pins s σ H x y v u Q I rx ry h
  obtain ⟨z, n, rfl, rfl, h1, h2, h3, q⟩ := h
  obtain ⟨t, rfl⟩ := rx
  obtain ⟨t', rfl⟩ := ry
  refine P.mul_str ?_ ?_ ?_ ?_
  · rw [decide_eq_false (by omega), decide_eq_false (by omega)]; rfl
  · intro hn _ hc
    have hz : z.length ≤ 1000000 := by
      have : z.length * 1 ≤ z.length * n.toNat := Nat.mul_le_mul_left _ (by omega)
      omega
    have : (2 ^ 63 - 1 : Int) / n ≥ 9000000000000 := by
      refine (Int.le_ediv_iff_mul_le (by omega)).mpr ?_
      omega
    omega
  · intro hn _
    show decide (sizeLine < z.length * n.toNat) = false
    refine decide_eq_false ?_
    rw [sizeLine_eq]
    omega
  · by_cases hn : n < 1
    · rw [if_pos hn]
      have e : (List.replicate n.toNat z.cps.toList).flatten = [] := by
        rw [show n.toNat = 0 by omega]; rfl
      rw [e] at q
      exact ⟨by decide, T [], H, I.tok _, ⟨_, rfl⟩, q⟩
    · rw [if_neg hn]
      by_cases hc : (n == 1 || z.length == 0) = true
      · rw [if_pos hc]
        have e : (List.replicate n.toNat z.cps.toList).flatten = z.cps.toList := by
          rw [Bool.or_eq_true] at hc
          rcases hc with hc | hc
          · have : n = 1 := by simpa using hc
            subst this
            simp
          · have hz : z.cps.size = 0 := (beq_iff_eq.mp hc : z.length = 0)
            have : z.cps.toList = [] := by
              rw [← List.length_eq_zero_iff]; simpa using hz
            rw [this]; simp
        rw [e, ← T_eta] at q
        exact ⟨.str z, H, I, ⟨_, rfl⟩, q⟩
      · rw [if_neg hc]
        have e : (⟨(List.replicate n.toNat z.cps).foldl (· ++ ·) #[]⟩ : Str) = ⟨((List.replicate n.toNat z.cps.toList).flatten).toArray⟩ := by
          rw [foldl_rep]; simp
        rw [e]
        refine ⟨?_, T _, H, I.tok _, ⟨_, rfl⟩, q⟩
        rw [len_T]
        have : (List.replicate n.toNat z.cps.toList).flatten.length = n.toNat * z.cps.size := by simp
        rw [this, Nat.mul_comm]
        exact Nat.le_trans h3 (by rw [sizeLine_eq]; omega)
theorem w_mulS {a : List Nat} {n : Int} (h1 : -(2 ^ 63) ≤ n) (h2 : n < 1000000) (h3 : a.length * n.toNat ≤ 1000000) (k : Q (T (List.replicate n.toNat a).flatten) H) : rMulS (T a) (.int n) H Q :=
  ⟨_, n, rfl, rfl, h1, h2, by rw [len_T]; exact h3, k⟩
theorem w_ixS {a : List Nat} {j : Int} {c : Nat} (z : a.length ≤ 1000000) (h : atI a j = some c) (k : Q (T [c]) H) : rIxS (T a) (.int j) H Q :=
  ⟨_, j, c, rfl, rfl, by rw [len_T]; exact Nat.le_trans z (by decide), h, k⟩
def cut (a : List Nat) (lo hi : Option Int) : List Nat := (a.drop (HT.sIx a.length 0 lo)).take (HT.sIx a.length a.length hi - HT.sIx a.length 0 lo)
theorem w_slS {a : List Nat} {lo hi : Option Int} (z : a.length ≤ 1000000) (k : Q (T (cut a lo hi)) H) : rSlS (T a) lo hi H Q := by
  refine ⟨_, rfl, by rw [len_T]; exact Nat.le_trans z (by decide), ?_⟩
  have e : cutS ⟨a.toArray⟩ lo hi = ⟨(cut a lo hi).toArray⟩ := by
    unfold cutS cut
    rw [len_T]
  rw [e]
  exact k
def rLenS : List V → Hp → VK → Prop := fun xs H Q => ∃ z, xs = [.str z] ∧ z.length ≤ sizeLine ∧ Q (.int z.length) H
theorem call_lenS {X : Cx} : CallR X (.builtin "len") rLenS := call_len_str
theorem w_lenS {a : List Nat} (z : a.length ≤ 1000000) (k : Q (.int (a.length : Int)) H) : rLenS [T a] H Q :=
  ⟨_, rfl, by rw [len_T]; exact Nat.le_trans z (by decide), by rw [len_T]; exact k⟩
def rLenL (K : PySem.W.Frag) : List V → Hp → VK → Prop := fun xs H Q => ∃ p ys, xs = [.ref p] ∧ (SqL K H p ys ∨ SqT K H p ys) ∧ Q (.int ys.length) H
theorem call_lenL {X : Cx} : CallR X (.builtin "len") (rLenL X.K) := call_len_seq
theorem w_lenL {p : Addr} {ys : List V} (h : SqL K H p ys) (k : Q (.int (ys.length : Int)) H) : rLenL K [.ref p] H Q := ⟨p, ys, rfl, .inl h, k⟩
theorem w_lenT {p : Addr} {ys : List V} (h : SqT K H p ys) (k : Q (.int (ys.length : Int)) H) : rLenL K [.ref p] H Q := ⟨p, ys, rfl, .inr h, k⟩
def rInt1 : List V → Hp → VK → Prop := fun xs H Q => (∃ i, xs = [.int i] ∧ Q (.int i) H) ∨ ∃ k, xs = [.bl k] ∧ Q (.int (if k then 1 else 0)) H
theorem call_intI {X : Cx} : CallR X (.type "int") rInt1 := call_int1
theorem w_intI {a : Int} (k : Q (.int a) H) : rInt1 [.int a] H Q := .inl ⟨a, rfl, k⟩
theorem w_intB {b : Bool} (k : Q (.int (if b then 1 else 0)) H) : rInt1 [.bl b] H Q := .inr ⟨b, rfl, k⟩
def rIntS : List V → Hp → VK → Prop := fun xs H Q => ∃ a n, xs = [.str a] ∧ PySem.intText? a = some n ∧ a.length ≤ 640 ∧ Q (.int n) H
theorem call_intS {X : Cx} : CallR X (.type "int") rIntS := call_int_str
theorem w_intS {a : List Nat} {n : Int} (h : PySem.intText? ⟨a.toArray⟩ = some n) (z : a.length ≤ 640) (k : Q (.int n) H) : rIntS [T a] H Q := ⟨_, n, rfl, h, by rw [len_T]; exact z, k⟩
def rMax2 : List V → Hp → VK → Prop := fun xs H Q => ∃ i j, xs = [.int i, .int j] ∧ Q (.int (if j > i then j else i)) H
theorem call_maxI {X : Cx} (hc : X.calm = true) : CallR X (.builtin "max") rMax2 := call_max2 hc
theorem w_max {a b : Int} (k : Q (.int (if b > a then b else a)) H) : rMax2 [.int a, .int b] H Q := ⟨a, b, rfl, k⟩
def rStrI : List V → Hp → VK → Prop := fun xs H Q => ∃ i : Int, xs = [.int i] ∧ i.natAbs.log2 < 1920 ∧ Q (.str (toString i)) H
theorem call_strI {X : Cx} : CallR X (.type "str") rStrI := call_str_int
def rListOf (K : PySem.W.Frag) : List V → Hp → VK → Prop := fun xs H Q => ∃ p ys, xs = [.ref p] ∧ (SqL K H p ys ∨ SqT K H p ys) ∧ ∀ l, H l = none → Q (.ref l) (upd H l (.lst ys))
theorem call_listOf {X : Cx} : CallR X (.type "list") (rListOf X.K) := call_list_of
theorem w_listOf {p : Addr} {ys : List V} (h : SqL K H p ys) (k : ∀ l, H l = none → Q (.ref l) (upd H l (.lst ys))) : rListOf K [.ref p] H Q := ⟨p, ys, rfl, .inl h, k⟩
def rOrd : List V → Hp → VK → Prop := fun xs H Q => ∃ x, xs = [.str x] ∧ x.length = 1 ∧ Q (.int (x.cps.getD 0 0 : Nat)) H
theorem call_ordS {X : Cx} : CallR X (.builtin "ord") rOrd := call_ord
theorem w_ord {c : Nat} (k : Q (.int (c : Int)) H) : rOrd [T [c]] H Q := ⟨_, rfl, rfl, k⟩
/-- a text within a text: one sign -/
def rInC : R2 := fun x y H Q => ∃ (c : Nat) (z : Str), x = .str ⟨#[c]⟩ ∧ y = .str z ∧ Q (.bl (decide (c ∈ z.cps.toList))) H
theorem op_inC {X : Cx} : OpR X (compareOp .In) rInC := op_in_sign
theorem w_inC {c : Nat} {a : List Nat} (k : Q (.bl (decide (c ∈ a))) H) : rInC (T [c]) (T a) H Q := ⟨c, _, rfl, rfl, k⟩
def rNinC : R2 := fun x y H Q => ∃ (c : Nat) (z : Str), x = .str ⟨#[c]⟩ ∧ y = .str z ∧ Q (.bl (!decide (c ∈ z.cps.toList))) H
theorem op_ninC {X : Cx} : OpR X (compareOp .NotIn) rNinC := op_notIn_sign
theorem w_ninC {c : Nat} {a : List Nat} (k : Q (.bl (!decide (c ∈ a))) H) : rNinC (T [c]) (T a) H Q := ⟨c, _, rfl, rfl, k⟩
/-- a text among texts -/
theorem eqV_T (a b : List Nat) : eqV (T a) (T b) = decide (a = b) := by
  show ((⟨a.toArray⟩ : Str) == ⟨b.toArray⟩) = _
  by_cases h : a = b
  · subst h; simp
  · rw [decide_eq_false h]
    exact beq_eq_false_iff_ne.mpr fun e => h (T_inj (congrArg V.str e))
theorem inV_T (a : List Nat) (l : List (List Nat)) : inV (T a) (l.map T) = decide (a ∈ l) := by
  induction l with
  | nil => rfl
  | cons b l ih =>
    unfold inV at *
    rw [List.map_cons, List.any_cons, ih, eqV_T]
    by_cases h : b = a
    · subst h; simp
    · have h2 : ¬ a = b := fun e => h e.symm
      simp [h, h2]
theorem flat_T (l : List (List Nat)) : (l.map T).all flatV = true := by
  induction l with
  | nil => rfl
  | cons b l ih => rw [List.map_cons, List.all_cons, ih]; rfl
theorem w_inL {a : List Nat} {p : Addr} {l : List (List Nat)} (h : SqL K H p (l.map T)) (k : Q (.bl (decide (a ∈ l))) H) : rIn K false (T a) (.ref p) H Q :=
  ⟨p, _, rfl, .inl h, rfl, flat_T l, by rw [if_neg Bool.false_ne_true, inV_T]; exact k⟩
theorem w_inT {a : List Nat} {p : Addr} {l : List (List Nat)} (h : SqT K H p (l.map T)) (k : Q (.bl (decide (a ∈ l))) H) : rIn K false (T a) (.ref p) H Q :=
  ⟨p, _, rfl, .inr h, rfl, flat_T l, by rw [if_neg Bool.false_ne_true, inV_T]; exact k⟩
/-- lists and tuples at places -/
theorem w_ixL {p : Addr} {xs : List V} {j : Int} (h : SqL K H p xs) (e : atI xs j = some v) (k : Q v H) : rIxL K (.ref p) (.int j) H Q := ⟨p, xs, j, v, rfl, rfl, h, e, k⟩
theorem w_ixT {p : Addr} {xs : List V} {j : Int} (h : SqT K H p xs) (e : atI xs j = some v) (k : Q v H) : rIxT K (.ref p) (.int j) H Q := ⟨p, xs, j, v, rfl, rfl, h, e, k⟩
theorem w_setL {p : Addr} {xs : List V} {j : Int} {n : Nat} {G : Hp → Prop} (h : H p = some (.lst xs)) (e : ixN xs.length j = some n) (k : G (upd H p (.lst (xs.set n v)))) : rSetL (.ref p) (.int j) v H G := ⟨p, xs, j, n, rfl, rfl, h, e, k⟩
theorem w_append {p : Addr} {xs : List V} (h : H p = some (.lst xs)) (z : xs.length ≤ 1000000) (k : Q .non (upd H p (.lst (xs ++ [y])))) : rAppend (.ref p) [y] H Q :=
  ⟨p, xs, y, rfl, rfl, h, Nat.lt_of_le_of_lt z (by decide), k⟩
theorem w_cat {p q : Addr} {xs ys : List V} (hp : H p = some (.lst xs)) (hq : H q = some (.lst ys)) (z : xs.length + ys.length ≤ 1000000) (k : ∀ a, H a = none → Q (.ref a) (upd H a (.lst (xs ++ ys)))) : rCat (.ref p) (.ref q) H Q :=
  ⟨p, q, xs, ys, rfl, rfl, hp, hq, Nat.le_trans z (by decide), k⟩
theorem tyL {p : Addr} {xs : List V} (h : SqL K H p xs) : tyV K "list" (.ref p) H := .inl ⟨rfl, xs, h⟩
theorem tyS {a : List Nat} : tyV K "str" (T a) H := rfl
end

/-! new objects, the heap a letter -/
theorem same_new0 {p : Addr} {H : Hp} {o : HO} (h : H p = none) : Same H (upd H p o) := fun b u e => by
  rw [upd_ne (ne_of_none e h)]; exact e
section
variable {H : Hp} {Q : VK} {xs ys : List V} {K : PySem.W.Frag}
theorem w_newL (z : xs.length ≤ 1000000) (k : ∀ p H1, H p = none → Same H H1 → H1 p = some (.lst xs) → Q (.ref p) H1) : NewL xs H Q :=
  ⟨Nat.le_trans z (by decide), fun p hp => k p _ hp (same_new0 hp) upd_same⟩
theorem w_newT (z : xs.length ≤ 1000000) (k : ∀ p H1, H p = none → Same H H1 → H1 p = some (.tup xs) → Q (.ref p) H1) : NewT xs H Q :=
  ⟨Nat.le_trans z (by decide), fun p hp => k p _ hp (same_new0 hp) upd_same⟩
theorem w_cat2 {p q : Addr} (hp : H p = some (.lst xs)) (hq : H q = some (.lst ys)) (z : xs.length + ys.length ≤ 1000000) (k : ∀ a H1, H a = none → Same H H1 → H1 a = some (.lst (xs ++ ys)) → Q (.ref a) H1) : rCat (.ref p) (.ref q) H Q :=
  w_cat hp hq z fun a ha => k a _ ha (same_new0 ha) upd_same
theorem w_list2 {p : Addr} (h : SqL K H p ys) (k : ∀ l H1, H l = none → Same H H1 → H1 l = some (.lst ys) → Q (.ref l) H1) : rListOf K [.ref p] H Q := w_listOf h fun l hl => k l _ hl (same_new0 hl) upd_same
theorem w_app2 {p : Addr} {y : V} (h : H p = some (.lst xs)) (z : xs.length ≤ 1000000) (k : ∀ H1, H1 p = some (.lst (xs ++ [y])) → (∀ b o, b ≠ p → H b = some o → H1 b = some o) → Q .non H1) : rAppend (.ref p) [y] H Q :=
  w_append h z (k _ upd_same fun b o n e => by rw [upd_ne n]; exact e)
end

/-! loops -/
def ForR (g : TG) (tb : TS) (vs : List V) (D : Ends) (σ : L2.St) (H : Hp) : Prop := ∃ j : Int, vs = [.int j] ∧ -(2 ^ 62) ≤ j ∧ j < 2 ^ 62 ∧ ∃ W : Nat → Nat → L2.St → Hp → Prop, (∃ m, W 0 m σ H) ∧ ∀ i m σ H, W i m σ H →
  ((Itr 0 j.toNat).stop i H ∧ D.nx σ H) ∨ ((Itr 0 j.toNat).go i H ∧ ∃ N : L2.St → Hp → Prop, (∀ σ' H', N σ' H' → ∃ m', m' < m ∧ W (i + 1) m' σ' H') ∧ ∀ x H', (Itr 0 j.toNat).yld i H x H' → g x σ H' fun σ2 H2 => tb { D with nx := N, ct := N, bk := D.nx } σ2 H2)
def ForL (K : PySem.W.Frag) (g : TG) (tb : TS) (x : V) (D : Ends) (σ : L2.St) (H : Hp) : Prop := ∃ a, x = .ref a ∧ (∃ xs, SqL K H a xs) ∧ ∃ W : Nat → Nat → L2.St → Hp → Prop, (∃ m, W 0 m σ H) ∧ ∀ i m σ H, W i m σ H →
  ((Itl K a).stop i H ∧ D.nx σ H) ∨ ((Itl K a).go i H ∧ ∃ N : L2.St → Hp → Prop, (∀ σ' H', N σ' H' → ∃ m', m' < m ∧ W (i + 1) m' σ' H') ∧ ∀ x H', (Itl K a).yld i H x H' → g x σ H' fun σ2 H2 => tb { D with nx := N, ct := N, bk := D.nx } σ2 H2)
def ForT (K : PySem.W.Frag) (g : TG) (tb : TS) (x : V) (D : Ends) (σ : L2.St) (H : Hp) : Prop := ∃ a, x = .ref a ∧ (∃ xs, SqT K H a xs) ∧ ∃ W : Nat → Nat → L2.St → Hp → Prop, (∃ m, W 0 m σ H) ∧ ∀ i m σ H, W i m σ H →
  ((Itt K a).stop i H ∧ D.nx σ H) ∨ ((Itt K a).go i H ∧ ∃ N : L2.St → Hp → Prop, (∀ σ' H', N σ' H' → ∃ m', m' < m ∧ W (i + 1) m' σ' H') ∧ ∀ x H', (Itt K a).yld i H x H' → g x σ H' fun σ2 H2 => tb { D with nx := N, ct := N, bk := D.nx } σ2 H2)
def ForS (g : TG) (tb : TS) (x : V) (D : Ends) (σ : L2.St) (H : Hp) : Prop := ∃ z, x = .str z ∧ ∃ W : Nat → Nat → L2.St → Hp → Prop, (∃ m, W 0 m σ H) ∧ ∀ i m σ H, W i m σ H →
  ((Its z).stop i H ∧ D.nx σ H) ∨ ((Its z).go i H ∧ ∃ N : L2.St → Hp → Prop, (∀ σ' H', N σ' H' → ∃ m', m' < m ∧ W (i + 1) m' σ' H') ∧ ∀ x H', (Its z).yld i H x H' → g x σ H' fun σ2 H2 => tb { D with nx := N, ct := N, bk := D.nx } σ2 H2)
section
variable {σ : L2.St} {H : Hp} {D : Ends} {ta : TA} {te : TE} {g : TG} {tb : TS} {K : PySem.W.Frag}
theorem w_forR (k : ta σ H fun vs H1 => ForR g tb vs D σ H1) : tFor (iRng1 ta) g tb D σ H := k
theorem w_forL (k : te σ H fun x H1 => ForL K g tb x D σ H1) : tFor (iList K te) g tb D σ H := k
theorem w_forT (k : te σ H fun x H1 => ForT K g tb x D σ H1) : tFor (iTup K te) g tb D σ H := k
theorem w_forS (k : te σ H fun x H1 => ForS g tb x D σ H1) : tFor (iStr te) g tb D σ H := k
/-- what holds ahead of turn i; a turn; the end -/
theorem for_R {j : Int} (Pv : Nat → L2.St → Hp → Prop) (b0 : 0 ≤ j) (b1 : j < 1000000) (h0 : Pv 0 σ H) (hs : ∀ (i : Nat) σ H, (i : Int) < j → Pv i σ H → g (.int (0 + (i : Int))) σ H fun σ2 H2 => tb { D with nx := Pv (i + 1), ct := Pv (i + 1), bk := D.nx } σ2 H2)
    (hd : ∀ σ H, Pv j.toNat σ H → D.nx σ H) : ForR g tb [.int j] D σ H :=
  ⟨j, rfl, by omega, by omega, for_range (lo := 0) (n := j.toNat) Pv h0 (fun i σ H hi p => hs i σ H (by omega) p) hd⟩
theorem for_L {a : Addr} {xs : List V} (Pv : Nat → L2.St → Hp → Prop) (h0 : Pv 0 σ H) (hl : ∀ i σ H, i ≤ xs.length → Pv i σ H → SqL K H a xs) (hs : ∀ i x σ H, xs[i]? = some x → Pv i σ H → g x σ H fun σ2 H2 => tb { D with nx := Pv (i + 1), ct := Pv (i + 1), bk := D.nx } σ2 H2)
    (hd : ∀ σ H, Pv xs.length σ H → D.nx σ H) : ForL K g tb (.ref a) D σ H :=
  ⟨a, rfl, ⟨xs, hl 0 σ H (Nat.zero_le _) h0⟩, for_list (xs := xs) Pv h0 hl hs hd⟩
theorem for_T {a : Addr} {xs : List V} (Pv : Nat → L2.St → Hp → Prop) (h0 : Pv 0 σ H) (hl : ∀ i σ H, i ≤ xs.length → Pv i σ H → SqT K H a xs) (hs : ∀ i x σ H, xs[i]? = some x → Pv i σ H → g x σ H fun σ2 H2 => tb { D with nx := Pv (i + 1), ct := Pv (i + 1), bk := D.nx } σ2 H2)
    (hd : ∀ σ H, Pv xs.length σ H → D.nx σ H) : ForT K g tb (.ref a) D σ H :=
  ⟨a, rfl, ⟨xs, hl 0 σ H (Nat.zero_le _) h0⟩, for_tup (xs := xs) Pv h0 hl hs hd⟩
theorem for_S {cs : List Nat} (Pv : Nat → L2.St → Hp → Prop) (h0 : Pv 0 σ H) (hs : ∀ i c σ H, cs[i]? = some c → Pv i σ H → g (T [c]) σ H fun σ2 H2 => tb { D with nx := Pv (i + 1), ct := Pv (i + 1), bk := D.nx } σ2 H2)
    (hd : ∀ σ H, Pv cs.length σ H → D.nx σ H) : ForS g tb (T cs) D σ H := by
  refine ⟨⟨cs.toArray⟩, rfl, fun i m σ H => m = cs.length - i ∧ i ≤ cs.length ∧ Pv i σ H, ⟨cs.length, by simp, Nat.zero_le _, h0⟩, ?_⟩
  rintro i m σ H ⟨rfl, hi, p⟩
  by_cases hlt : i < cs.length
  · refine .inr ⟨by show i < cs.toArray.size; simpa using hlt, Pv (i + 1), fun σ' H' p' => ⟨cs.length - (i + 1), by omega, rfl, hlt, p'⟩, fun x H' y => ?_⟩
    obtain ⟨e, c, hc, rfl⟩ := y
    subst e
    have hc' : cs[i]? = some c := by simpa using hc
    exact hs i c σ _ hc' p
  · have e : i = cs.length := by omega
    subst e
    exact .inl ⟨by show cs.toArray.size ≤ cs.length; simp, hd σ H p⟩
/-- while by a word and a measure, the test a letter -/
theorem pe_c0 {X : Cx} {k j : Nat} {x : Str} {sp : Sp} {dvs : List V} {p pos : Pos} (c : C8.Cal X.prog X.w X.K X.mg X.base k x sp dvs) (hr : Room j X.A) (hk : k ≤ j) (hg : Gl X x) (hdb : (x == ("__debug__" : Str)) = false := by decide) :
    PE X (.Call (.Name x p) [] [] pos) (tCall sp dvs L2.E0 tNil) := by
  obtain ⟨f, fd, ps, ds, F, hm, kp, b, d⟩ := c.ex
  exact pe_call0 F (hr.mono hk) hg hm kp b d pass0 hdb
end

/-! heaps: what stands apart from one object -/
/-- all but the object at S is as it was (and more may stand) -/
def Fr (S : Addr) (H H' : Hp) : Prop := ∀ b o, b ≠ S → H b = some o → H' b = some o
theorem Fr.refl (S : Addr) (H : Hp) : Fr S H H := fun _ _ _ h => h
theorem Fr.trans {S : Addr} {H H1 H2 : Hp} (a : Fr S H H1) (b : Fr S H1 H2) : Fr S H H2 := fun c o n h => b c o n (a c o n h)
theorem Fr.new {S p : Addr} {H : Hp} {o : HO} (h : H p = none) : Fr S H (upd H p o) := fun b u _ e => by
  rw [upd_ne (ne_of_none e h)]; exact e
theorem Fr.own {S : Addr} {H : Hp} {o : HO} : Fr S H (upd H S o) := fun b u n e => by
  rw [upd_ne n]; exact e
theorem Fr.to {S : Addr} {H H1 H2 : Hp} (a : Fr S H H1) (b : Same H1 H2) : Fr S H H2 := fun c o n h => b c o (a c o n h)
theorem Same.fr {S : Addr} {H H1 : Hp} (b : Same H H1) : Fr S H H1 := fun c o _ h => b c o h
theorem same_new {p : Addr} {H : Hp} {o : HO} (h : H p = none) : Same H (upd H p o) := fun b u e => by
  rw [upd_ne (ne_of_none e h)]; exact e
theorem Fr.sqL {S a : Addr} {K : PySem.W.Frag} {H H' : Hp} {xs : List V} (f : Fr S H H') (n : a ≠ S) (h : SqL K H a xs) : SqL K H' a xs := by
  rcases h with (h | ⟨o, h⟩) | h
  · exact .inl (.inl (f _ _ n h))
  · exact .inl (.inr ⟨o, f _ _ n h⟩)
  · exact .inr h
theorem Fr.sqT {S a : Addr} {K : PySem.W.Frag} {H H' : Hp} {xs : List V} (f : Fr S H H') (n : a ≠ S) (h : SqT K H a xs) : SqT K H' a xs := by
  rcases h with (h | ⟨o, h⟩) | h
  · exact .inl (.inl (f _ _ n h))
  · exact .inl (.inr ⟨o, f _ _ n h⟩)
  · exact .inr h
theorem Same.sqT {a : Addr} {K : PySem.W.Frag} {H H' : Hp} {xs : List V} (f : Same H H') (h : SqT K H a xs) : SqT K H' a xs := by
  rcases h with (h | ⟨o, h⟩) | h
  · exact .inl (.inl (f _ _ h))
  · exact .inl (.inr ⟨o, f _ _ h⟩)
  · exact .inr h
end Lv
/-! An own error whose __init__ tells its text to its base and keeps one field. -/
namespace PySem
namespace SrcX
open PySem.W PySem.Calls PyProof.Rows PySem.HandSPX
/-! ### the text of __init__: the parameter's name is a letter (at, name) -/
def msg : Str := "the source is wrong at position "
def eA : Arguments := { posonlyargs := [], args := [{ arg := "self", annotation := none, pos := ⟨6, 17, 6, 21⟩ }, { arg := "at", annotation := none, pos := ⟨6, 23, 6, 25⟩ }], vararg := none, kwonlyargs := [], kw_defaults := [], kwarg := none, defaults := [] }
def eB : List Stmt :=
  [.Expr (.Call (.Attribute (.Call (.Name "super" ⟨7, 8, 7, 13⟩) [] [] ⟨7, 8, 7, 15⟩) "__init__" ⟨7, 8, 7, 24⟩) [.JoinedStr [.Constant (.str msg) 0 ⟨7, 27, 7, 59⟩, .FormattedValue (.Name "at" ⟨7, 60, 7, 62⟩) (-1) none ⟨7, 59, 7, 63⟩] ⟨7, 25, 7, 64⟩] [] ⟨7, 8, 7, 65⟩) ⟨7, 8, 7, 65⟩,
   .Assign [.Attribute (.Name "self" ⟨8, 8, 8, 12⟩) "at" ⟨8, 8, 8, 15⟩] (.Name "at" ⟨8, 18, 8, 20⟩) ⟨8, 8, 8, 20⟩]
def eS : Scope := { kind := .function, names := [(PySem.Str.ofString "self", .local), (PySem.Str.ofString "at", .local), (PySem.Str.ofString "__class__", .free), (PySem.Str.ofString "super", .globalImplicit)], isGenerator := false, isCoroutine := false, more := [] }
/-- what the written part says of the class at C, and of its __init__, at fI; x: the field -/
structure SrcTxt (P : Program) (K : Frag) (mg : Str → Option Value) (nm : Str) (C fI : Addr) : Prop where
  gC : mg nm = some (.ref C)
  cls : ∃ nm q N bs bm sn sub ab col dd k0 k1 k2 k3 k5, K.lookup C = some (excClassObj nm q C N bs bm true sn sub ab col dd k0 k1 k2 k3 k5 "ValueError.__new__") ∧ refsVE bm = true
  sa : findIn K (.ref C) "__setattr__" = some (some (.builtin "object.__setattr__"))
  ga : findIn K (.ref C) "__getattribute__" = some (some (.builtin "BaseException.__getattribute__"))
  gg : findIn K (.ref C) "__getattr__" = some none
  noN : findIn K (.ref C) "at" = some none
  iC : findIn K (.ref C) "__init__" = some (some (.ref fI))
  tC : typeIn K (.ref fI) = some (.type "function")
  kC : keepIn K (.ref C) = true
  exC : subIn K (.ref C) (.type "BaseException") = some true
  veC : subIn K (.ref C) (.type "ValueError") = some true
  tyC : typeIn K (.ref C) = some (.type "type")
  hdC : hasDictIn K C = true
  te : exmOne K (.ref C) (.ref C) = some true
  op : nsIn K cStatics "thirdparty.any" = some none
  up : ks_superIn K C C "__init__" = some (some (.builtin "ValueError.__init__"))
  mr : mroIn K C (.ref C) = some true
  su : mg "super" = none
  top : (P.main.scope.names.lookup ("super" : Str)).isSome = false
  fn : ∃ (oc : Value) (od : Option Addr) (doc pm : Value) (an : Option Addr) (cda cc : Addr) (ct : Value) (osl : Array (Option Value)) (qual : Str) (ccl cl : Value) (cdd cld : Option Addr) (ccs csl : Array (Option Value)) (vs : Array Value) (file : Str) (tf : Tok),
    K.lookup fI = some ⟨oc, od, .func (fnX "__init__" qual eA eB eS [("__class__", cc)] .none .none doc pm an (.ref cda) ct), osl⟩ ∧ codeIn K (.ref cda) qual = true ∧
    K.lookup cda = some ⟨ccl, cdd, .fields vs, ccs⟩ ∧ vs[2]? = some (.str file tf) ∧ ((P.main.file : Str) == file) = true ∧ K.lookup cc = some ⟨cl, cld, .cell (some (.ref C)), csl⟩
/-- what __init__ leaves of a fresh exception at x -/
structure InitEnd (h h' : Heap) (e C dx t1 : Addr) (v : Value) : Prop where
  keep : ∀ b o, b ≠ e → h.get? b = some o → h'.get? b = some o
  obj : h'.get? e = some { cls := .ref C, dict := some dx, data := .fields #[.ref t1, .none, .none, .none, .bool false, .none] }
  dbig : h.objs.size ≤ dx
  dne : dx ≠ e
  ns : h'.Ns1 dx (fun y => if y = "at" then some v else none)
structure OwnMade (h h' : Heap) (e C d : Addr) (v : Value) : Prop where
  keep : ∀ b o, h.get? b = some o → h'.get? b = some o
  new : h.objs.size ≤ e
  obj : ∃ oe vs, h'.get? e = some oe ∧ oe.cls = .ref C ∧ oe.dict = some d ∧ oe.data = .fields vs ∧ vs[1]? = some .none
  dbig : h.objs.size ≤ d
  dne : d ≠ e
  ns : h'.Ns1 d (fun y => if y = "at" then some v else none)
theorem one_size (v : Value) : [v].length ≤ sizeLine := by
  rw [sizeLine_eq]
  exact (by decide : 1 ≤ 16777216)
section
variable {prog : Program} {w : World} {A : Around} {E : Value → Shared → Prop} {R : Result → Shared → Prop} {s : Shared} {K : Frag} {mg mb : Str → Option Value} {nm : Str} {C fI : Addr}
/-- the base's __init__, bound, called with one value: the args are laid anew -/
theorem call_mw {h : Heap} {g : Array GenState} {d : Drawn} {t : Nat} {os : OsState} {u e t0 : Addr} {rest : List Value} {Q : Value → Shared → Prop} {nm q : Str} {N : Addr} {bs bm : List Value} {hdct : Bool} {sn : List Str} {sub : List Value} {ab : Bool} {col : Option Bool} {dd : Option Addr} {k0 k1 k2 k3 k5 : Option Value}
    (hC : h.get? C = some (excClassObj nm q C N bs bm hdct sn sub ab col dd k0 k1 k2 k3 k5 "ValueError.__new__")) (he : h.get? e = some (excO C t0)) (hu : h.get? u = some (kxs_mw "ValueError.__init__" e)) (hrest : rest.length ≤ sizeLine)
    (hq : ∀ h' t1, (∀ b o, b ≠ e → h.get? b = some o → h'.get? b = some o) → h'.get? e = some (excO C t1) → Q .none ⟨h', g, d, t, os⟩) :
    wpAny (model prog w) A (call (.ref u) rest) Q E ⟨h, g, d, t, os⟩ := by
  refine wpAny_call (codeAny_of_tree ?_)
  show wpAny _ A.in1 (callAny (.ref u) ⟨rest, []⟩) _ _ _
  simp only [callAny]
  refine wpAny_bind (wpAny_load hu ?_)
  simp only [kxs_mw, show (Value.type "method-wrapper" == Value.type "method" || Value.type "method-wrapper" == Value.type "builtin_function_or_method" || Value.type "method-wrapper" == Value.type "method-wrapper") = true by decide, if_true]
  refine KFB.if_so (by decide) ?_
  refine wpAny_bind (check_bound_init F.excBase_ValueError.toExcCallFacts hC he rfl ?_)
  refine wpAny_bind (wpAny_pure (wpAny_pure ?_))
  refine ⟨plainId_quiet F.excBase_ValueError.init.plain _, codeAny_builtin F.excBase_ValueError.initEntry ?_⟩
  exact exc_init_tree (cls := .ref C) (t0 := t0) (dv := none) (c2 := .none) (c3 := .none) (b4 := .bool false) he hrest fun h' k e' _ => hq h' _ k e'
theorem ldN {M : Model} {env : Env} {m : Str → Option Value} {x : Str} {pos : Pos} {v : Value} {Q : Value → Shared → Prop} (hn : s.heap.Ns env.locals m) (hv : m x = some v) (h : Q v s)
    (hk : env.scope.kind = .function := by rfl) (hl : env.kindOf x = some .local := by rfl) (hd : (x == ("__debug__" : Str)) = false := by decide) :
    wpAny M A (eval (.Name x pos) env) Q E s := wpAny_Name (wpAny_loadName_local hk hl hn hv h) hd
theorem src_init (T : SrcTxt prog K mg nm C fI) {e t0 : Addr} {v : Int} {tv : Tok} (hv : v.natAbs.log2 < 1920) (X : K.In s.heap) (hlim : s.heap.NoLimit) (hg : s.heap.Ns mainGlobals mg) (hb : s.heap.Ns builtinsNs mb) (hmb : mb "super" = some (.type "super"))
    (hx : s.heap.get? e = some (excO C t0)) (hnx : K.lookup e = none) (hroom : A.depth < recursionLimit)
    (hq : ∀ h' tk dx t1, InitEnd s.heap h' e C dx t1 (.int v tv) → R (.ok (.ret .none)) { s with heap := h', toks := tk }) :
    codeAny (model prog w) A (.call (.ref fI) ⟨[.ref e, .int v tv], []⟩) R s := by
  obtain ⟨oc, od, doc, pm, an, cda, cc, ct, osl, qual, ccl, cl, cdd, cld, ccs, csl, vs, file, tf, ho, hcd, hcode, hvs, hfile, hcell⟩ := T.fn
  obtain ⟨nm', q, N, bs, bm, sn, sub, ab, col, dd, k0, k1, k2, k3, k5, hC, hbm⟩ := T.cls
  have hcl : clsIn K C = some { name := nm', bases := bs, mro := .ref C :: bm, ns := N, qualname := q, hasDict := true, slotNames := sn, subclasses := sub, abstract := ab, collection := col, hasDel := false } := by unfold clsIn; rw [hC] <;> rfl
  refine ks_codeAny_call_defAt (binds := [("self", .ref e), ("at", .int v tv)]) hroom (X _ _ ho) rfl hlim (codeRec_of X hcd) rfl (BindsTo.of_eq ?b1) (show ∀ y ∈ eS.names, y.2 ≠ .cell by decide +kernel) (locs rfl) (fun h₁ hns k => ?_) rfl rfl rfl
  case b1 => first | rfl | with_unfolding_all rfl
  have I1 : InstAt s.heap e (excO C t0) C none := ⟨hx, rfl, rfl, trivial⟩
  have hne : e ≠ C := ks_ne X I1 hcl
  obtain ⟨hp, g, d, t, os⟩ := s
  have X₁ : K.In h₁ := X.keeps k
  have hx₁ := k _ _ hx
  -- super().__init__(f'..')
  refine ks_wpAt_execs_cons (ks_wpAt_Expr_any (ks_wpAt_MethodCall ?_ (by with_unfolding_all rfl)))
  have hoH := X₁ _ _ ho
  have hcodeH := X₁ _ _ hcode
  refine' ks_wpAt_super_base (attr := "__init__") (body := eB) (f := fI) (cc := cda) ?a1 ?a2 ?a3 ?a4 ?a5 ?a6 ?a7 ?a8 ?a9 ?a10 hvs hfile T.top ?_
  case a5 => exact hoH
  case a9 => exact hcodeH
  case a1 => rfl
  case a2 => rfl
  case a3 => decide
  case a4 => rfl
  case a6 => rfl
  case a7 => rfl
  case a8 => rfl
  case a10 => rfl
  have hG : h₁.Ns mainGlobals mg := hg.keeps k
  have hB : h₁.Ns builtinsNs mb := hb.keeps k
  refine ks_loadName_global rfl rfl (loadGlobal_builtin hG T.su hB hmb ⟨rfl, ?_⟩)
  refine wpAny_loadName_free rfl rfl rfl ⟨_, X₁ _ _ hcell, rfl⟩ ?_
  refine wpAny_loadName_local rfl rfl hns rfl ?_
  have hCC := X₁ _ _ hC
  refine ks_wpAny_isType_cls hCC rfl ⟨rfl, ?_⟩
  refine ks_wpAny_call_super hCC rfl hx₁ rfl (fun c z => by cases z) (looks_mroIn X₁ T.mr) (fun h₂ hso k₂ => ?_)
  have X₂ : K.In h₂ := X₁.keeps k₂
  have hx₂ := k₂ _ _ hx₁
  have I2 : InstAt h₂ e (excO C t0) C none := ⟨hx₂, rfl, rfl, trivial⟩
  have hI : Looks (model prog w) h₂ (isInstance (.ref e) (.type "ValueError")) true := I2.type.andThen (looks_subIn X₂ T.veC)
  have hup : alongIn K "__init__" (((.ref C :: bm : List Value).dropWhile (· != .ref C)).drop 1) = some (some (.builtin "ValueError.__init__")) := by
    have := T.up
    unfold ks_superIn at this
    rw [hcl] at this
    exact this
  refine kxs_getMethod kxs_ValueError hso (looks_opaque X₂ T.op) (l₀ := .ref C :: bm) ?lk rfl X₂ hup hI hne (by decide) ?_
  case lk => exact fun A Q E s k q => wpAny_bind ((looks_clsIn X₂ hcl) A _ E s k (wpAny_pure q))
  refine kxs_callWith (i := "ValueError.__init__") (x := e) rfl (evalArgs_plain ?_)
  refine Calls.spliced_cons ?_
  -- the text
  have hn₂ : h₂.Ns hp.objs.size _ := hns.keeps k₂
  have hn₃ : (h₂.push (kxs_mw "ValueError.__init__" e)).Ns hp.objs.size _ := hn₂.keeps fun b o z => Heap.get?_push_of_some _ z
  refine wpAny_JoinedStr (pos := ⟨7, 25, 7, 64⟩) ?_
  refine Calls.Constant_str (x := msg) (k := 0) (pos := ⟨7, 27, 7, 59⟩) ?_
  refine ⟨_, _, rfl, by decide +kernel, ?_⟩
  refine wpAny_FormattedValue_plain (value := .Name "at" ⟨7, 60, 7, 62⟩) (pos := ⟨7, 59, 7, 63⟩) (ldN (env := callEnv (fnX "__init__" qual eA eB eS [("__class__", cc)] .none .none doc pm an (.ref cda) ct) hp.objs.size fI) hn₃ rfl (wpAny_formatField_int hv ?_))
  have hsz : ((Str.empty ++ msg) ++ Str.ofString (toString v)).length ≤ sizeLine := by
    rw [strLen_append, PySem.ofString_length, show (Str.empty ++ msg).length = 32 by decide +kernel, sizeLine_eq]
    have := int_text_length_le (k := 1920) (by decide) hv
    omega
  refine ⟨_, _, rfl, hsz, ?_⟩
  refine ⟨hsz, ?_⟩
  refine Calls.spliced_nil ?_
  have hu₃ : (h₂.push (kxs_mw "ValueError.__init__" e)).get? h₂.objs.size = some (kxs_mw "ValueError.__init__" e) := Heap.get?_push_at rfl rfl
  refine ⟨hu₃, ?_⟩
  have k₃ : ∀ b o, h₂.get? b = some o → (h₂.push (kxs_mw "ValueError.__init__" e)).get? b = some o := fun b o z => Heap.get?_push_of_some _ z
  have X₃ : K.In (h₂.push (kxs_mw "ValueError.__init__" e)) := X₂.keeps k₃
  refine call_mw (X₃ _ _ hC) (k₃ _ _ hx₂) hu₃ (one_size _) fun h₄ t1 k₄ hx₄ => ?_
  have X₄ : K.In h₄ := fun a o z => by
    by_cases ha : a = e
    · subst ha
      have := X₃ _ _ z
      have y := k₃ _ _ hx₂
      rw [this] at y
      have nK : K.lookup a = none := hnx
      rw [nK] at z
      cases z
    · exact k₄ _ _ ha (X₃ _ _ z)
  have hn₄ : h₄.Ns hp.objs.size _ := hn₃.at fun o z => k₄ _ _ (Nat.ne_of_gt (Heap.lt_size hx)) z
  -- self.at = at
  refine wpAt_of_wpAny ?_
  refine wpAny_execs_cons (plainObj_wpAny_Assign_Attribute ?_)
  refine ldN (v := .int v tv) hn₄ rfl (ldN (v := .ref e) hn₄ rfl ?_)
  refine set_plain X₄ (ox := excO C t1) (od := none) ⟨hx₄, rfl, rfl, trivial⟩ T.sa ?_
  refine exc_osa X₄ hx₄ hcl (show refsVE (.ref C :: bm) = true from hbm) rfl T.noN (fun h₅ tk₅ dx k₅ dn dne hx₅ hn₅ => ?_)
  refine wpAny_execs_nil ?_
  have keepAll : ∀ b o, b ≠ e → hp.get? b = some o → h₅.get? b = some o := fun b o hb z => k₅ b o hb (k₄ b o hb (k₃ _ _ (k₂ _ _ (k _ _ z))))
  refine hq h₅ tk₅ dx t1 ⟨keepAll, hx₅, ?_, dne, hn₅⟩
  exact Nat.le_trans (Nat.le_of_lt hn₄.lt) dn
theorem src_made (T : SrcTxt prog K mg nm C fI) {v : Int} {tv : Tok} (hv : v.natAbs.log2 < 1920) (X : K.In s.heap) (hlim : s.heap.NoLimit) (hg : s.heap.Ns mainGlobals mg) (hb : s.heap.Ns builtinsNs mb) (hmb : mb "super" = some (.type "super")) (hroom : A.depth + 1 < recursionLimit)
    (hq : ∀ h' tk e d, OwnMade s.heap h' e C d (.int v tv) → R (.ok (.ret (.ref e))) { s with heap := h', toks := tk }) :
    codeAny (model prog w) A (.call (.ref C) ⟨[.int v tv], []⟩) R s := by
  obtain ⟨nm, q, N, bs, bm, sn, sub, ab, col, dd, k0, k1, k2, k3, k5, hC, hbm⟩ := T.cls
  obtain ⟨hp, g, dr, tk, os⟩ := s
  have k : ∀ b o, hp.get? b = some o → ((hp.push (kdv_tup [.int v tv])).push (excO C hp.objs.size)).get? b = some o := fun b o e => Heap.get?_push_of_some _ (Heap.get?_push_of_some _ e)
  have hget : ((hp.push (kdv_tup [.int v tv])).push (excO C hp.objs.size)).get? (hp.objs.size + 1) = some (excO C hp.objs.size) := by heap_get
  have hnx : K.lookup (hp.objs.size + 1) = none := by
    cases e : K.lookup (hp.objs.size + 1) with
    | none => rfl
    | some o =>
      have z : hp.get? (hp.objs.size + 1) = some o := X _ _ e
      exact absurd (Nat.lt_of_succ_lt (Heap.lt_size z)) (Nat.lt_irrefl _)
  refine call_own F.excBase_ValueError (fun X => refsVE_contains X bm hbm) (X _ _ hC) (looks_findIn X T.iC) (fun self => bind_fn X self T.tC) (one_size _) ?_
  refine src_init (s := ⟨(hp.push (kdv_tup [.int v tv])).push (excO C hp.objs.size), g, dr, tk, os⟩) T hv (X.keeps k) (hlim.keeps k) (hg.keeps k) (hb.keeps k) hmb hget hnx ?_ fun h' tk' dx t1 ⟨k', hx, dn, dne, hns⟩ => ?_
  · show A.depth + 1 < recursionLimit
    exact hroom
  · have old : ∀ b o, hp.get? b = some o → h'.get? b = some o := fun b o e => k' b o (Nat.ne_of_lt (Nat.lt_succ_of_lt (Heap.lt_size e))) (k b o e)
    have z : hp.objs.size + 1 + 1 ≤ dx := by
      first
        | (simpa only [Heap.size_push] using dn)
        | exact dn
        | (have q := dn; rw [Heap.size_push, Heap.size_push] at q; exact q)
    exact ⟨rfl, hq h' tk' (hp.objs.size + 1) dx ⟨old, Nat.le_succ _, ⟨_, _, hx, rfl, rfl, rfl, rfl⟩, Nat.le_trans (Nat.le_trans (Nat.le_succ _) (Nat.le_succ _)) z, dne, hns⟩⟩
end
end SrcX
end PySem
namespace L2
open PySem PySem.Spec PyProof.Rows
theorem relO_src {v : V} {v' : Value} (r : RelV v v') (f : Str) : RelO (List.lookup f [(("at" : Str), v)]) (if f = "at" then some v' else none) := by
  by_cases hw : f = "at"
  · subst hw
    rw [if_pos rfl]
    have q : List.lookup ("at" : Str) [(("at" : Str), v)] = some v := by simp [List.lookup]
    rw [q]
    exact r
  · rw [if_neg hw]
    have qw : (f == ("at" : Str)) = false := by simpa using hw
    have q2 : List.lookup f [(("at" : Str), v)] = none := by simp [List.lookup, qw]
    rw [q2]
    trivial
section
variable {X : Cx} {C fI : Addr} {nm : Str}
/-- C(e), e an int -/
def tMkSrc (C : Addr) (ta : TA) : St → Hp → XK → Prop := fun σ H Q => ta σ H fun vs H1 => ∃ v : Int, vs = [.int v] ∧ v.natAbs.log2 < 1920 ∧ ∀ d, H1 d = none → Q (.ref C) (some d) (upd H1 d (.xd [(("at" : Str), .int v)]))
theorem pmk_src {a : Expr} {ta : TA} {p pos : Pos} {k : Nat} (T : PySem.SrcX.SrcTxt X.prog X.K X.mg nm C fI) (hr : Room k X.A) (ha : PA X [a] ta) (hg : Gl X nm := by rfl) (hdb : (nm == ("__debug__" : Str)) = false := by decide)
    (he : starEach (a :: []) X.env = (false, eval a X.env) :: starEach [] X.env := by rfl) (hpl : (backTo pos (starEach [] X.env)).any (·.1) = false := by rfl) :
    PMk X (.Call (.Name nm p) [a] [] pos) (tMkSrc C ta) := by
  intro pins s σ H Q I h
  refine wpAny_Call_Name_kw (ld_glob I hg T.gC ?_ hdb)
  refine PySem.W.callWith_K (h₀ := X.base) I.ok.mod.kin T.kC (thn (ha.run pos pins s σ H _ I h) fun us s1 hh => ?_) he hpl
  obtain ⟨vs, H1, I1, r1, v, ev, hv, q1⟩ := hh
  subst ev
  refine ⟨I1.kIn, ?_⟩
  cases r1 with
  | cons rv rn =>
    rename_i v' us'
    cases rn
    obtain ⟨tv, rfl⟩ := rv
    show wpAny _ _ (call (.ref C) [.int v tv]) _ _ _
    have hlim := I1.nolimit
    obtain ⟨mb, hb, hmb⟩ := I1.mod.blt
    have hb1 := hb.keeps I1.bk
    have hg1 := I1.mod.glob.keeps I1.bk
    have hsup : mb "super" = some (.type "super") := (hmb _ (by decide)).trans (by decide +kernel)
    obtain ⟨hp, g, dr, tk, os⟩ := s1
    refine wpAny_call (PySem.SrcX.src_made T hv I1.kIn hlim hg1 hb1 hsup (by have := hr.dp; omega) fun h' tk' e d M => ?_)
    show MkP X pins σ Q (.ref e) ⟨h', g, dr, tk', os⟩
    obtain ⟨oe, fv, hoe, hc, hd, hdat, h1⟩ := M.obj
    have hns := M.ns
    obtain ⟨G', g1, g2⟩ := restrict h' fun b => decide (b ≠ e)
    have gk : ∀ b, b ≠ e → G'.get? b = h'.get? b := fun b hb => g1 b (decide_eq_true hb)
    have ge : G'.get? e = none := g2 e (by simp)
    have old : ∀ b o, hp.get? b = some o → G'.get? b = some o := fun b o q => (gk b (Nat.ne_of_lt (Nat.lt_of_lt_of_le (Heap.lt_size q) M.new))).trans (M.keep b o q)
    have ob : ObjOk X.prog X.w (upd H1 d (.xd [(("at" : Str), .int v)])) G' d (.xd [(("at" : Str), .int v)]) :=
      ⟨_, hns.at (fun o q => (gk d M.dne).trans q), fun f => relO_src (v := .int v) (v' := .int v tv) ⟨tv, rfl⟩ f⟩
    have J : Inv X pins σ (upd H1 d (.xd [(("at" : Str), .int v)])) ⟨G', g, dr, tk', os⟩ := I1.laid (t' := tk') old M.dbig ob
    refine ⟨e, oe, fv, ⟨G', g, dr, tk', os⟩, _, .ref C, some d, rfl, J, fun b o q => ?_, ge, hoe, ⟨hc, hd⟩, hdat, h1, ?_, rfl, I1.bare, raises_own T.exC T.tyC, q1 d (I1.hok.fresh M.dbig)⟩
    · by_cases hb : b = e
      · have q' : G'.get? b = some o := q
        rw [hb, ge] at q'; cases q'
      · exact (gk b hb).symm.trans q
    · rw [upd_ne (Ne.symm M.dne)]
      exact I1.hok.fresh M.new
/-- raise C(e) -/
def tRaiseSrc (C : Addr) (W : WX) (ta : TA) : TS := fun _ σ H => tMkSrc C ta σ H fun cls d H' => W cls d σ H'
theorem ps_raiseSrc {a : Expr} {ta : TA} {W : WX} {p pos pos2 : Pos} {k : Nat} (hc : X.calm = true) (T : PySem.SrcX.SrcTxt X.prog X.K X.mg nm C fI) (hr : Room k X.A) (tk : Takes X W) (ha : PA X [a] ta) (hg : Gl X nm := by rfl) (hdb : (nm == ("__debug__" : Str)) = false := by decide)
    (he : starEach (a :: []) X.env = (false, eval a X.env) :: starEach [] X.env := by rfl) (hpl : (backTo pos (starEach [] X.env)).any (·.1) = false := by rfl) :
    PS X (.Raise (some (.Call (.Name nm p) [a] [] pos)) none pos2) (tRaiseSrc C W ta) := ps_raise hc tk (pmk_src T hr ha hg hdb he hpl)
/-- err.at, err the exception that the suite holds (at a; its class cls, its dict d) -/
def tBySrc (C : Addr) (a : Addr) (cls : Value) (d : Option Addr) (te : TE) : TE := fun σ H Q => te σ H fun x H1 => x = .ref a ∧ cls = .ref C ∧ ∃ (dd : Addr) (v : V), d = some dd ∧ H1 dd = some (.xd [(("at" : Str), v)]) ∧ Q v H1
theorem pe_bySrc {a : Addr} {oe : Obj} {cls : Value} {d : Option Addr} {pn : List (Addr × Obj)} {e : Expr} {te : TE} {pos : Pos} (T : PySem.SrcX.SrcTxt X.prog X.K X.mg nm C fI) (hz : Zc cls d oe) (hf : ∃ vs, oe.data = .fields vs) (he : PE (X.suite a ((a, oe) :: pn)) e te)
    (hb : attributeBase e "at" X.env (eval e X.env) = eval e X.env := by rfl) :
    PE (X.suite a ((a, oe) :: pn)) (.Attribute e "at" pos) (tBySrc C a cls d te) := by
  refine ⟨fun pins s σ H Q I h => ?_⟩
  refine attr_of hb (thn (he.run pins s σ H _ I h) fun u s1 hh => ?_)
  obtain ⟨x, H1, I1, rx, ex, ec, dd, v, ed, ea, q⟩ := hh
  subst ex
  obtain rfl : u = Value.ref a := rx
  subst ec
  subst ed
  obtain ⟨ha, _⟩ := I1.pin (a, oe) (List.mem_append_left _ List.mem_cons_self)
  obtain ⟨vs, hd⟩ := hf
  have hx : ObjOk X.prog X.w H1 s1.heap dd (.xd [(("at" : Str), v)]) := I1.hok dd _ ea
  obtain ⟨mA, hns, hr⟩ := hx
  obtain ⟨od, ho, hl⟩ := lookIn_ns hns
  have l : List.lookup ("at" : Str) [(("at" : Str), v)] = some v := by simp [List.lookup]
  obtain ⟨u, hu, ru⟩ := RelO.some_of (v := v) (o := mA "at") (by rw [← l]; exact hr "at")
  have J : PySem.W.InstAt s1.heap a oe C (some od) := ⟨ha, hz.1, by unfold PySem.W.notCls; rw [hd] <;> rfl, by rw [hz.2]; exact ho⟩
  exact HandSPX.exc_get I1.kIn J T.ga T.gg T.exC (PySem.W.findObj_own T.hdC T.noN rfl (by rw [hl, hu])) (handed_of ru) ⟨v, H1, I1.tok _, ru, q⟩
end
end L2
/-! Defs that may raise, over the same layer; texts searched. -/
namespace Lv
open PySem PySem.Spec PyProof.Rows L2

section
variable {P : Program} {w : World} {K : PySem.W.Frag} {mg : Str → Option Value} {base : Heap} {N : List Str} {q : Str} {sc : Scope} {f : Addr} {cd : Value} {A : Around} {outer : List Env} {s : Shared} {H : Hp} {E : XK}
theorem tk_of : Takes (cxOf (L2.CX P w) P w K mg base N q sc f cd A outer s H E) (fun cls d _ H => E cls d H) := takes_of rfl rfl rfl rfl
theorem px_of : Passes (L2.CX P w) (cxOf (L2.CX P w) P w K mg base N q sc f cd A outer s H E) E := passes_call tk_of (fun _ _ _ _ h => h)
theorem po_of : PassesOwn (model (cxOf (L2.CX P w) P w K mg base N q sc f cd A outer s H E).prog (cxOf (L2.CX P w) P w K mg base N q sc f cd A outer s H E).w) (cxOf (L2.CX P w) P w K mg base N q sc f cd A outer s H E).A (cxOf (L2.CX P w) P w K mg base N q sc f cd A outer s H E).env (cxOf (L2.CX P w) P w K mg base N q sc f cd A outer s H E).xe := passes_of rfl
end
/-- a def that may raise, by its module's name -/
structure CalX (P : Program) (w : World) (K : PySem.W.Frag) (mg : Str → Option Value) (base : Heap) (k : Nat) (x : Str) (sp : Sp) : Prop where
  ex : ∃ (f : Addr) (fd : FuncData) (ps : List Str), FnOk P w K mg base (L2.CX P w) k f fd ps sp ∧ mg x = some (.ref f) ∧ PySem.W.keepIn K (.ref f) = true ∧ Binds K fd ps []
section
variable {X : Cx} {k j : Nat} {x : Str} {sp : Sp} {E : XK} {p pos : Pos} {e : Expr} {es : List Expr} {t : TA}
theorem pe_cx (c : CalX X.prog X.w X.K X.mg X.base k x sp) (hr : Room j X.A) (hk : k ≤ j) (hg : Gl X x) (hx : Passes (L2.CX X.prog X.w) X E) (ha : PA X (e :: es) t)
    (hdb : (x == ("__debug__" : Str)) = false := by decide) (he : starEach (e :: es) X.env = (false, eval e X.env) :: starEach es X.env := by rfl) (hpl : (backTo pos (starEach es X.env)).any (·.1) = false := by rfl) :
    PE X (.Call (.Name x p) (e :: es) [] pos) (tCall sp [] E t) := by
  obtain ⟨f, fd, ps, F, hm, kp, b⟩ := c.ex
  exact pe_call F (hr.mono hk) hg hm kp b .nil hx ha hdb he hpl
end
/-- the way out with an error of the class at C whose field is i -/
def Err (C : Addr) (E : XK) (H : Hp) (i : Nat) : Prop := ∀ d H', H d = none → Same H H' → H' d = some (.xd [(("at" : Str), .int (i : Int))]) → E (.ref C) (some d) H'
theorem Err.mono {C : Addr} {E : XK} {H H1 : Hp} {i : Nat} (e : Err C E H i) (s : Same H H1) : Err C E H1 i := fun d H' hd s' h => e d H' (s.free hd) (s.trans s') h
section
variable {σ : L2.St} {H : Hp} {D : Ends} {C : Addr} {E : XK} {ta : TA}
def RaiseI (C : Addr) (E : XK) (vs : List V) (H : Hp) : Prop := ∃ v : Int, vs = [.int v] ∧ v.natAbs.log2 < 1920 ∧ ∀ d, H d = none → E (.ref C) (some d) (upd H d (.xd [(("at" : Str), .int v)]))
theorem w_raise (k : ta σ H fun vs H1 => RaiseI C E vs H1) : tRaiseSrc C (fun cls d _ H => E cls d H) ta D σ H := k
theorem raise_I {i : Nat} (hi : i ≤ 1000000) (h : Err C E H i) : RaiseI C E [.int (i : Int)] H := by
  refine ⟨(i : Int), rfl, ?_, fun d hd => h d _ hd (same_new0 hd) upd_same⟩
  rw [Int.natAbs_natCast]
  by_cases h0 : i = 0
  · subst h0; decide
  · exact Nat.lt_trans ((Nat.log2_lt h0).mpr (show i < 2 ^ 31 by omega)) (by decide)
end

/-! ### texts: order, search -/
def rLeS : R2 := fun x y H Q => ∃ i j, x = .str i ∧ y = .str j ∧ Q (.bl (!decide (j.cps.toList < i.cps.toList))) H
theorem op_leS {X : Cx} : OpR X (compareOp .LtE) rLeS := op_le_str
theorem lt_one (a b : Nat) : (([a] : List Nat) < [b]) ↔ a < b := by
  constructor
  · intro h
    cases h with
    | rel h => exact h
    | cons h => cases h
  · intro h
    exact .rel h
theorem w_leC {Q : VK} {H : Hp} {a b : Nat} (k : Q (.bl (decide (a ≤ b))) H) : rLeS (T [a]) (T [b]) H Q := by
  refine ⟨_, _, rfl, rfl, ?_⟩
  have e : (!decide (([b] : List Nat) < [a])) = decide (a ≤ b) := by
    by_cases h : a ≤ b
    · rw [decide_eq_true h, decide_eq_false (fun z => by have := (lt_one b a).mp z; omega)]; rfl
    · rw [decide_eq_false h, decide_eq_true ((lt_one b a).mpr (by omega))]; rfl
  show Q (.bl (!decide (([b] : List Nat) < [a]))) H
  rw [e]
  exact k
def rFind3 : V → List V → Hp → VK → Prop := fun x xs H Q => ∃ (a b : Str) (i : Int), x = .str a ∧ xs = [.str b, .int i] ∧ Q (.int (Txt.find3 a b i)) H
theorem mt_findS {X : Cx} : MtR X "str.find" rFind3 := mt_find3
def rStarts3 : V → List V → Hp → VK → Prop := fun x xs H Q => ∃ (a b : Str) (i : Int), x = .str a ∧ xs = [.str b, .int i] ∧ Q (.bl (Txt.startswith3 a b i)) H
theorem mt_startsS {X : Cx} : MtR X "str.startswith" rStarts3 := mt_startswith3
def rIsdigit : V → List V → Hp → VK → Prop := fun x xs H Q => ∃ a, x = .str a ∧ xs = [] ∧ True ∧ Q (.bl (Txt.isdigit a)) H
theorem mt_isdigitS {X : Cx} : MtR X "str.isdigit" rIsdigit := mt_isdigit
/-- where the first c from i on stands; -1 -/
def findC (cs : List Nat) (c i : Nat) : Int := if i + ((cs.drop i).takeWhile (fun x => x != c)).length < cs.length then ((i + ((cs.drop i).takeWhile (fun x => x != c)).length : Nat) : Int) else -1
theorem tw_get {p : Nat → Bool} : ∀ {l : List Nat} {j : Nat} {x : Nat}, j < (l.takeWhile p).length → l[j]? = some x → p x = true
  | [], _, _, h, _ => by simp at h
  | a :: l, j, x, h, e => by
    rw [List.takeWhile_cons] at h
    by_cases ha : p a = true
    · rw [if_pos ha] at h
      cases j with
      | zero => rw [List.getElem?_cons_zero] at e; cases e; exact ha
      | succ j => exact tw_get (l := l) (j := j) (by simpa using h) (by simpa using e)
    · rw [if_neg ha] at h; simp at h
theorem tw_end {p : Nat → Bool} : ∀ {l : List Nat}, (l.takeWhile p).length < l.length → ∃ x, l[(l.takeWhile p).length]? = some x ∧ p x = false
  | [], h => by simp at h
  | a :: l, h => by
    rw [List.takeWhile_cons] at h ⊢
    by_cases ha : p a = true
    · rw [if_pos ha] at h ⊢
      obtain ⟨x, e, hx⟩ := tw_end (l := l) (by simpa using h)
      exact ⟨x, by simpa using e, hx⟩
    · rw [if_neg ha]
      exact ⟨a, by simp, by simpa using ha⟩
theorem tw_le {p : Nat → Bool} (l : List Nat) : (l.takeWhile p).length ≤ l.length := (List.takeWhile_prefix p).length_le
/-- the first place of a c is told by takeWhile -/
theorem tw_first {c : Nat} {l : List Nat} {k : Nat} (h1 : l[k]? = some c) (h2 : ∀ j, j < k → l[j]? ≠ some c) : (l.takeWhile (fun x => x != c)).length = k := by
  rcases Nat.lt_trichotomy (l.takeWhile (fun x => x != c)).length k with h | h | h
  · obtain ⟨hk, _⟩ := List.getElem?_eq_some_iff.mp h1
    obtain ⟨x, e, hx⟩ := tw_end (p := fun x => x != c) (l := l) (by omega)
    have : x = c := by simpa using hx
    exact absurd (this ▸ e) (h2 _ h)
  · exact h
  · have := tw_get h h1
    simp at this
theorem find_T {cs : List Nat} {c i : Nat} (hi : i ≤ cs.length) : Txt.find3 ⟨cs.toArray⟩ ⟨#[c]⟩ (i : Int) = findC cs c i := by
  have hf : PySem.fromIndex (⟨cs.toArray⟩ : Str).length (i : Int) = i := by
    rw [len_T]
    unfold PySem.fromIndex
    first
      | (simp; omega)
      | (simp; done)
      | omega
  have gd : ∀ v, v < cs.length → (⟨cs.toArray⟩ : Str).cps.getD v 0 = cs.getD v 0 := fun v hv => by simp [Array.getD, hv, List.getD]
  unfold findC
  rcases StrLaws.find3_spec ⟨cs.toArray⟩ c (i : Int) with ⟨e, hn⟩ | ⟨k, e, h1, h2, h3, h4⟩
  · rw [hf] at hn
    rw [len_T] at hn
    rw [e, if_neg]
    intro hlt
    have hl2 : ((cs.drop i).takeWhile (fun x => x != c)).length < (cs.drop i).length := by rw [List.length_drop]; omega
    obtain ⟨x, ex, hx⟩ := tw_end hl2
    have : x = c := by simpa using hx
    subst this
    rw [List.getElem?_drop] at ex
    obtain ⟨hv, ev⟩ := List.getElem?_eq_some_iff.mp ex
    refine hn _ (Nat.le_add_right _ _) hv ?_
    rw [gd _ hv, List.getD_eq_getElem?_getD, ex]
    rfl
  · rw [hf] at h1 h4
    rw [len_T] at h2
    have hk : (cs.drop i)[k - i]? = some c := by
      rw [List.getElem?_drop, show i + (k - i) = k by omega, List.getElem?_eq_getElem h2]
      rw [gd _ h2, List.getD_eq_getElem?_getD, List.getElem?_eq_getElem h2] at h3
      exact congrArg some h3
    have hb : ∀ j, j < k - i → (cs.drop i)[j]? ≠ some c := fun j hj z => by
      rw [List.getElem?_drop] at z
      obtain ⟨hv, ev⟩ := List.getElem?_eq_some_iff.mp z
      refine h4 (i + j) (Nat.le_add_right _ _) (by omega) ?_
      rw [gd _ hv, List.getD_eq_getElem?_getD, z]
      rfl
    have hl := tw_first hk hb
    rw [e, hl, if_pos (by omega)]
    congr 1
    omega
theorem w_find {Q : VK} {H : Hp} {cs : List Nat} {c i : Nat} (hi : i ≤ cs.length) (k : Q (.int (findC cs c i)) H) : rFind3 (T cs) [T [c], .int (i : Int)] H Q :=
  ⟨_, ⟨#[c]⟩, _, rfl, rfl, by rw [find_T hi]; exact k⟩
theorem starts_T {cs b : List Nat} {i : Nat} (hi : i ≤ cs.length) : Txt.startswith3 ⟨cs.toArray⟩ ⟨b.toArray⟩ (i : Int) = b.isPrefixOf (cs.drop i) := by
  have hf : PySem.fromIndex (⟨cs.toArray⟩ : Str).length (i : Int) = i := by
    rw [len_T]
    unfold PySem.fromIndex
    first
      | (simp; omega)
      | (simp; done)
      | omega
  unfold Txt.startswith3
  rw [hf, len_T, len_T]
  have e : Builtin.Str.subAt ⟨cs.toArray⟩ ⟨b.toArray⟩ i = decide ((cs.drop i).take b.length = b) := by
    unfold Builtin.Str.subAt
    rw [len_T]
    have : (⟨cs.toArray⟩ : Str).cps.extract i (i + b.length) = ((cs.drop i).take b.length).toArray := by
      apply Array.ext'
      simp [List.extract_eq_drop_take, List.take_drop]
    rw [this]
    by_cases h : (cs.drop i).take b.length = b
    · rw [decide_eq_true h, h]; simp
    · rw [decide_eq_false h]
      refine beq_eq_false_iff_ne.mpr fun z => h ?_
      have := congrArg Array.toList z
      simpa using this
  rw [e, Bool.eq_iff_iff, List.isPrefixOf_iff_prefix, Bool.and_eq_true, decide_eq_true_iff, decide_eq_true_iff]
  constructor
  · rintro ⟨_, h⟩
    rw [← h]
    exact List.take_prefix _ _
  · intro h
    have hl := h.length_le
    rw [List.length_drop] at hl
    refine ⟨by have : b.length = 0 ∨ 0 < b.length := by omega
               omega, (List.prefix_iff_eq_take.mp h).symm⟩
theorem w_starts {Q : VK} {H : Hp} {cs b : List Nat} {i : Nat} (hi : i ≤ cs.length) (k : Q (.bl (b.isPrefixOf (cs.drop i))) H) : rStarts3 (T cs) [T b, .int (i : Int)] H Q :=
  ⟨_, ⟨b.toArray⟩, _, rfl, rfl, by rw [starts_T hi]; exact k⟩
theorem dig_ascii : ∀ c, c < 128 → Unicode.isDigit c = (decide (48 ≤ c) && decide (c ≤ 57)) := by decide +kernel
theorem w_isdigit {Q : VK} {H : Hp} {cs : List Nat} (hne : cs ≠ []) (ha : ∀ c ∈ cs, c < 128) (k : Q (.bl (cs.all fun c => decide (48 ≤ c) && decide (c ≤ 57))) H) : rIsdigit (T cs) [] H Q := by
  refine ⟨_, rfl, rfl, trivial, ?_⟩
  have e : Txt.isdigit ⟨cs.toArray⟩ = cs.all fun c => decide (48 ≤ c) && decide (c ≤ 57) := by
    unfold Txt.isdigit
    rw [len_T]
    have h0 : 0 < cs.length := by
      cases cs with
      | nil => exact absurd rfl hne
      | cons _ _ => simp
    have h1 : cs.toArray.all Unicode.isDigit = cs.all fun c => decide (48 ≤ c) && decide (c ≤ 57) := by
      rw [List.all_toArray]
      rw [Bool.eq_iff_iff, List.all_eq_true, List.all_eq_true]
      exact ⟨fun h c hc => by rw [← dig_ascii c (ha c hc)]; exact h c hc, fun h c hc => by rw [dig_ascii c (ha c hc)]; exact h c hc⟩
    show (decide (cs.length > 0) && cs.toArray.all Unicode.isDigit) = _
    rw [h1, decide_eq_true h0, Bool.true_and]
  rw [e]
  exact k
end Lv
/-! Trees of tuples, texts, numbers, truths and None; two of one shape are told the same. -/
namespace Lv
open PySem PySem.Spec PyProof.Rows L2
inductive Tr where
  | s (a : List Nat)
  | i (x : Int)
  | b (x : Bool)
  | n
  | t (l : List Tr)
mutual
inductive TrAt (K : PySem.W.Frag) (H : Hp) : V → Tr → Prop
  | s {a : List Nat} : TrAt K H (T a) (.s a)
  | i {x : Int} : TrAt K H (.int x) (.i x)
  | b {x : Bool} : TrAt K H (.bl x) (.b x)
  | n : TrAt K H .non .n
  | t {p : Addr} {vs : List V} {l : List Tr} : SqT K H p vs → TrsAt K H vs l → TrAt K H (.ref p) (.t l)
inductive TrsAt (K : PySem.W.Frag) (H : Hp) : List V → List Tr → Prop
  | nil : TrsAt K H [] []
  | cons {v : V} {t : Tr} {vs : List V} {l : List Tr} : TrAt K H v t → TrsAt K H vs l → TrsAt K H (v :: vs) (t :: l)
end
mutual
theorem TrAt.imp {K : PySem.W.Frag} {H H' : Hp} (f : ∀ p vs, SqT K H p vs → SqT K H' p vs) : ∀ {v : V} {t : Tr}, TrAt K H v t → TrAt K H' v t
  | _, _, .s => .s
  | _, _, .i => .i
  | _, _, .b => .b
  | _, _, .n => .n
  | _, _, .t h r => .t (f _ _ h) (TrsAt.imp f r)
theorem TrsAt.imp {K : PySem.W.Frag} {H H' : Hp} (f : ∀ p vs, SqT K H p vs → SqT K H' p vs) : ∀ {vs : List V} {l : List Tr}, TrsAt K H vs l → TrsAt K H' vs l
  | _, _, .nil => .nil
  | _, _, .cons h r => .cons (TrAt.imp f h) (TrsAt.imp f r)
end
theorem TrAt.same {K : PySem.W.Frag} {H H1 : Hp} {v : V} {t : Tr} (h : TrAt K H v t) (s : Same H H1) : TrAt K H1 v t := h.imp fun p vs q => Same.sqT s q
theorem TrsAt.same {K : PySem.W.Frag} {H H1 : Hp} {vs : List V} {l : List Tr} (h : TrsAt K H vs l) (s : Same H H1) : TrsAt K H1 vs l := h.imp fun p vs q => Same.sqT s q
theorem sqT_but {K : PySem.W.Frag} {D p : Addr} {H H1 : Hp} {xs vs : List V} (q : SqT K H p vs) (hD : H D = some (.lst xs)) (k : ∀ b o, b ≠ D → H b = some o → H1 b = some o) : SqT K H1 p vs := by
  rcases q with (h | ⟨o, h⟩) | h
  · exact .inl (.inl (k _ _ (fun e => by rw [e, hD] at h; cases h) h))
  · exact .inl (.inr ⟨o, k _ _ (fun e => by rw [e, hD] at h; cases h) h⟩)
  · exact .inr h
theorem TrAt.but {K : PySem.W.Frag} {D : Addr} {H H1 : Hp} {xs : List V} {v : V} {t : Tr} (h : TrAt K H v t) (hD : H D = some (.lst xs)) (k : ∀ b o, b ≠ D → H b = some o → H1 b = some o) : TrAt K H1 v t := h.imp fun _ _ q => sqT_but q hD k
theorem TrsAt.but {K : PySem.W.Frag} {D : Addr} {H H1 : Hp} {xs : List V} {vs : List V} {l : List Tr} (h : TrsAt K H vs l) (hD : H D = some (.lst xs)) (k : ∀ b o, b ≠ D → H b = some o → H1 b = some o) : TrsAt K H1 vs l := h.imp fun _ _ q => sqT_but q hD k
theorem TrsAt.snoc {K : PySem.W.Frag} {H : Hp} {v : V} {t : Tr} (h : TrAt K H v t) : ∀ {vs : List V} {l : List Tr}, TrsAt K H vs l → TrsAt K H (vs ++ [v]) (l ++ [t])
  | _, _, .nil => .cons h .nil
  | _, _, .cons a r => .cons a (TrsAt.snoc h r)
theorem TrsAt.length {K : PySem.W.Frag} {H : Hp} : ∀ {vs : List V} {l : List Tr}, TrsAt K H vs l → vs.length = l.length
  | _, _, .nil => rfl
  | _, _, .cons _ r => by rw [List.length_cons, List.length_cons, TrsAt.length r]
theorem TrsAt.get {K : PySem.W.Frag} {H : Hp} : ∀ {vs : List V} {l : List Tr} {i : Nat}, TrsAt K H vs l → i < l.length → ∃ v t, vs[i]? = some v ∧ l[i]? = some t ∧ TrAt K H v t
  | _, _, _, .nil, h => absurd h (Nat.not_lt_zero _)
  | _, _, 0, .cons h _, _ => ⟨_, _, rfl, rfl, h⟩
  | _, _, i + 1, .cons _ r, h => by
    obtain ⟨v, t, h1, h2, h3⟩ := TrsAt.get r (i := i) (by simpa using h)
    exact ⟨v, t, by simpa using h1, by simpa using h2, h3⟩
theorem trs_texts {K : PySem.W.Frag} {H : Hp} : ∀ l : List (List Nat), TrsAt K H (l.map T) (l.map Tr.s)
  | [] => .nil
  | _ :: l => .cons .s (trs_texts l)
/-- no tree is nested deeper than so -/
def TrD : Nat → Tr → Prop
  | 0, _ => False
  | n + 1, .t l => l.length < 1000000 ∧ ∀ t ∈ l, TrD n t
  | _ + 1, _ => True
/-! isinstance -/
section
variable {K : PySem.W.Frag} {H : Hp} {Q : VK}
theorem w_isi {x : V} {a ty : String} {r : Bool} (hx : TyX K H x (.type a)) (k : Q (.bl r) H) (hk : kitB a ty = some r := by decide +kernel) : rIsi K [x, .ty ty] H Q := ⟨_, _, _, _, _, rfl, .ty _, hx, kit_ty hk, k⟩
theorem tyx_tup {p : Addr} {vs : List V} (h : SqT K H p vs) : TyX K H (.ref p) (.type "tuple") := by
  rcases h with (h | ⟨o, h⟩) | ⟨o, its, n, h, e1, e2, _⟩
  · exact .base (.tup h)
  · exact .fTuple h
  · exact .kTuple h e1
theorem tyx_s {a : List Nat} : TyX K H (T a) (.type "str") := .base (.str _)
theorem tyx_i {i : Int} : TyX K H (.int i) (.type "int") := .base (.int _)
theorem tyx_b {b : Bool} : TyX K H (.bl b) (.type "bool") := .base (.bl _)
theorem tyx_n : TyX K H .non (.type "NoneType") := .base .non
theorem isi_s_tuple {a : List Nat} (k : Q (.bl false) H) : rIsi K [T a, .ty "tuple"] H Q := w_isi (r := false) tyx_s k
theorem isi_s_bool {a : List Nat} (k : Q (.bl false) H) : rIsi K [T a, .ty "bool"] H Q := w_isi (r := false) tyx_s k
theorem isi_s_int {a : List Nat} (k : Q (.bl false) H) : rIsi K [T a, .ty "int"] H Q := w_isi (r := false) tyx_s k
theorem isi_s_str {a : List Nat} (k : Q (.bl true) H) : rIsi K [T a, .ty "str"] H Q := w_isi (r := true) tyx_s k
theorem isi_i_tuple {i : Int} (k : Q (.bl false) H) : rIsi K [.int i, .ty "tuple"] H Q := w_isi (r := false) tyx_i k
theorem isi_i_bool {i : Int} (k : Q (.bl false) H) : rIsi K [.int i, .ty "bool"] H Q := w_isi (r := false) tyx_i k
theorem isi_i_int {i : Int} (k : Q (.bl true) H) : rIsi K [.int i, .ty "int"] H Q := w_isi (r := true) tyx_i k
theorem isi_i_str {i : Int} (k : Q (.bl false) H) : rIsi K [.int i, .ty "str"] H Q := w_isi (r := false) tyx_i k
theorem isi_b_tuple {b : Bool} (k : Q (.bl false) H) : rIsi K [.bl b, .ty "tuple"] H Q := w_isi (r := false) tyx_b k
theorem isi_b_bool {b : Bool} (k : Q (.bl true) H) : rIsi K [.bl b, .ty "bool"] H Q := w_isi (r := true) tyx_b k
theorem isi_b_int {b : Bool} (k : Q (.bl true) H) : rIsi K [.bl b, .ty "int"] H Q := w_isi (r := true) tyx_b k
theorem isi_b_str {b : Bool} (k : Q (.bl false) H) : rIsi K [.bl b, .ty "str"] H Q := w_isi (r := false) tyx_b k
theorem isi_n_tuple  (k : Q (.bl false) H) : rIsi K [.non, .ty "tuple"] H Q := w_isi (r := false) tyx_n k
theorem isi_n_bool  (k : Q (.bl false) H) : rIsi K [.non, .ty "bool"] H Q := w_isi (r := false) tyx_n k
theorem isi_n_int  (k : Q (.bl false) H) : rIsi K [.non, .ty "int"] H Q := w_isi (r := false) tyx_n k
theorem isi_n_str  (k : Q (.bl false) H) : rIsi K [.non, .ty "str"] H Q := w_isi (r := false) tyx_n k
theorem isi_t_tuple {p : Addr} (h : ∃ vs, SqT K H p vs) (k : Q (.bl true) H) : rIsi K [.ref p, .ty "tuple"] H Q := w_isi (r := true) (h.elim fun _ h => tyx_tup h) k
theorem isi_t_bool {p : Addr} (h : ∃ vs, SqT K H p vs) (k : Q (.bl false) H) : rIsi K [.ref p, .ty "bool"] H Q := w_isi (r := false) (h.elim fun _ h => tyx_tup h) k
theorem isi_t_int {p : Addr} (h : ∃ vs, SqT K H p vs) (k : Q (.bl false) H) : rIsi K [.ref p, .ty "int"] H Q := w_isi (r := false) (h.elim fun _ h => tyx_tup h) k
theorem isi_t_str {p : Addr} (h : ∃ vs, SqT K H p vs) (k : Q (.bl false) H) : rIsi K [.ref p, .ty "str"] H Q := w_isi (r := false) (h.elim fun _ h => tyx_tup h) k
end

/-! is it None -/
theorem ifN_s {a : List Nat} {A B : Prop} (k : B) : if decide (T a = V.non) = true then A else B := by rw [if_neg (by simp)]; exact k
theorem ifN_i {a : Int} {A B : Prop} (k : B) : if decide (V.int a = V.non) = true then A else B := by rw [if_neg (by simp)]; exact k
theorem ifN_b {a : Bool} {A B : Prop} (k : B) : if decide (V.bl a = V.non) = true then A else B := by rw [if_neg (by simp)]; exact k
theorem ifN_r {a : Addr} {A B : Prop} (k : B) : if decide (V.ref a = V.non) = true then A else B := by rw [if_neg (by simp)]; exact k
theorem ifN_n {A B : Prop} (k : A) : if decide (V.non = V.non) = true then A else B := by rw [if_pos (by simp)]; exact k
theorem ifM_s {a : List Nat} {A B : Prop} (k : A) : if (!decide (T a = V.non)) = true then A else B := by rw [if_pos (by simp)]; exact k
theorem ifM_i {a : Int} {A B : Prop} (k : A) : if (!decide (V.int a = V.non)) = true then A else B := by rw [if_pos (by simp)]; exact k
theorem ifM_b {a : Bool} {A B : Prop} (k : A) : if (!decide (V.bl a = V.non)) = true then A else B := by rw [if_pos (by simp)]; exact k
theorem ifM_r {a : Addr} {A B : Prop} (k : A) : if (!decide (V.ref a = V.non)) = true then A else B := by rw [if_pos (by simp)]; exact k
theorem ifM_n {A B : Prop} (k : B) : if (!decide (V.non = V.non)) = true then A else B := by rw [if_neg (by simp)]; exact k
theorem at_self {x : V} {H : Hp} {Q : VK} (k : Q (.bl true) H) : Q (.bl (decide (x = x))) H := by rw [decide_eq_true rfl]; exact k
theorem ifE_self {x : V} {A B : Prop} (k : A) : if decide (x = x) = true then A else B := by rw [if_pos (by simp)]; exact k
theorem ifD_self {x : V} {A B : Prop} (k : B) : if (!decide (x = x)) = true then A else B := by rw [if_neg (by simp)]; exact k
end Lv
/-! More steps: a comprehension over a range or a list, the heap a letter; enumerate over a list; a tuple's index; not in. -/
namespace Lv
open PySem PySem.Spec PyProof.Rows L2
/-- all but the list at D is as it was -/
def But (D : Addr) (H H1 : Hp) : Prop := ∀ b o, b ≠ D → H b = some o → H1 b = some o
theorem same_of_but {D : Addr} {H H1 H2 : Hp} (hD : H D = none) (s : Same H H1) (k : But D H1 H2) : Same H H2 := fun b o h => k b o (fun e => by rw [e, hD] at h; cases h) (s b o h)
section
variable {σ : L2.St} {H : Hp} {Q : VK} {K : PySem.W.Frag}
/-- what a comprehension over a range asks -/
def LcR (g : TG) (tt : TT) (te : TE) (vs : List Nat) (ws : List V) (σ : L2.St) (H : Hp) (Q : VK) : Prop := ∃ j : Int, ws = [.int j] ∧ -(2 ^ 62) ≤ j ∧ j < 2 ^ 62 ∧ ∀ D, H D = none → ∃ W : Nat → Nat → Hp → Prop, (∃ m, W 0 m (upd H D (.lst []))) ∧ ∀ i m H, W i m H →
  ((Itr 0 j.toNat).stop i H ∧ Q (.ref D) H) ∨ ((Itr 0 j.toNat).go i H ∧ ∃ Nx : Hp → Prop, (∀ H', Nx H' → ∃ m', m' < m ∧ W (i + 1) m' H') ∧ ∀ x H', (Itr 0 j.toNat).yld i H x H' → g x (wipe σ vs) H' fun σ2 H2 => wipe σ2 vs = wipe σ vs ∧ tt σ2 H2 fun b H3 =>
    if b = true then te σ2 H3 fun y H4 => ∃ acc, H4 D = some (.lst acc) ∧ acc.length < sizeLine ∧ Nx (upd H4 D (.lst (acc ++ [y]))) else Nx H3)
theorem w_lcR {ta : TA} {g : TG} {tt : TT} {te : TE} {vs : List Nat} (k : ta σ H fun ws H1 => LcR g tt te vs ws σ H1 Q) : tLc (iRng1 ta) g tt te vs σ H Q := k
/-- what holds between two turns: of the list at D, and what is made so far -/
def LcN (Pv : Addr → Nat → List V → Hp → Prop) (D : Addr) (i : Nat) (H1 : Hp) : Prop := ∃ acc, acc.length ≤ i ∧ H1 D = some (.lst acc) ∧ Pv D i acc H1
theorem lc_skip {Pv : Addr → Nat → List V → Hp → Prop} {D : Addr} {i : Nat} {acc : List V} {H1 : Hp} (hl : acc.length ≤ i) (h : H1 D = some (.lst acc)) (p : Pv D (i + 1) acc H1) : LcN Pv D (i + 1) H1 := ⟨acc, by omega, h, p⟩
theorem lc_keep {Pv : Addr → Nat → List V → Hp → Prop} {D : Addr} {i : Nat} {acc : List V} {y : V} {H1 : Hp} (hl : acc.length ≤ i) (hi : i < 1000000) (h : H1 D = some (.lst acc)) (p : ∀ H5, H5 D = some (.lst (acc ++ [y])) → But D H1 H5 → Pv D (i + 1) (acc ++ [y]) H5) :
    ∃ acc, H1 D = some (.lst acc) ∧ acc.length < sizeLine ∧ LcN Pv D (i + 1) (upd H1 D (.lst (acc ++ [y]))) :=
  ⟨acc, h, Nat.lt_of_le_of_lt hl (Nat.lt_trans hi (by decide)), acc ++ [y], by rw [List.length_append]; show acc.length + 1 ≤ i + 1; omega, upd_same, p _ upd_same fun b o n e => by rw [upd_ne n]; exact e⟩
/-- over range(n) -/
theorem lc_R {g : TG} {tt : TT} {te : TE} {vs : List Nat} {j : Int} (Pv : Addr → Nat → List V → Hp → Prop) (hj : 0 ≤ j) (hn : j < 1000000)
    (h0 : ∀ D H1, H D = none → Same H H1 → H1 D = some (.lst []) → Pv D 0 [] H1)
    (hs : ∀ D (i : Nat) acc H1, (i : Int) < j → acc.length ≤ i → H1 D = some (.lst acc) → Pv D i acc H1 → g (.int (0 + (i : Int))) (wipe σ vs) H1 fun σ2 H2 => wipe σ2 vs = wipe σ vs ∧ tt σ2 H2 fun b H3 =>
      if b = true then te σ2 H3 fun y H4 => ∃ acc, H4 D = some (.lst acc) ∧ acc.length < sizeLine ∧ LcN Pv D (i + 1) (upd H4 D (.lst (acc ++ [y]))) else LcN Pv D (i + 1) H3)
    (hd : ∀ D acc H1, acc.length ≤ j.toNat → H1 D = some (.lst acc) → Pv D j.toNat acc H1 → Q (.ref D) H1) : LcR g tt te vs [.int j] σ H Q := by
  refine ⟨j, rfl, by omega, by omega, fun D hD => ?_⟩
  refine ⟨fun i m H1 => m = j.toNat - i ∧ i ≤ j.toNat ∧ LcN Pv D i H1, ⟨j.toNat, by simp, Nat.zero_le _, [], Nat.le_refl _, upd_same, h0 D _ hD (same_new0 hD) upd_same⟩, ?_⟩
  rintro i m H1 ⟨rfl, hi, acc, ha, hD1, p⟩
  by_cases hlt : i < j.toNat
  · refine .inr ⟨hlt, LcN Pv D (i + 1), fun H' p' => ⟨j.toNat - (i + 1), by omega, rfl, hlt, p'⟩, fun x H' y => ?_⟩
    obtain ⟨e, y⟩ := y
    subst e y
    exact hs D i acc _ (by omega) ha hD1 p
  · have e : i = j.toNat := by omega
    subst e
    exact .inl ⟨Nat.le_refl _, hd D acc _ ha hD1 p⟩
/-- over a list -/
def LcL (K : PySem.W.Frag) (g : TG) (tt : TT) (te : TE) (vs : List Nat) (x : V) (σ : L2.St) (H : Hp) (Q : VK) : Prop := ∃ a, x = .ref a ∧ (∃ xs, SqL K H a xs) ∧ ∀ D, H D = none → ∃ W : Nat → Nat → Hp → Prop, (∃ m, W 0 m (upd H D (.lst []))) ∧ ∀ i m H, W i m H →
  ((Itl K a).stop i H ∧ Q (.ref D) H) ∨ ((Itl K a).go i H ∧ ∃ Nx : Hp → Prop, (∀ H', Nx H' → ∃ m', m' < m ∧ W (i + 1) m' H') ∧ ∀ x H', (Itl K a).yld i H x H' → g x (wipe σ vs) H' fun σ2 H2 => wipe σ2 vs = wipe σ vs ∧ tt σ2 H2 fun b H3 =>
    if b = true then te σ2 H3 fun y H4 => ∃ acc, H4 D = some (.lst acc) ∧ acc.length < sizeLine ∧ Nx (upd H4 D (.lst (acc ++ [y]))) else Nx H3)
theorem w_lcL {te0 : TE} {g : TG} {tt : TT} {te : TE} {vs : List Nat} (k : te0 σ H fun x H1 => LcL K g tt te vs x σ H1 Q) : tLc (iList K te0) g tt te vs σ H Q := k
theorem lc_L {g : TG} {tt : TT} {te : TE} {vs : List Nat} {a : Addr} {xs : List V} (Pv : Addr → Nat → List V → Hp → Prop) (ha : SqL K H a xs)
    (h0 : ∀ D H1, H D = none → Same H H1 → H1 D = some (.lst []) → Pv D 0 [] H1)
    (hl : ∀ D i acc H1, i ≤ xs.length → Pv D i acc H1 → SqL K H1 a xs)
    (hs : ∀ D (i : Nat) x acc H1, xs[i]? = some x → acc.length ≤ i → H1 D = some (.lst acc) → Pv D i acc H1 → g x (wipe σ vs) H1 fun σ2 H2 => wipe σ2 vs = wipe σ vs ∧ tt σ2 H2 fun b H3 =>
      if b = true then te σ2 H3 fun y H4 => ∃ acc, H4 D = some (.lst acc) ∧ acc.length < sizeLine ∧ LcN Pv D (i + 1) (upd H4 D (.lst (acc ++ [y]))) else LcN Pv D (i + 1) H3)
    (hd : ∀ D acc H1, acc.length ≤ xs.length → H1 D = some (.lst acc) → Pv D xs.length acc H1 → Q (.ref D) H1) : LcL K g tt te vs (.ref a) σ H Q := by
  refine ⟨a, rfl, ⟨xs, ha⟩, fun D hD => ?_⟩
  refine ⟨fun i m H1 => m = xs.length - i ∧ i ≤ xs.length ∧ LcN Pv D i H1, ⟨xs.length, by simp, Nat.zero_le _, [], Nat.le_refl _, upd_same, h0 D _ hD (same_new0 hD) upd_same⟩, ?_⟩
  rintro i m H1 ⟨rfl, hi, acc, hac, hD1, p⟩
  have q := hl D i acc H1 hi p
  by_cases hlt : i < xs.length
  · refine .inr ⟨⟨xs, xs[i], q, List.getElem?_eq_getElem hlt⟩, LcN Pv D (i + 1), fun H' p' => ⟨xs.length - (i + 1), by omega, rfl, hlt, p'⟩, fun x H' y => ?_⟩
    obtain ⟨e, y⟩ := y
    subst e
    exact hs D i x acc _ (y xs q) hac hD1 p
  · have e : i = xs.length := by omega
    subst e
    exact .inl ⟨⟨xs, q, Nat.le_refl _⟩, hd D acc _ hac hD1 p⟩
/-- a comprehension without a test -/
theorem w_yes {G : Bool → Hp → Prop} (k : G true H) : tYes σ H G := k
/-! is None -/
def rIsN : R2 := fun x y H Q => y = .non ∧ Q (.bl (decide (x = .non))) H
theorem op_isN {X : Cx} : OpR X (compareOp .Is) rIsN := L2.op_isN
theorem w_isN {x : V} (k : Q (.bl (decide (x = .non))) H) : rIsN x .non H Q := ⟨rfl, k⟩
def rNotN : R2 := fun x y H Q => y = .non ∧ Q (.bl (!decide (x = .non))) H
theorem op_notN {X : Cx} : OpR X (compareOp .IsNot) rNotN := L2.op_notN
theorem w_notN {x : V} (k : Q (.bl (!decide (x = .non))) H) : rNotN x .non H Q := ⟨rfl, k⟩
/-! not in -/
theorem w_ninL {a : List Nat} {p : Addr} {l : List (List Nat)} (h : SqL K H p (l.map T)) (k : Q (.bl (!decide (a ∈ l))) H) : rIn K true (T a) (.ref p) H Q :=
  ⟨p, _, rfl, .inl h, rfl, flat_T l, by rw [if_pos rfl, inV_T]; exact k⟩
theorem w_ninT {a : List Nat} {p : Addr} {l : List (List Nat)} (h : SqT K H p (l.map T)) (k : Q (.bl (!decide (a ∈ l))) H) : rIn K true (T a) (.ref p) H Q :=
  ⟨p, _, rfl, .inr h, rfl, flat_T l, by rw [if_pos rfl, inV_T]; exact k⟩
/-! tuple(list): the new tuple's object is known (it has no dict) -/
def FT (H : Hp) (p : Addr) (xs : List V) : Prop := ∃ o : Obj, o.dict = none ∧ H p = some (.frz o (.tup xs))
theorem FT.sq {p : Addr} {xs : List V} (h : FT H p xs) : SqT K H p xs := by
  obtain ⟨o, _, h⟩ := h
  exact .inl (.inr ⟨o, h⟩)
theorem FT.same {p : Addr} {xs : List V} {H1 : Hp} (h : FT H p xs) (s : Same H H1) : FT H1 p xs := by
  obtain ⟨o, e, h⟩ := h
  exact ⟨o, e, s _ _ h⟩
theorem FT.but {p D : Addr} {xs ys : List V} {H1 : Hp} (h : FT H p xs) (hD : H D = some (.lst ys)) (k : ∀ b o, b ≠ D → H b = some o → H1 b = some o) : FT H1 p xs := by
  obtain ⟨o, e, h⟩ := h
  exact ⟨o, e, k _ _ (fun z => by rw [z, hD] at h; cases h) h⟩
def rTupOf (K : PySem.W.Frag) : List V → Hp → VK → Prop := fun xs H Q => ∃ p ys, xs = [.ref p] ∧ SqL K H p ys ∧ ∀ l o, H l = none → o.dict = none → Q (.ref l) (upd H l (.frz o (.tup ys)))
theorem call_tupleOf {X : Cx} : CallR X (.type "tuple") (rTupOf X.K) := by
  intro pins s σ H xs us Q I r h
  obtain ⟨p, ys, rfl, hq, q⟩ := h
  obtain ⟨u, rfl, rx⟩ := vals1 r
  cases rx
  obtain ⟨its, r', pl, hz⟩ := I.list hq
  have hlen := r'.length
  refine call_tuple_list pl.isList (fun h' kp => ?_) (by simp only [List.size_toArray] <;> omega)
  have I1 : Inv X pins σ H { s with heap := h' } := I.kept (t' := s.toks) kp
  have I2 : Inv X pins σ (upd H h'.objs.size (.frz { cls := .type "tuple", data := .seq its.toArray } (.tup ys))) { s with heap := h'.push { cls := .type "tuple", data := .seq its.toArray } } :=
    I1.laid (t' := s.toks) (fun b o e => Heap.get?_push_of_some _ e) (Nat.le_refl _) (show ObjOk X.prog X.w _ _ _ (.frz _ (.tup ys)) from ⟨Heap.get?_push_size _ rfl, hz, its, r', IsTup.new _ _⟩)
  exact ⟨.ref h'.objs.size, _, I2, rfl, q _ _ (I1.hok.fresh (Nat.le_refl _)) rfl⟩
theorem w_tupOf {p : Addr} {ys : List V} (h : SqL K H p ys) (k : ∀ l H1, H l = none → Same H H1 → FT H1 l ys → Q (.ref l) H1) : rTupOf K [.ref p] H Q :=
  ⟨p, ys, rfl, h, fun l o hl e => k l _ hl (same_new0 hl) ⟨o, e, upd_same⟩⟩
/-! a tuple's own method -/
def tBMT (r : V → List V → Hp → VK → Prop) (to : TE) (t : TA) : TE := fun σ H Q => to σ H fun x H1 => (∃ p xs, x = .ref p ∧ FT H1 p xs) ∧ t σ H1 fun xs H2 => r x xs H2 Q
theorem pe_bmT {X : Cx} {o e : Expr} {es : List Expr} {name : Str} {id : String} {r : V → List V → Hp → VK → Prop} {to : TE} {t : TA} {apos cpos : Pos} (pa : PlainAttrs "tuple") (slot : Slot "tuple" name id) (hty : typeOf (.builtin id) = pure (.type "method_descriptor")) (hm : MtR X id r) (ho : PE X o to) (ha : PA X (e :: es) t)
    (hbase : attributeBase o name X.env (eval o X.env) = eval o X.env := by rfl)
    (hfew : ((backTo cpos (starEach (e :: es) X.env)).all (fun x => !x.1) && (backToKw cpos (keywordEach [] X.env)).all (fun x => x.1.isSome)
      && decide ((e :: es).length + ([] : List Keyword).length + (if ([] : List Keyword).isEmpty then 0 else 1) < 30)) = true := by rfl)
    (hline : (apos.endLine == cpos.line) = true := by rfl) (hs : starEach (e :: es) X.env = (false, eval e X.env) :: starEach es X.env := by rfl) (hplain : (backTo cpos (starEach es X.env)).any (·.1) = false := by rfl) :
    PE X (.Call (.Attribute o name apos) (e :: es) [] cpos) (tBMT r to t) := by
  refine ⟨fun pins s σ H Q I h => ?_⟩
  refine wpAny_Call_method_late hbase hfew hline rfl (thn (ho.run pins s σ H _ I h) fun v s1 ⟨x, H1, I1, r1, ty, q1⟩ => ?_)
  obtain ⟨p, ys, rfl, o, hd, hp⟩ := ty
  cases r1
  obtain ⟨g, hz, its, rv, o2, g2, hc, n, hda⟩ := (show ObjOk X.prog X.w H1 s1.heap p (.frz o (.tup ys)) from I1.hok p _ hp)
  have eo : o2 = o := Option.some.inj (g2.symm.trans g)
  subst eo
  have h1 : s1.TypeIs (.ref p) "tuple" := ⟨o2, g, hc⟩
  have h2 : ∀ a, Value.ref p = .ref a → ∃ ob, s1.heap.get? a = some ob ∧ ob.dict = none := fun a e => by cases e; exact ⟨o2, g, hd⟩
  refine ⟨"tuple", id, pa, slot, hty, h1, h2, ?_⟩
  have hA := ha.run cpos pins s1 σ H1 _ I1 q1
  rw [hs] at hA ⊢
  refine Calls.callWith_builtin (by show (false || (backTo cpos (starEach es X.env)).any (·.1)) = false; rw [hplain] <;> rfl) (Calls.evalArgs_plain ?_)
  exact thn hA fun us s2 ⟨vs, H2, I2, r2, q2⟩ => hm pins s2 σ H2 (V.ref p) vs (.ref p) us Q I2 rfl r2 q2
theorem w_bmT {r : V → List V → Hp → VK → Prop} {to : TE} {t : TA} {σ : L2.St} (k : to σ H fun x H1 => (∃ p xs, x = .ref p ∧ FT H1 p xs) ∧ t σ H1 fun xs H2 => r x xs H2 Q) : tBMT r to t σ H Q := k
/-! t.index(x) -/
def rTupIx (K : PySem.W.Frag) : V → List V → Hp → VK → Prop := fun x xs H Q => ∃ p, ∃ ys : List Str, ∃ z j, x = .ref p ∧ xs = [.str z] ∧ SqT K H p (ys.map V.str) ∧ ys[j]? = some z ∧ (∀ m, m < j → ys[m]? ≠ some z) ∧ Q (.int (j : Nat)) H
theorem mt_tupIx {X : Cx} : MtR X "tuple.index" (rTupIx X.K) := L2.mt_tup_index
def S (a : List Nat) : Str := ⟨a.toArray⟩
theorem S_inj {a b : List Nat} (h : S a = S b) : a = b := T_inj (congrArg V.str h)
theorem map_T_S (l : List (List Nat)) : l.map T = (l.map S).map V.str := by rw [List.map_map]; rfl
theorem w_tupIx {a : List Nat} {p : Addr} {l : List (List Nat)} (h : SqT K H p (l.map T)) (ha : a ∈ l) (k : Q (.int ((l.idxOf a : Nat) : Int)) H) : rTupIx K (.ref p) [T a] H Q := by
  have hlt : l.idxOf a < l.length := List.idxOf_lt_length_of_mem ha
  refine ⟨p, l.map S, S a, l.idxOf a, rfl, rfl, by rw [← map_T_S]; exact h, ?_, fun m hm e => ?_, k⟩
  · rw [List.getElem?_map, List.getElem?_eq_getElem hlt, List.getElem_idxOf hlt]; rfl
  · have hm2 : m < l.length := Nat.lt_trans hm hlt
    rw [List.getElem?_map, List.getElem?_eq_getElem hm2] at e
    have e2 : l[m] = a := S_inj (Option.some.inj e)
    have z := List.not_of_lt_findIdx (p := (· == a)) (xs := l) (i := m) hm
    rw [e2] at z
    simp at z
end
/-! for i, x in enumerate(xs), a list -/
section
variable {K : PySem.W.Frag} {ta : TA} {g : TG} {tb : TS} {D : Ends} {σ : L2.St} {H : Hp}
def ForEl (K : PySem.W.Frag) (g : TG) (tb : TS) (vs : List V) (D : Ends) (σ : L2.St) (H : Hp) : Prop := ∃ a xs, vs = [.ref a] ∧ SqL K H a xs ∧ ∃ W : Nat → Nat → L2.St → Hp → Prop, (∃ m, W 0 m σ H) ∧ ∀ i m σ H, W i m σ H →
  ((Ite K a).stop i H ∧ D.nx σ H) ∨ ((Ite K a).go i H ∧ ∃ N : L2.St → Hp → Prop, (∀ σ' H', N σ' H' → ∃ m', m' < m ∧ W (i + 1) m' σ' H') ∧ ∀ x H', (Ite K a).yld i H x H' → g x σ H' fun σ2 H2 => tb { D with nx := N, ct := N, bk := D.nx } σ2 H2)
theorem w_forEl (k : ta σ H fun vs H1 => ForEl K g tb vs D σ H1) : tFor (iEnum K ta) g tb D σ H := k
theorem for_El {a : Addr} {xs : List V} (Pv : Nat → L2.St → Hp → Prop) (h0 : Pv 0 σ H) (hl : ∀ i σ H, i ≤ xs.length → Pv i σ H → SqL K H a xs)
    (hs : ∀ i x σ H p H', xs[i]? = some x → Pv i σ H → H p = none → Same H H' → H' p = some (.tup [.int (i : Int), x]) → g (.ref p) σ H' fun σ2 H2 => tb { D with nx := Pv (i + 1), ct := Pv (i + 1), bk := D.nx } σ2 H2)
    (hd : ∀ σ H, Pv xs.length σ H → D.nx σ H) : ForEl K g tb [.ref a] D σ H := by
  refine ⟨a, xs, rfl, hl 0 σ H (Nat.zero_le _) h0, fun i m σ H => m = xs.length - i ∧ i ≤ xs.length ∧ Pv i σ H, ⟨xs.length, by simp, Nat.zero_le _, h0⟩, ?_⟩
  rintro i m σ H ⟨rfl, hi, p⟩
  by_cases hlt : i < xs.length
  · refine .inr ⟨⟨xs, xs[i], hl i σ H hi p, List.getElem?_eq_getElem hlt⟩, Pv (i + 1), fun σ' H' p' => ⟨xs.length - (i + 1), by omega, rfl, hlt, p'⟩, fun x H' y => ?_⟩
    obtain ⟨q, z, rfl, hq, rfl, hz⟩ := y
    exact hs i z σ H q _ (hz xs (hl i σ H hi p)) p hq (same_new hq) upd_same
  · have e : i = xs.length := by omega
    subst e
    exact .inl ⟨⟨xs, hl _ σ H hi p, Nat.le_refl _⟩, hd σ H p⟩
end
end Lv
namespace Lv
section
open PySem PySem.Spec PyProof.Rows L2
open TL (numL tl_num numL_digits numL_ne numL_val numL_len numL_lt numL_step)
/-! ### codes -/
def cds (s : String) : List Nat := (Str.ofString s).cps.toList
abbrev aJ : List Nat := cds "abcdefghijklmnopqrstuvwxyzABCDEFGHIJKLMNOPQRSTUVWXYZ0123456789"
abbrev aLow : List Nat := cds "abcdefghijklmnopqrstuvwxyz"
abbrev aUp : List Nat := cds "ABCDEFGHIJKLMNOPQRSTUVWXYZ"
abbrev aDig : List Nat := cds "0123456789"
def WL : List (List Nat) := ["method", "var", "end", "give", "fail", "if", "then", "else", "while", "do", "try", "catch", "keep", "always", "none", "true", "false", "self", "super", "new", "not", "and", "or"].map cds
theorem len_aJ : aJ.length = 62 := by decide +kernel
theorem len_aLow : aLow.length = 26 := by decide +kernel
theorem len_aUp : aUp.length = 26 := by decide +kernel
theorem WL_len : ∀ x ∈ WL, x.length ≤ 6 := by decide +kernel
theorem WL_one : ∀ x ∈ WL, ¬ (x ++ [49]) ∈ WL := by decide +kernel
theorem WL_form : ∀ x ∈ WL, ∃ c r, x = c :: r ∧ c ∈ aLow ∧ (∀ d ∈ r, d ∈ aJ) := by
  have h : ∀ x ∈ WL, x.headD 0 ∈ aLow ∧ (∀ d ∈ x.tail, d ∈ aJ) ∧ x ≠ [] := by decide +kernel
  intro x hx
  obtain ⟨h1, h2, h3⟩ := h x hx
  cases x with
  | nil => exact absurd rfl h3
  | cons c r => exact ⟨c, r, rfl, h1, h2⟩
theorem at_mod {l : List Nat} {n : Nat} (hl : l.length = n) (h0 : 0 < n) (x : Int) : ∃ c, c ∈ l ∧ atI l (x.fmod (n : Int)) = some c := by
  have b0 := Int.fmod_nonneg_of_pos x (show (0 : Int) < n by omega)
  have b1 := Int.fmod_lt_of_pos x (show (0 : Int) < n by omega)
  obtain ⟨j, e⟩ : ∃ j : Nat, x.fmod (n : Int) = (j : Int) := ⟨(x.fmod (n : Int)).toNat, by omega⟩
  have hj : j < l.length := by omega
  refine ⟨l[j], List.getElem_mem hj, ?_⟩
  rw [e]
  exact atI_nat (List.getElem?_eq_getElem hj)
theorem at_lt {l : List Nat} {x : Int} (h0 : 0 ≤ x) (h1 : x < l.length) : ∃ c, c ∈ l ∧ atI l x = some c := by
  obtain ⟨j, rfl⟩ : ∃ j : Nat, x = (j : Int) := ⟨x.toNat, by omega⟩
  have hj : j < l.length := by omega
  exact ⟨l[j], List.getElem_mem hj, atI_nat (List.getElem?_eq_getElem hj)⟩
theorem cut_mem {a : List Nat} {lo hi : Option Int} {c : Nat} (h : c ∈ cut a lo hi) : c ∈ a := List.mem_of_mem_drop (List.mem_of_mem_take h)
theorem cut_len (a : List Nat) (lo hi : Option Int) : (cut a lo hi).length ≤ a.length := by
  unfold cut
  rw [List.length_take, List.length_drop]
  omega
theorem cut_to (a : List Nat) (k : Nat) : cut a none (some (k : Int)) = a.take k := by
  unfold cut
  rw [HT.sIx_none, HT.sIx_nat, List.drop_zero, Nat.sub_zero]
  by_cases h : k ≤ a.length
  · rw [Nat.min_eq_left h]
  · rw [Nat.min_eq_right (by omega), List.take_of_length_le (Nat.le_refl _), List.take_of_length_le (by omega)]
theorem cut_mid (a : List Nat) {i j : Nat} (hj : j ≤ a.length) : cut a (some (i : Int)) (some (j : Int)) = (a.drop i).take (j - i) := by
  unfold cut
  rw [HT.sIx_nat, HT.sIx_nat, Nat.min_eq_left hj]
  by_cases h : i ≤ a.length
  · rw [Nat.min_eq_left h]
  · rw [Nat.min_eq_right (by omega)]
    have e1 : j - a.length = 0 := by omega
    have e2 : j - i = 0 := by omega
    rw [e1, e2]; rfl
theorem mem_rep {n : Nat} {a : List Nat} {c : Nat} (h : c ∈ (List.replicate n a).flatten) : c ∈ a := by
  obtain ⟨l, h1, h2⟩ := List.mem_flatten.mp h
  rw [(List.mem_replicate.mp h1).2] at h2
  exact h2
theorem len_rep (n : Nat) (a : List Nat) : (List.replicate n a).flatten.length = n * a.length := by simp
theorem rep_one (n c : Nat) : (List.replicate n [c]).flatten = List.replicate n c := by
  induction n with
  | zero => rfl
  | succ n ih => rw [List.replicate_succ, List.flatten_cons, ih, List.replicate_succ]; rfl

/-! ### the tokens of a text, as a function of its codes -/
def MLs : List (List Nat) := [":=", "<=", "(", ")", "{", "}", ",", ";", ".", "|", "=", "<", "+", "-", "*", "/"].map cds
theorem len_MLs : MLs.length = 16 := by decide +kernel
theorem len_WL : WL.length = 23 := by decide +kernel
def letC (c : Nat) : Bool := decide (c ∈ aJ)
def digC (c : Nat) : Bool := decide (48 ≤ c) && decide (c ≤ 57)
def srcC (c : Nat) : Bool := decide (32 ≤ c) && decide (c ≤ 126) && !decide (c = 37)
theorem aJ_split : aJ = aLow ++ aUp ++ aDig := by decide +kernel
theorem let_or (c : Nat) : letC c = (decide (c ∈ aLow) || (decide (c ∈ aUp) || decide (c ∈ aDig))) := by
  unfold letC
  rw [aJ_split]
  simp only [List.mem_append, Bool.decide_or, Bool.or_assoc]
theorem aJ_ascii : ∀ c ∈ aJ, c < 128 := by decide +kernel
theorem dig_iff (c : Nat) : decide (c ∈ aDig) = digC c := by
  have e : aDig = [48, 49, 50, 51, 52, 53, 54, 55, 56, 57] := by decide +kernel
  unfold digC
  rw [e, Bool.eq_iff_iff, Bool.and_eq_true, decide_eq_true_iff, decide_eq_true_iff, decide_eq_true_iff]
  simp only [List.mem_cons, List.not_mem_nil, or_false]
  omega
theorem dig_let {c : Nat} (h : digC c = true) : letC c = true := by
  rw [let_or, dig_iff, h]; simp
/-- kind, value, length -/
def numRun (a : List Nat) : Option Nat := if (a.all digC && !(decide (a.headD 0 = 48) && decide (1 < a.length)) && decide (a.length ≤ 10) && decide (NumText.digitsVal a ≤ 1000000000)) = true then some (NumText.digitsVal a) else none
def ofRun (a : List Nat) : Option (List Nat × V) :=
  if digC (a.headD 0) = true then (numRun a).map fun n => (cds "number", .int (n : Int))
  else if 20 < a.length then none
  else if a.headD 0 ∈ aUp then some (cds "class", T a)
  else if a ∈ WL then some (cds "word", T a)
  else some (cds "name", T a)
def upQ (r : List Nat) : List Nat := r.takeWhile (fun x => x != 39)
def endTx (r : List Nat) : Option (List Nat) := if (decide ((upQ r).length < r.length) && decide ((upQ r).length ≤ 200) && (upQ r).all srcC) = true then some (upQ r) else none
def one : List Nat → Option (List Nat × V × Nat)
  | [] => none
  | c :: r => if c = 39 then (endTx r).map fun b => (cds "text", T b, b.length + 2)
    else if letC c = true then (ofRun ((c :: r).takeWhile letC)).map fun p => (p.1, p.2, ((c :: r).takeWhile letC).length)
    else (MLs.find? fun m => m.isPrefixOf (c :: r)).map fun m => (cds "mark", T m, m.length)
theorem one_cons (c : Nat) (r : List Nat) : one (c :: r) = if c = 39 then (endTx r).map fun b => (cds "text", T b, b.length + 2)
    else if letC c = true then (ofRun ((c :: r).takeWhile letC)).map fun p => (p.1, p.2, ((c :: r).takeWhile letC).length)
    else (MLs.find? fun m => m.isPrefixOf (c :: r)).map fun m => (cds "mark", T m, m.length) := rfl
abbrev Tk := List Nat × V × Nat
def lex (pos : Nat) : List Nat → List Tk × Option Nat
  | [] => ([], none)
  | c :: r => if c = 32 then lex (pos + 1) r
    else match one (c :: r) with
      | none => ([], some pos)
      | some t => let q := lex (pos + t.2.2) (r.drop (t.2.2 - 1)); ((t.1, t.2.1, pos) :: q.1, q.2)
termination_by l => l.length
decreasing_by
  · simp
  · simp only [List.length_drop, List.length_cons]; omega
theorem lex_nil (pos : Nat) : lex pos [] = ([], none) := by rw [lex]
theorem lex_sp (pos : Nat) (r : List Nat) : lex pos (32 :: r) = lex (pos + 1) r := by rw [lex, if_pos rfl]
theorem lex_wrong {pos c : Nat} {r : List Nat} (h : c ≠ 32) (e : one (c :: r) = none) : lex pos (c :: r) = ([], some pos) := by rw [lex, if_neg h, e]
theorem lex_tok {pos c n : Nat} {r k : List Nat} {v : V} (h : c ≠ 32) (e : one (c :: r) = some (k, v, n)) : lex pos (c :: r) = ((k, v, pos) :: (lex (pos + n) (r.drop (n - 1))).1, (lex (pos + n) (r.drop (n - 1))).2) := by rw [lex, if_neg h, e]
theorem MLs_pos : ∀ m ∈ MLs, 1 ≤ m.length := by decide +kernel
theorem one_pos {l k : List Nat} {v : V} {n : Nat} (h : one l = some (k, v, n)) : 1 ≤ n ∧ n ≤ l.length := by
  cases l with
  | nil => cases h
  | cons c r =>
    rw [one_cons] at h
    by_cases hc : c = 39
    · rw [if_pos hc] at h
      cases e : endTx r with
      | none => rw [e] at h; cases h
      | some b =>
        rw [e] at h
        injection h with h
        injection h with _ h
        injection h with _ h
        unfold endTx at e
        split at e
        · rename_i hb
          cases e
          rw [Bool.and_eq_true, Bool.and_eq_true, decide_eq_true_iff] at hb
          have := hb.1.1
          rw [List.length_cons]
          omega
        · cases e
    · rw [if_neg hc] at h
      by_cases hl : letC c = true
      · rw [if_pos hl] at h
        cases e : ofRun ((c :: r).takeWhile letC) with
        | none => rw [e] at h; cases h
        | some p =>
          rw [e] at h
          injection h with h
          injection h with _ h
          injection h with _ h
          subst h
          refine ⟨?_, tw_le _⟩
          rw [List.takeWhile_cons, if_pos hl]
          simp
      · rw [if_neg hl] at h
        cases e : MLs.find? fun m => m.isPrefixOf (c :: r) with
        | none => rw [e] at h; cases h
        | some m =>
          rw [e] at h
          injection h with h
          injection h with _ h
          injection h with _ h
          subst h
          refine ⟨MLs_pos m (List.mem_of_find?_eq_some e), ?_⟩
          have := List.find?_some e
          exact (List.isPrefixOf_iff_prefix.mp this).length_le
end
section
open PySem PySem.Spec PyProof.Rows L2
open C8 (Cal cal0 pe_c pe_gc pss_cut tCut)
local macro_rules | `(tactic| walk_at "r1") => `(tactic| first
  | with_reducible refine w_seq ?_
  | with_reducible refine w_next ?_
  | with_reducible refine w_var (by with_unfolding_all exact rfl) ?_
  | with_reducible refine w_asg ?_
  | with_reducible refine w_gname ?_
  | with_reducible refine w_ifS ?_
  | with_reducible refine w_test ?_
  | with_reducible refine w_tB ?_
  | with_reducible refine w_op ?_
  | with_reducible refine w_un ?_
  | with_reducible refine w_var (by with_unfolding_all exact rfl) ?_
  | with_reducible refine w_cT ?_
  | with_reducible refine w_str ?_
  | with_reducible refine w_c ?_
  | with_reducible refine w_i0 ?_
  | with_reducible refine w_intI ?_
  | with_reducible refine w_intB ?_
  | with_reducible refine w_cb ?_
  | with_reducible refine w_cons ?_
  | with_reducible refine w_nil ?_
  | with_reducible refine w_call ?_
  | with_reducible refine w_ret ?_
  | with_reducible refine w_retN ?_
  | with_reducible refine w_drop ?_
  | with_reducible refine w_gsub ?_
  | with_reducible refine w_sl ?_
  | with_reducible refine w_part ?_
  | with_reducible refine w_nopart ?_
  | with_reducible refine w_lst ?_
  | with_reducible refine w_tup ?_
  | with_reducible refine w_bm ?_
  | with_reducible refine w_bm0 ?_
  | with_reducible refine w_and ?_
  | with_reducible refine w_or ?_
  | with_reducible refine w_not ?_
  | with_reducible refine w_andV ?_
  | with_reducible refine w_orV ?_
  | with_reducible refine w_notV ?_
  | with_reducible refine w_inC ?_
  | with_reducible refine w_ninC ?_
  | with_reducible refine w_ord ?_
  | with_reducible refine w_max ?_
  | with_reducible refine w_ifE ?_
  | with_reducible refine w_forR ?_
  | with_reducible refine w_forL ?_
  | with_reducible refine w_forT ?_
  | with_reducible refine w_forS ?_
  | with_reducible refine w_eq (by with_unfolding_all exact rfl) ?_
  | with_reducible refine w_ne (by with_unfolding_all exact rfl) ?_
  | with_reducible refine L2.iteF ?_
  | with_reducible refine L2.iteT ?_
  | with_reducible refine w_nt ?_
  | with_reducible refine w_nf ?_
  | with_reducible refine ex_int ?_
  | with_reducible refine ex_bl ?_)
local macro_rules | `(tactic| walk_at "rd") => `(tactic| repeat walk_at "r1")

def topS (i : Nat) : Stmt := PySem.Challenge.pw_livestead_k15_place_of_a_name.main.body.getD i (.Pass ⟨0, 0, 0, 0⟩)

/-- the draws' state: a list of the ints, a place in it, the cell, what is left of it, a flag, what is left of the text -/
def StL (L : Addr) (i c k : Int) (b : Bool) (r : Int) : List V := [.ref L, .int i, .int c, .int k, .bl b, .int r]
def StAt (H : Hp) (S L : Addr) : Prop := ∃ (ns : List Int) (i c k : Int) (b : Bool) (r : Int), L ≠ S ∧ H L = some (.lst (ns.map V.int)) ∧ 0 ≤ i ∧ H S = some (.lst (StL L i c k b r))
theorem StAt.mono {H H' : Hp} {S L : Addr} (h : StAt H S L) (f : Same H H') : StAt H' S L := by
  obtain ⟨ns, i, c, k, b, r, h1, h2, h3, h4⟩ := h
  exact ⟨ns, i, c, k, b, r, h1, f _ _ h2, h3, f _ _ h4⟩
theorem stl_set1 {L : Addr} {i c k : Int} {b : Bool} {r z : Int} : (StL L i c k b r).set 1 (.int z) = StL L z c k b r := rfl
theorem stl_set2 {L : Addr} {i c k : Int} {b : Bool} {r z : Int} : (StL L i c k b r).set 2 (.int z) = StL L i z k b r := rfl
theorem stl_set3 {L : Addr} {i c k : Int} {b : Bool} {r z : Int} : (StL L i c k b r).set 3 (.int z) = StL L i c z b r := rfl
theorem stl_set4 {L : Addr} {i c k : Int} {b z : Bool} {r : Int} : (StL L i c k b r).set 4 (.bl z) = StL L i c k z r := rfl
theorem stl_set5 {L : Addr} {i c k : Int} {b : Bool} {r z : Int} : (StL L i c k b r).set 5 (.int z) = StL L i c k b z := rfl

theorem w_stset {H : Hp} {S : Addr} {xs : List V} {j : Int} {n : Nat} {v : V} {G : Hp → Prop} (hS : H S = some (.lst xs)) (e : ixN xs.length j = some n)
    (k : ∀ H2, H2 S = some (.lst (xs.set n v)) → Fr S H H2 → G H2) : rSetL (.ref S) (.int j) v H G := w_setL hS e (k _ upd_same Fr.own)
theorem at_ints {ns : List Int} {i : Int} (h0 : 0 ≤ i) (h1 : ¬ (ns.map V.int).length ≤ i) : ∃ z, atI (ns.map V.int) i = some (V.int z) := by
  have h2 : i.toNat < ns.length := by rw [List.length_map] at h1; omega
  obtain ⟨j, rfl⟩ : ∃ j : Nat, i = (j : Int) := ⟨i.toNat, by omega⟩
  rw [Int.toNat_natCast] at h2
  refine ⟨ns[j], atI_nat ?_⟩
  rw [List.getElem?_map, List.getElem?_eq_getElem h2]
  rfl

structure Bn (mg : Str → Option Value) : Prop where
  n_len : mg "len" = none
  n_int : mg "int" = none
  n_list : mg "list" = none
  n_range : mg "range" = none
  n_max : mg "max" = none
  n_str : mg "str" = none
  n_isinstance : mg "isinstance" = none
  n_bool : mg "bool" = none
  n_ord : mg "ord" = none
  n_tuple : mg "tuple" = none
  n_enumerate : mg "enumerate" = none
  n_min : mg "min" = none
  n_abs : mg "abs" = none
  n_all : mg "all" = none
  n_any : mg "any" = none
  n_sorted : mg "sorted" = none
  n_sum : mg "sum" = none

section
variable {P : Program} {w : World} {K : PySem.W.Frag} {mg : Str → Option Value} {base : Heap}

abbrev s_law_state : Stmt := topS 3
abbrev N_law_state : List Str := ["script"]
theorem sc_law_state : FnScope N_law_state ["script"] (defScope s_law_state) := ⟨rfl, rfl, rfl, by decide +kernel, rfl, by decide +kernel, by decide +kernel⟩
def spState (K : PySem.W.Frag) : Sp := fun vs H Q _ => ∃ (a : Addr) (ns : List Int), vs = [.ref a] ∧ SqL K H a (ns.map V.int) ∧ ∀ S L H', StAt H' S L → Same H H' → H S = none → H L = none → Q (.ref S) H'
theorem ok_law_state {f : Addr} {fd : FuncData} (F : Fun K "_law_state" "_law_state" s_law_state f fd) (Y : Bn mg) : FnOk P w K mg base CX0 1 f fd ["script"] (spState K) := by
  refine F.ok sc_law_state (fun vs H Q E h => ?_) (fun cdv A outer s H vs Q E hr h => ?_)
  · obtain ⟨a, ns, rfl, _⟩ := h
    rfl
  · obtain ⟨a, ns, rfl, hS, kQ⟩ := h
    have nd := sc_law_state.nd
    refine ⟨_, (pss_one (ps_ret (pe_lst (pa_cons (pe_callTy call_listOf (by rfl) Y.n_list (by decide +kernel) (pa_cons (pv 0) pa_nil)) (pa_cons pe_int (pa_cons pe_int (pa_cons pe_int (pa_cons pe_bl (pa_cons pe_int pa_nil))))))))), ?_⟩
    rw [show L2.start N_law_state [.ref a] = [some (.ref a)] from rfl]
    walk_at "rd"
    refine w_listOf hS fun l hl => ?_
    walk_at "rd"
    refine ⟨by show 6 ≤ sizeLine; decide, fun p hp => ?_⟩
    have nlp : l ≠ p := fun e => by rw [← e, upd_same] at hp; cases hp
    refine kQ p l _ ⟨ns, 0, 0, 0, false, 500, nlp, ?_, by decide, upd_same⟩ ((same_new hl).trans (same_new hp)) ((same_new hl).free hp) hl
    rw [upd_ne nlp, upd_same]

abbrev s_law_draw : Stmt := topS 4
abbrev N_law_draw : List Str := ["state", "limit", "cell", "digit", "mixed"]
theorem sc_law_draw : FnScope N_law_draw ["state", "limit"] (defScope s_law_draw) := ⟨rfl, rfl, rfl, by decide +kernel, rfl, by decide +kernel, by decide +kernel⟩
def spDraw : Sp := fun vs H Q _ => ∃ (S L : Addr) (m : Int), vs = [.ref S, .int m] ∧ StAt H S L ∧ 0 < m ∧ m < 1073741824 ∧ ∀ r H', 0 ≤ r → r < m → StAt H' S L → Fr S H H' → Q (.int r) H'
theorem ok_law_draw {f : Addr} {fd : FuncData} (F : Fun K "_law_draw" "_law_draw" s_law_draw f fd) (Y : Bn mg) : FnOk P w K mg base CX0 1 f fd ["state", "limit"] spDraw := by
  refine F.ok sc_law_draw (fun vs H Q E h => ?_) (fun cdv A outer s H vs Q E hr h => ?_)
  · obtain ⟨S, L, m, rfl, _⟩ := h
    rfl
  · obtain ⟨S, L, m, rfl, ⟨ns, i, c, k, b, r, hLS, hL, hi, hS⟩, hm, hm2, kQ⟩ := h
    have nd := sc_law_draw.nd
    refine ⟨_, (pss_cut (ps_if (pt_cmpR op_eq (pe_ix ix_list (pv 0) pe_int (fun _ _ => rfl)) pe_int (nomark _)) (pss_cons (ps_if (pt_cmpR op_ge (pe_ix ix_list (pv 0) pe_int (fun _ _ => rfl)) (pe_callB call_lenL (by rfl) Y.n_len (by decide +kernel) (pa_cons (pe_ix ix_list (pv 0) pe_int (fun _ _ => rfl)) pa_nil)) (nomark _)) (pss_one (ps_ret pe_int)) pss_nil)
      (pss_cons (ps_set (i := 2) nd rfl (Or.inl rfl) (pe_ix ix_list (pe_ix ix_list (pv 0) pe_int (fun _ _ => rfl)) (pe_ix ix_list (pv 0) pe_int (fun _ _ => rfl)) (fun _ _ => rfl)))
      (pss_cut (ps_if (pt_cmpR op_lt (pv 2) pe_int (nomark _)) (pss_one (ps_set (i := 2) nd rfl (Or.inl rfl) (pe_op op_sub (pe_un un_neg pe_int) (pv 2)))) pss_nil)
      (pss_cons (ps_asg (pe_op op_add (pe_ix ix_list (pv 0) pe_int (fun _ _ => rfl)) pe_int) (pg_sub (pv 0) pe_int set_list))
      (pss_cons (ps_asg (pv 2) (pg_sub (pv 0) pe_int set_list))
      (pss_cons (ps_asg (pe_cmpR op_ge (pv 2) (pe_op op_pow pe_int pe_int) (nomark _)) (pg_sub (pv 0) pe_int set_list))
      (pss_cons (ps_asg pe_int (pg_sub (pv 0) pe_int set_list))
      (pss_one (ps_if (pt_val (pe_ix ix_list (pv 0) pe_int (fun _ _ => rfl))) (pss_one (ps_asg pe_int (pg_sub (pv 0) pe_int set_list))) pss_nil))))))))) pss_nil)
      (pss_cons (ps_asg (pe_op op_sub (pe_ix ix_list (pv 0) pe_int (fun _ _ => rfl)) pe_int) (pg_sub (pv 0) pe_int set_list))
      (pss_cons (ps_if (pt_val (pe_ix ix_list (pv 0) pe_int (fun _ _ => rfl))) (pss_cons (ps_set (i := 3) nd rfl (Or.inl rfl) (pe_op op_modN (pe_callTy call_intI (by rfl) Y.n_int (by decide +kernel) (pa_cons (pe_ix ix_list (pv 0) pe_int (fun _ _ => rfl)) pa_nil)) (pv 1)))
      (pss_cons (ps_asg (pe_op op_fdivN (pe_ix ix_list (pv 0) pe_int (fun _ _ => rfl)) (pv 1)) (pg_sub (pv 0) pe_int set_list))
      (pss_cons (ps_if (pt_cmpR op_eq (pe_ix ix_list (pv 0) pe_int (fun _ _ => rfl)) pe_int (nomark _)) (pss_one (ps_asg pe_int (pg_sub (pv 0) pe_int set_list))) pss_nil)
      (pss_one (ps_ret (pv 3)))))) pss_nil)
      (pss_cons (ps_set (i := 4) nd rfl (Or.inl rfl) (pe_op op_modN (pe_callTy call_intI (by rfl) Y.n_int (by decide +kernel) (pa_cons (pe_op op_add (pe_op op_add (pe_op op_mul (pe_ix ix_list (pv 0) pe_int (fun _ _ => rfl)) pe_int) (pe_op op_mul (pe_ix ix_list (pv 0) pe_int (fun _ _ => rfl)) pe_int)) pe_int) pa_nil)) pe_int))
      (pss_cons (ps_set (i := 4) nd rfl (Or.inl rfl) (pe_op op_modN (pe_callTy call_intI (by rfl) Y.n_int (by decide +kernel) (pa_cons (pe_op op_add (pe_op op_add (pe_op op_mul (pv 4) (pv 4)) (pe_op op_mul (pe_ix ix_list (pv 0) pe_int (fun _ _ => rfl)) pe_int)) (pe_ix ix_list (pv 0) pe_int (fun _ _ => rfl))) pa_nil)) pe_int))
      (pss_one (ps_ret (pe_op op_modN (pe_callTy call_intI (by rfl) Y.n_int (by decide +kernel) (pa_cons (pv 4) pa_nil)) (pv 1))))))))), ?_⟩
    rw [show L2.start N_law_draw [.ref S, .int m] = [some (.ref S), some (.int m), none, none, none] from rfl]
    refine ⟨fun σ' H' => ∃ x, σ' = [some (.ref S), some (.int m), x, none, none] ∧ (∃ (i c k : Int) (b : Bool) (r : Int), 0 ≤ i ∧ H' L = some (.lst (ns.map V.int)) ∧ H' S = some (.lst (StL L i c k b r))) ∧ Fr S H H', ?_, ?_⟩
    · walk_at "rd"
      refine w_ixL (SqL.of hS) rfl ?_
      walk_at "rd"
      refine w_ifI (fun hk => ?_) (fun hk => ?_)
      · walk_at "rd"
        refine w_ixL (SqL.of hS) rfl ?_
        walk_at "rd"
        refine w_ixL (SqL.of hS) rfl ?_
        walk_at "rd"
        refine w_lenL (SqL.of hL) ?_
        walk_at "rd"
        refine w_if (fun hl => ?_) (fun hl => ?_)
        · walk_at "rd"
          exact kQ 0 H (by decide) hm ⟨ns, i, c, k, b, r, hLS, hL, hi, hS⟩ (Fr.refl S H)
        · walk_at "rd"
          refine w_ixL (SqL.of hS) rfl ?_
          walk_at "rd"
          refine w_ixL (SqL.of hS) rfl ?_
          obtain ⟨z, hz⟩ := at_ints hi hl
          refine w_ixL (SqL.of hL) hz ?_
          walk_at "rd"
          refine ⟨fun σ' H' => H' = H ∧ ∃ z, σ' = [some (.ref S), some (.int m), some (.int z), none, none], ?_, ?_⟩
          · walk_at "rd"
            refine w_if (fun _ => ?_) (fun _ => ?_)
            · walk_at "rd"
              refine ⟨_, rfl, ?_⟩
              walk_at "rd"
              exact ⟨rfl, _, rfl⟩
            · exact ⟨rfl, _, rfl⟩
          · rintro σ' H' ⟨rfl, z, rfl⟩
            walk_at "rd"
            refine w_ixL (SqL.of hS) rfl ?_
            walk_at "rd"
            refine w_stset hS rfl fun H1 hS1 f1 => ?_
            walk_at "rd"
            refine w_stset hS1 rfl fun H2 hS2 f2 => ?_
            walk_at "rd"
            refine w_i ⟨by decide, by decide, by decide⟩ ?_
            walk_at "rd"
            refine w_stset hS2 rfl fun H3 hS3 f3 => ?_
            walk_at "rd"
            refine w_stset hS3 rfl fun H4 hS4 f4 => ?_
            walk_at "rd"
            refine w_ixL (SqL.of hS4) rfl ?_
            have f := ((f1.trans f2).trans f3).trans f4
            walk_at "rd"
            refine w_if (fun _ => ?_) (fun _ => ?_)
            · walk_at "rd"
              refine w_stset hS4 rfl fun H5 hS5 f5 => ?_
              exact ⟨_, rfl, ⟨_, _, _, _, _, Int.add_nonneg hi (by decide), (f.trans f5) _ _ hLS hL, hS5⟩, f.trans f5⟩
            · exact ⟨_, rfl, ⟨_, _, _, _, _, Int.add_nonneg hi (by decide), f _ _ hLS hL, hS4⟩, f⟩
      · exact ⟨_, rfl, ⟨i, c, k, b, r, hi, hL, hS⟩, Fr.refl S H⟩
    · rintro σ' H0 ⟨x, rfl, ⟨i, c, k, b, r, hi, hL, hS⟩, fr⟩
      walk_at "rd"
      refine w_ixL (SqL.of hS) rfl ?_
      walk_at "rd"
      refine w_stset hS rfl fun H1 hS1 f1 => ?_
      walk_at "rd"
      refine w_ixL (SqL.of hS1) rfl ?_
      walk_at "rd"
      refine w_ifb (fun _ => ?_) (fun _ => ?_)
      · walk_at "rd"
        refine w_ixL (SqL.of hS1) rfl ?_
        walk_at "rd"
        refine w_i (by omega) ?_
        walk_at "rd"
        refine w_ixL (SqL.of hS1) rfl ?_
        walk_at "rd"
        refine w_i ⟨by omega, by omega⟩ ?_
        walk_at "rd"
        refine w_stset hS1 rfl fun H2 hS2 f2 => ?_
        walk_at "rd"
        refine w_ixL (SqL.of hS2) rfl ?_
        walk_at "rd"
        have b0 := Int.fmod_nonneg_of_pos c hm
        have b1 := Int.fmod_lt_of_pos c hm
        refine w_ifI (fun _ => ?_) (fun _ => ?_)
        · walk_at "rd"
          refine w_stset hS2 rfl fun H3 hS3 f3 => ?_
          walk_at "rd"
          have f := ((fr.trans f1).trans f2).trans f3
          exact kQ _ H3 b0 b1 ⟨ns, _, _, _, _, _, hLS, ((f1.trans f2).trans f3) _ _ hLS hL, hi, hS3⟩ f
        · walk_at "rd"
          exact kQ _ H2 b0 b1 ⟨ns, _, _, _, _, _, hLS, (f1.trans f2) _ _ hLS hL, hi, hS2⟩ ((fr.trans f1).trans f2)
      · walk_at "rd"
        refine w_ixL (SqL.of hS1) rfl ?_
        walk_at "rd"
        refine w_mulR (by decide) ?_
        walk_at "rd"
        refine w_ixL (SqL.of hS1) rfl ?_
        walk_at "rd"
        refine w_mulR (by decide) ?_
        walk_at "rd"
        refine w_i (by decide) ?_
        walk_at "rd"
        refine w_mulR ?_ ?_
        · have b0 := Int.fmod_nonneg_of_pos (c * 48271 + (k - 1) * 69621 + 7) (show (0 : Int) < 2147483647 by decide)
          have b1 := Int.fmod_lt_of_pos (c * 48271 + (k - 1) * 69621 + 7) (show (0 : Int) < 2147483647 by decide)
          omega
        walk_at "rd"
        refine w_ixL (SqL.of hS1) rfl ?_
        walk_at "rd"
        refine w_mulR (by decide) ?_
        walk_at "rd"
        refine w_ixL (SqL.of hS1) rfl ?_
        walk_at "rd"
        refine w_i (by decide) ?_
        walk_at "rd"
        refine w_i (by omega) ?_
        exact kQ _ H1 (Int.fmod_nonneg_of_pos _ hm) (Int.fmod_lt_of_pos _ hm) ⟨ns, _, _, _, _, _, hLS, f1 _ _ hLS hL, hi, hS1⟩ (fr.trans f1)
end
end
section
open PySem PySem.Spec PyProof.Rows L2
open C8 (Cal cal0 pe_c pe_gc pss_cut tCut)
local macro_rules | `(tactic| walk_at "r1") => `(tactic| first
  | with_reducible refine w_seq ?_
  | with_reducible refine w_next ?_
  | with_reducible refine w_var (by with_unfolding_all exact rfl) ?_
  | with_reducible refine w_asg ?_
  | with_reducible refine w_gname ?_
  | with_reducible refine w_ifS ?_
  | with_reducible refine w_test ?_
  | with_reducible refine w_tB ?_
  | with_reducible refine w_op ?_
  | with_reducible refine w_un ?_
  | with_reducible refine w_var (by with_unfolding_all exact rfl) ?_
  | with_reducible refine w_cT ?_
  | with_reducible refine w_str ?_
  | with_reducible refine w_c ?_
  | with_reducible refine w_i0 ?_
  | with_reducible refine w_intI ?_
  | with_reducible refine w_intB ?_
  | with_reducible refine w_cb ?_
  | with_reducible refine w_cons ?_
  | with_reducible refine w_nil ?_
  | with_reducible refine w_call ?_
  | with_reducible refine w_ret ?_
  | with_reducible refine w_retN ?_
  | with_reducible refine w_drop ?_
  | with_reducible refine w_gsub ?_
  | with_reducible refine w_sl ?_
  | with_reducible refine w_part ?_
  | with_reducible refine w_nopart ?_
  | with_reducible refine w_lst ?_
  | with_reducible refine w_tup ?_
  | with_reducible refine w_bm ?_
  | with_reducible refine w_bm0 ?_
  | with_reducible refine w_and ?_
  | with_reducible refine w_or ?_
  | with_reducible refine w_not ?_
  | with_reducible refine w_andV ?_
  | with_reducible refine w_orV ?_
  | with_reducible refine w_notV ?_
  | with_reducible refine w_inC ?_
  | with_reducible refine w_ninC ?_
  | with_reducible refine w_ord ?_
  | with_reducible refine w_max ?_
  | with_reducible refine w_ifE ?_
  | with_reducible refine w_forR ?_
  | with_reducible refine w_forL ?_
  | with_reducible refine w_forT ?_
  | with_reducible refine w_forS ?_
  | with_reducible refine w_eq (by with_unfolding_all exact rfl) ?_
  | with_reducible refine w_ne (by with_unfolding_all exact rfl) ?_
  | with_reducible refine L2.iteF ?_
  | with_reducible refine L2.iteT ?_
  | with_reducible refine w_nt ?_
  | with_reducible refine w_nf ?_
  | with_reducible refine ex_int ?_
  | with_reducible refine ex_bl ?_)
local macro_rules | `(tactic| walk_at "rd") => `(tactic| repeat walk_at "r1")

section
variable {P : Program} {w : World} {K : PySem.W.Frag} {mg : Str → Option Value} {base : Heap}

abbrev s_law_words : Stmt := topS 5
abbrev N_law_words : List Str := ["words"]
theorem sc_law_words : FnScope N_law_words [] (defScope s_law_words) := ⟨rfl, rfl, rfl, by decide +kernel, rfl, by decide +kernel, by decide +kernel⟩
def spWords : Sp := fun vs H Q _ => vs = [] ∧ ∀ p H', Same H H' → H p = none → H' p = some (.lst (WL.map T)) → Q (.ref p) H'
theorem ok_law_words {f : Addr} {fd : FuncData} (F : Fun K "_law_words" "_law_words" s_law_words f fd) : FnOk P w K mg base CX0 1 f fd [] spWords := by
  refine F.ok sc_law_words (fun vs H Q E h => ?_) (fun cdv A outer s H vs Q E hr h => ?_)
  · obtain ⟨rfl, _⟩ := h
    rfl
  · obtain ⟨rfl, kQ⟩ := h
    have nd := sc_law_words.nd
    refine ⟨_, (pss_cons (ps_set (i := 0) nd rfl (Or.inl rfl) (pe_lst (pa_cons pe_str (pa_cons pe_str (pa_cons pe_str (pa_cons pe_str (pa_cons pe_str (pa_cons pe_str (pa_cons pe_str (pa_cons pe_str (pa_cons pe_str (pa_cons pe_str (pa_cons pe_str (pa_cons pe_str (pa_cons pe_str pa_nil)))))))))))))))
      (pss_one (ps_ret (pe_op op_cat (pv 0) (pe_lst (pa_cons pe_str (pa_cons pe_str (pa_cons pe_str (pa_cons pe_str (pa_cons pe_str (pa_cons pe_str (pa_cons pe_str (pa_cons pe_str (pa_cons pe_str (pa_cons pe_str pa_nil))))))))))))))), ?_⟩
    rw [show L2.start N_law_words [] = [none] from rfl]
    walk_at "rd"
    refine w_newL (by show 13 ≤ 1000000; decide) fun p H1 _ s1 hp => ?_
    walk_at "rd"
    refine w_newL (by show 10 ≤ 1000000; decide) fun q H2 _ s2 hq => ?_
    refine w_cat2 (s2 _ _ hp) hq (by show 13 + 10 ≤ 1000000; decide) fun a H3 ha s3 h3 => ?_
    exact kQ a _ ((s1.trans s2).trans s3) ((s1.trans s2).free ha) h3

/-- first letter of these, then letters and digits, 20 signs at most -/
def RunOf (fs a : List Nat) : Prop := ∃ c r, a = c :: r ∧ c ∈ fs ∧ (∀ d ∈ r, d ∈ aJ) ∧ r.length ≤ 19
abbrev s_law_run : Stmt := topS 6
abbrev N_law_run : List Str := ["state", "first", "other", "number", "run", "tail"]
theorem sc_law_run : FnScope N_law_run ["state", "first"] (defScope s_law_run) := ⟨rfl, rfl, rfl, by decide +kernel, rfl, by decide +kernel, by decide +kernel⟩
def spRun : Sp := fun vs H Q _ => ∃ (S L : Addr) (fs : List Nat), vs = [.ref S, T fs] ∧ StAt H S L ∧ fs.length = 26 ∧ ∀ a H', RunOf fs a → StAt H' S L → Fr S H H' → Q (T a) H'
theorem use_draw {S L : Addr} {m : Int} {H : Hp} {Q : VK} {E : XK} (h : StAt H S L) (h0 : 0 < m) (h1 : m < 1073741824) (k : ∀ r H', 0 ≤ r → r < m → StAt H' S L → Fr S H H' → Q (.int r) H') : spDraw ([.ref S, .int m] ++ []) H Q E :=
  ⟨S, L, m, rfl, h, h0, h1, k⟩
theorem StAt.obj {H : Hp} {S L : Addr} (h : StAt H S L) : ∃ (i c k : Int) (b : Bool) (r : Int), H S = some (.lst (StL L i c k b r)) := by
  obtain ⟨_, i, c, k, b, r, _, _, _, h⟩ := h
  exact ⟨i, c, k, b, r, h⟩
theorem StAt.put5 {H H' : Hp} {S L : Addr} {i c k : Int} {b : Bool} {r z : Int} (h : StAt H S L) (hS : H S = some (.lst (StL L i c k b r))) (h2 : H' S = some (.lst ((StL L i c k b r).set 5 (.int z)))) (f : Fr S H H') : StAt H' S L := by
  obtain ⟨ns, i', c', k', b', r', h1, h3, h4, h5⟩ := h
  rw [hS] at h5
  injection h5 with h5
  injection h5 with h5
  injection h5 with _ h5
  injection h5 with e1 h5
  injection e1 with e1
  subst e1
  exact ⟨ns, i, c, k, b, z, h1, f _ _ h1 h3, h4, h2⟩
theorem ok_law_run {f : Addr} {fd : FuncData} (F : Fun K "_law_run" "_law_run" s_law_run f fd) (Y : Bn mg) (c_law_draw : Cal P w K mg base 1 "_law_draw" spDraw []) : FnOk P w K mg base CX0 2 f fd ["state", "first"] spRun := by
  refine F.ok sc_law_run (fun vs H Q E h => ?_) (fun cdv A outer s H vs Q E hr h => ?_)
  · obtain ⟨S, L, fs, rfl, _⟩ := h
    rfl
  · obtain ⟨S, L, fs, rfl, hSt, hfs, kQ⟩ := h
    have nd := sc_law_run.nd
    refine ⟨_, (pss_cons (ps_set (i := 2) nd rfl (Or.inl rfl) pe_str)
      (pss_cons (ps_set (i := 3) nd rfl (Or.inl rfl) (pe_c c_law_draw hr (by decide) rfl (pa_cons (pv 0) (pa_cons pe_int pa_nil))))
      (pss_cons (ps_set (i := 4) nd rfl (Or.inl rfl) (pe_ix ix_str (pv 1) (pe_op op_modN (pe_callTy call_intI (by rfl) Y.n_int (by decide +kernel) (pa_cons (pe_op op_fdivN (pv 3) pe_int) pa_nil)) pe_int) (fun _ _ => rfl)))
      (pss_cons (ps_set (i := 5) nd rfl (Or.inl rfl) (pe_op op_addS (pe_op op_addS (pe_ix ix_str (pv 2) (pe_op op_modN (pe_callTy call_intI (by rfl) Y.n_int (by decide +kernel) (pa_cons (pe_op op_fdivN (pv 3) pe_int) pa_nil)) pe_int) (fun _ _ => rfl)) (pe_ix ix_str (pv 2) (pe_op op_modN (pe_callTy call_intI (by rfl) Y.n_int (by decide +kernel) (pa_cons (pe_op op_fdivN (pv 3) pe_int) pa_nil)) pe_int) (fun _ _ => rfl))) (pe_ix ix_str (pv 2) (pe_op op_modN (pe_callTy call_intI (by rfl) Y.n_int (by decide +kernel) (pa_cons (pv 3) pa_nil)) pe_int) (fun _ _ => rfl))))
      (pss_cut (ps_if (pt_cmpR op_eq (pe_c c_law_draw hr (by decide) rfl (pa_cons (pv 0) (pa_cons pe_int pa_nil))) pe_int (nomark _)) (pss_one (ps_set (i := 4) nd rfl (Or.inl rfl) (pe_slice sl_str (pe_op op_addS (pv 4) (pe_op op_mulS (pv 5) pe_int)) po_none (po_some (pe_op op_add pe_int (pe_c c_law_draw hr (by decide) rfl (pa_cons (pv 0) (pa_cons pe_int pa_nil)))))))) (pss_one (ps_set (i := 4) nd rfl (Or.inl rfl) (pe_op op_addS (pv 4) (pe_slice sl_str (pv 5) po_none (po_some (pe_op op_modN (pe_callTy call_intI (by rfl) Y.n_int (by decide +kernel) (pa_cons (pv 3) pa_nil)) pe_int)))))))
      (pss_cons (ps_asg (pe_op op_sub (pe_ix ix_list (pv 0) pe_int (fun _ _ => rfl)) (pe_callB call_lenS (by rfl) Y.n_len (by decide +kernel) (pa_cons (pv 4) pa_nil))) (pg_sub (pv 0) pe_int set_list))
      (pss_one (ps_ret (pv 4))))))))), ?_⟩
    rw [show L2.start N_law_run [.ref S, T fs] = [some (.ref S), some (T fs), none, none, none, none] from rfl]
    walk_at "rd"
    refine use_draw hSt (by decide) (by decide) fun n H1 n0 n1 hSt1 f1 => ?_
    walk_at "rd"
    refine w_i ⟨by decide, by decide⟩ ?_
    walk_at "rd"
    refine w_i (by decide) ?_
    obtain ⟨c, hc, ec⟩ := at_mod hfs (by decide) (n.fdiv 4)
    refine w_ixS (by omega) ec ?_
    walk_at "rd"
    refine w_i ⟨by decide, by decide⟩ ?_
    walk_at "rd"
    refine w_i (by decide) ?_
    obtain ⟨d1, hd1, e1⟩ := at_mod len_aJ (by decide) (n.fdiv 104)
    refine w_ixS (by decide +kernel) e1 ?_
    walk_at "rd"
    refine w_i ⟨by decide, by decide⟩ ?_
    walk_at "rd"
    refine w_i (by decide) ?_
    obtain ⟨d2, hd2, e2⟩ := at_mod len_aJ (by decide) (n.fdiv 6448)
    refine w_ixS (by decide +kernel) e2 ?_
    refine w_addS (by show 1 + 1 ≤ 1000000; decide) ?_
    walk_at "rd"
    refine w_i (by decide) ?_
    obtain ⟨d3, hd3, e3⟩ := at_lt (l := aJ) (Int.fmod_nonneg_of_pos n (show (0 : Int) < 61 by decide)) (Int.lt_trans (Int.fmod_lt_of_pos n (show (0 : Int) < 61 by decide)) (by decide +kernel))
    refine w_ixS (by decide +kernel) e3 ?_
    refine w_addS (by show 2 + 1 ≤ 1000000; decide) ?_
    have hm : ∀ d, d ∈ ([d1] ++ [d2] ++ [d3] : List Nat) → d ∈ aJ := by
      intro d hd
      rcases List.mem_append.mp hd with hd | hd
      · rcases List.mem_append.mp hd with hd | hd
        · rw [List.mem_singleton.mp hd]; exact hd1
        · rw [List.mem_singleton.mp hd]; exact hd2
      · rw [List.mem_singleton.mp hd]; exact hd3
    walk_at "rd"
    generalize hT : ([d1] ++ [d2] ++ [d3] : List Nat) = tl at hm ⊢
    have hl : tl.length = 3 := by rw [← hT]; rfl
    refine ⟨fun σ' H' => ∃ a, σ' = [some (.ref S), some (T fs), some (T aJ), some (.int n), some (T a), some (T tl)] ∧ RunOf fs a ∧ StAt H' S L ∧ Fr S H H', ?_, ?_⟩
    · walk_at "rd"
      refine use_draw hSt1 (by decide) (by decide) fun b H2 b0 b1 hSt2 f2 => ?_
      walk_at "rd"
      refine w_ifI (fun _ => ?_) (fun _ => ?_)
      · walk_at "rd"
        refine w_mulS (by decide) (by decide) (by rw [hl]; decide) ?_
        refine w_addS (by rw [len_rep, hl]; show 1 + 21 ≤ 1000000; decide) ?_
        walk_at "rd"
        refine use_draw hSt2 (by decide) (by decide) fun e H3 e0 e1 hSt3 f3 => ?_
        walk_at "rd"
        refine w_slS (by rw [List.length_append, len_rep, hl]; show 1 + 21 ≤ 1000000; decide) ?_
        refine ⟨_, rfl, ⟨c, ((List.replicate (Int.toNat 7) tl).flatten).take (4 + e.toNat), ?_, hc, fun d hd => hm d (mem_rep (List.mem_of_mem_take hd)), ?_⟩, hSt3, (f1.trans f2).trans f3⟩
        · have e2 : (5 + e : Int) = ((5 + e.toNat : Nat) : Int) := by omega
          rw [e2, cut_to]
          show List.take (5 + e.toNat) (c :: _) = _
          rw [show 5 + e.toNat = (4 + e.toNat) + 1 by omega, List.take_succ_cons]
          rfl
        · rw [List.length_take]
          omega
      · walk_at "rd"
        refine w_i (by decide) ?_
        walk_at "rd"
        refine w_slS (by omega) ?_
        refine w_addS ?_ ?_
        · have := cut_len tl none (some (n.fmod 4))
          rw [hl] at this
          show 1 + _ ≤ 1000000
          omega
        · refine ⟨_, rfl, ⟨c, cut tl none (some (n.fmod 4)), rfl, hc, fun d hd => hm d (cut_mem hd), ?_⟩, hSt2, f1.trans f2⟩
          have := cut_len tl none (some (n.fmod 4))
          omega
    · rintro σ' H2 ⟨a, rfl, ha, hSt2, f2⟩
      have hal : a.length ≤ 20 := by
        obtain ⟨c, r, rfl, _, _, h⟩ := ha
        rw [List.length_cons]
        omega
      obtain ⟨i, c', k, b, r, hS⟩ := hSt2.obj
      walk_at "rd"
      refine w_ixL (SqL.of hS) rfl ?_
      walk_at "rd"
      refine w_lenS (by omega) ?_
      walk_at "rd"
      refine w_stset hS rfl fun H3 h3 f3 => ?_
      walk_at "rd"
      exact kQ a _ ha (hSt2.put5 hS h3 f3) (f2.trans f3)
end
end
section
open PySem PySem.Spec PyProof.Rows L2
open C8 (Cal cal0 pe_c pe_gc pss_cut tCut)
local macro_rules | `(tactic| walk_at "r1") => `(tactic| first
  | with_reducible refine w_seq ?_
  | with_reducible refine w_next ?_
  | with_reducible refine w_var (by with_unfolding_all exact rfl) ?_
  | with_reducible refine w_asg ?_
  | with_reducible refine w_gname ?_
  | with_reducible refine w_ifS ?_
  | with_reducible refine w_test ?_
  | with_reducible refine w_tB ?_
  | with_reducible refine w_op ?_
  | with_reducible refine w_un ?_
  | with_reducible refine w_var (by with_unfolding_all exact rfl) ?_
  | with_reducible refine w_cT ?_
  | with_reducible refine w_str ?_
  | with_reducible refine w_c ?_
  | with_reducible refine w_i0 ?_
  | with_reducible refine w_intI ?_
  | with_reducible refine w_intB ?_
  | with_reducible refine w_cb ?_
  | with_reducible refine w_cons ?_
  | with_reducible refine w_nil ?_
  | with_reducible refine w_call ?_
  | with_reducible refine w_ret ?_
  | with_reducible refine w_retN ?_
  | with_reducible refine w_drop ?_
  | with_reducible refine w_gsub ?_
  | with_reducible refine w_sl ?_
  | with_reducible refine w_part ?_
  | with_reducible refine w_nopart ?_
  | with_reducible refine w_lst ?_
  | with_reducible refine w_tup ?_
  | with_reducible refine w_bm ?_
  | with_reducible refine w_bm0 ?_
  | with_reducible refine w_and ?_
  | with_reducible refine w_or ?_
  | with_reducible refine w_not ?_
  | with_reducible refine w_andV ?_
  | with_reducible refine w_orV ?_
  | with_reducible refine w_notV ?_
  | with_reducible refine w_inC ?_
  | with_reducible refine w_ninC ?_
  | with_reducible refine w_ord ?_
  | with_reducible refine w_max ?_
  | with_reducible refine w_ifE ?_
  | with_reducible refine w_forR ?_
  | with_reducible refine w_forL ?_
  | with_reducible refine w_forT ?_
  | with_reducible refine w_forS ?_
  | with_reducible refine w_eq (by with_unfolding_all exact rfl) ?_
  | with_reducible refine w_ne (by with_unfolding_all exact rfl) ?_
  | with_reducible refine L2.iteF ?_
  | with_reducible refine L2.iteT ?_
  | with_reducible refine w_nt ?_
  | with_reducible refine w_nf ?_
  | with_reducible refine ex_int ?_
  | with_reducible refine ex_bl ?_)
local macro_rules | `(tactic| walk_at "rd") => `(tactic| repeat walk_at "r1")

/-- a name, a class name -/
def IsName (a : List Nat) : Prop := RunOf aLow a ∧ a ∉ WL
def IsClass (a : List Nat) : Prop := RunOf aUp a
/-- the signs of a text between quotes -/
abbrev aTxt : List Nat := cds " !\"#$&()*+,-./0123456789:;<=>?@ABCDEFGHIJKLMNOPQRSTUVWXYZ[\\]^_`abcdefghijklmnopqrstuvwxyz{|}~"
theorem len_aTxt : aTxt.length = 93 := by decide +kernel
def IsText (a : List Nat) : Prop := (∀ d ∈ a, d ∈ aTxt) ∧ a.length ≤ 200
theorem word_name {a : List Nat} (h : a ∈ WL) : IsName (a ++ [49]) := by
  refine ⟨?_, WL_one a h⟩
  obtain ⟨c, r, rfl, hc, hr⟩ := WL_form a h
  refine ⟨c, r ++ [49], rfl, hc, fun d hd => ?_, ?_⟩
  · rcases List.mem_append.mp hd with hd | hd
    · exact hr d hd
    · rw [List.mem_singleton.mp hd]
      decide +kernel
  · have := WL_len _ h
    rw [List.length_cons] at this
    rw [List.length_append]
    simp
    omega
theorem RunOf.len {fs a : List Nat} (h : RunOf fs a) : a.length ≤ 20 := by
  obtain ⟨c, r, rfl, _, _, h⟩ := h
  rw [List.length_cons]
  omega

section
variable {P : Program} {w : World} {K : PySem.W.Frag} {mg : Str → Option Value} {base : Heap}
theorem use_run {S L : Addr} {fs : List Nat} {H : Hp} {Q : VK} {E : XK} (h : StAt H S L) (hf : fs.length = 26) (k : ∀ a H', RunOf fs a → StAt H' S L → Fr S H H' → Q (T a) H') : spRun ([.ref S, T fs] ++ []) H Q E :=
  ⟨S, L, fs, rfl, h, hf, k⟩
/-- one promise for all that draws a text -/
def spTx (Ok : List Nat → Prop) : Sp := fun vs H Q _ => ∃ (S L : Addr), vs = [.ref S] ∧ StAt H S L ∧ ∀ a H', Ok a → StAt H' S L → Fr S H H' → Q (T a) H'
theorem use_tx {Ok : List Nat → Prop} {S L : Addr} {H : Hp} {Q : VK} {E : XK} (h : StAt H S L) (k : ∀ a H', Ok a → StAt H' S L → Fr S H H' → Q (T a) H') : spTx Ok ([.ref S] ++ []) H Q E := ⟨S, L, rfl, h, k⟩

abbrev s_law_name : Stmt := topS 7
abbrev N_law_name : List Str := ["state", "name"]
theorem sc_law_name : FnScope N_law_name ["state"] (defScope s_law_name) := ⟨rfl, rfl, rfl, by decide +kernel, rfl, by decide +kernel, by decide +kernel⟩
theorem ok_law_name {f : Addr} {fd : FuncData} (F : Fun K "_law_name" "_law_name" s_law_name f fd) (c_law_run : Cal P w K mg base 2 "_law_run" spRun []) (c_law_words : Cal P w K mg base 1 "_law_words" spWords []) : FnOk P w K mg base CX0 3 f fd ["state"] (spTx IsName) := by
  refine F.ok sc_law_name (fun vs H Q E h => ?_) (fun cdv A outer s H vs Q E hr h => ?_)
  · obtain ⟨S, L, rfl, _⟩ := h
    rfl
  · obtain ⟨S, L, rfl, hSt, kQ⟩ := h
    have nd := sc_law_name.nd
    refine ⟨_, (pss_cons (ps_set (i := 1) nd rfl (Or.inl rfl) (pe_c c_law_run hr (by decide) rfl (pa_cons (pv 0) (pa_cons pe_str pa_nil))))
      (pss_cons (ps_if (pt_cmpR op_in_seq (pv 1) (pe_c0 c_law_words hr (by decide) rfl) (by rfl)) (pss_one (ps_ret (pe_op op_addS (pv 1) pe_str))) pss_nil)
      (pss_one (ps_ret (pv 1))))), ?_⟩
    rw [show L2.start N_law_name [.ref S] = [some (.ref S), none] from rfl]
    walk_at "rd"
    refine use_run hSt len_aLow fun a H1 ha hSt1 f1 => ?_
    walk_at "rd"
    refine ⟨rfl, fun p H2 s2 _ hp => ?_⟩
    refine w_inL (SqL.of hp) ?_
    walk_at "rd"
    refine w_if (fun h => ?_) (fun h => ?_)
    · walk_at "rd"
      refine w_addS (by have := ha.len; show a.length + 1 ≤ 1000000; omega) ?_
      exact kQ _ _ (word_name h) (hSt1.mono s2) (f1.to s2)
    · walk_at "rd"
      exact kQ _ _ ⟨ha, h⟩ (hSt1.mono s2) (f1.to s2)

end
end
section
open PySem PySem.Spec PyProof.Rows L2
open C8 (Cal cal0 pe_c pe_gc pss_cut tCut)
local macro_rules | `(tactic| walk_at "r1") => `(tactic| first
  | with_reducible refine w_seq ?_
  | with_reducible refine w_next ?_
  | with_reducible refine w_var (by with_unfolding_all exact rfl) ?_
  | with_reducible refine w_asg ?_
  | with_reducible refine w_gname ?_
  | with_reducible refine w_ifS ?_
  | with_reducible refine w_test ?_
  | with_reducible refine w_tB ?_
  | with_reducible refine w_op ?_
  | with_reducible refine w_un ?_
  | with_reducible refine w_var (by with_unfolding_all exact rfl) ?_
  | with_reducible refine w_cT ?_
  | with_reducible refine w_str ?_
  | with_reducible refine w_c ?_
  | with_reducible refine w_i0 ?_
  | with_reducible refine w_intI ?_
  | with_reducible refine w_intB ?_
  | with_reducible refine w_cb ?_
  | with_reducible refine w_cons ?_
  | with_reducible refine w_nil ?_
  | with_reducible refine w_call ?_
  | with_reducible refine w_ret ?_
  | with_reducible refine w_retN ?_
  | with_reducible refine w_drop ?_
  | with_reducible refine w_gsub ?_
  | with_reducible refine w_sl ?_
  | with_reducible refine w_part ?_
  | with_reducible refine w_nopart ?_
  | with_reducible refine w_lst ?_
  | with_reducible refine w_tup ?_
  | with_reducible refine w_bm ?_
  | with_reducible refine w_bm0 ?_
  | with_reducible refine w_bmT ?_
  | with_reducible refine w_and ?_
  | with_reducible refine w_or ?_
  | with_reducible refine w_not ?_
  | with_reducible refine w_andV ?_
  | with_reducible refine w_orV ?_
  | with_reducible refine w_notV ?_
  | with_reducible refine w_inC ?_
  | with_reducible refine w_ninC ?_
  | with_reducible refine w_ord ?_
  | with_reducible refine w_max ?_
  | with_reducible refine w_ifE ?_
  | with_reducible refine w_forR ?_
  | with_reducible refine w_forL ?_
  | with_reducible refine w_forT ?_
  | with_reducible refine w_forS ?_
  | with_reducible refine w_forEl ?_
  | with_reducible refine w_lcR ?_
  | with_reducible refine w_lcL ?_
  | with_reducible refine w_yes ?_
  | with_reducible refine w_isN ?_
  | with_reducible refine w_notN ?_
  | with_reducible refine isi_s_tuple ?_
  | with_reducible refine isi_s_bool ?_
  | with_reducible refine isi_s_int ?_
  | with_reducible refine isi_s_str ?_
  | with_reducible refine isi_i_tuple ?_
  | with_reducible refine isi_i_bool ?_
  | with_reducible refine isi_i_int ?_
  | with_reducible refine isi_i_str ?_
  | with_reducible refine isi_b_tuple ?_
  | with_reducible refine isi_b_bool ?_
  | with_reducible refine isi_b_int ?_
  | with_reducible refine isi_b_str ?_
  | with_reducible refine isi_n_tuple ?_
  | with_reducible refine isi_n_bool ?_
  | with_reducible refine isi_n_int ?_
  | with_reducible refine isi_n_str ?_
  | ((with_reducible refine isi_t_tuple ?hSq ?_); (case hSq => exact ⟨_, by assumption⟩))
  | ((with_reducible refine isi_t_bool ?hSq ?_); (case hSq => exact ⟨_, by assumption⟩))
  | ((with_reducible refine isi_t_int ?hSq ?_); (case hSq => exact ⟨_, by assumption⟩))
  | ((with_reducible refine isi_t_str ?hSq ?_); (case hSq => exact ⟨_, by assumption⟩))
  | with_reducible refine ifN_s ?_
  | with_reducible refine ifN_i ?_
  | with_reducible refine ifN_b ?_
  | with_reducible refine ifN_r ?_
  | with_reducible refine ifN_n ?_
  | with_reducible refine ifM_s ?_
  | with_reducible refine ifM_i ?_
  | with_reducible refine ifM_b ?_
  | with_reducible refine ifM_r ?_
  | with_reducible refine ifM_n ?_
  | ((with_reducible show rLenL _ [V.ref _] _ _); first | refine w_lenL (SqL.of (by assumption)) ?_ | refine w_lenL (by assumption) ?_ | refine w_lenT (by assumption) ?_)
  | with_reducible refine w_eq (by with_unfolding_all exact rfl) ?_
  | with_reducible refine w_ne (by with_unfolding_all exact rfl) ?_
  | with_reducible refine L2.iteF ?_
  | with_reducible refine L2.iteT ?_
  | with_reducible refine w_nt ?_
  | with_reducible refine w_nf ?_
  | with_reducible refine ex_int ?_
  | with_reducible refine ex_bl ?_)
local macro_rules | `(tactic| walk_at "rd") => `(tactic| repeat walk_at "r1")

/-- two of one shape: True -/
def spSame (K : PySem.W.Frag) (n : Nat) : Sp := fun vs H Q _ => ∃ (x y : V) (t : Tr), vs = [x, y] ∧ TrAt K H x t ∧ TrAt K H y t ∧ TrD n t ∧ ∀ H', Same H H' → Q (.bl true) H'
section
variable {P : Program} {w : World} {K : PySem.W.Frag} {mg : Str → Option Value} {base : Heap}
abbrev s_law_same : Stmt := topS 8
abbrev N_law_same : List Str := ["one", "two", "k"]
theorem sc_law_same : FnScope N_law_same ["one", "two"] (defScope s_law_same) := ⟨rfl, rfl, rfl, by decide +kernel, rfl, by decide +kernel, by decide +kernel⟩
theorem ok_same0 {f : Addr} {fd : FuncData} (F : Fun K "_law_same" "_law_same" s_law_same f fd) : FnOk P w K mg base CX0 1 f fd ["one", "two"] (spSame K 0) :=
  F.ok sc_law_same (fun vs H Q E ⟨x, y, t, e, _⟩ => by rw [e]; rfl) fun cdv A outer s H vs Q E hr ⟨x, y, t, e, _, _, h, _⟩ => False.elim h
theorem ok_same1 {n : Nat} {f : Addr} {fd : FuncData} (F : Fun K "_law_same" "_law_same" s_law_same f fd) (Y : Bn mg) (c_law_same : Cal P w K mg base (n + 1) "_law_same" (spSame K n) []) : FnOk P w K mg base CX0 (n + 2) f fd ["one", "two"] (spSame K (n + 1)) := by
  refine F.ok sc_law_same (fun vs H Q E h => ?_) (fun cdv A outer s H vs Q E hr h => ?_)
  · obtain ⟨x, y, t, rfl, _⟩ := h
    rfl
  · obtain ⟨x, y, t, rfl, hx, hy, hd, kQ⟩ := h
    have nd := sc_law_same.nd
    refine ⟨_, (pss_cons (ps_if (PW.pt (pw_or (pt_val (pe_callB call_isi (by rfl) Y.n_isinstance (by decide +kernel) (pa_cons (pv 0) (pa_cons (pe_bltn (v := .ty "tuple") (by rfl) Y.n_tuple (by decide +kernel) rfl) pa_nil)))) (pw_or1 (pt_val (pe_callB call_isi (by rfl) Y.n_isinstance (by decide +kernel) (pa_cons (pv 1) (pa_cons (pe_bltn (v := .ty "tuple") (by rfl) Y.n_tuple (by decide +kernel) rfl) pa_nil))))))) (pss_cons (ps_if (PW.pt (pw_or (pt_not (pt_val (pe_callB call_isi (by rfl) Y.n_isinstance (by decide +kernel) (pa_cons (pv 0) (pa_cons (pe_bltn (v := .ty "tuple") (by rfl) Y.n_tuple (by decide +kernel) rfl) pa_nil))))) (pw_or (pt_not (pt_val (pe_callB call_isi (by rfl) Y.n_isinstance (by decide +kernel) (pa_cons (pv 1) (pa_cons (pe_bltn (v := .ty "tuple") (by rfl) Y.n_tuple (by decide +kernel) rfl) pa_nil))))) (pw_or1 (pt_cmpR op_ne (pe_callB call_lenL (by rfl) Y.n_len (by decide +kernel) (pa_cons (pv 0) pa_nil)) (pe_callB call_lenL (by rfl) Y.n_len (by decide +kernel) (pa_cons (pv 1) pa_nil)) (nomark _)))))) (pss_one (ps_ret pe_bl)) pss_nil)
      (pss_one (ps_ret (pe_cmpR op_eq (pe_callB call_lenL (by rfl) Y.n_len (by decide +kernel) (pa_cons (pe_lc (own := [("k", 2)]) (g := gName 2) (tt := tNot (tB (tCall (spSame K n) [] L2.E0 (tCons (tOp (rIxT K) (tVar 0) (tVar 2)) (tCons (tOp (rIxT K) (tVar 1) (tVar 2)) tNil))))) rfl nd (pi_range1 rfl Y.n_range (pa_cons (pe_callB call_lenL (by rfl) Y.n_len (by decide +kernel) (pa_cons (pv 0) pa_nil)) pa_nil)) (blkOk_by (own := [("k", 2)]) (N := N_law_same) (sc := defScope s_law_same) (by decide +kernel)) (fun _ _ _ _ _ => pg_name (i := 2) nd rfl (Or.inl rfl)) (fun _ _ _ _ _ => pts_one (pt_not (pt_val (pe_c c_law_same hr (by omega) rfl (pa_cons (pe_ix ix_tup (pv 0) (pv 2) (fun _ _ => rfl)) (pa_cons (pe_ix ix_tup (pv 1) (pv 2) (fun _ _ => rfl)) pa_nil)))))) (fun _ _ _ _ _ => (pv 2))) pa_nil)) pe_int (nomark _))))) pss_nil)
      (pss_cons (ps_if (PW.pt (pw_or (pt_cmpR op_isN (pv 0) pe_non (nomark _)) (pw_or1 (pt_cmpR op_isN (pv 1) pe_non (nomark _))))) (pss_one (ps_ret (pe_and (pe_cmpR op_isN (pv 0) pe_non (nomark _)) (pe_one (pe_cmpR op_isN (pv 1) pe_non (nomark _)))))) pss_nil)
      (pss_cons (ps_if (PW.pt (pw_or (pt_val (pe_callB call_isi (by rfl) Y.n_isinstance (by decide +kernel) (pa_cons (pv 0) (pa_cons (pe_bltn (v := .ty "bool") (by rfl) Y.n_bool (by decide +kernel) rfl) pa_nil)))) (pw_or1 (pt_val (pe_callB call_isi (by rfl) Y.n_isinstance (by decide +kernel) (pa_cons (pv 1) (pa_cons (pe_bltn (v := .ty "bool") (by rfl) Y.n_bool (by decide +kernel) rfl) pa_nil))))))) (pss_one (ps_ret (pe_and (pe_callB call_isi (by rfl) Y.n_isinstance (by decide +kernel) (pa_cons (pv 0) (pa_cons (pe_bltn (v := .ty "bool") (by rfl) Y.n_bool (by decide +kernel) rfl) pa_nil))) (pe_and (pe_callB call_isi (by rfl) Y.n_isinstance (by decide +kernel) (pa_cons (pv 1) (pa_cons (pe_bltn (v := .ty "bool") (by rfl) Y.n_bool (by decide +kernel) rfl) pa_nil))) (pe_one (pe_cmpR op_eq (pv 0) (pv 1) (nomark _))))))) pss_nil)
      (pss_cons (ps_if (pt_val (pe_callB call_isi (by rfl) Y.n_isinstance (by decide +kernel) (pa_cons (pv 0) (pa_cons (pe_bltn (v := .ty "int") (by rfl) Y.n_int (by decide +kernel) rfl) pa_nil)))) (pss_one (ps_ret (pe_and (pe_callB call_isi (by rfl) Y.n_isinstance (by decide +kernel) (pa_cons (pv 1) (pa_cons (pe_bltn (v := .ty "int") (by rfl) Y.n_int (by decide +kernel) rfl) pa_nil))) (pe_one (pe_cmpR op_eq (pv 0) (pv 1) (nomark _)))))) pss_nil)
      (pss_one (ps_ret (pe_and (pe_callB call_isi (by rfl) Y.n_isinstance (by decide +kernel) (pa_cons (pv 0) (pa_cons (pe_bltn (v := .ty "str") (by rfl) Y.n_str (by decide +kernel) rfl) pa_nil))) (pe_and (pe_callB call_isi (by rfl) Y.n_isinstance (by decide +kernel) (pa_cons (pv 1) (pa_cons (pe_bltn (v := .ty "str") (by rfl) Y.n_str (by decide +kernel) rfl) pa_nil))) (pe_one (pe_cmpR op_eq (pv 0) (pv 1) (nomark _))))))))))), ?_⟩
    rw [show L2.start N_law_same [x, y] = [some x, some y, none] from rfl]
    cases hx with
    | @s a =>
      cases hy
      walk_at "rd"
      exact at_self (kQ _ fun _ _ h => h)
    | @i a =>
      cases hy
      walk_at "rd"
      exact at_self (kQ _ fun _ _ h => h)
    | @b a =>
      cases hy
      walk_at "rd"
      exact at_self (kQ _ fun _ _ h => h)
    | n =>
      cases hy
      walk_at "rd"
      exact at_self (kQ _ fun _ _ h => h)
    | @t p vs l hp hl =>
      obtain ⟨p2, vs2, ey, hp2, hl2⟩ : ∃ p2 vs2, y = .ref p2 ∧ SqT K H p2 vs2 ∧ TrsAt K H vs2 l := by cases hy with | t a b => exact ⟨_, _, rfl, a, b⟩
      subst ey
      obtain ⟨hlen, hall⟩ := hd
      have e1 := hl.length
      have e2 := hl2.length
      walk_at "rd"
      rw [e1, e2]
      refine ifD_self ?_
      walk_at "rd"
      refine lc_R (j := (vs.length : Int)) (fun D i acc H' => acc = [] ∧ Same H H') (by omega) (by omega) (fun D H1 hD s1 h1 => ⟨rfl, s1⟩) ?_ ?_
      · rintro D i acc H1 hi _ hD1 ⟨rfl, s1⟩
        obtain ⟨v, t, g1, g2, g3⟩ := hl.get (i := i) (by omega)
        obtain ⟨v2, t2, k1, k2, k3⟩ := hl2.get (i := i) (by omega)
        rw [g2] at k2
        cases k2
        walk_at "rd"
        refine ⟨rfl, ?_⟩
        walk_at "rd"
        have i0 : (0 : Int) + (i : Int) = (i : Int) := Int.zero_add _
        rw [i0]
        refine w_ixT (Same.sqT s1 hp) (atI_nat g1) ?_
        walk_at "rd"
        refine w_ixT (Same.sqT s1 hp2) (atI_nat k1) ?_
        walk_at "rd"
        refine ⟨v, v2, t, rfl, g3.same s1, k3.same s1, hall t (List.mem_of_getElem? g2), fun H2 s2 => ?_⟩
        walk_at "rd"
        exact lc_skip (acc := []) (Nat.zero_le _) (s2 _ _ hD1) ⟨rfl, s1.trans s2⟩
      · rintro D acc H1 _ hD1 ⟨rfl, s1⟩
        walk_at "rd"
        exact at_self (kQ _ s1)
end
end
section
open PySem PySem.Spec PyProof.Rows L2
open C8 (Cal cal0 pe_c pe_gc pss_cut tCut)
theorem StAt.new {H : Hp} {S L D : Addr} (h : StAt H S L) (hD : H D = none) : D ≠ S ∧ D ≠ L := by
  obtain ⟨ns, i, c, k, b, r, h1, h2, h3, h4⟩ := h
  exact ⟨fun e => (by rw [e, h4] at hD; cases hD), fun e => (by rw [e, h2] at hD; cases hD)⟩
theorem StAt.grow {H H1 : Hp} {S L D : Addr} (h : StAt H S L) (n : D ≠ S ∧ D ≠ L) (k : ∀ b o, b ≠ D → H b = some o → H1 b = some o) : StAt H1 S L := by
  obtain ⟨ns, i, c, k', b, r, h1, h2, h3, h4⟩ := h
  exact ⟨ns, i, c, k', b, r, h1, k _ _ n.2.symm h2, h3, k _ _ n.1.symm h4⟩
theorem Fr.grow {S D : Addr} {H H1 H2 : Hp} (f : Fr S H H1) (hD : H D = none) (k : ∀ b o, b ≠ D → H1 b = some o → H2 b = some o) : Fr S H H2 := fun b o n e => k b o (fun z => by rw [z, hD] at e; cases e) (f b o n e)
theorem Fr.free {S D : Addr} {H H1 : Hp} (f : Fr S H H1) (n : D ≠ S) (hD : H1 D = none) : H D = none := by
  cases e : H D with
  | none => rfl
  | some o => rw [f _ _ n e] at hD; cases hD
theorem Fr.ft {S p : Addr} {H H1 : Hp} {xs : List V} (f : Fr S H H1) (n : p ≠ S) (h : FT H p xs) : FT H1 p xs := by
  obtain ⟨o, e, h⟩ := h
  exact ⟨o, e, f _ _ n h⟩
/-- a list is no tuple -/
theorem StAt.nft {H : Hp} {S L p : Addr} {xs : List V} (h : StAt H S L) (t : FT H p xs) : p ≠ S := by
  obtain ⟨i, c, k, b, r, h⟩ := h.obj
  obtain ⟨o, _, t⟩ := t
  exact fun e => by rw [e, h] at t; cases t
end
section
open PySem PySem.Spec PyProof.Rows L2
open C8 (Cal cal0 pe_c pe_gc pss_cut tCut)
local macro_rules | `(tactic| walk_at "r1") => `(tactic| first
  | with_reducible refine w_seq ?_
  | with_reducible refine w_next ?_
  | with_reducible refine w_var (by with_unfolding_all exact rfl) ?_
  | with_reducible refine w_asg ?_
  | with_reducible refine w_gname ?_
  | with_reducible refine w_ifS ?_
  | with_reducible refine w_test ?_
  | with_reducible refine w_tB ?_
  | with_reducible refine w_op ?_
  | with_reducible refine w_un ?_
  | with_reducible refine w_var (by with_unfolding_all exact rfl) ?_
  | with_reducible refine w_cT ?_
  | with_reducible refine w_str ?_
  | with_reducible refine w_c ?_
  | with_reducible refine w_i0 ?_
  | with_reducible refine w_intI ?_
  | with_reducible refine w_intB ?_
  | with_reducible refine w_cb ?_
  | with_reducible refine w_cons ?_
  | with_reducible refine w_nil ?_
  | with_reducible refine w_call ?_
  | with_reducible refine w_ret ?_
  | with_reducible refine w_retN ?_
  | with_reducible refine w_drop ?_
  | with_reducible refine w_gsub ?_
  | with_reducible refine w_sl ?_
  | with_reducible refine w_part ?_
  | with_reducible refine w_nopart ?_
  | with_reducible refine w_lst ?_
  | with_reducible refine w_tup ?_
  | with_reducible refine w_bm ?_
  | with_reducible refine w_bm0 ?_
  | with_reducible refine w_bmT ?_
  | with_reducible refine w_and ?_
  | with_reducible refine w_or ?_
  | with_reducible refine w_not ?_
  | with_reducible refine w_andV ?_
  | with_reducible refine w_orV ?_
  | with_reducible refine w_notV ?_
  | with_reducible refine w_inC ?_
  | with_reducible refine w_ninC ?_
  | with_reducible refine w_ord ?_
  | with_reducible refine w_max ?_
  | with_reducible refine w_ifE ?_
  | with_reducible refine w_forR ?_
  | with_reducible refine w_forL ?_
  | with_reducible refine w_forT ?_
  | with_reducible refine w_forS ?_
  | with_reducible refine w_forEl ?_
  | with_reducible refine w_lcR ?_
  | with_reducible refine w_lcL ?_
  | with_reducible refine w_yes ?_
  | with_reducible refine w_isN ?_
  | with_reducible refine w_notN ?_
  | with_reducible refine isi_s_tuple ?_
  | with_reducible refine isi_s_bool ?_
  | with_reducible refine isi_s_int ?_
  | with_reducible refine isi_s_str ?_
  | with_reducible refine isi_i_tuple ?_
  | with_reducible refine isi_i_bool ?_
  | with_reducible refine isi_i_int ?_
  | with_reducible refine isi_i_str ?_
  | with_reducible refine isi_b_tuple ?_
  | with_reducible refine isi_b_bool ?_
  | with_reducible refine isi_b_int ?_
  | with_reducible refine isi_b_str ?_
  | with_reducible refine isi_n_tuple ?_
  | with_reducible refine isi_n_bool ?_
  | with_reducible refine isi_n_int ?_
  | with_reducible refine isi_n_str ?_
  | ((with_reducible refine isi_t_tuple ?hSq ?_); (case hSq => exact ⟨_, by assumption⟩))
  | ((with_reducible refine isi_t_bool ?hSq ?_); (case hSq => exact ⟨_, by assumption⟩))
  | ((with_reducible refine isi_t_int ?hSq ?_); (case hSq => exact ⟨_, by assumption⟩))
  | ((with_reducible refine isi_t_str ?hSq ?_); (case hSq => exact ⟨_, by assumption⟩))
  | with_reducible refine ifN_s ?_
  | with_reducible refine ifN_i ?_
  | with_reducible refine ifN_b ?_
  | with_reducible refine ifN_r ?_
  | with_reducible refine ifN_n ?_
  | with_reducible refine ifM_s ?_
  | with_reducible refine ifM_i ?_
  | with_reducible refine ifM_b ?_
  | with_reducible refine ifM_r ?_
  | with_reducible refine ifM_n ?_
  | ((with_reducible show rLenL _ [V.ref _] _ _); first | refine w_lenL (SqL.of (by assumption)) ?_ | refine w_lenL (by assumption) ?_ | refine w_lenT (by assumption) ?_)
  | with_reducible refine w_eq (by with_unfolding_all exact rfl) ?_
  | with_reducible refine w_ne (by with_unfolding_all exact rfl) ?_
  | with_reducible refine L2.iteF ?_
  | with_reducible refine L2.iteT ?_
  | with_reducible refine w_nt ?_
  | with_reducible refine w_nf ?_
  | with_reducible refine ex_int ?_
  | with_reducible refine ex_bl ?_)
local macro_rules | `(tactic| walk_at "rd") => `(tactic| repeat walk_at "r1")

section
variable {P : Program} {w : World} {K : PySem.W.Frag} {mg : Str → Option Value} {base : Heap}
abbrev s_law_some : Stmt := topS 9
abbrev N_law_some : List Str := ["state", "names", "most", "found", "k", "name"]
theorem sc_law_some : FnScope N_law_some ["state", "names", "most"] (defScope s_law_some) := ⟨rfl, rfl, rfl, by decide +kernel, rfl, by decide +kernel, by decide +kernel⟩
def spSome : Sp := fun vs H Q _ => ∃ (S L N : Addr) (ns : List (List Nat)) (m : Int), vs = [.ref S, .ref N, .int m] ∧ StAt H S L ∧ H N = some (.lst (ns.map T)) ∧ N ≠ S ∧ 0 < ns.length ∧ ns.length ≤ 1000 ∧ 0 ≤ m ∧ m ≤ 1000 ∧
  ∀ (p : Addr) (xs : List (List Nat)) (H' : Hp), xs.Nodup → (∀ x ∈ xs, x ∈ ns) → FT H' p (xs.map T) → H p = none → xs.length ≤ 1000 → StAt H' S L → Fr S H H' → Q (.ref p) H'
theorem ok_law_some {f : Addr} {fd : FuncData} (F : Fun K "_law_some" "_law_some" s_law_some f fd) (Y : Bn mg) (c_law_draw : Cal P w K mg base 1 "_law_draw" spDraw []) : FnOk P w K mg base CX0 2 f fd ["state", "names", "most"] spSome := by
  refine F.ok sc_law_some (fun vs H Q E h => ?_) (fun cdv A outer s H vs Q E hr h => ?_)
  · obtain ⟨S, L, N, ns, m, rfl, _⟩ := h
    rfl
  · obtain ⟨S, L, N, ns, m, rfl, hSt, hN, nN, n0, n1, m0, m1, kQ⟩ := h
    have nd := sc_law_some.nd
    refine ⟨_, (pss_cons (ps_set (i := 3) nd rfl (Or.inl rfl) (pe_lst pa_nil))
      (pss_cons (ps_for PassesOwn.never rfl (pi_range1 rfl Y.n_range (pa_cons (pe_c c_law_draw hr (by decide) rfl (pa_cons (pv 0) (pa_cons (pe_op op_add (pv 2) pe_int) pa_nil))) pa_nil)) (pg_name (i := 4) nd rfl (Or.inl rfl)) (pss_cons (ps_set (i := 5) nd rfl (Or.inl rfl) (pe_ix ix_list (pv 1) (pe_c c_law_draw hr (by decide) rfl (pa_cons (pv 0) (pa_cons (pe_callB call_lenL (by rfl) Y.n_len (by decide +kernel) (pa_cons (pv 1) pa_nil)) pa_nil))) (fun _ _ => rfl)))
      (pss_one (ps_if (pt_cmpR op_notIn_seq (pv 5) (pv 3) (by rfl)) (pss_one (ps_expr (pe_bm PySem.F.plainAttrs_list PySem.F.slot_list_append PySem.F.type_list_append mt_append (pv 3) (pa_cons (pv 5) pa_nil)))) pss_nil))))
      (pss_one (ps_ret (pe_callTy call_tupleOf (by rfl) Y.n_tuple (by decide +kernel) (pa_cons (pv 3) pa_nil)))))), ?_⟩
    rw [show L2.start N_law_some [.ref S, .ref N, .int m] = [some (.ref S), some (.ref N), some (.int m), none, none, none] from rfl]
    walk_at "rd"
    refine w_newL (by show 0 ≤ 1000000; decide) fun D H1 hD s1 h1 => ?_
    walk_at "rd"
    have hSt1 := hSt.mono s1
    have nD := hSt.new hD
    have nND : N ≠ D := fun e => by rw [e, hD] at hN; cases hN
    refine use_draw hSt1 (by omega) (by omega) fun j H2 j0 j1 hSt2 f2 => ?_
    refine for_R (fun i σ' H' => ∃ (xs : List (List Nat)) (x4 x5 : Option V), σ' = [some (.ref S), some (.ref N), some (.int m), some (.ref D), x4, x5] ∧ StAt H' S L ∧ Fr S H H' ∧ H' D = some (.lst (xs.map T)) ∧ xs.Nodup ∧ (∀ x ∈ xs, x ∈ ns) ∧ xs.length ≤ i) j0 (by omega)
      ⟨[], none, none, rfl, hSt2, (Fr.refl S H).to s1 |>.trans f2, f2 _ _ nD.1 h1, List.nodup_nil, (fun x hx => absurd hx List.not_mem_nil), Nat.le_refl _⟩ ?_ ?_
    · rintro i σ' H3 hi ⟨xs, x4, x5, rfl, hSt3, f3, h3, hnd, hsub, hlen⟩
      have hN3 := f3 _ _ nN hN
      walk_at "rd"
      refine use_draw hSt3 (by rw [List.length_map]; omega) (by rw [List.length_map]; omega) fun r H4 r0 r1 hSt4 f4 => ?_
      rw [List.length_map] at r1
      have hN4 := f4 _ _ nN hN3
      have h4 := f4 _ _ nD.1 h3
      obtain ⟨a, ha, ea⟩ : ∃ a, a ∈ ns ∧ atI (ns.map T) r = some (T a) := by
        have hr2 : r.toNat < ns.length := by omega
        obtain ⟨q, rfl⟩ : ∃ q : Nat, r = (q : Int) := ⟨r.toNat, by omega⟩
        rw [Int.toNat_natCast] at hr2
        exact ⟨ns[q], List.getElem_mem hr2, atI_nat (by rw [List.getElem?_map, List.getElem?_eq_getElem hr2]; rfl)⟩
      refine w_ixL (SqL.of hN4) ea ?_
      walk_at "rd"
      refine w_ninL (SqL.of h4) ?_
      refine ⟨_, rfl, ?_⟩
      refine w_ifn (fun hin => ?_) (fun hin => ?_)
      · walk_at "rd"
        refine ⟨tyL (SqL.of h4), ?_⟩
        walk_at "rd"
        refine w_app2 h4 (by rw [List.length_map]; omega) fun H5 h5 k5 => ?_
        walk_at "rd"
        refine ⟨xs ++ [a], _, _, rfl, hSt4.grow nD k5, (f3.trans f4).grow hD k5, by rw [h5, List.map_append]; rfl, ?_, ?_, by rw [List.length_append]; show xs.length + 1 ≤ i + 1; omega⟩
        · exact List.nodup_append.mpr ⟨hnd, List.nodup_cons.mpr ⟨List.not_mem_nil, List.nodup_nil⟩, fun x hx y hy e => hin (by rw [List.mem_singleton.mp hy] at e; rw [← e]; exact hx)⟩
        · intro x hx
          rcases List.mem_append.mp hx with hx | hx
          · exact hsub x hx
          · rw [List.mem_singleton.mp hx]; exact ha
      · exact ⟨xs, _, _, rfl, hSt4, f3.trans f4, h4, hnd, hsub, by omega⟩
    · rintro σ' H3 ⟨xs, x4, x5, rfl, hSt3, f3, h3, hnd, hsub, hlen⟩
      walk_at "rd"
      refine w_tupOf (SqL.of h3) fun p H4 hp s4 h4 => ?_
      have np := hSt3.new hp
      exact kQ p xs H4 hnd hsub h4 (f3.free np.1 hp) (by omega) (hSt3.mono s4) (f3.to s4)
/-- where a name is found -/
inductive Pl where
  | g
  | s
  | l (up k : Nat)
def plV (a : List Nat) : Pl → List V
  | .g => [T (cds "global"), T a]
  | .s => [T (cds "slot"), T a]
  | .l up k => [T (cds "local"), .int (up : Int), .int (k : Int)]
def plT (a : List Nat) : Pl → Tr
  | .g => .t [.s (cds "global"), .s a]
  | .s => .t [.s (cds "slot"), .s a]
  | .l up k => .t [.s (cds "local"), .i (up : Int), .i (k : Int)]
theorem pl_at {K : PySem.W.Frag} {H : Hp} {p : Addr} {a : List Nat} {x : Pl} (h : SqT K H p (plV a x)) : TrAt K H (.ref p) (plT a x) := by
  cases x with
  | g => exact .t h (.cons .s (.cons .s .nil))
  | s => exact .t h (.cons .s (.cons .s .nil))
  | l up k => exact .t h (.cons .s (.cons .i (.cons .i .nil)))
theorem flat_d {l : List Tr} (h : l.length < 1000000) (f : ∀ t ∈ l, TrD 1 t) : TrD 2 (.t l) := ⟨h, f⟩
theorem pl_d {a : List Nat} {x : Pl} : TrD 2 (plT a x) := by
  cases x with
  | g => exact flat_d (by show 2 < 1000000; decide) fun t ht => by (rcases List.mem_cons.mp ht with h | ht); (rw [h]; exact True.intro); (rw [List.mem_singleton.mp ht]; exact True.intro)
  | s => exact flat_d (by show 2 < 1000000; decide) fun t ht => by (rcases List.mem_cons.mp ht with h | ht); (rw [h]; exact True.intro); (rw [List.mem_singleton.mp ht]; exact True.intro)
  | l up k => exact flat_d (by show 3 < 1000000; decide) fun t ht => by (rcases List.mem_cons.mp ht with h | ht); (rw [h]; exact True.intro); (rcases List.mem_cons.mp ht with h | ht); (rw [h]; exact True.intro); (rw [List.mem_singleton.mp ht]; exact True.intro)
/-- the innermost scope, from number up on -/
def plc (a : List Nat) (d : Pl) : Nat → List (List (List Nat)) → Pl
  | _, [] => d
  | up, s :: ss => if a ∈ s then .l up (s.idxOf a) else plc a d (up + 1) ss
theorem plc_cons {a : List Nat} {d : Pl} {up : Nat} {s : List (List Nat)} {ss : List (List (List Nat))} : plc a d up (s :: ss) = if a ∈ s then .l up (s.idxOf a) else plc a d (up + 1) ss := rfl
def plD (a : List Nat) (sl : List (List Nat)) : Pl := if a ∈ sl then .s else .g
/-- tuples of texts at these places -/
inductive ScAt (H : Hp) : List V → List (List (List Nat)) → Prop
  | nil : ScAt H [] []
  | cons {p : Addr} {s : List (List Nat)} {vs : List V} {ss : List (List (List Nat))} : FT H p (s.map T) → ScAt H vs ss → ScAt H (.ref p :: vs) (s :: ss)
theorem ScAt.length {H : Hp} : ∀ {vs : List V} {ss : List (List (List Nat))}, ScAt H vs ss → vs.length = ss.length
  | _, _, .nil => rfl
  | _, _, .cons _ r => by rw [List.length_cons, List.length_cons, ScAt.length r]
theorem ScAt.imp {H H' : Hp} (f : ∀ p xs, FT H p xs → FT H' p xs) : ∀ {vs : List V} {ss : List (List (List Nat))}, ScAt H vs ss → ScAt H' vs ss
  | _, _, .nil => .nil
  | _, _, .cons h r => .cons (f _ _ h) (ScAt.imp f r)
theorem ScAt.get {H : Hp} : ∀ {vs : List V} {ss : List (List (List Nat))} {i : Nat} {v : V}, ScAt H vs ss → vs[i]? = some v → ∃ p s, v = .ref p ∧ ss[i]? = some s ∧ FT H p (s.map T)
  | _, _, _, _, .nil, h => by simp at h
  | _, _, 0, _, .cons h _, e => by
    rw [List.getElem?_cons_zero] at e
    cases e
    exact ⟨_, _, rfl, rfl, h⟩
  | _, _, i + 1, _, .cons _ r, e => by
    obtain ⟨p, s, h1, h2, h3⟩ := ScAt.get r (i := i) (by simpa using e)
    exact ⟨p, s, h1, by simpa using h2, h3⟩
theorem ScAt.snoc {H : Hp} {p : Addr} {s : List (List Nat)} (h : FT H p (s.map T)) : ∀ {vs : List V} {ss : List (List (List Nat))}, ScAt H vs ss → ScAt H (vs ++ [.ref p]) (ss ++ [s])
  | _, _, .nil => .cons h .nil
  | _, _, .cons a r => .cons a (ScAt.snoc h r)

abbrev s_place_of : Stmt := topS 1
abbrev N_place_of : List Str := ["name", "scopes", "slots", "up", "names"]
theorem sc_place_of : FnScope N_place_of ["name", "scopes", "slots"] (defScope s_place_of) := ⟨rfl, rfl, rfl, by decide +kernel, rfl, by decide +kernel, by decide +kernel⟩
def spPlace (K : PySem.W.Frag) : Sp := fun vs H Q _ => ∃ (D t : Addr) (a : List Nat) (ps : List V) (ss : List (List (List Nat))) (sl : List (List Nat)), vs = [T a, .ref D, .ref t] ∧ SqL K H D ps ∧ ScAt H ps ss ∧ SqT K H t (sl.map T) ∧ ps.length ≤ 1000 ∧
  ∀ p H', Same H H' → SqT K H' p (plV a (plc a (plD a sl) 0 ss)) → Q (.ref p) H'
theorem ok_place_of {f : Addr} {fd : FuncData} (F : Fun K "place_of" "place_of" s_place_of f fd) (Y : Bn mg) : FnOk P w K mg base CX0 1 f fd ["name", "scopes", "slots"] (spPlace K) := by
  refine F.ok sc_place_of (fun vs H Q E h => ?_) (fun cdv A outer s H vs Q E hr h => ?_)
  · obtain ⟨D, t, a, ps, ss, sl, rfl, _⟩ := h
    rfl
  · obtain ⟨D, t, a, ps, ss, sl, rfl, hD, hS, ht, hlen, kQ⟩ := h
    have nd := sc_place_of.nd
    refine ⟨_, (pss_cons (ps_for PassesOwn.never rfl (pi_enum (by rfl) Y.n_enumerate (pa_cons (pv 1) pa_nil)) (pg_tup (by rfl) (pgs_cons (pg_name (i := 3) nd rfl (Or.inl rfl)) (pgs_cons (pg_name (i := 4) nd rfl (Or.inl rfl)) pgs_nil))) (pss_one (ps_if (pt_cmpR op_in_seq (pv 0) (pv 4) (by rfl)) (pss_one (ps_ret (pe_tup (pa_cons pe_str (pa_cons (pv 3) (pa_cons (pe_bmT PySem.F.plainAttrs_tuple PySem.F.slot_tuple_index PySem.F.type_tuple_index mt_tupIx (pv 4) (pa_cons (pv 0) pa_nil)) pa_nil)))))) pss_nil)))
      (pss_cons (ps_if (pt_cmpR op_in_seq (pv 0) (pv 2) (by rfl)) (pss_one (ps_ret (pe_tup (pa_cons pe_str (pa_cons (pv 0) pa_nil))))) pss_nil)
      (pss_one (ps_ret (pe_tup (pa_cons pe_str (pa_cons (pv 0) pa_nil))))))), ?_⟩
    rw [show L2.start N_place_of [T a, .ref D, .ref t] = [some (T a), some (.ref D), some (.ref t), none, none] from rfl]
    walk_at "rd"
    refine for_El (xs := ps) (fun i σ' H' => ∃ x y : Option V, σ' = [some (T a), some (.ref D), some (.ref t), x, y] ∧ Same H H' ∧ plc a (plD a sl) 0 ss = plc a (plD a sl) i (ss.drop i)) ⟨none, none, rfl, fun _ _ h => h, rfl⟩ (fun i σ' H' _ h => h.elim fun x h => h.elim fun y h => Same.seq h.2.1 hD) ?_ ?_
    · rintro i v σ' H1 p H2 hv ⟨x, y, rfl, s1, e1⟩ hp s2 h2
      obtain ⟨q, sc, rfl, hsc, hq⟩ := hS.get hv
      have s12 := s1.trans s2
      refine ⟨p, _, rfl, .inl (.inl h2), rfl, ?_⟩
      refine ⟨_, _, rfl, ?_⟩
      walk_at "rd"
      refine ⟨_, _, rfl, ?_⟩
      walk_at "rd"
      refine ⟨rfl, ?_⟩
      walk_at "rd"
      have hq2 := hq.same s12
      refine w_inT hq2.sq ?_
      refine ⟨_, rfl, ?_⟩
      have ed : ss.drop i = sc :: ss.drop (i + 1) := by
        obtain ⟨hlt, e⟩ := List.getElem?_eq_some_iff.mp hsc
        rw [List.drop_eq_getElem_cons hlt, e]
      rw [ed, plc_cons] at e1
      refine w_if (fun hin => ?_) (fun hin => ?_)
      · rw [if_pos hin] at e1
        walk_at "rd"
        refine ⟨⟨q, _, rfl, hq2⟩, ?_⟩
        walk_at "rd"
        refine w_tupIx hq2.sq hin ?_
        walk_at "rd"
        refine w_newT (by show 3 ≤ 1000000; decide) fun z H3 hz s3 h3 => ?_
        refine kQ z H3 (s12.trans s3) ?_
        rw [e1]
        exact .inl (.inl h3)
      · rw [if_neg hin] at e1
        exact ⟨_, _, rfl, s12, e1⟩
    · rintro σ' H1 ⟨x, y, rfl, s1, e1⟩
      rw [hS.length, List.drop_length] at e1
      walk_at "rd"
      have ht1 := Same.sqT s1 ht
      refine w_inT ht1 ?_
      refine ⟨_, rfl, ?_⟩
      have e2 : plc a (plD a sl) 0 ss = plD a sl := e1
      unfold plD at e2
      refine w_if (fun hin => ?_) (fun hin => ?_)
      · rw [if_pos hin] at e2
        walk_at "rd"
        refine w_newT (by show 2 ≤ 1000000; decide) fun z H3 hz s3 h3 => ?_
        refine kQ z H3 (s1.trans s3) ?_
        show SqT K H3 z (plV a (plc a (plD a sl) 0 ss))
        unfold plD
        rw [if_pos hin, e2]
        exact .inl (.inl h3)
      · rw [if_neg hin] at e2
        walk_at "rd"
        refine w_newT (by show 2 ≤ 1000000; decide) fun z H3 hz s3 h3 => ?_
        refine kQ z H3 (s1.trans s3) ?_
        show SqT K H3 z (plV a (plc a (plD a sl) 0 ss))
        unfold plD
        rw [if_neg hin, e2]
        exact .inl (.inl h3)
end
end
section
open PySem PySem.Spec PyProof.Rows L2
open C8 (Cal cal0 pe_c pe_gc pss_cut tCut)
local macro_rules | `(tactic| walk_at "r1") => `(tactic| first
  | with_reducible refine w_seq ?_
  | with_reducible refine w_next ?_
  | with_reducible refine w_var (by with_unfolding_all exact rfl) ?_
  | with_reducible refine w_asg ?_
  | with_reducible refine w_gname ?_
  | with_reducible refine w_ifS ?_
  | with_reducible refine w_test ?_
  | with_reducible refine w_tB ?_
  | with_reducible refine w_op ?_
  | with_reducible refine w_un ?_
  | with_reducible refine w_var (by with_unfolding_all exact rfl) ?_
  | with_reducible refine w_cT ?_
  | with_reducible refine w_str ?_
  | with_reducible refine w_c ?_
  | with_reducible refine w_i0 ?_
  | with_reducible refine w_intI ?_
  | with_reducible refine w_intB ?_
  | with_reducible refine w_cb ?_
  | with_reducible refine w_cons ?_
  | with_reducible refine w_nil ?_
  | with_reducible refine w_call ?_
  | with_reducible refine w_ret ?_
  | with_reducible refine w_retN ?_
  | with_reducible refine w_drop ?_
  | with_reducible refine w_gsub ?_
  | with_reducible refine w_sl ?_
  | with_reducible refine w_part ?_
  | with_reducible refine w_nopart ?_
  | with_reducible refine w_lst ?_
  | with_reducible refine w_tup ?_
  | with_reducible refine w_bm ?_
  | with_reducible refine w_bm0 ?_
  | with_reducible refine w_bmT ?_
  | with_reducible refine w_and ?_
  | with_reducible refine w_or ?_
  | with_reducible refine w_not ?_
  | with_reducible refine w_andV ?_
  | with_reducible refine w_orV ?_
  | with_reducible refine w_notV ?_
  | with_reducible refine w_inC ?_
  | with_reducible refine w_ninC ?_
  | with_reducible refine w_ord ?_
  | with_reducible refine w_max ?_
  | with_reducible refine w_ifE ?_
  | with_reducible refine w_forR ?_
  | with_reducible refine w_forL ?_
  | with_reducible refine w_forT ?_
  | with_reducible refine w_forS ?_
  | with_reducible refine w_forEl ?_
  | with_reducible refine w_lcR ?_
  | with_reducible refine w_lcL ?_
  | with_reducible refine w_yes ?_
  | with_reducible refine w_isN ?_
  | with_reducible refine w_notN ?_
  | with_reducible refine isi_s_tuple ?_
  | with_reducible refine isi_s_bool ?_
  | with_reducible refine isi_s_int ?_
  | with_reducible refine isi_s_str ?_
  | with_reducible refine isi_i_tuple ?_
  | with_reducible refine isi_i_bool ?_
  | with_reducible refine isi_i_int ?_
  | with_reducible refine isi_i_str ?_
  | with_reducible refine isi_b_tuple ?_
  | with_reducible refine isi_b_bool ?_
  | with_reducible refine isi_b_int ?_
  | with_reducible refine isi_b_str ?_
  | with_reducible refine isi_n_tuple ?_
  | with_reducible refine isi_n_bool ?_
  | with_reducible refine isi_n_int ?_
  | with_reducible refine isi_n_str ?_
  | ((with_reducible refine isi_t_tuple ?hSq ?_); (case hSq => exact ⟨_, by assumption⟩))
  | ((with_reducible refine isi_t_bool ?hSq ?_); (case hSq => exact ⟨_, by assumption⟩))
  | ((with_reducible refine isi_t_int ?hSq ?_); (case hSq => exact ⟨_, by assumption⟩))
  | ((with_reducible refine isi_t_str ?hSq ?_); (case hSq => exact ⟨_, by assumption⟩))
  | with_reducible refine ifN_s ?_
  | with_reducible refine ifN_i ?_
  | with_reducible refine ifN_b ?_
  | with_reducible refine ifN_r ?_
  | with_reducible refine ifN_n ?_
  | with_reducible refine ifM_s ?_
  | with_reducible refine ifM_i ?_
  | with_reducible refine ifM_b ?_
  | with_reducible refine ifM_r ?_
  | with_reducible refine ifM_n ?_
  | ((with_reducible show rLenL _ [V.ref _] _ _); first | refine w_lenL (SqL.of (by assumption)) ?_ | refine w_lenL (by assumption) ?_ | refine w_lenT (by assumption) ?_)
  | with_reducible refine w_eq (by with_unfolding_all exact rfl) ?_
  | with_reducible refine w_ne (by with_unfolding_all exact rfl) ?_
  | with_reducible refine L2.iteF ?_
  | with_reducible refine L2.iteT ?_
  | with_reducible refine w_nt ?_
  | with_reducible refine w_nf ?_
  | with_reducible refine ex_int ?_
  | with_reducible refine ex_bl ?_)
local macro_rules | `(tactic| walk_at "rd") => `(tactic| repeat walk_at "r1")

theorem take_hit {a : List Nat} {s : List (List Nat)} {k : Nat} (hn : s.Nodup) (h : s[k]? = some a) : a ∈ s.take (k + 1) ∧ s.idxOf a = k := by
  obtain ⟨hlt, e⟩ := List.getElem?_eq_some_iff.mp h
  refine ⟨?_, by rw [← e]; exact hn.idxOf_getElem k hlt⟩
  rw [List.take_succ_eq_append_getElem hlt, e]
  exact List.mem_append_right _ (List.mem_singleton.mpr rfl)
theorem take_miss {a b : List Nat} {s : List (List Nat)} {k : Nat} (h : s[k]? = some b) (n : b ≠ a) : a ∈ s.take (k + 1) ↔ a ∈ s.take k := by
  obtain ⟨hlt, e⟩ := List.getElem?_eq_some_iff.mp h
  rw [List.take_succ_eq_append_getElem hlt, e, List.mem_append, List.mem_singleton]
  exact ⟨fun z => z.elim id fun z => absurd z.symm n, Or.inl⟩
section
variable {P : Program} {w : World} {K : PySem.W.Frag} {mg : Str → Option Value} {base : Heap}
abbrev s_law_due : Stmt := topS 10
abbrev N_law_due : List Str := ["name", "scopes", "slots", "place", "back", "up", "k"]
theorem sc_law_due : FnScope N_law_due ["name", "scopes", "slots"] (defScope s_law_due) := ⟨rfl, rfl, rfl, by decide +kernel, rfl, by decide +kernel, by decide +kernel⟩
def spDue (K : PySem.W.Frag) : Sp := fun vs H Q _ => ∃ (D t : Addr) (a : List Nat) (ps : List V) (ss : List (List (List Nat))) (sl : List (List Nat)), vs = [T a, .ref D, .ref t] ∧ SqL K H D ps ∧ ScAt H ps ss ∧ SqT K H t (sl.map T) ∧ ps.length ≤ 1000 ∧ (∀ s ∈ ss, s.Nodup ∧ s.length ≤ 1000) ∧
  ∀ p H', Same H H' → SqT K H' p (plV a (plc a (plD a sl) 0 ss)) → Q (.ref p) H'
theorem ok_law_due {f : Addr} {fd : FuncData} (F : Fun K "_law_due" "_law_due" s_law_due f fd) (Y : Bn mg) : FnOk P w K mg base CX0 1 f fd ["name", "scopes", "slots"] (spDue K) := by
  refine F.ok sc_law_due (fun vs H Q E h => ?_) (fun cdv A outer s H vs Q E hr h => ?_)
  · obtain ⟨D, t, a, ps, ss, sl, rfl, _⟩ := h
    rfl
  · obtain ⟨D, t, a, ps, ss, sl, rfl, hD, hS, ht, hlen, hall, kQ⟩ := h
    have nd := sc_law_due.nd
    have hps := hS.length
    refine ⟨_, (pss_cons (ps_set (i := 3) nd rfl (Or.inl rfl) (pe_tup (pa_cons pe_str (pa_cons (pv 0) pa_nil))))
      (pss_cut (ps_if (pt_cmpR op_in_seq (pv 0) (pv 2) (by rfl)) (pss_one (ps_set (i := 3) nd rfl (Or.inl rfl) (pe_tup (pa_cons pe_str (pa_cons (pv 0) pa_nil))))) pss_nil)
      (pss_cons (ps_for PassesOwn.never rfl (pi_range1 rfl Y.n_range (pa_cons (pe_callB call_lenL (by rfl) Y.n_len (by decide +kernel) (pa_cons (pv 1) pa_nil)) pa_nil)) (pg_name (i := 4) nd rfl (Or.inl rfl)) (pss_cons (ps_set (i := 5) nd rfl (Or.inl rfl) (pe_op op_sub (pe_op op_sub (pe_callB call_lenL (by rfl) Y.n_len (by decide +kernel) (pa_cons (pv 1) pa_nil)) pe_int) (pv 4)))
      (pss_one (ps_for PassesOwn.never rfl (pi_range1 rfl Y.n_range (pa_cons (pe_callB call_lenL (by rfl) Y.n_len (by decide +kernel) (pa_cons (pe_ix ix_list (pv 1) (pv 5) (fun _ _ => rfl)) pa_nil)) pa_nil)) (pg_name (i := 6) nd rfl (Or.inl rfl)) (pss_one (ps_if (pt_cmpR op_eq (pe_ix ix_tup (pe_ix ix_list (pv 1) (pv 5) (fun _ _ => rfl)) (pv 6) (fun _ _ => rfl)) (pv 0) (nomark _)) (pss_one (ps_set (i := 3) nd rfl (Or.inl rfl) (pe_tup (pa_cons pe_str (pa_cons (pv 5) (pa_cons (pv 6) pa_nil)))))) pss_nil))))))
      (pss_one (ps_ret (pv 3)))))), ?_⟩
    rw [show L2.start N_law_due [T a, .ref D, .ref t] = [some (T a), some (.ref D), some (.ref t), none, none, none, none] from rfl]
    walk_at "rd"
    refine w_newT (by show 2 ≤ 1000000; decide) fun p0 H1 hp0 s1 h1 => ?_
    walk_at "rd"
    refine ⟨fun σ' H' => ∃ p, σ' = [some (T a), some (.ref D), some (.ref t), some (.ref p), none, none, none] ∧ Same H H' ∧ SqT K H' p (plV a (plD a sl)), ?_, ?_⟩
    · walk_at "rd"
      refine w_inT (Same.sqT s1 ht) ?_
      refine ⟨_, rfl, ?_⟩
      refine w_if (fun hin => ?_) (fun hin => ?_)
      · walk_at "rd"
        refine w_newT (by show 2 ≤ 1000000; decide) fun p1 H2 hp1 s2 h2 => ?_
        walk_at "rd"
        refine ⟨p1, rfl, s1.trans s2, ?_⟩
        unfold plD
        rw [if_pos hin]
        exact .inl (.inl h2)
      · refine ⟨p0, rfl, s1, ?_⟩
        unfold plD
        rw [if_neg hin]
        exact .inl (.inl h1)
    · rintro σ' H2 ⟨p2, rfl, s2, h2⟩
      walk_at "rd"
      refine w_lenL (Same.seq s2 hD) ?_
      refine for_R (fun i σ' H' => ∃ (p : Addr) (x4 x5 x6 : Option V), σ' = [some (T a), some (.ref D), some (.ref t), some (.ref p), x4, x5, x6] ∧ Same H H' ∧ i ≤ ss.length ∧ SqT K H' p (plV a (plc a (plD a sl) (ss.length - i) (ss.drop (ss.length - i))))) (by omega) (by omega)
        ⟨p2, none, none, none, rfl, s2, Nat.zero_le _, by rw [Nat.sub_zero, List.drop_length]; exact h2⟩ ?_ ?_
      · rintro i σ' H3 hi ⟨p3, x4, x5, x6, rfl, s3, hi2, h3⟩
        walk_at "rd"
        refine w_lenL (Same.seq s3 hD) ?_
        walk_at "rd"
        obtain ⟨u, hu⟩ : ∃ u : Nat, ss.length = i + 1 + u := ⟨ss.length - (i + 1), by omega⟩
        have eu : (ps.length : Int) - 1 - (0 + (i : Int)) = (u : Int) := by omega
        rw [eu]
        have e1 : ss.length - i = u + 1 := by omega
        rw [e1] at h3
        have hu2 : u < ps.length := by omega
        obtain ⟨q, sc, hv, hsc, hq⟩ := hS.get (List.getElem?_eq_getElem hu2)
        have hv2 : ps[u]? = some (.ref q) := by rw [List.getElem?_eq_getElem hu2, hv]
        obtain ⟨hnd, hsl⟩ := hall sc (List.mem_of_getElem? hsc)
        refine w_ixL (Same.seq s3 hD) (atI_nat hv2) ?_
        walk_at "rd"
        have hq3 := hq.same s3
        refine w_lenT hq3.sq ?_
        rw [List.length_map]
        refine for_R (fun k σ' H' => ∃ (p : Addr) (x4 x6 : Option V), σ' = [some (T a), some (.ref D), some (.ref t), some (.ref p), x4, some (.int (u : Int)), x6] ∧ Same H H' ∧ SqT K H' p (plV a (if a ∈ sc.take k then .l u (sc.idxOf a) else plc a (plD a sl) (u + 1) (ss.drop (u + 1))))) (by omega) (by omega)
          ⟨p3, _, _, rfl, s3, by rw [if_neg (by simp)]; exact h3⟩ ?_ ?_
        · rintro k σ' H4 hk ⟨p4, x4, x6, rfl, s4, h4⟩
          walk_at "rd"
          refine w_ixL (Same.seq s4 hD) (atI_nat hv2) ?_
          walk_at "rd"
          have hk2 : k < sc.length := by omega
          have gk : sc[k]? = some sc[k] := List.getElem?_eq_getElem hk2
          have k0 : (0 : Int) + (k : Int) = (k : Int) := Int.zero_add _
          rw [k0]
          refine w_ixT (hq.same s4).sq (atI_nat (by rw [List.getElem?_map, gk]; rfl)) ?_
          walk_at "rd"
          refine w_ifT (fun he => ?_) (fun he => ?_)
          · walk_at "rd"
            refine w_newT (by show 3 ≤ 1000000; decide) fun p5 H5 hp5 s5 h5 => ?_
            walk_at "rd"
            rw [he] at gk
            obtain ⟨z1, z2⟩ := take_hit hnd gk
            refine ⟨p5, _, _, rfl, s4.trans s5, ?_⟩
            rw [if_pos z1, z2]
            exact .inl (.inl h5)
          · refine ⟨p4, _, _, rfl, s4, ?_⟩
            have z := take_miss (a := a) gk he
            by_cases hh : a ∈ sc.take k
            · rw [if_pos (z.mpr hh)]
              rw [if_pos hh] at h4
              exact h4
            · rw [if_neg (fun y => hh (z.mp y))]
              rw [if_neg hh] at h4
              exact h4
        · rintro σ' H4 ⟨p4, x4, x6, rfl, s4, h4⟩
          rw [Int.toNat_natCast, List.take_length, ← plc_cons] at h4
          refine ⟨p4, _, _, _, rfl, s4, by omega, ?_⟩
          have e2 : ss.length - (i + 1) = u := by omega
          rw [e2]
          have ed : ss.drop u = sc :: ss.drop (u + 1) := by
            obtain ⟨hlt, e⟩ := List.getElem?_eq_some_iff.mp hsc
            rw [List.drop_eq_getElem_cons hlt, e]
          rw [ed]
          exact h4
      · rintro σ' H3 ⟨p3, x4, x5, x6, rfl, s3, hi2, h3⟩
        rw [Int.toNat_natCast, hps, Nat.sub_self, List.drop_zero] at h3
        walk_at "rd"
        exact kQ p3 H3 s3 h3
end
end
section
open PySem PySem.Spec PyProof.Rows L2
open C8 (Cal cal0 pe_c pe_gc pss_cut tCut)
local macro_rules | `(tactic| walk_at "r1") => `(tactic| first
  | with_reducible refine w_seq ?_
  | with_reducible refine w_next ?_
  | with_reducible refine w_var (by with_unfolding_all exact rfl) ?_
  | with_reducible refine w_asg ?_
  | with_reducible refine w_gname ?_
  | with_reducible refine w_ifS ?_
  | with_reducible refine w_test ?_
  | with_reducible refine w_tB ?_
  | with_reducible refine w_op ?_
  | with_reducible refine w_un ?_
  | with_reducible refine w_var (by with_unfolding_all exact rfl) ?_
  | with_reducible refine w_cT ?_
  | with_reducible refine w_str ?_
  | with_reducible refine w_c ?_
  | with_reducible refine w_i0 ?_
  | with_reducible refine w_intI ?_
  | with_reducible refine w_intB ?_
  | with_reducible refine w_cb ?_
  | with_reducible refine w_cons ?_
  | with_reducible refine w_nil ?_
  | with_reducible refine w_call ?_
  | with_reducible refine w_ret ?_
  | with_reducible refine w_retN ?_
  | with_reducible refine w_drop ?_
  | with_reducible refine w_gsub ?_
  | with_reducible refine w_sl ?_
  | with_reducible refine w_part ?_
  | with_reducible refine w_nopart ?_
  | with_reducible refine w_lst ?_
  | with_reducible refine w_tup ?_
  | with_reducible refine w_bm ?_
  | with_reducible refine w_bm0 ?_
  | with_reducible refine w_bmT ?_
  | with_reducible refine w_and ?_
  | with_reducible refine w_or ?_
  | with_reducible refine w_not ?_
  | with_reducible refine w_andV ?_
  | with_reducible refine w_orV ?_
  | with_reducible refine w_notV ?_
  | with_reducible refine w_inC ?_
  | with_reducible refine w_ninC ?_
  | with_reducible refine w_ord ?_
  | with_reducible refine w_max ?_
  | with_reducible refine w_ifE ?_
  | with_reducible refine w_forR ?_
  | with_reducible refine w_forL ?_
  | with_reducible refine w_forT ?_
  | with_reducible refine w_forS ?_
  | with_reducible refine w_forEl ?_
  | with_reducible refine w_lcR ?_
  | with_reducible refine w_lcL ?_
  | with_reducible refine w_yes ?_
  | with_reducible refine w_isN ?_
  | with_reducible refine w_notN ?_
  | with_reducible refine isi_s_tuple ?_
  | with_reducible refine isi_s_bool ?_
  | with_reducible refine isi_s_int ?_
  | with_reducible refine isi_s_str ?_
  | with_reducible refine isi_i_tuple ?_
  | with_reducible refine isi_i_bool ?_
  | with_reducible refine isi_i_int ?_
  | with_reducible refine isi_i_str ?_
  | with_reducible refine isi_b_tuple ?_
  | with_reducible refine isi_b_bool ?_
  | with_reducible refine isi_b_int ?_
  | with_reducible refine isi_b_str ?_
  | with_reducible refine isi_n_tuple ?_
  | with_reducible refine isi_n_bool ?_
  | with_reducible refine isi_n_int ?_
  | with_reducible refine isi_n_str ?_
  | ((with_reducible refine isi_t_tuple ?hSq ?_); (case hSq => exact ⟨_, by assumption⟩))
  | ((with_reducible refine isi_t_bool ?hSq ?_); (case hSq => exact ⟨_, by assumption⟩))
  | ((with_reducible refine isi_t_int ?hSq ?_); (case hSq => exact ⟨_, by assumption⟩))
  | ((with_reducible refine isi_t_str ?hSq ?_); (case hSq => exact ⟨_, by assumption⟩))
  | with_reducible refine ifN_s ?_
  | with_reducible refine ifN_i ?_
  | with_reducible refine ifN_b ?_
  | with_reducible refine ifN_r ?_
  | with_reducible refine ifN_n ?_
  | with_reducible refine ifM_s ?_
  | with_reducible refine ifM_i ?_
  | with_reducible refine ifM_b ?_
  | with_reducible refine ifM_r ?_
  | with_reducible refine ifM_n ?_
  | ((with_reducible show rLenL _ [V.ref _] _ _); first | refine w_lenL (SqL.of (by assumption)) ?_ | refine w_lenL (by assumption) ?_ | refine w_lenT (by assumption) ?_)
  | with_reducible refine w_eq (by with_unfolding_all exact rfl) ?_
  | with_reducible refine w_ne (by with_unfolding_all exact rfl) ?_
  | with_reducible refine L2.iteF ?_
  | with_reducible refine L2.iteT ?_
  | with_reducible refine w_nt ?_
  | with_reducible refine w_nf ?_
  | with_reducible refine ex_int ?_
  | with_reducible refine ex_bl ?_)
local macro_rules | `(tactic| walk_at "rd") => `(tactic| repeat walk_at "r1")

theorem ascii_low : ∀ c ∈ aLow, c < 128 := by decide +kernel
theorem ascii_aJ : ∀ c ∈ aJ, c < 128 := by decide +kernel
theorem RunOf.ascii {a : List Nat} (h : RunOf aLow a) : ∀ c ∈ a, c < 128 := by
  obtain ⟨c, r, rfl, h1, h2, _⟩ := h
  intro d hd
  rcases List.mem_cons.mp hd with rfl | hd
  · exact ascii_low _ h1
  · exact ascii_aJ _ (h2 _ hd)
theorem strOk {a : List Nat} (h : ∀ c ∈ a, c < 128) : (PyData.str ⟨a.toArray⟩).canLay0 = true := by
  show (a.toArray.all fun c => decide (c < 0x110000)) = true
  rw [List.all_toArray, List.all_eq_true]
  intro c hc
  have := h c hc
  exact decide_eq_true (by omega)
def txD (a : List Nat) : PyData := .str ⟨a.toArray⟩
def scD (s : List (List Nat)) : PyData := .tuple (s.map txD)
theorem txs_lay : ∀ {s : List (List Nat)}, (∀ a ∈ s, ∀ c ∈ a, c < 128) → PyData.canLayAll0 (s.map txD) = true ∧ PyData.depthAll (s.map txD) ≤ 1
  | [], _ => ⟨rfl, Nat.zero_le _⟩
  | a :: s, h => by
    obtain ⟨h3, h4⟩ := txs_lay (s := s) fun t ht => h t (List.mem_cons_of_mem _ ht)
    refine ⟨?_, ?_⟩
    · show ((txD a).canLay0 && PyData.canLayAll0 (s.map txD)) = true
      rw [show (txD a).canLay0 = true from strOk (h a List.mem_cons_self), h3]; rfl
    · show max (txD a).depth (PyData.depthAll (s.map txD)) ≤ 1
      have : (txD a).depth = 0 := rfl
      omega
theorem scs_lay : ∀ {ss : List (List (List Nat))}, (∀ s ∈ ss, ∀ a ∈ s, ∀ c ∈ a, c < 128) → PyData.canLayAll0 (ss.map scD) = true ∧ PyData.depthAll (ss.map scD) ≤ 2
  | [], _ => ⟨rfl, Nat.zero_le _⟩
  | s :: ss, h => by
    obtain ⟨h1, h2⟩ := txs_lay (h s List.mem_cons_self)
    obtain ⟨h3, h4⟩ := scs_lay (ss := ss) fun t ht => h t (List.mem_cons_of_mem _ ht)
    refine ⟨?_, ?_⟩
    · show (PyData.canLayAll0 (s.map txD) && PyData.canLayAll0 (ss.map scD)) = true
      rw [h1, h3]; rfl
    · show max (PyData.depthAll (s.map txD) + 1) (PyData.depthAll (ss.map scD)) ≤ 2
      omega
theorem scs_shaped {ss : List (List (List Nat))} (h : ∀ s ∈ ss, ∀ a ∈ s, ∀ c ∈ a, c < 128) : SeqAt.shaped (.list (ss.map scD)) = true := by
  obtain ⟨h1, h2⟩ := scs_lay h
  unfold SeqAt.shaped
  rw [Bool.and_eq_true]
  refine ⟨h1, decide_eq_true ?_⟩
  show PyData.depthAll (ss.map scD) + 1 ≤ 64
  omega
theorem dp_txs {K : PySem.W.Frag} {H : Hp} : ∀ s : List (List Nat), DpAll K H (s.map T) (s.map txD)
  | [] => .nil
  | _ :: s => .cons (.str _) (dp_txs s)
theorem dp_scs {K : PySem.W.Frag} {H : Hp} : ∀ {ps : List V} {ss : List (List (List Nat))}, ScAt H ps ss → DpAll K H ps (ss.map scD)
  | _, _, .nil => .nil
  | _, _, .cons h r => .cons (.tup h.sq (dp_txs _)) (dp_scs r)
theorem ScAt.fr {H H1 : Hp} {S L : Addr} {ps : List V} {ss : List (List (List Nat))} (h : ScAt H ps ss) (hSt : StAt H S L) (f : Fr S H H1) : ScAt H1 ps ss := h.imp fun p xs q => f.ft (hSt.nft q) q
theorem ScAt.but {H H1 : Hp} {D : Addr} {ys ps : List V} {ss : List (List (List Nat))} (h : ScAt H ps ss) (hD : H D = some (.lst ys)) (k : ∀ b o, b ≠ D → H b = some o → H1 b = some o) : ScAt H1 ps ss := h.imp fun p xs q => q.but hD k
theorem ScAt.same {H H1 : Hp} {ps : List V} {ss : List (List (List Nat))} (h : ScAt H ps ss) (s : Same H H1) : ScAt H1 ps ss := h.imp fun p xs q => q.same s
section
variable {P : Program} {w : World} {K : PySem.W.Frag} {mg : Str → Option Value} {base : Heap}
abbrev s_law : Stmt := topS 11
abbrev N_law : List Str := ["script", "state", "k", "names", "scopes", "slots", "name", "handed"]
theorem sc_law : FnScope N_law ["script"] (defScope s_law) := ⟨rfl, rfl, rfl, by decide +kernel, rfl, by decide +kernel, by decide +kernel⟩
def spLaw (K : PySem.W.Frag) : Sp := fun vs H Q _ => ∃ (a : Addr) (ns : List Int), vs = [.ref a] ∧ SqL K H a (ns.map V.int) ∧ ns.length ≤ 63 ∧ ∀ H', Q (.bl true) H'
theorem ok_law {f : Addr} {fd : FuncData} (F : Fun K "law" "law" s_law f fd) (Y : Bn mg) (c_law_state : Cal P w K mg base 1 "_law_state" (spState K) []) (c_law_draw : Cal P w K mg base 1 "_law_draw" spDraw [])
    (c_law_name : Cal P w K mg base 3 "_law_name" (spTx IsName) []) (c_law_some : Cal P w K mg base 2 "_law_some" spSome []) (c_law_same : Cal P w K mg base 3 "_law_same" (spSame K 2) []) (cplace_of : Cal P w K mg base 1 "place_of" (spPlace K) []) (c_law_due : Cal P w K mg base 1 "_law_due" (spDue K) []) :
    FnOk P w K mg base CX0 4 f fd ["script"] (spLaw K) := by
  refine F.ok sc_law (fun vs H Q E h => ?_) (fun cdv A outer s H vs Q E hr h => ?_)
  · obtain ⟨a, ns, rfl, _⟩ := h
    rfl
  · obtain ⟨a, ns, rfl, hA, hlen, kQ⟩ := h
    have nd := sc_law.nd
    refine ⟨_, (pss_cons (ps_set (i := 1) nd rfl (Or.inr rfl) (pe_c c_law_state hr (by decide) rfl (pa_cons (pv 0) pa_nil)))
      (pss_cons (ps_set (i := 3) nd rfl (Or.inr rfl) (pe_lc (own := [("k", 2)]) (g := gName 2) (tt := tYes) rfl nd (pi_range1 rfl Y.n_range (pa_cons (pe_op op_add pe_int (pe_c c_law_draw hr (by decide) rfl (pa_cons (pv 1) (pa_cons pe_int pa_nil)))) pa_nil)) (blkOk_by (own := [("k", 2)]) (N := N_law) (sc := defScope s_law) (by decide +kernel)) (fun _ _ _ _ _ => pg_name (i := 2) nd rfl (Or.inl rfl)) (fun _ _ _ _ _ => pts_nil) (fun _ _ _ _ _ => (pe_c c_law_name hr (by decide) rfl (pa_cons (pv 1) pa_nil)))))
      (pss_cons (ps_setLc (i := 4) (own := [("k", 2)]) (g := gName 2) (tt := tYes) rfl nd rfl rfl (sw_true rfl rfl rfl (by decide +kernel)) (pi_range1 rfl Y.n_range (pa_cons (pe_op op_add pe_int (pe_c c_law_draw hr (by decide) rfl (pa_cons (pv 1) (pa_cons pe_int pa_nil)))) pa_nil)) (blkOk_by (own := [("k", 2)]) (N := N_law) (sc := defScope s_law) (by decide +kernel)) (fun _ _ _ _ _ => pg_name (i := 2) nd rfl (Or.inl rfl)) (fun _ _ _ _ _ => pts_nil) (fun _ _ _ _ _ => (pe_c c_law_some hr (by decide) rfl (pa_cons (pv 1) (pa_cons (pv 3) (pa_cons pe_int pa_nil))))))
      (pss_cons (ps_set (i := 5) nd rfl (Or.inl rfl) (pe_c c_law_some hr (by decide) rfl (pa_cons (pv 1) (pa_cons (pv 3) (pa_cons pe_int pa_nil)))))
      (pss_cons (ps_set (i := 6) nd rfl (Or.inl rfl) (pe_ix ix_list (pv 3) (pe_c c_law_draw hr (by decide) rfl (pa_cons (pv 1) (pa_cons (pe_callB call_lenL (by rfl) Y.n_len (by decide +kernel) (pa_cons (pv 3) pa_nil)) pa_nil))) (fun _ _ => rfl)))
      (pss_cons (ps_set (i := 7) nd rfl (Or.inl rfl) (pe_callTy call_listOf (by rfl) Y.n_list (by decide +kernel) (pa_cons (pv 4) pa_nil)))
      (pss_cons (ps_if (pt_not (pt_val (pe_c c_law_same hr (by omega) rfl (pa_cons (pe_c cplace_of hr (by decide) rfl (pa_cons (pv 6) (pa_cons (pv 7) (pa_cons (pv 5) pa_nil)))) (pa_cons (pe_c c_law_due hr (by decide) rfl (pa_cons (pv 6) (pa_cons (pv 4) (pa_cons (pv 5) pa_nil)))) pa_nil))))) (pss_one (ps_ret pe_bl)) pss_nil)
      (pss_one (ps_ret (pe_cmpR (op_eqD hr.units) (pv 7) (pv 4) (nomark _))))))))))), ?_⟩
    rw [show L2.start N_law [.ref a] = [some (.ref a), none, none, none, none, none, none, none] from rfl]
    walk_at "rd"
    refine ⟨a, ns, rfl, hA, fun S L H1 hSt1 s1 hS0 hL0 => ?_⟩
    walk_at "rd"
    refine use_draw hSt1 (by decide) (by decide) fun j H2 j0 j1 hSt2 f2 => ?_
    walk_at "rd"
    refine lc_R (fun D i acc H' => ∃ ns : List (List Nat), acc = ns.map T ∧ ns.length = i ∧ (∀ a ∈ ns, IsName a) ∧ StAt H' S L ∧ D ≠ S ∧ D ≠ L) (by omega) (by omega) (fun D H3 hD s3 h3 => ⟨[], rfl, rfl, (fun _ h => absurd h List.not_mem_nil), hSt2.mono s3, hSt2.new hD⟩) ?_ ?_
    · rintro D i acc H3 hi hal hD3 ⟨ns, rfl, hnl, hok, hSt3, hDS⟩
      walk_at "rd"
      refine ⟨rfl, ?_⟩
      walk_at "rd"
      refine use_tx hSt3 fun x H4 hx hSt4 f4 => ?_
      refine lc_keep hal (by omega) (f4 _ _ hDS.1 hD3) fun H5 h5 k5 => ⟨ns ++ [x], by rw [List.map_append]; rfl, by rw [List.length_append, hnl]; rfl, fun y hy => ?_, hSt4.grow hDS k5, hDS⟩
      rcases List.mem_append.mp hy with hy | hy
      · exact hok y hy
      · rw [List.mem_singleton.mp hy]; exact hx
    · rintro N acc H3 _ hN3 ⟨nm, rfl, hnl, hok, hSt3, hNS⟩
      walk_at "rd"
      refine use_draw hSt3 (by decide) (by decide) fun m H4 m0 m1 hSt4 f4 => ?_
      walk_at "rd"
      have hN4 := f4 _ _ hNS.1 hN3
      refine lc_R (fun D i acc H' => ∃ ss : List (List (List Nat)), ScAt H' acc ss ∧ (∀ s ∈ ss, s.Nodup ∧ s.length ≤ 1000 ∧ ∀ x ∈ s, x ∈ nm) ∧ StAt H' S L ∧ D ≠ S ∧ D ≠ L ∧ N ≠ D ∧ H' N = some (.lst (nm.map T))) (by omega) (by omega)
        (fun D H5 hD s5 h5 => ⟨[], .nil, (fun _ h => absurd h List.not_mem_nil), hSt4.mono s5, (hSt4.new hD).1, (hSt4.new hD).2, (fun e => by rw [← e, hN4] at hD; cases hD), s5 _ _ hN4⟩) ?_ ?_
      · rintro D i acc H5 hi hal hD5 ⟨ss, hsc, hall, hSt5, hDS, hDL, hND, hN5⟩
        walk_at "rd"
        refine ⟨rfl, ?_⟩
        walk_at "rd"
        refine ⟨S, L, N, nm, 8, rfl, hSt5, hN5, hNS.1, by omega, by omega, by decide, by decide, fun p xs H6 hnd hsub hp hp0 hxl hSt6 f6 => ?_⟩
        refine lc_keep hal (by omega) (f6 _ _ hDS hD5) fun H7 h7 k7 => ⟨ss ++ [xs], ScAt.snoc (hp.but (f6 _ _ hDS hD5) k7) ((hsc.fr hSt5 f6).but (f6 _ _ hDS hD5) k7), fun y hy => ?_, hSt6.grow ⟨hDS, hDL⟩ k7, hDS, hDL, hND, k7 _ _ hND (f6 _ _ hNS.1 hN5)⟩
        rcases List.mem_append.mp hy with hy | hy
        · exact hall y hy
        · rw [List.mem_singleton.mp hy]; exact ⟨hnd, hxl, hsub⟩
      · rintro D acc H5 hal hD5 ⟨ss, hsc, hall, hSt5, hDS, hDL, hND, hN5⟩
        walk_at "rd"
        refine ⟨S, L, N, nm, 8, rfl, hSt5, hN5, hNS.1, by omega, by omega, by decide, by decide, fun t sl H6 hnd hsub ht ht0 htl hSt6 f6 => ?_⟩
        walk_at "rd"
        have hD6 := f6 _ _ hDS hD5
        have hN6 := f6 _ _ hNS.1 hN5
        have hsc6 := hsc.fr hSt5 f6
        walk_at "rd"
        refine use_draw hSt6 (by rw [List.length_map]; omega) (by rw [List.length_map]; omega) fun r H7 r0 r1 hSt7 f7 => ?_
        rw [List.length_map] at r1
        have hD7 := f7 _ _ hDS hD6
        have hN7 := f7 _ _ hNS.1 hN6
        have hsc7 := hsc6.fr hSt6 f7
        have ht7 := f7.ft (hSt6.nft ht) ht
        obtain ⟨x, hx, ex⟩ : ∃ x, x ∈ nm ∧ atI (nm.map T) r = some (T x) := by
          have hr2 : r.toNat < nm.length := by omega
          obtain ⟨q, rfl⟩ : ∃ q : Nat, r = (q : Int) := ⟨r.toNat, by omega⟩
          rw [Int.toNat_natCast] at hr2
          exact ⟨nm[q], List.getElem_mem hr2, atI_nat (by rw [List.getElem?_map, List.getElem?_eq_getElem hr2]; rfl)⟩
        refine w_ixL (SqL.of hN7) ex ?_
        walk_at "rd"
        refine w_list2 (SqL.of hD7) fun l H8 hl s8 h8 => ?_
        walk_at "rd"
        have hD8 := s8 _ _ hD7
        have hsc8 := hsc7.same s8
        have ht8 := ht7.same s8
        refine ⟨l, t, x, acc, ss, sl, rfl, SqL.of h8, hsc8, ht8.sq, by omega, fun p H9 s9 h9 => ?_⟩
        walk_at "rd"
        refine ⟨D, t, x, acc, ss, sl, rfl, SqL.of (s9 _ _ hD8), hsc8.same s9, (ht8.same s9).sq, by omega, (fun s hs => ⟨(hall s hs).1, (hall s hs).2.1⟩), fun q H10 s10 h10 => ?_⟩
        walk_at "rd"
        refine ⟨_, _, _, rfl, pl_at (Same.sqT s10 h9), pl_at h10, pl_d, fun H11 s11 => ?_⟩
        walk_at "rd"
        have sc : ∀ s ∈ ss, ∀ a ∈ s, ∀ c ∈ a, c < 128 := fun s hs a ha => (hok a ((hall s hs).2.2 a ha)).1.ascii
        have s811 := (s9.trans s10).trans s11
        refine ⟨_, _, .lst (SqL.of (s811 _ _ h8)) (dp_scs (hsc8.same s811)), .lst (SqL.of (s811 _ _ hD8)) (dp_scs (hsc8.same s811)), scs_shaped sc, scs_shaped sc, ?_⟩
        rw [SeqAt.eqv_refl _ (SeqAt.canLay_of_shaped (scs_shaped sc))]
        exact kQ _
end
end
section
open PySem PySem.Spec PyProof.Rows L2
open C8 (Cal cal0 pe_c pe_gc pss_cut tCut)
theorem all_mk {P : Program} {w : World} {K : PySem.W.Frag} {h : Heap} {mg : Str → Option Value} {fa f0 f1 f2 f3 f4 f5 f6 f7 f8 f9 : Addr} (X : K.In h) (G : h.Ns mainGlobals mg) (hfa : mg "law" = some (.ref fa))
    {od0 an0 od1 an1 od2 an2 od3 an3 od4 an4 od5 an5 od6 an6 od7 an7 od8 an8 od9 an9 : Option Addr} {sl0 sl1 sl2 sl3 sl4 sl5 sl6 sl7 sl8 sl9 : Array (Option Value)} {oc0 kV0 dc0 pm0 cd0 ct0 oc1 kV1 dc1 pm1 cd1 ct1 oc2 kV2 dc2 pm2 cd2 ct2 oc3 kV3 dc3 pm3 cd3 ct3 oc4 kV4 dc4 pm4 cd4 ct4 oc5 kV5 dc5 pm5 cd5 ct5 oc6 kV6 dc6 pm6 cd6 ct6 oc7 kV7 dc7 pm7 cd7 ct7 oc8 kV8 dc8 pm8 cd8 ct8 oc9 kV9 dc9 pm9 cd9 ct9 : Value} 
    (a0 : PySem.W.nsIn K mainGlobals "place_of" = some (some (.ref f0)))
    (l0 : K.lookup f0 = some ⟨oc0, od0, .func (PySem.W.fnOf "place_of" "place_of" (defArgs s_place_of) (defBody s_place_of) (defScope s_place_of) .none kV0 dc0 pm0 an0 cd0 ct0), sl0⟩)
    (c0 : PySem.W.codeIn K cd0 "place_of" = true)
    (k0 : PySem.W.keepIn K (.ref f0) = true)
    (a1 : PySem.W.nsIn K mainGlobals "_law_state" = some (some (.ref f1)))
    (l1 : K.lookup f1 = some ⟨oc1, od1, .func (PySem.W.fnOf "_law_state" "_law_state" (defArgs s_law_state) (defBody s_law_state) (defScope s_law_state) .none kV1 dc1 pm1 an1 cd1 ct1), sl1⟩)
    (c1 : PySem.W.codeIn K cd1 "_law_state" = true)
    (k1 : PySem.W.keepIn K (.ref f1) = true)
    (a2 : PySem.W.nsIn K mainGlobals "_law_draw" = some (some (.ref f2)))
    (l2 : K.lookup f2 = some ⟨oc2, od2, .func (PySem.W.fnOf "_law_draw" "_law_draw" (defArgs s_law_draw) (defBody s_law_draw) (defScope s_law_draw) .none kV2 dc2 pm2 an2 cd2 ct2), sl2⟩)
    (c2 : PySem.W.codeIn K cd2 "_law_draw" = true)
    (k2 : PySem.W.keepIn K (.ref f2) = true)
    (a3 : PySem.W.nsIn K mainGlobals "_law_words" = some (some (.ref f3)))
    (l3 : K.lookup f3 = some ⟨oc3, od3, .func (PySem.W.fnOf "_law_words" "_law_words" (defArgs s_law_words) (defBody s_law_words) (defScope s_law_words) .none kV3 dc3 pm3 an3 cd3 ct3), sl3⟩)
    (c3 : PySem.W.codeIn K cd3 "_law_words" = true)
    (k3 : PySem.W.keepIn K (.ref f3) = true)
    (a4 : PySem.W.nsIn K mainGlobals "_law_run" = some (some (.ref f4)))
    (l4 : K.lookup f4 = some ⟨oc4, od4, .func (PySem.W.fnOf "_law_run" "_law_run" (defArgs s_law_run) (defBody s_law_run) (defScope s_law_run) .none kV4 dc4 pm4 an4 cd4 ct4), sl4⟩)
    (c4 : PySem.W.codeIn K cd4 "_law_run" = true)
    (k4 : PySem.W.keepIn K (.ref f4) = true)
    (a5 : PySem.W.nsIn K mainGlobals "_law_name" = some (some (.ref f5)))
    (l5 : K.lookup f5 = some ⟨oc5, od5, .func (PySem.W.fnOf "_law_name" "_law_name" (defArgs s_law_name) (defBody s_law_name) (defScope s_law_name) .none kV5 dc5 pm5 an5 cd5 ct5), sl5⟩)
    (c5 : PySem.W.codeIn K cd5 "_law_name" = true)
    (k5 : PySem.W.keepIn K (.ref f5) = true)
    (a6 : PySem.W.nsIn K mainGlobals "_law_same" = some (some (.ref f6)))
    (l6 : K.lookup f6 = some ⟨oc6, od6, .func (PySem.W.fnOf "_law_same" "_law_same" (defArgs s_law_same) (defBody s_law_same) (defScope s_law_same) .none kV6 dc6 pm6 an6 cd6 ct6), sl6⟩)
    (c6 : PySem.W.codeIn K cd6 "_law_same" = true)
    (k6 : PySem.W.keepIn K (.ref f6) = true)
    (a7 : PySem.W.nsIn K mainGlobals "_law_some" = some (some (.ref f7)))
    (l7 : K.lookup f7 = some ⟨oc7, od7, .func (PySem.W.fnOf "_law_some" "_law_some" (defArgs s_law_some) (defBody s_law_some) (defScope s_law_some) .none kV7 dc7 pm7 an7 cd7 ct7), sl7⟩)
    (c7 : PySem.W.codeIn K cd7 "_law_some" = true)
    (k7 : PySem.W.keepIn K (.ref f7) = true)
    (a8 : PySem.W.nsIn K mainGlobals "_law_due" = some (some (.ref f8)))
    (l8 : K.lookup f8 = some ⟨oc8, od8, .func (PySem.W.fnOf "_law_due" "_law_due" (defArgs s_law_due) (defBody s_law_due) (defScope s_law_due) .none kV8 dc8 pm8 an8 cd8 ct8), sl8⟩)
    (c8 : PySem.W.codeIn K cd8 "_law_due" = true)
    (k8 : PySem.W.keepIn K (.ref f8) = true)
    (a9 : PySem.W.nsIn K mainGlobals "law" = some (some (.ref f9)))
    (l9 : K.lookup f9 = some ⟨oc9, od9, .func (PySem.W.fnOf "law" "law" (defArgs s_law) (defBody s_law) (defScope s_law) .none kV9 dc9 pm9 an9 cd9 ct9), sl9⟩)
    (c9 : PySem.W.codeIn K cd9 "law" = true)
    (k9 : PySem.W.keepIn K (.ref f9) = true)
    (z_len : PySem.W.nsIn K mainGlobals "len" = some none)
    (z_int : PySem.W.nsIn K mainGlobals "int" = some none)
    (z_list : PySem.W.nsIn K mainGlobals "list" = some none)
    (z_range : PySem.W.nsIn K mainGlobals "range" = some none)
    (z_max : PySem.W.nsIn K mainGlobals "max" = some none)
    (z_str : PySem.W.nsIn K mainGlobals "str" = some none)
    (z_isinstance : PySem.W.nsIn K mainGlobals "isinstance" = some none)
    (z_bool : PySem.W.nsIn K mainGlobals "bool" = some none)
    (z_ord : PySem.W.nsIn K mainGlobals "ord" = some none)
    (z_tuple : PySem.W.nsIn K mainGlobals "tuple" = some none)
    (z_enumerate : PySem.W.nsIn K mainGlobals "enumerate" = some none)
    (z_min : PySem.W.nsIn K mainGlobals "min" = some none)
    (z_abs : PySem.W.nsIn K mainGlobals "abs" = some none)
    (z_all : PySem.W.nsIn K mainGlobals "all" = some none)
    (z_any : PySem.W.nsIn K mainGlobals "any" = some none)
    (z_sorted : PySem.W.nsIn K mainGlobals "sorted" = some none)
    (z_sum : PySem.W.nsIn K mainGlobals "sum" = some none)
    : ∃ fd : FuncData, (∀ (s : Shared) (v : Value), BindsTo s fd ⟨[v], []⟩ [("script", v)]) ∧ ∀ base : Heap, K.In base → base.Ns mainGlobals mg → FnOk P w K mg base CX0 4 fa fd ["script"] (spLaw K) := by
  have e := hfa.symm.trans (PySem.W.mg_of X G a9)
  cases e
  have Y : Bn mg := ⟨PySem.W.mg_none_of X G z_len, PySem.W.mg_none_of X G z_int, PySem.W.mg_none_of X G z_list, PySem.W.mg_none_of X G z_range, PySem.W.mg_none_of X G z_max, PySem.W.mg_none_of X G z_str, PySem.W.mg_none_of X G z_isinstance, PySem.W.mg_none_of X G z_bool, PySem.W.mg_none_of X G z_ord, PySem.W.mg_none_of X G z_tuple, PySem.W.mg_none_of X G z_enumerate, PySem.W.mg_none_of X G z_min, PySem.W.mg_none_of X G z_abs, PySem.W.mg_none_of X G z_all, PySem.W.mg_none_of X G z_any, PySem.W.mg_none_of X G z_sorted, PySem.W.mg_none_of X G z_sum⟩
  have F0 := fun_mk (st := s_place_of) l0 c0 k0
  have b0 := F0.binds (ps := ["name", "scopes", "slots"]) fun _ _ _ _ _ _ us hl => match us, hl with | [_, _, _], _ => rfl
  have m0 := PySem.W.mg_of X G a0
  have F1 := fun_mk (st := s_law_state) l1 c1 k1
  have b1 := F1.binds (ps := ["script"]) fun _ _ _ _ _ _ us hl => match us, hl with | [_], _ => rfl
  have m1 := PySem.W.mg_of X G a1
  have F2 := fun_mk (st := s_law_draw) l2 c2 k2
  have b2 := F2.binds (ps := ["state", "limit"]) fun _ _ _ _ _ _ us hl => match us, hl with | [_, _], _ => rfl
  have m2 := PySem.W.mg_of X G a2
  have F3 := fun_mk (st := s_law_words) l3 c3 k3
  have b3 := F3.binds (ps := []) fun _ _ _ _ _ _ us hl => match us, hl with | [], _ => rfl
  have m3 := PySem.W.mg_of X G a3
  have F4 := fun_mk (st := s_law_run) l4 c4 k4
  have b4 := F4.binds (ps := ["state", "first"]) fun _ _ _ _ _ _ us hl => match us, hl with | [_, _], _ => rfl
  have m4 := PySem.W.mg_of X G a4
  have F5 := fun_mk (st := s_law_name) l5 c5 k5
  have b5 := F5.binds (ps := ["state"]) fun _ _ _ _ _ _ us hl => match us, hl with | [_], _ => rfl
  have m5 := PySem.W.mg_of X G a5
  have F6 := fun_mk (st := s_law_same) l6 c6 k6
  have b6 := F6.binds (ps := ["one", "two"]) fun _ _ _ _ _ _ us hl => match us, hl with | [_, _], _ => rfl
  have m6 := PySem.W.mg_of X G a6
  have F7 := fun_mk (st := s_law_some) l7 c7 k7
  have b7 := F7.binds (ps := ["state", "names", "most"]) fun _ _ _ _ _ _ us hl => match us, hl with | [_, _, _], _ => rfl
  have m7 := PySem.W.mg_of X G a7
  have F8 := fun_mk (st := s_law_due) l8 c8 k8
  have b8 := F8.binds (ps := ["name", "scopes", "slots"]) fun _ _ _ _ _ _ us hl => match us, hl with | [_, _, _], _ => rfl
  have m8 := PySem.W.mg_of X G a8
  have F9 := fun_mk (st := s_law) l9 c9 k9
  refine ⟨PySem.W.fnOf "law" "law" (defArgs s_law) (defBody s_law) (defScope s_law) .none kV9 dc9 pm9 an9 cd9 ct9, fun s v => .of_eq rfl, fun base _ _ => ?_⟩
  have cplace_of : Cal P w K mg base 1 "place_of" (spPlace K) [] := ⟨f0, _, _, _, ok_place_of F0 Y, m0, k0, b0, .nil⟩
  have c_law_state : Cal P w K mg base 1 "_law_state" (spState K) [] := ⟨f1, _, _, _, ok_law_state F1 Y, m1, k1, b1, .nil⟩
  have c_law_draw : Cal P w K mg base 1 "_law_draw" spDraw [] := ⟨f2, _, _, _, ok_law_draw F2 Y, m2, k2, b2, .nil⟩
  have c_law_words : Cal P w K mg base 1 "_law_words" spWords [] := ⟨f3, _, _, _, ok_law_words F3, m3, k3, b3, .nil⟩
  have c_law_run : Cal P w K mg base 2 "_law_run" spRun [] := ⟨f4, _, _, _, ok_law_run F4 Y c_law_draw, m4, k4, b4, .nil⟩
  have c_law_name : Cal P w K mg base 3 "_law_name" (spTx IsName) [] := ⟨f5, _, _, _, ok_law_name F5 c_law_run c_law_words, m5, k5, b5, .nil⟩
  have c_same0 : Cal P w K mg base 1 "_law_same" (spSame K 0) [] := ⟨f6, _, _, _, ok_same0 F6, m6, k6, b6, .nil⟩
  have c_same1 : Cal P w K mg base 2 "_law_same" (spSame K 1) [] := ⟨f6, _, _, _, ok_same1 F6 Y c_same0, m6, k6, b6, .nil⟩
  have c_law_same : Cal P w K mg base 3 "_law_same" (spSame K 2) [] := ⟨f6, _, _, _, ok_same1 F6 Y c_same1, m6, k6, b6, .nil⟩
  have c_law_some : Cal P w K mg base 2 "_law_some" spSome [] := ⟨f7, _, _, _, ok_law_some F7 Y c_law_draw, m7, k7, b7, .nil⟩
  have c_law_due : Cal P w K mg base 1 "_law_due" (spDue K) [] := ⟨f8, _, _, _, ok_law_due F8 Y, m8, k8, b8, .nil⟩
  exact ok_law F9 Y c_law_state c_law_draw c_law_name c_law_some c_law_same cplace_of c_law_due
theorem walk {l : PySem.W.OpenLaw} {q : Program} {loose : List Str} {XP : (Str → Option Value) → Heap → Prop} {YP : World → Heap → Prop} {d : DefRec} {K : Params → PySem.W.Frag} (hn : l.most = some 63) (hdf : d.params.defaults = [])
    (hY : ∀ (w : World) (h : Heap), YP w h → (K w.params).In h)
    (F : ∀ (w : World) (mg : Str → Option Value) (fa : Addr) (h : Heap), (K w.params).In h → h.Ns mainGlobals mg → mg d.name = some (.ref fa) →
      ∃ fd : FuncData, (∀ (s : Shared) (u : Value), BindsTo s fd ⟨[u], []⟩ [("script", u)]) ∧ ∀ base : Heap, (K w.params).In base → base.Ns mainGlobals mg → FnOk l.prog w (K w.params) mg base CX0 4 fa fd ["script"] (spLaw (K w.params))) :
    PySem.W.WalkO q loose XP YP l.row.toRowW d [] (fun f vs => PySem.call f vs) :=
  L2.walk_of (n := 63) (k := 4) (x := "script") (CX := fun _ => CX0) (sp := fun w => spLaw (K w.params)) hn (by decide) hdf ⟨rfl, by decide, by decide⟩ hY F (fun _ _ a ns hl _ hS => ⟨a, ns, rfl, hS, hl, fun _ => rfl⟩) fun _ _ _ _ _ z => z
end
end Lv

open PySem PySem.W PyProof.Rows in
set_option maxRecDepth 100000 in
set_option maxHeartbeats 0 in
theorem PySem.Challenge.cw_livestead_k15_place_of_a_name_holds : PySem.Challenge.rw_livestead_k15_place_of_a_name.Holds := by
  w_on; o_law; k_head; (case hw => w_witness2)
  k_fill
  refine Lv.walk (l := PySem.Challenge.rw_livestead_k15_place_of_a_name) rfl rfl (fun w h Y => PySem.W.kIn_of Y) ?F
  case F =>
    intro w mg fa h KX G hmg
    refine' Lv.all_mk (P := PySem.Challenge.rw_livestead_k15_place_of_a_name.prog) KX G hmg ?a0 ?l0 ?c0 ?k0 ?a1 ?l1 ?c1 ?k1 ?a2 ?l2 ?c2 ?k2 ?a3 ?l3 ?c3 ?k3 ?a4 ?l4 ?c4 ?k4 ?a5 ?l5 ?c5 ?k5 ?a6 ?l6 ?c6 ?k6 ?a7 ?l7 ?c7 ?k7 ?a8 ?l8 ?c8 ?k8 ?a9 ?l9 ?c9 ?k9 ?z_len ?z_int ?z_list ?z_range ?z_max ?z_str ?z_isinstance ?z_bool ?z_ord ?z_tuple ?z_enumerate ?z_min ?z_abs ?z_all ?z_any ?z_sorted ?z_sum
    (case a0 => k_is)
    (case l0 => k_is)
    (case c0 => k_is)
    (case k0 => k_is)
    (case a1 => k_is)
    (case l1 => k_is)
    (case c1 => k_is)
    (case k1 => k_is)
    (case a2 => k_is)
    (case l2 => k_is)
    (case c2 => k_is)
    (case k2 => k_is)
    (case a3 => k_is)
    (case l3 => k_is)
    (case c3 => k_is)
    (case k3 => k_is)
    (case a4 => k_is)
    (case l4 => k_is)
    (case c4 => k_is)
    (case k4 => k_is)
    (case a5 => k_is)
    (case l5 => k_is)
    (case c5 => k_is)
    (case k5 => k_is)
    (case a6 => k_is)
    (case l6 => k_is)
    (case c6 => k_is)
    (case k6 => k_is)
    (case a7 => k_is)
    (case l7 => k_is)
    (case c7 => k_is)
    (case k7 => k_is)
    (case a8 => k_is)
    (case l8 => k_is)
    (case c8 => k_is)
    (case k8 => k_is)
    (case a9 => k_is)
    (case l9 => k_is)
    (case c9 => k_is)
    (case k9 => k_is)
    (case z_len => k_is)
    (case z_int => k_is)
    (case z_list => k_is)
    (case z_range => k_is)
    (case z_max => k_is)
    (case z_str => k_is)
    (case z_isinstance => k_is)
    (case z_bool => k_is)
    (case z_ord => k_is)
    (case z_tuple => k_is)
    (case z_enumerate => k_is)
    (case z_min => k_is)
    (case z_abs => k_is)
    (case z_all => k_is)
    (case z_any => k_is)
    (case z_sorted => k_is)
    (case z_sum => k_is)
#print axioms PySem.Challenge.cw_livestead_k15_place_of_a_name_holds
