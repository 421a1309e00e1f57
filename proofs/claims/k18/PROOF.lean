import PyProof.Rows.All
import Wide.All
import OpenK.AllK
import Wide.FinOn
import HandS.ForMost
import HandS.StrMore
import HandS.IsInst
import HandS.Steps
import HandS.Evl
import HandS.Codes
import HandS.ForExc
import KE.KExcSuper
import HandS.Strs
import HandS.Defaults
import HandS.TupAny
import PySem.Challenge.RW_livestead_k18_instructions_in_their_orde
set_option Elab.async false
set_option linter.all false
set_option maxRecDepth 100000
set_option maxHeartbeats 2000000
/-! Readings step by step: one lemma a construct, texts as lists of codes. -/
namespace Lv
open PySem PySem.Spec PyProof.Rows L2

/-- a text of these codes -/
abbrev T (cs : List Nat) : V := .str ⟨cs.toArray⟩
theorem T_eta (x : Str) : V.str x = T x.cps.toList := by
  show V.str x = V.str ⟨x.cps.toList.toArray⟩
  simp
theorem T_inj {a b : List Nat} (h : T a = T b) : a = b := by
  have h1 : (⟨a.toArray⟩ : Str) = ⟨b.toArray⟩ := V.str.inj h
  have h2 : a.toArray = b.toArray := Str.mk.inj h1
  exact congrArg Array.toList h2
theorem T_iff {a b : List Nat} : T a = T b ↔ a = b := ⟨T_inj, fun h => by rw [h]⟩
theorem len_T (a : List Nat) : (⟨a.toArray⟩ : Str).length = a.length := by
  show a.toArray.size = a.length
  simp

def NewL (xs : List V) (H : Hp) (Q : VK) : Prop := xs.length ≤ sizeLine ∧ ∀ p, H p = none → Q (.ref p) (upd H p (.lst xs))
def NewT (xs : List V) (H : Hp) (Q : VK) : Prop := xs.length ≤ sizeLine ∧ ∀ p, H p = none → Q (.ref p) (upd H p (.tup xs))
section
variable {σ : L2.St} {H : Hp} {Q : VK} {D : Ends} {i : Nat} {v x y : V} {ta tb te : TE} {t u : TS} {g : TG} {r : R2} {K : PySem.W.Frag}
theorem w_var (h : σ[i]? = some (some v)) (k : Q v H) : tVar i σ H Q := ⟨v, h, k⟩
theorem w_c (k : Q v H) : tC v σ H Q := k
theorem w_cT {cs : List Nat} (k : Q (T cs) H) : tC (T cs) σ H Q := k
theorem ex_int {a : Int} {G : Int → Prop} (k : G a) : ∃ i, V.int a = V.int i ∧ G i := ⟨a, rfl, k⟩
theorem ex_bl {a : Bool} {G : Bool → Prop} (k : G a) : ∃ i, V.bl a = V.bl i ∧ G i := ⟨a, rfl, k⟩
theorem w_str {x : Str} (k : Q (T x.cps.toList) H) : tC (.str x) σ H Q := by
  show Q (.str x) H
  rw [T_eta]
  exact k
theorem w_seq (k : t { D with nx := u D } σ H) : tSeq t u D σ H := k
theorem w_next (k : D.nx σ H) : tNext D σ H := k
theorem w_asg (k : te σ H fun x H1 => g x σ H1 D.nx) : tAsg te g D σ H := k
theorem w_gname {G : L2.St → Hp → Prop} (k : G (σ.set i (some v)) H) : gName i v σ H G := k
theorem w_drop (k : te σ H fun _ H1 => D.nx σ H1) : tDrop te D σ H := k
theorem w_ret (k : te σ H D.rt) : tRet te D σ H := k
theorem w_retN (k : D.rt .non H) : tRetN D σ H := k
theorem w_op (k : ta σ H fun x H1 => tb σ H1 fun y H2 => r x y H2 Q) : tOp r ta tb σ H Q := k
theorem w_un {r : V → Hp → VK → Prop} (k : ta σ H fun x H1 => r x H1 Q) : tUn r ta σ H Q := k
theorem w_i0 {f : Int → Int → V} {a b : Int} (k : Q (f a b) H) : rI0 f (.int a) (.int b) H Q := ⟨a, b, rfl, rfl, k⟩
theorem w_i {C : Int → Int → Prop} {f : Int → Int → V} {a b : Int} (c : C a b) (k : Q (f a b) H) : rI C f (.int a) (.int b) H Q := ⟨a, b, rfl, rfl, c, k⟩
theorem w_mulR {f : Int → Int → V} {a b : Int} (c : -(2 ^ 64) < b ∧ b < 2 ^ 64) (k : Q (f a b) H) : rI CMul f (.int a) (.int b) H Q := ⟨a, b, rfl, rfl, .inr c, k⟩
theorem w_mulL {f : Int → Int → V} {a b : Int} (c : -(2 ^ 64) < a ∧ a < 2 ^ 64) (k : Q (f a b) H) : rI CMul f (.int a) (.int b) H Q := ⟨a, b, rfl, rfl, .inl c, k⟩
theorem w_ifS {c : TT} (k : c σ H fun b H1 => if b = true then t D σ H1 else u D σ H1) : tIfS c t u D σ H := k
theorem w_test {G : Bool → Hp → Prop} (k : te σ H fun x H' => ∃ b, x = .bl b ∧ G b H') : tTest te σ H G := k
theorem w_tB {G : Bool → Hp → Prop} (k : te σ H fun x H' => ∃ b, x = .bl b ∧ G b H') : tB te σ H G := k
theorem w_and {t u : TT} {G : Bool → Hp → Prop} (k : t σ H fun c H1 => if c = true then u σ H1 G else G false H1) : tAnd t u σ H G := k
theorem w_or {t u : TT} {G : Bool → Hp → Prop} (k : t σ H fun c H1 => if c = true then G true H1 else u σ H1 G) : tOr t u σ H G := k
theorem w_not {t : TT} {G : Bool → Hp → Prop} (k : t σ H fun c H1 => G (!c) H1) : tNot t σ H G := k
theorem w_andV (k : ta σ H fun x H1 => ∃ c, x = .bl c ∧ if c = true then tb σ H1 Q else Q (.bl false) H1) : tAndV ta tb σ H Q := k
theorem w_orV (k : ta σ H fun x H1 => ∃ c, x = .bl c ∧ if c = true then Q (.bl true) H1 else tb σ H1 Q) : tOrV ta tb σ H Q := k
theorem w_notV (k : ta σ H fun x H1 => ∃ c, x = .bl c ∧ Q (.bl (!c)) H1) : tNotV ta σ H Q := k
theorem w_eq (s : scal x y = true) (k : Q (.bl (decide (x = y))) H) : rEq x y H Q := ⟨s, k⟩
theorem w_ne (s : scal x y = true) (k : Q (.bl (!decide (x = y))) H) : rNe x y H Q := ⟨s, k⟩
theorem w_call {sp : Sp} {dvs : List V} {E : XK} {t : TA} (k : t σ H fun vs H1 => sp (vs ++ dvs) H1 Q E) : tCall sp dvs E t σ H Q := k
theorem w_cb {r : List V → Hp → VK → Prop} {t : TA} (k : t σ H fun vs H1 => r vs H1 Q) : tCB r t σ H Q := k
theorem w_nil {G : List V → Hp → Prop} (k : G [] H) : tNil σ H G := k
theorem w_cons {tr : TA} {G : List V → Hp → Prop} (k : ta σ H fun x H1 => tr σ H1 fun xs H2 => G (x :: xs) H2) : tCons ta tr σ H G := k
theorem w_tup {t : TA} (k : t σ H fun xs H1 => NewT xs H1 Q) : tTup t σ H Q := k
theorem w_lst {t : TA} (k : t σ H fun xs H1 => NewL xs H1 Q) : tLst t σ H Q := k
theorem w_sl {r : V → Option Int → Option Int → Hp → VK → Prop} {tl th : TO} (k : te σ H fun x H1 => tl σ H1 fun l H2 => th σ H2 fun u H3 => r x l u H3 Q) : tSl r te tl th σ H Q := k
theorem w_part {G : Option Int → Hp → Prop} (k : te σ H fun x H1 => ∃ i, x = .int i ∧ G (some i) H1) : tPart te σ H G := k
theorem w_nopart {G : Option Int → Hp → Prop} (k : G none H) : tNoPart σ H G := k
theorem w_gsub {to ti : TE} {t : TSet} {G : L2.St → Hp → Prop} (k : to σ H fun o H1 => ti σ H1 fun i H2 => t o i v H2 fun H3 => G σ H3) : gSub to ti t v σ H G := k
theorem w_bm {Ty : String} {r : V → List V → Hp → VK → Prop} {to : TE} {t : TA} (k : to σ H fun x H1 => tyV K Ty x H1 ∧ t σ H1 fun xs H2 => r x xs H2 Q) : tBM K Ty r to t σ H Q := k
theorem w_bm0 {Ty : String} {r : V → List V → Hp → VK → Prop} {to : TE} (k : to σ H fun x H1 => tyV K Ty x H1 ∧ r x [] H1 Q) : tBM0 K Ty r to σ H Q := k
theorem w_aug {ti : TIp} (h : σ[i]? = some (some x)) (k : te σ H fun y H1 => ti x y H1 fun z H2 => D.nx (σ.set i (some z)) H2) : tAug i te ti D σ H := ⟨x, h, k⟩
theorem w_ifE {c : TT} (k : c σ H fun b H1 => if b = true then ta σ H1 Q else tb σ H1 Q) : tIf c ta tb σ H Q := k

/-! tests -/
theorem w_if {p A B : Prop} [Decidable p] (h1 : p → A) (h2 : ¬ p → B) : if decide p = true then A else B := by
  by_cases h : p
  · rw [if_pos (decide_eq_true h)]; exact h1 h
  · rw [if_neg (by simp [h])]; exact h2 h
theorem w_ifn {p A B : Prop} [Decidable p] (h1 : ¬ p → A) (h2 : p → B) : if (!decide p) = true then A else B := by
  by_cases h : p
  · rw [if_neg (by simp [h])]; exact h2 h
  · rw [if_pos (by simp [h])]; exact h1 h
theorem w_ifI {a b : Int} {A B : Prop} (h1 : a = b → A) (h2 : a ≠ b → B) : if decide (V.int a = V.int b) = true then A else B :=
  w_if (fun h => h1 (V.int.inj h)) fun h => h2 fun e => h (by rw [e])
theorem w_ifT {a b : List Nat} {A B : Prop} (h1 : a = b → A) (h2 : a ≠ b → B) : if decide (T a = T b) = true then A else B :=
  w_if (fun h => h1 (T_inj h)) fun h => h2 fun e => h (by rw [e])
theorem w_ifIn {a b : Int} {A B : Prop} (h1 : a ≠ b → A) (h2 : a = b → B) : if (!decide (V.int a = V.int b)) = true then A else B :=
  w_ifn (fun h => h1 fun e => h (by rw [e])) fun h => h2 (V.int.inj h)
theorem w_ifTn {a b : List Nat} {A B : Prop} (h1 : a ≠ b → A) (h2 : a = b → B) : if (!decide (T a = T b)) = true then A else B :=
  w_ifn (fun h => h1 fun e => h (by rw [e])) fun h => h2 (T_inj h)
theorem w_nt {A B : Prop} (h : B) : if (!true) = true then A else B := by
  show if false = true then A else B
  exact L2.iteF h
theorem w_nf {A B : Prop} (h : A) : if (!false) = true then A else B := by
  show if true = true then A else B
  exact L2.iteT h
theorem w_ifb {b : Bool} {A B : Prop} (h1 : b = true → A) (h2 : b = false → B) : if b = true then A else B := by
  cases b with
  | true => rw [if_pos rfl]; exact h1 rfl
  | false => rw [if_neg Bool.false_ne_true]; exact h2 rfl

/-! texts -/
def rAddS : R2 := fun x y H Q => ∃ i j, x = .str i ∧ y = .str j ∧ i.length + j.length ≤ sizeLine ∧ Q (.str (i ++ j)) H
theorem op_addS {X : Cx} : OpR X (binaryOp .Add) rAddS := op_add_str
theorem w_addS {a b : List Nat} (z : a.length + b.length ≤ 1000000) (k : Q (T (a ++ b)) H) : rAddS (T a) (T b) H Q := by
  refine ⟨_, _, rfl, rfl, ?_, ?_⟩
  · rw [len_T, len_T]
    exact Nat.le_trans z (by decide)
  · have e : (⟨a.toArray⟩ : Str) ++ ⟨b.toArray⟩ = ⟨(a ++ b).toArray⟩ := by
      show (⟨a.toArray ++ b.toArray⟩ : Str) = _
      simp
    rw [e]
    exact k
def rMulS : R2 := fun x y H Q => ∃ z n, x = .str z ∧ y = .int n ∧ -(2 ^ 63) ≤ n ∧ n < 1000000 ∧ z.length * n.toNat ≤ 1000000 ∧ Q (T (List.replicate n.toNat z.cps.toList).flatten) H
theorem foldl_rep (c : Array Nat) : ∀ (n : Nat) (acc : Array Nat), (List.replicate n c).foldl (· ++ ·) acc = acc ++ (List.replicate n c.toList).flatten.toArray
  | 0, acc => by simp
  | n + 1, acc => by
    rw [List.replicate_succ, List.foldl_cons, foldl_rep c n, List.replicate_succ, List.flatten_cons]
    apply Array.ext'
    simp
theorem op_mulS {X : Cx} : OpR X (binaryOp .Mult) rMulS := by
  intro pins s σ H x y v u Q I rx ry h
  obtain ⟨z, n, rfl, rfl, h1, h2, h3, q⟩ := h
  obtain ⟨t, rfl⟩ := rx
  obtain ⟨t', rfl⟩ := ry
  refine P.mul_str ?_ ?_ ?_ ?_
  · rw [decide_eq_false (by omega), decide_eq_false (by omega)]; rfl
  · intro hn _ hc
    have hz : z.length ≤ 1000000 := by
      have : z.length * 1 ≤ z.length * n.toNat := Nat.mul_le_mul_left _ (by omega)
      omega
    have : (2 ^ 63 - 1 : Int) / n ≥ 9000000000000 := by
      refine (Int.le_ediv_iff_mul_le (by omega)).mpr ?_
      omega
    omega
  · intro hn _
    show decide (sizeLine < z.length * n.toNat) = false
    refine decide_eq_false ?_
    rw [sizeLine_eq]
    omega
  · by_cases hn : n < 1
    · rw [if_pos hn]
      have e : (List.replicate n.toNat z.cps.toList).flatten = [] := by
        rw [show n.toNat = 0 by omega]; rfl
      rw [e] at q
      exact ⟨by decide, T [], H, I.tok _, ⟨_, rfl⟩, q⟩
    · rw [if_neg hn]
      by_cases hc : (n == 1 || z.length == 0) = true
      · rw [if_pos hc]
        have e : (List.replicate n.toNat z.cps.toList).flatten = z.cps.toList := by
          rw [Bool.or_eq_true] at hc
          rcases hc with hc | hc
          · have : n = 1 := by simpa using hc
            subst this
            simp
          · have hz : z.cps.size = 0 := (beq_iff_eq.mp hc : z.length = 0)
            have : z.cps.toList = [] := by
              rw [← List.length_eq_zero_iff]; simpa using hz
            rw [this]; simp
        rw [e, ← T_eta] at q
        exact ⟨.str z, H, I, ⟨_, rfl⟩, q⟩
      · rw [if_neg hc]
        have e : (⟨(List.replicate n.toNat z.cps).foldl (· ++ ·) #[]⟩ : Str) = ⟨((List.replicate n.toNat z.cps.toList).flatten).toArray⟩ := by
          rw [foldl_rep]; simp
        rw [e]
        refine ⟨?_, T _, H, I.tok _, ⟨_, rfl⟩, q⟩
        rw [len_T]
        have : (List.replicate n.toNat z.cps.toList).flatten.length = n.toNat * z.cps.size := by simp
        rw [this, Nat.mul_comm]
        exact Nat.le_trans h3 (by rw [sizeLine_eq]; omega)
theorem w_mulS {a : List Nat} {n : Int} (h1 : -(2 ^ 63) ≤ n) (h2 : n < 1000000) (h3 : a.length * n.toNat ≤ 1000000) (k : Q (T (List.replicate n.toNat a).flatten) H) : rMulS (T a) (.int n) H Q :=
  ⟨_, n, rfl, rfl, h1, h2, by rw [len_T]; exact h3, k⟩
theorem w_ixS {a : List Nat} {j : Int} {c : Nat} (z : a.length ≤ 1000000) (h : atI a j = some c) (k : Q (T [c]) H) : rIxS (T a) (.int j) H Q :=
  ⟨_, j, c, rfl, rfl, by rw [len_T]; exact Nat.le_trans z (by decide), h, k⟩
def cut (a : List Nat) (lo hi : Option Int) : List Nat := (a.drop (HT.sIx a.length 0 lo)).take (HT.sIx a.length a.length hi - HT.sIx a.length 0 lo)
theorem w_slS {a : List Nat} {lo hi : Option Int} (z : a.length ≤ 1000000) (k : Q (T (cut a lo hi)) H) : rSlS (T a) lo hi H Q := by
  refine ⟨_, rfl, by rw [len_T]; exact Nat.le_trans z (by decide), ?_⟩
  have e : cutS ⟨a.toArray⟩ lo hi = ⟨(cut a lo hi).toArray⟩ := by
    unfold cutS cut
    rw [len_T]
  rw [e]
  exact k
def rLenS : List V → Hp → VK → Prop := fun xs H Q => ∃ z, xs = [.str z] ∧ z.length ≤ sizeLine ∧ Q (.int z.length) H
theorem call_lenS {X : Cx} : CallR X (.builtin "len") rLenS := call_len_str
theorem w_lenS {a : List Nat} (z : a.length ≤ 1000000) (k : Q (.int (a.length : Int)) H) : rLenS [T a] H Q :=
  ⟨_, rfl, by rw [len_T]; exact Nat.le_trans z (by decide), by rw [len_T]; exact k⟩
def rLenL (K : PySem.W.Frag) : List V → Hp → VK → Prop := fun xs H Q => ∃ p ys, xs = [.ref p] ∧ (SqL K H p ys ∨ SqT K H p ys) ∧ Q (.int ys.length) H
theorem call_lenL {X : Cx} : CallR X (.builtin "len") (rLenL X.K) := call_len_seq
theorem w_lenL {p : Addr} {ys : List V} (h : SqL K H p ys) (k : Q (.int (ys.length : Int)) H) : rLenL K [.ref p] H Q := ⟨p, ys, rfl, .inl h, k⟩
theorem w_lenT {p : Addr} {ys : List V} (h : SqT K H p ys) (k : Q (.int (ys.length : Int)) H) : rLenL K [.ref p] H Q := ⟨p, ys, rfl, .inr h, k⟩
def rInt1 : List V → Hp → VK → Prop := fun xs H Q => (∃ i, xs = [.int i] ∧ Q (.int i) H) ∨ ∃ k, xs = [.bl k] ∧ Q (.int (if k then 1 else 0)) H
theorem call_intI {X : Cx} : CallR X (.type "int") rInt1 := call_int1
theorem w_intI {a : Int} (k : Q (.int a) H) : rInt1 [.int a] H Q := .inl ⟨a, rfl, k⟩
theorem w_intB {b : Bool} (k : Q (.int (if b then 1 else 0)) H) : rInt1 [.bl b] H Q := .inr ⟨b, rfl, k⟩
def rIntS : List V → Hp → VK → Prop := fun xs H Q => ∃ a n, xs = [.str a] ∧ PySem.intText? a = some n ∧ a.length ≤ 640 ∧ Q (.int n) H
theorem call_intS {X : Cx} : CallR X (.type "int") rIntS := call_int_str
theorem w_intS {a : List Nat} {n : Int} (h : PySem.intText? ⟨a.toArray⟩ = some n) (z : a.length ≤ 640) (k : Q (.int n) H) : rIntS [T a] H Q := ⟨_, n, rfl, h, by rw [len_T]; exact z, k⟩
def rMax2 : List V → Hp → VK → Prop := fun xs H Q => ∃ i j, xs = [.int i, .int j] ∧ Q (.int (if j > i then j else i)) H
theorem call_maxI {X : Cx} (hc : X.calm = true) : CallR X (.builtin "max") rMax2 := call_max2 hc
theorem w_max {a b : Int} (k : Q (.int (if b > a then b else a)) H) : rMax2 [.int a, .int b] H Q := ⟨a, b, rfl, k⟩
def rStrI : List V → Hp → VK → Prop := fun xs H Q => ∃ i : Int, xs = [.int i] ∧ i.natAbs.log2 < 1920 ∧ Q (.str (toString i)) H
theorem call_strI {X : Cx} : CallR X (.type "str") rStrI := call_str_int
def rListOf (K : PySem.W.Frag) : List V → Hp → VK → Prop := fun xs H Q => ∃ p ys, xs = [.ref p] ∧ (SqL K H p ys ∨ SqT K H p ys) ∧ ∀ l, H l = none → Q (.ref l) (upd H l (.lst ys))
theorem call_listOf {X : Cx} : CallR X (.type "list") (rListOf X.K) := call_list_of
theorem w_listOf {p : Addr} {ys : List V} (h : SqL K H p ys) (k : ∀ l, H l = none → Q (.ref l) (upd H l (.lst ys))) : rListOf K [.ref p] H Q := ⟨p, ys, rfl, .inl h, k⟩
def rOrd : List V → Hp → VK → Prop := fun xs H Q => ∃ x, xs = [.str x] ∧ x.length = 1 ∧ Q (.int (x.cps.getD 0 0 : Nat)) H
theorem call_ordS {X : Cx} : CallR X (.builtin "ord") rOrd := call_ord
theorem w_ord {c : Nat} (k : Q (.int (c : Int)) H) : rOrd [T [c]] H Q := ⟨_, rfl, rfl, k⟩
/-- a text within a text: one sign -/
def rInC : R2 := fun x y H Q => ∃ (c : Nat) (z : Str), x = .str ⟨#[c]⟩ ∧ y = .str z ∧ Q (.bl (decide (c ∈ z.cps.toList))) H
theorem op_inC {X : Cx} : OpR X (compareOp .In) rInC := op_in_sign
theorem w_inC {c : Nat} {a : List Nat} (k : Q (.bl (decide (c ∈ a))) H) : rInC (T [c]) (T a) H Q := ⟨c, _, rfl, rfl, k⟩
def rNinC : R2 := fun x y H Q => ∃ (c : Nat) (z : Str), x = .str ⟨#[c]⟩ ∧ y = .str z ∧ Q (.bl (!decide (c ∈ z.cps.toList))) H
theorem op_ninC {X : Cx} : OpR X (compareOp .NotIn) rNinC := op_notIn_sign
theorem w_ninC {c : Nat} {a : List Nat} (k : Q (.bl (!decide (c ∈ a))) H) : rNinC (T [c]) (T a) H Q := ⟨c, _, rfl, rfl, k⟩
/-- a text among texts -/
theorem eqV_T (a b : List Nat) : eqV (T a) (T b) = decide (a = b) := by
  show ((⟨a.toArray⟩ : Str) == ⟨b.toArray⟩) = _
  by_cases h : a = b
  · subst h; simp
  · rw [decide_eq_false h]
    exact beq_eq_false_iff_ne.mpr fun e => h (T_inj (congrArg V.str e))
theorem inV_T (a : List Nat) (l : List (List Nat)) : inV (T a) (l.map T) = decide (a ∈ l) := by
  induction l with
  | nil => rfl
  | cons b l ih =>
    unfold inV at *
    rw [List.map_cons, List.any_cons, ih, eqV_T]
    by_cases h : b = a
    · subst h; simp
    · have h2 : ¬ a = b := fun e => h e.symm
      simp [h, h2]
theorem flat_T (l : List (List Nat)) : (l.map T).all flatV = true := by
  induction l with
  | nil => rfl
  | cons b l ih => rw [List.map_cons, List.all_cons, ih]; rfl
theorem w_inL {a : List Nat} {p : Addr} {l : List (List Nat)} (h : SqL K H p (l.map T)) (k : Q (.bl (decide (a ∈ l))) H) : rIn K false (T a) (.ref p) H Q :=
  ⟨p, _, rfl, .inl h, rfl, flat_T l, by rw [if_neg Bool.false_ne_true, inV_T]; exact k⟩
theorem w_inT {a : List Nat} {p : Addr} {l : List (List Nat)} (h : SqT K H p (l.map T)) (k : Q (.bl (decide (a ∈ l))) H) : rIn K false (T a) (.ref p) H Q :=
  ⟨p, _, rfl, .inr h, rfl, flat_T l, by rw [if_neg Bool.false_ne_true, inV_T]; exact k⟩
/-- lists and tuples at places -/
theorem w_ixL {p : Addr} {xs : List V} {j : Int} (h : SqL K H p xs) (e : atI xs j = some v) (k : Q v H) : rIxL K (.ref p) (.int j) H Q := ⟨p, xs, j, v, rfl, rfl, h, e, k⟩
theorem w_ixT {p : Addr} {xs : List V} {j : Int} (h : SqT K H p xs) (e : atI xs j = some v) (k : Q v H) : rIxT K (.ref p) (.int j) H Q := ⟨p, xs, j, v, rfl, rfl, h, e, k⟩
theorem w_setL {p : Addr} {xs : List V} {j : Int} {n : Nat} {G : Hp → Prop} (h : H p = some (.lst xs)) (e : ixN xs.length j = some n) (k : G (upd H p (.lst (xs.set n v)))) : rSetL (.ref p) (.int j) v H G := ⟨p, xs, j, n, rfl, rfl, h, e, k⟩
theorem w_append {p : Addr} {xs : List V} (h : H p = some (.lst xs)) (z : xs.length ≤ 1000000) (k : Q .non (upd H p (.lst (xs ++ [y])))) : rAppend (.ref p) [y] H Q :=
  ⟨p, xs, y, rfl, rfl, h, Nat.lt_of_le_of_lt z (by decide), k⟩
theorem w_cat {p q : Addr} {xs ys : List V} (hp : H p = some (.lst xs)) (hq : H q = some (.lst ys)) (z : xs.length + ys.length ≤ 1000000) (k : ∀ a, H a = none → Q (.ref a) (upd H a (.lst (xs ++ ys)))) : rCat (.ref p) (.ref q) H Q :=
  ⟨p, q, xs, ys, rfl, rfl, hp, hq, Nat.le_trans z (by decide), k⟩
theorem tyL {p : Addr} {xs : List V} (h : SqL K H p xs) : tyV K "list" (.ref p) H := .inl ⟨rfl, xs, h⟩
theorem tyS {a : List Nat} : tyV K "str" (T a) H := rfl
end

/-! new objects, the heap a letter -/
theorem same_new0 {p : Addr} {H : Hp} {o : HO} (h : H p = none) : Same H (upd H p o) := fun b u e => by
  rw [upd_ne (ne_of_none e h)]; exact e
section
variable {H : Hp} {Q : VK} {xs ys : List V} {K : PySem.W.Frag}
theorem w_newL (z : xs.length ≤ 1000000) (k : ∀ p H1, H p = none → Same H H1 → H1 p = some (.lst xs) → Q (.ref p) H1) : NewL xs H Q :=
  ⟨Nat.le_trans z (by decide), fun p hp => k p _ hp (same_new0 hp) upd_same⟩
theorem w_newT (z : xs.length ≤ 1000000) (k : ∀ p H1, H p = none → Same H H1 → H1 p = some (.tup xs) → Q (.ref p) H1) : NewT xs H Q :=
  ⟨Nat.le_trans z (by decide), fun p hp => k p _ hp (same_new0 hp) upd_same⟩
theorem w_cat2 {p q : Addr} (hp : H p = some (.lst xs)) (hq : H q = some (.lst ys)) (z : xs.length + ys.length ≤ 1000000) (k : ∀ a H1, H a = none → Same H H1 → H1 a = some (.lst (xs ++ ys)) → Q (.ref a) H1) : rCat (.ref p) (.ref q) H Q :=
  w_cat hp hq z fun a ha => k a _ ha (same_new0 ha) upd_same
theorem w_list2 {p : Addr} (h : SqL K H p ys) (k : ∀ l H1, H l = none → Same H H1 → H1 l = some (.lst ys) → Q (.ref l) H1) : rListOf K [.ref p] H Q := w_listOf h fun l hl => k l _ hl (same_new0 hl) upd_same
theorem w_app2 {p : Addr} {y : V} (h : H p = some (.lst xs)) (z : xs.length ≤ 1000000) (k : ∀ H1, H1 p = some (.lst (xs ++ [y])) → (∀ b o, b ≠ p → H b = some o → H1 b = some o) → Q .non H1) : rAppend (.ref p) [y] H Q :=
  w_append h z (k _ upd_same fun b o n e => by rw [upd_ne n]; exact e)
end

/-! loops -/
def ForR (g : TG) (tb : TS) (vs : List V) (D : Ends) (σ : L2.St) (H : Hp) : Prop := ∃ j : Int, vs = [.int j] ∧ -(2 ^ 62) ≤ j ∧ j < 2 ^ 62 ∧ ∃ W : Nat → Nat → L2.St → Hp → Prop, (∃ m, W 0 m σ H) ∧ ∀ i m σ H, W i m σ H →
  ((Itr 0 j.toNat).stop i H ∧ D.nx σ H) ∨ ((Itr 0 j.toNat).go i H ∧ ∃ N : L2.St → Hp → Prop, (∀ σ' H', N σ' H' → ∃ m', m' < m ∧ W (i + 1) m' σ' H') ∧ ∀ x H', (Itr 0 j.toNat).yld i H x H' → g x σ H' fun σ2 H2 => tb { D with nx := N, ct := N, bk := D.nx } σ2 H2)
def ForL (K : PySem.W.Frag) (g : TG) (tb : TS) (x : V) (D : Ends) (σ : L2.St) (H : Hp) : Prop := ∃ a, x = .ref a ∧ (∃ xs, SqL K H a xs) ∧ ∃ W : Nat → Nat → L2.St → Hp → Prop, (∃ m, W 0 m σ H) ∧ ∀ i m σ H, W i m σ H →
  ((Itl K a).stop i H ∧ D.nx σ H) ∨ ((Itl K a).go i H ∧ ∃ N : L2.St → Hp → Prop, (∀ σ' H', N σ' H' → ∃ m', m' < m ∧ W (i + 1) m' σ' H') ∧ ∀ x H', (Itl K a).yld i H x H' → g x σ H' fun σ2 H2 => tb { D with nx := N, ct := N, bk := D.nx } σ2 H2)
def ForT (K : PySem.W.Frag) (g : TG) (tb : TS) (x : V) (D : Ends) (σ : L2.St) (H : Hp) : Prop := ∃ a, x = .ref a ∧ (∃ xs, SqT K H a xs) ∧ ∃ W : Nat → Nat → L2.St → Hp → Prop, (∃ m, W 0 m σ H) ∧ ∀ i m σ H, W i m σ H →
  ((Itt K a).stop i H ∧ D.nx σ H) ∨ ((Itt K a).go i H ∧ ∃ N : L2.St → Hp → Prop, (∀ σ' H', N σ' H' → ∃ m', m' < m ∧ W (i + 1) m' σ' H') ∧ ∀ x H', (Itt K a).yld i H x H' → g x σ H' fun σ2 H2 => tb { D with nx := N, ct := N, bk := D.nx } σ2 H2)
def ForS (g : TG) (tb : TS) (x : V) (D : Ends) (σ : L2.St) (H : Hp) : Prop := ∃ z, x = .str z ∧ ∃ W : Nat → Nat → L2.St → Hp → Prop, (∃ m, W 0 m σ H) ∧ ∀ i m σ H, W i m σ H →
  ((Its z).stop i H ∧ D.nx σ H) ∨ ((Its z).go i H ∧ ∃ N : L2.St → Hp → Prop, (∀ σ' H', N σ' H' → ∃ m', m' < m ∧ W (i + 1) m' σ' H') ∧ ∀ x H', (Its z).yld i H x H' → g x σ H' fun σ2 H2 => tb { D with nx := N, ct := N, bk := D.nx } σ2 H2)
section
variable {σ : L2.St} {H : Hp} {D : Ends} {ta : TA} {te : TE} {g : TG} {tb : TS} {K : PySem.W.Frag}
theorem w_forR (k : ta σ H fun vs H1 => ForR g tb vs D σ H1) : tFor (iRng1 ta) g tb D σ H := k
theorem w_forL (k : te σ H fun x H1 => ForL K g tb x D σ H1) : tFor (iList K te) g tb D σ H := k
theorem w_forT (k : te σ H fun x H1 => ForT K g tb x D σ H1) : tFor (iTup K te) g tb D σ H := k
theorem w_forS (k : te σ H fun x H1 => ForS g tb x D σ H1) : tFor (iStr te) g tb D σ H := k
/-- what holds ahead of turn i; a turn; the end -/
theorem for_R {j : Int} (Pv : Nat → L2.St → Hp → Prop) (b0 : 0 ≤ j) (b1 : j < 1000000) (h0 : Pv 0 σ H) (hs : ∀ (i : Nat) σ H, (i : Int) < j → Pv i σ H → g (.int (0 + (i : Int))) σ H fun σ2 H2 => tb { D with nx := Pv (i + 1), ct := Pv (i + 1), bk := D.nx } σ2 H2)
    (hd : ∀ σ H, Pv j.toNat σ H → D.nx σ H) : ForR g tb [.int j] D σ H :=
  ⟨j, rfl, by omega, by omega, for_range (lo := 0) (n := j.toNat) Pv h0 (fun i σ H hi p => hs i σ H (by omega) p) hd⟩
theorem for_L {a : Addr} {xs : List V} (Pv : Nat → L2.St → Hp → Prop) (h0 : Pv 0 σ H) (hl : ∀ i σ H, i ≤ xs.length → Pv i σ H → SqL K H a xs) (hs : ∀ i x σ H, xs[i]? = some x → Pv i σ H → g x σ H fun σ2 H2 => tb { D with nx := Pv (i + 1), ct := Pv (i + 1), bk := D.nx } σ2 H2)
    (hd : ∀ σ H, Pv xs.length σ H → D.nx σ H) : ForL K g tb (.ref a) D σ H :=
  ⟨a, rfl, ⟨xs, hl 0 σ H (Nat.zero_le _) h0⟩, for_list (xs := xs) Pv h0 hl hs hd⟩
theorem for_T {a : Addr} {xs : List V} (Pv : Nat → L2.St → Hp → Prop) (h0 : Pv 0 σ H) (hl : ∀ i σ H, i ≤ xs.length → Pv i σ H → SqT K H a xs) (hs : ∀ i x σ H, xs[i]? = some x → Pv i σ H → g x σ H fun σ2 H2 => tb { D with nx := Pv (i + 1), ct := Pv (i + 1), bk := D.nx } σ2 H2)
    (hd : ∀ σ H, Pv xs.length σ H → D.nx σ H) : ForT K g tb (.ref a) D σ H :=
  ⟨a, rfl, ⟨xs, hl 0 σ H (Nat.zero_le _) h0⟩, for_tup (xs := xs) Pv h0 hl hs hd⟩
theorem for_S {cs : List Nat} (Pv : Nat → L2.St → Hp → Prop) (h0 : Pv 0 σ H) (hs : ∀ i c σ H, cs[i]? = some c → Pv i σ H → g (T [c]) σ H fun σ2 H2 => tb { D with nx := Pv (i + 1), ct := Pv (i + 1), bk := D.nx } σ2 H2)
    (hd : ∀ σ H, Pv cs.length σ H → D.nx σ H) : ForS g tb (T cs) D σ H := by
  refine ⟨⟨cs.toArray⟩, rfl, fun i m σ H => m = cs.length - i ∧ i ≤ cs.length ∧ Pv i σ H, ⟨cs.length, by simp, Nat.zero_le _, h0⟩, ?_⟩
  rintro i m σ H ⟨rfl, hi, p⟩
  by_cases hlt : i < cs.length
  · refine .inr ⟨by show i < cs.toArray.size; simpa using hlt, Pv (i + 1), fun σ' H' p' => ⟨cs.length - (i + 1), by omega, rfl, hlt, p'⟩, fun x H' y => ?_⟩
    obtain ⟨e, c, hc, rfl⟩ := y
    subst e
    have hc' : cs[i]? = some c := by simpa using hc
    exact hs i c σ _ hc' p
  · have e : i = cs.length := by omega
    subst e
    exact .inl ⟨by show cs.toArray.size ≤ cs.length; simp, hd σ H p⟩
/-- while by a word and a measure, the test a letter -/
theorem pe_c0 {X : Cx} {k j : Nat} {x : Str} {sp : Sp} {dvs : List V} {p pos : Pos} (c : C8.Cal X.prog X.w X.K X.mg X.base k x sp dvs) (hr : Room j X.A) (hk : k ≤ j) (hg : Gl X x) (hdb : (x == ("__debug__" : Str)) = false := by decide) :
    PE X (.Call (.Name x p) [] [] pos) (tCall sp dvs L2.E0 tNil) := by
  obtain ⟨f, fd, ps, ds, F, hm, kp, b, d⟩ := c.ex
  exact pe_call0 F (hr.mono hk) hg hm kp b d pass0 hdb
end

/-! heaps: what stands apart from one object -/
/-- all but the object at S is as it was (and more may stand) -/
def Fr (S : Addr) (H H' : Hp) : Prop := ∀ b o, b ≠ S → H b = some o → H' b = some o
theorem Fr.refl (S : Addr) (H : Hp) : Fr S H H := fun _ _ _ h => h
theorem Fr.trans {S : Addr} {H H1 H2 : Hp} (a : Fr S H H1) (b : Fr S H1 H2) : Fr S H H2 := fun c o n h => b c o n (a c o n h)
theorem Fr.new {S p : Addr} {H : Hp} {o : HO} (h : H p = none) : Fr S H (upd H p o) := fun b u _ e => by
  rw [upd_ne (ne_of_none e h)]; exact e
theorem Fr.own {S : Addr} {H : Hp} {o : HO} : Fr S H (upd H S o) := fun b u n e => by
  rw [upd_ne n]; exact e
theorem Fr.to {S : Addr} {H H1 H2 : Hp} (a : Fr S H H1) (b : Same H1 H2) : Fr S H H2 := fun c o n h => b c o (a c o n h)
theorem Same.fr {S : Addr} {H H1 : Hp} (b : Same H H1) : Fr S H H1 := fun c o _ h => b c o h
theorem same_new {p : Addr} {H : Hp} {o : HO} (h : H p = none) : Same H (upd H p o) := fun b u e => by
  rw [upd_ne (ne_of_none e h)]; exact e
theorem Fr.sqL {S a : Addr} {K : PySem.W.Frag} {H H' : Hp} {xs : List V} (f : Fr S H H') (n : a ≠ S) (h : SqL K H a xs) : SqL K H' a xs := by
  rcases h with (h | ⟨o, h⟩) | h
  · exact .inl (.inl (f _ _ n h))
  · exact .inl (.inr ⟨o, f _ _ n h⟩)
  · exact .inr h
theorem Fr.sqT {S a : Addr} {K : PySem.W.Frag} {H H' : Hp} {xs : List V} (f : Fr S H H') (n : a ≠ S) (h : SqT K H a xs) : SqT K H' a xs := by
  rcases h with (h | ⟨o, h⟩) | h
  · exact .inl (.inl (f _ _ n h))
  · exact .inl (.inr ⟨o, f _ _ n h⟩)
  · exact .inr h
theorem Same.sqT {a : Addr} {K : PySem.W.Frag} {H H' : Hp} {xs : List V} (f : Same H H') (h : SqT K H a xs) : SqT K H' a xs := by
  rcases h with (h | ⟨o, h⟩) | h
  · exact .inl (.inl (f _ _ h))
  · exact .inl (.inr ⟨o, f _ _ h⟩)
  · exact .inr h
end Lv
/-! An own error whose __init__ tells its text to its base and keeps one field. -/
namespace PySem
namespace SrcX
open PySem.W PySem.Calls PyProof.Rows PySem.HandSPX
/-! ### the text of __init__: the parameter's name is a letter (at, name) -/
def msg : Str := "the source is wrong at position "
def eA : Arguments := { posonlyargs := [], args := [{ arg := "self", annotation := none, pos := ⟨6, 17, 6, 21⟩ }, { arg := "at", annotation := none, pos := ⟨6, 23, 6, 25⟩ }], vararg := none, kwonlyargs := [], kw_defaults := [], kwarg := none, defaults := [] }
def eB : List Stmt :=
  [.Expr (.Call (.Attribute (.Call (.Name "super" ⟨7, 8, 7, 13⟩) [] [] ⟨7, 8, 7, 15⟩) "__init__" ⟨7, 8, 7, 24⟩) [.JoinedStr [.Constant (.str msg) 0 ⟨7, 27, 7, 59⟩, .FormattedValue (.Name "at" ⟨7, 60, 7, 62⟩) (-1) none ⟨7, 59, 7, 63⟩] ⟨7, 25, 7, 64⟩] [] ⟨7, 8, 7, 65⟩) ⟨7, 8, 7, 65⟩,
   .Assign [.Attribute (.Name "self" ⟨8, 8, 8, 12⟩) "at" ⟨8, 8, 8, 15⟩] (.Name "at" ⟨8, 18, 8, 20⟩) ⟨8, 8, 8, 20⟩]
def eS : Scope := { kind := .function, names := [(PySem.Str.ofString "self", .local), (PySem.Str.ofString "at", .local), (PySem.Str.ofString "__class__", .free), (PySem.Str.ofString "super", .globalImplicit)], isGenerator := false, isCoroutine := false, more := [] }
/-- what the written part says of the class at C, and of its __init__, at fI; x: the field -/
structure SrcTxt (P : Program) (K : Frag) (mg : Str → Option Value) (nm : Str) (C fI : Addr) : Prop where
  gC : mg nm = some (.ref C)
  cls : ∃ nm q N bs bm sn sub ab col dd k0 k1 k2 k3 k5, K.lookup C = some (excClassObj nm q C N bs bm true sn sub ab col dd k0 k1 k2 k3 k5 "ValueError.__new__") ∧ refsVE bm = true
  sa : findIn K (.ref C) "__setattr__" = some (some (.builtin "object.__setattr__"))
  ga : findIn K (.ref C) "__getattribute__" = some (some (.builtin "BaseException.__getattribute__"))
  gg : findIn K (.ref C) "__getattr__" = some none
  noN : findIn K (.ref C) "at" = some none
  iC : findIn K (.ref C) "__init__" = some (some (.ref fI))
  tC : typeIn K (.ref fI) = some (.type "function")
  kC : keepIn K (.ref C) = true
  exC : subIn K (.ref C) (.type "BaseException") = some true
  veC : subIn K (.ref C) (.type "ValueError") = some true
  tyC : typeIn K (.ref C) = some (.type "type")
  hdC : hasDictIn K C = true
  te : exmOne K (.ref C) (.ref C) = some true
  op : nsIn K cStatics "thirdparty.any" = some none
  up : ks_superIn K C C "__init__" = some (some (.builtin "ValueError.__init__"))
  mr : mroIn K C (.ref C) = some true
  su : mg "super" = none
  top : (P.main.scope.names.lookup ("super" : Str)).isSome = false
  fn : ∃ (oc : Value) (od : Option Addr) (doc pm : Value) (an : Option Addr) (cda cc : Addr) (ct : Value) (osl : Array (Option Value)) (qual : Str) (ccl cl : Value) (cdd cld : Option Addr) (ccs csl : Array (Option Value)) (vs : Array Value) (file : Str) (tf : Tok),
    K.lookup fI = some ⟨oc, od, .func (fnX "__init__" qual eA eB eS [("__class__", cc)] .none .none doc pm an (.ref cda) ct), osl⟩ ∧ codeIn K (.ref cda) qual = true ∧
    K.lookup cda = some ⟨ccl, cdd, .fields vs, ccs⟩ ∧ vs[2]? = some (.str file tf) ∧ ((P.main.file : Str) == file) = true ∧ K.lookup cc = some ⟨cl, cld, .cell (some (.ref C)), csl⟩
/-- what __init__ leaves of a fresh exception at x -/
structure InitEnd (h h' : Heap) (e C dx t1 : Addr) (v : Value) : Prop where
  keep : ∀ b o, b ≠ e → h.get? b = some o → h'.get? b = some o
  obj : h'.get? e = some { cls := .ref C, dict := some dx, data := .fields #[.ref t1, .none, .none, .none, .bool false, .none] }
  dbig : h.objs.size ≤ dx
  dne : dx ≠ e
  ns : h'.Ns1 dx (fun y => if y = "at" then some v else none)
structure OwnMade (h h' : Heap) (e C d : Addr) (v : Value) : Prop where
  keep : ∀ b o, h.get? b = some o → h'.get? b = some o
  new : h.objs.size ≤ e
  obj : ∃ oe vs, h'.get? e = some oe ∧ oe.cls = .ref C ∧ oe.dict = some d ∧ oe.data = .fields vs ∧ vs[1]? = some .none
  dbig : h.objs.size ≤ d
  dne : d ≠ e
  ns : h'.Ns1 d (fun y => if y = "at" then some v else none)
theorem one_size (v : Value) : [v].length ≤ sizeLine := by
  rw [sizeLine_eq]
  exact (by decide : 1 ≤ 16777216)
section
variable {prog : Program} {w : World} {A : Around} {E : Value → Shared → Prop} {R : Result → Shared → Prop} {s : Shared} {K : Frag} {mg mb : Str → Option Value} {nm : Str} {C fI : Addr}
/-- the base's __init__, bound, called with one value: the args are laid anew -/
theorem call_mw {h : Heap} {g : Array GenState} {d : Drawn} {t : Nat} {os : OsState} {u e t0 : Addr} {rest : List Value} {Q : Value → Shared → Prop} {nm q : Str} {N : Addr} {bs bm : List Value} {hdct : Bool} {sn : List Str} {sub : List Value} {ab : Bool} {col : Option Bool} {dd : Option Addr} {k0 k1 k2 k3 k5 : Option Value}
    (hC : h.get? C = some (excClassObj nm q C N bs bm hdct sn sub ab col dd k0 k1 k2 k3 k5 "ValueError.__new__")) (he : h.get? e = some (excO C t0)) (hu : h.get? u = some (kxs_mw "ValueError.__init__" e)) (hrest : rest.length ≤ sizeLine)
    (hq : ∀ h' t1, (∀ b o, b ≠ e → h.get? b = some o → h'.get? b = some o) → h'.get? e = some (excO C t1) → Q .none ⟨h', g, d, t, os⟩) :
    wpAny (model prog w) A (call (.ref u) rest) Q E ⟨h, g, d, t, os⟩ := by
  refine wpAny_call (codeAny_of_tree ?_)
  show wpAny _ A.in1 (callAny (.ref u) ⟨rest, []⟩) _ _ _
  simp only [callAny]
  refine wpAny_bind (wpAny_load hu ?_)
  simp only [kxs_mw, show (Value.type "method-wrapper" == Value.type "method" || Value.type "method-wrapper" == Value.type "builtin_function_or_method" || Value.type "method-wrapper" == Value.type "method-wrapper") = true by decide, if_true]
  refine KFB.if_so (by decide) ?_
  refine wpAny_bind (check_bound_init F.excBase_ValueError.toExcCallFacts hC he rfl ?_)
  refine wpAny_bind (wpAny_pure (wpAny_pure ?_))
  refine ⟨plainId_quiet F.excBase_ValueError.init.plain _, codeAny_builtin F.excBase_ValueError.initEntry ?_⟩
  exact exc_init_tree (cls := .ref C) (t0 := t0) (dv := none) (c2 := .none) (c3 := .none) (b4 := .bool false) he hrest fun h' k e' _ => hq h' _ k e'
theorem ldN {M : Model} {env : Env} {m : Str → Option Value} {x : Str} {pos : Pos} {v : Value} {Q : Value → Shared → Prop} (hn : s.heap.Ns env.locals m) (hv : m x = some v) (h : Q v s)
    (hk : env.scope.kind = .function := by rfl) (hl : env.kindOf x = some .local := by rfl) (hd : (x == ("__debug__" : Str)) = false := by decide) :
    wpAny M A (eval (.Name x pos) env) Q E s := wpAny_Name (wpAny_loadName_local hk hl hn hv h) hd
theorem src_init (T : SrcTxt prog K mg nm C fI) {e t0 : Addr} {v : Int} {tv : Tok} (hv : v.natAbs.log2 < 1920) (X : K.In s.heap) (hlim : s.heap.NoLimit) (hg : s.heap.Ns mainGlobals mg) (hb : s.heap.Ns builtinsNs mb) (hmb : mb "super" = some (.type "super"))
    (hx : s.heap.get? e = some (excO C t0)) (hnx : K.lookup e = none) (hroom : A.depth < recursionLimit)
    (hq : ∀ h' tk dx t1, InitEnd s.heap h' e C dx t1 (.int v tv) → R (.ok (.ret .none)) { s with heap := h', toks := tk }) :
    codeAny (model prog w) A (.call (.ref fI) ⟨[.ref e, .int v tv], []⟩) R s := by
  obtain ⟨oc, od, doc, pm, an, cda, cc, ct, osl, qual, ccl, cl, cdd, cld, ccs, csl, vs, file, tf, ho, hcd, hcode, hvs, hfile, hcell⟩ := T.fn
  obtain ⟨nm', q, N, bs, bm, sn, sub, ab, col, dd, k0, k1, k2, k3, k5, hC, hbm⟩ := T.cls
  have hcl : clsIn K C = some { name := nm', bases := bs, mro := .ref C :: bm, ns := N, qualname := q, hasDict := true, slotNames := sn, subclasses := sub, abstract := ab, collection := col, hasDel := false } := by unfold clsIn; rw [hC] <;> rfl
  refine ks_codeAny_call_defAt (binds := [("self", .ref e), ("at", .int v tv)]) hroom (X _ _ ho) rfl hlim (codeRec_of X hcd) rfl (BindsTo.of_eq ?b1) (show ∀ y ∈ eS.names, y.2 ≠ .cell by decide +kernel) (locs rfl) (fun h₁ hns k => ?_) rfl rfl rfl
  case b1 => first | rfl | with_unfolding_all rfl
  have I1 : InstAt s.heap e (excO C t0) C none := ⟨hx, rfl, rfl, trivial⟩
  have hne : e ≠ C := ks_ne X I1 hcl
  obtain ⟨hp, g, d, t, os⟩ := s
  have X₁ : K.In h₁ := X.keeps k
  have hx₁ := k _ _ hx
  -- super().__init__(f'..')
  refine ks_wpAt_execs_cons (ks_wpAt_Expr_any (ks_wpAt_MethodCall ?_ (by with_unfolding_all rfl)))
  have hoH := X₁ _ _ ho
  have hcodeH := X₁ _ _ hcode
  refine' ks_wpAt_super_base (attr := "__init__") (body := eB) (f := fI) (cc := cda) ?a1 ?a2 ?a3 ?a4 ?a5 ?a6 ?a7 ?a8 ?a9 ?a10 hvs hfile T.top ?_
  case a5 => exact hoH
  case a9 => exact hcodeH
  case a1 => rfl
  case a2 => rfl
  case a3 => decide
  case a4 => rfl
  case a6 => rfl
  case a7 => rfl
  case a8 => rfl
  case a10 => rfl
  have hG : h₁.Ns mainGlobals mg := hg.keeps k
  have hB : h₁.Ns builtinsNs mb := hb.keeps k
  refine ks_loadName_global rfl rfl (loadGlobal_builtin hG T.su hB hmb ⟨rfl, ?_⟩)
  refine wpAny_loadName_free rfl rfl rfl ⟨_, X₁ _ _ hcell, rfl⟩ ?_
  refine wpAny_loadName_local rfl rfl hns rfl ?_
  have hCC := X₁ _ _ hC
  refine ks_wpAny_isType_cls hCC rfl ⟨rfl, ?_⟩
  refine ks_wpAny_call_super hCC rfl hx₁ rfl (fun c z => by cases z) (looks_mroIn X₁ T.mr) (fun h₂ hso k₂ => ?_)
  have X₂ : K.In h₂ := X₁.keeps k₂
  have hx₂ := k₂ _ _ hx₁
  have I2 : InstAt h₂ e (excO C t0) C none := ⟨hx₂, rfl, rfl, trivial⟩
  have hI : Looks (model prog w) h₂ (isInstance (.ref e) (.type "ValueError")) true := I2.type.andThen (looks_subIn X₂ T.veC)
  have hup : alongIn K "__init__" (((.ref C :: bm : List Value).dropWhile (· != .ref C)).drop 1) = some (some (.builtin "ValueError.__init__")) := by
    have := T.up
    unfold ks_superIn at this
    rw [hcl] at this
    exact this
  refine kxs_getMethod kxs_ValueError hso (looks_opaque X₂ T.op) (l₀ := .ref C :: bm) ?lk rfl X₂ hup hI hne (by decide) ?_
  case lk => exact fun A Q E s k q => wpAny_bind ((looks_clsIn X₂ hcl) A _ E s k (wpAny_pure q))
  refine kxs_callWith (i := "ValueError.__init__") (x := e) rfl (evalArgs_plain ?_)
  refine Calls.spliced_cons ?_
  -- the text
  have hn₂ : h₂.Ns hp.objs.size _ := hns.keeps k₂
  have hn₃ : (h₂.push (kxs_mw "ValueError.__init__" e)).Ns hp.objs.size _ := hn₂.keeps fun b o z => Heap.get?_push_of_some _ z
  refine wpAny_JoinedStr (pos := ⟨7, 25, 7, 64⟩) ?_
  refine Calls.Constant_str (x := msg) (k := 0) (pos := ⟨7, 27, 7, 59⟩) ?_
  refine ⟨_, _, rfl, by decide +kernel, ?_⟩
  refine wpAny_FormattedValue_plain (value := .Name "at" ⟨7, 60, 7, 62⟩) (pos := ⟨7, 59, 7, 63⟩) (ldN (env := callEnv (fnX "__init__" qual eA eB eS [("__class__", cc)] .none .none doc pm an (.ref cda) ct) hp.objs.size fI) hn₃ rfl (wpAny_formatField_int hv ?_))
  have hsz : ((Str.empty ++ msg) ++ Str.ofString (toString v)).length ≤ sizeLine := by
    rw [strLen_append, PySem.ofString_length, show (Str.empty ++ msg).length = 32 by decide +kernel, sizeLine_eq]
    have := int_text_length_le (k := 1920) (by decide) hv
    omega
  refine ⟨_, _, rfl, hsz, ?_⟩
  refine ⟨hsz, ?_⟩
  refine Calls.spliced_nil ?_
  have hu₃ : (h₂.push (kxs_mw "ValueError.__init__" e)).get? h₂.objs.size = some (kxs_mw "ValueError.__init__" e) := Heap.get?_push_at rfl rfl
  refine ⟨hu₃, ?_⟩
  have k₃ : ∀ b o, h₂.get? b = some o → (h₂.push (kxs_mw "ValueError.__init__" e)).get? b = some o := fun b o z => Heap.get?_push_of_some _ z
  have X₃ : K.In (h₂.push (kxs_mw "ValueError.__init__" e)) := X₂.keeps k₃
  refine call_mw (X₃ _ _ hC) (k₃ _ _ hx₂) hu₃ (one_size _) fun h₄ t1 k₄ hx₄ => ?_
  have X₄ : K.In h₄ := fun a o z => by
    by_cases ha : a = e
    · subst ha
      have := X₃ _ _ z
      have y := k₃ _ _ hx₂
      rw [this] at y
      have nK : K.lookup a = none := hnx
      rw [nK] at z
      cases z
    · exact k₄ _ _ ha (X₃ _ _ z)
  have hn₄ : h₄.Ns hp.objs.size _ := hn₃.at fun o z => k₄ _ _ (Nat.ne_of_gt (Heap.lt_size hx)) z
  -- self.at = at
  refine wpAt_of_wpAny ?_
  refine wpAny_execs_cons (plainObj_wpAny_Assign_Attribute ?_)
  refine ldN (v := .int v tv) hn₄ rfl (ldN (v := .ref e) hn₄ rfl ?_)
  refine set_plain X₄ (ox := excO C t1) (od := none) ⟨hx₄, rfl, rfl, trivial⟩ T.sa ?_
  refine exc_osa X₄ hx₄ hcl (show refsVE (.ref C :: bm) = true from hbm) rfl T.noN (fun h₅ tk₅ dx k₅ dn dne hx₅ hn₅ => ?_)
  refine wpAny_execs_nil ?_
  have keepAll : ∀ b o, b ≠ e → hp.get? b = some o → h₅.get? b = some o := fun b o hb z => k₅ b o hb (k₄ b o hb (k₃ _ _ (k₂ _ _ (k _ _ z))))
  refine hq h₅ tk₅ dx t1 ⟨keepAll, hx₅, ?_, dne, hn₅⟩
  exact Nat.le_trans (Nat.le_of_lt hn₄.lt) dn
theorem src_made (T : SrcTxt prog K mg nm C fI) {v : Int} {tv : Tok} (hv : v.natAbs.log2 < 1920) (X : K.In s.heap) (hlim : s.heap.NoLimit) (hg : s.heap.Ns mainGlobals mg) (hb : s.heap.Ns builtinsNs mb) (hmb : mb "super" = some (.type "super")) (hroom : A.depth + 1 < recursionLimit)
    (hq : ∀ h' tk e d, OwnMade s.heap h' e C d (.int v tv) → R (.ok (.ret (.ref e))) { s with heap := h', toks := tk }) :
    codeAny (model prog w) A (.call (.ref C) ⟨[.int v tv], []⟩) R s := by
  obtain ⟨nm, q, N, bs, bm, sn, sub, ab, col, dd, k0, k1, k2, k3, k5, hC, hbm⟩ := T.cls
  obtain ⟨hp, g, dr, tk, os⟩ := s
  have k : ∀ b o, hp.get? b = some o → ((hp.push (kdv_tup [.int v tv])).push (excO C hp.objs.size)).get? b = some o := fun b o e => Heap.get?_push_of_some _ (Heap.get?_push_of_some _ e)
  have hget : ((hp.push (kdv_tup [.int v tv])).push (excO C hp.objs.size)).get? (hp.objs.size + 1) = some (excO C hp.objs.size) := by heap_get
  have hnx : K.lookup (hp.objs.size + 1) = none := by
    cases e : K.lookup (hp.objs.size + 1) with
    | none => rfl
    | some o =>
      have z : hp.get? (hp.objs.size + 1) = some o := X _ _ e
      exact absurd (Nat.lt_of_succ_lt (Heap.lt_size z)) (Nat.lt_irrefl _)
  refine call_own F.excBase_ValueError (fun X => refsVE_contains X bm hbm) (X _ _ hC) (looks_findIn X T.iC) (fun self => bind_fn X self T.tC) (one_size _) ?_
  refine src_init (s := ⟨(hp.push (kdv_tup [.int v tv])).push (excO C hp.objs.size), g, dr, tk, os⟩) T hv (X.keeps k) (hlim.keeps k) (hg.keeps k) (hb.keeps k) hmb hget hnx ?_ fun h' tk' dx t1 ⟨k', hx, dn, dne, hns⟩ => ?_
  · show A.depth + 1 < recursionLimit
    exact hroom
  · have old : ∀ b o, hp.get? b = some o → h'.get? b = some o := fun b o e => k' b o (Nat.ne_of_lt (Nat.lt_succ_of_lt (Heap.lt_size e))) (k b o e)
    have z : hp.objs.size + 1 + 1 ≤ dx := by
      first
        | (simpa only [Heap.size_push] using dn)
        | exact dn
        | (have q := dn; rw [Heap.size_push, Heap.size_push] at q; exact q)
    exact ⟨rfl, hq h' tk' (hp.objs.size + 1) dx ⟨old, Nat.le_succ _, ⟨_, _, hx, rfl, rfl, rfl, rfl⟩, Nat.le_trans (Nat.le_trans (Nat.le_succ _) (Nat.le_succ _)) z, dne, hns⟩⟩
end
end SrcX
end PySem
namespace L2
open PySem PySem.Spec PyProof.Rows
theorem relO_src {v : V} {v' : Value} (r : RelV v v') (f : Str) : RelO (List.lookup f [(("at" : Str), v)]) (if f = "at" then some v' else none) := by
  by_cases hw : f = "at"
  · subst hw
    rw [if_pos rfl]
    have q : List.lookup ("at" : Str) [(("at" : Str), v)] = some v := by simp [List.lookup]
    rw [q]
    exact r
  · rw [if_neg hw]
    have qw : (f == ("at" : Str)) = false := by simpa using hw
    have q2 : List.lookup f [(("at" : Str), v)] = none := by simp [List.lookup, qw]
    rw [q2]
    trivial
section
variable {X : Cx} {C fI : Addr} {nm : Str}
/-- C(e), e an int -/
def tMkSrc (C : Addr) (ta : TA) : St → Hp → XK → Prop := fun σ H Q => ta σ H fun vs H1 => ∃ v : Int, vs = [.int v] ∧ v.natAbs.log2 < 1920 ∧ ∀ d, H1 d = none → Q (.ref C) (some d) (upd H1 d (.xd [(("at" : Str), .int v)]))
theorem pmk_src {a : Expr} {ta : TA} {p pos : Pos} {k : Nat} (T : PySem.SrcX.SrcTxt X.prog X.K X.mg nm C fI) (hr : Room k X.A) (ha : PA X [a] ta) (hg : Gl X nm := by rfl) (hdb : (nm == ("__debug__" : Str)) = false := by decide)
    (he : starEach (a :: []) X.env = (false, eval a X.env) :: starEach [] X.env := by rfl) (hpl : (backTo pos (starEach [] X.env)).any (·.1) = false := by rfl) :
    PMk X (.Call (.Name nm p) [a] [] pos) (tMkSrc C ta) := by
  intro pins s σ H Q I h
  refine wpAny_Call_Name_kw (ld_glob I hg T.gC ?_ hdb)
  refine PySem.W.callWith_K (h₀ := X.base) I.ok.mod.kin T.kC (thn (ha.run pos pins s σ H _ I h) fun us s1 hh => ?_) he hpl
  obtain ⟨vs, H1, I1, r1, v, ev, hv, q1⟩ := hh
  subst ev
  refine ⟨I1.kIn, ?_⟩
  cases r1 with
  | cons rv rn =>
    rename_i v' us'
    cases rn
    obtain ⟨tv, rfl⟩ := rv
    show wpAny _ _ (call (.ref C) [.int v tv]) _ _ _
    have hlim := I1.nolimit
    obtain ⟨mb, hb, hmb⟩ := I1.mod.blt
    have hb1 := hb.keeps I1.bk
    have hg1 := I1.mod.glob.keeps I1.bk
    have hsup : mb "super" = some (.type "super") := (hmb _ (by decide)).trans (by decide +kernel)
    obtain ⟨hp, g, dr, tk, os⟩ := s1
    refine wpAny_call (PySem.SrcX.src_made T hv I1.kIn hlim hg1 hb1 hsup (by have := hr.dp; omega) fun h' tk' e d M => ?_)
    show MkP X pins σ Q (.ref e) ⟨h', g, dr, tk', os⟩
    obtain ⟨oe, fv, hoe, hc, hd, hdat, h1⟩ := M.obj
    have hns := M.ns
    obtain ⟨G', g1, g2⟩ := restrict h' fun b => decide (b ≠ e)
    have gk : ∀ b, b ≠ e → G'.get? b = h'.get? b := fun b hb => g1 b (decide_eq_true hb)
    have ge : G'.get? e = none := g2 e (by simp)
    have old : ∀ b o, hp.get? b = some o → G'.get? b = some o := fun b o q => (gk b (Nat.ne_of_lt (Nat.lt_of_lt_of_le (Heap.lt_size q) M.new))).trans (M.keep b o q)
    have ob : ObjOk X.prog X.w (upd H1 d (.xd [(("at" : Str), .int v)])) G' d (.xd [(("at" : Str), .int v)]) :=
      ⟨_, hns.at (fun o q => (gk d M.dne).trans q), fun f => relO_src (v := .int v) (v' := .int v tv) ⟨tv, rfl⟩ f⟩
    have J : Inv X pins σ (upd H1 d (.xd [(("at" : Str), .int v)])) ⟨G', g, dr, tk', os⟩ := I1.laid (t' := tk') old M.dbig ob
    refine ⟨e, oe, fv, ⟨G', g, dr, tk', os⟩, _, .ref C, some d, rfl, J, fun b o q => ?_, ge, hoe, ⟨hc, hd⟩, hdat, h1, ?_, rfl, I1.bare, raises_own T.exC T.tyC, q1 d (I1.hok.fresh M.dbig)⟩
    · by_cases hb : b = e
      · have q' : G'.get? b = some o := q
        rw [hb, ge] at q'; cases q'
      · exact (gk b hb).symm.trans q
    · rw [upd_ne (Ne.symm M.dne)]
      exact I1.hok.fresh M.new
/-- raise C(e) -/
def tRaiseSrc (C : Addr) (W : WX) (ta : TA) : TS := fun _ σ H => tMkSrc C ta σ H fun cls d H' => W cls d σ H'
theorem ps_raiseSrc {a : Expr} {ta : TA} {W : WX} {p pos pos2 : Pos} {k : Nat} (hc : X.calm = true) (T : PySem.SrcX.SrcTxt X.prog X.K X.mg nm C fI) (hr : Room k X.A) (tk : Takes X W) (ha : PA X [a] ta) (hg : Gl X nm := by rfl) (hdb : (nm == ("__debug__" : Str)) = false := by decide)
    (he : starEach (a :: []) X.env = (false, eval a X.env) :: starEach [] X.env := by rfl) (hpl : (backTo pos (starEach [] X.env)).any (·.1) = false := by rfl) :
    PS X (.Raise (some (.Call (.Name nm p) [a] [] pos)) none pos2) (tRaiseSrc C W ta) := ps_raise hc tk (pmk_src T hr ha hg hdb he hpl)
/-- err.at, err the exception that the suite holds (at a; its class cls, its dict d) -/
def tBySrc (C : Addr) (a : Addr) (cls : Value) (d : Option Addr) (te : TE) : TE := fun σ H Q => te σ H fun x H1 => x = .ref a ∧ cls = .ref C ∧ ∃ (dd : Addr) (v : V), d = some dd ∧ H1 dd = some (.xd [(("at" : Str), v)]) ∧ Q v H1
theorem pe_bySrc {a : Addr} {oe : Obj} {cls : Value} {d : Option Addr} {pn : List (Addr × Obj)} {e : Expr} {te : TE} {pos : Pos} (T : PySem.SrcX.SrcTxt X.prog X.K X.mg nm C fI) (hz : Zc cls d oe) (hf : ∃ vs, oe.data = .fields vs) (he : PE (X.suite a ((a, oe) :: pn)) e te)
    (hb : attributeBase e "at" X.env (eval e X.env) = eval e X.env := by rfl) :
    PE (X.suite a ((a, oe) :: pn)) (.Attribute e "at" pos) (tBySrc C a cls d te) := by
  refine ⟨fun pins s σ H Q I h => ?_⟩
  refine attr_of hb (thn (he.run pins s σ H _ I h) fun u s1 hh => ?_)
  obtain ⟨x, H1, I1, rx, ex, ec, dd, v, ed, ea, q⟩ := hh
  subst ex
  obtain rfl : u = Value.ref a := rx
  subst ec
  subst ed
  obtain ⟨ha, _⟩ := I1.pin (a, oe) (List.mem_append_left _ List.mem_cons_self)
  obtain ⟨vs, hd⟩ := hf
  have hx : ObjOk X.prog X.w H1 s1.heap dd (.xd [(("at" : Str), v)]) := I1.hok dd _ ea
  obtain ⟨mA, hns, hr⟩ := hx
  obtain ⟨od, ho, hl⟩ := lookIn_ns hns
  have l : List.lookup ("at" : Str) [(("at" : Str), v)] = some v := by simp [List.lookup]
  obtain ⟨u, hu, ru⟩ := RelO.some_of (v := v) (o := mA "at") (by rw [← l]; exact hr "at")
  have J : PySem.W.InstAt s1.heap a oe C (some od) := ⟨ha, hz.1, by unfold PySem.W.notCls; rw [hd] <;> rfl, by rw [hz.2]; exact ho⟩
  exact HandSPX.exc_get I1.kIn J T.ga T.gg T.exC (PySem.W.findObj_own T.hdC T.noN rfl (by rw [hl, hu])) (handed_of ru) ⟨v, H1, I1.tok _, ru, q⟩
end
end L2
/-! Defs that may raise, over the same layer; texts searched. -/
namespace Lv
open PySem PySem.Spec PyProof.Rows L2

section
variable {P : Program} {w : World} {K : PySem.W.Frag} {mg : Str → Option Value} {base : Heap} {N : List Str} {q : Str} {sc : Scope} {f : Addr} {cd : Value} {A : Around} {outer : List Env} {s : Shared} {H : Hp} {E : XK}
theorem tk_of : Takes (cxOf (L2.CX P w) P w K mg base N q sc f cd A outer s H E) (fun cls d _ H => E cls d H) := takes_of rfl rfl rfl rfl
theorem px_of : Passes (L2.CX P w) (cxOf (L2.CX P w) P w K mg base N q sc f cd A outer s H E) E := passes_call tk_of (fun _ _ _ _ h => h)
theorem po_of : PassesOwn (model (cxOf (L2.CX P w) P w K mg base N q sc f cd A outer s H E).prog (cxOf (L2.CX P w) P w K mg base N q sc f cd A outer s H E).w) (cxOf (L2.CX P w) P w K mg base N q sc f cd A outer s H E).A (cxOf (L2.CX P w) P w K mg base N q sc f cd A outer s H E).env (cxOf (L2.CX P w) P w K mg base N q sc f cd A outer s H E).xe := passes_of rfl
end
/-- a def that may raise, by its module's name -/
structure CalX (P : Program) (w : World) (K : PySem.W.Frag) (mg : Str → Option Value) (base : Heap) (k : Nat) (x : Str) (sp : Sp) : Prop where
  ex : ∃ (f : Addr) (fd : FuncData) (ps : List Str), FnOk P w K mg base (L2.CX P w) k f fd ps sp ∧ mg x = some (.ref f) ∧ PySem.W.keepIn K (.ref f) = true ∧ Binds K fd ps []
section
variable {X : Cx} {k j : Nat} {x : Str} {sp : Sp} {E : XK} {p pos : Pos} {e : Expr} {es : List Expr} {t : TA}
theorem pe_cx (c : CalX X.prog X.w X.K X.mg X.base k x sp) (hr : Room j X.A) (hk : k ≤ j) (hg : Gl X x) (hx : Passes (L2.CX X.prog X.w) X E) (ha : PA X (e :: es) t)
    (hdb : (x == ("__debug__" : Str)) = false := by decide) (he : starEach (e :: es) X.env = (false, eval e X.env) :: starEach es X.env := by rfl) (hpl : (backTo pos (starEach es X.env)).any (·.1) = false := by rfl) :
    PE X (.Call (.Name x p) (e :: es) [] pos) (tCall sp [] E t) := by
  obtain ⟨f, fd, ps, F, hm, kp, b⟩ := c.ex
  exact pe_call F (hr.mono hk) hg hm kp b .nil hx ha hdb he hpl
end
/-- the way out with an error of the class at C whose field is i -/
def Err (C : Addr) (E : XK) (H : Hp) (i : Nat) : Prop := ∀ d H', H d = none → Same H H' → H' d = some (.xd [(("at" : Str), .int (i : Int))]) → E (.ref C) (some d) H'
theorem Err.mono {C : Addr} {E : XK} {H H1 : Hp} {i : Nat} (e : Err C E H i) (s : Same H H1) : Err C E H1 i := fun d H' hd s' h => e d H' (s.free hd) (s.trans s') h
section
variable {σ : L2.St} {H : Hp} {D : Ends} {C : Addr} {E : XK} {ta : TA}
def RaiseI (C : Addr) (E : XK) (vs : List V) (H : Hp) : Prop := ∃ v : Int, vs = [.int v] ∧ v.natAbs.log2 < 1920 ∧ ∀ d, H d = none → E (.ref C) (some d) (upd H d (.xd [(("at" : Str), .int v)]))
theorem w_raise (k : ta σ H fun vs H1 => RaiseI C E vs H1) : tRaiseSrc C (fun cls d _ H => E cls d H) ta D σ H := k
theorem raise_I {i : Nat} (hi : i ≤ 1000000) (h : Err C E H i) : RaiseI C E [.int (i : Int)] H := by
  refine ⟨(i : Int), rfl, ?_, fun d hd => h d _ hd (same_new0 hd) upd_same⟩
  rw [Int.natAbs_natCast]
  by_cases h0 : i = 0
  · subst h0; decide
  · exact Nat.lt_trans ((Nat.log2_lt h0).mpr (show i < 2 ^ 31 by omega)) (by decide)
end

/-! ### texts: order, search -/
def rLeS : R2 := fun x y H Q => ∃ i j, x = .str i ∧ y = .str j ∧ Q (.bl (!decide (j.cps.toList < i.cps.toList))) H
theorem op_leS {X : Cx} : OpR X (compareOp .LtE) rLeS := op_le_str
theorem lt_one (a b : Nat) : (([a] : List Nat) < [b]) ↔ a < b := by
  constructor
  · intro h
    cases h with
    | rel h => exact h
    | cons h => cases h
  · intro h
    exact .rel h
theorem w_leC {Q : VK} {H : Hp} {a b : Nat} (k : Q (.bl (decide (a ≤ b))) H) : rLeS (T [a]) (T [b]) H Q := by
  refine ⟨_, _, rfl, rfl, ?_⟩
  have e : (!decide (([b] : List Nat) < [a])) = decide (a ≤ b) := by
    by_cases h : a ≤ b
    · rw [decide_eq_true h, decide_eq_false (fun z => by have := (lt_one b a).mp z; omega)]; rfl
    · rw [decide_eq_false h, decide_eq_true ((lt_one b a).mpr (by omega))]; rfl
  show Q (.bl (!decide (([b] : List Nat) < [a]))) H
  rw [e]
  exact k
def rFind3 : V → List V → Hp → VK → Prop := fun x xs H Q => ∃ (a b : Str) (i : Int), x = .str a ∧ xs = [.str b, .int i] ∧ Q (.int (Txt.find3 a b i)) H
theorem mt_findS {X : Cx} : MtR X "str.find" rFind3 := mt_find3
def rStarts3 : V → List V → Hp → VK → Prop := fun x xs H Q => ∃ (a b : Str) (i : Int), x = .str a ∧ xs = [.str b, .int i] ∧ Q (.bl (Txt.startswith3 a b i)) H
theorem mt_startsS {X : Cx} : MtR X "str.startswith" rStarts3 := mt_startswith3
def rIsdigit : V → List V → Hp → VK → Prop := fun x xs H Q => ∃ a, x = .str a ∧ xs = [] ∧ True ∧ Q (.bl (Txt.isdigit a)) H
theorem mt_isdigitS {X : Cx} : MtR X "str.isdigit" rIsdigit := mt_isdigit
/-- where the first c from i on stands; -1 -/
def findC (cs : List Nat) (c i : Nat) : Int := if i + ((cs.drop i).takeWhile (fun x => x != c)).length < cs.length then ((i + ((cs.drop i).takeWhile (fun x => x != c)).length : Nat) : Int) else -1
theorem tw_get {p : Nat → Bool} : ∀ {l : List Nat} {j : Nat} {x : Nat}, j < (l.takeWhile p).length → l[j]? = some x → p x = true
  | [], _, _, h, _ => by simp at h
  | a :: l, j, x, h, e => by
    rw [List.takeWhile_cons] at h
    by_cases ha : p a = true
    · rw [if_pos ha] at h
      cases j with
      | zero => rw [List.getElem?_cons_zero] at e; cases e; exact ha
      | succ j => exact tw_get (l := l) (j := j) (by simpa using h) (by simpa using e)
    · rw [if_neg ha] at h; simp at h
theorem tw_end {p : Nat → Bool} : ∀ {l : List Nat}, (l.takeWhile p).length < l.length → ∃ x, l[(l.takeWhile p).length]? = some x ∧ p x = false
  | [], h => by simp at h
  | a :: l, h => by
    rw [List.takeWhile_cons] at h ⊢
    by_cases ha : p a = true
    · rw [if_pos ha] at h ⊢
      obtain ⟨x, e, hx⟩ := tw_end (l := l) (by simpa using h)
      exact ⟨x, by simpa using e, hx⟩
    · rw [if_neg ha]
      exact ⟨a, by simp, by simpa using ha⟩
theorem tw_le {p : Nat → Bool} (l : List Nat) : (l.takeWhile p).length ≤ l.length := (List.takeWhile_prefix p).length_le
/-- the first place of a c is told by takeWhile -/
theorem tw_first {c : Nat} {l : List Nat} {k : Nat} (h1 : l[k]? = some c) (h2 : ∀ j, j < k → l[j]? ≠ some c) : (l.takeWhile (fun x => x != c)).length = k := by
  rcases Nat.lt_trichotomy (l.takeWhile (fun x => x != c)).length k with h | h | h
  · obtain ⟨hk, _⟩ := List.getElem?_eq_some_iff.mp h1
    obtain ⟨x, e, hx⟩ := tw_end (p := fun x => x != c) (l := l) (by omega)
    have : x = c := by simpa using hx
    exact absurd (this ▸ e) (h2 _ h)
  · exact h
  · have := tw_get h h1
    simp at this
theorem find_T {cs : List Nat} {c i : Nat} (hi : i ≤ cs.length) : Txt.find3 ⟨cs.toArray⟩ ⟨#[c]⟩ (i : Int) = findC cs c i := by
  have hf : PySem.fromIndex (⟨cs.toArray⟩ : Str).length (i : Int) = i := by
    rw [len_T]
    unfold PySem.fromIndex
    first
      | (simp; omega)
      | (simp; done)
      | omega
  have gd : ∀ v, v < cs.length → (⟨cs.toArray⟩ : Str).cps.getD v 0 = cs.getD v 0 := fun v hv => by simp [Array.getD, hv, List.getD]
  unfold findC
  rcases StrLaws.find3_spec ⟨cs.toArray⟩ c (i : Int) with ⟨e, hn⟩ | ⟨k, e, h1, h2, h3, h4⟩
  · rw [hf] at hn
    rw [len_T] at hn
    rw [e, if_neg]
    intro hlt
    have hl2 : ((cs.drop i).takeWhile (fun x => x != c)).length < (cs.drop i).length := by rw [List.length_drop]; omega
    obtain ⟨x, ex, hx⟩ := tw_end hl2
    have : x = c := by simpa using hx
    subst this
    rw [List.getElem?_drop] at ex
    obtain ⟨hv, ev⟩ := List.getElem?_eq_some_iff.mp ex
    refine hn _ (Nat.le_add_right _ _) hv ?_
    rw [gd _ hv, List.getD_eq_getElem?_getD, ex]
    rfl
  · rw [hf] at h1 h4
    rw [len_T] at h2
    have hk : (cs.drop i)[k - i]? = some c := by
      rw [List.getElem?_drop, show i + (k - i) = k by omega, List.getElem?_eq_getElem h2]
      rw [gd _ h2, List.getD_eq_getElem?_getD, List.getElem?_eq_getElem h2] at h3
      exact congrArg some h3
    have hb : ∀ j, j < k - i → (cs.drop i)[j]? ≠ some c := fun j hj z => by
      rw [List.getElem?_drop] at z
      obtain ⟨hv, ev⟩ := List.getElem?_eq_some_iff.mp z
      refine h4 (i + j) (Nat.le_add_right _ _) (by omega) ?_
      rw [gd _ hv, List.getD_eq_getElem?_getD, z]
      rfl
    have hl := tw_first hk hb
    rw [e, hl, if_pos (by omega)]
    congr 1
    omega
theorem w_find {Q : VK} {H : Hp} {cs : List Nat} {c i : Nat} (hi : i ≤ cs.length) (k : Q (.int (findC cs c i)) H) : rFind3 (T cs) [T [c], .int (i : Int)] H Q :=
  ⟨_, ⟨#[c]⟩, _, rfl, rfl, by rw [find_T hi]; exact k⟩
theorem starts_T {cs b : List Nat} {i : Nat} (hi : i ≤ cs.length) : Txt.startswith3 ⟨cs.toArray⟩ ⟨b.toArray⟩ (i : Int) = b.isPrefixOf (cs.drop i) := by
  have hf : PySem.fromIndex (⟨cs.toArray⟩ : Str).length (i : Int) = i := by
    rw [len_T]
    unfold PySem.fromIndex
    first
      | (simp; omega)
      | (simp; done)
      | omega
  unfold Txt.startswith3
  rw [hf, len_T, len_T]
  have e : Builtin.Str.subAt ⟨cs.toArray⟩ ⟨b.toArray⟩ i = decide ((cs.drop i).take b.length = b) := by
    unfold Builtin.Str.subAt
    rw [len_T]
    have : (⟨cs.toArray⟩ : Str).cps.extract i (i + b.length) = ((cs.drop i).take b.length).toArray := by
      apply Array.ext'
      simp [List.extract_eq_drop_take, List.take_drop]
    rw [this]
    by_cases h : (cs.drop i).take b.length = b
    · rw [decide_eq_true h, h]; simp
    · rw [decide_eq_false h]
      refine beq_eq_false_iff_ne.mpr fun z => h ?_
      have := congrArg Array.toList z
      simpa using this
  rw [e, Bool.eq_iff_iff, List.isPrefixOf_iff_prefix, Bool.and_eq_true, decide_eq_true_iff, decide_eq_true_iff]
  constructor
  · rintro ⟨_, h⟩
    rw [← h]
    exact List.take_prefix _ _
  · intro h
    have hl := h.length_le
    rw [List.length_drop] at hl
    refine ⟨by have : b.length = 0 ∨ 0 < b.length := by omega
               omega, (List.prefix_iff_eq_take.mp h).symm⟩
theorem w_starts {Q : VK} {H : Hp} {cs b : List Nat} {i : Nat} (hi : i ≤ cs.length) (k : Q (.bl (b.isPrefixOf (cs.drop i))) H) : rStarts3 (T cs) [T b, .int (i : Int)] H Q :=
  ⟨_, ⟨b.toArray⟩, _, rfl, rfl, by rw [starts_T hi]; exact k⟩
theorem dig_ascii : ∀ c, c < 128 → Unicode.isDigit c = (decide (48 ≤ c) && decide (c ≤ 57)) := by decide +kernel
theorem w_isdigit {Q : VK} {H : Hp} {cs : List Nat} (hne : cs ≠ []) (ha : ∀ c ∈ cs, c < 128) (k : Q (.bl (cs.all fun c => decide (48 ≤ c) && decide (c ≤ 57))) H) : rIsdigit (T cs) [] H Q := by
  refine ⟨_, rfl, rfl, trivial, ?_⟩
  have e : Txt.isdigit ⟨cs.toArray⟩ = cs.all fun c => decide (48 ≤ c) && decide (c ≤ 57) := by
    unfold Txt.isdigit
    rw [len_T]
    have h0 : 0 < cs.length := by
      cases cs with
      | nil => exact absurd rfl hne
      | cons _ _ => simp
    have h1 : cs.toArray.all Unicode.isDigit = cs.all fun c => decide (48 ≤ c) && decide (c ≤ 57) := by
      rw [List.all_toArray]
      rw [Bool.eq_iff_iff, List.all_eq_true, List.all_eq_true]
      exact ⟨fun h c hc => by rw [← dig_ascii c (ha c hc)]; exact h c hc, fun h c hc => by rw [dig_ascii c (ha c hc)]; exact h c hc⟩
    show (decide (cs.length > 0) && cs.toArray.all Unicode.isDigit) = _
    rw [h1, decide_eq_true h0, Bool.true_and]
  rw [e]
  exact k
end Lv
/-! Trees of tuples, texts, numbers, truths and None; two of one shape are told the same. -/
namespace Lv
open PySem PySem.Spec PyProof.Rows L2
inductive Tr where
  | s (a : List Nat)
  | i (x : Int)
  | b (x : Bool)
  | n
  | t (l : List Tr)
mutual
inductive TrAt (K : PySem.W.Frag) (H : Hp) : V → Tr → Prop
  | s {a : List Nat} : TrAt K H (T a) (.s a)
  | i {x : Int} : TrAt K H (.int x) (.i x)
  | b {x : Bool} : TrAt K H (.bl x) (.b x)
  | n : TrAt K H .non .n
  | t {p : Addr} {vs : List V} {l : List Tr} : SqT K H p vs → TrsAt K H vs l → TrAt K H (.ref p) (.t l)
inductive TrsAt (K : PySem.W.Frag) (H : Hp) : List V → List Tr → Prop
  | nil : TrsAt K H [] []
  | cons {v : V} {t : Tr} {vs : List V} {l : List Tr} : TrAt K H v t → TrsAt K H vs l → TrsAt K H (v :: vs) (t :: l)
end
mutual
theorem TrAt.imp {K : PySem.W.Frag} {H H' : Hp} (f : ∀ p vs, SqT K H p vs → SqT K H' p vs) : ∀ {v : V} {t : Tr}, TrAt K H v t → TrAt K H' v t
  | _, _, .s => .s
  | _, _, .i => .i
  | _, _, .b => .b
  | _, _, .n => .n
  | _, _, .t h r => .t (f _ _ h) (TrsAt.imp f r)
theorem TrsAt.imp {K : PySem.W.Frag} {H H' : Hp} (f : ∀ p vs, SqT K H p vs → SqT K H' p vs) : ∀ {vs : List V} {l : List Tr}, TrsAt K H vs l → TrsAt K H' vs l
  | _, _, .nil => .nil
  | _, _, .cons h r => .cons (TrAt.imp f h) (TrsAt.imp f r)
end
theorem TrAt.same {K : PySem.W.Frag} {H H1 : Hp} {v : V} {t : Tr} (h : TrAt K H v t) (s : Same H H1) : TrAt K H1 v t := h.imp fun p vs q => Same.sqT s q
theorem TrsAt.same {K : PySem.W.Frag} {H H1 : Hp} {vs : List V} {l : List Tr} (h : TrsAt K H vs l) (s : Same H H1) : TrsAt K H1 vs l := h.imp fun p vs q => Same.sqT s q
theorem sqT_but {K : PySem.W.Frag} {D p : Addr} {H H1 : Hp} {xs vs : List V} (q : SqT K H p vs) (hD : H D = some (.lst xs)) (k : ∀ b o, b ≠ D → H b = some o → H1 b = some o) : SqT K H1 p vs := by
  rcases q with (h | ⟨o, h⟩) | h
  · exact .inl (.inl (k _ _ (fun e => by rw [e, hD] at h; cases h) h))
  · exact .inl (.inr ⟨o, k _ _ (fun e => by rw [e, hD] at h; cases h) h⟩)
  · exact .inr h
theorem TrAt.but {K : PySem.W.Frag} {D : Addr} {H H1 : Hp} {xs : List V} {v : V} {t : Tr} (h : TrAt K H v t) (hD : H D = some (.lst xs)) (k : ∀ b o, b ≠ D → H b = some o → H1 b = some o) : TrAt K H1 v t := h.imp fun _ _ q => sqT_but q hD k
theorem TrsAt.but {K : PySem.W.Frag} {D : Addr} {H H1 : Hp} {xs : List V} {vs : List V} {l : List Tr} (h : TrsAt K H vs l) (hD : H D = some (.lst xs)) (k : ∀ b o, b ≠ D → H b = some o → H1 b = some o) : TrsAt K H1 vs l := h.imp fun _ _ q => sqT_but q hD k
theorem TrsAt.snoc {K : PySem.W.Frag} {H : Hp} {v : V} {t : Tr} (h : TrAt K H v t) : ∀ {vs : List V} {l : List Tr}, TrsAt K H vs l → TrsAt K H (vs ++ [v]) (l ++ [t])
  | _, _, .nil => .cons h .nil
  | _, _, .cons a r => .cons a (TrsAt.snoc h r)
theorem TrsAt.length {K : PySem.W.Frag} {H : Hp} : ∀ {vs : List V} {l : List Tr}, TrsAt K H vs l → vs.length = l.length
  | _, _, .nil => rfl
  | _, _, .cons _ r => by rw [List.length_cons, List.length_cons, TrsAt.length r]
theorem TrsAt.get {K : PySem.W.Frag} {H : Hp} : ∀ {vs : List V} {l : List Tr} {i : Nat}, TrsAt K H vs l → i < l.length → ∃ v t, vs[i]? = some v ∧ l[i]? = some t ∧ TrAt K H v t
  | _, _, _, .nil, h => absurd h (Nat.not_lt_zero _)
  | _, _, 0, .cons h _, _ => ⟨_, _, rfl, rfl, h⟩
  | _, _, i + 1, .cons _ r, h => by
    obtain ⟨v, t, h1, h2, h3⟩ := TrsAt.get r (i := i) (by simpa using h)
    exact ⟨v, t, by simpa using h1, by simpa using h2, h3⟩
theorem trs_texts {K : PySem.W.Frag} {H : Hp} : ∀ l : List (List Nat), TrsAt K H (l.map T) (l.map Tr.s)
  | [] => .nil
  | _ :: l => .cons .s (trs_texts l)
/-- no tree is nested deeper than so -/
def TrD : Nat → Tr → Prop
  | 0, _ => False
  | n + 1, .t l => l.length < 1000000 ∧ ∀ t ∈ l, TrD n t
  | _ + 1, _ => True
/-! isinstance -/
section
variable {K : PySem.W.Frag} {H : Hp} {Q : VK}
theorem w_isi {x : V} {a ty : String} {r : Bool} (hx : TyX K H x (.type a)) (k : Q (.bl r) H) (hk : kitB a ty = some r := by decide +kernel) : rIsi K [x, .ty ty] H Q := ⟨_, _, _, _, _, rfl, .ty _, hx, kit_ty hk, k⟩
theorem tyx_tup {p : Addr} {vs : List V} (h : SqT K H p vs) : TyX K H (.ref p) (.type "tuple") := by
  rcases h with (h | ⟨o, h⟩) | ⟨o, its, n, h, e1, e2, _⟩
  · exact .base (.tup h)
  · exact .fTuple h
  · exact .kTuple h e1
theorem tyx_s {a : List Nat} : TyX K H (T a) (.type "str") := .base (.str _)
theorem tyx_i {i : Int} : TyX K H (.int i) (.type "int") := .base (.int _)
theorem tyx_b {b : Bool} : TyX K H (.bl b) (.type "bool") := .base (.bl _)
theorem tyx_n : TyX K H .non (.type "NoneType") := .base .non
theorem isi_s_tuple {a : List Nat} (k : Q (.bl false) H) : rIsi K [T a, .ty "tuple"] H Q := w_isi (r := false) tyx_s k
theorem isi_s_bool {a : List Nat} (k : Q (.bl false) H) : rIsi K [T a, .ty "bool"] H Q := w_isi (r := false) tyx_s k
theorem isi_s_int {a : List Nat} (k : Q (.bl false) H) : rIsi K [T a, .ty "int"] H Q := w_isi (r := false) tyx_s k
theorem isi_s_str {a : List Nat} (k : Q (.bl true) H) : rIsi K [T a, .ty "str"] H Q := w_isi (r := true) tyx_s k
theorem isi_i_tuple {i : Int} (k : Q (.bl false) H) : rIsi K [.int i, .ty "tuple"] H Q := w_isi (r := false) tyx_i k
theorem isi_i_bool {i : Int} (k : Q (.bl false) H) : rIsi K [.int i, .ty "bool"] H Q := w_isi (r := false) tyx_i k
theorem isi_i_int {i : Int} (k : Q (.bl true) H) : rIsi K [.int i, .ty "int"] H Q := w_isi (r := true) tyx_i k
theorem isi_i_str {i : Int} (k : Q (.bl false) H) : rIsi K [.int i, .ty "str"] H Q := w_isi (r := false) tyx_i k
theorem isi_b_tuple {b : Bool} (k : Q (.bl false) H) : rIsi K [.bl b, .ty "tuple"] H Q := w_isi (r := false) tyx_b k
theorem isi_b_bool {b : Bool} (k : Q (.bl true) H) : rIsi K [.bl b, .ty "bool"] H Q := w_isi (r := true) tyx_b k
theorem isi_b_int {b : Bool} (k : Q (.bl true) H) : rIsi K [.bl b, .ty "int"] H Q := w_isi (r := true) tyx_b k
theorem isi_b_str {b : Bool} (k : Q (.bl false) H) : rIsi K [.bl b, .ty "str"] H Q := w_isi (r := false) tyx_b k
theorem isi_n_tuple  (k : Q (.bl false) H) : rIsi K [.non, .ty "tuple"] H Q := w_isi (r := false) tyx_n k
theorem isi_n_bool  (k : Q (.bl false) H) : rIsi K [.non, .ty "bool"] H Q := w_isi (r := false) tyx_n k
theorem isi_n_int  (k : Q (.bl false) H) : rIsi K [.non, .ty "int"] H Q := w_isi (r := false) tyx_n k
theorem isi_n_str  (k : Q (.bl false) H) : rIsi K [.non, .ty "str"] H Q := w_isi (r := false) tyx_n k
theorem isi_t_tuple {p : Addr} (h : ∃ vs, SqT K H p vs) (k : Q (.bl true) H) : rIsi K [.ref p, .ty "tuple"] H Q := w_isi (r := true) (h.elim fun _ h => tyx_tup h) k
theorem isi_t_bool {p : Addr} (h : ∃ vs, SqT K H p vs) (k : Q (.bl false) H) : rIsi K [.ref p, .ty "bool"] H Q := w_isi (r := false) (h.elim fun _ h => tyx_tup h) k
theorem isi_t_int {p : Addr} (h : ∃ vs, SqT K H p vs) (k : Q (.bl false) H) : rIsi K [.ref p, .ty "int"] H Q := w_isi (r := false) (h.elim fun _ h => tyx_tup h) k
theorem isi_t_str {p : Addr} (h : ∃ vs, SqT K H p vs) (k : Q (.bl false) H) : rIsi K [.ref p, .ty "str"] H Q := w_isi (r := false) (h.elim fun _ h => tyx_tup h) k
end

/-! is it None -/
theorem ifN_s {a : List Nat} {A B : Prop} (k : B) : if decide (T a = V.non) = true then A else B := by rw [if_neg (by simp)]; exact k
theorem ifN_i {a : Int} {A B : Prop} (k : B) : if decide (V.int a = V.non) = true then A else B := by rw [if_neg (by simp)]; exact k
theorem ifN_b {a : Bool} {A B : Prop} (k : B) : if decide (V.bl a = V.non) = true then A else B := by rw [if_neg (by simp)]; exact k
theorem ifN_r {a : Addr} {A B : Prop} (k : B) : if decide (V.ref a = V.non) = true then A else B := by rw [if_neg (by simp)]; exact k
theorem ifN_n {A B : Prop} (k : A) : if decide (V.non = V.non) = true then A else B := by rw [if_pos (by simp)]; exact k
theorem ifM_s {a : List Nat} {A B : Prop} (k : A) : if (!decide (T a = V.non)) = true then A else B := by rw [if_pos (by simp)]; exact k
theorem ifM_i {a : Int} {A B : Prop} (k : A) : if (!decide (V.int a = V.non)) = true then A else B := by rw [if_pos (by simp)]; exact k
theorem ifM_b {a : Bool} {A B : Prop} (k : A) : if (!decide (V.bl a = V.non)) = true then A else B := by rw [if_pos (by simp)]; exact k
theorem ifM_r {a : Addr} {A B : Prop} (k : A) : if (!decide (V.ref a = V.non)) = true then A else B := by rw [if_pos (by simp)]; exact k
theorem ifM_n {A B : Prop} (k : B) : if (!decide (V.non = V.non)) = true then A else B := by rw [if_neg (by simp)]; exact k
theorem ifB_tt {A B : Prop} (k : A) : if decide (V.bl true = V.bl true) = true then A else B := by rw [if_pos (by simp)]; exact k
theorem ifB_ff {A B : Prop} (k : A) : if decide (V.bl false = V.bl false) = true then A else B := by rw [if_pos (by simp)]; exact k
theorem ifB_tf {A B : Prop} (k : B) : if decide (V.bl true = V.bl false) = true then A else B := by rw [if_neg (by simp)]; exact k
theorem ifB_ft {A B : Prop} (k : B) : if decide (V.bl false = V.bl true) = true then A else B := by rw [if_neg (by simp)]; exact k
theorem at_self {x : V} {H : Hp} {Q : VK} (k : Q (.bl true) H) : Q (.bl (decide (x = x))) H := by rw [decide_eq_true rfl]; exact k
theorem ifE_self {x : V} {A B : Prop} (k : A) : if decide (x = x) = true then A else B := by rw [if_pos (by simp)]; exact k
theorem ifD_self {x : V} {A B : Prop} (k : B) : if (!decide (x = x)) = true then A else B := by rw [if_neg (by simp)]; exact k
end Lv
/-! More steps: a comprehension over a range or a list, the heap a letter; enumerate over a list; a tuple's index; not in. -/
namespace Lv
open PySem PySem.Spec PyProof.Rows L2
/-- all but the list at D is as it was -/
def But (D : Addr) (H H1 : Hp) : Prop := ∀ b o, b ≠ D → H b = some o → H1 b = some o
theorem same_of_but {D : Addr} {H H1 H2 : Hp} (hD : H D = none) (s : Same H H1) (k : But D H1 H2) : Same H H2 := fun b o h => k b o (fun e => by rw [e, hD] at h; cases h) (s b o h)
section
variable {σ : L2.St} {H : Hp} {Q : VK} {K : PySem.W.Frag}
/-- what a comprehension over a range asks -/
def LcR (g : TG) (tt : TT) (te : TE) (vs : List Nat) (ws : List V) (σ : L2.St) (H : Hp) (Q : VK) : Prop := ∃ j : Int, ws = [.int j] ∧ -(2 ^ 62) ≤ j ∧ j < 2 ^ 62 ∧ ∀ D, H D = none → ∃ W : Nat → Nat → Hp → Prop, (∃ m, W 0 m (upd H D (.lst []))) ∧ ∀ i m H, W i m H →
  ((Itr 0 j.toNat).stop i H ∧ Q (.ref D) H) ∨ ((Itr 0 j.toNat).go i H ∧ ∃ Nx : Hp → Prop, (∀ H', Nx H' → ∃ m', m' < m ∧ W (i + 1) m' H') ∧ ∀ x H', (Itr 0 j.toNat).yld i H x H' → g x (wipe σ vs) H' fun σ2 H2 => wipe σ2 vs = wipe σ vs ∧ tt σ2 H2 fun b H3 =>
    if b = true then te σ2 H3 fun y H4 => ∃ acc, H4 D = some (.lst acc) ∧ acc.length < sizeLine ∧ Nx (upd H4 D (.lst (acc ++ [y]))) else Nx H3)
theorem w_lcR {ta : TA} {g : TG} {tt : TT} {te : TE} {vs : List Nat} (k : ta σ H fun ws H1 => LcR g tt te vs ws σ H1 Q) : tLc (iRng1 ta) g tt te vs σ H Q := k
/-- what holds between two turns: of the list at D, and what is made so far -/
def LcN (Pv : Addr → Nat → List V → Hp → Prop) (D : Addr) (i : Nat) (H1 : Hp) : Prop := ∃ acc, acc.length ≤ i ∧ H1 D = some (.lst acc) ∧ Pv D i acc H1
theorem lc_skip {Pv : Addr → Nat → List V → Hp → Prop} {D : Addr} {i : Nat} {acc : List V} {H1 : Hp} (hl : acc.length ≤ i) (h : H1 D = some (.lst acc)) (p : Pv D (i + 1) acc H1) : LcN Pv D (i + 1) H1 := ⟨acc, by omega, h, p⟩
theorem lc_keep {Pv : Addr → Nat → List V → Hp → Prop} {D : Addr} {i : Nat} {acc : List V} {y : V} {H1 : Hp} (hl : acc.length ≤ i) (hi : i < 1000000) (h : H1 D = some (.lst acc)) (p : ∀ H5, H5 D = some (.lst (acc ++ [y])) → But D H1 H5 → Pv D (i + 1) (acc ++ [y]) H5) :
    ∃ acc, H1 D = some (.lst acc) ∧ acc.length < sizeLine ∧ LcN Pv D (i + 1) (upd H1 D (.lst (acc ++ [y]))) :=
  ⟨acc, h, Nat.lt_of_le_of_lt hl (Nat.lt_trans hi (by decide)), acc ++ [y], by rw [List.length_append]; show acc.length + 1 ≤ i + 1; omega, upd_same, p _ upd_same fun b o n e => by rw [upd_ne n]; exact e⟩
/-- over range(n) -/
theorem lc_R {g : TG} {tt : TT} {te : TE} {vs : List Nat} {j : Int} (Pv : Addr → Nat → List V → Hp → Prop) (hj : 0 ≤ j) (hn : j < 1000000)
    (h0 : ∀ D H1, H D = none → Same H H1 → H1 D = some (.lst []) → Pv D 0 [] H1)
    (hs : ∀ D (i : Nat) acc H1, (i : Int) < j → acc.length ≤ i → H1 D = some (.lst acc) → Pv D i acc H1 → g (.int (0 + (i : Int))) (wipe σ vs) H1 fun σ2 H2 => wipe σ2 vs = wipe σ vs ∧ tt σ2 H2 fun b H3 =>
      if b = true then te σ2 H3 fun y H4 => ∃ acc, H4 D = some (.lst acc) ∧ acc.length < sizeLine ∧ LcN Pv D (i + 1) (upd H4 D (.lst (acc ++ [y]))) else LcN Pv D (i + 1) H3)
    (hd : ∀ D acc H1, acc.length ≤ j.toNat → H1 D = some (.lst acc) → Pv D j.toNat acc H1 → Q (.ref D) H1) : LcR g tt te vs [.int j] σ H Q := by
  refine ⟨j, rfl, by omega, by omega, fun D hD => ?_⟩
  refine ⟨fun i m H1 => m = j.toNat - i ∧ i ≤ j.toNat ∧ LcN Pv D i H1, ⟨j.toNat, by simp, Nat.zero_le _, [], Nat.le_refl _, upd_same, h0 D _ hD (same_new0 hD) upd_same⟩, ?_⟩
  rintro i m H1 ⟨rfl, hi, acc, ha, hD1, p⟩
  by_cases hlt : i < j.toNat
  · refine .inr ⟨hlt, LcN Pv D (i + 1), fun H' p' => ⟨j.toNat - (i + 1), by omega, rfl, hlt, p'⟩, fun x H' y => ?_⟩
    obtain ⟨e, y⟩ := y
    subst e y
    exact hs D i acc _ (by omega) ha hD1 p
  · have e : i = j.toNat := by omega
    subst e
    exact .inl ⟨Nat.le_refl _, hd D acc _ ha hD1 p⟩
/-- over a list -/
def LcL (K : PySem.W.Frag) (g : TG) (tt : TT) (te : TE) (vs : List Nat) (x : V) (σ : L2.St) (H : Hp) (Q : VK) : Prop := ∃ a, x = .ref a ∧ (∃ xs, SqL K H a xs) ∧ ∀ D, H D = none → ∃ W : Nat → Nat → Hp → Prop, (∃ m, W 0 m (upd H D (.lst []))) ∧ ∀ i m H, W i m H →
  ((Itl K a).stop i H ∧ Q (.ref D) H) ∨ ((Itl K a).go i H ∧ ∃ Nx : Hp → Prop, (∀ H', Nx H' → ∃ m', m' < m ∧ W (i + 1) m' H') ∧ ∀ x H', (Itl K a).yld i H x H' → g x (wipe σ vs) H' fun σ2 H2 => wipe σ2 vs = wipe σ vs ∧ tt σ2 H2 fun b H3 =>
    if b = true then te σ2 H3 fun y H4 => ∃ acc, H4 D = some (.lst acc) ∧ acc.length < sizeLine ∧ Nx (upd H4 D (.lst (acc ++ [y]))) else Nx H3)
theorem w_lcL {te0 : TE} {g : TG} {tt : TT} {te : TE} {vs : List Nat} (k : te0 σ H fun x H1 => LcL K g tt te vs x σ H1 Q) : tLc (iList K te0) g tt te vs σ H Q := k
theorem lc_L {g : TG} {tt : TT} {te : TE} {vs : List Nat} {a : Addr} {xs : List V} (Pv : Addr → Nat → List V → Hp → Prop) (ha : SqL K H a xs)
    (h0 : ∀ D H1, H D = none → Same H H1 → H1 D = some (.lst []) → Pv D 0 [] H1)
    (hl : ∀ D i acc H1, i ≤ xs.length → Pv D i acc H1 → SqL K H1 a xs)
    (hs : ∀ D (i : Nat) x acc H1, xs[i]? = some x → acc.length ≤ i → H1 D = some (.lst acc) → Pv D i acc H1 → g x (wipe σ vs) H1 fun σ2 H2 => wipe σ2 vs = wipe σ vs ∧ tt σ2 H2 fun b H3 =>
      if b = true then te σ2 H3 fun y H4 => ∃ acc, H4 D = some (.lst acc) ∧ acc.length < sizeLine ∧ LcN Pv D (i + 1) (upd H4 D (.lst (acc ++ [y]))) else LcN Pv D (i + 1) H3)
    (hd : ∀ D acc H1, acc.length ≤ xs.length → H1 D = some (.lst acc) → Pv D xs.length acc H1 → Q (.ref D) H1) : LcL K g tt te vs (.ref a) σ H Q := by
  refine ⟨a, rfl, ⟨xs, ha⟩, fun D hD => ?_⟩
  refine ⟨fun i m H1 => m = xs.length - i ∧ i ≤ xs.length ∧ LcN Pv D i H1, ⟨xs.length, by simp, Nat.zero_le _, [], Nat.le_refl _, upd_same, h0 D _ hD (same_new0 hD) upd_same⟩, ?_⟩
  rintro i m H1 ⟨rfl, hi, acc, hac, hD1, p⟩
  have q := hl D i acc H1 hi p
  by_cases hlt : i < xs.length
  · refine .inr ⟨⟨xs, xs[i], q, List.getElem?_eq_getElem hlt⟩, LcN Pv D (i + 1), fun H' p' => ⟨xs.length - (i + 1), by omega, rfl, hlt, p'⟩, fun x H' y => ?_⟩
    obtain ⟨e, y⟩ := y
    subst e
    exact hs D i x acc _ (y xs q) hac hD1 p
  · have e : i = xs.length := by omega
    subst e
    exact .inl ⟨⟨xs, q, Nat.le_refl _⟩, hd D acc _ hac hD1 p⟩
/-- a comprehension without a test -/
theorem w_yes {G : Bool → Hp → Prop} (k : G true H) : tYes σ H G := k
/-! truth of a value -/
def rTru (K : PySem.W.Frag) (x : V) (H : Hp) (Q : Bool → Hp → Prop) : Prop := ∃ k, TruV K x H k ∧ Q k H
def tTruV (K : PySem.W.Frag) (ta : TE) : TT := fun σ H Q => ta σ H fun x H' => rTru K x H' Q
theorem pt_tru {X : Cx} {a : Expr} {ta : TE} (ha : PE X a ta) (he : ∀ whole, isTrue a X.env whole = (do let v ← whole; standAt a.pos; holding [v] (truthy v)) := by intro _; rfl) : PT X a (tTruV X.K ta) := pt_truth ha he
theorem w_tru {ta : TE} {G : Bool → Hp → Prop} (k : ta σ H fun x H' => rTru K x H' G) : tTruV K ta σ H G := k
theorem w_truL {p : Addr} {xs : List V} {G : Bool → Hp → Prop} (h : SqL K H p xs) (k1 : xs ≠ [] → G true H) (k2 : xs = [] → G false H) : rTru K (.ref p) H G := by
  refine ⟨!xs.isEmpty, .inl ⟨xs, h, rfl⟩, ?_⟩
  cases xs with
  | nil => exact k2 rfl
  | cons x xs => exact k1 (List.cons_ne_nil _ _)
theorem w_truT {p : Addr} {xs : List V} {G : Bool → Hp → Prop} (h : SqT K H p xs) (k1 : xs ≠ [] → G true H) (k2 : xs = [] → G false H) : rTru K (.ref p) H G := by
  refine ⟨!xs.isEmpty, .inr (.inl ⟨xs, h, rfl⟩), ?_⟩
  cases xs with
  | nil => exact k2 rfl
  | cons x xs => exact k1 (List.cons_ne_nil _ _)
/-! is None -/
def rIsN : R2 := fun x y H Q => y = .non ∧ Q (.bl (decide (x = .non))) H
theorem op_isN {X : Cx} : OpR X (compareOp .Is) rIsN := L2.op_isN
theorem w_isN {x : V} (k : Q (.bl (decide (x = .non))) H) : rIsN x .non H Q := ⟨rfl, k⟩
def rNotN : R2 := fun x y H Q => y = .non ∧ Q (.bl (!decide (x = .non))) H
theorem op_notN {X : Cx} : OpR X (compareOp .IsNot) rNotN := L2.op_notN
theorem w_notN {x : V} (k : Q (.bl (!decide (x = .non))) H) : rNotN x .non H Q := ⟨rfl, k⟩
/-! not in -/
theorem w_ninL {a : List Nat} {p : Addr} {l : List (List Nat)} (h : SqL K H p (l.map T)) (k : Q (.bl (!decide (a ∈ l))) H) : rIn K true (T a) (.ref p) H Q :=
  ⟨p, _, rfl, .inl h, rfl, flat_T l, by rw [if_pos rfl, inV_T]; exact k⟩
theorem w_ninT {a : List Nat} {p : Addr} {l : List (List Nat)} (h : SqT K H p (l.map T)) (k : Q (.bl (!decide (a ∈ l))) H) : rIn K true (T a) (.ref p) H Q :=
  ⟨p, _, rfl, .inr h, rfl, flat_T l, by rw [if_pos rfl, inV_T]; exact k⟩
/-! tuple(list): the new tuple's object is known (it has no dict) -/
def FT (H : Hp) (p : Addr) (xs : List V) : Prop := ∃ o : Obj, o.dict = none ∧ H p = some (.frz o (.tup xs))
theorem FT.sq {p : Addr} {xs : List V} (h : FT H p xs) : SqT K H p xs := by
  obtain ⟨o, _, h⟩ := h
  exact .inl (.inr ⟨o, h⟩)
theorem FT.same {p : Addr} {xs : List V} {H1 : Hp} (h : FT H p xs) (s : Same H H1) : FT H1 p xs := by
  obtain ⟨o, e, h⟩ := h
  exact ⟨o, e, s _ _ h⟩
theorem FT.but {p D : Addr} {xs ys : List V} {H1 : Hp} (h : FT H p xs) (hD : H D = some (.lst ys)) (k : ∀ b o, b ≠ D → H b = some o → H1 b = some o) : FT H1 p xs := by
  obtain ⟨o, e, h⟩ := h
  exact ⟨o, e, k _ _ (fun z => by rw [z, hD] at h; cases h) h⟩
def rTupOf (K : PySem.W.Frag) : List V → Hp → VK → Prop := fun xs H Q => ∃ p ys, xs = [.ref p] ∧ SqL K H p ys ∧ ∀ l o, H l = none → o.dict = none → Q (.ref l) (upd H l (.frz o (.tup ys)))
theorem call_tupleOf {X : Cx} : CallR X (.type "tuple") (rTupOf X.K) := by
  intro pins s σ H xs us Q I r h
  obtain ⟨p, ys, rfl, hq, q⟩ := h
  obtain ⟨u, rfl, rx⟩ := vals1 r
  cases rx
  obtain ⟨its, r', pl, hz⟩ := I.list hq
  have hlen := r'.length
  refine call_tuple_list pl.isList (fun h' kp => ?_) (by simp only [List.size_toArray] <;> omega)
  have I1 : Inv X pins σ H { s with heap := h' } := I.kept (t' := s.toks) kp
  have I2 : Inv X pins σ (upd H h'.objs.size (.frz { cls := .type "tuple", data := .seq its.toArray } (.tup ys))) { s with heap := h'.push { cls := .type "tuple", data := .seq its.toArray } } :=
    I1.laid (t' := s.toks) (fun b o e => Heap.get?_push_of_some _ e) (Nat.le_refl _) (show ObjOk X.prog X.w _ _ _ (.frz _ (.tup ys)) from ⟨Heap.get?_push_size _ rfl, hz, its, r', IsTup.new _ _⟩)
  exact ⟨.ref h'.objs.size, _, I2, rfl, q _ _ (I1.hok.fresh (Nat.le_refl _)) rfl⟩
theorem w_tupOf {p : Addr} {ys : List V} (h : SqL K H p ys) (k : ∀ l H1, H l = none → Same H H1 → FT H1 l ys → Q (.ref l) H1) : rTupOf K [.ref p] H Q :=
  ⟨p, ys, rfl, h, fun l o hl e => k l _ hl (same_new0 hl) ⟨o, e, upd_same⟩⟩
/-! a tuple's own method -/
def tBMT (r : V → List V → Hp → VK → Prop) (to : TE) (t : TA) : TE := fun σ H Q => to σ H fun x H1 => (∃ p xs, x = .ref p ∧ FT H1 p xs) ∧ t σ H1 fun xs H2 => r x xs H2 Q
theorem pe_bmT {X : Cx} {o e : Expr} {es : List Expr} {name : Str} {id : String} {r : V → List V → Hp → VK → Prop} {to : TE} {t : TA} {apos cpos : Pos} (pa : PlainAttrs "tuple") (slot : Slot "tuple" name id) (hty : typeOf (.builtin id) = pure (.type "method_descriptor")) (hm : MtR X id r) (ho : PE X o to) (ha : PA X (e :: es) t)
    (hbase : attributeBase o name X.env (eval o X.env) = eval o X.env := by rfl)
    (hfew : ((backTo cpos (starEach (e :: es) X.env)).all (fun x => !x.1) && (backToKw cpos (keywordEach [] X.env)).all (fun x => x.1.isSome)
      && decide ((e :: es).length + ([] : List Keyword).length + (if ([] : List Keyword).isEmpty then 0 else 1) < 30)) = true := by rfl)
    (hline : (apos.endLine == cpos.line) = true := by rfl) (hs : starEach (e :: es) X.env = (false, eval e X.env) :: starEach es X.env := by rfl) (hplain : (backTo cpos (starEach es X.env)).any (·.1) = false := by rfl) :
    PE X (.Call (.Attribute o name apos) (e :: es) [] cpos) (tBMT r to t) := by
  refine ⟨fun pins s σ H Q I h => ?_⟩
  refine wpAny_Call_method_late hbase hfew hline rfl (thn (ho.run pins s σ H _ I h) fun v s1 ⟨x, H1, I1, r1, ty, q1⟩ => ?_)
  obtain ⟨p, ys, rfl, o, hd, hp⟩ := ty
  cases r1
  obtain ⟨g, hz, its, rv, o2, g2, hc, n, hda⟩ := (show ObjOk X.prog X.w H1 s1.heap p (.frz o (.tup ys)) from I1.hok p _ hp)
  have eo : o2 = o := Option.some.inj (g2.symm.trans g)
  subst eo
  have h1 : s1.TypeIs (.ref p) "tuple" := ⟨o2, g, hc⟩
  have h2 : ∀ a, Value.ref p = .ref a → ∃ ob, s1.heap.get? a = some ob ∧ ob.dict = none := fun a e => by cases e; exact ⟨o2, g, hd⟩
  refine ⟨"tuple", id, pa, slot, hty, h1, h2, ?_⟩
  have hA := ha.run cpos pins s1 σ H1 _ I1 q1
  rw [hs] at hA ⊢
  refine Calls.callWith_builtin (by show (false || (backTo cpos (starEach es X.env)).any (·.1)) = false; rw [hplain] <;> rfl) (Calls.evalArgs_plain ?_)
  exact thn hA fun us s2 ⟨vs, H2, I2, r2, q2⟩ => hm pins s2 σ H2 (V.ref p) vs (.ref p) us Q I2 rfl r2 q2
theorem w_bmT {r : V → List V → Hp → VK → Prop} {to : TE} {t : TA} {σ : L2.St} (k : to σ H fun x H1 => (∃ p xs, x = .ref p ∧ FT H1 p xs) ∧ t σ H1 fun xs H2 => r x xs H2 Q) : tBMT r to t σ H Q := k
/-! t.index(x) -/
def rTupIx (K : PySem.W.Frag) : V → List V → Hp → VK → Prop := fun x xs H Q => ∃ p, ∃ ys : List Str, ∃ z j, x = .ref p ∧ xs = [.str z] ∧ SqT K H p (ys.map V.str) ∧ ys[j]? = some z ∧ (∀ m, m < j → ys[m]? ≠ some z) ∧ Q (.int (j : Nat)) H
theorem mt_tupIx {X : Cx} : MtR X "tuple.index" (rTupIx X.K) := L2.mt_tup_index
def S (a : List Nat) : Str := ⟨a.toArray⟩
theorem S_inj {a b : List Nat} (h : S a = S b) : a = b := T_inj (congrArg V.str h)
theorem map_T_S (l : List (List Nat)) : l.map T = (l.map S).map V.str := by rw [List.map_map]; rfl
theorem w_tupIx {a : List Nat} {p : Addr} {l : List (List Nat)} (h : SqT K H p (l.map T)) (ha : a ∈ l) (k : Q (.int ((l.idxOf a : Nat) : Int)) H) : rTupIx K (.ref p) [T a] H Q := by
  have hlt : l.idxOf a < l.length := List.idxOf_lt_length_of_mem ha
  refine ⟨p, l.map S, S a, l.idxOf a, rfl, rfl, by rw [← map_T_S]; exact h, ?_, fun m hm e => ?_, k⟩
  · rw [List.getElem?_map, List.getElem?_eq_getElem hlt, List.getElem_idxOf hlt]; rfl
  · have hm2 : m < l.length := Nat.lt_trans hm hlt
    rw [List.getElem?_map, List.getElem?_eq_getElem hm2] at e
    have e2 : l[m] = a := S_inj (Option.some.inj e)
    have z := List.not_of_lt_findIdx (p := (· == a)) (xs := l) (i := m) hm
    rw [e2] at z
    simp at z
def rAbs : List V → Hp → VK → Prop := fun xs H Q => ∃ i, xs = [.int i] ∧ Q (.int (if i < 0 then -i else i)) H
theorem call_absI {X : Cx} : CallR X (.builtin "abs") rAbs := L2.call_abs
theorem w_abs {a : Int} (k : Q (.int (if a < 0 then -a else a)) H) : rAbs [.int a] H Q := ⟨a, rfl, k⟩
theorem w_neg {f : Int → V} {a : Int} (k : Q (f a) H) : rU f (.int a) H Q := ⟨a, rfl, k⟩
def rLtS : R2 := fun x y H Q => ∃ i j, x = .str i ∧ y = .str j ∧ Q (.bl (decide (i.cps.toList < j.cps.toList))) H
theorem op_ltS {X : Cx} : OpR X (compareOp .Lt) rLtS := L2.op_lt_str
theorem w_ltS {a b : List Nat} (k : Q (.bl (decide (a < b))) H) : rLtS (T a) (T b) H Q := ⟨_, _, rfl, rfl, k⟩
def rLeT : R2 := fun x y H Q => ∃ i j, x = .str i ∧ y = .str j ∧ Q (.bl (!decide (j.cps.toList < i.cps.toList))) H
theorem op_leT {X : Cx} : OpR X (compareOp .LtE) rLeT := L2.op_le_str
theorem w_leS {a b : List Nat} (k : Q (.bl (!decide (b < a))) H) : rLeT (T a) (T b) H Q := ⟨_, _, rfl, rfl, k⟩
theorem w_all {p : Addr} {bs : List Bool} (h : SqL K H p (bs.map V.bl)) (k : Q (.bl (bs.all id)) H) : L2.rAll K [.ref p] H Q := ⟨p, bs, rfl, h, k⟩
end
/-! for i, x in enumerate(xs), a list -/
section
variable {K : PySem.W.Frag} {ta : TA} {g : TG} {tb : TS} {D : Ends} {σ : L2.St} {H : Hp}
def ForEl (K : PySem.W.Frag) (g : TG) (tb : TS) (vs : List V) (D : Ends) (σ : L2.St) (H : Hp) : Prop := ∃ a xs, vs = [.ref a] ∧ SqL K H a xs ∧ ∃ W : Nat → Nat → L2.St → Hp → Prop, (∃ m, W 0 m σ H) ∧ ∀ i m σ H, W i m σ H →
  ((Ite K a).stop i H ∧ D.nx σ H) ∨ ((Ite K a).go i H ∧ ∃ N : L2.St → Hp → Prop, (∀ σ' H', N σ' H' → ∃ m', m' < m ∧ W (i + 1) m' σ' H') ∧ ∀ x H', (Ite K a).yld i H x H' → g x σ H' fun σ2 H2 => tb { D with nx := N, ct := N, bk := D.nx } σ2 H2)
theorem w_forEl (k : ta σ H fun vs H1 => ForEl K g tb vs D σ H1) : tFor (iEnum K ta) g tb D σ H := k
theorem for_El {a : Addr} {xs : List V} (Pv : Nat → L2.St → Hp → Prop) (h0 : Pv 0 σ H) (hl : ∀ i σ H, i ≤ xs.length → Pv i σ H → SqL K H a xs)
    (hs : ∀ i x σ H p H', xs[i]? = some x → Pv i σ H → H p = none → Same H H' → H' p = some (.tup [.int (i : Int), x]) → g (.ref p) σ H' fun σ2 H2 => tb { D with nx := Pv (i + 1), ct := Pv (i + 1), bk := D.nx } σ2 H2)
    (hd : ∀ σ H, Pv xs.length σ H → D.nx σ H) : ForEl K g tb [.ref a] D σ H := by
  refine ⟨a, xs, rfl, hl 0 σ H (Nat.zero_le _) h0, fun i m σ H => m = xs.length - i ∧ i ≤ xs.length ∧ Pv i σ H, ⟨xs.length, by simp, Nat.zero_le _, h0⟩, ?_⟩
  rintro i m σ H ⟨rfl, hi, p⟩
  by_cases hlt : i < xs.length
  · refine .inr ⟨⟨xs, xs[i], hl i σ H hi p, List.getElem?_eq_getElem hlt⟩, Pv (i + 1), fun σ' H' p' => ⟨xs.length - (i + 1), by omega, rfl, hlt, p'⟩, fun x H' y => ?_⟩
    obtain ⟨q, z, rfl, hq, rfl, hz⟩ := y
    exact hs i z σ H q _ (hz xs (hl i σ H hi p)) p hq (same_new hq) upd_same
  · have e : i = xs.length := by omega
    subst e
    exact .inl ⟨⟨xs, hl _ σ H hi p, Nat.le_refl _⟩, hd σ H p⟩
end
end Lv
namespace Lv
open PySem PySem.Spec PyProof.Rows L2
theorem ite_g {c : Prop} [Decidable c] {a b : Prop} (h : if c then a else b) : if c then a else b := h
section
open PySem PySem.Spec PyProof.Rows L2
def topS (i : Nat) : Stmt := PySem.Challenge.pw_livestead_k18_instructions_in_their_orde.main.body.getD i (.Pass ⟨0, 0, 0, 0⟩)
structure Bn (mg : Str → Option Value) : Prop where
  n_len : mg "len" = none
  n_int : mg "int" = none
  n_list : mg "list" = none
  n_range : mg "range" = none
  n_max : mg "max" = none
  n_str : mg "str" = none
  n_isinstance : mg "isinstance" = none
  n_bool : mg "bool" = none
  n_ord : mg "ord" = none
  n_tuple : mg "tuple" = none
  n_enumerate : mg "enumerate" = none
  n_min : mg "min" = none
  n_abs : mg "abs" = none
  n_all : mg "all" = none
  n_any : mg "any" = none
  n_sorted : mg "sorted" = none
  n_sum : mg "sum" = none

end
section
open PySem PySem.Spec PyProof.Rows L2
open TL (numL tl_num numL_digits numL_ne numL_val numL_len numL_lt numL_step)
/-! ### codes -/
def cds (s : String) : List Nat := (Str.ofString s).cps.toList
abbrev aJ : List Nat := cds "abcdefghijklmnopqrstuvwxyzABCDEFGHIJKLMNOPQRSTUVWXYZ0123456789"
abbrev aLow : List Nat := cds "abcdefghijklmnopqrstuvwxyz"
abbrev aUp : List Nat := cds "ABCDEFGHIJKLMNOPQRSTUVWXYZ"
abbrev aDig : List Nat := cds "0123456789"
def WL : List (List Nat) := ["method", "var", "end", "give", "fail", "if", "then", "else", "while", "do", "try", "catch", "keep", "always", "none", "true", "false", "self", "super", "new", "not", "and", "or"].map cds
theorem len_aJ : aJ.length = 62 := by decide +kernel
theorem len_aLow : aLow.length = 26 := by decide +kernel
theorem len_aUp : aUp.length = 26 := by decide +kernel
theorem WL_len : ∀ x ∈ WL, x.length ≤ 6 := by decide +kernel
theorem WL_one : ∀ x ∈ WL, ¬ (x ++ [49]) ∈ WL := by decide +kernel
theorem WL_form : ∀ x ∈ WL, ∃ c r, x = c :: r ∧ c ∈ aLow ∧ (∀ d ∈ r, d ∈ aJ) := by
  have h : ∀ x ∈ WL, x.headD 0 ∈ aLow ∧ (∀ d ∈ x.tail, d ∈ aJ) ∧ x ≠ [] := by decide +kernel
  intro x hx
  obtain ⟨h1, h2, h3⟩ := h x hx
  cases x with
  | nil => exact absurd rfl h3
  | cons c r => exact ⟨c, r, rfl, h1, h2⟩
theorem at_mod {l : List Nat} {n : Nat} (hl : l.length = n) (h0 : 0 < n) (x : Int) : ∃ c, c ∈ l ∧ atI l (x.fmod (n : Int)) = some c := by
  have b0 := Int.fmod_nonneg_of_pos x (show (0 : Int) < n by omega)
  have b1 := Int.fmod_lt_of_pos x (show (0 : Int) < n by omega)
  obtain ⟨j, e⟩ : ∃ j : Nat, x.fmod (n : Int) = (j : Int) := ⟨(x.fmod (n : Int)).toNat, by omega⟩
  have hj : j < l.length := by omega
  refine ⟨l[j], List.getElem_mem hj, ?_⟩
  rw [e]
  exact atI_nat (List.getElem?_eq_getElem hj)
theorem at_lt {l : List Nat} {x : Int} (h0 : 0 ≤ x) (h1 : x < l.length) : ∃ c, c ∈ l ∧ atI l x = some c := by
  obtain ⟨j, rfl⟩ : ∃ j : Nat, x = (j : Int) := ⟨x.toNat, by omega⟩
  have hj : j < l.length := by omega
  exact ⟨l[j], List.getElem_mem hj, atI_nat (List.getElem?_eq_getElem hj)⟩
theorem cut_mem {a : List Nat} {lo hi : Option Int} {c : Nat} (h : c ∈ cut a lo hi) : c ∈ a := List.mem_of_mem_drop (List.mem_of_mem_take h)
theorem cut_len (a : List Nat) (lo hi : Option Int) : (cut a lo hi).length ≤ a.length := by
  unfold cut
  rw [List.length_take, List.length_drop]
  omega
theorem cut_to (a : List Nat) (k : Nat) : cut a none (some (k : Int)) = a.take k := by
  unfold cut
  rw [HT.sIx_none, HT.sIx_nat, List.drop_zero, Nat.sub_zero]
  by_cases h : k ≤ a.length
  · rw [Nat.min_eq_left h]
  · rw [Nat.min_eq_right (by omega), List.take_of_length_le (Nat.le_refl _), List.take_of_length_le (by omega)]
theorem cut_mid (a : List Nat) {i j : Nat} (hj : j ≤ a.length) : cut a (some (i : Int)) (some (j : Int)) = (a.drop i).take (j - i) := by
  unfold cut
  rw [HT.sIx_nat, HT.sIx_nat, Nat.min_eq_left hj]
  by_cases h : i ≤ a.length
  · rw [Nat.min_eq_left h]
  · rw [Nat.min_eq_right (by omega)]
    have e1 : j - a.length = 0 := by omega
    have e2 : j - i = 0 := by omega
    rw [e1, e2]; rfl
theorem mem_rep {n : Nat} {a : List Nat} {c : Nat} (h : c ∈ (List.replicate n a).flatten) : c ∈ a := by
  obtain ⟨l, h1, h2⟩ := List.mem_flatten.mp h
  rw [(List.mem_replicate.mp h1).2] at h2
  exact h2
theorem len_rep (n : Nat) (a : List Nat) : (List.replicate n a).flatten.length = n * a.length := by simp
theorem rep_one (n c : Nat) : (List.replicate n [c]).flatten = List.replicate n c := by
  induction n with
  | zero => rfl
  | succ n ih => rw [List.replicate_succ, List.flatten_cons, ih, List.replicate_succ]; rfl

/-! ### the tokens of a text, as a function of its codes -/
def MLs : List (List Nat) := [":=", "<=", "(", ")", "{", "}", ",", ";", ".", "|", "=", "<", "+", "-", "*", "/"].map cds
theorem len_MLs : MLs.length = 16 := by decide +kernel
theorem len_WL : WL.length = 23 := by decide +kernel
def letC (c : Nat) : Bool := decide (c ∈ aJ)
def digC (c : Nat) : Bool := decide (48 ≤ c) && decide (c ≤ 57)
def srcC (c : Nat) : Bool := decide (32 ≤ c) && decide (c ≤ 126) && !decide (c = 37)
theorem aJ_split : aJ = aLow ++ aUp ++ aDig := by decide +kernel
theorem let_or (c : Nat) : letC c = (decide (c ∈ aLow) || (decide (c ∈ aUp) || decide (c ∈ aDig))) := by
  unfold letC
  rw [aJ_split]
  simp only [List.mem_append, Bool.decide_or, Bool.or_assoc]
theorem aJ_ascii : ∀ c ∈ aJ, c < 128 := by decide +kernel
theorem dig_iff (c : Nat) : decide (c ∈ aDig) = digC c := by
  have e : aDig = [48, 49, 50, 51, 52, 53, 54, 55, 56, 57] := by decide +kernel
  unfold digC
  rw [e, Bool.eq_iff_iff, Bool.and_eq_true, decide_eq_true_iff, decide_eq_true_iff, decide_eq_true_iff]
  simp only [List.mem_cons, List.not_mem_nil, or_false]
  omega
theorem dig_let {c : Nat} (h : digC c = true) : letC c = true := by
  rw [let_or, dig_iff, h]; simp
/-- kind, value, length -/
def numRun (a : List Nat) : Option Nat := if (a.all digC && !(decide (a.headD 0 = 48) && decide (1 < a.length)) && decide (a.length ≤ 10) && decide (NumText.digitsVal a ≤ 1000000000)) = true then some (NumText.digitsVal a) else none
def ofRun (a : List Nat) : Option (List Nat × V) :=
  if digC (a.headD 0) = true then (numRun a).map fun n => (cds "number", .int (n : Int))
  else if 20 < a.length then none
  else if a.headD 0 ∈ aUp then some (cds "class", T a)
  else if a ∈ WL then some (cds "word", T a)
  else some (cds "name", T a)
def upQ (r : List Nat) : List Nat := r.takeWhile (fun x => x != 39)
def endTx (r : List Nat) : Option (List Nat) := if (decide ((upQ r).length < r.length) && decide ((upQ r).length ≤ 200) && (upQ r).all srcC) = true then some (upQ r) else none
def one : List Nat → Option (List Nat × V × Nat)
  | [] => none
  | c :: r => if c = 39 then (endTx r).map fun b => (cds "text", T b, b.length + 2)
    else if letC c = true then (ofRun ((c :: r).takeWhile letC)).map fun p => (p.1, p.2, ((c :: r).takeWhile letC).length)
    else (MLs.find? fun m => m.isPrefixOf (c :: r)).map fun m => (cds "mark", T m, m.length)
theorem one_cons (c : Nat) (r : List Nat) : one (c :: r) = if c = 39 then (endTx r).map fun b => (cds "text", T b, b.length + 2)
    else if letC c = true then (ofRun ((c :: r).takeWhile letC)).map fun p => (p.1, p.2, ((c :: r).takeWhile letC).length)
    else (MLs.find? fun m => m.isPrefixOf (c :: r)).map fun m => (cds "mark", T m, m.length) := rfl
abbrev Tk := List Nat × V × Nat
def lex (pos : Nat) : List Nat → List Tk × Option Nat
  | [] => ([], none)
  | c :: r => if c = 32 then lex (pos + 1) r
    else match one (c :: r) with
      | none => ([], some pos)
      | some t => let q := lex (pos + t.2.2) (r.drop (t.2.2 - 1)); ((t.1, t.2.1, pos) :: q.1, q.2)
termination_by l => l.length
decreasing_by
  · simp
  · simp only [List.length_drop, List.length_cons]; omega
theorem lex_nil (pos : Nat) : lex pos [] = ([], none) := by rw [lex]
theorem lex_sp (pos : Nat) (r : List Nat) : lex pos (32 :: r) = lex (pos + 1) r := by rw [lex, if_pos rfl]
theorem lex_wrong {pos c : Nat} {r : List Nat} (h : c ≠ 32) (e : one (c :: r) = none) : lex pos (c :: r) = ([], some pos) := by rw [lex, if_neg h, e]
theorem lex_tok {pos c n : Nat} {r k : List Nat} {v : V} (h : c ≠ 32) (e : one (c :: r) = some (k, v, n)) : lex pos (c :: r) = ((k, v, pos) :: (lex (pos + n) (r.drop (n - 1))).1, (lex (pos + n) (r.drop (n - 1))).2) := by rw [lex, if_neg h, e]
theorem MLs_pos : ∀ m ∈ MLs, 1 ≤ m.length := by decide +kernel
theorem one_pos {l k : List Nat} {v : V} {n : Nat} (h : one l = some (k, v, n)) : 1 ≤ n ∧ n ≤ l.length := by
  cases l with
  | nil => cases h
  | cons c r =>
    rw [one_cons] at h
    by_cases hc : c = 39
    · rw [if_pos hc] at h
      cases e : endTx r with
      | none => rw [e] at h; cases h
      | some b =>
        rw [e] at h
        injection h with h
        injection h with _ h
        injection h with _ h
        unfold endTx at e
        split at e
        · rename_i hb
          cases e
          rw [Bool.and_eq_true, Bool.and_eq_true, decide_eq_true_iff] at hb
          have := hb.1.1
          rw [List.length_cons]
          omega
        · cases e
    · rw [if_neg hc] at h
      by_cases hl : letC c = true
      · rw [if_pos hl] at h
        cases e : ofRun ((c :: r).takeWhile letC) with
        | none => rw [e] at h; cases h
        | some p =>
          rw [e] at h
          injection h with h
          injection h with _ h
          injection h with _ h
          subst h
          refine ⟨?_, tw_le _⟩
          rw [List.takeWhile_cons, if_pos hl]
          simp
      · rw [if_neg hl] at h
        cases e : MLs.find? fun m => m.isPrefixOf (c :: r) with
        | none => rw [e] at h; cases h
        | some m =>
          rw [e] at h
          injection h with h
          injection h with _ h
          injection h with _ h
          subst h
          refine ⟨MLs_pos m (List.mem_of_find?_eq_some e), ?_⟩
          have := List.find?_some e
          exact (List.isPrefixOf_iff_prefix.mp this).length_le
end
section
/-! Objects of the program's own classes, where nothing is raised: fields, methods, new ones. -/
open PySem PySem.Spec PyProof.Rows L2
open C8 (Cal Met Mak cal0 pe_c pe_gc pss_cut tCut)
def OFld (K : PySem.W.Frag) (f : Str) (x : V) (H : Hp) (Q : VK) : Prop := ∃ a C dx fs v, x = .ref a ∧ H a = some (.ins C dx fs) ∧ Cls K C ∧ NoAttr K C f ∧ fs.lookup f = some v ∧ Q v H
def OMeth (C : Addr) (m : Str) (sp : Sp) (dvs : List V) (E : XK) (t : TA) (σ : L2.St) (x : V) (H : Hp) (Q : VK) : Prop := ∃ a dx fs, x = .ref a ∧ H a = some (.ins C dx fs) ∧ fs.lookup m = none ∧ t σ H fun vs H2 => sp (x :: (vs ++ dvs)) H2 Q E
def OSet (K : PySem.W.Frag) (f : Str) (y x : V) (H : Hp) (G : Hp → Prop) : Prop := ∃ a C dx fs, x = .ref a ∧ H a = some (.ins C dx fs) ∧ Cls K C ∧ NoAttr K C f ∧ fs.length < 1000 ∧ G (upd H a (.ins C dx (putF f y fs)))
def OMake (C : Addr) (sp : Sp) (dvs : List V) (E : XK) (vs : List V) (H1 : Hp) (Q : VK) : Prop := ∀ x dx, H1 x = none → H1 dx = none → dx ≠ x → sp (.ref x :: (vs ++ dvs)) (upd (upd H1 dx (.own x)) x (.ins C dx [])) (fun v H2 => v = .non ∧ Q (.ref x) H2) E
section
variable {σ : L2.St} {H : Hp} {Q : VK} {D : Ends} {v x y : V} {ta tv : TE} {t : TA} {K : PySem.W.Frag} {f m : Str} {C r dx : Addr} {fs : List (Str × V)} {sp : Sp} {dvs : List V} {E : XK} {rd : V → V → Hp → VK → Prop} {G : Hp → Prop}
theorem o_fld (k : ta σ H fun x H1 => OFld K f x H1 Q) : tFld K ta f σ H Q := k
theorem o_meth (k : ta σ H fun x H1 => OMeth C m sp dvs E t σ x H1 Q) : tMeth C m sp dvs E ta t σ H Q := k
theorem o_fldS (k : tv σ H fun y H1 => ta σ H1 fun x H2 => OSet K f y x H2 fun H3 => D.nx σ H3) : sFld K ta tv f D σ H := k
theorem o_make (k : t σ H fun vs H1 => OMake C sp dvs E vs H1 Q) : tMake C sp dvs E t σ H Q := k
theorem o_fat (h : H r = some (.ins C dx fs)) (c : Cls K C) (n : NoAttr K C f) (l : fs.lookup f = some v) (k : Q v H) : OFld K f (.ref r) H Q := ⟨r, C, dx, fs, v, rfl, h, c, n, l, k⟩
theorem o_mat (h : H r = some (.ins C dx fs)) (l : fs.lookup m = none) (k : t σ H fun vs H2 => sp (.ref r :: (vs ++ dvs)) H2 Q E) : OMeth C m sp dvs E t σ (.ref r) H Q := ⟨r, dx, fs, rfl, h, l, k⟩
theorem o_set (h : H r = some (.ins C dx fs)) (c : Cls K C) (n : NoAttr K C f) (l : fs.length < 1000) (k : ∀ H3, H3 r = some (.ins C dx (putF f y fs)) → (∀ b o, b ≠ r → H b = some o → H3 b = some o) → (∀ b, H3 b = none → H b = none) → G H3) : OSet K f y (.ref r) H G :=
  ⟨r, C, dx, fs, rfl, h, c, n, l, k _ upd_same (fun b o n e => by rw [upd_ne n]; exact e) fun b e => by
    by_cases z : b = r
    · rw [z, upd_same] at e; cases e
    · rw [upd_ne z] at e; exact e⟩
end
/-- all but two objects is as it was -/
def Fq (il bl : Addr) (H H' : Hp) : Prop := (∀ b o, b ≠ il → b ≠ bl → H b = some o → H' b = some o) ∧ ∀ b, H' b = none → H b = none
section
variable {il bl : Addr} {H H1 H2 : Hp}
theorem Fq.refl : Fq il bl H H := ⟨fun _ _ _ _ h => h, fun _ h => h⟩
theorem Fq.trans (a : Fq il bl H H1) (b : Fq il bl H1 H2) : Fq il bl H H2 := ⟨fun c o n m h => b.1 c o n m (a.1 c o n m h), fun c h => a.2 c (b.2 c h)⟩
theorem Fq.same (s : Same H H1) : Fq il bl H H1 := ⟨fun b o _ _ h => s b o h, fun b h => s.free h⟩
theorem Fq.l (h : H il = some (.lst xs)) (h1 : H1 il = some o) (k : ∀ b o, b ≠ il → H b = some o → H1 b = some o) : Fq il bl H H1 := ⟨fun b o n _ e => k b o n e, fun b e => by
  by_cases z : b = il
  · rw [z, h1] at e; cases e
  · cases q : H b with
    | none => rfl
    | some o => rw [k b o z q] at e; cases e⟩
theorem Fq.r (h1 : H1 bl = some o) (k : ∀ b o, b ≠ bl → H b = some o → H1 b = some o) : Fq il bl H H1 := ⟨fun b o _ n e => k b o n e, fun b e => by
  by_cases z : b = bl
  · rw [z, h1] at e; cases e
  · cases q : H b with
    | none => rfl
    | some o => rw [k b o z q] at e; cases e⟩
end
end
section
/-! The reader as plain functions over its tokens. -/
open PySem PySem.Spec PyProof.Rows L2
/-! ### what a reader does, as a function -/
/-- done, with what came out and where it stands; or wrong at a place; or nothing is said of it (beyond the end, too long, no turns left) -/
inductive Res (S α : Type) where
  | ok (a : α) (s : S)
  | bad (i : Nat)
  | stuck
def Res.bind {S α β : Type} (x : Res S α) (k : α → S → Res S β) : Res S β := match x with | .ok a s => k a s | .bad i => .bad i | .stuck => .stuck
def Out {S α : Type} (x : Res S α) (A : α → S → Prop) (B : Nat → Prop) : Prop := match x with | .ok a s => A a s | .bad i => B i | .stuck => False
theorem Out.mono {S α : Type} {x : Res S α} {A A' : α → S → Prop} {B B' : Nat → Prop} (h : Out x A B) (f : ∀ a s, A a s → A' a s) (g : ∀ i, B i → B' i) : Out x A' B' := by
  cases x with
  | ok a s => exact f a s h
  | bad i => exact g i h
  | stuck => exact h.elim
theorem Out.bind {S α β : Type} {x : Res S α} {k : α → S → Res S β} {A : β → S → Prop} {B : Nat → Prop} (h : Out (x.bind k) A B) : Out x (fun a s => Out (k a s) A B) B := by
  cases x with
  | ok a s => exact h
  | bad i => exact h
  | stuck => exact h
theorem Res.bind_assoc {S α β γ : Type} (x : Res S α) (k : α → S → Res S β) (l : β → S → Res S γ) : (x.bind k).bind l = x.bind fun a s => (k a s).bind l := by
  cases x <;> rfl
theorem Out.here {S α : Type} {x : Res S α} {A : α → S → Prop} {B : Nat → Prop} (a : α) (s : S) (h : Out x A B) (e : x = .ok a s) : A a s := by rw [e] at h; exact h
theorem Out.there {S α : Type} {x : Res S α} {A : α → S → Prop} {B : Nat → Prop} (i : Nat) (h : Out x A B) (e : x = .bad i) : B i := by rw [e] at h; exact h

/-- a reader's state: the token that stands next, the depths noted, the name that occurs twice -/
structure RS where
  n : Nat
  ds : List Nat
  tw : Option (List Nat)
/-- the text of a word or mark -/
def txtV : V → List Nat
  | .str x => x.cps.toList
  | _ => []
theorem txtV_T (a : List Nat) : txtV (T a) = a := by
  show (⟨a.toArray⟩ : Str).cps.toList = a
  simp
def fixT (t : Tk) : List Nat := if t.1 = cds "word" ∨ t.1 = cds "mark" then txtV t.2.1 else []
def tokN (ts : List Tk) (i : Nat) : Tk := ts.getD i ([], .non, 0)
def posN (ts : List Tk) (i : Nat) : Nat := (tokN ts i).2.2
theorem tokN_get {ts : List Tk} {i : Nat} (h : i < ts.length) : ts[i]? = some (tokN ts i) := by
  unfold tokN
  rw [List.getD_eq_getElem?_getD, List.getElem?_eq_getElem h]
  rfl
/-! the small readings -/
def rFixed (ts : List Tk) (k : Nat) (S : RS) : Res RS (List Nat) := if S.n + k < ts.length then .ok (fixT (tokN ts (S.n + k))) S else .stuck
def rAccept (ts : List Tk) (a : List Nat) (S : RS) : Res RS Bool := (rFixed ts 0 S).bind fun b S => if b = a then .ok true { S with n := S.n + 1 } else .ok false S
def rRefuse {α : Type} (ts : List Tk) (S : RS) : Res RS α := if S.n < ts.length then .bad (posN ts S.n) else .stuck
def rExpect (ts : List Tk) (a : List Nat) (S : RS) : Res RS Unit := (rAccept ts a S).bind fun b S1 => if b = true then .ok () S1 else rRefuse ts S1
def rTake (ts : List Tk) (a : List Nat) (S : RS) : Res RS V := if S.n < ts.length then (if (tokN ts S.n).1 = a then .ok (tokN ts S.n).2.1 { S with n := S.n + 1 } else rRefuse ts S) else .stuck
def rName (ts : List Tk) (S : RS) : Res RS (List Nat) := (rTake ts (cds "name") S).bind fun v S => .ok (txtV v) S
def rNamesGo (ts : List Tk) (most : Nat) : Nat → List (List Nat) → RS → Res RS (List (List Nat))
  | 0, _, _ => .stuck
  | k + 1, l, S => (rAccept ts (cds ",") S).bind fun b S => if b = true then (if l.length = most then rRefuse ts S else (rName ts S).bind fun x S => rNamesGo ts most k (l ++ [x]) S) else .ok l S
def rNames (ts : List Tk) (most : Nat) (S : RS) : Res RS (List (List Nat)) := (rName ts S).bind fun x S => rNamesGo ts most (most + 1) [x] S
def rBegin (ts : List Tk) (d : Nat) (S : RS) : Res RS Unit := if 12 < d then rRefuse ts S else if S.ds.length < 400000 then .ok () { S with ds := S.ds ++ [d] } else .stuck
def maxN : List Nat → Nat
  | [] => 0
  | a :: l => max a (maxN l)
def rDeepen (ts : List Tk) (f : Nat) (S : RS) : Res RS Unit := if S.ds.length ≤ f then .stuck else if 12 < maxN ((S.ds.drop f).map (· + 1)) then rRefuse ts S else .ok () { S with ds := S.ds.take f ++ (S.ds.drop f).map (· + 1) }
/-- whether a name stands next, and one of some marks behind it -/
def rBefore (ts : List Tk) (ms : List (List Nat)) (S : RS) : Res RS Bool := if S.n < ts.length then (if (tokN ts S.n).1 = cds "name" then (rFixed ts 1 S).bind fun b S => .ok (decide (b ∈ ms)) S else .ok false S) else .stuck
/-- the name that is noted behind i names -/
def twGo (l : List (List Nat)) (t : Option (List Nat)) : Nat → Option (List Nat)
  | 0 => t
  | i + 1 => if twGo l t i = none ∧ l.getD i [] ∈ l.take i then some (l.getD i []) else twGo l t i
def rNote (l : List (List Nat)) (S : RS) : Res RS Unit := .ok () { S with tw := twGo l S.tw l.length }
/-! ### the grammar -/
section
variable (ts : List Tk) (ex : Nat → Nat → RS → Res RS Tr) (bo : List (List Nat) → Nat → RS → Res RS (List Tr))
def str (x : String) : Tr := .s (cds x)
def gArgsGo (d : Nat) : Nat → List Tr → RS → Res RS (List Tr)
  | 0, _, _ => .stuck
  | k + 1, l, S => (rAccept ts (cds ",") S).bind fun b S => if b = true then (if l.length = 8 then rRefuse ts S else (ex 1 d S).bind fun t S => gArgsGo d k (l ++ [t]) S) else .ok l S
def gArgs (d : Nat) (S : RS) : Res RS (List Tr) := (rExpect ts (cds "(") S).bind fun _ S => (rAccept ts (cds ")") S).bind fun b S => if b = true then .ok [] S else
  (ex 1 d S).bind fun t S => (gArgsGo ts ex d 9 [t] S).bind fun l S => (rExpect ts (cds ")") S).bind fun _ S => .ok l S
def gBlock (d : Nat) (S : RS) : Res RS Tr := (rExpect ts (cds "{") S).bind fun _ S => (rBefore ts [cds ",", cds "|"] S).bind fun b S =>
  if b = true then (rNames ts 4 S).bind fun ns S => (rExpect ts (cds "|") S).bind fun _ S => (rNote ns S).bind fun _ S => (bo [cds "}"] (d + 1) S).bind fun l S => (rExpect ts (cds "}") S).bind fun _ S => .ok (.t [str "block", .t (ns.map Tr.s), .t l]) S
  else (bo [cds "}"] (d + 1) S).bind fun l S => (rExpect ts (cds "}") S).bind fun _ S => .ok (.t [str "block", .t [], .t l]) S
def gSuper (d : Nat) (S : RS) : Res RS Tr := (rExpect ts (cds "super") S).bind fun _ S => (rExpect ts (cds ".") S).bind fun _ S => (rName ts S).bind fun a S => (gArgs ts ex (d + 1) S).bind fun l S => .ok (.t [str "super", .s a, .t l]) S
end

def plainL : List (List Nat × V) := [(cds "none", .non), (cds "true", .bl true), (cds "false", .bl false)]
def plainTr : V → Tr
  | .int x => .i x
  | .bl b => .b b
  | .str x => .s x.cps.toList
  | _ => .n
section
variable (ts : List Tk) (ex : Nat → Nat → RS → Res RS Tr) (bo : List (List Nat) → Nat → RS → Res RS (List Tr))
def gPrimary (d : Nat) (S : RS) : Res RS Tr := if S.n < ts.length then
    (if (tokN ts S.n).1 = cds "number" ∨ (tokN ts S.n).1 = cds "text" then (rTake ts (tokN ts S.n).1 S).bind fun v S => .ok (.t [str "plain", plainTr v]) S
    else if (tokN ts S.n).1 = cds "name" then (rTake ts (tokN ts S.n).1 S).bind fun v S => .ok (.t [str "name", plainTr v]) S
    else (rFixed ts 0 S).bind fun w S => if w = cds "{" then gBlock ts bo d S else if w = cds "super" then gSuper ts ex d S else
      (rAccept ts (cds "(") S).bind fun b S => if b = true then (ex 1 (d + 1) S).bind fun t S => (rExpect ts (cds ")") S).bind fun _ S => .ok t S else
      (rAccept ts (cds "new") S).bind fun b S => if b = true then (rTake ts (cds "class") S).bind fun v S => .ok (.t [str "new", plainTr v]) S else
      (rAccept ts (cds "self") S).bind fun b S => if b = true then .ok (.t [str "self"]) S else
      match plainL.lookup w with
      | none => rRefuse ts S
      | some v => (rExpect ts w S).bind fun _ S => .ok (.t [str "plain", plainTr v]) S)
  else .stuck
end
def aheadN : List (List Nat × Nat) := [(cds "not", 3), (cds "-", 7)]
def treesN : List (List Nat × List Nat) := [(cds "not", cds "not"), (cds "-", cds "neg")]
section
variable (ts : List Tk) (ex : Nat → Nat → RS → Res RS Tr) (bo : List (List Nat) → Nat → RS → Res RS (List Tr))
def gOpening (p d : Nat) (S : RS) : Res RS (Tr × Nat) := (rFixed ts 0 S).bind fun w S => if (aheadN.lookup w).getD 0 < p then (gPrimary ts ex bo d S).bind fun t S => .ok (t, 9) S else
  (rExpect ts w S).bind fun _ S => match treesN.lookup w with
    | none => .stuck
    | some nm => (ex ((aheadN.lookup w).getD 0) (d + 1) S).bind fun t S => .ok (.t [.s nm, t], (aheadN.lookup w).getD 0) S
end
def behN : List (List Nat × Nat) := [(cds "or", 1), (cds "and", 2), (cds "=", 4), (cds "<", 4), (cds "<=", 4), (cds "+", 5), (cds "-", 5), (cds "*", 6), (cds "/", 6), (cds ".", 8)]
def levB (w : List Nat) : Nat := (behN.lookup w).getD 0
def goOn (w : List Nat) (p lev : Nat) : Bool := decide (p ≤ levB w) && (!decide (levB w = 4) || decide (4 < lev))
section
variable (ts : List Tk) (ex : Nat → Nat → RS → Res RS Tr) (bo : List (List Nat) → Nat → RS → Res RS (List Tr))
/-- what a sign makes of what stands left of it -/
def gSign (w : List Nat) (lv d : Nat) (tr : Tr) (S : RS) : Res RS Tr :=
  if w = cds "." then (rName ts S).bind fun a S => (gArgs ts ex (d + 1) S).bind fun l S => .ok (.t [str "send", tr, .s a, .t l]) S
  else if w = cds "and" ∨ w = cds "or" then (ex (lv + 1) (d + 1) S).bind fun t S => .ok (.t [.s w, tr, t]) S
  else (ex (lv + 1) (d + 1) S).bind fun t S => .ok (.t [str "op", .s w, tr, t]) S
def gExprGo (p d first : Nat) : Nat → Tr → Nat → List Nat → RS → Res RS Tr
  | 0, _, _, _, _ => .stuck
  | k + 1, tr, lev, w, S => if goOn w p lev = true then (rDeepen ts first S).bind fun _ S => (rExpect ts w S).bind fun _ S => match behN.lookup w with
      | none => .stuck
      | some lv => (gSign ts ex w lv d tr S).bind fun tr S => (rFixed ts 0 S).bind fun w' S => gExprGo p d first k tr lv w' S
    else .ok tr S
def gExpr (p d : Nat) (S : RS) : Res RS Tr := (rBegin ts d S).bind fun _ S1 => (gOpening ts ex bo p d S1).bind fun o S2 => (rFixed ts 0 S2).bind fun w S3 => gExprGo ts ex p d S.ds.length (ts.length + 1) o.1 o.2 w S3
end
section
variable (ts : List Tk) (ex : Nat → Nat → RS → Res RS Tr) (bo : List (List Nat) → Nat → RS → Res RS (List Tr)) (st : Nat → RS → Res RS Tr)
def gBodyGo (d : Nat) : Nat → List Tr → RS → Res RS (List Tr)
  | 0, _, _ => .stuck
  | k + 1, l, S => (rAccept ts (cds ";") S).bind fun b S => if b = true then (st d S).bind fun t S => gBodyGo d k (l ++ [t]) S else .ok l S
def gBody (ms : List (List Nat)) (d : Nat) (S : RS) : Res RS (List Tr) := (rFixed ts 0 S).bind fun w S => if w ∈ ms then .ok [] S else (st d S).bind fun t S => gBodyGo ts st d (ts.length + 1) [t] S
def gSet (d : Nat) (S : RS) : Res RS Tr := (rName ts S).bind fun a S => (rExpect ts (cds ":=") S).bind fun _ S => (ex 1 (d + 1) S).bind fun t S => .ok (.t [str "set", .s a, t]) S
def gWhile (d : Nat) (S : RS) : Res RS Tr := (rExpect ts (cds "while") S).bind fun _ S => (ex 1 (d + 1) S).bind fun t S => (rExpect ts (cds "do") S).bind fun _ S => (bo [cds "end"] (d + 1) S).bind fun l S => (rExpect ts (cds "end") S).bind fun _ S => .ok (.t [str "while", t, .t l]) S
end
section
variable (ts : List Tk) (ex : Nat → Nat → RS → Res RS Tr) (bo : List (List Nat) → Nat → RS → Res RS (List Tr))
def gTry (d : Nat) (S : RS) : Res RS Tr := (rExpect ts (cds "try") S).bind fun _ S => (bo [cds "catch"] (d + 1) S).bind fun l S => (rExpect ts (cds "catch") S).bind fun _ S => (rName ts S).bind fun a S => (rExpect ts (cds "then") S).bind fun _ S =>
  (bo [cds "end"] (d + 1) S).bind fun l2 S => (rExpect ts (cds "end") S).bind fun _ S => .ok (.t [str "try", .t l, .s a, .t l2]) S
def gKeep (d : Nat) (S : RS) : Res RS Tr := (rExpect ts (cds "keep") S).bind fun _ S => (bo [cds "always"] (d + 1) S).bind fun l S => (rExpect ts (cds "always") S).bind fun _ S =>
  (bo [cds "end"] (d + 1) S).bind fun l2 S => (rExpect ts (cds "end") S).bind fun _ S => .ok (.t [str "keep", .t l, .t l2]) S
def gIf (d : Nat) (S : RS) : Res RS Tr := (rExpect ts (cds "if") S).bind fun _ S => (ex 1 (d + 1) S).bind fun t S => (rExpect ts (cds "then") S).bind fun _ S => (bo [cds "else", cds "end"] (d + 1) S).bind fun l S => (rAccept ts (cds "else") S).bind fun b S =>
  if b = true then (bo [cds "end"] (d + 1) S).bind fun l2 S => (rExpect ts (cds "end") S).bind fun _ S => .ok (.t [str "if", t, .t l, .t l2]) S else (rExpect ts (cds "end") S).bind fun _ S => .ok (.t [str "if", t, .t l, .t []]) S
end
section
variable (ts : List Tk) (ex : Nat → Nat → RS → Res RS Tr) (bo : List (List Nat) → Nat → RS → Res RS (List Tr))
def gSt (d : Nat) (S : RS) : Res RS Tr := (rBegin ts d S).bind fun _ S => (rFixed ts 0 S).bind fun w S =>
  if w = cds "give" ∨ w = cds "fail" then (rExpect ts w S).bind fun _ S => (ex 1 (d + 1) S).bind fun t S => .ok (.t [.s w, t]) S
  else if w = cds "while" then gWhile ts ex bo d S
  else if w = cds "if" then gIf ts ex bo d S
  else if w = cds "try" then gTry ts bo d S
  else if w = cds "keep" then gKeep ts bo d S
  else (rBefore ts [cds ":="] S).bind fun b S => if b = true then gSet ts ex d S else (ex 1 (d + 1) S).bind fun t S => .ok (.t [str "eval", t]) S
end
/-- expressions and bodies, n deep -/
def exN (ts : List Tk) : Nat → (Nat → Nat → RS → Res RS Tr) × (List (List Nat) → Nat → RS → Res RS (List Tr))
  | 0 => (fun _ _ _ => .stuck, fun _ _ _ => .stuck)
  | n + 1 => (gExpr ts (exN ts n).1 (exN ts n).2, gBody ts (gSt ts (exN ts n).1 (exN ts n).2))
section
variable (ts : List Tk) (bo : List (List Nat) → Nat → RS → Res RS (List Tr))
/-- behind the variables -/
def gMethod3 (a : List Nat) (ps vs : List (List Nat)) (S : RS) : Res RS Tr := (rNote (ps ++ vs) S).bind fun _ S => (bo [cds "end"] 1 S).bind fun l S => (rExpect ts (cds "end") S).bind fun _ S => .ok (.t [str "method", .s a, .t (ps.map Tr.s), .t (vs.map Tr.s), .t l]) S
/-- behind the parameters -/
def gMethod2 (a : List Nat) (ps : List (List Nat)) (S : RS) : Res RS Tr := (rExpect ts (cds ")") S).bind fun _ S => (rAccept ts (cds "var") S).bind fun b S => if b = true then (rNames ts 8 S).bind fun vs S => (rExpect ts (cds ";") S).bind fun _ S => gMethod3 ts bo a ps vs S else gMethod3 ts bo a ps [] S
def gMethod (S : RS) : Res RS Tr := (rExpect ts (cds "method") S).bind fun _ S => (rName ts S).bind fun a S => (rExpect ts (cds "(") S).bind fun _ S => (rFixed ts 0 S).bind fun w S => if w = cds ")" then gMethod2 ts bo a [] S else (rNames ts 8 S).bind fun ps S => gMethod2 ts bo a ps S
end
/-- the tokens and the end of the text -/
def endTks (cs : List Nat) (ts : List Tk) : List Tk := ts ++ [(cds "nothing", T [], cs.length)]
end
section
/-! Derivations of expressions and statements: their tokens are read back. -/
open PySem PySem.Spec PyProof.Rows L2
abbrev Ws := List (List Nat)
/-- kind and value of a token's text -/
def tk (a : List Nat) : List Nat × V := match one a with
  | some (k, v, _) => (k, v)
  | none => ([], .non)
def fx (a : List Nat) : List Nat := fixT ((tk a).1, (tk a).2, 0)
def isNm (a : List Nat) : Prop := tk a = (cds "name", T a)
def commas : Ws → Ws
  | [] => []
  | [a] => [a]
  | a :: b :: l => a :: cds "," :: commas (b :: l)
def binT (s : List Nat) (a b : Tr) : Tr := if s = cds "and" ∨ s = cds "or" then .t [.s s, a, b] else .t [str "op", .s s, a, b]
mutual
/-- an expression: its level, a bound of its height, its tree, its tokens, its blocks' parameters -/
inductive Ex : Nat → Nat → Tr → Ws → List Ws → Prop
  | num {h : Nat} {a : List Nat} {x : Int} : tk a = (cds "number", .int x) → Ex 9 (h + 1) (.t [str "plain", .i x]) [a] []
  | text {h : Nat} {a b : List Nat} : tk a = (cds "text", T b) → Ex 9 (h + 1) (.t [str "plain", .s b]) [a] []
  | word {h : Nat} {a : List Nat} {v : V} : plainL.lookup a = some v → Ex 9 (h + 1) (.t [str "plain", plainTr v]) [a] []
  | self {h : Nat} : Ex 9 (h + 1) (.t [str "self"]) [cds "self"] []
  | new {h : Nat} {a : List Nat} : tk a = (cds "class", T a) → Ex 9 (h + 1) (.t [str "new", .s a]) [cds "new", a] []
  | name {h : Nat} {a : List Nat} : isNm a → Ex 9 (h + 1) (.t [str "name", .s a]) [a] []
  | par {lv h : Nat} {t : Tr} {w : Ws} {ns : List Ws} : 1 ≤ lv → Ex lv h t w ns → Ex 9 (h + 1) t (cds "(" :: (w ++ [cds ")"])) ns
  | neg {lv h : Nat} {t : Tr} {w : Ws} {ns : List Ws} : 7 ≤ lv → Ex lv h t w ns → Ex 7 (h + 1) (.t [str "neg", t]) (cds "-" :: w) ns
  | not {lv h : Nat} {t : Tr} {w : Ws} {ns : List Ws} : 3 ≤ lv → Ex lv h t w ns → Ex 3 (h + 1) (.t [str "not", t]) (cds "not" :: w) ns
  | bin {l lv1 lv2 h : Nat} {s : List Nat} {t1 t2 : Tr} {w1 w2 : Ws} {n1 n2 : List Ws} : behN.lookup s = some l → s ≠ cds "." → (if l = 4 then 5 else l) ≤ lv1 → Ex lv1 h t1 w1 n1 → l + 1 ≤ lv2 → Ex lv2 h t2 w2 n2 → Ex l (h + 1) (binT s t1 t2) (w1 ++ s :: w2) (n1 ++ n2)
  | send {lv h : Nat} {t : Tr} {w : Ws} {ns : List Ws} {x : List Nat} {l : List Tr} {w2 : Ws} {n2 : List Ws} : 8 ≤ lv → Ex lv h t w ns → isNm x → Ar h l w2 n2 → Ex 8 (h + 1) (.t [str "send", t, .s x, .t l]) (w ++ cds "." :: x :: cds "(" :: (w2 ++ [cds ")"])) (ns ++ n2)
  | sup {h : Nat} {x : List Nat} {l : List Tr} {w2 : Ws} {n2 : List Ws} : isNm x → Ar h l w2 n2 → Ex 9 (h + 1) (.t [str "super", .s x, .t l]) (cds "super" :: cds "." :: x :: cds "(" :: (w2 ++ [cds ")"])) n2
  | blk0 {h : Nat} {l : List Tr} {w : Ws} {ns : List Ws} : Bd h l w ns → Ex 9 (h + 1) (.t [str "block", .t [], .t l]) (cds "{" :: (w ++ [cds "}"])) ns
  | blk {h : Nat} {ps : Ws} {l : List Tr} {w : Ws} {ns : List Ws} : ps ≠ [] → ps.length ≤ 4 → (∀ x ∈ ps, isNm x) → Bd h l w ns → Ex 9 (h + 1) (.t [str "block", .t (ps.map Tr.s), .t l]) (cds "{" :: (commas ps ++ cds "|" :: (w ++ [cds "}"]))) (ps :: ns)
/-- arguments behind the first -/
inductive Al : Nat → List Tr → Ws → List Ws → Prop
  | nil {h : Nat} : Al h [] [] []
  | cons {lv h : Nat} {t : Tr} {w : Ws} {ns : List Ws} {l : List Tr} {w2 : Ws} {n2 : List Ws} : 1 ≤ lv → Ex lv h t w ns → Al h l w2 n2 → Al h (t :: l) (cds "," :: (w ++ w2)) (ns ++ n2)
inductive Ar : Nat → List Tr → Ws → List Ws → Prop
  | nil {h : Nat} : Ar h [] [] []
  | cons {lv h : Nat} {t : Tr} {w : Ws} {ns : List Ws} {l : List Tr} {w2 : Ws} {n2 : List Ws} : 1 ≤ lv → Ex lv h t w ns → Al h l w2 n2 → l.length ≤ 7 → Ar h (t :: l) (w ++ w2) (ns ++ n2)
inductive St : Nat → Tr → Ws → List Ws → Prop
  | eval {lv h : Nat} {t : Tr} {w : Ws} {ns : List Ws} : 1 ≤ lv → Ex lv h t w ns → St (h + 1) (.t [str "eval", t]) w ns
  | set {lv h : Nat} {t : Tr} {w : Ws} {ns : List Ws} {x : List Nat} : isNm x → 1 ≤ lv → Ex lv h t w ns → St (h + 1) (.t [str "set", .s x, t]) (x :: cds ":=" :: w) ns
  | gf {lv h : Nat} {t : Tr} {w : Ws} {ns : List Ws} {g : List Nat} : g = cds "give" ∨ g = cds "fail" → 1 ≤ lv → Ex lv h t w ns → St (h + 1) (.t [.s g, t]) (g :: w) ns
  | whl {lv h : Nat} {t : Tr} {w : Ws} {ns : List Ws} {l : List Tr} {w2 : Ws} {n2 : List Ws} : 1 ≤ lv → Ex lv h t w ns → Bd h l w2 n2 → St (h + 1) (.t [str "while", t, .t l]) (cds "while" :: (w ++ cds "do" :: (w2 ++ [cds "end"]))) (ns ++ n2)
  | if0 {lv h : Nat} {t : Tr} {w : Ws} {ns : List Ws} {l : List Tr} {w2 : Ws} {n2 : List Ws} : 1 ≤ lv → Ex lv h t w ns → Bd h l w2 n2 → St (h + 1) (.t [str "if", t, .t l, .t []]) (cds "if" :: (w ++ cds "then" :: (w2 ++ [cds "end"]))) (ns ++ n2)
  | if1 {lv h : Nat} {t : Tr} {w : Ws} {ns : List Ws} {l : List Tr} {w2 : Ws} {n2 : List Ws} {l3 : List Tr} {w3 : Ws} {n3 : List Ws} : 1 ≤ lv → Ex lv h t w ns → Bd h l w2 n2 → Bd h l3 w3 n3 → St (h + 1) (.t [str "if", t, .t l, .t l3]) (cds "if" :: (w ++ cds "then" :: (w2 ++ cds "else" :: (w3 ++ [cds "end"])))) (ns ++ (n2 ++ n3))
  | try_ {h : Nat} {l : List Tr} {w : Ws} {ns : List Ws} {x : List Nat} {l2 : List Tr} {w2 : Ws} {n2 : List Ws} : Bd h l w ns → isNm x → Bd h l2 w2 n2 → St (h + 1) (.t [str "try", .t l, .s x, .t l2]) (cds "try" :: (w ++ cds "catch" :: x :: cds "then" :: (w2 ++ [cds "end"]))) (ns ++ n2)
  | keep {h : Nat} {l : List Tr} {w : Ws} {ns : List Ws} {l2 : List Tr} {w2 : Ws} {n2 : List Ws} : Bd h l w ns → Bd h l2 w2 n2 → St (h + 1) (.t [str "keep", .t l, .t l2]) (cds "keep" :: (w ++ cds "always" :: (w2 ++ [cds "end"]))) (ns ++ n2)
inductive Bl : Nat → List Tr → Ws → List Ws → Prop
  | nil {h : Nat} : Bl h [] [] []
  | cons {h : Nat} {t : Tr} {w : Ws} {ns : List Ws} {l : List Tr} {w2 : Ws} {n2 : List Ws} : St h t w ns → Bl h l w2 n2 → Bl h (t :: l) (cds ";" :: (w ++ w2)) (ns ++ n2)
inductive Bd : Nat → List Tr → Ws → List Ws → Prop
  | nil {h : Nat} : Bd h [] [] []
  | cons {h : Nat} {t : Tr} {w : Ws} {ns : List Ws} {l : List Tr} {w2 : Ws} {n2 : List Ws} : St h t w ns → Bl h l w2 n2 → Bd h (t :: l) (w ++ w2) (ns ++ n2)
end
/-- the name noted behind these lists of names -/
def noteAll : List Ws → Option (List Nat) → Option (List Nat)
  | [], t => t
  | l :: ls, t => noteAll ls (twGo l t l.length)
theorem noteAll_append (a b : List Ws) (t : Option (List Nat)) : noteAll (a ++ b) t = noteAll b (noteAll a t) := by
  induction a generalizing t with
  | nil => rfl
  | cons l a ih => exact ih _
/-! ### tokens that stand -/
def Seg (ts : List Tk) : Nat → Ws → Prop
  | _, [] => True
  | i, a :: w => (∃ p, ts[i]? = some ((tk a).1, (tk a).2, p)) ∧ Seg ts (i + 1) w
theorem seg_append {ts : List Tk} : ∀ {u v : Ws} {i : Nat}, Seg ts i (u ++ v) ↔ Seg ts i u ∧ Seg ts (i + u.length) v
  | [], v, i => by show Seg ts i v ↔ True ∧ Seg ts (i + 0) v; simp
  | a :: u, v, i => by
    show (_ ∧ Seg ts (i + 1) (u ++ v)) ↔ (_ ∧ Seg ts (i + 1) u) ∧ Seg ts (i + (u.length + 1)) v
    rw [seg_append (u := u), show i + (u.length + 1) = i + 1 + u.length by omega, and_assoc]
/-- the text of the word or mark that stands at a place -/
def Nx (ts : List Tk) (i : Nat) (z : List Nat) : Prop := ∃ t, ts[i]? = some t ∧ fixT t = z
theorem Seg.nx {ts : List Tk} {i : Nat} {a : List Nat} {w : Ws} (h : Seg ts i (a :: w)) : Nx ts i (fx a) := by
  obtain ⟨⟨p, h⟩, _⟩ := h
  exact ⟨_, h, rfl⟩
section
variable {ts : List Tk} {i : Nat} {ds : List Nat} {tw : Option (List Nat)} {z : List Nat}
theorem ok_bind {S α β : Type} {a : α} {s : S} {k : α → S → Res S β} : (Res.ok a s).bind k = k a s := rfl
theorem tokN_of {t : Tk} (h : ts[i]? = some t) : tokN ts i = t ∧ i < ts.length := by
  obtain ⟨hl, e⟩ := List.getElem?_eq_some_iff.mp h
  refine ⟨?_, hl⟩
  unfold tokN
  rw [List.getD_eq_getElem?_getD, h]
  rfl
theorem fixed0 (h : Nx ts i z) : rFixed ts 0 ⟨i, ds, tw⟩ = .ok z ⟨i, ds, tw⟩ := by
  obtain ⟨t, h, rfl⟩ := h
  obtain ⟨e, hl⟩ := tokN_of h
  show (if i + 0 < ts.length then Res.ok (fixT (tokN ts (i + 0))) _ else _) = _
  rw [Nat.add_zero, if_pos hl, e]
theorem fixed1 (h : Nx ts (i + 1) z) : rFixed ts 1 ⟨i, ds, tw⟩ = .ok z ⟨i, ds, tw⟩ := by
  obtain ⟨t, h, rfl⟩ := h
  obtain ⟨e, hl⟩ := tokN_of h
  show (if i + 1 < ts.length then Res.ok (fixT (tokN ts (i + 1))) _ else _) = _
  rw [if_pos hl, e]
theorem accept_yes (h : Nx ts i z) : rAccept ts z ⟨i, ds, tw⟩ = .ok true ⟨i + 1, ds, tw⟩ := by
  unfold rAccept
  rw [fixed0 h, ok_bind, if_pos rfl]
theorem accept_no {a : List Nat} (h : Nx ts i z) (n : z ≠ a) : rAccept ts a ⟨i, ds, tw⟩ = .ok false ⟨i, ds, tw⟩ := by
  unfold rAccept
  rw [fixed0 h, ok_bind, if_neg n]
theorem expect_ok (h : Nx ts i z) : rExpect ts z ⟨i, ds, tw⟩ = .ok () ⟨i + 1, ds, tw⟩ := by
  unfold rExpect
  rw [accept_yes h, ok_bind, if_pos rfl]
theorem take_ok {k : List Nat} {v : V} {p : Nat} (h : ts[i]? = some (k, v, p)) : rTake ts k ⟨i, ds, tw⟩ = .ok v ⟨i + 1, ds, tw⟩ := by
  obtain ⟨e, hl⟩ := tokN_of h
  unfold rTake
  show (if i < ts.length then (if (tokN ts i).1 = k then Res.ok (tokN ts i).2.1 _ else _) else _) = _
  rw [if_pos hl, e, if_pos rfl]
theorem txtV_T' (a : List Nat) : txtV (T a) = a := by
  show (⟨a.toArray⟩ : Str).cps.toList = a
  simp
theorem name_ok {a : List Nat} {w : Ws} (h : Seg ts i (a :: w)) (n : isNm a) : rName ts ⟨i, ds, tw⟩ = .ok a ⟨i + 1, ds, tw⟩ := by
  obtain ⟨⟨p, h⟩, _⟩ := h
  unfold isNm at n
  rw [n] at h
  unfold rName
  rw [take_ok h, ok_bind, txtV_T']
theorem begin_ok {d : Nat} (h : d ≤ 12) (hl : ds.length < 400000) : rBegin ts d ⟨i, ds, tw⟩ = .ok () ⟨i, ds ++ [d], tw⟩ := by
  unfold rBegin
  rw [if_neg (by omega), if_pos hl]
theorem maxN_le {l : List Nat} {m : Nat} (h : ∀ x ∈ l, x ≤ m) : maxN l ≤ m := by
  induction l with
  | nil => exact Nat.zero_le _
  | cons a l ih =>
    show max a (maxN l) ≤ m
    have h1 := h a List.mem_cons_self
    have h2 := ih fun x hx => h x (List.mem_cons_of_mem _ hx)
    omega
theorem deepen_ok {sg : List Nat} (hs : sg ≠ []) (h : ∀ x ∈ sg, x + 1 ≤ 12) : rDeepen ts ds.length ⟨i, ds ++ sg, tw⟩ = .ok () ⟨i, ds ++ sg.map (· + 1), tw⟩ := by
  have hp : 0 < sg.length := List.length_pos_iff.mpr hs
  unfold rDeepen
  show (if (ds ++ sg).length ≤ ds.length then _ else if 12 < maxN (((ds ++ sg).drop ds.length).map (· + 1)) then _ else Res.ok () _) = _
  rw [if_neg (by rw [List.length_append]; omega), List.drop_left, List.take_left, if_neg]
  have : maxN (sg.map (· + 1)) ≤ 12 := maxN_le fun x hx => by
    obtain ⟨y, hy, rfl⟩ := List.mem_map.mp hx
    exact h y hy
  omega
end
end
section
open PySem PySem.Spec PyProof.Rows L2
/-! ### words and marks -/
def WM : Ws := ["method", "var", "end", "give", "fail", "if", "then", "else", "while", "do", "try", "catch", "keep", "always", "none", "true", "false", "self", "super", "new", "not", "and", "or", ":=", "<=", "(", ")", "{", "}", ",", ";", ".", "|", "=", "<", "+", "-", "*", "/"].map cds
theorem wm_fx : ∀ a ∈ WM, fx a = a := by decide +kernel
theorem wm_kind : ∀ a ∈ WM, (tk a).1 ≠ cds "number" ∧ (tk a).1 ≠ cds "text" ∧ (tk a).1 ≠ cds "name" := by decide +kernel
theorem beh_wm {s : List Nat} {l : Nat} (h : behN.lookup s = some l) : s ∈ WM ∧ levB s = l ∧ 1 ≤ l ∧ l ≤ 8 ∧ l ≠ 3 ∧ l ≠ 7 ∧ s ≠ cds ":=" ∧ s ≠ cds "," ∧ s ≠ cds "|" := by
  have key : ∀ p ∈ behN, p.1 ∈ WM ∧ 1 ≤ p.2 ∧ p.2 ≤ 8 ∧ p.2 ≠ 3 ∧ p.2 ≠ 7 ∧ p.1 ≠ cds ":=" ∧ p.1 ≠ cds "," ∧ p.1 ≠ cds "|" := by decide +kernel
  have mem : (s, l) ∈ behN := by
    have : ∀ (m : List (List Nat × Nat)), m.lookup s = some l → (s, l) ∈ m := by
      intro m
      induction m with
      | nil => intro h; cases h
      | cons q m ih =>
        intro h
        obtain ⟨a, b⟩ := q
        rw [List.lookup_cons] at h
        cases e : s == a with
        | true => rw [e] at h; cases h; rw [beq_iff_eq.mp e]; exact List.mem_cons_self
        | false => rw [e] at h; exact List.mem_cons_of_mem _ (ih h)
    exact this behN h
  obtain ⟨h1, h2, h3, h4, h5, h6, h7, h8⟩ := key _ mem
  refine ⟨h1, ?_, h2, h3, h4, h5, h6, h7, h8⟩
  unfold levB
  rw [h]
  rfl
theorem levB_cases (z : List Nat) : levB z = 0 ∨ behN.lookup z = some (levB z) := by
  unfold levB
  cases behN.lookup z with
  | none => exact .inl rfl
  | some l => exact .inr rfl
theorem levB_ne (z : List Nat) : levB z ≠ 3 ∧ levB z ≠ 7 := by
  rcases levB_cases z with h | h
  · rw [h]; decide
  · obtain ⟨_, _, _, _, h3, h7, _⟩ := beh_wm h
    exact ⟨h3, h7⟩
theorem fx_kind {a k : List Nat} {v : V} (h : tk a = (k, v)) (h1 : k ≠ cds "word") (h2 : k ≠ cds "mark") : fx a = [] := by
  unfold fx fixT
  rw [h]
  exact if_neg (fun z => z.elim h1 h2)
theorem nm_fx {a : List Nat} (h : isNm a) : fx a = [] := fx_kind h (by decide +kernel) (by decide +kernel)
theorem plain_cases {a : List Nat} {v : V} (h : plainL.lookup a = some v) : (a = cds "none" ∨ a = cds "true" ∨ a = cds "false") := by
  unfold plainL at h
  simp only [List.lookup] at h
  split at h
  · rename_i e; exact .inl (by simpa using e)
  · split at h
    · rename_i e; exact .inr (.inl (by simpa using e))
    · split at h
      · rename_i e; exact .inr (.inr (by simpa using e))
      · cases h
/-! ### how an expression begins -/
/-- words that begin statements, or end bodies -/
def EN : Ws := ["end", "else", "catch", "always", "}"].map cds
def SW : Ws := ["give", "fail", "while", "if", "try", "keep", "end", "else", "catch", "always", "}", ")"].map cds
def Hd (w : Ws) : Prop := ∃ a r, w = a :: r ∧ fx a ∉ SW ∧ ((tk a).1 = cds "name" → r = [] ∨ ∃ b r', r = b :: r' ∧ ∃ l, behN.lookup b = some l)
theorem Hd.append {w v : Ws} (h : Hd w) (hv : ∃ b r', v = b :: r' ∧ ∃ l, behN.lookup b = some l) : Hd (w ++ v) := by
  obtain ⟨a, r, rfl, h1, h2⟩ := h
  refine ⟨a, r ++ v, rfl, h1, fun n => .inr ?_⟩
  rcases h2 n with rfl | ⟨b, r', rfl, hb⟩
  · exact hv
  · exact ⟨b, r' ++ v, rfl, hb⟩
theorem Hd.one {a : List Nat} {r : Ws} (h : fx a ∉ SW) (n : (tk a).1 ≠ cds "name") : Hd (a :: r) := ⟨a, r, rfl, h, fun z => absurd z n⟩
theorem hd_wm {a : List Nat} {r : Ws} (h : a ∈ WM) (hs : a ∉ SW) : Hd (a :: r) := Hd.one (by rw [wm_fx a h]; exact hs) (wm_kind a h).2.2
theorem beh_dot : behN.lookup (cds ".") = some 8 := by decide +kernel
theorem ex_hd : ∀ {h lv : Nat} {t : Tr} {w : Ws} {ns : List Ws}, Ex lv h t w ns → Hd w := by
  intro h
  induction h with
  | zero => intro lv t w ns e; cases e
  | succ h ih =>
    intro lv t w ns e
    cases e with
    | num e => exact Hd.one (by rw [fx_kind e (by decide +kernel) (by decide +kernel)]; decide +kernel) (by rw [e]; show cds "number" ≠ cds "name"; decide +kernel)
    | text e => exact Hd.one (by rw [fx_kind e (by decide +kernel) (by decide +kernel)]; decide +kernel) (by rw [e]; show cds "text" ≠ cds "name"; decide +kernel)
    | word e =>
      rcases plain_cases e with rfl | rfl | rfl
      · exact hd_wm (by decide +kernel) (by decide +kernel)
      · exact hd_wm (by decide +kernel) (by decide +kernel)
      · exact hd_wm (by decide +kernel) (by decide +kernel)
    | self => exact hd_wm (by decide +kernel) (by decide +kernel)
    | new e => exact hd_wm (by decide +kernel) (by decide +kernel)
    | name e => exact ⟨_, [], rfl, by rw [nm_fx e]; decide +kernel, fun _ => .inl rfl⟩
    | par _ e => exact hd_wm (by decide +kernel) (by decide +kernel)
    | neg _ e => exact hd_wm (by decide +kernel) (by decide +kernel)
    | not _ e => exact hd_wm (by decide +kernel) (by decide +kernel)
    | bin hl _ _ e1 _ e2 => exact (ih e1).append ⟨_, _, rfl, _, hl⟩
    | send _ e _ _ => exact (ih e).append ⟨_, _, rfl, _, beh_dot⟩
    | sup _ _ => exact hd_wm (by decide +kernel) (by decide +kernel)
    | blk0 _ => exact hd_wm (by decide +kernel) (by decide +kernel)
    | blk _ _ _ _ => exact hd_wm (by decide +kernel) (by decide +kernel)
/-- how a statement begins -/
def SHd (w : Ws) : Prop := ∃ a r, w = a :: r ∧ fx a ∉ EN ∧ ((tk a).1 = cds "name" → r = [] ∨ ∃ b r', r = b :: r' ∧ fx b ∉ [cds ",", cds "|"])
theorem shd_wm {a : List Nat} {r : Ws} (h : a ∈ WM) (hs : a ∉ EN) : SHd (a :: r) := ⟨a, r, rfl, by rw [wm_fx a h]; exact hs, fun z => absurd z (wm_kind a h).2.2⟩
theorem en_sw : ∀ a ∈ EN, a ∈ SW := by decide +kernel
theorem st_hd {h : Nat} {t : Tr} {w : Ws} {ns : List Ws} (e : St h t w ns) : SHd w := by
  cases e with
  | eval _ e =>
    obtain ⟨a, r, rfl, h1, h2⟩ := ex_hd e
    refine ⟨a, r, rfl, fun z => h1 (en_sw _ z), fun n => ?_⟩
    rcases h2 n with h | ⟨b, r', h, l, hb⟩
    · exact .inl h
    · obtain ⟨hw, _, _, _, _, _, _, h1, h2⟩ := beh_wm hb
      refine .inr ⟨b, r', h, ?_⟩
      rw [wm_fx b hw]
      intro z
      rcases List.mem_cons.mp z with z | z
      · exact h1 z
      · exact h2 (List.mem_singleton.mp z)
  | set n _ e => exact ⟨_, _, rfl, by rw [nm_fx n]; decide +kernel, fun _ => .inr ⟨_, _, rfl, by rw [wm_fx _ (by decide +kernel)]; decide +kernel⟩⟩
  | gf g _ e => rcases g with rfl | rfl <;> exact shd_wm (by decide +kernel) (by decide +kernel)
  | whl _ _ _ => exact shd_wm (by decide +kernel) (by decide +kernel)
  | if0 _ _ _ => exact shd_wm (by decide +kernel) (by decide +kernel)
  | if1 _ _ _ _ => exact shd_wm (by decide +kernel) (by decide +kernel)
  | try_ _ _ _ => exact shd_wm (by decide +kernel) (by decide +kernel)
  | keep _ _ => exact shd_wm (by decide +kernel) (by decide +kernel)
/-! ### the ends of the loop -/
section
variable {ts : List Tk} {ex : Nat → Nat → RS → Res RS Tr} {bo : List (List Nat) → Nat → RS → Res RS (List Tr)} {i d p : Nat} {ds : List Nat} {tw : Option (List Nat)} {z : List Nat}
theorem goOn_lt {lv : Nat} (h : levB z < p) : goOn z p lv = false := by
  unfold goOn
  rw [decide_eq_false (by omega)]
  rfl
theorem go_end {f k lv : Nat} {t : Tr} {S : RS} (h : goOn z p lv = false) (hk : 1 ≤ k) : gExprGo ts ex p d f k t lv z S = .ok t S := by
  cases k with
  | zero => omega
  | succ k =>
    unfold gExprGo
    rw [h]
    exact if_neg Bool.false_ne_true
theorem of_opening {j lv : Nat} {t : Tr} {sg : List Nat} {tw' : Option (List Nat)} (h : gOpening ts ex bo p d ⟨i, ds ++ [d], tw⟩ = .ok (t, lv) ⟨j, ds ++ sg, tw'⟩) (n : Nx ts j z) (hd : d ≤ 12) (hl : ds.length < 400000) :
    gExpr ts ex bo p d ⟨i, ds, tw⟩ = gExprGo ts ex p d ds.length (ts.length + 1) t lv z ⟨j, ds ++ sg, tw'⟩ := by
  unfold gExpr
  rw [begin_ok hd hl, ok_bind, h, ok_bind, fixed0 n, ok_bind]
theorem opening_prim {t : Tr} {S' : RS} (n : Nx ts i z) (h0 : (aheadN.lookup z).getD 0 < p) (h : gPrimary ts ex bo d ⟨i, ds, tw⟩ = .ok t S') : gOpening ts ex bo p d ⟨i, ds, tw⟩ = .ok (t, 9) S' := by
  unfold gOpening
  rw [fixed0 n, ok_bind, if_pos h0, h, ok_bind]
theorem opening_ahead {t : Tr} {S' : RS} {nm : List Nat} (n : Nx ts i z) (h0 : ¬ (aheadN.lookup z).getD 0 < p) (hn : treesN.lookup z = some nm) (h : ex ((aheadN.lookup z).getD 0) (d + 1) ⟨i + 1, ds, tw⟩ = .ok t S') : gOpening ts ex bo p d ⟨i, ds, tw⟩ = .ok (.t [.s nm, t], (aheadN.lookup z).getD 0) S' := by
  unfold gOpening
  rw [fixed0 n, ok_bind, if_neg h0, expect_ok n, ok_bind, hn]
  show (ex _ _ _).bind _ = _
  rw [h, ok_bind]
theorem prim_plain {k : List Nat} {v : V} {q : Nat} (h : ts[i]? = some (k, v, q)) (hk : k = cds "number" ∨ k = cds "text") : gPrimary ts ex bo d ⟨i, ds, tw⟩ = .ok (.t [str "plain", plainTr v]) ⟨i + 1, ds, tw⟩ := by
  obtain ⟨e, hl⟩ := tokN_of h
  unfold gPrimary
  show (if i < ts.length then (if (tokN ts i).1 = _ ∨ (tokN ts i).1 = _ then (rTake ts (tokN ts i).1 _).bind _ else _) else _) = _
  rw [if_pos hl, e]
  show (if k = _ ∨ k = _ then (rTake ts k _).bind _ else _) = _
  rw [if_pos hk, take_ok h, ok_bind]
theorem prim_name {v : V} {q : Nat} (h : ts[i]? = some (cds "name", v, q)) : gPrimary ts ex bo d ⟨i, ds, tw⟩ = .ok (.t [str "name", plainTr v]) ⟨i + 1, ds, tw⟩ := by
  obtain ⟨e, hl⟩ := tokN_of h
  unfold gPrimary
  show (if i < ts.length then (if (tokN ts i).1 = _ ∨ (tokN ts i).1 = _ then _ else if (tokN ts i).1 = cds "name" then (rTake ts (tokN ts i).1 _).bind _ else _) else _) = _
  rw [if_pos hl, e]
  show (if cds "name" = cds "number" ∨ cds "name" = cds "text" then _ else if cds "name" = cds "name" then (rTake ts (cds "name") _).bind _ else _) = _
  rw [if_neg (by decide +kernel), if_pos rfl, take_ok h, ok_bind]
/-- what stands behind the first word -/
def gRest (ts : List Tk) (ex : Nat → Nat → RS → Res RS Tr) (bo : List (List Nat) → Nat → RS → Res RS (List Tr)) (d : Nat) (w : List Nat) (S : RS) : Res RS Tr :=
  if w = cds "{" then gBlock ts bo d S else if w = cds "super" then gSuper ts ex d S else
      (rAccept ts (cds "(") S).bind fun b S => if b = true then (ex 1 (d + 1) S).bind fun t S => (rExpect ts (cds ")") S).bind fun _ S => .ok t S else
      (rAccept ts (cds "new") S).bind fun b S => if b = true then (rTake ts (cds "class") S).bind fun v S => .ok (.t [str "new", plainTr v]) S else
      (rAccept ts (cds "self") S).bind fun b S => if b = true then .ok (.t [str "self"]) S else
      match plainL.lookup w with
      | none => rRefuse ts S
      | some v => (rExpect ts w S).bind fun _ S => .ok (.t [str "plain", plainTr v]) S
theorem prim_rest {a : List Nat} {w : Ws} (h : Seg ts i (a :: w)) (ha : a ∈ WM) : gPrimary ts ex bo d ⟨i, ds, tw⟩ = gRest ts ex bo d a ⟨i, ds, tw⟩ := by
  have n := h.nx
  rw [wm_fx a ha] at n
  obtain ⟨⟨q, h⟩, _⟩ := h
  obtain ⟨e, hl⟩ := tokN_of h
  obtain ⟨k1, k2, k3⟩ := wm_kind a ha
  unfold gPrimary
  show (if i < ts.length then (if (tokN ts i).1 = _ ∨ (tokN ts i).1 = _ then _ else if (tokN ts i).1 = cds "name" then _ else (rFixed ts 0 ⟨i, ds, tw⟩).bind _) else _) = _
  rw [if_pos hl, e]
  show (if (tk a).1 = _ ∨ (tk a).1 = _ then _ else if (tk a).1 = cds "name" then _ else (rFixed ts 0 ⟨i, ds, tw⟩).bind _) = _
  rw [if_neg (fun z => z.elim k1 k2), if_neg k3, fixed0 n, ok_bind]
  rfl
end
end
section
open PySem PySem.Spec PyProof.Rows L2
/-- an expression's tokens, read at a place as loose as it: what the loop over the signs goes on with -/
def EGood (ts : List Tk) (h : Nat) : Prop := ∀ {lv : Nat} {t : Tr} {w : Ws} {ns : List Ws}, Ex lv h t w ns → ∀ {n p d i : Nat} {ds : List Nat} {tw : Option (List Nat)} {z : List Nat}, h ≤ n → 1 ≤ p → p ≤ lv → d + h ≤ 13 → Seg ts i w → Nx ts (i + w.length) z → levB z ≤ lv → ds.length + 2 * w.length ≤ 400001 →
  ∃ (sg : List Nat) (k : Nat), sg ≠ [] ∧ (∀ x ∈ sg, x + 1 ≤ d + h) ∧ sg.length + 1 ≤ 2 * w.length ∧ ts.length + 1 ≤ k + w.length ∧
    gExpr ts (exN ts n).1 (exN ts n).2 p d ⟨i, ds, tw⟩ = gExprGo ts (exN ts n).1 p d ds.length k t lv z ⟨i + w.length, ds ++ sg, noteAll ns tw⟩
/-- .. up to its end -/
def EDone (ts : List Tk) (h : Nat) : Prop := ∀ {lv : Nat} {t : Tr} {w : Ws} {ns : List Ws}, Ex lv h t w ns → ∀ {n p d i : Nat} {ds : List Nat} {tw : Option (List Nat)} {z : List Nat}, h + 1 ≤ n → 1 ≤ p → p ≤ lv → d + h ≤ 13 → Seg ts i w → Nx ts (i + w.length) z → levB z < p → ds.length + 2 * w.length ≤ 400001 →
  ∃ sg : List Nat, sg ≠ [] ∧ (∀ x ∈ sg, x + 1 ≤ d + h) ∧ sg.length + 1 ≤ 2 * w.length ∧ (exN ts n).1 p d ⟨i, ds, tw⟩ = .ok t ⟨i + w.length, ds ++ sg, noteAll ns tw⟩
def SDone (ts : List Tk) (h : Nat) : Prop := ∀ {t : Tr} {w : Ws} {ns : List Ws}, St h t w ns → ∀ {n d i : Nat} {ds : List Nat} {tw : Option (List Nat)} {z : List Nat}, h ≤ n → d + h ≤ 13 → Seg ts i w → Nx ts (i + w.length) z → z ∈ cds ";" :: EN → ds.length + 2 * w.length ≤ 400000 →
  ∃ sg : List Nat, (∀ x ∈ sg, x + 1 ≤ d + h) ∧ sg.length ≤ 2 * w.length ∧ gSt ts (exN ts n).1 (exN ts n).2 d ⟨i, ds, tw⟩ = .ok t ⟨i + w.length, ds ++ sg, noteAll ns tw⟩
def BDone (ts : List Tk) (h : Nat) : Prop := ∀ {l : List Tr} {w : Ws} {ns : List Ws}, Bd h l w ns → ∀ {n d i : Nat} {ms : Ws} {ds : List Nat} {tw : Option (List Nat)} {z : List Nat}, h + 1 ≤ n → (∀ m ∈ ms, m ∈ EN) → z ∈ ms → d + h ≤ 13 → Seg ts i w → Nx ts (i + w.length) z → ds.length + 2 * w.length ≤ 400000 →
  ∃ sg : List Nat, (∀ x ∈ sg, x + 1 ≤ d + h) ∧ sg.length ≤ 2 * w.length ∧ (exN ts n).2 ms d ⟨i, ds, tw⟩ = .ok l ⟨i + w.length, ds ++ sg, noteAll ns tw⟩
theorem seg_len {ts : List Tk} {i : Nat} {w : Ws} {z : List Nat} (h : Nx ts (i + w.length) z) : w.length + 1 ≤ ts.length := by
  obtain ⟨t, h, _⟩ := h
  have := (List.getElem?_eq_some_iff.mp h).1
  omega
theorem EGood.done {ts : List Tk} {h : Nat} (g : EGood ts h) : EDone ts h := by
  intro lv t w ns e n p d i ds tw z hn hp hpl hd hs hx hz hl
  obtain ⟨m, rfl⟩ : ∃ m, n = m + 1 := ⟨n - 1, by omega⟩
  obtain ⟨sg, k, h1, h2, h3, h4, h5⟩ := g e (n := m) (p := p) (d := d) (i := i) (ds := ds) (tw := tw) (z := z) (by omega) hp hpl hd hs hx (by omega) hl
  refine ⟨sg, h1, h2, h3, ?_⟩
  show gExpr ts (exN ts m).1 (exN ts m).2 p d ⟨i, ds, tw⟩ = _
  have := seg_len hx
  rw [h5, go_end (goOn_lt hz) (by omega)]
section
variable {ts : List Tk} {n d i : Nat} {ds : List Nat} {tw : Option (List Nat)} {z : List Nat}
theorem app3 {a b c : List Nat} : a ++ b ++ c = a ++ (b ++ c) := List.append_assoc ..
/-- arguments behind the first -/
theorem al_done {h : Nat} (E : EDone ts h) : ∀ {l : List Tr} {w : Ws} {ns : List Ws}, Al h l w ns → ∀ {l0 : List Tr} {i k : Nat} {ds : List Nat} {tw : Option (List Nat)}, h + 1 ≤ n → d + h ≤ 13 → Seg ts i w → Nx ts (i + w.length) (cds ")") → l0.length + l.length ≤ 8 → l.length + 1 ≤ k → ds.length + 2 * w.length ≤ 400000 →
    ∃ sg : List Nat, (∀ x ∈ sg, x + 1 ≤ d + h) ∧ sg.length ≤ 2 * w.length ∧ gArgsGo ts (exN ts n).1 d k l0 ⟨i, ds, tw⟩ = .ok (l0 ++ l) ⟨i + w.length, ds ++ sg, noteAll ns tw⟩
  | [], w, ns, e, l0, i, k, ds, tw, hn, hd, hs, hx, hc, hk, hl => by
    cases e
    obtain ⟨k, rfl⟩ : ∃ m, k = m + 1 := ⟨k - 1, by omega⟩
    refine ⟨[], fun x hx => absurd hx List.not_mem_nil, Nat.zero_le _, ?_⟩
    unfold gArgsGo
    rw [accept_no (show Nx ts i (cds ")") from hx) (by decide +kernel), ok_bind, if_neg Bool.false_ne_true, List.append_nil, List.append_nil]
    rfl
  | t :: l, w, ns, e, l0, i, k, ds, tw, hn, hd, hs, hx, hc, hk, hl => by
    cases e with
    | @cons lv _ _ w1 n1 _ w2 n2 hlv e1 e2 =>
      obtain ⟨k, rfl⟩ : ∃ m, k = m + 1 := ⟨k - 1, by omega⟩
      rw [List.length_cons] at hc hk hx hl
      rw [List.length_append] at hx hl
      have nc := hs.nx
      rw [wm_fx _ (by decide +kernel)] at nc
      obtain ⟨_, hs2⟩ := hs
      obtain ⟨s1, s2⟩ := seg_append.mp hs2
      have hx1 : Nx ts (i + 1 + w1.length) (if l = [] then cds ")" else cds ",") := by
        cases e2 with
        | nil =>
          have : i + (w1.length + ([] : Ws).length + 1) = i + 1 + w1.length := by show i + (w1.length + 0 + 1) = _; omega
          rw [if_pos rfl, ← this]
          exact hx
        | cons _ _ _ =>
          have q := s2.nx
          rw [wm_fx _ (by decide +kernel)] at q
          rw [if_neg (List.cons_ne_nil _ _)]
          exact q
      have hlev : levB (if l = [] then cds ")" else cds ",") < 1 := by split <;> decide +kernel
      obtain ⟨sg1, g1, g2, g3, g4⟩ := E e1 (n := n) (p := 1) (d := d) (i := i + 1) (ds := ds) (tw := tw) hn (Nat.le_refl _) hlv hd s1 hx1 hlev (by omega)
      obtain ⟨sg2, q1, q2, q3⟩ := al_done E e2 (l0 := l0 ++ [t]) (i := i + 1 + w1.length) (k := k) (ds := ds ++ sg1) (tw := noteAll n1 tw) hn hd s2 (by rw [show i + 1 + w1.length + w2.length = i + (w1.length + w2.length + 1) by omega]; exact hx) (by rw [List.length_append]; show l0.length + 1 + l.length ≤ 8; omega) (by omega) (by rw [List.length_append]; omega)
      refine ⟨sg1 ++ sg2, fun x hx => (List.mem_append.mp hx).elim (g2 x) (q1 x), by rw [List.length_append, List.length_cons, List.length_append]; omega, ?_⟩
      unfold gArgsGo
      rw [accept_yes nc, ok_bind, if_pos rfl, if_neg (by omega), g4, ok_bind, q3, noteAll_append, List.append_assoc, List.append_assoc]
      show Res.ok _ (RS.mk _ _ _) = Res.ok _ (RS.mk _ _ _)
      rw [List.length_cons, List.length_append, show i + 1 + w1.length + w2.length = i + (w1.length + w2.length + 1) by omega]
      rfl
/-- arguments in their brackets -/
theorem ar_done {h : Nat} (E : EDone ts h) {l : List Tr} {w : Ws} {ns : List Ws} (e : Ar h l w ns) (hn : h + 1 ≤ n) (hd : d + h ≤ 13) (hs : Seg ts i (cds "(" :: (w ++ [cds ")"]))) (hl : ds.length + 2 * w.length ≤ 400000) :
    ∃ sg : List Nat, (∀ x ∈ sg, x + 1 ≤ d + h) ∧ sg.length ≤ 2 * w.length ∧ gArgs ts (exN ts n).1 d ⟨i, ds, tw⟩ = .ok l ⟨i + (w.length + 2), ds ++ sg, noteAll ns tw⟩ := by
  have nc := hs.nx
  rw [wm_fx _ (by decide +kernel)] at nc
  obtain ⟨_, hs2⟩ := hs
  obtain ⟨s1, s2⟩ := seg_append.mp hs2
  have nz := s2.nx
  rw [wm_fx _ (by decide +kernel)] at nz
  unfold gArgs
  rw [expect_ok nc, ok_bind]
  cases e with
  | nil =>
    refine ⟨[], fun x hx => absurd hx List.not_mem_nil, Nat.zero_le _, ?_⟩
    rw [accept_yes (show Nx ts (i + 1) (cds ")") from nz), ok_bind, if_pos rfl, List.append_nil]
    rfl
  | @cons lv _ t w1 n1 l w2 n2 hlv e1 e2 hc =>
    rw [List.length_append] at nz hl
    obtain ⟨q1, q2⟩ := seg_append.mp s1
    obtain ⟨a, r, ew, hf, _⟩ := ex_hd e1
    have nf : Nx ts (i + 1) (fx a) := by rw [ew] at q1; exact q1.nx
    have nf2 : fx a ≠ cds ")" := fun z => hf (by rw [z]; decide +kernel)
    rw [accept_no nf nf2, ok_bind, if_neg Bool.false_ne_true]
    have hx1 : Nx ts (i + 1 + w1.length) (if l = [] then cds ")" else cds ",") := by
      cases e2 with
      | nil => rw [if_pos rfl]; exact nz
      | cons _ _ _ =>
        have q := q2.nx
        rw [wm_fx _ (by decide +kernel)] at q
        rw [if_neg (List.cons_ne_nil _ _)]
        exact q
    have hlev : levB (if l = [] then cds ")" else cds ",") < 1 := by split <;> decide +kernel
    obtain ⟨sg1, g1, g2, g3, g4⟩ := E e1 (n := n) (p := 1) (d := d) (i := i + 1) (ds := ds) (tw := tw) hn (Nat.le_refl _) hlv hd q1 hx1 hlev (by omega)
    obtain ⟨sg2, z1, z2, z3⟩ := al_done E e2 (l0 := [t]) (i := i + 1 + w1.length) (k := 9) (ds := ds ++ sg1) (tw := noteAll n1 tw) hn hd q2 (by rw [show i + 1 + w1.length + w2.length = i + 1 + (w1.length + w2.length) by omega]; exact nz) (by show 1 + l.length ≤ 8; omega) (by omega) (by rw [List.length_append]; omega)
    refine ⟨sg1 ++ sg2, fun x hx => (List.mem_append.mp hx).elim (g2 x) (z1 x), by rw [List.length_append, List.length_append]; omega, ?_⟩
    rw [g4, ok_bind, z3, ok_bind, show i + 1 + w1.length + w2.length = i + 1 + (w1.length + w2.length) by omega, expect_ok nz, ok_bind, noteAll_append, List.append_assoc, List.length_append]
    show Res.ok _ (RS.mk _ _ _) = Res.ok _ (RS.mk _ _ _)
    rw [show i + 1 + (w1.length + w2.length) + 1 = i + (w1.length + w2.length + 2) by omega]
    rfl
/-! ### names with commas -/
theorem commas_cons (a : List Nat) : ∀ l : Ws, commas (a :: l) = a :: (l.flatMap fun b => [cds ",", b])
  | [] => rfl
  | b :: l => by
    show a :: cds "," :: commas (b :: l) = _
    rw [commas_cons b l]
    rfl
theorem names_go {most : Nat} : ∀ {l l0 : Ws} {i k : Nat}, (∀ x ∈ l, isNm x) → Seg ts i (l.flatMap fun b => [cds ",", b]) → Nx ts (i + 2 * l.length) z → z ≠ cds "," → l0.length + l.length ≤ most → l.length + 1 ≤ k → rNamesGo ts most k l0 ⟨i, ds, tw⟩ = .ok (l0 ++ l) ⟨i + 2 * l.length, ds, tw⟩
  | [], l0, i, k, hn, hs, hx, hz, hc, hk => by
    obtain ⟨k, rfl⟩ : ∃ m, k = m + 1 := ⟨k - 1, by omega⟩
    unfold rNamesGo
    rw [accept_no (show Nx ts i z from hx) hz, ok_bind, if_neg Bool.false_ne_true, List.append_nil]
    rfl
  | a :: l, l0, i, k, hn, hs, hx, hz, hc, hk => by
    rw [List.length_cons] at hc hk hx
    obtain ⟨k, rfl⟩ : ∃ m, k = m + 1 := ⟨k - 1, by omega⟩
    have hs' : Seg ts i (cds "," :: a :: (l.flatMap fun b => [cds ",", b])) := hs
    have nc := hs'.nx
    rw [wm_fx _ (by decide +kernel)] at nc
    unfold rNamesGo
    rw [accept_yes nc, ok_bind, if_pos rfl, if_neg (by omega), name_ok hs'.2 (hn a List.mem_cons_self), ok_bind,
      names_go (l := l) (l0 := l0 ++ [a]) (i := i + 1 + 1) (k := k) (fun x hx => hn x (List.mem_cons_of_mem _ hx)) hs'.2.2 (by rw [show i + 1 + 1 + 2 * l.length = i + 2 * (l.length + 1) by omega]; exact hx) hz (by rw [List.length_append]; show l0.length + 1 + l.length ≤ most; omega) (by omega), List.append_assoc]
    show Res.ok _ (RS.mk _ _ _) = Res.ok _ (RS.mk _ _ _)
    rw [List.length_cons, show i + 1 + 1 + 2 * l.length = i + 2 * (l.length + 1) by omega]
    rfl
theorem commas_len : ∀ {l : Ws}, l ≠ [] → (commas l).length + 1 = 2 * l.length
  | [], h => absurd rfl h
  | a :: l, _ => by
    rw [commas_cons, List.length_cons, List.length_cons]
    have : ∀ l : Ws, (l.flatMap fun b => [cds ",", b]).length = 2 * l.length := fun l => by
      induction l with
      | nil => rfl
      | cons b l ih => rw [List.flatMap_cons, List.length_append, ih]; simp only [List.length_cons, List.length_nil]; omega
    rw [this]
    omega
theorem names_done {most : Nat} {l : Ws} (h0 : l ≠ []) (hn : ∀ x ∈ l, isNm x) (hs : Seg ts i (commas l)) (hx : Nx ts (i + (commas l).length) z) (hz : z ≠ cds ",") (hc : l.length ≤ most) : rNames ts most ⟨i, ds, tw⟩ = .ok l ⟨i + (commas l).length, ds, tw⟩ := by
  have cl := commas_len h0
  cases l with
  | nil => exact absurd rfl h0
  | cons a l =>
    rw [commas_cons] at hs
    rw [List.length_cons] at cl hc
    have e : i + (commas (a :: l)).length = i + 1 + 2 * l.length := by omega
    rw [e] at hx ⊢
    unfold rNames
    rw [name_ok hs (hn a List.mem_cons_self), ok_bind, names_go (l0 := [a]) (fun x hx => hn x (List.mem_cons_of_mem _ hx)) hs.2 hx hz (by show 1 + l.length ≤ most; omega) (by omega)]
    rfl
theorem before_no {ms : Ws} {a : List Nat} {w : Ws} (hs : Seg ts i (a :: w)) (h : (tk a).1 ≠ cds "name") : rBefore ts ms ⟨i, ds, tw⟩ = .ok false ⟨i, ds, tw⟩ := by
  obtain ⟨⟨q, h1⟩, _⟩ := hs
  obtain ⟨e, hl⟩ := tokN_of h1
  unfold rBefore
  show (if i < ts.length then (if (tokN ts i).1 = _ then _ else Res.ok false _) else _) = _
  rw [if_pos hl, e, if_neg h]
theorem before_is {ms : Ws} {a : List Nat} {w : Ws} (hs : Seg ts i (a :: w)) (h : (tk a).1 = cds "name") (n : Nx ts (i + 1) z) : rBefore ts ms ⟨i, ds, tw⟩ = .ok (decide (z ∈ ms)) ⟨i, ds, tw⟩ := by
  obtain ⟨⟨q, h1⟩, _⟩ := hs
  obtain ⟨e, hl⟩ := tokN_of h1
  unfold rBefore
  show (if i < ts.length then (if (tokN ts i).1 = _ then (rFixed ts 1 ⟨i, ds, tw⟩).bind _ else _) else _) = _
  rw [if_pos hl, e, if_pos h, fixed1 n, ok_bind]
end
end
section
open PySem PySem.Spec PyProof.Rows L2
section
variable {ts : List Tk} {n d i : Nat} {ds : List Nat} {tw : Option (List Nat)} {z : List Nat}
theorem en_wm : ∀ a ∈ cds ";" :: EN, a ∈ WM ∧ levB a = 0 ∧ a ≠ cds ":=" ∧ a ≠ cds "," ∧ a ≠ cds "|" := by decide +kernel
/-- statements behind the first -/
theorem bl_done {h : Nat} (E : SDone ts h) : ∀ {l : List Tr} {w : Ws} {ns : List Ws}, Bl h l w ns → ∀ {l0 : List Tr} {i k : Nat} {ds : List Nat} {tw : Option (List Nat)}, h ≤ n → d + h ≤ 13 → Seg ts i w → Nx ts (i + w.length) z → z ∈ EN → l.length + 1 ≤ k → ds.length + 2 * w.length ≤ 400000 →
    ∃ sg : List Nat, (∀ x ∈ sg, x + 1 ≤ d + h) ∧ sg.length ≤ 2 * w.length ∧ gBodyGo ts (gSt ts (exN ts n).1 (exN ts n).2) d k l0 ⟨i, ds, tw⟩ = .ok (l0 ++ l) ⟨i + w.length, ds ++ sg, noteAll ns tw⟩
  | [], w, ns, e, l0, i, k, ds, tw, hn, hd, hs, hx, hz, hk, hl => by
    cases e
    obtain ⟨k, rfl⟩ : ∃ m, k = m + 1 := ⟨k - 1, by omega⟩
    refine ⟨[], fun x hx => absurd hx List.not_mem_nil, Nat.zero_le _, ?_⟩
    have hz2 : z ≠ cds ";" := fun e => by
      have : ∀ a ∈ EN, a ≠ cds ";" := by decide +kernel
      exact this z hz e
    unfold gBodyGo
    rw [accept_no (show Nx ts i z from hx) hz2, ok_bind, if_neg Bool.false_ne_true, List.append_nil, List.append_nil]
    rfl
  | t :: l, w, ns, e, l0, i, k, ds, tw, hn, hd, hs, hx, hz, hk, hl => by
    cases e with
    | @cons _ _ w1 n1 _ w2 n2 e1 e2 =>
      obtain ⟨k, rfl⟩ : ∃ m, k = m + 1 := ⟨k - 1, by omega⟩
      rw [List.length_cons] at hk hx hl
      rw [List.length_append] at hx hl
      have nc := hs.nx
      rw [wm_fx _ (by decide +kernel)] at nc
      obtain ⟨_, hs2⟩ := hs
      obtain ⟨s1, s2⟩ := seg_append.mp hs2
      have hx1 : Nx ts (i + 1 + w1.length) (if l = [] then z else cds ";") := by
        cases e2 with
        | nil =>
          have : i + (w1.length + ([] : Ws).length + 1) = i + 1 + w1.length := by show i + (w1.length + 0 + 1) = _; omega
          rw [if_pos rfl, ← this]
          exact hx
        | cons _ _ =>
          have q := s2.nx
          rw [wm_fx _ (by decide +kernel)] at q
          rw [if_neg (List.cons_ne_nil _ _)]
          exact q
      have hlev : (if l = [] then z else cds ";") ∈ cds ";" :: EN := by split; exact List.mem_cons_of_mem _ hz; exact List.mem_cons_self
      obtain ⟨sg1, g2, g3, g4⟩ := E e1 (n := n) (d := d) (i := i + 1) (ds := ds) (tw := tw) hn hd s1 hx1 hlev (by omega)
      obtain ⟨sg2, q1, q2, q3⟩ := bl_done E e2 (l0 := l0 ++ [t]) (i := i + 1 + w1.length) (k := k) (ds := ds ++ sg1) (tw := noteAll n1 tw) hn hd s2 (by rw [show i + 1 + w1.length + w2.length = i + (w1.length + w2.length + 1) by omega]; exact hx) hz (by omega) (by rw [List.length_append]; omega)
      refine ⟨sg1 ++ sg2, fun x hx => (List.mem_append.mp hx).elim (g2 x) (q1 x), by rw [List.length_append, List.length_cons, List.length_append]; omega, ?_⟩
      unfold gBodyGo
      rw [accept_yes nc, ok_bind, if_pos rfl, g4, ok_bind, q3, noteAll_append, List.append_assoc, List.append_assoc]
      show Res.ok _ (RS.mk _ _ _) = Res.ok _ (RS.mk _ _ _)
      rw [List.length_cons, List.length_append, show i + 1 + w1.length + w2.length = i + (w1.length + w2.length + 1) by omega]
      rfl
theorem bl_len {h : Nat} : ∀ {l : List Tr} {w : Ws} {ns : List Ws}, Bl h l w ns → l.length ≤ w.length
  | [], _, _, _ => Nat.zero_le _
  | t :: l, _, _, .cons _ r => by
    have := bl_len r
    rw [List.length_cons, List.length_cons, List.length_append]
    omega
/-- a body -/
theorem SDone.body {h : Nat} (E : SDone ts h) : BDone ts h := by
  intro l w ns e n d i ms ds tw z hn hms hz hd hs hx hl
  obtain ⟨n, rfl⟩ : ∃ m, n = m + 1 := ⟨n - 1, by omega⟩
  have hlen := seg_len hx
  show ∃ sg : List Nat, _ ∧ _ ∧ gBody ts (gSt ts (exN ts n).1 (exN ts n).2) ms d ⟨i, ds, tw⟩ = _
  unfold gBody
  cases e with
  | nil =>
    refine ⟨[], fun x hx => absurd hx List.not_mem_nil, Nat.zero_le _, ?_⟩
    rw [fixed0 (show Nx ts i z from hx), ok_bind, if_pos hz, List.append_nil]
    rfl
  | @cons _ t w1 n1 l w2 n2 e1 e2 =>
    rw [List.length_append] at hx hl hlen
    obtain ⟨s1, s2⟩ := seg_append.mp hs
    obtain ⟨a, r, ew, hf, _⟩ := st_hd e1
    have nf : Nx ts i (fx a) := by rw [ew] at s1; exact s1.nx
    have hx1 : Nx ts (i + w1.length) (if l = [] then z else cds ";") := by
      cases e2 with
      | nil => rw [if_pos rfl]; exact hx
      | cons _ _ =>
        have q := s2.nx
        rw [wm_fx _ (by decide +kernel)] at q
        rw [if_neg (List.cons_ne_nil _ _)]
        exact q
    have hlev : (if l = [] then z else cds ";") ∈ cds ";" :: EN := by split; exact List.mem_cons_of_mem _ (hms z hz); exact List.mem_cons_self
    obtain ⟨sg1, g2, g3, g4⟩ := E e1 (n := n) (d := d) (i := i) (ds := ds) (tw := tw) (by omega) hd s1 hx1 hlev (by omega)
    have bl := bl_len e2
    obtain ⟨sg2, z1, z2, z3⟩ := bl_done E e2 (l0 := [t]) (i := i + w1.length) (k := ts.length + 1) (ds := ds ++ sg1) (tw := noteAll n1 tw) (n := n) (by omega) hd s2 (by rw [Nat.add_assoc]; exact hx) (hms z hz) (by omega) (by rw [List.length_append]; omega)
    refine ⟨sg1 ++ sg2, fun x hx => (List.mem_append.mp hx).elim (g2 x) (z1 x), by rw [List.length_append, List.length_append]; omega, ?_⟩
    rw [fixed0 nf, ok_bind, if_neg (fun h => hf (hms _ h)), g4, ok_bind, z3, noteAll_append, List.append_assoc, List.length_append, Nat.add_assoc]
    rfl
/-! ### statements -/
theorem st_next {z : List Nat} (h : z ∈ cds ";" :: EN) : levB z < 1 := by rw [(en_wm z h).2.1]; decide
theorem gst_else {w : List Nat} {ex : Nat → Nat → RS → Res RS Tr} {bo : List (List Nat) → Nat → RS → Res RS (List Tr)} (hd : d ≤ 12) (hl : ds.length < 400000) (n0 : Nx ts i w) (h : w ∉ SW) :
    gSt ts ex bo d ⟨i, ds, tw⟩ = (rBefore ts [cds ":="] ⟨i, ds ++ [d], tw⟩).bind fun b S => if b = true then gSet ts ex d S else (ex 1 (d + 1) S).bind fun t S => .ok (.t [str "eval", t]) S := by
  have k : ∀ a ∈ SW, w ≠ a := fun a ha e => h (by rw [e]; exact ha)
  unfold gSt
  rw [begin_ok hd hl, ok_bind, fixed0 n0, ok_bind, if_neg (fun e => e.elim (k _ (by decide +kernel)) (k _ (by decide +kernel))), if_neg (k _ (by decide +kernel)), if_neg (k _ (by decide +kernel)), if_neg (k _ (by decide +kernel)), if_neg (k _ (by decide +kernel))]
theorem sd_step {h : Nat} (E : EDone ts h) (B : BDone ts h) : SDone ts (h + 1) := by
  intro t w ns e n d i ds tw z hn hd hs hx hz hl
  have hz1 := st_next hz
  cases e with
  | @eval lv _ t _ _ hlv e =>
    obtain ⟨a, r, ew, hf, hnm⟩ := ex_hd e
    have hw1 : 1 ≤ w.length := by rw [ew, List.length_cons]; omega
    have nf : Nx ts i (fx a) := by rw [ew] at hs; exact hs.nx
    obtain ⟨sg, g1, g2, g3, g4⟩ := E e (n := n) (p := 1) (d := d + 1) (i := i) (ds := ds ++ [d]) (tw := tw) hn (Nat.le_refl _) hlv (by omega) hs hx hz1 (by rw [List.length_append]; show ds.length + 1 + _ ≤ _; omega)
    refine ⟨d :: sg, fun x hx => ?_, by rw [List.length_cons]; omega, ?_⟩
    · rcases List.mem_cons.mp hx with rfl | hx
      · omega
      · have := g2 x hx; omega
    · rw [gst_else (by omega) (by omega) nf hf]
      have hb : rBefore ts [cds ":="] ⟨i, ds ++ [d], tw⟩ = .ok false ⟨i, ds ++ [d], tw⟩ := by
        by_cases hk : (tk a).1 = cds "name"
        · rcases hnm hk with rfl | ⟨b, r', rfl, l, hb⟩
          · rw [ew] at hx hs
            have e : decide (z ∈ [cds ":="]) = false := decide_eq_false fun m => (en_wm z hz).2.2.1 (List.mem_singleton.mp m)
            rw [before_is hs hk (show Nx ts (i + 1) z from hx), e]
          · rw [ew] at hs
            have q := hs.2.nx
            obtain ⟨bw, _, _, _, _, _, bn, _⟩ := beh_wm hb
            rw [wm_fx b bw] at q
            have e : decide (b ∈ [cds ":="]) = false := decide_eq_false fun m => bn (List.mem_singleton.mp m)
            rw [before_is hs hk q, e]
        · rw [ew] at hs
          exact before_no hs hk
      rw [hb, ok_bind, if_neg Bool.false_ne_true, g4, ok_bind, List.append_assoc]
      rfl
  | @set lv _ t w ns x hx0 hlv e =>
    rw [List.length_cons, List.length_cons] at hx hl
    obtain ⟨sg, g1, g2, g3, g4⟩ := E e (n := n) (p := 1) (d := d + 1) (i := i + 1 + 1) (ds := ds ++ [d]) (tw := tw) hn (Nat.le_refl _) hlv (by omega) hs.2.2 (by rw [show i + 1 + 1 + w.length = i + (w.length + 1 + 1) by omega]; exact hx) hz1 (by rw [List.length_append]; show ds.length + 1 + _ ≤ _; omega)
    refine ⟨d :: sg, fun x hx => ?_, by rw [List.length_cons, List.length_cons, List.length_cons]; omega, ?_⟩
    · rcases List.mem_cons.mp hx with rfl | hx
      · omega
      · have := g2 x hx; omega
    · have nf := hs.nx
      rw [nm_fx hx0] at nf
      have q := hs.2.nx
      rw [wm_fx _ (by decide +kernel)] at q
      have hk : (tk x).1 = cds "name" := by rw [hx0]
      have e : decide (cds ":=" ∈ [cds ":="]) = true := by decide +kernel
      rw [gst_else (by omega) (by omega) nf (by decide +kernel), before_is hs hk q, e, ok_bind, if_pos rfl]
      unfold gSet
      rw [name_ok hs hx0, ok_bind, expect_ok q, ok_bind, g4, ok_bind, List.append_assoc, List.length_cons, List.length_cons, show i + 1 + 1 + w.length = i + (w.length + 1 + 1) by omega]
      rfl
  | @gf lv _ t w ns g hg hlv e =>
    rw [List.length_cons] at hx hl
    have gw : g ∈ WM := by rcases hg with rfl | rfl <;> decide +kernel
    obtain ⟨sg, g1, g2, g3, g4⟩ := E e (n := n) (p := 1) (d := d + 1) (i := i + 1) (ds := ds ++ [d]) (tw := tw) hn (Nat.le_refl _) hlv (by omega) hs.2 (by rw [show i + 1 + w.length = i + (w.length + 1) by omega]; exact hx) hz1 (by rw [List.length_append]; show ds.length + 1 + _ ≤ _; omega)
    refine ⟨d :: sg, fun x hx => ?_, by rw [List.length_cons, List.length_cons]; omega, ?_⟩
    · rcases List.mem_cons.mp hx with rfl | hx
      · omega
      · have := g2 x hx; omega
    · have nf := hs.nx
      rw [wm_fx g gw] at nf
      unfold gSt
      rw [begin_ok (by omega) (by omega), ok_bind, fixed0 nf, ok_bind, if_pos hg, expect_ok nf, ok_bind, g4, ok_bind, List.append_assoc, List.length_cons, show i + 1 + w.length = i + (w.length + 1) by omega]
      rfl
  | @whl lv _ t w ns l w2 n2 hlv e b =>
    simp only [List.length_cons, List.length_append, List.length_nil] at hx hl
    have nf := hs.nx
    rw [wm_fx _ (by decide +kernel)] at nf
    obtain ⟨s1, s2⟩ := seg_append.mp hs.2
    have q := s2.nx
    rw [wm_fx _ (by decide +kernel)] at q
    obtain ⟨s3, s4⟩ := seg_append.mp s2.2
    have r := s4.nx
    rw [wm_fx _ (by decide +kernel)] at r
    obtain ⟨sg, g1, g2, g3, g4⟩ := E e (n := n) (p := 1) (d := d + 1) (i := i + 1) (ds := ds ++ [d]) (tw := tw) hn (Nat.le_refl _) hlv (by omega) s1 q (by decide +kernel) (by rw [List.length_append]; show ds.length + 1 + _ ≤ _; omega)
    obtain ⟨sg2, b2, b3, b4⟩ := B b (n := n) (d := d + 1) (i := i + 1 + w.length + 1) (ms := [cds "end"]) (ds := ds ++ [d] ++ sg) (tw := noteAll ns tw) (z := cds "end") hn (by decide +kernel) (by decide +kernel) (by omega) s3 r (by rw [List.length_append, List.length_append]; show ds.length + 1 + _ + _ ≤ _; omega)
    refine ⟨d :: (sg ++ sg2), fun x hx => ?_, by simp only [List.length_cons, List.length_append, List.length_nil]; omega, ?_⟩
    · rcases List.mem_cons.mp hx with rfl | hx
      · omega
      · rcases List.mem_append.mp hx with hx | hx
        · have := g2 x hx; omega
        · have := b2 x hx; omega
    · unfold gSt
      rw [begin_ok (by omega) (by omega), ok_bind, fixed0 nf, ok_bind, if_neg (by decide +kernel), if_pos rfl]
      unfold gWhile
      rw [expect_ok nf, ok_bind, g4, ok_bind, expect_ok q, ok_bind, b4, ok_bind, expect_ok r, ok_bind, noteAll_append]
      simp only [List.length_cons, List.length_append, List.length_nil, List.append_assoc, List.cons_append, List.nil_append]
      rw [show i + 1 + w.length + 1 + w2.length + 1 = i + (w.length + (w2.length + (0 + 1) + 1) + 1) by omega]
  | @if0 lv _ t w ns l w2 n2 hlv e b =>
    simp only [List.length_cons, List.length_append, List.length_nil] at hx hl
    have nf := hs.nx
    rw [wm_fx _ (by decide +kernel)] at nf
    obtain ⟨s1, s2⟩ := seg_append.mp hs.2
    have q := s2.nx
    rw [wm_fx _ (by decide +kernel)] at q
    obtain ⟨s3, s4⟩ := seg_append.mp s2.2
    have r := s4.nx
    rw [wm_fx _ (by decide +kernel)] at r
    obtain ⟨sg, g1, g2, g3, g4⟩ := E e (n := n) (p := 1) (d := d + 1) (i := i + 1) (ds := ds ++ [d]) (tw := tw) hn (Nat.le_refl _) hlv (by omega) s1 q (by decide +kernel) (by rw [List.length_append]; show ds.length + 1 + _ ≤ _; omega)
    obtain ⟨sg2, b2, b3, b4⟩ := B b (n := n) (d := d + 1) (i := i + 1 + w.length + 1) (ms := [cds "else", cds "end"]) (ds := ds ++ [d] ++ sg) (tw := noteAll ns tw) (z := cds "end") hn (by decide +kernel) (by decide +kernel) (by omega) s3 r (by rw [List.length_append, List.length_append]; show ds.length + 1 + _ + _ ≤ _; omega)
    refine ⟨d :: (sg ++ sg2), fun x hx => ?_, by simp only [List.length_cons, List.length_append, List.length_nil]; omega, ?_⟩
    · rcases List.mem_cons.mp hx with rfl | hx
      · omega
      · rcases List.mem_append.mp hx with hx | hx
        · have := g2 x hx; omega
        · have := b2 x hx; omega
    · unfold gSt
      rw [begin_ok (by omega) (by omega), ok_bind, fixed0 nf, ok_bind, if_neg (by decide +kernel), if_neg (by decide +kernel), if_pos rfl]
      unfold gIf
      rw [expect_ok nf, ok_bind, g4, ok_bind, expect_ok q, ok_bind, b4, ok_bind, accept_no r (by decide +kernel), ok_bind, if_neg Bool.false_ne_true, expect_ok r, ok_bind, noteAll_append]
      simp only [List.length_cons, List.length_append, List.length_nil, List.append_assoc, List.cons_append, List.nil_append]
      rw [show i + 1 + w.length + 1 + w2.length + 1 = i + (w.length + (w2.length + (0 + 1) + 1) + 1) by omega]
  | @if1 lv _ t w ns l w2 n2 l3 w3 n3 hlv e b c =>
    simp only [List.length_cons, List.length_append, List.length_nil] at hx hl
    have nf := hs.nx
    rw [wm_fx _ (by decide +kernel)] at nf
    obtain ⟨s1, s2⟩ := seg_append.mp hs.2
    have q := s2.nx
    rw [wm_fx _ (by decide +kernel)] at q
    obtain ⟨s3, s4⟩ := seg_append.mp s2.2
    have r := s4.nx
    rw [wm_fx _ (by decide +kernel)] at r
    obtain ⟨s5, s6⟩ := seg_append.mp s4.2
    have u := s6.nx
    rw [wm_fx _ (by decide +kernel)] at u
    obtain ⟨sg, g1, g2, g3, g4⟩ := E e (n := n) (p := 1) (d := d + 1) (i := i + 1) (ds := ds ++ [d]) (tw := tw) hn (Nat.le_refl _) hlv (by omega) s1 q (by decide +kernel) (by rw [List.length_append]; show ds.length + 1 + _ ≤ _; omega)
    obtain ⟨sg2, b2, b3, b4⟩ := B b (n := n) (d := d + 1) (i := i + 1 + w.length + 1) (ms := [cds "else", cds "end"]) (ds := ds ++ [d] ++ sg) (tw := noteAll ns tw) (z := cds "else") hn (by decide +kernel) (by decide +kernel) (by omega) s3 r (by rw [List.length_append, List.length_append]; show ds.length + 1 + _ + _ ≤ _; omega)
    obtain ⟨sg3, c2, c3, c4⟩ := B c (n := n) (d := d + 1) (i := i + 1 + w.length + 1 + w2.length + 1) (ms := [cds "end"]) (ds := ds ++ [d] ++ sg ++ sg2) (tw := noteAll n2 (noteAll ns tw)) (z := cds "end") hn (by decide +kernel) (by decide +kernel) (by omega) s5 u (by rw [List.length_append, List.length_append, List.length_append]; show ds.length + 1 + _ + _ + _ ≤ _; omega)
    refine ⟨d :: (sg ++ (sg2 ++ sg3)), fun x hx => ?_, by simp only [List.length_cons, List.length_append, List.length_nil]; omega, ?_⟩
    · rcases List.mem_cons.mp hx with rfl | hx
      · omega
      · rcases List.mem_append.mp hx with hx | hx
        · have := g2 x hx; omega
        · rcases List.mem_append.mp hx with hx | hx
          · have := b2 x hx; omega
          · have := c2 x hx; omega
    · unfold gSt
      rw [begin_ok (by omega) (by omega), ok_bind, fixed0 nf, ok_bind, if_neg (by decide +kernel), if_neg (by decide +kernel), if_pos rfl]
      unfold gIf
      rw [expect_ok nf, ok_bind, g4, ok_bind, expect_ok q, ok_bind, b4, ok_bind, accept_yes r, ok_bind, if_pos rfl, c4, ok_bind, expect_ok u, ok_bind, noteAll_append, noteAll_append]
      simp only [List.length_cons, List.length_append, List.length_nil, List.append_assoc, List.cons_append, List.nil_append]
      rw [show i + 1 + w.length + 1 + w2.length + 1 + w3.length + 1 = i + (w.length + (w2.length + (w3.length + (0 + 1) + 1) + 1) + 1) by omega]
  | @try_ _ l w ns x l2 w2 n2 b hx0 c =>
    simp only [List.length_cons, List.length_append, List.length_nil] at hx hl
    have nf := hs.nx
    rw [wm_fx _ (by decide +kernel)] at nf
    obtain ⟨s1, s2⟩ := seg_append.mp hs.2
    have q := s2.nx
    rw [wm_fx _ (by decide +kernel)] at q
    have qt := s2.2.2.nx
    rw [wm_fx _ (by decide +kernel)] at qt
    obtain ⟨s3, s4⟩ := seg_append.mp s2.2.2.2
    have r := s4.nx
    rw [wm_fx _ (by decide +kernel)] at r
    obtain ⟨sg, g2, g3, g4⟩ := B b (n := n) (d := d + 1) (i := i + 1) (ms := [cds "catch"]) (ds := ds ++ [d]) (tw := tw) (z := cds "catch") hn (by decide +kernel) (by decide +kernel) (by omega) s1 q (by rw [List.length_append]; show ds.length + 1 + _ ≤ _; omega)
    obtain ⟨sg2, b2, b3, b4⟩ := B c (n := n) (d := d + 1) (i := i + 1 + w.length + 1 + 1 + 1) (ms := [cds "end"]) (ds := ds ++ [d] ++ sg) (tw := noteAll ns tw) (z := cds "end") hn (by decide +kernel) (by decide +kernel) (by omega) s3 r (by rw [List.length_append, List.length_append]; show ds.length + 1 + _ + _ ≤ _; omega)
    refine ⟨d :: (sg ++ sg2), fun x hx => ?_, by simp only [List.length_cons, List.length_append, List.length_nil]; omega, ?_⟩
    · rcases List.mem_cons.mp hx with rfl | hx
      · omega
      · rcases List.mem_append.mp hx with hx | hx
        · have := g2 x hx; omega
        · have := b2 x hx; omega
    · unfold gSt
      rw [begin_ok (by omega) (by omega), ok_bind, fixed0 nf, ok_bind, if_neg (by decide +kernel), if_neg (by decide +kernel), if_neg (by decide +kernel), if_pos rfl]
      unfold gTry
      rw [expect_ok nf, ok_bind, g4, ok_bind, expect_ok q, ok_bind, name_ok s2.2 hx0, ok_bind, expect_ok qt, ok_bind, b4, ok_bind, expect_ok r, ok_bind, noteAll_append]
      simp only [List.length_cons, List.length_append, List.length_nil, List.append_assoc, List.cons_append, List.nil_append]
      rw [show i + 1 + w.length + 1 + 1 + 1 + w2.length + 1 = i + (w.length + (w2.length + (0 + 1) + 1 + 1 + 1) + 1) by omega]
  | @keep _ l w ns l2 w2 n2 b c =>
    simp only [List.length_cons, List.length_append, List.length_nil] at hx hl
    have nf := hs.nx
    rw [wm_fx _ (by decide +kernel)] at nf
    obtain ⟨s1, s2⟩ := seg_append.mp hs.2
    have q := s2.nx
    rw [wm_fx _ (by decide +kernel)] at q
    obtain ⟨s3, s4⟩ := seg_append.mp s2.2
    have r := s4.nx
    rw [wm_fx _ (by decide +kernel)] at r
    obtain ⟨sg, g2, g3, g4⟩ := B b (n := n) (d := d + 1) (i := i + 1) (ms := [cds "always"]) (ds := ds ++ [d]) (tw := tw) (z := cds "always") hn (by decide +kernel) (by decide +kernel) (by omega) s1 q (by rw [List.length_append]; show ds.length + 1 + _ ≤ _; omega)
    obtain ⟨sg2, b2, b3, b4⟩ := B c (n := n) (d := d + 1) (i := i + 1 + w.length + 1) (ms := [cds "end"]) (ds := ds ++ [d] ++ sg) (tw := noteAll ns tw) (z := cds "end") hn (by decide +kernel) (by decide +kernel) (by omega) s3 r (by rw [List.length_append, List.length_append]; show ds.length + 1 + _ + _ ≤ _; omega)
    refine ⟨d :: (sg ++ sg2), fun x hx => ?_, by simp only [List.length_cons, List.length_append, List.length_nil]; omega, ?_⟩
    · rcases List.mem_cons.mp hx with rfl | hx
      · omega
      · rcases List.mem_append.mp hx with hx | hx
        · have := g2 x hx; omega
        · have := b2 x hx; omega
    · unfold gSt
      rw [begin_ok (by omega) (by omega), ok_bind, fixed0 nf, ok_bind, if_neg (by decide +kernel), if_neg (by decide +kernel), if_neg (by decide +kernel), if_neg (by decide +kernel), if_pos rfl]
      unfold gKeep
      rw [expect_ok nf, ok_bind, g4, ok_bind, expect_ok q, ok_bind, b4, ok_bind, expect_ok r, ok_bind, noteAll_append]
      simp only [List.length_cons, List.length_append, List.length_nil, List.append_assoc, List.cons_append, List.nil_append]
      rw [show i + 1 + w.length + 1 + w2.length + 1 = i + (w.length + (w2.length + (0 + 1) + 1) + 1) by omega]
end
end
section
open PySem PySem.Spec PyProof.Rows L2
section
variable {ts : List Tk} {n d i p : Nat} {ds : List Nat} {tw : Option (List Nat)} {z : List Nat}
/-- what begins with a word or mark and is tight -/
theorem tight {h : Nat} {t : Tr} {w r : Ws} {ns : List Ws} {a : List Nat} {sg : List Nat} (ew : w = a :: r) (ha : a ∈ WM) (h0 : (aheadN.lookup a).getD 0 = 0) (hp : 1 ≤ p) (hd : d + h ≤ 13) (hh : 1 ≤ h) (hs : Seg ts i w) (hx : Nx ts (i + w.length) z) (hl : ds.length < 400000)
    (h1 : ∀ x ∈ sg, x + 1 ≤ d + h) (h2 : sg.length + 2 ≤ 2 * w.length) (g : gRest ts (exN ts n).1 (exN ts n).2 d a ⟨i, ds ++ [d], tw⟩ = .ok t ⟨i + w.length, ds ++ [d] ++ sg, noteAll ns tw⟩) :
    ∃ (sg : List Nat) (k : Nat), sg ≠ [] ∧ (∀ x ∈ sg, x + 1 ≤ d + h) ∧ sg.length + 1 ≤ 2 * w.length ∧ ts.length + 1 ≤ k + w.length ∧
      gExpr ts (exN ts n).1 (exN ts n).2 p d ⟨i, ds, tw⟩ = gExprGo ts (exN ts n).1 p d ds.length k t 9 z ⟨i + w.length, ds ++ sg, noteAll ns tw⟩ := by
  have hs' := hs
  rw [ew] at hs'
  have nf := hs'.nx
  rw [wm_fx a ha] at nf
  refine ⟨d :: sg, ts.length + 1, List.cons_ne_nil _ _, fun x hx => ?_, by rw [List.length_cons]; omega, by omega, ?_⟩
  · rcases List.mem_cons.mp hx with rfl | hx
    · omega
    · exact h1 x hx
  · refine of_opening ?_ hx (by omega) hl
    refine opening_prim nf (by omega) ?_
    rw [prim_rest hs' ha, g, List.append_assoc]
    rfl
/-- one token that is no word or mark -/
theorem leaf {h : Nat} {t : Tr} {a : List Nat} (hp : 1 ≤ p) (hd : d + (h + 1) ≤ 13) (hs : Seg ts i [a]) (hx : Nx ts (i + 1) z) (hl : ds.length < 400000) (hf : fx a = []) (g : ∀ q ds, ts[i]? = some ((tk a).1, (tk a).2, q) → gPrimary ts (exN ts n).1 (exN ts n).2 d ⟨i, ds, tw⟩ = .ok t ⟨i + 1, ds, tw⟩) :
    ∃ (sg : List Nat) (k : Nat), sg ≠ [] ∧ (∀ x ∈ sg, x + 1 ≤ d + (h + 1)) ∧ sg.length + 1 ≤ 2 * [a].length ∧ ts.length + 1 ≤ k + [a].length ∧
      gExpr ts (exN ts n).1 (exN ts n).2 p d ⟨i, ds, tw⟩ = gExprGo ts (exN ts n).1 p d ds.length k t 9 z ⟨i + [a].length, ds ++ sg, noteAll [] tw⟩ := by
  have nf := hs.nx
  rw [hf] at nf
  obtain ⟨⟨q, h1⟩, _⟩ := hs
  refine ⟨[d], ts.length + 1, List.cons_ne_nil _ _, fun x hx => by rw [List.mem_singleton.mp hx]; omega, Nat.le_refl _, by omega, ?_⟩
  exact of_opening (opening_prim nf (show 0 < p by omega) (g q _ h1)) hx (by omega) hl
theorem eg_step {h : Nat} (G : EGood ts h) (E : EDone ts h) (B : BDone ts h) : EGood ts (h + 1) := by
  intro lv t w ns e n p d i ds tw z hn hp hpl hd hs hx hz hl
  cases e with
  | @num _ a x e =>
    exact leaf hp hd hs hx (by simp at hl; omega) (fx_kind e (by decide +kernel) (by decide +kernel)) fun q ds hq => by
      rw [e] at hq
      exact prim_plain hq (.inl rfl)
  | @text _ a b e =>
    exact leaf hp hd hs hx (by simp at hl; omega) (fx_kind e (by decide +kernel) (by decide +kernel)) fun q ds hq => by
      rw [e] at hq
      rw [prim_plain hq (.inr rfl)]
      show Res.ok (Tr.t [str "plain", .s (⟨b.toArray⟩ : Str).cps.toList]) _ = _
      rw [show (⟨b.toArray⟩ : Str).cps.toList = b from txtV_T' b]
  | @name _ a e =>
    exact leaf hp hd hs hx (by simp at hl; omega) (nm_fx e) fun q ds hq => by
      rw [e] at hq
      rw [prim_name hq]
      show Res.ok (Tr.t [str "name", .s (⟨a.toArray⟩ : Str).cps.toList]) _ = _
      rw [show (⟨a.toArray⟩ : Str).cps.toList = a from txtV_T' a]
  | @word _ a v e =>
    have nf := hs.nx
    have key : ∀ b ∈ [cds "none", cds "true", cds "false"], b ∈ WM ∧ (aheadN.lookup b).getD 0 = 0 ∧ b ≠ cds "{" ∧ b ≠ cds "super" ∧ b ≠ cds "(" ∧ b ≠ cds "new" ∧ b ≠ cds "self" := by decide +kernel
    have ha : a ∈ [cds "none", cds "true", cds "false"] := by
      rcases plain_cases e with rfl | rfl | rfl <;> decide +kernel
    obtain ⟨k1, k2, k3, k4, k5, k6, k7⟩ := key a ha
    rw [wm_fx a k1] at nf
    refine tight (sg := []) (h := h + 1) rfl k1 k2 hp hd (by omega) hs hx (by simp at hl; omega) (fun x hx => absurd hx List.not_mem_nil) (by simp) ?_
    unfold gRest
    rw [if_neg k3, if_neg k4, accept_no nf k5, ok_bind, if_neg Bool.false_ne_true, accept_no nf k6, ok_bind, if_neg Bool.false_ne_true, accept_no nf k7, ok_bind, if_neg Bool.false_ne_true, e]
    show (rExpect ts a _).bind _ = _
    rw [expect_ok nf, ok_bind, List.append_nil]
    rfl
  | self =>
    have nf := hs.nx
    rw [wm_fx _ (by decide +kernel)] at nf
    refine tight (sg := []) (h := h + 1) rfl (by decide +kernel) (by decide +kernel) hp hd (by omega) hs hx (by simp at hl; omega) (fun x hx => absurd hx List.not_mem_nil) (by simp) ?_
    unfold gRest
    rw [if_neg (by decide +kernel), if_neg (by decide +kernel), accept_no nf (by decide +kernel), ok_bind, if_neg Bool.false_ne_true, accept_no nf (by decide +kernel), ok_bind, if_neg Bool.false_ne_true, accept_yes nf, ok_bind, if_pos rfl, List.append_nil]
    rfl
  | @new _ a e =>
    have nf := hs.nx
    rw [wm_fx _ (by decide +kernel)] at nf
    obtain ⟨⟨q, hq⟩, _⟩ := hs.2
    rw [e] at hq
    refine tight (sg := []) (h := h + 1) rfl (by decide +kernel) (by decide +kernel) hp hd (by omega) hs hx (by simp at hl; omega) (fun x hx => absurd hx List.not_mem_nil) (by simp) ?_
    unfold gRest
    rw [if_neg (by decide +kernel), if_neg (by decide +kernel), accept_no nf (by decide +kernel), ok_bind, if_neg Bool.false_ne_true, accept_yes nf, ok_bind, if_pos rfl, take_ok hq, ok_bind, List.append_nil]
    show Res.ok (Tr.t [str "new", .s (⟨a.toArray⟩ : Str).cps.toList]) _ = _
    rw [show (⟨a.toArray⟩ : Str).cps.toList = a from txtV_T' a]
    rfl
  | @par lv1 _ t w ns h1 e =>
    simp only [List.length_cons, List.length_append, List.length_nil] at hl
    have nf := hs.nx
    rw [wm_fx _ (by decide +kernel)] at nf
    obtain ⟨s1, s2⟩ := seg_append.mp hs.2
    have q := s2.nx
    rw [wm_fx _ (by decide +kernel)] at q
    obtain ⟨sg, g1, g2, g3, g4⟩ := E e (n := n) (p := 1) (d := d + 1) (i := i + 1) (ds := ds ++ [d]) (tw := tw) hn (Nat.le_refl _) h1 (by omega) s1 q (by decide +kernel) (by rw [List.length_append]; show ds.length + 1 + _ ≤ _; omega)
    refine tight (sg := sg) (h := h + 1) rfl (by decide +kernel) (by decide +kernel) hp hd (by omega) hs hx (by omega) (fun x hx => by have := g2 x hx; omega) (by simp only [List.length_cons, List.length_append, List.length_nil]; omega) ?_
    unfold gRest
    rw [if_neg (by decide +kernel), if_neg (by decide +kernel), accept_yes nf, ok_bind, if_pos rfl, g4, ok_bind, expect_ok q, ok_bind]
    simp only [List.length_cons, List.length_append, List.length_nil]
    rw [show i + 1 + w.length + 1 = i + (w.length + (0 + 1) + 1) by omega]
  | @neg lv1 _ t w ns h1 e =>
    rw [List.length_cons] at hl hx
    have nf := hs.nx
    rw [wm_fx _ (by decide +kernel)] at nf
    have hz7 : levB z < 7 := by have := (levB_ne z).2; omega
    obtain ⟨sg, g1, g2, g3, g4⟩ := E e (n := n) (p := 7) (d := d + 1) (i := i + 1) (ds := ds ++ [d]) (tw := tw) hn (by decide) h1 (by omega) hs.2 (by rw [show i + 1 + w.length = i + (w.length + 1) by omega]; exact hx) hz7 (by rw [List.length_append]; show ds.length + 1 + _ ≤ _; omega)
    refine ⟨d :: sg, ts.length + 1, List.cons_ne_nil _ _, fun x hx => ?_, by rw [List.length_cons, List.length_cons]; omega, by omega, ?_⟩
    · rcases List.mem_cons.mp hx with rfl | hx
      · omega
      · have := g2 x hx; omega
    · have la : (aheadN.lookup (cds "-")).getD 0 = 7 := by decide +kernel
      refine of_opening ?_ hx (by omega) (by omega)
      have := opening_ahead (ts := ts) (ex := (exN ts n).1) (bo := (exN ts n).2) (p := p) (d := d) (i := i) (ds := ds ++ [d]) (tw := tw) (nm := cds "neg") nf (by rw [la]; omega) (by decide +kernel) (by rw [la]; exact g4)
      rw [this, la, List.append_assoc, List.length_cons, show i + 1 + w.length = i + (w.length + 1) by omega]
      rfl
  | @not lv1 _ t w ns h1 e =>
    rw [List.length_cons] at hl hx
    have nf := hs.nx
    rw [wm_fx _ (by decide +kernel)] at nf
    have hz7 : levB z < 3 := by have := (levB_ne z).1; omega
    obtain ⟨sg, g1, g2, g3, g4⟩ := E e (n := n) (p := 3) (d := d + 1) (i := i + 1) (ds := ds ++ [d]) (tw := tw) hn (by decide) h1 (by omega) hs.2 (by rw [show i + 1 + w.length = i + (w.length + 1) by omega]; exact hx) hz7 (by rw [List.length_append]; show ds.length + 1 + _ ≤ _; omega)
    refine ⟨d :: sg, ts.length + 1, List.cons_ne_nil _ _, fun x hx => ?_, by rw [List.length_cons, List.length_cons]; omega, by omega, ?_⟩
    · rcases List.mem_cons.mp hx with rfl | hx
      · omega
      · have := g2 x hx; omega
    · have la : (aheadN.lookup (cds "not")).getD 0 = 3 := by decide +kernel
      refine of_opening ?_ hx (by omega) (by omega)
      have := opening_ahead (ts := ts) (ex := (exN ts n).1) (bo := (exN ts n).2) (p := p) (d := d) (i := i) (ds := ds ++ [d]) (tw := tw) (nm := cds "not") nf (by rw [la]; omega) (by decide +kernel) (by rw [la]; exact g4)
      rw [this, la, List.append_assoc, List.length_cons, show i + 1 + w.length = i + (w.length + 1) by omega]
      rfl
  | @bin l lv1 lv2 _ s t1 t2 w1 w2 n1 n2 hb hdot h1 e1 h2 e2 =>
    simp only [List.length_cons, List.length_append] at hl hx
    obtain ⟨sw, sl, l1, l8, l3, l7, _, _, _⟩ := beh_wm hb
    obtain ⟨s1, s2⟩ := seg_append.mp hs
    have q := s2.nx
    rw [wm_fx s sw] at q
    have hll : lv ≤ lv1 := by split at h1 <;> omega
    obtain ⟨sg, k, g1, g2, g3, g4, g5⟩ := G e1 (n := n) (p := p) (d := d) (i := i) (ds := ds) (tw := tw) (z := s) (by omega) hp (by omega) (by omega) s1 q (by omega) (by omega)
    have hw1 : 1 ≤ w1.length := by
      obtain ⟨a, r, ew, _⟩ := ex_hd e1
      rw [ew, List.length_cons]; omega
    have hx2 : Nx ts (i + w1.length + 1 + w2.length) z := by rw [show i + w1.length + 1 + w2.length = i + (w1.length + (w2.length + 1)) by omega]; exact hx
    obtain ⟨sg2, b1, b2, b3, b4⟩ := E e2 (n := n) (p := lv + 1) (d := d + 1) (i := i + w1.length + 1) (ds := ds ++ sg.map (· + 1)) (tw := noteAll n1 tw) hn (by omega) h2 (by omega) s2.2 hx2 (by omega) (by rw [List.length_append, List.length_map]; omega)
    have hk : 1 ≤ k := by
      have := seg_len (w := w1) (i := i) q
      omega
    obtain ⟨k, rfl⟩ : ∃ m, k = m + 1 := ⟨k - 1, by omega⟩
    refine ⟨sg.map (· + 1) ++ sg2, k, by simp [g1], fun x hx => ?_, by simp only [List.length_append, List.length_map, List.length_cons]; omega, by simp only [List.length_append, List.length_cons]; omega, ?_⟩
    · rcases List.mem_append.mp hx with hx | hx
      · obtain ⟨y, hy, rfl⟩ := List.mem_map.mp hx
        have := g2 y hy; omega
      · have := b2 x hx; omega
    · have hgo : goOn s p lv1 = true := by
        unfold goOn
        rw [sl, decide_eq_true hpl]
        by_cases h4 : lv = 4
        · rw [if_pos h4] at h1
          rw [decide_eq_true (show 4 < lv1 by omega)]
          simp
        · simp [h4]
      have hsign : gSign ts (exN ts n).1 s lv d t1 ⟨i + w1.length + 1, ds ++ sg.map (· + 1), noteAll n1 tw⟩ = .ok (binT s t1 t2) ⟨i + w1.length + 1 + w2.length, ds ++ sg.map (· + 1) ++ sg2, noteAll n2 (noteAll n1 tw)⟩ := by
        unfold gSign binT
        rw [if_neg hdot]
        by_cases ha : s = cds "and" ∨ s = cds "or"
        · rw [if_pos ha, if_pos ha, b4, ok_bind]
        · rw [if_neg ha, if_neg ha, b4, ok_bind]
      rw [g5]
      show (if goOn s p lv1 = true then _ else _) = _
      rw [if_pos hgo, deepen_ok g1 (fun x hx => by have := g2 x hx; omega), ok_bind, expect_ok q, ok_bind, hb]
      show (gSign ts (exN ts n).1 s lv d t1 _).bind _ = _
      rw [hsign, ok_bind, fixed0 hx2, ok_bind, noteAll_append, List.append_assoc]
      simp only [List.length_append, List.length_cons]
      rw [show i + w1.length + 1 + w2.length = i + (w1.length + (w2.length + 1)) by omega]
  | @send lv1 _ t w ns x l w2 n2 h8 e hx0 a =>
    simp only [List.length_cons, List.length_append, List.length_nil] at hl hx
    obtain ⟨s1, s2⟩ := seg_append.mp hs
    have q := s2.nx
    rw [wm_fx _ (by decide +kernel)] at q
    have ld : levB (cds ".") = 8 := by decide +kernel
    obtain ⟨sg, k, g1, g2, g3, g4, g5⟩ := G e (n := n) (p := p) (d := d) (i := i) (ds := ds) (tw := tw) (z := cds ".") (by omega) hp (by omega) (by omega) s1 q (by omega) (by omega)
    have hx2 : Nx ts (i + w.length + 1 + 1 + (w2.length + 2)) z := by rw [show i + w.length + 1 + 1 + (w2.length + 2) = i + (w.length + (w2.length + (0 + 1) + 1 + 1 + 1)) by omega]; exact hx
    obtain ⟨sg2, b2, b3, b4⟩ := ar_done (n := n) (d := d + 1) (i := i + w.length + 1 + 1) (ds := ds ++ sg.map (· + 1)) (tw := noteAll ns tw) E a hn (by omega) s2.2.2 (by rw [List.length_append, List.length_map]; omega)
    have hk : 1 ≤ k := by
      have := seg_len (w := w) (i := i) q
      omega
    obtain ⟨k, rfl⟩ : ∃ m, k = m + 1 := ⟨k - 1, by omega⟩
    refine ⟨sg.map (· + 1) ++ sg2, k, by simp [g1], fun x hx => ?_, by simp only [List.length_append, List.length_map, List.length_cons, List.length_nil]; omega, by simp only [List.length_append, List.length_cons, List.length_nil]; omega, ?_⟩
    · rcases List.mem_append.mp hx with hx | hx
      · obtain ⟨y, hy, rfl⟩ := List.mem_map.mp hx
        have := g2 y hy; omega
      · have := b2 x hx; omega
    · have hgo : goOn (cds ".") p lv1 = true := by
        unfold goOn
        rw [ld, decide_eq_true hpl]
        simp
      have hsign : gSign ts (exN ts n).1 (cds ".") 8 d t ⟨i + w.length + 1, ds ++ sg.map (· + 1), noteAll ns tw⟩ = .ok (.t [str "send", t, .s x, .t l]) ⟨i + w.length + 1 + 1 + (w2.length + 2), ds ++ sg.map (· + 1) ++ sg2, noteAll n2 (noteAll ns tw)⟩ := by
        unfold gSign
        rw [if_pos rfl, name_ok s2.2 hx0, ok_bind, b4, ok_bind]
      rw [g5]
      show (if goOn (cds ".") p lv1 = true then _ else _) = _
      rw [if_pos hgo, deepen_ok g1 (fun x hx => by have := g2 x hx; omega), ok_bind, expect_ok q, ok_bind, beh_dot]
      show (gSign ts (exN ts n).1 (cds ".") 8 d t _).bind _ = _
      rw [hsign, ok_bind, fixed0 hx2, ok_bind, noteAll_append, List.append_assoc]
      simp only [List.length_append, List.length_cons, List.length_nil]
      rw [show i + w.length + 1 + 1 + (w2.length + 2) = i + (w.length + (w2.length + (0 + 1) + 1 + 1 + 1)) by omega]
  | @sup _ x l w2 n2 hx0 a =>
    simp only [List.length_cons, List.length_append, List.length_nil] at hl
    have nf := hs.nx
    rw [wm_fx _ (by decide +kernel)] at nf
    have q := hs.2.nx
    rw [wm_fx _ (by decide +kernel)] at q
    obtain ⟨sg2, b2, b3, b4⟩ := ar_done (n := n) (d := d + 1) (i := i + 1 + 1 + 1) (ds := ds ++ [d]) (tw := tw) E a hn (by omega) hs.2.2.2 (by rw [List.length_append]; show ds.length + 1 + _ ≤ _; omega)
    refine tight (sg := sg2) (h := h + 1) rfl (by decide +kernel) (by decide +kernel) hp hd (by omega) hs hx (by omega) (fun x hx => by have := b2 x hx; omega) (by simp only [List.length_cons, List.length_append, List.length_nil]; omega) ?_
    unfold gRest
    rw [if_neg (by decide +kernel), if_pos rfl]
    unfold gSuper
    rw [expect_ok nf, ok_bind, expect_ok q, ok_bind, name_ok hs.2.2 hx0, ok_bind, b4, ok_bind]
    simp only [List.length_cons, List.length_append, List.length_nil]
    rw [show i + 1 + 1 + 1 + (w2.length + 2) = i + (w2.length + (0 + 1) + 1 + 1 + 1 + 1) by omega]
  | @blk0 _ l w ns b =>
    simp only [List.length_cons, List.length_append, List.length_nil] at hl
    have nf := hs.nx
    rw [wm_fx _ (by decide +kernel)] at nf
    obtain ⟨s1, s2⟩ := seg_append.mp hs.2
    have q := s2.nx
    rw [wm_fx _ (by decide +kernel)] at q
    obtain ⟨sg, b2, b3, b4⟩ := B b (n := n) (d := d + 1) (i := i + 1) (ms := [cds "}"]) (ds := ds ++ [d]) (tw := tw) (z := cds "}") hn (by decide +kernel) (by decide +kernel) (by omega) s1 q (by rw [List.length_append]; show ds.length + 1 + _ ≤ _; omega)
    have hbef : rBefore ts [cds ",", cds "|"] ⟨i + 1, ds ++ [d], tw⟩ = .ok false ⟨i + 1, ds ++ [d], tw⟩ := by
      cases b with
      | nil => exact before_no hs.2 (wm_kind _ (by decide +kernel)).2.2
      | @cons _ t w1 n1 l w2 n2 e1 e2 =>
        obtain ⟨a, r, ew, hf, hnm⟩ := st_hd e1
        by_cases hk : (tk a).1 = cds "name"
        · have s1' := s1
          rw [ew] at s1'
          rcases hnm hk with rfl | ⟨b, r', rfl, hb⟩
          · have n2x : Nx ts (i + 1 + 1) (if l = [] then cds "}" else cds ";") := by
              cases e2 with
              | nil =>
                rw [if_pos rfl]
                rw [ew] at q
                exact q
              | cons _ _ =>
                rw [if_neg (List.cons_ne_nil _ _)]
                have := s1'.2.nx
                rw [wm_fx _ (by decide +kernel)] at this
                exact this
            rw [before_is s1' hk n2x]
            have : decide ((if l = [] then cds "}" else cds ";") ∈ [cds ",", cds "|"]) = false := by split <;> decide +kernel
            rw [this]
          · rw [before_is s1' hk s1'.2.nx, decide_eq_false hb]
        · rw [ew] at s1
          exact before_no s1 hk
    refine tight (sg := sg) (h := h + 1) rfl (by decide +kernel) (by decide +kernel) hp hd (by omega) hs hx (by omega) (fun x hx => by have := b2 x hx; omega) (by simp only [List.length_cons, List.length_append, List.length_nil]; omega) ?_
    unfold gRest
    rw [if_pos rfl]
    unfold gBlock
    rw [expect_ok nf, ok_bind, hbef, ok_bind, if_neg Bool.false_ne_true, b4, ok_bind, expect_ok q, ok_bind]
    simp only [List.length_cons, List.length_append, List.length_nil]
    rw [show i + 1 + w.length + 1 = i + (w.length + (0 + 1) + 1) by omega]
  | @blk _ ps l w ns hps h4 hnm b =>
    simp only [List.length_cons, List.length_append, List.length_nil] at hl
    have nf := hs.nx
    rw [wm_fx _ (by decide +kernel)] at nf
    obtain ⟨s1, s2⟩ := seg_append.mp hs.2
    have q := s2.nx
    rw [wm_fx _ (by decide +kernel)] at q
    obtain ⟨s3, s4⟩ := seg_append.mp s2.2
    have r := s4.nx
    rw [wm_fx _ (by decide +kernel)] at r
    have cl := commas_len hps
    obtain ⟨sg, b2, b3, b4⟩ := B b (n := n) (d := d + 1) (i := i + 1 + (commas ps).length + 1) (ms := [cds "}"]) (ds := ds ++ [d]) (tw := twGo ps tw ps.length) (z := cds "}") hn (by decide +kernel) (by decide +kernel) (by omega) s3 r (by rw [List.length_append]; show ds.length + 1 + _ ≤ _; omega)
    have hbef : rBefore ts [cds ",", cds "|"] ⟨i + 1, ds ++ [d], tw⟩ = .ok true ⟨i + 1, ds ++ [d], tw⟩ := by
      cases ps with
      | nil => exact absurd rfl hps
      | cons a ps =>
        have hk : (tk a).1 = cds "name" := by rw [hnm a List.mem_cons_self]
        cases ps with
        | nil =>
          have e : decide (cds "|" ∈ [cds ",", cds "|"]) = true := by decide +kernel
          rw [before_is s1 hk (show Nx ts (i + 1 + 1) (cds "|") from q), e]
        | cons c ps =>
          have e : decide (cds "," ∈ [cds ",", cds "|"]) = true := by decide +kernel
          have s1' : Seg ts (i + 1) (a :: cds "," :: commas (c :: ps)) := s1
          have q2 := s1'.2.nx
          rw [wm_fx _ (by decide +kernel)] at q2
          rw [before_is s1' hk q2, e]
    refine tight (sg := sg) (h := h + 1) rfl (by decide +kernel) (by decide +kernel) hp hd (by omega) hs hx (by omega) (fun x hx => by have := b2 x hx; omega) (by simp only [List.length_cons, List.length_append, List.length_nil]; omega) ?_
    unfold gRest
    rw [if_pos rfl]
    unfold gBlock
    rw [expect_ok nf, ok_bind, hbef, ok_bind, if_pos rfl, names_done hps hnm s1 q (by decide +kernel) h4, ok_bind, expect_ok q, ok_bind]
    show (rNote ps _).bind _ = _
    unfold rNote
    rw [ok_bind, b4, ok_bind, expect_ok r, ok_bind]
    simp only [List.length_cons, List.length_append, List.length_nil]
    rw [show i + 1 + (commas ps).length + 1 + w.length + 1 = i + ((commas ps).length + (w.length + (0 + 1) + 1) + 1) by omega]
    rfl
theorem all_good (ts : List Tk) : ∀ h, EGood ts h ∧ SDone ts h
  | 0 => by
    refine ⟨?_, ?_⟩
    · intro lv t w ns e; cases e
    · intro t w ns e; cases e
  | h + 1 => by
    obtain ⟨g, s⟩ := all_good ts h
    exact ⟨eg_step g g.done s.body, sd_step g.done s.body⟩
end
end
section
/-! Tokens as they are written, and their reading. -/
open PySem PySem.Spec PyProof.Rows L2
open TL (numL tl_num numL_digits numL_ne numL_val numL_len numL_lt numL_step)
/-- first letter of these, then letters and digits, 20 signs at most -/
def RunOf (fs a : List Nat) : Prop := ∃ c r, a = c :: r ∧ c ∈ fs ∧ (∀ d ∈ r, d ∈ aJ) ∧ r.length ≤ 19
/-- a name, a class name -/
def IsName (a : List Nat) : Prop := RunOf aLow a ∧ a ∉ WL
def IsClass (a : List Nat) : Prop := RunOf aUp a
/-- the signs of a text between quotes -/
abbrev aTxt : List Nat := cds " !\"#$&()*+,-./0123456789:;<=>?@ABCDEFGHIJKLMNOPQRSTUVWXYZ[\\]^_`abcdefghijklmnopqrstuvwxyz{|}~"
theorem len_aTxt : aTxt.length = 93 := by decide +kernel
def IsText (a : List Nat) : Prop := (∀ d ∈ a, d ∈ aTxt) ∧ a.length ≤ 200
theorem word_name {a : List Nat} (h : a ∈ WL) : IsName (a ++ [49]) := by
  refine ⟨?_, WL_one a h⟩
  obtain ⟨c, r, rfl, hc, hr⟩ := WL_form a h
  refine ⟨c, r ++ [49], rfl, hc, fun d hd => ?_, ?_⟩
  · rcases List.mem_append.mp hd with hd | hd
    · exact hr d hd
    · rw [List.mem_singleton.mp hd]
      decide +kernel
  · have := WL_len _ h
    rw [List.length_cons] at this
    rw [List.length_append]
    simp
    omega
theorem RunOf.len {fs a : List Nat} (h : RunOf fs a) : a.length ≤ 20 := by
  obtain ⟨c, r, rfl, _, _, h⟩ := h
  rw [List.length_cons]
  omega

/-- two tokens that would be read as one -/
def touch (b t : List Nat) : Bool := if b = [] then false else if b = [60] then decide (t.head? = some 61) else (match b.getLast?, t.head? with | some c, some d => decide (c ∈ aJ) && decide (d ∈ aJ) | _, _ => false)
theorem at_zero {c : Nat} {r : List Nat} : atI (c :: r) 0 = some c := atI_nat (xs := c :: r) (j := 0) rfl

inductive Drawn : List Nat → V → List Nat → Prop
  | mark {m : List Nat} : m ∈ MLs → Drawn (cds "mark") (T m) m
  | number {n : Nat} : n ≤ 1000000000 → Drawn (cds "number") (.int n) (numL n)
  | word {a : List Nat} : a ∈ WL → Drawn (cds "word") (T a) a
  | cls {a : List Nat} : IsClass a → Drawn (cds "class") (T a) a
  | text {a : List Nat} : IsText a → Drawn (cds "text") (T a) (39 :: (a ++ [39]))
  | name {a : List Nat} : IsName a → Drawn (cds "name") (T a) a
theorem endTx_some' {r : List Nat} (h1 : (upQ r).length < r.length) (h2 : (upQ r).length ≤ 200) (h3 : (upQ r).all srcC = true) : endTx r = some (upQ r) := by
  unfold endTx
  rw [if_pos]
  rw [Bool.and_eq_true, Bool.and_eq_true, decide_eq_true_iff, decide_eq_true_iff]
  exact ⟨⟨h1, h2⟩, h3⟩

/-! ### a drawn token is read as itself -/
theorem MLs_eq : MLs = [[58, 61], [60, 61], [40], [41], [123], [125], [44], [59], [46], [124], [61], [60], [43], [45], [42], [47]] := by decide +kernel
/-- where the token may end -/
def Apart (t rest : List Nat) : Prop := rest = [] ∨ touch t rest = false
theorem touch_head (b : List Nat) (d : Nat) (r r' : List Nat) : touch b (d :: r) = touch b (d :: r') := by
  unfold touch
  rfl
theorem touch_space (b r : List Nat) : touch b (32 :: r) = false := by
  unfold touch
  by_cases h : b = []
  · rw [if_pos h]
  · rw [if_neg h]
    by_cases h2 : b = [60]
    · rw [if_pos h2]; exact (by decide : decide (some (32 : Nat) = some 61) = false)
    · rw [if_neg h2, List.head?_cons]
      cases hb : b.getLast? with
      | none => rfl
      | some c =>
        have : decide (32 ∈ aJ) = false := by decide +kernel
        show (decide (c ∈ aJ) && decide (32 ∈ aJ)) = false
        rw [this, Bool.and_false]
/-- letters and digits, nothing of them behind -/
theorem tw_run {t rest : List Nat} (hne : t ≠ []) (hJ : ∀ c ∈ t, c ∈ aJ) (h : Apart t rest) : (t ++ rest).takeWhile letC = t := by
  have hall : ∀ c ∈ t, letC c = true := fun c hc => decide_eq_true (hJ c hc)
  rw [List.takeWhile_append_of_pos hall]
  have : rest.takeWhile letC = [] := by
    cases rest with
    | nil => rfl
    | cons d r =>
      rcases h with h | h
      · cases h
      · rw [List.takeWhile_cons, if_neg]
        intro hd
        unfold touch at h
        rw [if_neg hne] at h
        have h60 : ¬ t = [60] := fun e => by
          have := hJ 60 (by rw [e]; simp)
          exact absurd this (by decide +kernel)
        rw [if_neg h60, List.head?_cons, List.getLast?_eq_some_getLast hne] at h
        have h1 : decide (t.getLast hne ∈ aJ) = true := decide_eq_true (hJ _ (List.getLast_mem hne))
        have h2 : (decide (t.getLast hne ∈ aJ) && decide (d ∈ aJ)) = false := h
        rw [h1, Bool.true_and] at h2
        have h3 : decide (d ∈ aJ) = true := hd
        rw [h2] at h3; cases h3
  rw [this, List.append_nil]
theorem low_facts : ∀ c ∈ aLow, digC c = false ∧ c ∉ aUp ∧ c ∈ aJ ∧ c ≠ 39 ∧ c ≠ 32 := by decide +kernel
theorem up_facts : ∀ c ∈ aUp, digC c = false ∧ c ∈ aJ ∧ c ≠ 39 ∧ c ≠ 32 := by decide +kernel
theorem txt_facts : ∀ c ∈ aTxt, srcC c = true ∧ c ≠ 39 := by decide +kernel
theorem numL_head {n : Nat} (h : 0 < n) : (numL n).headD 0 ≠ 48 := by
  induction n using Nat.strongRecOn with
  | _ n ih =>
    by_cases hn : n < 10
    · rw [numL_lt hn]
      show 48 + n ≠ 48
      omega
    · rw [numL_step (by omega)]
      have := ih (n / 10) (by omega) (by omega)
      cases e : numL (n / 10) with
      | nil => exact absurd e (numL_ne _)
      | cons c r =>
        rw [e] at this
        exact this
theorem numRun_num {n : Nat} (h : n ≤ 1000000000) : numRun (numL n) = some n := by
  unfold numRun
  rw [numL_val, if_pos]
  have hd : (numL n).all digC = true := List.all_eq_true.mpr fun c hc => by
    have := numL_digits n c hc
    unfold digC
    rw [Bool.and_eq_true, decide_eq_true_iff, decide_eq_true_iff]
    exact this
  have hlen : (numL n).length ≤ 10 := numL_len (by decide) (by omega)
  rw [Bool.and_eq_true, Bool.and_eq_true, Bool.and_eq_true, decide_eq_true_iff, decide_eq_true_iff]
  refine ⟨⟨⟨hd, ?_⟩, hlen⟩, h⟩
  by_cases h0 : 0 < n
  · rw [decide_eq_false (numL_head h0)]; rfl
  · have : n = 0 := by omega
    subst this
    rw [numL_lt (by decide)]; rfl
theorem runOne {t rest : List Nat} {k : List Nat} {v : V} (hne : t ≠ []) (hJ : ∀ c ∈ t, c ∈ aJ) (h : Apart t rest) (e : ofRun t = some (k, v)) (h39 : t.headD 0 ≠ 39) : one (t ++ rest) = some (k, v, t.length) := by
  obtain ⟨c, r, rfl⟩ : ∃ c r, t = c :: r := by
    cases t with
    | nil => exact absurd rfl hne
    | cons c r => exact ⟨c, r, rfl⟩
  have htw := tw_run hne hJ h
  rw [List.cons_append] at htw ⊢
  have hc : letC c = true := decide_eq_true (hJ c (List.mem_cons_self))
  rw [one_cons, if_neg (show ¬ c = 39 from h39), if_pos hc, htw, e]
  rfl
theorem drawn_one {k t rest : List Nat} {v : V} (d : Drawn k v t) (h : Apart t rest) : one (t ++ rest) = some (k, v, t.length) ∧ ∃ c r, t = c :: r ∧ c ≠ 32 := by
  cases d with
  | mark hm =>
    have two : ∀ c : Nat, c ≠ 39 → letC c = false → ∀ r m, (MLs.find? fun m => m.isPrefixOf (c :: r)) = some m → one (c :: r) = some (cds "mark", T m, m.length) := fun c h1 h2 r m h3 => by
      rw [one_cons, if_neg h1, if_neg (by rw [h2]; exact Bool.false_ne_true), h3]
      rfl
    have hL : ∀ c ∈ [58, 60, 40, 41, 123, 125, 44, 59, 46, 124, 61, 43, 45, 42, 47], c ≠ 39 ∧ letC c = false ∧ c ≠ 32 := by decide +kernel
    rw [MLs_eq] at hm
    simp only [List.mem_cons, List.not_mem_nil, or_false] at hm
    rcases hm with rfl | rfl | rfl | rfl | rfl | rfl | rfl | rfl | rfl | rfl | rfl | rfl | rfl | rfl | rfl | rfl
    all_goals
      refine ⟨?_, _, _, rfl, by decide⟩
      refine two _ (by decide) (by decide +kernel) _ _ ?_
      rw [MLs_eq]
    case inr.inr.inr.inr.inr.inr.inr.inr.inr.inr.inr.inl =>
      cases rest with
      | nil => simp [List.find?, List.isPrefixOf]
      | cons d r =>
        have : ¬ d = 61 := fun e => by
          rcases h with h | h
          · cases h
          · rw [e] at h
            unfold touch at h
            rw [if_neg (by simp), if_pos rfl] at h
            simp at h
        have h2 : ((61 : Nat) == d) = false := by
          refine beq_eq_false_iff_ne.mpr fun e => this e.symm
        simp [List.find?, List.isPrefixOf, h2]
    all_goals simp [List.find?, List.isPrefixOf]
  | @number n hn =>
    have hJ : ∀ c ∈ numL n, c ∈ aJ := fun c hc => by
      have := numL_digits n c hc
      have hd : digC c = true := by unfold digC; rw [Bool.and_eq_true, decide_eq_true_iff, decide_eq_true_iff]; exact this
      exact of_decide_eq_true (dig_let hd)
    obtain ⟨c, r, e⟩ : ∃ c r, numL n = c :: r := by
      cases e : numL n with
      | nil => exact absurd e (numL_ne n)
      | cons c r => exact ⟨c, r, rfl⟩
    have hc := numL_digits n c (by rw [e]; exact List.mem_cons_self)
    refine ⟨runOne (numL_ne n) hJ h ?_ (by rw [e]; show c ≠ 39; omega), c, r, e, by omega⟩
    unfold ofRun
    rw [if_pos (by rw [e]; show digC c = true; unfold digC; rw [Bool.and_eq_true, decide_eq_true_iff, decide_eq_true_iff]; exact hc), numRun_num hn]
    rfl
  | word ha =>
    obtain ⟨c, r, rfl, hc, hr⟩ := WL_form _ ha
    obtain ⟨f1, f2, f3, f4, f5⟩ := low_facts c hc
    refine ⟨runOne (List.cons_ne_nil _ _) (fun d hd => by rcases List.mem_cons.mp hd with rfl | hd; exact f3; exact hr d hd) h ?_ f4, c, r, rfl, f5⟩
    have := WL_len _ ha
    unfold ofRun
    rw [List.headD_cons, if_neg (by rw [f1]; exact Bool.false_ne_true), if_neg (by omega), if_neg f2, if_pos ha]
  | cls ha =>
    have hl := RunOf.len ha
    obtain ⟨c, r, rfl, hc, hr, _⟩ := ha
    obtain ⟨f1, f3, f4, f5⟩ := up_facts c hc
    refine ⟨runOne (List.cons_ne_nil _ _) (fun d hd => by rcases List.mem_cons.mp hd with rfl | hd; exact f3; exact hr d hd) h ?_ f4, c, r, rfl, f5⟩
    unfold ofRun
    rw [List.headD_cons, if_neg (by rw [f1]; exact Bool.false_ne_true), if_neg (by omega), if_pos hc]
  | name ha =>
    have hl := RunOf.len ha.1
    have hw := ha.2
    obtain ⟨c, r, rfl, hc, hr, _⟩ := ha.1
    obtain ⟨f1, f2, f3, f4, f5⟩ := low_facts c hc
    refine ⟨runOne (List.cons_ne_nil _ _) (fun d hd => by rcases List.mem_cons.mp hd with rfl | hd; exact f3; exact hr d hd) h ?_ f4, c, r, rfl, f5⟩
    unfold ofRun
    rw [List.headD_cons, if_neg (by rw [f1]; exact Bool.false_ne_true), if_neg (by omega), if_neg f2, if_neg hw]
  | @text a ha =>
    refine ⟨?_, 39, a ++ [39], rfl, by decide⟩
    have hu : upQ (a ++ 39 :: rest) = a := by
      unfold upQ
      rw [List.takeWhile_append_of_pos (fun c hc => by have := (txt_facts c (ha.1 c hc)).2; simpa using this)]
      simp
    have e1 : 39 :: (a ++ [39]) ++ rest = 39 :: (a ++ 39 :: rest) := by simp
    rw [e1, one_cons, if_pos rfl, endTx_some' (by rw [hu]; simp) (by rw [hu]; exact ha.2) (by rw [hu]; exact List.all_eq_true.mpr fun c hc => (txt_facts c (ha.1 c hc)).1), hu]
    simp

/-! ### the text as it grows -/
def Grown (cs : List Nat) (due : List Tk) (b : List Nat) : Prop := ∀ rest, Apart b rest → lex 0 (cs ++ rest) = (due ++ (lex cs.length rest).1, (lex cs.length rest).2)
theorem lex_spaces : ∀ (n pos : Nat) (r : List Nat), lex pos (List.replicate n 32 ++ r) = lex (pos + n) r
  | 0, _, _ => rfl
  | n + 1, pos, r => by
    rw [List.replicate_succ, List.cons_append, lex_sp, lex_spaces n (pos + 1) r]
    congr 1
    omega
theorem grown_start (n : Nat) : Grown (List.replicate n 32) [] [] := fun rest _ => by
  rw [lex_spaces, List.length_replicate, Nat.zero_add]
  rfl
theorem apart_gap {b t rest : List Nat} {n : Nat} {c : Nat} {r : List Nat} (ht : t = c :: r) (hg : touch b t = true → 1 ≤ n) : Apart b (List.replicate n 32 ++ t ++ rest) := by
  subst ht
  cases n with
  | zero =>
    refine .inr ?_
    show touch b (c :: (r ++ rest)) = false
    rw [touch_head b c _ r]
    cases h : touch b (c :: r) with
    | false => rfl
    | true => exact absurd (hg h) (by decide)
  | succ n => exact .inr (touch_space _ _)
theorem grown_step {cs : List Nat} {due : List Tk} {b k t : List Nat} {v : V} {n : Nat} (g : Grown cs due b) (d : Drawn k v t) (hg : touch b t = true → 1 ≤ n) :
    Grown (cs ++ List.replicate n 32 ++ t) (due ++ [(k, v, cs.length + n)]) t := fun rest hr => by
  obtain ⟨e1, c, r, ht, hc⟩ := drawn_one d hr
  have ha : Apart b (List.replicate n 32 ++ t ++ rest) := apart_gap ht hg
  have e2 := g _ ha
  have e3 : cs ++ List.replicate n 32 ++ t ++ rest = cs ++ (List.replicate n 32 ++ t ++ rest) := by simp
  rw [e3, e2, List.append_assoc (List.replicate n 32), lex_spaces]
  subst ht
  rw [List.cons_append] at e1 ⊢
  rw [lex_tok hc e1]
  have e4 : (r ++ rest).drop ((c :: r).length - 1) = rest := by
    rw [List.length_cons, Nat.add_sub_cancel, List.drop_left]
  have e5 : (cs ++ List.replicate n 32 ++ c :: r).length = cs.length + n + (c :: r).length := by
    rw [List.length_append, List.length_append, List.length_replicate]
  rw [e4, e5, List.append_assoc]
  rfl
theorem grown_end {cs : List Nat} {due : List Tk} {b : List Nat} (g : Grown cs due b) (n : Nat) : lex 0 (cs ++ List.replicate n 32) = (due, none) := by
  have ha : Apart b (List.replicate n 32) := by
    cases n with
    | zero => exact .inl rfl
    | succ n => exact .inr (touch_space _ _)
  have := lex_spaces n cs.length []
  rw [List.append_nil, lex_nil] at this
  rw [g _ ha, this, List.append_nil]
theorem Drawn.len {k t : List Nat} {v : V} (d : Drawn k v t) : t.length ≤ 202 ∧ k.length ≤ 10 ∧ ((∃ a : List Nat, v = T a ∧ (∀ c ∈ a, c < 128)) ∨ ∃ i : Int, v = .int i) ∧ (∀ c ∈ k, c < 128) := by
  cases d with
  | mark hm =>
    have h1 : ∀ m ∈ MLs, m.length ≤ 2 ∧ ∀ c ∈ m, c < 128 := by decide +kernel
    have := h1 _ hm
    exact ⟨by omega, by decide +kernel, .inl ⟨_, rfl, this.2⟩, by decide +kernel⟩
  | @number n hn =>
    have hlen : (numL n).length ≤ 10 := numL_len (by decide) (by omega)
    exact ⟨by omega, by decide +kernel, .inr ⟨_, rfl⟩, by decide +kernel⟩
  | word ha =>
    have := WL_len _ ha
    have h1 : ∀ m ∈ WL, ∀ c ∈ m, c < 128 := by decide +kernel
    exact ⟨by omega, by decide +kernel, .inl ⟨_, rfl, h1 _ ha⟩, by decide +kernel⟩
  | cls ha =>
    have := RunOf.len ha
    obtain ⟨c, r, rfl, hc, hr, _⟩ := ha
    refine ⟨by omega, by decide +kernel, .inl ⟨_, rfl, fun d hd => aJ_ascii d ?_⟩, by decide +kernel⟩
    rcases List.mem_cons.mp hd with rfl | hd
    · exact (up_facts _ hc).2.1
    · exact hr d hd
  | name ha =>
    have := RunOf.len ha.1
    obtain ⟨c, r, rfl, hc, hr, _⟩ := ha.1
    refine ⟨by omega, by decide +kernel, .inl ⟨_, rfl, fun d hd => aJ_ascii d ?_⟩, by decide +kernel⟩
    rcases List.mem_cons.mp hd with rfl | hd
    · exact (low_facts _ hc).2.2.1
    · exact hr d hd
  | text ha =>
    have := ha.2
    have h1 : ∀ c ∈ aTxt, c < 128 := by decide +kernel
    refine ⟨?_, by decide +kernel, .inl ⟨_, rfl, fun d hd => h1 d (ha.1 d hd)⟩, by decide +kernel⟩
    rw [List.length_cons, List.length_append]
    simp
    omega

end
section
/-! Written rows of tokens, and their reading. -/
open PySem PySem.Spec PyProof.Rows L2
open TL (numL tl_num numL_digits numL_ne numL_val numL_len numL_lt numL_step)
theorem drawn_tk {k a : List Nat} {v : V} (d : Drawn k v a) : tk a = (k, v) := by
  have h := (drawn_one (rest := []) d (.inl rfl)).1
  rw [List.append_nil] at h
  unfold tk
  rw [h]
/-- a token as it is written -/
def Tok (a : List Nat) : Prop := ∃ k v, Drawn k v a
theorem Tok.ne {a : List Nat} (h : Tok a) : a ≠ [] ∧ a.length ≤ 202 := by
  obtain ⟨k, v, d⟩ := h
  obtain ⟨_, c, r, e, _⟩ := drawn_one (rest := []) d (.inl rfl)
  exact ⟨by rw [e]; exact List.cons_ne_nil _ _, d.len.1⟩
theorem name_nm {a : List Nat} (h : IsName a) : isNm a := drawn_tk (.name h)
theorem name_tok {a : List Nat} (h : IsName a) : Tok a := ⟨_, _, .name h⟩
theorem wm_tok : ∀ a ∈ WM, Tok a := by
  have key : ∀ a ∈ WM, a ∈ WL ∨ a ∈ MLs := by decide +kernel
  intro a ha
  rcases key a ha with h | h
  · exact ⟨_, _, .word h⟩
  · exact ⟨_, _, .mark h⟩
/-- what is written of a row: three signs more for each token -/
def wt : Ws → Nat
  | [] => 0
  | a :: w => a.length + 3 + wt w
theorem wt_append : ∀ u v : Ws, wt (u ++ v) = wt u + wt v
  | [], v => by rw [List.nil_append]; show _ = 0 + _; omega
  | a :: u, v => by show a.length + 3 + wt (u ++ v) = a.length + 3 + wt u + wt v; rw [wt_append u v]; omega
theorem wt_len : ∀ w : Ws, 3 * w.length ≤ wt w
  | [] => Nat.le_refl _
  | a :: w => by have := wt_len w; rw [List.length_cons]; show _ ≤ a.length + 3 + wt w; omega
def dueOf (w : Ws) (ps : List Nat) : List Tk := List.zipWith (fun a p => ((tk a).1, (tk a).2, p)) w ps
theorem due_len {w : Ws} {ps : List Nat} (h : ps.length = w.length) : (dueOf w ps).length = w.length := by
  unfold dueOf
  rw [List.length_zipWith, h, Nat.min_self]
theorem seg_due : ∀ {w : Ws} {ps : List Nat} {pre post : List Tk}, ps.length = w.length → Seg (pre ++ dueOf w ps ++ post) pre.length w
  | [], _, _, _, _ => True.intro
  | a :: w, [], _, _, h => by cases h
  | a :: w, p :: ps, pre, post, h => by
    refine ⟨⟨p, ?_⟩, ?_⟩
    · rw [List.append_assoc, List.getElem?_append_right (Nat.le_refl _), Nat.sub_self]
      rfl
    · have := seg_due (w := w) (ps := ps) (pre := pre ++ [((tk a).1, (tk a).2, p)]) (post := post) (Nat.succ.inj h)
      rw [List.length_append] at this
      have e : pre ++ [((tk a).1, (tk a).2, p)] ++ dueOf w ps ++ post = pre ++ dueOf (a :: w) (p :: ps) ++ post := by
        rw [List.append_assoc pre]
        rfl
      rw [e] at this
      exact this
theorem seg_end {w : Ws} {ps : List Nat} {cs : List Nat} (h : ps.length = w.length) : Seg (endTks cs (dueOf w ps)) 0 w := by
  have := seg_due (w := w) (ps := ps) (pre := []) (post := [(cds "nothing", T [], cs.length)]) h
  exact this
theorem nx_end {w : Ws} {ps : List Nat} {cs : List Nat} (h : ps.length = w.length) : (endTks cs (dueOf w ps))[w.length]? = some (cds "nothing", T [], cs.length) := by
  unfold endTks
  rw [List.getElem?_append_right (by rw [due_len h]; exact Nat.le_refl _), due_len h, Nat.sub_self]
  rfl
theorem nx_end' {w : Ws} {ps : List Nat} {cs : List Nat} (h : ps.length = w.length) : Nx (endTks cs (dueOf w ps)) (0 + w.length) [] := by
  refine ⟨_, by rw [Nat.zero_add]; exact nx_end h, ?_⟩
  unfold fixT
  exact if_neg (show ¬ (cds "nothing" = cds "word" ∨ cds "nothing" = cds "mark") by decide +kernel)
/-- the whole text is an expression -/
theorem read_ex {lv : Nat} {t : Tr} {w : Ws} {ns : List Ws} {ps cs : List Nat} (e : Ex lv 11 t w ns) (hlv : 1 ≤ lv) (hp : ps.length = w.length) (hw : w.length ≤ 100000) :
    ∃ ds, ((exN (endTks cs (dueOf w ps)) 14).1 1 2 ⟨0, [], none⟩).bind (fun t S => (rTake (endTks cs (dueOf w ps)) (cds "nothing") S).bind fun _ S => .ok t S) = .ok t ⟨w.length + 1, ds, noteAll ns none⟩ := by
  obtain ⟨sg, _, _, _, h⟩ := EGood.done (all_good (endTks cs (dueOf w ps)) 11).1 e (n := 14) (p := 1) (d := 2) (i := 0) (ds := []) (tw := none) (z := []) (by decide) (Nat.le_refl _) hlv (by decide) (seg_end hp) (nx_end' hp) (by decide) (by show 0 + _ ≤ _; omega)
  refine ⟨[] ++ sg, ?_⟩
  have q := nx_end (cs := cs) hp
  rw [h, ok_bind, Nat.zero_add, take_ok q, ok_bind]
theorem note_nodup {l : Ws} (h : l.Nodup) : ∀ {t : Option (List Nat)} {i : Nat}, i ≤ l.length → twGo l t i = t
  | t, 0, _ => rfl
  | t, i + 1, hi => by
    show (if twGo l t i = none ∧ l.getD i [] ∈ l.take i then some (l.getD i []) else twGo l t i) = t
    rw [note_nodup h (t := t) (i := i) (by omega), if_neg]
    intro z
    have hlt : i < l.length := by omega
    have e : l.getD i [] = l[i] := by rw [List.getD_eq_getElem?_getD, List.getElem?_eq_getElem hlt]; rfl
    rw [e] at z
    obtain ⟨j, hj, ej⟩ := List.getElem_of_mem z.2
    rw [List.length_take] at hj
    rw [List.getElem_take] at ej
    have e1 := h.idxOf_getElem j (by omega)
    have e2 := h.idxOf_getElem i hlt
    rw [ej, e2] at e1
    omega
theorem noteAll_nodup : ∀ {ns : List Ws} {t : Option (List Nat)}, (∀ l ∈ ns, l.Nodup) → noteAll ns t = t
  | [], _, _ => rfl
  | l :: ns, t, h => by
    show noteAll ns (twGo l t l.length) = t
    rw [note_nodup (h l List.mem_cons_self) (Nat.le_refl _), noteAll_nodup fun x hx => h x (List.mem_cons_of_mem _ hx)]
end
section
open PySem PySem.Spec PyProof.Rows L2
mutual
theorem trd_mono : ∀ {t : Tr} {n m : Nat}, TrD n t → n ≤ m → TrD m t
  | .t l, n + 1, m, h, hm => by
    obtain ⟨m, rfl⟩ : ∃ k, m = k + 1 := ⟨m - 1, by omega⟩
    exact ⟨h.1, trds_mono h.2 (by omega)⟩
  | .t _, 0, _, h, _ => False.elim h
  | .s _, n, m, h, hm => by
    cases m with
    | zero => cases n with
      | zero => exact h
      | succ n => omega
    | succ m => exact True.intro
  | .i _, n, m, h, hm => by
    cases m with
    | zero => cases n with
      | zero => exact h
      | succ n => omega
    | succ m => exact True.intro
  | .b _, n, m, h, hm => by
    cases m with
    | zero => cases n with
      | zero => exact h
      | succ n => omega
    | succ m => exact True.intro
  | .n, n, m, h, hm => by
    cases m with
    | zero => cases n with
      | zero => exact h
      | succ n => omega
    | succ m => exact True.intro
theorem trds_mono : ∀ {l : List Tr} {n m : Nat}, (∀ t ∈ l, TrD n t) → n ≤ m → ∀ t ∈ l, TrD m t
  | [], _, _, _, _ => fun t ht => absurd ht List.not_mem_nil
  | x :: l, n, m, h, hm => fun t ht => by
    rcases List.mem_cons.mp ht with e | ht
    · rw [e]; exact trd_mono (h x List.mem_cons_self) hm
    · exact trds_mono (fun t ht => h t (List.mem_cons_of_mem _ ht)) hm t ht
end
/-- a tuple of few -/
theorem trd_t {n : Nat} {l : List Tr} (hl : l.length < 1000000) (h : ∀ t ∈ l, TrD n t) : TrD (n + 1) (.t l) := ⟨hl, h⟩
theorem trd_cons {n : Nat} {x : Tr} {l : List Tr} (h : TrD n x) (r : ∀ t ∈ l, TrD n t) : ∀ t ∈ x :: l, TrD n t := fun t ht => by
  rcases List.mem_cons.mp ht with e | ht
  · rw [e]; exact h
  · exact r t ht
theorem trd_nil {n : Nat} : ∀ t ∈ ([] : List Tr), TrD n t := fun t ht => absurd ht List.not_mem_nil
theorem trd_s {n : Nat} {a : List Nat} : TrD (n + 1) (.s a) := True.intro
theorem trd_plain {n : Nat} (v : V) : TrD (n + 1) (plainTr v) := by cases v <;> exact True.intro
theorem trd_names {n : Nat} {ps : Ws} (h : ps.length ≤ 900000) : TrD (n + 2) (.t (ps.map Tr.s)) := ⟨by rw [List.length_map]; omega, fun t ht => by
  obtain ⟨a, _, rfl⟩ := List.mem_map.mp ht
  exact True.intro⟩
def EDp (h : Nat) : Prop := ∀ {lv : Nat} {t : Tr} {w : Ws} {ns : List Ws}, Ex lv h t w ns → w.length ≤ 900000 → TrD (2 * h + 1) t
def SDp (h : Nat) : Prop := ∀ {t : Tr} {w : Ws} {ns : List Ws}, St h t w ns → w.length ≤ 900000 → TrD (2 * h + 1) t
theorem al_dep {h : Nat} (E : EDp h) : ∀ {l : List Tr} {w : Ws} {ns : List Ws}, Al h l w ns → w.length ≤ 900000 → ∀ t ∈ l, TrD (2 * h + 1) t
  | _, _, _, .nil, _ => trd_nil
  | _, _, _, .cons _ e r, hw => by
    rw [List.length_cons, List.length_append] at hw
    exact trd_cons (E e (by omega)) (al_dep E r (by omega))
theorem ar_dep {h : Nat} (E : EDp h) {l : List Tr} {w : Ws} {ns : List Ws} (a : Ar h l w ns) (hw : w.length ≤ 900000) : TrD (2 * h + 2) (.t l) := by
  cases a with
  | nil => exact trd_t (by show 0 < 1000000; decide) trd_nil
  | cons _ e r h7 =>
    rw [List.length_append] at hw
    exact trd_t (by rw [List.length_cons]; omega) (trd_cons (E e (by omega)) (al_dep E r (by omega)))
theorem bl_dep {h : Nat} (S : SDp h) : ∀ {l : List Tr} {w : Ws} {ns : List Ws}, Bl h l w ns → w.length ≤ 900000 → ∀ t ∈ l, TrD (2 * h + 1) t
  | _, _, _, .nil, _ => trd_nil
  | _, _, _, .cons e r, hw => by
    rw [List.length_cons, List.length_append] at hw
    exact trd_cons (S e (by omega)) (bl_dep S r (by omega))
theorem bd_dep {h : Nat} (S : SDp h) {l : List Tr} {w : Ws} {ns : List Ws} (a : Bd h l w ns) (hw : w.length ≤ 900000) : TrD (2 * h + 2) (.t l) := by
  cases a with
  | nil => exact trd_t (by show 0 < 1000000; decide) trd_nil
  | cons e r =>
    have := bl_len r
    rw [List.length_append] at hw
    exact trd_t (by rw [List.length_cons]; omega) (trd_cons (S e (by omega)) (bl_dep S r (by omega)))
theorem dep_step {h : Nat} (E : EDp h) (S : SDp h) : EDp (h + 1) ∧ SDp (h + 1) := by
  have two : 2 * (h + 1) + 1 = 2 * h + 2 + 1 := by omega
  refine ⟨?_, ?_⟩
  · intro lv t w ns e hw
    rw [two]
    cases e with
    | num _ => exact trd_t (by show 2 < 1000000; decide) (trd_cons trd_s (trd_cons True.intro trd_nil))
    | text _ => exact trd_t (by show 2 < 1000000; decide) (trd_cons trd_s (trd_cons True.intro trd_nil))
    | word _ => exact trd_t (by show 2 < 1000000; decide) (trd_cons trd_s (trd_cons (trd_plain _) trd_nil))
    | self => exact trd_t (by show 1 < 1000000; decide) (trd_cons trd_s trd_nil)
    | new _ => exact trd_t (by show 2 < 1000000; decide) (trd_cons trd_s (trd_cons True.intro trd_nil))
    | name _ => exact trd_t (by show 2 < 1000000; decide) (trd_cons trd_s (trd_cons True.intro trd_nil))
    | par _ e =>
      simp only [List.length_cons, List.length_append, List.length_nil] at hw
      exact trd_mono (E e (by omega)) (by omega)
    | neg _ e =>
      simp only [List.length_cons] at hw
      exact trd_t (by show 2 < 1000000; decide) (trd_cons trd_s (trd_cons (trd_mono (E e (by omega)) (by omega)) trd_nil))
    | not _ e =>
      simp only [List.length_cons] at hw
      exact trd_t (by show 2 < 1000000; decide) (trd_cons trd_s (trd_cons (trd_mono (E e (by omega)) (by omega)) trd_nil))
    | bin _ _ _ e1 _ e2 =>
      simp only [List.length_cons, List.length_append] at hw
      have d1 := trd_mono (E e1 (by omega)) (show 2 * h + 1 ≤ 2 * h + 2 by omega)
      have d2 := trd_mono (E e2 (by omega)) (show 2 * h + 1 ≤ 2 * h + 2 by omega)
      unfold binT
      split
      · exact trd_t (by show 3 < 1000000; decide) (trd_cons trd_s (trd_cons d1 (trd_cons d2 trd_nil)))
      · exact trd_t (by show 4 < 1000000; decide) (trd_cons trd_s (trd_cons trd_s (trd_cons d1 (trd_cons d2 trd_nil))))
    | send _ e _ a =>
      simp only [List.length_cons, List.length_append, List.length_nil] at hw
      exact trd_t (by show 4 < 1000000; decide) (trd_cons trd_s (trd_cons (trd_mono (E e (by omega)) (by omega)) (trd_cons trd_s (trd_cons (ar_dep E a (by omega)) trd_nil))))
    | sup _ a =>
      simp only [List.length_cons, List.length_append, List.length_nil] at hw
      exact trd_t (by show 3 < 1000000; decide) (trd_cons trd_s (trd_cons trd_s (trd_cons (ar_dep E a (by omega)) trd_nil)))
    | blk0 b =>
      simp only [List.length_cons, List.length_append, List.length_nil] at hw
      exact trd_t (by show 3 < 1000000; decide) (trd_cons trd_s (trd_cons (trd_mono (n := 1) (trd_t (by show 0 < 1000000; decide) trd_nil) (by omega)) (trd_cons (bd_dep S b (by omega)) trd_nil)))
    | blk _ h4 _ b =>
      simp only [List.length_cons, List.length_append, List.length_nil] at hw
      exact trd_t (by show 3 < 1000000; decide) (trd_cons trd_s (trd_cons (trd_mono (n := 2) (trd_names (n := 0) (by omega)) (by omega)) (trd_cons (bd_dep S b (by omega)) trd_nil)))
  · intro t w ns e hw
    rw [two]
    cases e with
    | eval _ e => exact trd_t (by show 2 < 1000000; decide) (trd_cons trd_s (trd_cons (trd_mono (E e hw) (by omega)) trd_nil))
    | set _ _ e =>
      simp only [List.length_cons] at hw
      exact trd_t (by show 3 < 1000000; decide) (trd_cons trd_s (trd_cons trd_s (trd_cons (trd_mono (E e (by omega)) (by omega)) trd_nil)))
    | gf _ _ e =>
      simp only [List.length_cons] at hw
      exact trd_t (by show 2 < 1000000; decide) (trd_cons trd_s (trd_cons (trd_mono (E e (by omega)) (by omega)) trd_nil))
    | whl _ e b =>
      simp only [List.length_cons, List.length_append, List.length_nil] at hw
      exact trd_t (by show 3 < 1000000; decide) (trd_cons trd_s (trd_cons (trd_mono (E e (by omega)) (by omega)) (trd_cons (bd_dep S b (by omega)) trd_nil)))
    | if0 _ e b =>
      simp only [List.length_cons, List.length_append, List.length_nil] at hw
      exact trd_t (by show 4 < 1000000; decide) (trd_cons trd_s (trd_cons (trd_mono (E e (by omega)) (by omega)) (trd_cons (bd_dep S b (by omega)) (trd_cons (trd_mono (n := 1) (trd_t (by show 0 < 1000000; decide) trd_nil) (by omega)) trd_nil))))
    | if1 _ e b c =>
      simp only [List.length_cons, List.length_append, List.length_nil] at hw
      exact trd_t (by show 4 < 1000000; decide) (trd_cons trd_s (trd_cons (trd_mono (E e (by omega)) (by omega)) (trd_cons (bd_dep S b (by omega)) (trd_cons (bd_dep S c (by omega)) trd_nil))))
    | try_ b _ c =>
      simp only [List.length_cons, List.length_append, List.length_nil] at hw
      exact trd_t (by show 4 < 1000000; decide) (trd_cons trd_s (trd_cons (bd_dep S b (by omega)) (trd_cons trd_s (trd_cons (bd_dep S c (by omega)) trd_nil))))
    | keep b c =>
      simp only [List.length_cons, List.length_append, List.length_nil] at hw
      exact trd_t (by show 3 < 1000000; decide) (trd_cons trd_s (trd_cons (bd_dep S b (by omega)) (trd_cons (bd_dep S c (by omega)) trd_nil)))
theorem all_dep : ∀ h, EDp h ∧ SDp h
  | 0 => by
    refine ⟨?_, ?_⟩
    · intro lv t w ns e _
      cases e
    · intro t w ns e _
      cases e
  | h + 1 => dep_step (all_dep h).1 (all_dep h).2
end
section
open PySem PySem.Spec PyProof.Rows L2
/-- no expression and no statement begins with the word var -/
def NV (w : Ws) : Prop := ∃ a r, w = a :: r ∧ fx a ≠ cds "var"
theorem NV.append {w v : Ws} (h : NV w) : NV (w ++ v) := by
  obtain ⟨a, r, rfl, h⟩ := h
  exact ⟨a, r ++ v, rfl, h⟩
theorem nv_wm {a : List Nat} {r : Ws} (h : a ∈ WM) (n : a ≠ cds "var") : NV (a :: r) := ⟨a, r, rfl, by rw [wm_fx a h]; exact n⟩
theorem nv_e {a : List Nat} {r : Ws} (h : fx a = []) : NV (a :: r) := ⟨a, r, rfl, by rw [h]; decide +kernel⟩
theorem ex_nv : ∀ {h lv : Nat} {t : Tr} {w : Ws} {ns : List Ws}, Ex lv h t w ns → NV w := by
  intro h
  induction h with
  | zero => intro lv t w ns e; cases e
  | succ h ih =>
    intro lv t w ns e
    cases e with
    | num q => exact nv_e (fx_kind q (by decide +kernel) (by decide +kernel))
    | text q => exact nv_e (fx_kind q (by decide +kernel) (by decide +kernel))
    | word q => rcases plain_cases q with rfl | rfl | rfl <;> exact nv_wm (by decide +kernel) (by decide +kernel)
    | self => exact nv_wm (by decide +kernel) (by decide +kernel)
    | new _ => exact nv_wm (by decide +kernel) (by decide +kernel)
    | name n => exact nv_e (nm_fx n)
    | par _ _ => exact nv_wm (by decide +kernel) (by decide +kernel)
    | neg _ _ => exact nv_wm (by decide +kernel) (by decide +kernel)
    | not _ _ => exact nv_wm (by decide +kernel) (by decide +kernel)
    | bin _ _ _ e1 _ _ => exact (ih e1).append
    | send _ e1 _ _ => exact (ih e1).append
    | sup _ _ => exact nv_wm (by decide +kernel) (by decide +kernel)
    | blk0 _ => exact nv_wm (by decide +kernel) (by decide +kernel)
    | blk _ _ _ _ => exact nv_wm (by decide +kernel) (by decide +kernel)
theorem st_nv {h : Nat} {t : Tr} {w : Ws} {ns : List Ws} (e : St h t w ns) : NV w := by
  cases e with
  | eval _ e => exact ex_nv e
  | set n _ e => exact nv_e (nm_fx n)
  | gf g _ e => rcases g with rfl | rfl <;> exact nv_wm (by decide +kernel) (by decide +kernel)
  | whl _ _ _ => exact nv_wm (by decide +kernel) (by decide +kernel)
  | if0 _ _ _ => exact nv_wm (by decide +kernel) (by decide +kernel)
  | if1 _ _ _ _ => exact nv_wm (by decide +kernel) (by decide +kernel)
  | try_ _ _ _ => exact nv_wm (by decide +kernel) (by decide +kernel)
  | keep _ _ => exact nv_wm (by decide +kernel) (by decide +kernel)
theorem bd_nv {h : Nat} {l : List Tr} {w : Ws} {ns : List Ws} (b : Bd h l w ns) : NV (w ++ [cds "end"]) := by
  cases b with
  | nil => exact nv_wm (by decide +kernel) (by decide +kernel)
  | cons e _ => exact (st_nv e).append.append
/-- a method's tokens and tree -/
def vWs (v : Ws) : Ws := if v = [] then [] else cds "var" :: (commas v ++ [cds ";"])
def mWs (a : List Nat) (p v w : Ws) : Ws := cds "method" :: a :: cds "(" :: (commas p ++ cds ")" :: (vWs v ++ (w ++ [cds "end"])))
def mTr (a : List Nat) (p v : Ws) (l : List Tr) : Tr := .t [str "method", .s a, .t (p.map Tr.s), .t (v.map Tr.s), .t l]
theorem meth3 {ts : List Tk} {a : List Nat} {p v w : Ws} {l : List Tr} {ns : List Ws} {i : Nat} {tw : Option (List Nat)} (b : Bd 12 l w ns) (hs : Seg ts i (w ++ [cds "end"])) (hl : w.length ≤ 199000) :
    ∃ sg, gMethod3 ts (exN ts 14).2 a p v ⟨i, [], tw⟩ = .ok (mTr a p v l) ⟨i + w.length + 1, sg, noteAll ((p ++ v) :: ns) tw⟩ := by
  obtain ⟨s1, s2⟩ := seg_append.mp hs
  have q := s2.nx
  rw [wm_fx _ (by decide +kernel)] at q
  obtain ⟨sg, _, _, h⟩ := SDone.body (all_good ts 12).2 b (n := 14) (d := 1) (i := i) (ms := [cds "end"]) (ds := []) (tw := twGo (p ++ v) tw (p ++ v).length) (z := cds "end") (by decide) (by decide +kernel) (by decide +kernel) (by decide) s1 q (by show 0 + _ ≤ _; omega)
  refine ⟨[] ++ sg, ?_⟩
  unfold gMethod3
  show (rNote (p ++ v) _).bind _ = _
  unfold rNote
  rw [ok_bind, h, ok_bind, expect_ok q, ok_bind]
  rfl
theorem meth2 {ts : List Tk} {a : List Nat} {p v w : Ws} {l : List Tr} {ns : List Ws} {i : Nat} {tw : Option (List Nat)} (hv : ∀ x ∈ v, isNm x) (hv8 : v.length ≤ 8) (b : Bd 12 l w ns) (hs : Seg ts i (cds ")" :: (vWs v ++ (w ++ [cds "end"])))) (hl : w.length ≤ 199000) :
    ∃ sg, gMethod2 ts (exN ts 14).2 a p ⟨i, [], tw⟩ = .ok (mTr a p v l) ⟨i + 1 + (vWs v).length + w.length + 1, sg, noteAll ((p ++ v) :: ns) tw⟩ := by
  have q := hs.nx
  rw [wm_fx _ (by decide +kernel)] at q
  unfold gMethod2
  rw [expect_ok q, ok_bind]
  have s := hs.2
  by_cases h0 : v = []
  · subst h0
    have s' : Seg ts (i + 1) (w ++ [cds "end"]) := s
    obtain ⟨c, r, ec, hc⟩ := bd_nv b
    have n0 : Nx ts (i + 1) (fx c) := by
      rw [ec] at s'
      exact s'.nx
    obtain ⟨sg, h⟩ := meth3 (a := a) (p := p) (v := []) (tw := tw) b s' hl
    refine ⟨sg, ?_⟩
    rw [accept_no n0 hc, ok_bind, if_neg Bool.false_ne_true, h]
    rfl
  · have ev : vWs v = cds "var" :: (commas v ++ [cds ";"]) := if_neg h0
    rw [ev] at s ⊢
    rw [show (cds "var" :: (commas v ++ [cds ";"])) ++ (w ++ [cds "end"]) = cds "var" :: (commas v ++ (cds ";" :: (w ++ [cds "end"]))) by rw [List.cons_append, List.append_assoc]; rfl] at s
    have q2 := s.nx
    rw [wm_fx _ (by decide +kernel)] at q2
    obtain ⟨s1, s2⟩ := seg_append.mp s.2
    have q3 := s2.nx
    rw [wm_fx _ (by decide +kernel)] at q3
    obtain ⟨sg, h⟩ := meth3 (a := a) (p := p) (v := v) (tw := tw) b s2.2 hl
    refine ⟨sg, ?_⟩
    rw [accept_yes q2, ok_bind, if_pos rfl, names_done h0 hv s1 q3 (by decide +kernel) hv8, ok_bind, expect_ok q3, ok_bind, h]
    simp only [List.length_cons, List.length_append, List.length_nil]
    rw [show i + 1 + 1 + (commas v).length + 1 + w.length + 1 = i + 1 + ((commas v).length + (0 + 1) + 1) + w.length + 1 by omega]
theorem meth_done {ts : List Tk} {a : List Nat} {p v w : Ws} {l : List Tr} {ns : List Ws} {tw : Option (List Nat)} (na : isNm a) (hp : ∀ x ∈ p, isNm x) (hp8 : p.length ≤ 8) (hv : ∀ x ∈ v, isNm x) (hv8 : v.length ≤ 8) (b : Bd 12 l w ns) (hs : Seg ts 0 (mWs a p v w)) (hl : w.length ≤ 199000) :
    ∃ sg, gMethod ts (exN ts 14).2 ⟨0, [], tw⟩ = .ok (mTr a p v l) ⟨(mWs a p v w).length, sg, noteAll ((p ++ v) :: ns) tw⟩ := by
  unfold mWs at hs
  have q1 := hs.nx
  rw [wm_fx _ (by decide +kernel)] at q1
  have q2 := hs.2.2.nx
  rw [wm_fx _ (by decide +kernel)] at q2
  obtain ⟨s1, s2⟩ := seg_append.mp hs.2.2.2
  have q3 := s2.nx
  rw [wm_fx _ (by decide +kernel)] at q3
  obtain ⟨sg, h⟩ := meth2 (a := a) (p := p) (tw := tw) hv hv8 b s2 hl
  refine ⟨sg, ?_⟩
  unfold gMethod
  rw [expect_ok q1, ok_bind, name_ok hs.2 na, ok_bind, expect_ok q2, ok_bind]
  have elen : 0 + 1 + 1 + 1 + (commas p).length + 1 + (vWs v).length + w.length + 1 = (mWs a p v w).length := by
    unfold mWs
    simp only [List.length_cons, List.length_append, List.length_nil]
    omega
  cases p with
  | nil =>
    have q4 : Nx ts (0 + 1 + 1 + 1) (cds ")") := q3
    rw [fixed0 q4, ok_bind, if_pos rfl, ← elen]
    exact h
  | cons c p =>
    have q4 : Nx ts (0 + 1 + 1 + 1) (fx c) := by
      rw [commas_cons] at s1
      exact s1.nx
    rw [nm_fx (hp c List.mem_cons_self)] at q4
    rw [fixed0 q4, ok_bind, if_neg (by decide +kernel), names_done (List.cons_ne_nil _ _) hp s1 q3 (by decide +kernel) hp8, ok_bind, h, elen]
/-- the whole text is a method -/
theorem read_meth {a : List Nat} {p v w : Ws} {l : List Tr} {ns : List Ws} {ps cs : List Nat} (na : isNm a) (hp : ∀ x ∈ p, isNm x) (hp8 : p.length ≤ 8) (hv : ∀ x ∈ v, isNm x) (hv8 : v.length ≤ 8) (b : Bd 12 l w ns) (hpl : ps.length = (mWs a p v w).length) (hl : w.length ≤ 199000) :
    ∃ ds, (gMethod (endTks cs (dueOf (mWs a p v w) ps)) (exN (endTks cs (dueOf (mWs a p v w) ps)) 14).2 ⟨0, [], none⟩).bind (fun t S => (rTake (endTks cs (dueOf (mWs a p v w) ps)) (cds "nothing") S).bind fun _ S => .ok t S) = .ok (mTr a p v l) ⟨(mWs a p v w).length + 1, ds, noteAll ((p ++ v) :: ns) none⟩ := by
  obtain ⟨sg, h⟩ := meth_done (ts := endTks cs (dueOf (mWs a p v w) ps)) (tw := none) na hp hp8 hv hv8 b (seg_end hpl) hl
  refine ⟨sg, ?_⟩
  have q := nx_end (cs := cs) hpl
  rw [h, ok_bind, take_ok q, ok_bind]
theorem meth_dep {a : List Nat} {p v w : Ws} {l : List Tr} {ns : List Ws} (hp8 : p.length ≤ 8) (hv8 : v.length ≤ 8) (b : Bd 12 l w ns) (hl : w.length ≤ 199000) : TrD 30 (mTr a p v l) := by
  have := bd_dep (all_dep 12).2 b (by omega)
  exact trd_mono (n := 27) (trd_t (by show 5 < 1000000; decide) (trd_cons trd_s (trd_cons trd_s (trd_cons (trd_mono (n := 2) (trd_names (n := 0) (by omega)) (by omega)) (trd_cons (trd_mono (n := 2) (trd_names (n := 0) (by omega)) (by omega)) (trd_cons this trd_nil)))))) (by decide)
end
section
/-! The compiler as a plain function: instructions and codes of blocks, as trees. -/
open PySem PySem.Spec PyProof.Rows L2
/-- instructions, blocks -/
abbrev CS := List Tr × List Tr
def cput (i : Tr) (S : CS) : CS := (S.1 ++ [i], S.2)
/-- an instruction that leads to the next one -/
def cled (k : Nat) (S : CS) : CS := (S.1.set k (match S.1[k]? with | some (.t (w :: _)) => .t [w, .i (S.1.length : Int)] | _ => .n), S.2)
def cpl (w : String) (S : CS) : CS := cput (.t [str w, .n]) S
/-- a place of a name: number of the scope and in it, a slot, a global name -/
def plcT (a : List Nat) (sl : Ws) : Nat → List Ws → Tr
  | _, [] => if a ∈ sl then .t [str "slot", .s a] else .t [str "global", .s a]
  | up, s :: ss => if a ∈ s then .t [str "local", .i (up : Int), .i ((s.idxOf a : Nat) : Int)] else plcT a sl (up + 1) ss
def nmsT (l : List Tr) : Ws := l.map fun | .s a => a | _ => []
theorem nmsT_map (ps : Ws) : nmsT (ps.map Tr.s) = ps := by
  unfold nmsT
  rw [List.map_map]
  exact List.map_id' _
def isEval : Tr → Bool
  | .t (.s k :: _) => decide (k = cds "eval")
  | _ => false
def cfold (c : Tr → CS → CS) : List Tr → CS → CS
  | [], S => S
  | t :: l, S => cfold c l (c t S)
theorem cfold_append (c : Tr → CS → CS) : ∀ (a b : List Tr) (S : CS), cfold c (a ++ b) S = cfold c b (cfold c a S)
  | [], _, _ => rfl
  | t :: a, b, S => cfold_append c a b (c t S)
def cend (S : CS) : CS := cput (.t [str "end"]) (cput (.t [str "push", .n]) S)
/-- what a block's body comes to -/
def cblk (c : Tr → CS → CS) (l : List Tr) : CS :=
  let S := cfold c l ([], [])
  match l.getLast? with
  | some t => if isEval t = true then (S.1.set (S.1.length - 1) (.t [str "end"]), S.2) else cend S
  | none => cend S
def ctruth (wrong : List Nat) (S : CS) : CS :=
  let S1 := cput (.t [str "push", .b true]) S
  let leave := S1.1.length
  let S2 := cpl "jump" S1
  let S3 := wrong.foldl (fun S k => cled k S) S2
  cled leave (cput (.t [str "push", .b false]) S3)
section
variable (c : List Ws → Tr → CS → CS) (sl : Ws) (sc : List Ws)
def cAnd (a b : Tr) (S : CS) : CS :=
  let S1 := c sc a S
  let S2 := c sc b (cpl "unless" S1)
  ctruth [S1.1.length, S2.1.length] (cpl "unless" S2)
def cOr (a b : Tr) (S : CS) : CS :=
  let S1 := c sc a S
  let S2 := cput (.t [str "push", .b true]) (cpl "unless" S1)
  let S3 := cled S1.1.length (cpl "jump" S2)
  let S4 := c sc b S3
  cled S2.1.length (ctruth [S4.1.length] (cpl "unless" S4))
def cBlk (ps l : List Tr) (S : CS) : CS :=
  let B := cblk (c (nmsT ps :: sc)) l
  ((cput (.t [str "block", .i (S.2.length : Int)]) S).1, S.2 ++ [.t [str "code", .i (ps.length : Int), .t B.1, .t B.2]])
def cWhl (t : Tr) (l : List Tr) (S : CS) : CS :=
  let S1 := c sc t S
  let S2 := cfold (c sc) l (cpl "unless" S1)
  cled S1.1.length (cput (.t [str "jump", .i (S.1.length : Int)]) S2)
def cIf0 (t : Tr) (l : List Tr) (S : CS) : CS :=
  let S1 := c sc t S
  cled S1.1.length (cfold (c sc) l (cpl "unless" S1))
def cIf1 (t : Tr) (l m : List Tr) (S : CS) : CS :=
  let S1 := c sc t S
  let S2 := cfold (c sc) l (cpl "unless" S1)
  let S3 := cled S1.1.length (cpl "jump" S2)
  cled S2.1.length (cfold (c sc) m S3)
def cTry (l : List Tr) (a : List Nat) (m : List Tr) (S : CS) : CS :=
  let S2 := cput (.t [str "done"]) (cfold (c sc) l (cpl "try" S))
  let S3 := cled S.1.length (cpl "jump" S2)
  let S4 := cput (.t [str "set", plcT a sl 0 sc]) S3
  cled S2.1.length (cfold (c sc) m S4)
def cKeep (l m : List Tr) (S : CS) : CS :=
  let S2 := cput (.t [str "always"]) (cfold (c sc) l (cpl "keep" S))
  cput (.t [str "resume"]) (cfold (c sc) m (cled S.1.length S2))
/-- one part, its kind told; c compiles its parts -/
def cKd (ow : List Nat) (k : List Nat) (r : List Tr) (S : CS) : CS :=
  if k = cds "plain" then (match r with | [v] => cput (.t [str "push", v]) S | _ => S)
  else if k = cds "name" then (match r with | [.s a] => cput (plcT a sl 0 sc) S | _ => S)
  else if k = cds "neg" ∨ k = cds "not" then (match r with | [t] => cput (.t [.s k]) (c sc t S) | _ => S)
  else if k = cds "op" then (match r with | [s, a, b] => cput (.t [str "op", s]) (c sc b (c sc a S)) | _ => S)
  else if k = cds "and" then (match r with | [a, b] => cAnd c sc a b S | _ => S)
  else if k = cds "or" then (match r with | [a, b] => cOr c sc a b S | _ => S)
  else if k = cds "send" then (match r with | [t, a, .t l] => cput (.t [str "send", a, .i (l.length : Int)]) (cfold (c sc) l (c sc t S)) | _ => S)
  else if k = cds "super" then (match r with | [a, .t l] => cput (.t [str "super", .s ow, a, .i (l.length : Int)]) (cfold (c sc) l S) | _ => S)
  else if k = cds "block" then (match r with | [.t ps, .t l] => cBlk c sc ps l S | _ => S)
  else if k = cds "while" then (match r with | [t, .t l] => cWhl c sc t l S | _ => S)
  else if k = cds "if" then (match r with | [t, .t l, .t m] => (if m.isEmpty = true then cIf0 c sc t l S else cIf1 c sc t l m S) | _ => S)
  else if k = cds "try" then (match r with | [.t l, .s a, .t m] => cTry c sl sc l a m S | _ => S)
  else if k = cds "keep" then (match r with | [.t l, .t m] => cKeep c sc l m S | _ => S)
  else if k = cds "set" then (match r with | [.s a, t] => cput (.t [str "set", plcT a sl 0 sc]) (c sc t S) | _ => S)
  else if k = cds "eval" then (match r with | [t] => cput (.t [str "pop"]) (c sc t S) | _ => S)
  else if k = cds "give" ∨ k = cds "fail" then (match r with | [t] => cput (.t [.s k]) (c sc t S) | _ => S)
  else cput (.t (.s k :: r)) S
end
/-- a part of a method, compiled -/
def cX (sl : Ws) (ow : List Nat) : Nat → List Ws → Tr → CS → CS
  | 0, _, _, S => S
  | f + 1, sc, .t (.s k :: r), S => cKd (cX sl ow f) sl sc ow k r S
  | _ + 1, _, _, S => S
local macro_rules | `(tactic| walk_at "cd") => `(tactic| (unfold cKd; repeat (first | rw [if_pos (by decide +kernel)] | rw [if_neg (by decide +kernel)])))
section
variable (c : List Ws → Tr → CS → CS) (sl : Ws) (ow : List Nat) (sc : List Ws) (S : CS)
theorem cd_plain (v : Tr) : cKd c sl sc ow (cds "plain") [v] S = cput (.t [str "push", v]) S := by walk_at "cd"
theorem cd_name (a : List Nat) : cKd c sl sc ow (cds "name") [.s a] S = cput (plcT a sl 0 sc) S := by walk_at "cd"
theorem cd_neg (t : Tr) : cKd c sl sc ow (cds "neg") [t] S = cput (.t [str "neg"]) (c sc t S) := by walk_at "cd"; rfl
theorem cd_not (t : Tr) : cKd c sl sc ow (cds "not") [t] S = cput (.t [str "not"]) (c sc t S) := by walk_at "cd"; rfl
theorem cd_op (s a b : Tr) : cKd c sl sc ow (cds "op") [s, a, b] S = cput (.t [str "op", s]) (c sc b (c sc a S)) := by walk_at "cd"
theorem cd_send (t a : Tr) (l : List Tr) : cKd c sl sc ow (cds "send") [t, a, .t l] S = cput (.t [str "send", a, .i (l.length : Int)]) (cfold (c sc) l (c sc t S)) := by walk_at "cd"
theorem cd_super (a : Tr) (l : List Tr) : cKd c sl sc ow (cds "super") [a, .t l] S = cput (.t [str "super", .s ow, a, .i (l.length : Int)]) (cfold (c sc) l S) := by walk_at "cd"
theorem cd_set (a : List Nat) (t : Tr) : cKd c sl sc ow (cds "set") [.s a, t] S = cput (.t [str "set", plcT a sl 0 sc]) (c sc t S) := by walk_at "cd"
theorem cd_eval (t : Tr) : cKd c sl sc ow (cds "eval") [t] S = cput (.t [str "pop"]) (c sc t S) := by walk_at "cd"
theorem cd_give (t : Tr) : cKd c sl sc ow (cds "give") [t] S = cput (.t [str "give"]) (c sc t S) := by walk_at "cd"; rfl
theorem cd_fail (t : Tr) : cKd c sl sc ow (cds "fail") [t] S = cput (.t [str "fail"]) (c sc t S) := by walk_at "cd"; rfl
theorem cd_self : cKd c sl sc ow (cds "self") [] S = cput (.t [str "self"]) S := by walk_at "cd"; rfl
theorem cd_new (a : Tr) : cKd c sl sc ow (cds "new") [a] S = cput (.t [str "new", a]) S := by walk_at "cd"; rfl
theorem cd_and (a b : Tr) : cKd c sl sc ow (cds "and") [a, b] S = cAnd c sc a b S := by walk_at "cd"
theorem cd_or (a b : Tr) : cKd c sl sc ow (cds "or") [a, b] S = cOr c sc a b S := by walk_at "cd"
theorem cd_block (ps l : List Tr) : cKd c sl sc ow (cds "block") [.t ps, .t l] S = cBlk c sc ps l S := by walk_at "cd"
theorem cd_while (t : Tr) (l : List Tr) : cKd c sl sc ow (cds "while") [t, .t l] S = cWhl c sc t l S := by walk_at "cd"
theorem cd_if0 (t : Tr) (l : List Tr) : cKd c sl sc ow (cds "if") [t, .t l, .t []] S = cIf0 c sc t l S := by walk_at "cd"; rfl
theorem cd_if1 (t : Tr) (l m : List Tr) (h : m ≠ []) : cKd c sl sc ow (cds "if") [t, .t l, .t m] S = cIf1 c sc t l m S := by
  have e : m.isEmpty = false := by cases m with
    | nil => exact absurd rfl h
    | cons a m => rfl
  walk_at "cd"
  show (if m.isEmpty = true then _ else _) = _
  rw [e]; rfl
theorem cd_try (l : List Tr) (a : List Nat) (m : List Tr) : cKd c sl sc ow (cds "try") [.t l, .s a, .t m] S = cTry c sl sc l a m S := by walk_at "cd"
theorem cd_keep (l m : List Tr) : cKd c sl sc ow (cds "keep") [.t l, .t m] S = cKeep c sc l m S := by walk_at "cd"
end
end
section
/-! Places of names. -/
open PySem PySem.Spec PyProof.Rows L2
/-- where a name is found -/
inductive PlK where
  | g
  | s
  | l (up k : Nat)
def pkV (a : List Nat) : PlK → List V
  | .g => [T (cds "global"), T a]
  | .s => [T (cds "slot"), T a]
  | .l up k => [T (cds "local"), .int (up : Int), .int (k : Int)]
def pkT (a : List Nat) : PlK → Tr
  | .g => .t [.s (cds "global"), .s a]
  | .s => .t [.s (cds "slot"), .s a]
  | .l up k => .t [.s (cds "local"), .i (up : Int), .i (k : Int)]
theorem pk_at {K : PySem.W.Frag} {H : Hp} {p : Addr} {a : List Nat} {x : PlK} (h : SqT K H p (pkV a x)) : TrAt K H (.ref p) (pkT a x) := by
  cases x with
  | g => exact .t h (.cons .s (.cons .s .nil))
  | s => exact .t h (.cons .s (.cons .s .nil))
  | l up k => exact .t h (.cons .s (.cons .i (.cons .i .nil)))
theorem pk_flat {l : List Tr} (h : l.length < 1000000) (f : ∀ t ∈ l, TrD 1 t) : TrD 2 (.t l) := ⟨h, f⟩
theorem pk_d {a : List Nat} {x : PlK} : TrD 2 (pkT a x) := by
  cases x with
  | g => exact pk_flat (by show 2 < 1000000; decide) fun t ht => by (rcases List.mem_cons.mp ht with h | ht); (rw [h]; exact True.intro); (rw [List.mem_singleton.mp ht]; exact True.intro)
  | s => exact pk_flat (by show 2 < 1000000; decide) fun t ht => by (rcases List.mem_cons.mp ht with h | ht); (rw [h]; exact True.intro); (rw [List.mem_singleton.mp ht]; exact True.intro)
  | l up k => exact pk_flat (by show 3 < 1000000; decide) fun t ht => by (rcases List.mem_cons.mp ht with h | ht); (rw [h]; exact True.intro); (rcases List.mem_cons.mp ht with h | ht); (rw [h]; exact True.intro); (rw [List.mem_singleton.mp ht]; exact True.intro)
/-- the innermost scope, from number up on -/
def pkC (a : List Nat) (d : PlK) : Nat → List (List (List Nat)) → PlK
  | _, [] => d
  | up, s :: ss => if a ∈ s then .l up (s.idxOf a) else pkC a d (up + 1) ss
theorem pkC_cons {a : List Nat} {d : PlK} {up : Nat} {s : List (List Nat)} {ss : List (List (List Nat))} : pkC a d up (s :: ss) = if a ∈ s then .l up (s.idxOf a) else pkC a d (up + 1) ss := rfl
def pkD (a : List Nat) (sl : List (List Nat)) : PlK := if a ∈ sl then .s else .g
/-- tuples of texts at these places -/
inductive ScAt (H : Hp) : List V → List (List (List Nat)) → Prop
  | nil : ScAt H [] []
  | cons {p : Addr} {s : List (List Nat)} {vs : List V} {ss : List (List (List Nat))} : FT H p (s.map T) → ScAt H vs ss → ScAt H (.ref p :: vs) (s :: ss)
theorem ScAt.length {H : Hp} : ∀ {vs : List V} {ss : List (List (List Nat))}, ScAt H vs ss → vs.length = ss.length
  | _, _, .nil => rfl
  | _, _, .cons _ r => by rw [List.length_cons, List.length_cons, ScAt.length r]
theorem ScAt.imp {H H' : Hp} (f : ∀ p xs, FT H p xs → FT H' p xs) : ∀ {vs : List V} {ss : List (List (List Nat))}, ScAt H vs ss → ScAt H' vs ss
  | _, _, .nil => .nil
  | _, _, .cons h r => .cons (f _ _ h) (ScAt.imp f r)
theorem ScAt.get {H : Hp} : ∀ {vs : List V} {ss : List (List (List Nat))} {i : Nat} {v : V}, ScAt H vs ss → vs[i]? = some v → ∃ p s, v = .ref p ∧ ss[i]? = some s ∧ FT H p (s.map T)
  | _, _, _, _, .nil, h => by simp at h
  | _, _, 0, _, .cons h _, e => by
    rw [List.getElem?_cons_zero] at e
    cases e
    exact ⟨_, _, rfl, rfl, h⟩
  | _, _, i + 1, _, .cons _ r, e => by
    obtain ⟨p, s, h1, h2, h3⟩ := ScAt.get r (i := i) (by simpa using e)
    exact ⟨p, s, h1, by simpa using h2, h3⟩
theorem ScAt.snoc {H : Hp} {p : Addr} {s : List (List Nat)} (h : FT H p (s.map T)) : ∀ {vs : List V} {ss : List (List (List Nat))}, ScAt H vs ss → ScAt H (vs ++ [.ref p]) (ss ++ [s])
  | _, _, .nil => .cons h .nil
  | _, _, .cons a r => .cons a (ScAt.snoc h r)
theorem ScAt.but {H H1 : Hp} {D : Addr} {xs : List V} (hD : H D = some (.lst xs)) (k : ∀ b o, b ≠ D → H b = some o → H1 b = some o) {vs : List V} {ss : List (List (List Nat))} (h : ScAt H vs ss) : ScAt H1 vs ss := h.imp fun p ys q => q.but hD k
theorem ScAt.sm {H H1 : Hp} (s : Same H H1) {vs : List V} {ss : List (List (List Nat))} (h : ScAt H vs ss) : ScAt H1 vs ss := h.imp fun p ys q => q.same s
theorem pk_plc (a : List Nat) (sl : Ws) : ∀ (ss : List Ws) (up : Nat), pkT a (pkC a (pkD a sl) up ss) = plcT a sl up ss
  | [], up => by
    show pkT a (pkD a sl) = if a ∈ sl then _ else _
    unfold pkD
    by_cases h : a ∈ sl
    · rw [if_pos h, if_pos h]; rfl
    · rw [if_neg h, if_neg h]; rfl
  | s :: ss, up => by
    show pkT a (if a ∈ s then .l up (s.idxOf a) else pkC a (pkD a sl) (up + 1) ss) = if a ∈ s then _ else plcT a sl (up + 1) ss
    by_cases h : a ∈ s
    · rw [if_pos h, if_pos h]; rfl
    · rw [if_neg h, if_neg h, pk_plc a sl ss (up + 1)]
end
section
open PySem PySem.Spec PyProof.Rows L2
open C8 (Cal cal0 pe_c pe_gc pss_cut tCut)

end
local macro_rules | `(tactic| walk_at "r1y") => `(tactic| first
  | with_reducible refine w_seq ?_
  | with_reducible refine w_next ?_
  | with_reducible refine w_var (by with_unfolding_all exact rfl) ?_
  | with_reducible refine w_asg ?_
  | with_reducible refine w_gname ?_
  | with_reducible refine w_ifS ?_
  | with_reducible refine w_test ?_
  | with_reducible refine w_tB ?_
  | with_reducible refine w_op ?_
  | with_reducible refine w_un ?_
  | with_reducible refine w_var (by with_unfolding_all exact rfl) ?_
  | with_reducible refine w_cT ?_
  | with_reducible refine w_str ?_
  | with_reducible refine w_c ?_
  | with_reducible refine w_i0 ?_
  | with_reducible refine w_intI ?_
  | with_reducible refine w_intB ?_
  | with_reducible refine w_cb ?_
  | with_reducible refine w_cons ?_
  | with_reducible refine w_nil ?_
  | with_reducible refine w_call ?_
  | with_reducible refine w_ret ?_
  | with_reducible refine w_retN ?_
  | with_reducible refine w_drop ?_
  | with_reducible refine w_gsub ?_
  | with_reducible refine w_sl ?_
  | with_reducible refine w_part ?_
  | with_reducible refine w_nopart ?_
  | with_reducible refine w_lst ?_
  | with_reducible refine w_tup ?_
  | with_reducible refine w_bm ?_
  | with_reducible refine w_bm0 ?_
  | with_reducible refine w_bmT ?_
  | with_reducible refine w_and ?_
  | with_reducible refine w_or ?_
  | with_reducible refine w_not ?_
  | with_reducible refine w_andV ?_
  | with_reducible refine w_orV ?_
  | with_reducible refine w_notV ?_
  | with_reducible refine w_inC ?_
  | with_reducible refine w_ninC ?_
  | with_reducible refine w_ord ?_
  | with_reducible refine w_max ?_
  | with_reducible refine w_ifE ?_
  | with_reducible refine w_forR ?_
  | with_reducible refine w_forL ?_
  | with_reducible refine w_forT ?_
  | with_reducible refine w_forS ?_
  | with_reducible refine w_forEl ?_
  | with_reducible refine w_lcR ?_
  | with_reducible refine w_lcL ?_
  | with_reducible refine w_yes ?_
  | with_reducible refine w_tru ?_
  | with_reducible refine w_isN ?_
  | with_reducible refine w_notN ?_
  | ((with_reducible show rLenL _ [V.ref _] _ _); first | refine w_lenL (SqL.of (by assumption)) ?_ | refine w_lenL (by assumption) ?_ | refine w_lenT (by assumption) ?_)
  | ((with_reducible show rIxL _ (V.ref _) (V.int _) _ _); refine w_ixL (SqL.of (by assumption)) (by with_unfolding_all exact rfl) ?_)
  | ((with_reducible show rIxT _ (V.ref _) (V.int _) _ _); refine w_ixT (by assumption) (by with_unfolding_all exact rfl) ?_)
  | with_reducible refine w_abs ?_
  | with_reducible refine w_neg ?_
  | with_reducible refine w_ltS ?_
  | with_reducible refine w_leS ?_
  | with_reducible refine w_eq (by with_unfolding_all exact rfl) ?_
  | with_reducible refine w_ne (by with_unfolding_all exact rfl) ?_
  | with_reducible refine ex_int ?_
  | with_reducible refine ex_bl ?_
  | ((with_reducible show rIsi _ _ _ _); first | with_reducible refine isi_s_tuple ?_ | with_reducible refine isi_s_bool ?_ | with_reducible refine isi_s_int ?_ | with_reducible refine isi_s_str ?_ | with_reducible refine isi_i_tuple ?_ | with_reducible refine isi_i_bool ?_ | with_reducible refine isi_i_int ?_ | with_reducible refine isi_i_str ?_ | with_reducible refine isi_b_tuple ?_ | with_reducible refine isi_b_bool ?_ | with_reducible refine isi_b_int ?_ | with_reducible refine isi_b_str ?_ | with_reducible refine isi_n_tuple ?_ | with_reducible refine isi_n_bool ?_ | with_reducible refine isi_n_int ?_ | with_reducible refine isi_n_str ?_ | ((with_reducible refine isi_t_tuple ?hSq ?_); (case hSq => exact ⟨_, by assumption⟩)) | ((with_reducible refine isi_t_bool ?hSq ?_); (case hSq => exact ⟨_, by assumption⟩)) | ((with_reducible refine isi_t_int ?hSq ?_); (case hSq => exact ⟨_, by assumption⟩)) | ((with_reducible refine isi_t_str ?hSq ?_); (case hSq => exact ⟨_, by assumption⟩)))
  | ((with_reducible refine @ite_g _ _ _ _ ?_); first | with_reducible refine ifB_tt ?_ | with_reducible refine ifB_ff ?_ | with_reducible refine ifB_tf ?_ | with_reducible refine ifB_ft ?_ | with_reducible refine ifN_s ?_ | with_reducible refine ifN_i ?_ | with_reducible refine ifN_b ?_ | with_reducible refine ifN_r ?_ | with_reducible refine ifN_n ?_ | with_reducible refine ifM_s ?_ | with_reducible refine ifM_i ?_ | with_reducible refine ifM_b ?_ | with_reducible refine ifM_r ?_ | with_reducible refine ifM_n ?_ | with_reducible refine L2.iteF ?_ | with_reducible refine L2.iteT ?_ | with_reducible refine w_nt ?_ | with_reducible refine w_nf ?_))
local macro_rules | `(tactic| walk_at "rdy") => `(tactic| repeat walk_at "r1y")
local macro_rules | `(tactic| walk_at "upy") => `(tactic| (refine ⟨_, _, rfl, .inl (.inl (by assumption)), (by rfl), ?_⟩; refine ⟨_, _, rfl, ?_⟩; walk_at "rdy"; refine ⟨_, _, rfl, ?_⟩; walk_at "rdy"; refine ⟨rfl, ?_⟩; walk_at "rdy"))
section
open PySem PySem.Spec PyProof.Rows L2
open C8 (Cal cal0 pe_c pe_gc pss_cut tCut)

section
variable {P : Program} {w : World} {K : PySem.W.Frag} {mg : Str → Option Value} {base : Heap}
abbrev s_place_of : Stmt := topS 1
abbrev N_place_of : List Str := ["name", "scopes", "slots", "up", "names"]
theorem sc_place_of : FnScope N_place_of ["name", "scopes", "slots"] (defScope s_place_of) := ⟨rfl, rfl, rfl, by decide +kernel, rfl, by decide +kernel, by decide +kernel⟩
def spPlace (K : PySem.W.Frag) : Sp := fun vs H Q _ => ∃ (D t : Addr) (a : List Nat) (ps : List V) (ss : List (List (List Nat))) (sl : List (List Nat)), vs = [T a, .ref D, .ref t] ∧ SqL K H D ps ∧ ScAt H ps ss ∧ SqT K H t (sl.map T) ∧ ps.length ≤ 1000 ∧
  ∀ p H', Same H H' → SqT K H' p (pkV a (pkC a (pkD a sl) 0 ss)) → Q (.ref p) H'
theorem ok_place_of {f : Addr} {fd : FuncData} (F : Fun K "place_of" "place_of" s_place_of f fd) (Y : Bn mg) : FnOk P w K mg base CX0 1 f fd ["name", "scopes", "slots"] (spPlace K) := by
  refine F.ok sc_place_of (fun vs H Q E h => ?_) (fun cdv A outer s H vs Q E hr h => ?_)
  · obtain ⟨D, t, a, ps, ss, sl, rfl, _⟩ := h
    rfl
  · obtain ⟨D, t, a, ps, ss, sl, rfl, hD, hS, ht, hlen, kQ⟩ := h
    have nd := sc_place_of.nd
    refine ⟨_, (pss_cons (ps_for PassesOwn.never rfl (pi_enum (by rfl) Y.n_enumerate (pa_cons (pv 1) pa_nil)) (pg_tup (by rfl) (pgs_cons (pg_name (i := 3) nd rfl (Or.inl rfl)) (pgs_cons (pg_name (i := 4) nd rfl (Or.inl rfl)) pgs_nil))) (pss_one (ps_if (pt_cmpR op_in_seq (pv 0) (pv 4) (by rfl)) (pss_one (ps_ret (pe_tup (pa_cons pe_str (pa_cons (pv 3) (pa_cons (pe_bmT PySem.F.plainAttrs_tuple PySem.F.slot_tuple_index PySem.F.type_tuple_index mt_tupIx (pv 4) (pa_cons (pv 0) pa_nil)) pa_nil)))))) pss_nil)))
      (pss_cons (ps_if (pt_cmpR op_in_seq (pv 0) (pv 2) (by rfl)) (pss_one (ps_ret (pe_tup (pa_cons pe_str (pa_cons (pv 0) pa_nil))))) pss_nil)
      (pss_one (ps_ret (pe_tup (pa_cons pe_str (pa_cons (pv 0) pa_nil))))))), ?_⟩
    rw [show L2.start N_place_of [T a, .ref D, .ref t] = [some (T a), some (.ref D), some (.ref t), none, none] from rfl]
    walk_at "rdy"
    refine for_El (xs := ps) (fun i σ' H' => ∃ x y : Option V, σ' = [some (T a), some (.ref D), some (.ref t), x, y] ∧ Same H H' ∧ pkC a (pkD a sl) 0 ss = pkC a (pkD a sl) i (ss.drop i)) ⟨none, none, rfl, fun _ _ h => h, rfl⟩ (fun i σ' H' _ h => h.elim fun x h => h.elim fun y h => Same.seq h.2.1 hD) ?_ ?_
    · rintro i v σ' H1 p H2 hv ⟨x, y, rfl, s1, e1⟩ hp s2 h2
      obtain ⟨q, sc, rfl, hsc, hq⟩ := hS.get hv
      have s12 := s1.trans s2
      refine ⟨p, _, rfl, .inl (.inl h2), rfl, ?_⟩
      refine ⟨_, _, rfl, ?_⟩
      walk_at "rdy"
      refine ⟨_, _, rfl, ?_⟩
      walk_at "rdy"
      refine ⟨rfl, ?_⟩
      walk_at "rdy"
      have hq2 := hq.same s12
      refine w_inT hq2.sq ?_
      refine ⟨_, rfl, ?_⟩
      have ed : ss.drop i = sc :: ss.drop (i + 1) := by
        obtain ⟨hlt, e⟩ := List.getElem?_eq_some_iff.mp hsc
        rw [List.drop_eq_getElem_cons hlt, e]
      rw [ed, pkC_cons] at e1
      refine w_if (fun hin => ?_) (fun hin => ?_)
      · rw [if_pos hin] at e1
        walk_at "rdy"
        refine ⟨⟨q, _, rfl, hq2⟩, ?_⟩
        walk_at "rdy"
        refine w_tupIx hq2.sq hin ?_
        walk_at "rdy"
        refine w_newT (by show 3 ≤ 1000000; decide) fun z H3 hz s3 h3 => ?_
        refine kQ z H3 (s12.trans s3) ?_
        rw [e1]
        exact .inl (.inl h3)
      · rw [if_neg hin] at e1
        exact ⟨_, _, rfl, s12, e1⟩
    · rintro σ' H1 ⟨x, y, rfl, s1, e1⟩
      rw [hS.length, List.drop_length] at e1
      walk_at "rdy"
      have ht1 := Same.sqT s1 ht
      refine w_inT ht1 ?_
      refine ⟨_, rfl, ?_⟩
      have e2 : pkC a (pkD a sl) 0 ss = pkD a sl := e1
      unfold pkD at e2
      refine w_if (fun hin => ?_) (fun hin => ?_)
      · rw [if_pos hin] at e2
        walk_at "rdy"
        refine w_newT (by show 2 ≤ 1000000; decide) fun z H3 hz s3 h3 => ?_
        refine kQ z H3 (s1.trans s3) ?_
        show SqT K H3 z (pkV a (pkC a (pkD a sl) 0 ss))
        unfold pkD
        rw [if_pos hin, e2]
        exact .inl (.inl h3)
      · rw [if_neg hin] at e2
        walk_at "rdy"
        refine w_newT (by show 2 ≤ 1000000; decide) fun z H3 hz s3 h3 => ?_
        refine kQ z H3 (s1.trans s3) ?_
        show SqT K H3 z (pkV a (pkC a (pkD a sl) 0 ss))
        unfold pkD
        rw [if_neg hin, e2]
        exact .inl (.inl h3)
end
end
section
/-! The compiler's object and its small methods. -/
open PySem PySem.Spec PyProof.Rows L2
open C8 (Cal Met Mak cal0 pe_c pe_gc pss_cut tCut pe_mt pe_mt0 pe_mk)

end
local macro_rules | `(tactic| walk_at "r1c") => `(tactic| first
  | with_reducible refine w_seq ?_
  | with_reducible refine w_next ?_
  | with_reducible refine w_var (by with_unfolding_all exact rfl) ?_
  | with_reducible refine w_asg ?_
  | with_reducible refine w_gname ?_
  | with_reducible refine w_ifS ?_
  | with_reducible refine w_test ?_
  | with_reducible refine w_tB ?_
  | with_reducible refine w_op ?_
  | with_reducible refine w_un ?_
  | with_reducible refine w_var (by with_unfolding_all exact rfl) ?_
  | with_reducible refine w_cT ?_
  | with_reducible refine w_str ?_
  | with_reducible refine w_c ?_
  | with_reducible refine w_i0 ?_
  | with_reducible refine w_intI ?_
  | with_reducible refine w_intB ?_
  | with_reducible refine w_cb ?_
  | with_reducible refine w_cons ?_
  | with_reducible refine w_nil ?_
  | with_reducible refine o_fld ?_
  | with_reducible refine o_meth ?_
  | with_reducible refine o_fldS ?_
  | with_reducible refine o_make ?_
  | with_reducible refine w_call ?_
  | with_reducible refine w_ret ?_
  | with_reducible refine w_retN ?_
  | with_reducible refine w_drop ?_
  | with_reducible refine w_gsub ?_
  | with_reducible refine w_sl ?_
  | with_reducible refine w_part ?_
  | with_reducible refine w_nopart ?_
  | with_reducible refine w_lst ?_
  | with_reducible refine w_tup ?_
  | with_reducible refine w_bm ?_
  | with_reducible refine w_bm0 ?_
  | with_reducible refine w_bmT ?_
  | with_reducible refine w_and ?_
  | with_reducible refine w_or ?_
  | with_reducible refine w_not ?_
  | with_reducible refine w_andV ?_
  | with_reducible refine w_orV ?_
  | with_reducible refine w_notV ?_
  | with_reducible refine w_inC ?_
  | with_reducible refine w_ninC ?_
  | with_reducible refine w_ord ?_
  | with_reducible refine w_max ?_
  | with_reducible refine w_ifE ?_
  | with_reducible refine w_forR ?_
  | with_reducible refine w_forL ?_
  | with_reducible refine w_forT ?_
  | with_reducible refine w_forS ?_
  | with_reducible refine w_forEl ?_
  | with_reducible refine w_lcR ?_
  | with_reducible refine w_lcL ?_
  | with_reducible refine w_yes ?_
  | with_reducible refine w_tru ?_
  | with_reducible refine w_isN ?_
  | with_reducible refine w_notN ?_
  | ((with_reducible show rLenL _ [V.ref _] _ _); first | refine w_lenL (SqL.of (by assumption)) ?_ | refine w_lenL (by assumption) ?_ | refine w_lenT (by assumption) ?_)
  | ((with_reducible show rIxL _ (V.ref _) (V.int _) _ _); refine w_ixL (SqL.of (by assumption)) (by with_unfolding_all exact rfl) ?_)
  | ((with_reducible show rIxT _ (V.ref _) (V.int _) _ _); refine w_ixT (by assumption) (by with_unfolding_all exact rfl) ?_)
  | with_reducible refine w_abs ?_
  | with_reducible refine w_neg ?_
  | with_reducible refine w_ltS ?_
  | with_reducible refine w_leS ?_
  | with_reducible refine w_eq (by with_unfolding_all exact rfl) ?_
  | with_reducible refine w_ne (by with_unfolding_all exact rfl) ?_
  | with_reducible refine ex_int ?_
  | with_reducible refine ex_bl ?_
  | ((with_reducible show rIsi _ _ _ _); first | with_reducible refine isi_s_tuple ?_ | with_reducible refine isi_s_bool ?_ | with_reducible refine isi_s_int ?_ | with_reducible refine isi_s_str ?_ | with_reducible refine isi_i_tuple ?_ | with_reducible refine isi_i_bool ?_ | with_reducible refine isi_i_int ?_ | with_reducible refine isi_i_str ?_ | with_reducible refine isi_b_tuple ?_ | with_reducible refine isi_b_bool ?_ | with_reducible refine isi_b_int ?_ | with_reducible refine isi_b_str ?_ | with_reducible refine isi_n_tuple ?_ | with_reducible refine isi_n_bool ?_ | with_reducible refine isi_n_int ?_ | with_reducible refine isi_n_str ?_ | ((with_reducible refine isi_t_tuple ?hSq ?_); (case hSq => exact ⟨_, by assumption⟩)) | ((with_reducible refine isi_t_bool ?hSq ?_); (case hSq => exact ⟨_, by assumption⟩)) | ((with_reducible refine isi_t_int ?hSq ?_); (case hSq => exact ⟨_, by assumption⟩)) | ((with_reducible refine isi_t_str ?hSq ?_); (case hSq => exact ⟨_, by assumption⟩)))
  | ((with_reducible refine @ite_g _ _ _ _ ?_); first | with_reducible refine ifB_tt ?_ | with_reducible refine ifB_ff ?_ | with_reducible refine ifB_tf ?_ | with_reducible refine ifB_ft ?_ | with_reducible refine ifN_s ?_ | with_reducible refine ifN_i ?_ | with_reducible refine ifN_b ?_ | with_reducible refine ifN_r ?_ | with_reducible refine ifN_n ?_ | with_reducible refine ifM_s ?_ | with_reducible refine ifM_i ?_ | with_reducible refine ifM_b ?_ | with_reducible refine ifM_r ?_ | with_reducible refine ifM_n ?_ | with_reducible refine L2.iteF ?_ | with_reducible refine L2.iteT ?_ | with_reducible refine w_nt ?_ | with_reducible refine w_nf ?_))
local macro_rules | `(tactic| walk_at "rdc") => `(tactic| repeat walk_at "r1c")
local macro_rules | `(tactic| walk_at "upc") => `(tactic| (refine ⟨_, _, rfl, .inl (.inl (by assumption)), (by rfl), ?_⟩; refine ⟨_, _, rfl, ?_⟩; walk_at "rdc"; refine ⟨_, _, rfl, ?_⟩; walk_at "rdc"; refine ⟨rfl, ?_⟩; walk_at "rdc"))
section
open PySem PySem.Spec PyProof.Rows L2
open C8 (Cal Met Mak cal0 pe_c pe_gc pss_cut tCut pe_mt pe_mt0 pe_mk)

abbrev fldsC (sD tS il bl : Addr) (ow : List Nat) : List (Str × V) := [("scopes", .ref sD), ("owner", T ow), ("slots", .ref tS), ("instructions", .ref il), ("blocks", .ref bl)]
/-- the class -/
structure CdTx (K : PySem.W.Frag) (CC : Addr) : Prop where
  cl : Cls K CC
  n_scopes : NoAttr K CC "scopes"
  n_owner : NoAttr K CC "owner"
  n_slots : NoAttr K CC "slots"
  n_instructions : NoAttr K CC "instructions"
  n_blocks : NoAttr K CC "blocks"
/-- a coder as it stands -/
def CdS (K : PySem.W.Frag) (CC self il bl : Addr) (sc : List Ws) (sl : Ws) (ow : List Nat) (S : CS) (H : Hp) : Prop := ∃ (dx sD tS : Addr) (xv iv bv : List V), il ≠ bl ∧ sD ≠ il ∧ sD ≠ bl ∧ H self = some (.ins CC dx (fldsC sD tS il bl ow)) ∧ H sD = some (.lst xv) ∧ ScAt H xv sc ∧ SqT K H tS (sl.map T) ∧ H il = some (.lst iv) ∧ TrsAt K H iv S.1 ∧ H bl = some (.lst bv) ∧ TrsAt K H bv S.2 ∧ sc.length ≤ 1000
theorem CdS.same {K : PySem.W.Frag} {CC self il bl : Addr} {sc : List Ws} {sl : Ws} {ow : List Nat} {S : CS} {H H1 : Hp} (h : CdS K CC self il bl sc sl ow S H) (s : Same H H1) : CdS K CC self il bl sc sl ow S H1 := by
  obtain ⟨dx, sD, tS, xv, iv, bv, n1, n2, n3, hs, hD, hSc, hT, hI, hIt, hB, hBt, hl⟩ := h
  exact ⟨dx, sD, tS, xv, iv, bv, n1, n2, n3, s _ _ hs, s _ _ hD, hSc.sm s, Same.sqT s hT, s _ _ hI, hIt.same s, s _ _ hB, hBt.same s, hl⟩
/-- the instructions changed -/
theorem CdS.chg {K : PySem.W.Frag} {CC self il bl dx sD tS : Addr} {sc : List Ws} {sl : Ws} {ow : List Nat} {S : CS} {I' : List Tr} {H H1 : Hp} {xv iv iv' bv : List V} (n1 : il ≠ bl) (n2 : sD ≠ il) (n3 : sD ≠ bl) (hs : H self = some (.ins CC dx (fldsC sD tS il bl ow))) (hD : H sD = some (.lst xv)) (hSc : ScAt H xv sc) (hT : SqT K H tS (sl.map T)) (hI : H il = some (.lst iv)) (hB : H bl = some (.lst bv)) (hBt : TrsAt K H bv S.2) (hl : sc.length ≤ 1000)
    (h1 : H1 il = some (.lst iv')) (k1 : ∀ b o, b ≠ il → H b = some o → H1 b = some o) (ht : TrsAt K H1 iv' I') : CdS K CC self il bl sc sl ow (I', S.2) H1 :=
  ⟨dx, sD, tS, xv, iv', bv, n1, n2, n3, k1 _ _ (fun e => by rw [e, hI] at hs; cases hs) hs, k1 _ _ n2 hD, hSc.but hI k1, sqT_but hT hI k1, h1, ht, k1 _ _ n1.symm hB, hBt.but hI k1, hl⟩
/-- what a method of the coder promises -/
def CdQ (K : PySem.W.Frag) (CC self il bl : Addr) (sc : List Ws) (sl : Ws) (ow : List Nat) (S' : CS) (H : Hp) (R : Hp → Prop) : Prop := ∀ H', CdS K CC self il bl sc sl ow S' H' → Fq il bl H H' → R H'
section
variable {P : Program} {w : World} {K : PySem.W.Frag} {mg : Str → Option Value} {base : Heap} {CC : Addr} {k : Nat}
abbrev s_Coder_put : Stmt := inClass (topS 4) 2
abbrev N_Coder_put : List Str := ["self", "instruction"]
theorem sc_Coder_put : FnScope N_Coder_put ["self", "instruction"] (defScope s_Coder_put) := ⟨rfl, rfl, rfl, by decide +kernel, rfl, by decide +kernel, by decide +kernel⟩
def spCPut (K : PySem.W.Frag) (CC : Addr) : Sp := fun vs H Q _ => ∃ (self il bl : Addr) (v : V) (t : Tr) (sc : List Ws) (sl : Ws) (ow : List Nat) (S : CS), vs = [.ref self, v] ∧ CdS K CC self il bl sc sl ow S H ∧ TrAt K H v t ∧ S.1.length ≤ 900000 ∧ CdQ K CC self il bl sc sl ow (cput t S) H (Q .non)
theorem ok_put {f : Addr} {fd : FuncData} (F : Fun K "put" "Coder.put" s_Coder_put f fd) (Z : CdTx K CC) : FnOk P w K mg base CX0 1 f fd ["self", "instruction"] (spCPut K CC) := by
  refine F.ok sc_Coder_put (fun vs H Q E h => ?_) (fun cdv A outer s H vs Q E hr h => ?_)
  · obtain ⟨self, il, bl, v, t, sc, sl, ow, S, rfl, _⟩ := h
    rfl
  · obtain ⟨self, il, bl, v, t, sc, sl, ow, S, rfl, hC, hv, hl, kQ⟩ := h
    obtain ⟨dx, sD, tS, xv, iv, bv, n1, n2, n3, hs, hD, hSc, hT, hI, hIt, hB, hBt, hsl⟩ := hC
    have nd := sc_Coder_put.nd
    have e1 := hIt.length
    refine ⟨_, (pss_one (ps_expr (pe_bm PySem.F.plainAttrs_list PySem.F.slot_list_append PySem.F.type_list_append mt_append (pe_fld (pv 0) rfl) (pa_cons (pv 1) pa_nil)))), ?_⟩
    rw [show L2.start N_Coder_put [.ref self, v] = [some (.ref self), some v] from rfl]
    walk_at "rdc"
    refine o_fat hs Z.cl Z.n_instructions rfl ?_
    refine ⟨tyL (SqL.of hI), ?_⟩
    walk_at "rdc"
    refine w_app2 hI (by omega) fun H1 h1 k1 => ?_
    walk_at "rdc"
    exact kQ H1 (.chg n1 n2 n3 hs hD hSc hT hI hB hBt hsl h1 k1 (TrsAt.snoc (hv.but hI k1) (hIt.but hI k1))) (Fq.l hI h1 k1)
abbrev s_Coder_put_leading : Stmt := inClass (topS 4) 3
abbrev N_Coder_put_leading : List Str := ["self", "word"]
theorem sc_Coder_put_leading : FnScope N_Coder_put_leading ["self", "word"] (defScope s_Coder_put_leading) := ⟨rfl, rfl, rfl, by decide +kernel, rfl, by decide +kernel, by decide +kernel⟩
def spCPl (K : PySem.W.Frag) (CC : Addr) : Sp := fun vs H Q _ => ∃ (self il bl : Addr) (a : List Nat) (sc : List Ws) (sl : Ws) (ow : List Nat) (S : CS), vs = [.ref self, T a] ∧ CdS K CC self il bl sc sl ow S H ∧ S.1.length ≤ 900000 ∧ CdQ K CC self il bl sc sl ow (cput (.t [.s a, .n]) S) H (Q (.int (S.1.length : Int)))
theorem ok_put_leading {f : Addr} {fd : FuncData} (F : Fun K "put_leading" "Coder.put_leading" s_Coder_put_leading f fd) (Y : Bn mg) (Z : CdTx K CC) (m_put : Met P w K mg base 1 CC "put" (spCPut K CC) []) : FnOk P w K mg base CX0 2 f fd ["self", "word"] (spCPl K CC) := by
  refine F.ok sc_Coder_put_leading (fun vs H Q E h => ?_) (fun cdv A outer s H vs Q E hr h => ?_)
  · obtain ⟨self, il, bl, a, sc, sl, ow, S, rfl, _⟩ := h
    rfl
  · obtain ⟨self, il, bl, a, sc, sl, ow, S, rfl, hC, hl, kQ⟩ := h
    obtain ⟨dx, sD, tS, xv, iv, bv, n1, n2, n3, hs, _⟩ := id hC
    have nd := sc_Coder_put_leading.nd
    refine ⟨_, (pss_cons (ps_expr (pe_mt m_put hr (by omega) (pv 0) (pa_cons (pe_tup (pa_cons (pv 1) (pa_cons pe_non pa_nil))) pa_nil)))
      (pss_one (ps_ret (pe_op op_sub (pe_callB call_lenL (by rfl) Y.n_len (by decide +kernel) (pa_cons (pe_fld (pv 0) rfl) pa_nil)) pe_int)))), ?_⟩
    rw [show L2.start N_Coder_put_leading [.ref self, T a] = [some (.ref self), some (T a)] from rfl]
    walk_at "rdc"
    refine o_mat hs rfl ?_
    walk_at "rdc"
    refine w_newT (by show 2 ≤ 1000000; decide) fun q H1 hq s1 h1 => ?_
    walk_at "rdc"
    refine ⟨self, il, bl, .ref q, .t [.s a, .n], sc, sl, ow, S, rfl, hC.same s1, .t (.inl (.inl h1)) (.cons .s (.cons .n .nil)), hl, fun H2 hC2 f2 => ?_⟩
    obtain ⟨dx2, sD2, tS2, xv2, iv2, bv2, _, _, _, hs2, _, _, _, hI2, hIt2, _⟩ := id hC2
    have e2 := hIt2.length
    walk_at "rdc"
    refine o_fat hs2 Z.cl Z.n_instructions rfl ?_
    walk_at "rdc"
    have e3 : (iv2.length : Int) - 1 = (S.1.length : Int) := by
      rw [e2]
      show ((S.1 ++ [Tr.t [.s a, .n]]).length : Int) - 1 = _
      rw [List.length_append, List.length_singleton]
      omega
    rw [e3]
    exact kQ H2 hC2 ((Fq.same s1).trans f2)
abbrev s_Coder_lead_here : Stmt := inClass (topS 4) 4
abbrev N_Coder_lead_here : List Str := ["self", "number"]
theorem sc_Coder_lead_here : FnScope N_Coder_lead_here ["self", "number"] (defScope s_Coder_lead_here) := ⟨rfl, rfl, rfl, by decide +kernel, rfl, by decide +kernel, by decide +kernel⟩
def spCLed (K : PySem.W.Frag) (CC : Addr) : Sp := fun vs H Q _ => ∃ (self il bl : Addr) (j : Nat) (a : Tr) (r : List Tr) (sc : List Ws) (sl : Ws) (ow : List Nat) (S : CS), vs = [.ref self, .int (j : Int)] ∧ CdS K CC self il bl sc sl ow S H ∧ S.1[j]? = some (.t (a :: r)) ∧ S.1.length ≤ 900000 ∧ CdQ K CC self il bl sc sl ow (cled j S) H (Q .non)
theorem trs_set {K : PySem.W.Frag} {H : Hp} {v : V} {t : Tr} (h : TrAt K H v t) : ∀ {vs : List V} {l : List Tr} (j : Nat), TrsAt K H vs l → TrsAt K H (vs.set j v) (l.set j t)
  | _, _, _, .nil => .nil
  | _, _, 0, .cons _ r => .cons h r
  | _, _, j + 1, .cons a r => .cons a (trs_set h j r)
theorem ok_lead_here {f : Addr} {fd : FuncData} (F : Fun K "lead_here" "Coder.lead_here" s_Coder_lead_here f fd) (Y : Bn mg) (Z : CdTx K CC) : FnOk P w K mg base CX0 1 f fd ["self", "number"] (spCLed K CC) := by
  refine F.ok sc_Coder_lead_here (fun vs H Q E h => ?_) (fun cdv A outer s H vs Q E hr h => ?_)
  · obtain ⟨self, il, bl, j, a, r, sc, sl, ow, S, rfl, _⟩ := h
    rfl
  · obtain ⟨self, il, bl, j, a, r, sc, sl, ow, S, rfl, hC, hj, hl, kQ⟩ := h
    obtain ⟨dx, sD, tS, xv, iv, bv, n1, n2, n3, hs, hD, hSc, hT, hI, hIt, hB, hBt, hsl⟩ := hC
    have nd := sc_Coder_lead_here.nd
    have e1 := hIt.length
    have hjl : j < S.1.length := (List.getElem?_eq_some_iff.mp hj).1
    obtain ⟨v, t, hv, ht, hvt⟩ := hIt.get hjl
    rw [hj] at ht
    cases ht
    obtain ⟨p, us, rfl, hp, hus⟩ := (show ∃ p us, v = .ref p ∧ SqT K H p us ∧ TrsAt K H us (a :: r) by cases hvt with | t a b => exact ⟨_, _, rfl, a, b⟩)
    obtain ⟨x, us', rfl, hx⟩ : ∃ x us', us = x :: us' ∧ TrAt K H x a := by cases hus with | cons a b => exact ⟨_, _, rfl, a⟩
    refine ⟨_, (pss_one (ps_asg (pe_tup (pa_cons (pe_ix ix_tup (pe_ix ix_list (pe_fld (pv 0) rfl) (pv 1) (fun _ _ => rfl)) pe_int (fun _ _ => rfl)) (pa_cons (pe_callB call_lenL (by rfl) Y.n_len (by decide +kernel) (pa_cons (pe_fld (pv 0) rfl) pa_nil)) pa_nil))) (pg_sub (pe_fld (pv 0) rfl) (pv 1) set_list))), ?_⟩
    rw [show L2.start N_Coder_lead_here [.ref self, .int (j : Int)] = [some (.ref self), some (.int (j : Int))] from rfl]
    walk_at "rdc"
    refine o_fat hs Z.cl Z.n_instructions rfl ?_
    walk_at "rdc"
    refine w_ixL (SqL.of hI) (atI_nat hv) ?_
    walk_at "rdc"
    refine w_ixT hp (atI_nat (j := 0) rfl) ?_
    walk_at "rdc"
    refine o_fat hs Z.cl Z.n_instructions rfl ?_
    walk_at "rdc"
    refine w_newT (by show 2 ≤ 1000000; decide) fun q H1 hq s1 h1 => ?_
    walk_at "rdc"
    refine o_fat (s1 _ _ hs) Z.cl Z.n_instructions rfl ?_
    walk_at "rdc"
    refine w_setL (n := j) (s1 _ _ hI) (by unfold ixN; rw [if_pos (by omega), if_pos (by omega)]; simp) ?_
    have e2 : cled j S = (S.1.set j (.t [a, .i (S.1.length : Int)]), S.2) := by
      unfold cled
      rw [hj]
    have hI1 := s1 _ _ hI
    have k2 : ∀ b o, b ≠ il → H1 b = some o → upd H1 il (.lst (iv.set j (.ref q))) b = some o := fun b o n e => by rw [upd_ne n]; exact e
    have hq2 : upd H1 il (.lst (iv.set j (.ref q))) q = some (.tup [x, .int (iv.length : Int)]) := k2 _ _ (fun z => by rw [z, hI] at hq; cases hq) h1
    have hx2 : TrAt K (upd H1 il (.lst (iv.set j (.ref q)))) x a := (hx.same s1).but hI1 k2
    have hnew : TrAt K (upd H1 il (.lst (iv.set j (.ref q)))) (.ref q) (.t [a, .i (S.1.length : Int)]) := by
      rw [← e1]
      exact .t (.inl (.inl hq2)) (.cons hx2 (.cons .i .nil))
    refine kQ _ ?_ ((Fq.same s1).trans (Fq.l hI1 upd_same k2))
    rw [e2]
    exact .chg n1 n2 n3 (s1 _ _ hs) (s1 _ _ hD) (hSc.sm s1) (Same.sqT s1 hT) hI1 (s1 _ _ hB) (hBt.same s1) hsl upd_same k2 (trs_set hnew j ((hIt.same s1).but hI1 k2))
abbrev s_Coder_put_into : Stmt := inClass (topS 4) 5
abbrev N_Coder_put_into : List Str := ["self", "name"]
theorem sc_Coder_put_into : FnScope N_Coder_put_into ["self", "name"] (defScope s_Coder_put_into) := ⟨rfl, rfl, rfl, by decide +kernel, rfl, by decide +kernel, by decide +kernel⟩
def spCIn (K : PySem.W.Frag) (CC : Addr) : Sp := fun vs H Q _ => ∃ (self il bl : Addr) (a : List Nat) (sc : List Ws) (sl : Ws) (ow : List Nat) (S : CS), vs = [.ref self, T a] ∧ CdS K CC self il bl sc sl ow S H ∧ S.1.length ≤ 900000 ∧ CdQ K CC self il bl sc sl ow (cput (.t [str "set", plcT a sl 0 sc]) S) H (Q .non)
theorem ok_put_into {f : Addr} {fd : FuncData} (F : Fun K "put_into" "Coder.put_into" s_Coder_put_into f fd) (Y : Bn mg) (Z : CdTx K CC) (c_place_of : Cal P w K mg base 1 "place_of" (spPlace K) []) (m_put : Met P w K mg base 1 CC "put" (spCPut K CC) []) : FnOk P w K mg base CX0 2 f fd ["self", "name"] (spCIn K CC) := by
  refine F.ok sc_Coder_put_into (fun vs H Q E h => ?_) (fun cdv A outer s H vs Q E hr h => ?_)
  · obtain ⟨self, il, bl, a, sc, sl, ow, S, rfl, _⟩ := h
    rfl
  · obtain ⟨self, il, bl, a, sc, sl, ow, S, rfl, hC, hl, kQ⟩ := h
    obtain ⟨dx, sD, tS, xv, iv, bv, n1, n2, n3, hs, hD, hSc, hT, hI, hIt, hB, hBt, hsl⟩ := id hC
    have nd := sc_Coder_put_into.nd
    refine ⟨_, (pss_one (ps_expr (pe_mt m_put hr (by omega) (pv 0) (pa_cons (pe_tup (pa_cons pe_str (pa_cons (pe_c c_place_of hr (by omega) rfl (pa_cons (pv 1) (pa_cons (pe_fld (pv 0) rfl) (pa_cons (pe_fld (pv 0) rfl) pa_nil)))) pa_nil))) pa_nil)))), ?_⟩
    rw [show L2.start N_Coder_put_into [.ref self, T a] = [some (.ref self), some (T a)] from rfl]
    walk_at "rdc"
    refine o_mat hs rfl ?_
    walk_at "rdc"
    refine o_fat hs Z.cl Z.n_scopes rfl ?_
    walk_at "rdc"
    refine o_fat hs Z.cl Z.n_slots rfl ?_
    walk_at "rdc"
    refine ⟨sD, tS, a, xv, sc, sl, rfl, SqL.of hD, hSc, hT, by rw [hSc.length]; exact hsl, fun p H1 s1 hp => ?_⟩
    walk_at "rdc"
    refine w_newT (by show 2 ≤ 1000000; decide) fun q H2 hq s2 h2 => ?_
    walk_at "rdc"
    have hpt : TrAt K H2 (.ref p) (plcT a sl 0 sc) := by
      have := (pk_at hp).same s2
      rw [pk_plc] at this
      exact this
    refine ⟨self, il, bl, .ref q, _, sc, sl, ow, S, rfl, hC.same (s1.trans s2), .t (.inl (.inl h2)) (.cons .s (.cons hpt .nil)), hl, fun H3 hC3 f3 => ?_⟩
    walk_at "rdc"
    exact kQ H3 hC3 ((Fq.same (s1.trans s2)).trans f3)
abbrev s_Coder_end_with_none : Stmt := inClass (topS 4) 6
abbrev N_Coder_end_with_none : List Str := ["self"]
theorem sc_Coder_end_with_none : FnScope N_Coder_end_with_none ["self"] (defScope s_Coder_end_with_none) := ⟨rfl, rfl, rfl, by decide +kernel, rfl, by decide +kernel, by decide +kernel⟩
def spCEn (K : PySem.W.Frag) (CC : Addr) : Sp := fun vs H Q _ => ∃ (self il bl : Addr) (sc : List Ws) (sl : Ws) (ow : List Nat) (S : CS), vs = [.ref self] ∧ CdS K CC self il bl sc sl ow S H ∧ S.1.length ≤ 899999 ∧ CdQ K CC self il bl sc sl ow (cend S) H (Q .non)
theorem ok_end_with_none {f : Addr} {fd : FuncData} (F : Fun K "end_with_none" "Coder.end_with_none" s_Coder_end_with_none f fd) (Y : Bn mg) (Z : CdTx K CC) (m_put : Met P w K mg base 1 CC "put" (spCPut K CC) []) : FnOk P w K mg base CX0 2 f fd ["self"] (spCEn K CC) := by
  refine F.ok sc_Coder_end_with_none (fun vs H Q E h => ?_) (fun cdv A outer s H vs Q E hr h => ?_)
  · obtain ⟨self, il, bl, sc, sl, ow, S, rfl, _⟩ := h
    rfl
  · obtain ⟨self, il, bl, sc, sl, ow, S, rfl, hC, hl, kQ⟩ := h
    obtain ⟨dx, sD, tS, xv, iv, bv, n1, n2, n3, hs, _⟩ := id hC
    have nd := sc_Coder_end_with_none.nd
    refine ⟨_, (pss_cons (ps_expr (pe_mt m_put hr (by omega) (pv 0) (pa_cons (pe_tup (pa_cons pe_str (pa_cons pe_non pa_nil))) pa_nil)))
      (pss_one (ps_expr (pe_mt m_put hr (by omega) (pv 0) (pa_cons (pe_tup (pa_cons pe_str pa_nil)) pa_nil))))), ?_⟩
    rw [show L2.start N_Coder_end_with_none [.ref self] = [some (.ref self)] from rfl]
    walk_at "rdc"
    refine o_mat hs rfl ?_
    walk_at "rdc"
    refine w_newT (by show 2 ≤ 1000000; decide) fun q H1 hq s1 h1 => ?_
    walk_at "rdc"
    refine ⟨self, il, bl, .ref q, .t [str "push", .n], sc, sl, ow, S, rfl, hC.same s1, .t (.inl (.inl h1)) (.cons .s (.cons .n .nil)), by omega, fun H2 hC2 f2 => ?_⟩
    obtain ⟨dx2, sD2, tS2, xv2, iv2, bv2, _, _, _, hs2, _⟩ := id hC2
    walk_at "rdc"
    refine o_mat hs2 rfl ?_
    walk_at "rdc"
    refine w_newT (by show 1 ≤ 1000000; decide) fun q3 H3 hq3 s3 h3 => ?_
    walk_at "rdc"
    refine ⟨self, il, bl, .ref q3, .t [str "end"], sc, sl, ow, _, rfl, hC2.same s3, .t (.inl (.inl h3)) (.cons .s .nil), by show (S.1 ++ [_]).length ≤ _; rw [List.length_append, List.length_singleton]; omega, fun H4 hC4 f4 => ?_⟩
    walk_at "rdc"
    exact kQ H4 hC4 (((Fq.same s1).trans f2).trans ((Fq.same s3).trans f4))
abbrev s_Coder_code : Stmt := inClass (topS 4) 1
abbrev N_Coder_code : List Str := ["self"]
theorem sc_Coder_code : FnScope N_Coder_code ["self"] (defScope s_Coder_code) := ⟨rfl, rfl, rfl, by decide +kernel, rfl, by decide +kernel, by decide +kernel⟩
def cdT (n : Nat) (S : CS) : Tr := .t [str "code", .i (n : Int), .t S.1, .t S.2]
def spCCode (K : PySem.W.Frag) (CC : Addr) : Sp := fun vs H Q _ => ∃ (self il bl : Addr) (s0 : Ws) (sc : List Ws) (sl : Ws) (ow : List Nat) (S : CS), vs = [.ref self] ∧ CdS K CC self il bl (s0 :: sc) sl ow S H ∧ ∀ q H', TrAt K H' (.ref q) (cdT s0.length S) → Same H H' → Q (.ref q) H'
theorem ok_code {f : Addr} {fd : FuncData} (F : Fun K "code" "Coder.code" s_Coder_code f fd) (Y : Bn mg) (Z : CdTx K CC) : FnOk P w K mg base CX0 1 f fd ["self"] (spCCode K CC) := by
  refine F.ok sc_Coder_code (fun vs H Q E h => ?_) (fun cdv A outer s H vs Q E hr h => ?_)
  · obtain ⟨self, il, bl, s0, sc, sl, ow, S, rfl, _⟩ := h
    rfl
  · obtain ⟨self, il, bl, s0, sc, sl, ow, S, rfl, hC, kQ⟩ := h
    obtain ⟨dx, sD, tS, xv, iv, bv, n1, n2, n3, hs, hD, hSc, hT, hI, hIt, hB, hBt, hsl⟩ := id hC
    have nd := sc_Coder_code.nd
    refine ⟨_, (pss_one (ps_ret (pe_tup (pa_cons pe_str (pa_cons (pe_callB call_lenL (by rfl) Y.n_len (by decide +kernel) (pa_cons (pe_ix ix_list (pe_fld (pv 0) rfl) pe_int (fun _ _ => rfl)) pa_nil)) (pa_cons (pe_callTy call_tupleOf (by rfl) Y.n_tuple (by decide +kernel) (pa_cons (pe_fld (pv 0) rfl) pa_nil)) (pa_cons (pe_callTy call_tupleOf (by rfl) Y.n_tuple (by decide +kernel) (pa_cons (pe_fld (pv 0) rfl) pa_nil)) pa_nil))))))), ?_⟩
    rw [show L2.start N_Coder_code [.ref self] = [some (.ref self)] from rfl]
    obtain ⟨p0, xv', rfl, hp0⟩ : ∃ p0 xv', xv = .ref p0 :: xv' ∧ FT H p0 (s0.map T) := by cases hSc with | cons a b => exact ⟨_, _, rfl, a⟩
    walk_at "rdc"
    refine o_fat hs Z.cl Z.n_scopes rfl ?_
    walk_at "rdc"
    refine w_ixL (SqL.of hD) (atI_nat (j := 0) rfl) ?_
    walk_at "rdc"
    refine w_lenT hp0.sq ?_
    rw [List.length_map]
    walk_at "rdc"
    refine o_fat hs Z.cl Z.n_instructions rfl ?_
    walk_at "rdc"
    refine w_tupOf (SqL.of hI) fun l1 H1 hl1 s1 h1 => ?_
    walk_at "rdc"
    refine o_fat (s1 _ _ hs) Z.cl Z.n_blocks rfl ?_
    walk_at "rdc"
    refine w_tupOf (SqL.of (s1 _ _ hB)) fun l2 H2 hl2 s2 h2 => ?_
    walk_at "rdc"
    refine w_newT (by show 4 ≤ 1000000; decide) fun q H3 hq s3 h3 => ?_
    exact kQ q H3 (.t (.inl (.inl h3)) (.cons .s (.cons .i (.cons (.t (h1.same (s2.trans s3)).sq (hIt.same ((s1.trans s2).trans s3))) (.cons (.t (h2.same s3).sq (hBt.same ((s1.trans s2).trans s3))) .nil))))) ((s1.trans s2).trans s3)
end
end
section
/-! Texts of tokens with spaces ahead of each: their reading. -/
open PySem PySem.Spec PyProof.Rows L2
open TL (numL tl_num numL_digits numL_ne numL_val numL_len numL_lt numL_step)
/-- tokens, each with the spaces ahead of it -/
abbrev Ly := List (Nat × List Nat)
def lay : Ly → List Nat
  | [] => []
  | (n, t) :: l => List.replicate n 32 ++ t ++ lay l
def lws (l : Ly) : Ws := l.map Prod.snd
def lps : Nat → Ly → List Nat
  | _, [] => []
  | p, (n, t) :: l => (p + n) :: lps (p + n + t.length) l
/-- tokens, none of which would be read as one with what stands behind it -/
def LOk : List Nat → Ly → Prop
  | _, [] => True
  | b, (n, t) :: l => Tok t ∧ (touch b t = true → 1 ≤ n) ∧ LOk t l
def lend : List Nat → Ly → List Nat
  | b, [] => b
  | _, (_, t) :: l => lend t l
theorem lay_append : ∀ a b : Ly, lay (a ++ b) = lay a ++ lay b
  | [], b => rfl
  | (n, t) :: a, b => by
    show List.replicate n 32 ++ t ++ lay (a ++ b) = List.replicate n 32 ++ t ++ lay a ++ lay b
    rw [lay_append a b, List.append_assoc, List.append_assoc, List.append_assoc]
theorem lws_append (a b : Ly) : lws (a ++ b) = lws a ++ lws b := List.map_append
theorem lps_append : ∀ (p : Nat) (a b : Ly), lps p (a ++ b) = lps p a ++ lps (p + (lay a).length) b
  | p, [], b => rfl
  | p, (n, t) :: a, b => by
    show (p + n) :: lps (p + n + t.length) (a ++ b) = (p + n) :: (lps (p + n + t.length) a ++ lps (p + (List.replicate n 32 ++ t ++ lay a).length) b)
    rw [lps_append, List.length_append, List.length_append, List.length_replicate, show p + (n + t.length + (lay a).length) = p + n + t.length + (lay a).length by omega]
theorem lps_len : ∀ (p : Nat) (l : Ly), (lps p l).length = (lws l).length
  | _, [] => rfl
  | p, (n, t) :: l => by
    show (lps (p + n + t.length) l).length + 1 = (lws l).length + 1
    rw [lps_len]
theorem lend_append : ∀ (c : List Nat) (a b : Ly), lend c (a ++ b) = lend (lend c a) b
  | _, [], _ => rfl
  | _, (_, t) :: a, b => lend_append t a b
theorem lok_append : ∀ {c : List Nat} {a b : Ly}, LOk c (a ++ b) ↔ LOk c a ∧ LOk (lend c a) b
  | c, [], b => ⟨fun h => ⟨True.intro, h⟩, fun h => h.2⟩
  | c, (n, t) :: a, b => by
    show (Tok t ∧ _ ∧ LOk t (a ++ b)) ↔ (Tok t ∧ _ ∧ LOk t a) ∧ LOk (lend t a) b
    rw [lok_append (c := t) (a := a) (b := b)]
    exact ⟨fun ⟨h1, h2, h3, h4⟩ => ⟨⟨h1, h2, h3⟩, h4⟩, fun ⟨⟨h1, h2, h3⟩, h4⟩ => ⟨h1, h2, h3, h4⟩⟩
theorem lay_grown : ∀ {l : Ly} {cs : List Nat} {due : List Tk} {b : List Nat}, Grown cs due b → LOk b l → Grown (cs ++ lay l) (due ++ dueOf (lws l) (lps cs.length l)) (lend b l)
  | [], cs, due, b, g, _ => by
    show Grown (cs ++ []) (due ++ []) b
    rw [List.append_nil, List.append_nil]
    exact g
  | (n, t) :: l, cs, due, b, g, ⟨⟨k, v, d⟩, h2, h3⟩ => by
    have g2 := lay_grown (grown_step g d h2) h3
    have e1 : cs ++ lay ((n, t) :: l) = cs ++ List.replicate n 32 ++ t ++ lay l := by
      show cs ++ (List.replicate n 32 ++ t ++ lay l) = _
      rw [List.append_assoc, List.append_assoc, List.append_assoc]
    have e2 : due ++ dueOf (lws ((n, t) :: l)) (lps cs.length ((n, t) :: l)) = due ++ [(k, v, cs.length + n)] ++ dueOf (lws l) (lps (cs ++ List.replicate n 32 ++ t).length l) := by
      show due ++ (((tk t).1, (tk t).2, cs.length + n) :: dueOf (lws l) (lps (cs.length + n + t.length) l)) = _
      rw [drawn_tk d, List.length_append, List.length_append, List.length_replicate, List.append_assoc]
      rfl
    rw [e1, e2]
    exact g2
/-- the tokens of such a text -/
theorem lay_lex {l : Ly} (h : LOk [] l) (n : Nat) : lex 0 (lay l ++ List.replicate n 32) = (dueOf (lws l) (lps 0 l), none) := by
  have g := lay_grown (grown_start 0) h
  exact grown_end g n
theorem lay_lex0 {l : Ly} (h : LOk [] l) : lex 0 (lay l) = (dueOf (lws l) (lps 0 l), none) := by
  have := lay_lex h 0
  rw [show lay l ++ List.replicate 0 32 = lay l from List.append_nil _] at this
  exact this
/-! which tokens touch -/
theorem touch_gap {b t : List Nat} {n : Nat} (h : 1 ≤ n) : touch b t = true → 1 ≤ n := fun _ => h
theorem touch_no {b t : List Nat} {n : Nat} (h : touch b t = false) : touch b t = true → 1 ≤ n := fun z => by rw [h] at z; cases z
theorem mark_head : ∀ m ∈ MLs, ∃ c r, m = c :: r ∧ c ∉ aJ := by
  have k : ∀ m ∈ MLs, m ≠ [] ∧ m.headD 0 ∉ aJ := by decide +kernel
  intro m hm
  obtain ⟨h1, h2⟩ := k m hm
  cases m with
  | nil => exact absurd rfl h1
  | cons c r => exact ⟨c, r, rfl, h2⟩
theorem mark_last : ∀ m ∈ MLs, ∀ c, m.getLast? = some c → c ∉ aJ := by
  have k : ∀ m ∈ MLs, (m.getLast?).getD 0 ∉ aJ := by decide +kernel
  intro m hm c e
  have := k m hm
  rw [e] at this
  exact this
theorem touch_nil (t : List Nat) : touch [] t = false := rfl
/-- a mark behind something other than < -/
theorem touch_mr {b m : List Nat} (h : b ≠ [60]) (hm : m ∈ MLs) : touch b m = false := by
  unfold touch
  by_cases h0 : b = []
  · rw [if_pos h0]
  · rw [if_neg h0, if_neg h]
    obtain ⟨c, r, rfl, hc⟩ := mark_head m hm
    rw [List.head?_cons]
    cases b.getLast? with
    | none => rfl
    | some d =>
      show (decide (d ∈ aJ) && decide (c ∈ aJ)) = false
      rw [decide_eq_false hc, Bool.and_false]
/-- a mark other than < ahead of something -/
theorem touch_ml {m t : List Nat} (h : m ≠ [60]) (hm : m ∈ MLs) : touch m t = false := by
  unfold touch
  obtain ⟨c, r, e, _⟩ := mark_head m hm
  rw [if_neg (by rw [e]; exact List.cons_ne_nil _ _), if_neg h]
  cases el : m.getLast? with
  | none => rfl
  | some d =>
    cases t.head? with
    | none => rfl
    | some x =>
      show (decide (d ∈ aJ) && decide (x ∈ aJ)) = false
      rw [decide_eq_false (mark_last m hm d el), Bool.false_and]
theorem name_ne {a : List Nat} (h : IsName a) : a ≠ [60] := fun e => by
  obtain ⟨c, r, rfl, hc, _⟩ := h.1
  cases e
  exact absurd hc (by decide +kernel)
theorem num_ne {n : Nat} : numL n ≠ [60] := fun e => by
  have := numL_digits n 60 (by rw [e]; exact List.mem_singleton.mpr rfl)
  omega
theorem num_tok {n : Nat} (h : n ≤ 1000000000) : Tok (numL n) := ⟨_, _, .number h⟩
theorem word_ne : ∀ a ∈ WM, a ≠ cds "<" → a ≠ [60] := by decide +kernel
/-! rows of names with commas -/
def cly (g : Nat) : Ws → Ly
  | [] => []
  | a :: l => (g, a) :: l.flatMap fun b => [(0, cds ","), (1, b)]
theorem cly_ws : ∀ (g : Nat) (l : Ws), lws (cly g l) = commas l
  | _, [] => rfl
  | g, a :: l => by
    show a :: lws (l.flatMap fun b => [(0, cds ","), (1, b)]) = _
    have : ∀ l : Ws, lws (l.flatMap fun b => [(0, cds ","), (1, b)]) = l.flatMap fun b => [cds ",", b] := fun l => by
      induction l with
      | nil => rfl
      | cons b l ih =>
        rw [List.flatMap_cons, lws_append, ih, List.flatMap_cons]
        rfl
    rw [this, commas_cons]
/-- names behind one another, with a comma and a space between -/
def jn : Ws → List Nat
  | [] => []
  | a :: l => a ++ l.flatMap fun b => cds ", " ++ b
theorem cly_lay : ∀ {g : Nat} {l : Ws}, l ≠ [] → lay (cly g l) = List.replicate g 32 ++ jn l
  | g, [], h => absurd rfl h
  | g, a :: l, _ => by
    show List.replicate g 32 ++ a ++ lay (l.flatMap fun b => [(0, cds ","), (1, b)]) = _
    have e : cds ", " = cds "," ++ [32] := by decide +kernel
    have : ∀ l : Ws, lay (l.flatMap fun b => [(0, cds ","), (1, b)]) = l.flatMap fun b => cds ", " ++ b := fun l => by
      induction l with
      | nil => rfl
      | cons b l ih =>
        rw [List.flatMap_cons, lay_append, ih, List.flatMap_cons, e]
        show ([] ++ cds "," ++ ([32] ++ b ++ [])) ++ _ = _
        simp only [List.nil_append, List.append_nil, List.append_assoc]
    rw [this, List.append_assoc]
    rfl
theorem cly_ok {c : List Nat} {g : Nat} {l : Ws} (h : ∀ x ∈ l, IsName x) (ht : ∀ a r, l = a :: r → touch c a = true → 1 ≤ g) : LOk c (cly g l) := by
  cases l with
  | nil => exact True.intro
  | cons a l =>
    refine ⟨name_tok (h a List.mem_cons_self), ht a l rfl, ?_⟩
    have : ∀ (l : Ws) (a : List Nat), IsName a → (∀ x ∈ l, IsName x) → LOk a (l.flatMap fun b => [(0, cds ","), (1, b)]) := fun l => by
      induction l with
      | nil => exact fun _ _ _ => True.intro
      | cons b l ih =>
        intro a ha hl
        rw [List.flatMap_cons]
        exact ⟨wm_tok _ (by decide +kernel), touch_no (touch_mr (name_ne ha) (by decide +kernel)), name_tok (hl b List.mem_cons_self), fun _ => Nat.le_refl _, ih b (hl b List.mem_cons_self) fun x hx => hl x (List.mem_cons_of_mem _ hx)⟩
    exact this l a (h a List.mem_cons_self) fun x hx => h x (List.mem_cons_of_mem _ hx)
theorem cly_end {c : List Nat} {g : Nat} : ∀ {l : Ws}, l ≠ [] → lend c (cly g l) ∈ l
  | [], h => absurd rfl h
  | a :: l, _ => by
    show lend a (l.flatMap fun b => [(0, cds ","), (1, b)]) ∈ a :: l
    have : ∀ (l : Ws) (a : List Nat), lend a (l.flatMap fun b => [(0, cds ","), (1, b)]) ∈ a :: l := fun l => by
      induction l with
      | nil => exact fun a => List.mem_singleton.mpr rfl
      | cons b l ih =>
        intro a
        rw [List.flatMap_cons]
        exact List.mem_cons_of_mem _ (ih b)
    exact this l a
theorem jn_len {l : Ws} (h : ∀ x ∈ l, x.length ≤ 20) : (jn l).length ≤ 22 * l.length := by
  cases l with
  | nil => exact Nat.zero_le _
  | cons a l =>
    have : ∀ l : Ws, (∀ x ∈ l, x.length ≤ 20) → (l.flatMap fun b => cds ", " ++ b).length ≤ 22 * l.length := fun l => by
      induction l with
      | nil => exact fun _ => Nat.zero_le _
      | cons b l ih =>
        intro hl
        have h1 := hl b List.mem_cons_self
        have h2 := ih fun x hx => hl x (List.mem_cons_of_mem _ hx)
        rw [List.flatMap_cons, List.length_append, List.length_append, List.length_cons]
        have : (cds ", ").length = 2 := by decide +kernel
        omega
    have h1 := h a List.mem_cons_self
    have h2 := this l fun x hx => h x (List.mem_cons_of_mem _ hx)
    show (a ++ _).length ≤ _
    rw [List.length_append, List.length_cons]
    omega
end
section
open PySem PySem.Spec PyProof.Rows L2
/-- texts with a text between them -/
def jnS (s : List Nat) : Ws → List Nat
  | [] => []
  | a :: l => a ++ l.flatMap fun b => s ++ b
theorem jnS_jn (l : Ws) : jnS (cds ", ") l = jn l := by cases l <;> rfl
end
section
/-! Printed forms: derivations without a needless bracket, and their texts. -/
open PySem PySem.Spec PyProof.Rows L2
open TL (numL tl_num numL_digits numL_ne numL_val numL_len numL_lt numL_step)
/-- those of the words that have signs, a space between them -/
def spd (l : Ws) : List Nat := jnS [32] (l.filter fun a => decide (a ≠ []))
def brk (x : List Nat) : List Nat := cds "(" ++ x ++ cds ")"
mutual
/-- an expression in its printed form: level, height, tree, tokens, lists of names, text -/
inductive Pe : Nat → Nat → Tr → Ws → List Ws → List Nat → Prop
  | num {h n : Nat} : n ≤ 1000000000 → Pe 9 (h + 1) (.t [str "plain", .i (n : Int)]) [numL n] [] (numL n)
  | text {h : Nat} {b : List Nat} : IsText b → Pe 9 (h + 1) (.t [str "plain", .s b]) [39 :: (b ++ [39])] [] (cds "'" ++ b ++ cds "'")
  | word {h : Nat} {a : List Nat} {v : V} : plainL.lookup a = some v → Pe 9 (h + 1) (.t [str "plain", plainTr v]) [a] [] a
  | self {h : Nat} : Pe 9 (h + 1) (.t [str "self"]) [cds "self"] [] (cds "self")
  | new {h : Nat} {a : List Nat} : IsClass a → Pe 9 (h + 1) (.t [str "new", .s a]) [cds "new", a] [] (cds "new " ++ a)
  | name {h : Nat} {a : List Nat} : IsName a → Pe 9 (h + 1) (.t [str "name", .s a]) [a] [] a
  | neg {h : Nat} {t : Tr} {w : Ws} {ns : List Ws} {x : List Nat} : Pp 7 h t w ns x → Pe 7 (h + 1) (.t [str "neg", t]) (cds "-" :: w) ns (cds "-" ++ x)
  | not {h : Nat} {t : Tr} {w : Ws} {ns : List Ws} {x : List Nat} : Pp 3 h t w ns x → Pe 3 (h + 1) (.t [str "not", t]) (cds "not" :: w) ns (cds "not " ++ x)
  | bin {l h : Nat} {s : List Nat} {t1 t2 : Tr} {w1 w2 : Ws} {n1 n2 : List Ws} {x1 x2 : List Nat} : behN.lookup s = some l → s ≠ cds "." → Pp (if l = 4 then 5 else l) h t1 w1 n1 x1 → Pp (l + 1) h t2 w2 n2 x2 → Pe l (h + 1) (binT s t1 t2) (w1 ++ s :: w2) (n1 ++ n2) (x1 ++ cds " " ++ s ++ cds " " ++ x2)
  | send {h : Nat} {t : Tr} {w : Ws} {ns : List Ws} {x : List Nat} {a : List Nat} {l : List Tr} {w2 : Ws} {n2 : List Ws} {ys : Ws} : Pp 8 h t w ns x → IsName a → Pa h l w2 n2 ys → Pe 8 (h + 1) (.t [str "send", t, .s a, .t l]) (w ++ cds "." :: a :: cds "(" :: (w2 ++ [cds ")"])) (ns ++ n2) (x ++ cds "." ++ a ++ brk (jn ys))
  | sup {h : Nat} {a : List Nat} {l : List Tr} {w2 : Ws} {n2 : List Ws} {ys : Ws} : IsName a → Pa h l w2 n2 ys → Pe 9 (h + 1) (.t [str "super", .s a, .t l]) (cds "super" :: cds "." :: a :: cds "(" :: (w2 ++ [cds ")"])) n2 (cds "super" ++ cds "." ++ a ++ brk (jn ys))
  | blk0 {h : Nat} {l : List Tr} {w : Ws} {ns : List Ws} {ys : Ws} : Pb h l w ns ys → Pe 9 (h + 1) (.t [str "block", .t [], .t l]) (cds "{" :: (w ++ [cds "}"])) ns (cds "{" ++ [] ++ jnS (cds "; ") ys ++ cds "}")
  | blk {h : Nat} {ps : Ws} {l : List Tr} {w : Ws} {ns : List Ws} {ys : Ws} : ps ≠ [] → ps.length ≤ 4 → (∀ x ∈ ps, IsName x) → Pb h l w ns ys → Pe 9 (h + 1) (.t [str "block", .t (ps.map Tr.s), .t l]) (cds "{" :: (commas ps ++ cds "|" :: (w ++ [cds "}"]))) (ps :: ns) (cds "{" ++ (jn ps ++ cds " | ") ++ jnS (cds "; ") ys ++ cds "}")
/-- in a place that asks for a level -/
inductive Pp : Nat → Nat → Tr → Ws → List Ws → List Nat → Prop
  | go {a lv h : Nat} {t : Tr} {w : Ws} {ns : List Ws} {x : List Nat} : a ≤ lv → Pe lv h t w ns x → Pp a h t w ns x
  | br {a lv h : Nat} {t : Tr} {w : Ws} {ns : List Ws} {x : List Nat} : lv < a → Pe lv h t w ns x → Pp a (h + 1) t (cds "(" :: (w ++ [cds ")"])) ns (brk x)
/-- arguments behind the first -/
inductive Pl : Nat → List Tr → Ws → List Ws → Ws → Prop
  | nil {h : Nat} : Pl h [] [] [] []
  | cons {lv h : Nat} {t : Tr} {w : Ws} {ns : List Ws} {x : List Nat} {l : List Tr} {w2 : Ws} {n2 : List Ws} {ys : Ws} : Pe lv h t w ns x → Pl h l w2 n2 ys → Pl h (t :: l) (cds "," :: (w ++ w2)) (ns ++ n2) (x :: ys)
inductive Pa : Nat → List Tr → Ws → List Ws → Ws → Prop
  | nil {h : Nat} : Pa h [] [] [] []
  | cons {lv h : Nat} {t : Tr} {w : Ws} {ns : List Ws} {x : List Nat} {l : List Tr} {w2 : Ws} {n2 : List Ws} {ys : Ws} : Pe lv h t w ns x → Pl h l w2 n2 ys → l.length ≤ 7 → Pa h (t :: l) (w ++ w2) (ns ++ n2) (x :: ys)
inductive Ps : Nat → Tr → Ws → List Ws → List Nat → Prop
  | eval {lv h : Nat} {t : Tr} {w : Ws} {ns : List Ws} {x : List Nat} : Pe lv h t w ns x → Ps (h + 1) (.t [str "eval", t]) w ns x
  | set {lv h : Nat} {t : Tr} {w : Ws} {ns : List Ws} {x a : List Nat} : IsName a → Pe lv h t w ns x → Ps (h + 1) (.t [str "set", .s a, t]) (a :: cds ":=" :: w) ns (a ++ cds " := " ++ x)
  | gf {lv h : Nat} {t : Tr} {w : Ws} {ns : List Ws} {x g : List Nat} : g = cds "give" ∨ g = cds "fail" → Pe lv h t w ns x → Ps (h + 1) (.t [.s g, t]) (g :: w) ns (g ++ cds " " ++ x)
  | whl {lv h : Nat} {t : Tr} {w : Ws} {ns : List Ws} {x : List Nat} {l : List Tr} {w2 : Ws} {n2 : List Ws} {ys : Ws} : Pe lv h t w ns x → Pb h l w2 n2 ys → Ps (h + 1) (.t [str "while", t, .t l]) (cds "while" :: (w ++ cds "do" :: (w2 ++ [cds "end"]))) (ns ++ n2) (spd [cds "while", x, cds "do", jnS (cds "; ") ys, cds "end"])
  | if0 {lv h : Nat} {t : Tr} {w : Ws} {ns : List Ws} {x : List Nat} {l : List Tr} {w2 : Ws} {n2 : List Ws} {ys : Ws} : Pe lv h t w ns x → Pb h l w2 n2 ys → Ps (h + 1) (.t [str "if", t, .t l, .t []]) (cds "if" :: (w ++ cds "then" :: (w2 ++ [cds "end"]))) (ns ++ n2) (spd [cds "if", x, cds "then", jnS (cds "; ") ys, cds "end"])
  | if1 {lv h : Nat} {t : Tr} {w : Ws} {ns : List Ws} {x : List Nat} {l : List Tr} {w2 : Ws} {n2 : List Ws} {ys : Ws} {l3 : List Tr} {w3 : Ws} {n3 : List Ws} {zs : Ws} : Pe lv h t w ns x → Pb h l w2 n2 ys → l3 ≠ [] → Pb h l3 w3 n3 zs → Ps (h + 1) (.t [str "if", t, .t l, .t l3]) (cds "if" :: (w ++ cds "then" :: (w2 ++ cds "else" :: (w3 ++ [cds "end"])))) (ns ++ (n2 ++ n3)) (spd [cds "if", x, cds "then", jnS (cds "; ") ys, cds "else", jnS (cds "; ") zs, cds "end"])
  | try_ {h : Nat} {l : List Tr} {w : Ws} {ns : List Ws} {ys : Ws} {a : List Nat} {l2 : List Tr} {w2 : Ws} {n2 : List Ws} {zs : Ws} : Pb h l w ns ys → IsName a → Pb h l2 w2 n2 zs → Ps (h + 1) (.t [str "try", .t l, .s a, .t l2]) (cds "try" :: (w ++ cds "catch" :: a :: cds "then" :: (w2 ++ [cds "end"]))) (ns ++ n2) (spd [cds "try", jnS (cds "; ") ys, cds "catch", a, cds "then", jnS (cds "; ") zs, cds "end"])
  | keep {h : Nat} {l : List Tr} {w : Ws} {ns : List Ws} {ys : Ws} {l2 : List Tr} {w2 : Ws} {n2 : List Ws} {zs : Ws} : Pb h l w ns ys → Pb h l2 w2 n2 zs → Ps (h + 1) (.t [str "keep", .t l, .t l2]) (cds "keep" :: (w ++ cds "always" :: (w2 ++ [cds "end"]))) (ns ++ n2) (spd [cds "keep", jnS (cds "; ") ys, cds "always", jnS (cds "; ") zs, cds "end"])
inductive Pq : Nat → List Tr → Ws → List Ws → Ws → Prop
  | nil {h : Nat} : Pq h [] [] [] []
  | cons {h : Nat} {t : Tr} {w : Ws} {ns : List Ws} {x : List Nat} {l : List Tr} {w2 : Ws} {n2 : List Ws} {ys : Ws} : Ps h t w ns x → Pq h l w2 n2 ys → Pq h (t :: l) (cds ";" :: (w ++ w2)) (ns ++ n2) (x :: ys)
inductive Pb : Nat → List Tr → Ws → List Ws → Ws → Prop
  | nil {h : Nat} : Pb h [] [] [] []
  | cons {h : Nat} {t : Tr} {w : Ws} {ns : List Ws} {x : List Nat} {l : List Tr} {w2 : Ws} {n2 : List Ws} {ys : Ws} : Ps h t w ns x → Pq h l w2 n2 ys → Pb h (t :: l) (w ++ w2) (ns ++ n2) (x :: ys)
end
/-! ### higher -/
mutual
theorem Pe.up : ∀ {lv h : Nat} {t : Tr} {w : Ws} {ns : List Ws} {x : List Nat}, Pe lv h t w ns x → Pe lv (h + 1) t w ns x
  | _, _, _, _, _, _, .num n => .num n
  | _, _, _, _, _, _, .text n => .text n
  | _, _, _, _, _, _, .word n => .word n
  | _, _, _, _, _, _, .self => .self
  | _, _, _, _, _, _, .new n => .new n
  | _, _, _, _, _, _, .name n => .name n
  | _, _, _, _, _, _, .neg p => .neg (Pp.up p)
  | _, _, _, _, _, _, .not p => .not (Pp.up p)
  | _, _, _, _, _, _, .bin a b p q => .bin a b (Pp.up p) (Pp.up q)
  | _, _, _, _, _, _, .send p n a => .send (Pp.up p) n (Pa.up a)
  | _, _, _, _, _, _, .sup n a => .sup n (Pa.up a)
  | _, _, _, _, _, _, .blk0 b => .blk0 (Pb.up b)
  | _, _, _, _, _, _, .blk a c d b => .blk a c d (Pb.up b)
theorem Pp.up : ∀ {a h : Nat} {t : Tr} {w : Ws} {ns : List Ws} {x : List Nat}, Pp a h t w ns x → Pp a (h + 1) t w ns x
  | _, _, _, _, _, _, .go l p => .go l (Pe.up p)
  | _, _, _, _, _, _, .br l p => .br l (Pe.up p)
theorem Pl.up : ∀ {h : Nat} {l : List Tr} {w : Ws} {ns : List Ws} {ys : Ws}, Pl h l w ns ys → Pl (h + 1) l w ns ys
  | _, _, _, _, _, .nil => .nil
  | _, _, _, _, _, .cons p q => .cons (Pe.up p) (Pl.up q)
theorem Pa.up : ∀ {h : Nat} {l : List Tr} {w : Ws} {ns : List Ws} {ys : Ws}, Pa h l w ns ys → Pa (h + 1) l w ns ys
  | _, _, _, _, _, .nil => .nil
  | _, _, _, _, _, .cons p q n => .cons (Pe.up p) (Pl.up q) n
theorem Ps.up : ∀ {h : Nat} {t : Tr} {w : Ws} {ns : List Ws} {x : List Nat}, Ps h t w ns x → Ps (h + 1) t w ns x
  | _, _, _, _, _, .eval p => .eval (Pe.up p)
  | _, _, _, _, _, .set n p => .set n (Pe.up p)
  | _, _, _, _, _, .gf n p => .gf n (Pe.up p)
  | _, _, _, _, _, .whl p q => .whl (Pe.up p) (Pb.up q)
  | _, _, _, _, _, .if0 p q => .if0 (Pe.up p) (Pb.up q)
  | _, _, _, _, _, .if1 p q n r => .if1 (Pe.up p) (Pb.up q) n (Pb.up r)
  | _, _, _, _, _, .try_ p n q => .try_ (Pb.up p) n (Pb.up q)
  | _, _, _, _, _, .keep p q => .keep (Pb.up p) (Pb.up q)
theorem Pq.up : ∀ {h : Nat} {l : List Tr} {w : Ws} {ns : List Ws} {ys : Ws}, Pq h l w ns ys → Pq (h + 1) l w ns ys
  | _, _, _, _, _, .nil => .nil
  | _, _, _, _, _, .cons p q => .cons (Ps.up p) (Pq.up q)
theorem Pb.up : ∀ {h : Nat} {l : List Tr} {w : Ws} {ns : List Ws} {ys : Ws}, Pb h l w ns ys → Pb (h + 1) l w ns ys
  | _, _, _, _, _, .nil => .nil
  | _, _, _, _, _, .cons p q => .cons (Ps.up p) (Pq.up q)
end
theorem Pe.mono {lv h m : Nat} {t : Tr} {w : Ws} {ns : List Ws} {x : List Nat} (p : Pe lv h t w ns x) (l : h ≤ m) : Pe lv m t w ns x := by
  induction l with
  | refl => exact p
  | step _ ih => exact ih.up
/-! ### levels -/
theorem behN_le {s : List Nat} {l : Nat} (h : behN.lookup s = some l) (n : s ≠ cds ".") : 1 ≤ l ∧ l ≤ 6 := by
  unfold behN at h
  simp only [List.lookup] at h
  repeat' split at h
  all_goals (first | (cases h; done) | (cases h; exact ⟨by decide, by decide⟩) | (rename_i e; exact absurd (eq_of_beq e) n))
theorem Pe.lv {lv h : Nat} {t : Tr} {w : Ws} {ns : List Ws} {x : List Nat} (p : Pe lv h t w ns x) : 1 ≤ lv ∧ lv ≤ 9 := by
  cases p <;> first | exact ⟨by decide, by decide⟩ | skip
  rename_i a b _ _
  have := behN_le b a
  omega
end
section
/-! Each derivation has a printed form. -/
open PySem PySem.Spec PyProof.Rows L2
open TL (numL tl_num numL_digits numL_ne numL_val numL_len numL_lt numL_step)
theorem k_ne : cds "number" ≠ cds "mark" ∧ cds "number" ≠ cds "word" ∧ cds "number" ≠ cds "class" ∧ cds "number" ≠ cds "text" ∧ cds "number" ≠ cds "name" ∧ cds "name" ≠ cds "mark" ∧ cds "name" ≠ cds "word" ∧ cds "name" ≠ cds "class" ∧ cds "name" ≠ cds "text" ∧ cds "class" ≠ cds "mark" ∧ cds "class" ≠ cds "word" ∧ cds "class" ≠ cds "text" ∧ cds "text" ≠ cds "mark" ∧ cds "text" ≠ cds "word" := by decide +kernel
theorem tok_num {a : List Nat} {x : Int} (h : tk a = (cds "number", .int x)) (g : Tok a) : ∃ n : Nat, n ≤ 1000000000 ∧ a = numL n ∧ x = (n : Int) := by
  obtain ⟨n1, n2, n3, n4, n5, _⟩ := k_ne
  obtain ⟨k, v, d⟩ := g
  have e := drawn_tk d
  rw [h] at e
  obtain ⟨e1, e2⟩ := Prod.mk.inj e
  cases d with
  | number hn => exact ⟨_, hn, rfl, V.int.inj e2⟩
  | mark _ => exact absurd e1 n1
  | word _ => exact absurd e1 n2
  | cls _ => exact absurd e1 n3
  | text _ => exact absurd e1 n4
  | name _ => exact absurd e1 n5
theorem tok_name {a : List Nat} (h : isNm a) (g : Tok a) : IsName a := by
  obtain ⟨n1, n2, n3, n4, n5, n6, n7, n8, n9, _⟩ := k_ne
  obtain ⟨k, v, d⟩ := g
  have e := drawn_tk d
  unfold isNm at h
  rw [h] at e
  obtain ⟨e1, e2⟩ := Prod.mk.inj e
  cases d with
  | number hn => exact absurd e1.symm n5
  | mark _ => exact absurd e1 n6
  | word _ => exact absurd e1 n7
  | cls _ => exact absurd e1 n8
  | text _ => exact absurd e1 n9
  | name h => exact h
theorem tok_class {a : List Nat} (h : tk a = (cds "class", T a)) (g : Tok a) : IsClass a := by
  obtain ⟨n1, n2, n3, n4, n5, n6, n7, n8, n9, n10, n11, n12, _⟩ := k_ne
  obtain ⟨k, v, d⟩ := g
  have e := drawn_tk d
  rw [h] at e
  obtain ⟨e1, e2⟩ := Prod.mk.inj e
  cases d with
  | number hn => exact absurd e1.symm n3
  | mark _ => exact absurd e1 n10
  | word _ => exact absurd e1 n11
  | cls h => exact h
  | text _ => exact absurd e1 n12
  | name _ => exact absurd e1.symm n8
theorem tok_text {a b : List Nat} (h : tk a = (cds "text", T b)) (g : Tok a) : IsText b ∧ a = 39 :: (b ++ [39]) := by
  obtain ⟨n1, n2, n3, n4, n5, n6, n7, n8, n9, n10, n11, n12, n13, n14⟩ := k_ne
  obtain ⟨k, v, d⟩ := g
  have e := drawn_tk d
  rw [h] at e
  obtain ⟨e1, e2⟩ := Prod.mk.inj e
  cases d with
  | number hn => exact absurd e1.symm n4
  | mark _ => exact absurd e1 n13
  | word _ => exact absurd e1 n14
  | cls _ => exact absurd e1.symm n12
  | text ht => have := T_inj e2; subst this; exact ⟨ht, rfl⟩
  | name _ => exact absurd e1.symm n9
abbrev Tks (w : Ws) : Prop := ∀ a ∈ w, Tok a
theorem Tks.l {u v : Ws} (h : Tks (u ++ v)) : Tks u := fun a ha => h a (List.mem_append_left _ ha)
theorem Tks.r {u v : Ws} (h : Tks (u ++ v)) : Tks v := fun a ha => h a (List.mem_append_right _ ha)
theorem Tks.hd {a : List Nat} {v : Ws} (h : Tks (a :: v)) : Tok a := h a List.mem_cons_self
theorem Tks.tl {a : List Nat} {v : Ws} (h : Tks (a :: v)) : Tks v := fun b hb => h b (List.mem_cons_of_mem _ hb)
theorem wt_cons' (a : List Nat) (w : Ws) : wt (a :: w) = a.length + 3 + wt w := rfl
/-- in a place that asks for less -/
theorem Pp.le {a b h : Nat} {t : Tr} {w : Ws} {ns : List Ws} {x : List Nat} (p : Pp b h t w ns x) (l : a ≤ b) : ∃ w' x', Pp a h t w' ns x' ∧ wt w' ≤ wt w := by
  cases p with
  | go q p => exact ⟨_, _, .go (Nat.le_trans l q) p, Nat.le_refl _⟩
  | br q p =>
    rename_i lv h w x
    by_cases c : a ≤ lv
    · exact ⟨_, _, .go c p.up, by rw [wt_cons', wt_append]; omega⟩
    · exact ⟨_, _, .br (by omega) p, Nat.le_refl _⟩
theorem Pp.any {a h : Nat} {t : Tr} {w : Ws} {ns : List Ws} {x : List Nat} (p : Pp a h t w ns x) : ∃ lv w' x', Pe lv h t w' ns x' ∧ wt w' ≤ wt w := by
  cases p with
  | go q p => exact ⟨_, _, _, p, Nat.le_refl _⟩
  | br q p => exact ⟨_, _, _, p.up, by rw [wt_cons', wt_append]; omega⟩
def EP (h : Nat) : Prop := ∀ {lv : Nat} {t : Tr} {w : Ws} {ns : List Ws}, Ex lv h t w ns → Tks w → ∃ w' x, Pp lv h t w' ns x ∧ wt w' ≤ wt w
def SP (h : Nat) : Prop := ∀ {t : Tr} {w : Ws} {ns : List Ws}, St h t w ns → Tks w → ∃ w' x, Ps h t w' ns x ∧ wt w' ≤ wt w
theorem EP.pe {h lv : Nat} {t : Tr} {w : Ws} {ns : List Ws} (E : EP h) (e : Ex lv h t w ns) (k : Tks w) : ∃ lv' w' x, Pe lv' h t w' ns x ∧ wt w' ≤ wt w := by
  obtain ⟨w1, x1, p1, l1⟩ := E e k
  obtain ⟨lv2, w2, x2, p2, l2⟩ := p1.any
  exact ⟨lv2, w2, x2, p2, Nat.le_trans l2 l1⟩
theorem al_pr {h : Nat} (E : EP h) : ∀ {l : List Tr} {w : Ws} {ns : List Ws}, Al h l w ns → Tks w → ∃ w' ys, Pl h l w' ns ys ∧ wt w' ≤ wt w
  | _, _, _, .nil, _ => ⟨_, _, .nil, Nat.le_refl _⟩
  | _, _, _, .cons _ e r, k => by
    obtain ⟨lv, w1, x1, p1, l1⟩ := E.pe e k.tl.l
    obtain ⟨w2, y2, p2, l2⟩ := al_pr E r k.tl.r
    exact ⟨_, _, .cons p1 p2, by rw [wt_cons', wt_cons', wt_append, wt_append]; omega⟩
theorem ar_pr {h : Nat} (E : EP h) {l : List Tr} {w : Ws} {ns : List Ws} (a : Ar h l w ns) (k : Tks w) : ∃ w' ys, Pa h l w' ns ys ∧ wt w' ≤ wt w := by
  cases a with
  | nil => exact ⟨_, _, .nil, Nat.le_refl _⟩
  | cons _ e r n =>
    obtain ⟨lv, w1, x1, p1, l1⟩ := E.pe e k.l
    obtain ⟨w2, y2, p2, l2⟩ := al_pr E r k.r
    exact ⟨_, _, .cons p1 p2 n, by rw [wt_append, wt_append]; omega⟩
theorem bl_pr {h : Nat} (S : SP h) : ∀ {l : List Tr} {w : Ws} {ns : List Ws}, Bl h l w ns → Tks w → ∃ w' ys, Pq h l w' ns ys ∧ wt w' ≤ wt w
  | _, _, _, .nil, _ => ⟨_, _, .nil, Nat.le_refl _⟩
  | _, _, _, .cons e r, k => by
    obtain ⟨w1, x1, p1, l1⟩ := S e k.tl.l
    obtain ⟨w2, y2, p2, l2⟩ := bl_pr S r k.tl.r
    exact ⟨_, _, .cons p1 p2, by rw [wt_cons', wt_cons', wt_append, wt_append]; omega⟩
theorem bd_pr {h : Nat} (S : SP h) {l : List Tr} {w : Ws} {ns : List Ws} (a : Bd h l w ns) (k : Tks w) : ∃ w' ys, Pb h l w' ns ys ∧ wt w' ≤ wt w := by
  cases a with
  | nil => exact ⟨_, _, .nil, Nat.le_refl _⟩
  | cons e r =>
    obtain ⟨w1, x1, p1, l1⟩ := S e k.l
    obtain ⟨w2, y2, p2, l2⟩ := bl_pr S r k.r
    exact ⟨_, _, .cons p1 p2, by rw [wt_append, wt_append]; omega⟩
theorem mem_commas {a : List Nat} : ∀ {l : Ws}, a ∈ l → a ∈ commas l
  | b :: l, h => by
    rw [commas_cons]
    rcases List.mem_cons.mp h with rfl | h
    · exact List.mem_cons_self
    · exact List.mem_cons_of_mem _ (List.mem_flatMap.mpr ⟨a, h, List.mem_cons_of_mem _ List.mem_cons_self⟩)
theorem pr_step {h : Nat} (E : EP h) (S : SP h) : EP (h + 1) ∧ SP (h + 1) := by
  constructor
  · intro lv t w ns e k
    cases e with
    | num e => obtain ⟨n, hn, rfl, rfl⟩ := tok_num e k.hd; exact ⟨_, _, .go (Nat.le_refl _) (.num hn), Nat.le_refl _⟩
    | text e => obtain ⟨ht, rfl⟩ := tok_text e k.hd; exact ⟨_, _, .go (Nat.le_refl _) (.text ht), Nat.le_refl _⟩
    | word e => exact ⟨_, _, .go (Nat.le_refl _) (.word e), Nat.le_refl _⟩
    | self => exact ⟨_, _, .go (Nat.le_refl _) .self, Nat.le_refl _⟩
    | new e => exact ⟨_, _, .go (Nat.le_refl _) (.new (tok_class e k.tl.hd)), Nat.le_refl _⟩
    | name e => exact ⟨_, _, .go (Nat.le_refl _) (.name (tok_name e k.hd)), Nat.le_refl _⟩
    | par l e =>
      obtain ⟨w1, x1, p1, l1⟩ := E e k.tl.l
      cases p1 with
      | go q p =>
        rename_i lv0
        by_cases c : 9 ≤ lv0
        · exact ⟨_, _, .go c p.up, by rw [wt_cons', wt_append]; omega⟩
        · exact ⟨_, _, .br (by omega) p, by rw [wt_cons', wt_cons', wt_append, wt_append]; omega⟩
      | br q p =>
        have := p.lv
        rename_i lv0 h w1 x1
        by_cases c : 9 ≤ lv0
        · exact ⟨_, _, .go c p.up.up, by rw [wt_cons', wt_append] at l1 ⊢; omega⟩
        · exact ⟨_, _, .br (by omega) p.up, by simp only [wt_append, wt_cons'] at l1 ⊢; omega⟩
    | neg l e =>
      obtain ⟨w1, x1, p1, l1⟩ := E e k.tl
      obtain ⟨w2, x2, p2, l2⟩ := p1.le l
      exact ⟨_, _, .go (Nat.le_refl _) (.neg p2), by rw [wt_cons', wt_cons']; omega⟩
    | not l e =>
      obtain ⟨w1, x1, p1, l1⟩ := E e k.tl
      obtain ⟨w2, x2, p2, l2⟩ := p1.le l
      exact ⟨_, _, .go (Nat.le_refl _) (.not p2), by rw [wt_cons', wt_cons']; omega⟩
    | bin a b l e l' e' =>
      obtain ⟨w1, x1, p1, l1⟩ := E e k.l
      obtain ⟨w2, x2, p2, l2⟩ := p1.le l
      obtain ⟨w3, x3, p3, l3⟩ := E e' k.r.tl
      obtain ⟨w4, x4, p4, l4⟩ := p3.le l'
      exact ⟨_, _, .go (Nat.le_refl _) (.bin a b p2 p4), by rw [wt_append, wt_append, wt_cons', wt_cons']; omega⟩
    | send l e n a =>
      obtain ⟨w1, x1, p1, l1⟩ := E e k.l
      obtain ⟨w2, x2, p2, l2⟩ := p1.le l
      obtain ⟨w3, ys, p3, l3⟩ := ar_pr E a k.r.tl.tl.tl.l
      exact ⟨_, _, .go (Nat.le_refl _) (.send p2 (tok_name n k.r.tl.hd) p3), by simp only [wt_append, wt_cons']; omega⟩
    | sup n a =>
      obtain ⟨w3, ys, p3, l3⟩ := ar_pr E a k.tl.tl.tl.tl.l
      exact ⟨_, _, .go (Nat.le_refl _) (.sup (tok_name n k.tl.tl.hd) p3), by simp only [wt_append, wt_cons']; omega⟩
    | blk0 b =>
      obtain ⟨w3, ys, p3, l3⟩ := bd_pr S b k.tl.l
      exact ⟨_, _, .go (Nat.le_refl _) (.blk0 p3), by simp only [wt_append, wt_cons']; omega⟩
    | blk h0 h4 hn b =>
      obtain ⟨w3, ys, p3, l3⟩ := bd_pr S b k.tl.r.tl.l
      refine ⟨_, _, .go (Nat.le_refl _) (.blk h0 h4 (fun x hx => tok_name (hn x hx) (k.tl.l x ?_)) p3), by simp only [wt_append, wt_cons']; omega⟩
      exact mem_commas hx
  · intro t w ns e k
    cases e with
    | eval _ e => obtain ⟨lv, w1, x1, p1, l1⟩ := E.pe e k; exact ⟨_, _, .eval p1, l1⟩
    | set n _ e => obtain ⟨lv, w1, x1, p1, l1⟩ := E.pe e k.tl.tl; exact ⟨_, _, .set (tok_name n k.hd) p1, by simp only [wt_cons']; omega⟩
    | gf g _ e => obtain ⟨lv, w1, x1, p1, l1⟩ := E.pe e k.tl; exact ⟨_, _, .gf g p1, by simp only [wt_cons']; omega⟩
    | whl _ e b =>
      obtain ⟨lv, w1, x1, p1, l1⟩ := E.pe e k.tl.l
      obtain ⟨w3, ys, p3, l3⟩ := bd_pr S b k.tl.r.tl.l
      exact ⟨_, _, .whl p1 p3, by simp only [wt_append, wt_cons']; omega⟩
    | if0 _ e b =>
      obtain ⟨lv, w1, x1, p1, l1⟩ := E.pe e k.tl.l
      obtain ⟨w3, ys, p3, l3⟩ := bd_pr S b k.tl.r.tl.l
      exact ⟨_, _, .if0 p1 p3, by simp only [wt_append, wt_cons']; omega⟩
    | if1 _ e b c =>
      obtain ⟨lv, w1, x1, p1, l1⟩ := E.pe e k.tl.l
      obtain ⟨w3, ys, p3, l3⟩ := bd_pr S b k.tl.r.tl.l
      cases c with
      | nil => exact ⟨_, _, by rw [List.append_nil]; exact .if0 p1 p3, by simp only [wt_append, wt_cons']; omega⟩
      | cons s r =>
        obtain ⟨w4, zs, p4, l4⟩ := bd_pr S (.cons s r) k.tl.r.tl.r.tl.l
        exact ⟨_, _, .if1 p1 p3 (List.cons_ne_nil _ _) p4, by simp only [wt_append, wt_cons'] at l4 ⊢; omega⟩
    | try_ b n c =>
      obtain ⟨w3, ys, p3, l3⟩ := bd_pr S b k.tl.l
      obtain ⟨w4, zs, p4, l4⟩ := bd_pr S c k.tl.r.tl.tl.tl.l
      exact ⟨_, _, .try_ p3 (tok_name n k.tl.r.tl.hd) p4, by simp only [wt_append, wt_cons'] at l4 ⊢; omega⟩
    | keep b c =>
      obtain ⟨w3, ys, p3, l3⟩ := bd_pr S b k.tl.l
      obtain ⟨w4, zs, p4, l4⟩ := bd_pr S c k.tl.r.tl.l
      exact ⟨_, _, .keep p3 p4, by simp only [wt_append, wt_cons'] at l4 ⊢; omega⟩
theorem ex_zero {lv : Nat} {t : Tr} {w : Ws} {ns : List Ws} : ¬ Ex lv 0 t w ns := fun e => nomatch e
theorem all_pr : ∀ h, EP h ∧ SP h
  | 0 => by
    constructor
    · intro _ _ _ _ e _; cases e
    · intro _ _ _ e _; cases e
  | h + 1 => pr_step (all_pr h).1 (all_pr h).2
end
section
/-! A printed text is no longer than what is written of its tokens. -/
open PySem PySem.Spec PyProof.Rows L2
open TL (numL tl_num numL_digits numL_ne numL_val numL_len numL_lt numL_step)
/-- all signs of these texts -/
def tot (l : Ws) : Nat := (l.map List.length).sum
theorem tot_cons (a : List Nat) (l : Ws) : tot (a :: l) = a.length + tot l := rfl
theorem tot_nil : tot [] = 0 := rfl
theorem wt_nil : wt [] = 0 := rfl
theorem jnS_len {s : List Nat} : ∀ {l : Ws}, (jnS s l).length + (if l = [] then 0 else s.length) = tot l + l.length * s.length
  | [] => by show (0 : Nat) + 0 = 0 + 0 * s.length; omega
  | a :: l => by
    have key : ∀ l : Ws, (l.flatMap fun b => s ++ b).length = tot l + l.length * s.length := fun l => by
      induction l with
      | nil => show 0 = 0 + 0 * s.length; omega
      | cons b l ih => rw [List.flatMap_cons, List.length_append, List.length_append, ih, tot_cons, List.length_cons, Nat.succ_mul]; omega
    show (a ++ l.flatMap fun b => s ++ b).length + _ = _
    rw [List.length_append, key, tot_cons, List.length_cons, Nat.succ_mul, if_neg (List.cons_ne_nil _ _)]
    omega
theorem jn_le2 (s : List Nat) (l : Ws) : (jnS s l).length ≤ tot l + l.length * s.length := by have := jnS_len (s := s) (l := l); omega
theorem jn_le1 {s : List Nat} {l : Ws} {m : Nat} (h : tot l + l.length * s.length ≤ m + s.length) : (jnS s l).length ≤ m := by
  have := jnS_len (s := s) (l := l)
  by_cases c : l = []
  · subst c; show 0 ≤ m; omega
  · rw [if_neg c] at this; omega
theorem tot_filter (p : List Nat → Bool) : ∀ l : Ws, tot (l.filter p) + (l.filter p).length ≤ tot l + l.length
  | [] => Nat.le_refl _
  | a :: l => by
    have := tot_filter p l
    rw [List.filter_cons]
    split
    · rw [tot_cons, tot_cons, List.length_cons, List.length_cons]; omega
    · rw [tot_cons, List.length_cons]; omega
theorem spd_len (l : Ws) : (spd l).length ≤ tot l + l.length := by
  have h1 := jn_le2 [32] (l.filter fun a => decide (a ≠ []))
  have h2 := tot_filter (fun a => decide (a ≠ [])) l
  unfold spd
  have e : ([32] : List Nat).length = 1 := rfl
  rw [e] at h1
  omega
theorem ln_0 : (cds "(").length = 1 := by decide +kernel
theorem ln_1 : (cds ")").length = 1 := by decide +kernel
theorem ln_2 : (cds "{").length = 1 := by decide +kernel
theorem ln_3 : (cds "}").length = 1 := by decide +kernel
theorem ln_4 : (cds "|").length = 1 := by decide +kernel
theorem ln_5 : (cds ",").length = 1 := by decide +kernel
theorem ln_6 : (cds ";").length = 1 := by decide +kernel
theorem ln_7 : (cds ".").length = 1 := by decide +kernel
theorem ln_8 : (cds "-").length = 1 := by decide +kernel
theorem ln_9 : (cds "not").length = 3 := by decide +kernel
theorem ln_10 : (cds "not ").length = 4 := by decide +kernel
theorem ln_11 : (cds "new").length = 3 := by decide +kernel
theorem ln_12 : (cds "new ").length = 4 := by decide +kernel
theorem ln_13 : (cds "self").length = 4 := by decide +kernel
theorem ln_14 : (cds "super").length = 5 := by decide +kernel
theorem ln_15 : (cds "'").length = 1 := by decide +kernel
theorem ln_16 : (cds " ").length = 1 := by decide +kernel
theorem ln_17 : (cds " | ").length = 3 := by decide +kernel
theorem ln_18 : (cds "; ").length = 2 := by decide +kernel
theorem ln_19 : (cds ", ").length = 2 := by decide +kernel
theorem ln_20 : (cds " := ").length = 4 := by decide +kernel
theorem ln_21 : (cds ":=").length = 2 := by decide +kernel
theorem ln_22 : (cds "while").length = 5 := by decide +kernel
theorem ln_23 : (cds "do").length = 2 := by decide +kernel
theorem ln_24 : (cds "end").length = 3 := by decide +kernel
theorem ln_25 : (cds "if").length = 2 := by decide +kernel
theorem ln_26 : (cds "then").length = 4 := by decide +kernel
theorem ln_27 : (cds "else").length = 4 := by decide +kernel
theorem ln_28 : (cds "try").length = 3 := by decide +kernel
theorem ln_29 : (cds "catch").length = 5 := by decide +kernel
theorem ln_30 : (cds "keep").length = 4 := by decide +kernel
theorem ln_31 : (cds "always").length = 6 := by decide +kernel
theorem ln_32 : (cds "give").length = 4 := by decide +kernel
theorem ln_33 : (cds "fail").length = 4 := by decide +kernel
theorem ln_34 : (cds "method").length = 6 := by decide +kernel
theorem ln_35 : (cds "var").length = 3 := by decide +kernel
local macro_rules | `(tactic| walk_at "ln") => `(tactic| (simp only [wt_append, wt_cons', wt_nil, tot_cons, tot_nil, List.length_append, List.length_cons, List.length_nil, brk, ln_0, ln_1, ln_2, ln_3, ln_4, ln_5, ln_6, ln_7, ln_8, ln_9, ln_10, ln_11, ln_12, ln_13, ln_14, ln_15, ln_16, ln_17, ln_18, ln_19, ln_20, ln_21, ln_22, ln_23, ln_24, ln_25, ln_26, ln_27, ln_28, ln_29, ln_30, ln_31, ln_32, ln_33, ln_34, ln_35] at * <;> omega))
theorem wt_commas_le : ∀ ps : Ws, (jn ps).length ≤ wt (commas ps)
  | [] => Nat.zero_le _
  | [a] => by show (a ++ []).length ≤ a.length + 3 + 0; rw [List.append_nil]; omega
  | a :: b :: l => by
    have h := wt_commas_le (b :: l)
    show (a ++ (b :: l).flatMap fun b => cds ", " ++ b).length ≤ a.length + 3 + ((cds ",").length + 3 + wt (commas (b :: l)))
    have e : (a ++ (b :: l).flatMap fun b => cds ", " ++ b) = a ++ (cds ", " ++ jn (b :: l)) := by
      rw [List.flatMap_cons, List.append_assoc]; rfl
    rw [e]
    walk_at "ln"
mutual
theorem Pe.len : ∀ {lv h : Nat} {t : Tr} {w : Ws} {ns : List Ws} {x : List Nat}, Pe lv h t w ns x → x.length + 3 ≤ wt w
  | _, _, _, _, _, _, .num n => by walk_at "ln"
  | _, _, _, _, _, _, .text n => by walk_at "ln"
  | _, _, _, _, _, _, .word n => by walk_at "ln"
  | _, _, _, _, _, _, .self => by walk_at "ln"
  | _, _, _, _, _, _, .new n => by walk_at "ln"
  | _, _, _, _, _, _, .name n => by walk_at "ln"
  | _, _, _, _, _, _, .neg p => by have h := Pp.len p; walk_at "ln"
  | _, _, _, _, _, _, .not p => by have h := Pp.len p; walk_at "ln"
  | _, _, _, _, _, _, .bin a b p q => by have h := Pp.len p; have h2 := Pp.len q; clear a b p q; walk_at "ln"
  | _, _, _, _, _, _, .send (ys := ys) p n a => by have h := Pp.len p; have h2 := Pa.len a; have h3 := jn_le1 (s := cds ", ") (l := ys) (m := wt _) (by rw [show (cds ", ").length = 2 from by decide +kernel]; omega); rw [jnS_jn] at h3; clear h2 p n a; walk_at "ln"
  | _, _, _, _, _, _, .sup (ys := ys) n a => by have h2 := Pa.len a; have h3 := jn_le1 (s := cds ", ") (l := ys) (m := wt _) (by rw [show (cds ", ").length = 2 from by decide +kernel]; omega); rw [jnS_jn] at h3; clear h2 n a; walk_at "ln"
  | _, _, _, _, _, _, .blk0 (ys := ys) b => by have h2 := Pb.len b; have h3 := jn_le1 (s := cds "; ") (l := ys) (m := wt _) (by rw [show (cds "; ").length = 2 from by decide +kernel]; omega); clear h2 b; walk_at "ln"
  | _, _, _, _, _, _, .blk (ps := ps) (ys := ys) a c d b => by have h2 := Pb.len b; have h4 := wt_commas_le ps; have h3 := jn_le1 (s := cds "; ") (l := ys) (m := wt _) (by rw [show (cds "; ").length = 2 from by decide +kernel]; omega); clear h2 a b c d; walk_at "ln"
theorem Pp.len : ∀ {a h : Nat} {t : Tr} {w : Ws} {ns : List Ws} {x : List Nat}, Pp a h t w ns x → x.length + 3 ≤ wt w
  | _, _, _, _, _, _, .go l p => Pe.len p
  | _, _, _, _, _, _, .br l p => by have h := Pe.len p; clear p; walk_at "ln"
theorem Pl.len : ∀ {h : Nat} {l : List Tr} {w : Ws} {ns : List Ws} {ys : Ws}, Pl h l w ns ys → tot ys + ys.length * 2 ≤ wt w
  | _, _, _, _, _, .nil => Nat.le_refl _
  | _, _, _, _, _, .cons p q => by have h := Pe.len p; have h2 := Pl.len q; clear p q; walk_at "ln"
theorem Pa.len : ∀ {h : Nat} {l : List Tr} {w : Ws} {ns : List Ws} {ys : Ws}, Pa h l w ns ys → tot ys + ys.length * 2 ≤ wt w + 2
  | _, _, _, _, _, .nil => by walk_at "ln"
  | _, _, _, _, _, .cons p q n => by have h := Pe.len p; have h2 := Pl.len q; clear p q; walk_at "ln"
theorem Ps.len : ∀ {h : Nat} {t : Tr} {w : Ws} {ns : List Ws} {x : List Nat}, Ps h t w ns x → x.length + 3 ≤ wt w
  | _, _, _, _, _, .eval p => Pe.len p
  | _, _, _, _, _, .set n p => by have h := Pe.len p; clear p n; walk_at "ln"
  | _, _, _, _, _, .gf n p => by have h := Pe.len p; clear p; rcases n with rfl | rfl <;> walk_at "ln"
  | _, _, _, _, _, .whl (x := x) (ys := ys) p q => by
    have h := Pe.len p; have h2 := Pb.len q; have h3 := jn_le1 (s := cds "; ") (l := ys) (m := wt _) (by rw [show (cds "; ").length = 2 from by decide +kernel]; omega)
    have h4 := spd_len [cds "while", x, cds "do", jnS (cds "; ") ys, cds "end"]; clear h2 p q; walk_at "ln"
  | _, _, _, _, _, .if0 (x := x) (ys := ys) p q => by
    have h := Pe.len p; have h2 := Pb.len q; have h3 := jn_le1 (s := cds "; ") (l := ys) (m := wt _) (by rw [show (cds "; ").length = 2 from by decide +kernel]; omega)
    have h4 := spd_len [cds "if", x, cds "then", jnS (cds "; ") ys, cds "end"]; clear h2 p q; walk_at "ln"
  | _, _, _, _, _, .if1 (x := x) (ys := ys) (zs := zs) p q n r => by
    have h := Pe.len p; have h2 := Pb.len q; have h3 := jn_le1 (s := cds "; ") (l := ys) (m := wt _) (by rw [show (cds "; ").length = 2 from by decide +kernel]; omega)
    have h5 := Pb.len r; have h6 := jn_le1 (s := cds "; ") (l := zs) (m := wt _) (by rw [show (cds "; ").length = 2 from by decide +kernel]; omega)
    have h4 := spd_len [cds "if", x, cds "then", jnS (cds "; ") ys, cds "else", jnS (cds "; ") zs, cds "end"]; clear h2 h5 p q r n; walk_at "ln"
  | _, _, _, _, _, .try_ (ys := ys) (a := a) (zs := zs) p n q => by
    have h2 := Pb.len p; have h3 := jn_le1 (s := cds "; ") (l := ys) (m := wt _) (by rw [show (cds "; ").length = 2 from by decide +kernel]; omega)
    have h5 := Pb.len q; have h6 := jn_le1 (s := cds "; ") (l := zs) (m := wt _) (by rw [show (cds "; ").length = 2 from by decide +kernel]; omega)
    have h4 := spd_len [cds "try", jnS (cds "; ") ys, cds "catch", a, cds "then", jnS (cds "; ") zs, cds "end"]; clear h2 h5 p n q; walk_at "ln"
  | _, _, _, _, _, .keep (ys := ys) (zs := zs) p q => by
    have h2 := Pb.len p; have h3 := jn_le1 (s := cds "; ") (l := ys) (m := wt _) (by rw [show (cds "; ").length = 2 from by decide +kernel]; omega)
    have h5 := Pb.len q; have h6 := jn_le1 (s := cds "; ") (l := zs) (m := wt _) (by rw [show (cds "; ").length = 2 from by decide +kernel]; omega)
    have h4 := spd_len [cds "keep", jnS (cds "; ") ys, cds "always", jnS (cds "; ") zs, cds "end"]; clear h2 h5 p q; walk_at "ln"
theorem Pq.len : ∀ {h : Nat} {l : List Tr} {w : Ws} {ns : List Ws} {ys : Ws}, Pq h l w ns ys → tot ys + ys.length * 2 ≤ wt w
  | _, _, _, _, _, .nil => Nat.le_refl _
  | _, _, _, _, _, .cons p q => by have h := Ps.len p; have h2 := Pq.len q; clear p q; walk_at "ln"
theorem Pb.len : ∀ {h : Nat} {l : List Tr} {w : Ws} {ns : List Ws} {ys : Ws}, Pb h l w ns ys → tot ys + ys.length * 2 ≤ wt w + 2
  | _, _, _, _, _, .nil => by walk_at "ln"
  | _, _, _, _, _, .cons p q => by have h := Ps.len p; have h2 := Pq.len q; clear p q; walk_at "ln"
end
theorem Pa.txt {h : Nat} {l : List Tr} {w : Ws} {ns : List Ws} {ys : Ws} (p : Pa h l w ns ys) : (jn ys).length ≤ wt w := by
  have h2 := p.len
  rw [← jnS_jn]
  exact jn_le1 (by rw [show (cds ", ").length = 2 from by decide +kernel]; omega)
theorem Pb.txt {h : Nat} {l : List Tr} {w : Ws} {ns : List Ws} {ys : Ws} (p : Pb h l w ns ys) : (jnS (cds "; ") ys).length ≤ wt w := by
  have h2 := p.len
  exact jn_le1 (by rw [show (cds "; ").length = 2 from by decide +kernel]; omega)
end
section
/-! The parts of a printed list. -/
open PySem PySem.Spec PyProof.Rows L2
theorem Pl.get : ∀ {h : Nat} {l : List Tr} {w : Ws} {ns : List Ws} {ys : Ws}, Pl h l w ns ys → l.length = ys.length ∧ ∀ (i : Nat) (t : Tr), l[i]? = some t → ∃ x lv w' ns', ys[i]? = some x ∧ Pe lv h t w' ns' x ∧ wt w' ≤ wt w
  | _, _, _, _, _, .nil => ⟨rfl, fun i t e => by simp at e⟩
  | _, _, _, _, _, .cons p q => by
    obtain ⟨e, g⟩ := Pl.get q
    refine ⟨by rw [List.length_cons, List.length_cons, e], fun i t hi => ?_⟩
    cases i with
    | zero => cases hi; exact ⟨_, _, _, _, rfl, p, by rw [wt_cons', wt_append]; omega⟩
    | succ i =>
      obtain ⟨x, lv, w', ns', h1, h2, h3⟩ := g i t (by simpa using hi)
      exact ⟨x, lv, w', ns', by simpa using h1, h2, by rw [wt_cons', wt_append]; omega⟩
theorem Pa.get {h : Nat} {l : List Tr} {w : Ws} {ns : List Ws} {ys : Ws} (a : Pa h l w ns ys) : l.length = ys.length ∧ ∀ (i : Nat) (t : Tr), l[i]? = some t → ∃ x lv w' ns', ys[i]? = some x ∧ Pe lv h t w' ns' x ∧ wt w' ≤ wt w := by
  cases a with
  | nil => exact ⟨rfl, fun i t e => by simp at e⟩
  | cons p q _ =>
    obtain ⟨e, g⟩ := Pl.get q
    refine ⟨by rw [List.length_cons, List.length_cons, e], fun i t hi => ?_⟩
    cases i with
    | zero => cases hi; exact ⟨_, _, _, _, rfl, p, by rw [wt_append]; omega⟩
    | succ i =>
      obtain ⟨x, lv, w', ns', h1, h2, h3⟩ := g i t (by simpa using hi)
      exact ⟨x, lv, w', ns', by simpa using h1, h2, by rw [wt_append]; omega⟩
theorem Pq.get : ∀ {h : Nat} {l : List Tr} {w : Ws} {ns : List Ws} {ys : Ws}, Pq h l w ns ys → l.length = ys.length ∧ ∀ (i : Nat) (t : Tr), l[i]? = some t → ∃ x w' ns', ys[i]? = some x ∧ Ps h t w' ns' x ∧ wt w' ≤ wt w
  | _, _, _, _, _, .nil => ⟨rfl, fun i t e => by simp at e⟩
  | _, _, _, _, _, .cons p q => by
    obtain ⟨e, g⟩ := Pq.get q
    refine ⟨by rw [List.length_cons, List.length_cons, e], fun i t hi => ?_⟩
    cases i with
    | zero => cases hi; exact ⟨_, _, _, rfl, p, by rw [wt_cons', wt_append]; omega⟩
    | succ i =>
      obtain ⟨x, w', ns', h1, h2, h3⟩ := g i t (by simpa using hi)
      exact ⟨x, w', ns', by simpa using h1, h2, by rw [wt_cons', wt_append]; omega⟩
theorem Pb.get {h : Nat} {l : List Tr} {w : Ws} {ns : List Ws} {ys : Ws} (a : Pb h l w ns ys) : l.length = ys.length ∧ ∀ (i : Nat) (t : Tr), l[i]? = some t → ∃ x w' ns', ys[i]? = some x ∧ Ps h t w' ns' x ∧ wt w' ≤ wt w := by
  cases a with
  | nil => exact ⟨rfl, fun i t e => by simp at e⟩
  | cons p q =>
    obtain ⟨e, g⟩ := Pq.get q
    refine ⟨by rw [List.length_cons, List.length_cons, e], fun i t hi => ?_⟩
    cases i with
    | zero => cases hi; exact ⟨_, _, _, rfl, p, by rw [wt_append]; omega⟩
    | succ i =>
      obtain ⟨x, w', ns', h1, h2, h3⟩ := g i t (by simpa using hi)
      exact ⟨x, w', ns', by simpa using h1, h2, by rw [wt_append]; omega⟩
/-- the printed form of a method -/
def pM (a : List Nat) (p vv : Ws) (ys : Ws) : List Nat := spd ([cds "method", a ++ brk (jn p)] ++ (if vv = [] then [] else [cds "var", jn vv ++ cds ";"]) ++ [jnS (cds "; ") ys, cds "end"])
theorem lvA_not : aheadN.lookup (cds "not") = some 3 := by decide +kernel
theorem lvA_neg : aheadN.lookup (cds "-") = some 7 := by decide +kernel
theorem lvB_dot : behN.lookup (cds ".") = some 8 := by decide +kernel
end
section
/-! How many instructions and blocks a part comes to. -/
open PySem PySem.Spec PyProof.Rows L2
/-- at most so many more -/
def Lm (S S' : CS) (a b : Nat) : Prop := S.1.length ≤ S'.1.length ∧ S'.1.length ≤ S.1.length + a ∧ S.2.length ≤ S'.2.length ∧ S'.2.length ≤ S.2.length + b
section
variable {S S1 S2 : CS} {a b c d k : Nat} {i : Tr}
theorem Lm.refl : Lm S S 0 0 := ⟨Nat.le_refl _, Nat.le_refl _, Nat.le_refl _, Nat.le_refl _⟩
theorem Lm.trans (h : Lm S S1 a b) (g : Lm S1 S2 c d) : Lm S S2 (a + c) (b + d) := by
  obtain ⟨h1, h2, h3, h4⟩ := h
  obtain ⟨g1, g2, g3, g4⟩ := g
  exact ⟨by omega, by omega, by omega, by omega⟩
theorem Lm.weak (h : Lm S S1 a b) (h1 : a ≤ c) (h2 : b ≤ d) : Lm S S1 c d := by
  obtain ⟨h1, h2, h3, h4⟩ := h
  exact ⟨by omega, by omega, by omega, by omega⟩
theorem Lm.put : Lm S (cput i S) 1 0 := by
  refine ⟨?_, ?_, Nat.le_refl _, Nat.le_refl _⟩
  · show _ ≤ (S.1 ++ [i]).length; rw [List.length_append]; omega
  · show (S.1 ++ [i]).length ≤ _; rw [List.length_append, List.length_singleton]; omega
theorem Lm.led : Lm S (cled k S) 0 0 := by
  refine ⟨?_, ?_, Nat.le_refl _, Nat.le_refl _⟩ <;> (show _ ≤ _; unfold cled; rw [List.length_set]; omega)
theorem Lm.leds : ∀ (l : List Nat) (S : CS), Lm S (l.foldl (fun S k => cled k S) S) 0 0
  | [], _ => .refl
  | k :: l, S => (Lm.led (k := k)).trans (Lm.leds l (cled k S))
theorem Lm.truth {l : List Nat} : Lm S (ctruth l S) 3 0 := ((Lm.put.trans Lm.put).trans ((Lm.leds l _).trans (Lm.put.trans Lm.led)))
end
def Ln (c : Tr → CS → CS) (t : Tr) (n : Nat) : Prop := ∀ S, Lm S (c t S) (10 * n) n
/-- an expression: some fewer -/
def Le (c : Tr → CS → CS) (t : Tr) (n : Nat) : Prop := ∀ S, Lm S (c t S) (10 * n - 5) n
theorem w_one {w : Ws} {m : Nat} (h : m + 3 ≤ wt w) : 1 ≤ w.length := by
  cases w with
  | nil => rw [wt_nil] at h; omega
  | cons a w => exact Nat.succ_pos _
def Lns (c : Tr → CS → CS) (l : List Tr) (n : Nat) : Prop := ∀ S, Lm S (cfold c l S) (10 * n) n
section
variable {sl : Ws} {ow : List Nat}
mutual
theorem Pe.ln : ∀ {lv h : Nat} {t : Tr} {w : Ws} {ns : List Ws} {x : List Nat}, Pe lv h t w ns x → ∀ F sc, h ≤ F → Le (cX sl ow F sc) t w.length
  | _, _, _, _, _, _, .num n, 0, sc, hF => by omega
  | _, _, _, _, _, _, .num n, F + 1, sc, hF => fun S => by show Lm S (cKd (cX sl ow F) sl sc ow (cds "plain") _ S) _ _; rw [cd_plain]; exact Lm.put.weak (by simp only [List.length_cons, List.length_nil]; omega) (Nat.zero_le _)
  | _, _, _, _, _, _, .text n, 0, sc, hF => by omega
  | _, _, _, _, _, _, .text n, F + 1, sc, hF => fun S => by show Lm S (cKd (cX sl ow F) sl sc ow (cds "plain") _ S) _ _; rw [cd_plain]; exact Lm.put.weak (by simp only [List.length_cons, List.length_nil]; omega) (Nat.zero_le _)
  | _, _, _, _, _, _, .word n, 0, sc, hF => by omega
  | _, _, _, _, _, _, .word n, F + 1, sc, hF => fun S => by show Lm S (cKd (cX sl ow F) sl sc ow (cds "plain") _ S) _ _; rw [cd_plain]; exact Lm.put.weak (by simp only [List.length_cons, List.length_nil]; omega) (Nat.zero_le _)
  | _, _, _, _, _, _, .self, 0, sc, hF => by omega
  | _, _, _, _, _, _, .self, F + 1, sc, hF => fun S => by show Lm S (cKd (cX sl ow F) sl sc ow (cds "self") _ S) _ _; rw [cd_self]; exact Lm.put.weak (by simp only [List.length_cons, List.length_nil]; omega) (Nat.zero_le _)
  | _, _, _, _, _, _, .new n, 0, sc, hF => by omega
  | _, _, _, _, _, _, .new n, F + 1, sc, hF => fun S => by show Lm S (cKd (cX sl ow F) sl sc ow (cds "new") _ S) _ _; rw [cd_new]; exact Lm.put.weak (by simp only [List.length_cons, List.length_nil]; omega) (Nat.zero_le _)
  | _, _, _, _, _, _, .name n, 0, sc, hF => by omega
  | _, _, _, _, _, _, .name n, F + 1, sc, hF => fun S => by show Lm S (cKd (cX sl ow F) sl sc ow (cds "name") _ S) _ _; rw [cd_name]; exact Lm.put.weak (by simp only [List.length_cons, List.length_nil]; omega) (Nat.zero_le _)
  | _, _, _, _, _, _, .neg p, 0, sc, hF => by omega
  | _, _, _, _, _, _, .neg p, F + 1, sc, hF => fun S => by
    have h1 := Pp.ln p F sc (by omega) S
    have u1 := w_one p.len
    show Lm S (cKd (cX sl ow F) sl sc ow (cds "neg") _ S) _ _
    rw [cd_neg]; exact (h1.trans Lm.put).weak (by simp only [List.length_cons]; omega) (by simp only [List.length_cons]; omega)
  | _, _, _, _, _, _, .not p, 0, sc, hF => by omega
  | _, _, _, _, _, _, .not p, F + 1, sc, hF => fun S => by
    have h1 := Pp.ln p F sc (by omega) S
    have u1 := w_one p.len
    show Lm S (cKd (cX sl ow F) sl sc ow (cds "not") _ S) _ _
    rw [cd_not]; exact (h1.trans Lm.put).weak (by simp only [List.length_cons]; omega) (by simp only [List.length_cons]; omega)
  | _, _, _, _, _, _, .bin a b p q, 0, sc, hF => by omega
  | _, _, _, _, _, _, .bin (s := s) (t1 := t1) (t2 := t2) a b p q, F + 1, sc, hF => fun S => by
    have h1 := Pp.ln p F sc (by omega)
    have h2 := Pp.ln q F sc (by omega)
    have u1 := w_one p.len
    have u2 := w_one q.len
    by_cases h : s = cds "and" ∨ s = cds "or"
    · rw [show binT s t1 t2 = .t [.s s, t1, t2] from if_pos h]
      show Lm S (cKd (cX sl ow F) sl sc ow s [t1, t2] S) _ _
      rcases h with rfl | rfl
      · rw [cd_and]
        exact ((((h1 _).trans Lm.put).trans ((h2 _).trans Lm.put)).trans Lm.truth).weak (by simp only [List.length_append, List.length_cons]; omega) (by simp only [List.length_append, List.length_cons]; omega)
      · rw [cd_or]
        exact (((((h1 _).trans Lm.put).trans (Lm.put.trans Lm.put)).trans ((Lm.led.trans (h2 _)).trans Lm.put)).trans (Lm.truth.trans Lm.led)).weak (by simp only [List.length_append, List.length_cons]; omega) (by simp only [List.length_append, List.length_cons]; omega)
    · rw [show binT s t1 t2 = .t [str "op", .s s, t1, t2] from if_neg h]
      show Lm S (cKd (cX sl ow F) sl sc ow (cds "op") [.s s, t1, t2] S) _ _
      rw [cd_op]
      exact (((h1 _).trans (h2 _)).trans Lm.put).weak (by simp only [List.length_append, List.length_cons]; omega) (by simp only [List.length_append, List.length_cons]; omega)
  | _, _, _, _, _, _, .send p n k, 0, sc, hF => by omega
  | _, _, _, _, _, _, .send p n k, F + 1, sc, hF => fun S => by
    have u1 := w_one p.len
    have h1 := Pp.ln p F sc (by omega)
    have h2 := Pa.ln k F sc (by omega)
    show Lm S (cKd (cX sl ow F) sl sc ow (cds "send") _ S) _ _
    rw [cd_send]
    exact (((h1 _).trans (h2 _)).trans Lm.put).weak (by simp only [List.length_append, List.length_cons]; omega) (by simp only [List.length_append, List.length_cons]; omega)
  | _, _, _, _, _, _, .sup n k, 0, sc, hF => by omega
  | _, _, _, _, _, _, .sup n k, F + 1, sc, hF => fun S => by
    have h2 := Pa.ln k F sc (by omega)
    show Lm S (cKd (cX sl ow F) sl sc ow (cds "super") _ S) _ _
    rw [cd_super]
    exact ((h2 _).trans Lm.put).weak (by simp only [List.length_append, List.length_cons]; omega) (by simp only [List.length_append, List.length_cons]; omega)
  | _, _, _, _, _, _, .blk0 b, 0, sc, hF => by omega
  | _, _, _, _, _, _, .blk0 b, F + 1, sc, hF => fun S => by
    show Lm S (cKd (cX sl ow F) sl sc ow (cds "block") _ S) _ _
    rw [cd_block]
    refine ⟨?_, ?_, ?_, ?_⟩ <;> simp only [cBlk, cput, List.length_append, List.length_cons, List.length_nil] <;> omega
  | _, _, _, _, _, _, .blk h0 h4 hn b, 0, sc, hF => by omega
  | _, _, _, _, _, _, .blk h0 h4 hn b, F + 1, sc, hF => fun S => by
    show Lm S (cKd (cX sl ow F) sl sc ow (cds "block") _ S) _ _
    rw [cd_block]
    refine ⟨?_, ?_, ?_, ?_⟩ <;> simp only [cBlk, cput, List.length_append, List.length_cons, List.length_nil] <;> omega
theorem Pp.ln : ∀ {a h : Nat} {t : Tr} {w : Ws} {ns : List Ws} {x : List Nat}, Pp a h t w ns x → ∀ F sc, h ≤ F → Le (cX sl ow F sc) t w.length
  | _, _, _, _, _, _, .go l p, F, sc, hF => Pe.ln p F sc hF
  | _, _, _, _, _, _, .br l p, F, sc, hF => fun S => (Pe.ln p F sc (by omega) S).weak (by simp only [List.length_append, List.length_cons]; omega) (by simp only [List.length_append, List.length_cons]; omega)
theorem Pl.ln : ∀ {h : Nat} {l : List Tr} {w : Ws} {ns : List Ws} {ys : Ws}, Pl h l w ns ys → ∀ F sc, h ≤ F → Lns (cX sl ow F sc) l w.length
  | _, _, _, _, _, .nil, _, _, _ => fun S => .refl
  | _, _, _, _, _, .cons p q, F, sc, hF => fun S => ((Pe.ln p F sc hF S).trans (Pl.ln q F sc hF _)).weak (by simp only [List.length_append, List.length_cons]; omega) (by simp only [List.length_append, List.length_cons]; omega)
theorem Pa.ln : ∀ {h : Nat} {l : List Tr} {w : Ws} {ns : List Ws} {ys : Ws}, Pa h l w ns ys → ∀ F sc, h ≤ F → Lns (cX sl ow F sc) l w.length
  | _, _, _, _, _, .nil, _, _, _ => fun S => .refl
  | _, _, _, _, _, .cons p q _, F, sc, hF => fun S => ((Pe.ln p F sc hF S).trans (Pl.ln q F sc hF _)).weak (by simp only [List.length_append]; omega) (by simp only [List.length_append]; omega)
theorem Ps.ln : ∀ {h : Nat} {t : Tr} {w : Ws} {ns : List Ws} {x : List Nat}, Ps h t w ns x → ∀ F sc, h ≤ F → Ln (cX sl ow F sc) t w.length
  | _, _, _, _, _, .eval p, 0, sc, hF => by omega
  | _, _, _, _, _, .eval p, F + 1, sc, hF => fun S => by
    have h1 := Pe.ln p F sc (by omega) S
    show Lm S (cKd (cX sl ow F) sl sc ow (cds "eval") _ S) _ _
    rw [cd_eval]
    have hw := w_one p.len
    exact (h1.trans Lm.put).weak (by omega) (by omega)
  | _, _, _, _, _, .set n p, 0, sc, hF => by omega
  | _, _, _, _, _, .set n p, F + 1, sc, hF => fun S => by
    have h1 := Pe.ln p F sc (by omega) S
    show Lm S (cKd (cX sl ow F) sl sc ow (cds "set") _ S) _ _
    rw [cd_set]; exact (h1.trans Lm.put).weak (by simp only [List.length_cons]; omega) (by simp only [List.length_cons]; omega)
  | _, _, _, _, _, .gf g p, 0, sc, hF => by omega
  | _, _, _, _, _, .gf (t := t) hg p, F + 1, sc, hF => fun S => by
    have h1 := Pe.ln p F sc (by omega) S
    rcases hg with rfl | rfl
    · show Lm S (cKd (cX sl ow F) sl sc ow (cds "give") [t] S) _ _
      rw [cd_give]; exact (h1.trans Lm.put).weak (by simp only [List.length_cons]; omega) (by simp only [List.length_cons]; omega)
    · show Lm S (cKd (cX sl ow F) sl sc ow (cds "fail") [t] S) _ _
      rw [cd_fail]; exact (h1.trans Lm.put).weak (by simp only [List.length_cons]; omega) (by simp only [List.length_cons]; omega)
  | _, _, _, _, _, .whl p q, 0, sc, hF => by omega
  | _, _, _, _, _, .whl p q, F + 1, sc, hF => fun S => by
    have h1 := Pe.ln p F sc (by omega)
    have h2 := Pb.ln q F sc (by omega)
    show Lm S (cKd (cX sl ow F) sl sc ow (cds "while") _ S) _ _
    rw [cd_while]
    exact ((((h1 _).trans Lm.put).trans (h2 _)).trans (Lm.put.trans Lm.led)).weak (by simp only [List.length_append, List.length_cons]; omega) (by simp only [List.length_append, List.length_cons]; omega)
  | _, _, _, _, _, .if0 p q, 0, sc, hF => by omega
  | _, _, _, _, _, .if0 p q, F + 1, sc, hF => fun S => by
    have h1 := Pe.ln p F sc (by omega)
    have h2 := Pb.ln q F sc (by omega)
    show Lm S (cKd (cX sl ow F) sl sc ow (cds "if") _ S) _ _
    rw [cd_if0]
    exact ((((h1 _).trans Lm.put).trans (h2 _)).trans Lm.led).weak (by simp only [List.length_append, List.length_cons]; omega) (by simp only [List.length_append, List.length_cons]; omega)
  | _, _, _, _, _, .if1 p q _ r, 0, sc, hF => by omega
  | _, _, _, _, _, .if1 p q h3 r, F + 1, sc, hF => fun S => by
    have h1 := Pe.ln p F sc (by omega)
    have h2 := Pb.ln q F sc (by omega)
    have h4 := Pb.ln r F sc (by omega)
    show Lm S (cKd (cX sl ow F) sl sc ow (cds "if") _ S) _ _
    rw [cd_if1 _ _ _ _ _ _ _ _ h3]
    exact (((((h1 _).trans Lm.put).trans (h2 _)).trans (Lm.put.trans Lm.led)).trans ((h4 _).trans Lm.led)).weak (by simp only [List.length_append, List.length_cons]; omega) (by simp only [List.length_append, List.length_cons]; omega)
  | _, _, _, _, _, .try_ p n q, 0, sc, hF => by omega
  | _, _, _, _, _, .try_ p n q, F + 1, sc, hF => fun S => by
    have h1 := Pb.ln p F sc (by omega)
    have h2 := Pb.ln q F sc (by omega)
    show Lm S (cKd (cX sl ow F) sl sc ow (cds "try") _ S) _ _
    rw [cd_try]
    exact (((Lm.put.trans (h1 _)).trans (Lm.put.trans (Lm.put.trans Lm.led))).trans (Lm.put.trans ((h2 _).trans Lm.led))).weak (by simp only [List.length_append, List.length_cons]; omega) (by simp only [List.length_append, List.length_cons]; omega)
  | _, _, _, _, _, .keep p q, 0, sc, hF => by omega
  | _, _, _, _, _, .keep p q, F + 1, sc, hF => fun S => by
    have h1 := Pb.ln p F sc (by omega)
    have h2 := Pb.ln q F sc (by omega)
    show Lm S (cKd (cX sl ow F) sl sc ow (cds "keep") _ S) _ _
    rw [cd_keep]
    exact (((Lm.put.trans (h1 _)).trans (Lm.put.trans Lm.led)).trans ((h2 _).trans Lm.put)).weak (by simp only [List.length_append, List.length_cons]; omega) (by simp only [List.length_append, List.length_cons]; omega)
theorem Pq.ln : ∀ {h : Nat} {l : List Tr} {w : Ws} {ns : List Ws} {ys : Ws}, Pq h l w ns ys → ∀ F sc, h ≤ F → Lns (cX sl ow F sc) l w.length
  | _, _, _, _, _, .nil, _, _, _ => fun S => .refl
  | _, _, _, _, _, .cons p q, F, sc, hF => fun S => ((Ps.ln p F sc hF S).trans (Pq.ln q F sc hF _)).weak (by simp only [List.length_append, List.length_cons]; omega) (by simp only [List.length_append, List.length_cons]; omega)
theorem Pb.ln : ∀ {h : Nat} {l : List Tr} {w : Ws} {ns : List Ws} {ys : Ws}, Pb h l w ns ys → ∀ F sc, h ≤ F → Lns (cX sl ow F sc) l w.length
  | _, _, _, _, _, .nil, _, _, _ => fun S => .refl
  | _, _, _, _, _, .cons p q, F, sc, hF => fun S => ((Ps.ln p F sc hF S).trans (Pq.ln q F sc hF _)).weak (by simp only [List.length_append]; omega) (by simp only [List.length_append]; omega)
end
end
end
section
/-! Trees whose blocks' parameters are known tuples; frames of two lists. -/
open PySem PySem.Spec PyProof.Rows L2
/-- the parameters of a block: a tuple whose object is known -/
def blkOk (H : Hp) (vs : List V) (l : List Tr) : Prop := ∀ (ps r : List Tr), l = .s (cds "block") :: .t ps :: r → ∃ (x : V) (q : Addr) (vs' : List V) (ws : List (List Nat)), vs = x :: .ref q :: vs' ∧ ps = ws.map Tr.s ∧ FT H q (ws.map T)
theorem blkOk.imp {H H' : Hp} {vs : List V} {l : List Tr} (h : blkOk H vs l) (f : ∀ p xs, FT H p xs → FT H' p xs) : blkOk H' vs l := fun ps r e => by
  obtain ⟨x, q, vs', ws, h1, h2, h3⟩ := h ps r e
  exact ⟨x, q, vs', ws, h1, h2, f _ _ h3⟩
theorem blk_no {H : Hp} {vs : List V} {a : List Nat} {r : List Tr} (h : a ≠ cds "block") : blkOk H vs (.s a :: r) := fun ps r e => by
  injection e with e _
  injection e with e
  exact absurd e h
theorem blk_str {H : Hp} {vs : List V} {a : String} {r : List Tr} (h : cds a ≠ cds "block") : blkOk H vs (str a :: r) := blk_no h
theorem blk_nil {H : Hp} {vs : List V} : blkOk H vs [] := fun ps r e => by cases e
theorem blk_hd {H : Hp} {vs : List V} {a : List Tr} {r : List Tr} : blkOk H vs (.t a :: r) := fun ps r e => by cases e
theorem blk_texts (H : Hp) (vs : List V) : ∀ ws : List (List Nat), blkOk H vs (ws.map Tr.s)
  | [] => blk_nil
  | [a] => fun ps r e => by cases e
  | a :: b :: ws => fun ps r e => by cases e
mutual
inductive TrB (K : PySem.W.Frag) (H : Hp) : V → Tr → Prop
  | s {a : List Nat} : TrB K H (T a) (.s a)
  | i {x : Int} : TrB K H (.int x) (.i x)
  | b {x : Bool} : TrB K H (.bl x) (.b x)
  | n : TrB K H .non .n
  | mk {p : Addr} {vs : List V} {l : List Tr} : SqT K H p vs → TrsB K H vs l → blkOk H vs l → TrB K H (.ref p) (.t l)
inductive TrsB (K : PySem.W.Frag) (H : Hp) : List V → List Tr → Prop
  | nil : TrsB K H [] []
  | cons {v : V} {t : Tr} {vs : List V} {l : List Tr} : TrB K H v t → TrsB K H vs l → TrsB K H (v :: vs) (t :: l)
end
theorem TrB.t {K : PySem.W.Frag} {H : Hp} {p : Addr} {vs : List V} {l : List Tr} (h : SqT K H p vs) (r : TrsB K H vs l) (b : blkOk H vs l := by first | exact blk_str (by decide +kernel) | exact blk_no (by decide +kernel) | exact blk_nil | exact blk_hd | exact blk_texts _ _ _ | assumption) : TrB K H (.ref p) (.t l) := .mk h r b
theorem TrB.tup {K : PySem.W.Frag} {H : Hp} {p : Addr} {l : List Tr} (h : TrB K H (.ref p) (.t l)) : ∃ vs, SqT K H p vs ∧ TrsB K H vs l ∧ blkOk H vs l := by
  cases h with
  | mk a b c => exact ⟨_, a, b, c⟩
mutual
theorem TrB.imp {K : PySem.W.Frag} {H H' : Hp} (f : ∀ p vs, SqT K H p vs → SqT K H' p vs) (g : ∀ p xs, FT H p xs → FT H' p xs) : ∀ {v : V} {t : Tr}, TrB K H v t → TrB K H' v t
  | _, _, .s => .s
  | _, _, .i => .i
  | _, _, .b => .b
  | _, _, .n => .n
  | _, _, .mk h r c => .mk (f _ _ h) (TrsB.imp f g r) (c.imp g)
theorem TrsB.imp {K : PySem.W.Frag} {H H' : Hp} (f : ∀ p vs, SqT K H p vs → SqT K H' p vs) (g : ∀ p xs, FT H p xs → FT H' p xs) : ∀ {vs : List V} {l : List Tr}, TrsB K H vs l → TrsB K H' vs l
  | _, _, .nil => .nil
  | _, _, .cons h r => .cons (TrB.imp f g h) (TrsB.imp f g r)
end
mutual
theorem TrB.at {K : PySem.W.Frag} {H : Hp} : ∀ {v : V} {t : Tr}, TrB K H v t → TrAt K H v t
  | _, _, .s => .s
  | _, _, .i => .i
  | _, _, .b => .b
  | _, _, .n => .n
  | _, _, .mk h r _ => .t h (TrsB.at r)
theorem TrsB.at {K : PySem.W.Frag} {H : Hp} : ∀ {vs : List V} {l : List Tr}, TrsB K H vs l → TrsAt K H vs l
  | _, _, .nil => .nil
  | _, _, .cons h r => .cons (TrB.at h) (TrsB.at r)
end
theorem TrB.same {K : PySem.W.Frag} {H H1 : Hp} {v : V} {t : Tr} (h : TrB K H v t) (s : Same H H1) : TrB K H1 v t := h.imp (fun p vs q => Same.sqT s q) fun p xs q => q.same s
theorem TrsB.same {K : PySem.W.Frag} {H H1 : Hp} {vs : List V} {l : List Tr} (h : TrsB K H vs l) (s : Same H H1) : TrsB K H1 vs l := h.imp (fun p vs q => Same.sqT s q) fun p xs q => q.same s
theorem TrB.but {K : PySem.W.Frag} {D : Addr} {H H1 : Hp} {xs : List V} {v : V} {t : Tr} (h : TrB K H v t) (hD : H D = some (.lst xs)) (k : ∀ b o, b ≠ D → H b = some o → H1 b = some o) : TrB K H1 v t := h.imp (fun _ _ q => sqT_but q hD k) fun p ys q => q.but hD k
theorem TrsB.but {K : PySem.W.Frag} {D : Addr} {H H1 : Hp} {xs : List V} {vs : List V} {l : List Tr} (h : TrsB K H vs l) (hD : H D = some (.lst xs)) (k : ∀ b o, b ≠ D → H b = some o → H1 b = some o) : TrsB K H1 vs l := h.imp (fun _ _ q => sqT_but q hD k) fun p ys q => q.but hD k
theorem TrsB.snoc {K : PySem.W.Frag} {H : Hp} {v : V} {t : Tr} (h : TrB K H v t) : ∀ {vs : List V} {l : List Tr}, TrsB K H vs l → TrsB K H (vs ++ [v]) (l ++ [t])
  | _, _, .nil => .cons h .nil
  | _, _, .cons a r => .cons a (TrsB.snoc h r)
theorem TrsB.length {K : PySem.W.Frag} {H : Hp} : ∀ {vs : List V} {l : List Tr}, TrsB K H vs l → vs.length = l.length
  | _, _, .nil => rfl
  | _, _, .cons _ r => by rw [List.length_cons, List.length_cons, TrsB.length r]
theorem TrsB.get {K : PySem.W.Frag} {H : Hp} : ∀ {vs : List V} {l : List Tr} {i : Nat}, TrsB K H vs l → i < l.length → ∃ v t, vs[i]? = some v ∧ l[i]? = some t ∧ TrB K H v t
  | _, _, _, .nil, h => absurd h (Nat.not_lt_zero _)
  | _, _, 0, .cons h _, _ => ⟨_, _, rfl, rfl, h⟩
  | _, _, i + 1, .cons _ r, h => by
    obtain ⟨v, t, h1, h2, h3⟩ := TrsB.get r (i := i) (by simpa using h)
    exact ⟨v, t, by simpa using h1, by simpa using h2, h3⟩
theorem trsB_texts {K : PySem.W.Frag} {H : Hp} : ∀ l : List (List Nat), TrsB K H (l.map T) (l.map Tr.s)
  | [] => .nil
  | _ :: l => .cons .s (trsB_texts l)
theorem binT_t (s : List Nat) (a b : Tr) : ∃ l, binT s a b = .t l := by
  unfold binT
  split
  · exact ⟨_, rfl⟩
  · exact ⟨_, rfl⟩
theorem Ex.isT : ∀ {lv h : Nat} {t : Tr} {w : Ws} {ns : List Ws}, Ex lv h t w ns → ∃ l, t = .t l
  | _, _, _, _, _, .num _ => ⟨_, rfl⟩
  | _, _, _, _, _, .text _ => ⟨_, rfl⟩
  | _, _, _, _, _, .word _ => ⟨_, rfl⟩
  | _, _, _, _, _, .self => ⟨_, rfl⟩
  | _, _, _, _, _, .new _ => ⟨_, rfl⟩
  | _, _, _, _, _, .name _ => ⟨_, rfl⟩
  | _, _, _, _, _, .par _ e => e.isT
  | _, _, _, _, _, .neg _ _ => ⟨_, rfl⟩
  | _, _, _, _, _, .not _ _ => ⟨_, rfl⟩
  | _, _, _, _, _, .bin _ _ _ _ _ _ => binT_t _ _ _
  | _, _, _, _, _, .send _ _ _ _ => ⟨_, rfl⟩
  | _, _, _, _, _, .sup _ _ => ⟨_, rfl⟩
  | _, _, _, _, _, .blk0 _ => ⟨_, rfl⟩
  | _, _, _, _, _, .blk _ _ _ _ => ⟨_, rfl⟩
theorem St.isT {h : Nat} {t : Tr} {w : Ws} {ns : List Ws} (e : St h t w ns) : ∃ l, t = .t l := by
  cases e <;> exact ⟨_, rfl⟩
theorem Ar.blk {H : Hp} {vs : List V} {h : Nat} {l : List Tr} {w : Ws} {ns : List Ws} (e : Ar h l w ns) : blkOk H vs l := by
  cases e with
  | nil => exact blk_nil
  | cons a b c d =>
    obtain ⟨l, rfl⟩ := b.isT
    exact blk_hd
theorem Bd.blk {H : Hp} {vs : List V} {h : Nat} {l : List Tr} {w : Ws} {ns : List Ws} (e : Bd h l w ns) : blkOk H vs l := by
  cases e with
  | nil => exact blk_nil
  | cons a b =>
    obtain ⟨l, rfl⟩ := a.isT
    exact blk_hd
/-- all but the state and the pool is as it was -/
def FrP (S L : Addr) (H H' : Hp) : Prop := ∀ b o, (b ≠ S ∧ b ≠ L) → H b = some o → H' b = some o
section
variable {S L : Addr} {H H1 H2 : Hp}
theorem FrP.refl (S L : Addr) (H : Hp) : FrP S L H H := fun _ _ _ h => h
theorem FrP.trans (a : FrP S L H H1) (b : FrP S L H1 H2) : FrP S L H H2 := fun c o n h => b c o n (a c o n h)
theorem FrP.to (a : FrP S L H H1) (b : Same H1 H2) : FrP S L H H2 := fun c o n h => b c o (a c o n h)
theorem Fr.p (a : Fr S H H1) : FrP S L H H1 := fun c o n h => a c o n.1 h
theorem Fr.q (a : Fr L H H1) : FrP S L H H1 := fun c o n h => a c o n.2 h
end
end
section
/-! What is written stands; the shapes of the parts. -/
open PySem PySem.Spec PyProof.Rows L2
/-- what was written stands -/
def Pre (S S' : CS) : Prop := S.1 <+: S'.1 ∧ S.2 <+: S'.2
section
variable {S S1 S2 : CS} {k : Nat} {i : Tr}
theorem Pre.refl : Pre S S := ⟨List.prefix_refl _, List.prefix_refl _⟩
theorem Pre.trans (a : Pre S S1) (b : Pre S1 S2) : Pre S S2 := ⟨a.1.trans b.1, a.2.trans b.2⟩
theorem Pre.put : Pre S (cput i S) := ⟨List.prefix_append _ _, List.prefix_refl _⟩
theorem Pre.putB (a : Pre S S1) : Pre S (cput i S1) := a.trans .put
theorem pre_set {a b : List Tr} {x : Tr} (h : a <+: b) (n : a.length ≤ k) : a <+: b.set k x := by
  obtain ⟨l, rfl⟩ := h
  rw [List.set_append_right _ _ n]
  exact List.prefix_append _ _
theorem Pre.led (a : Pre S S1) (n : S.1.length ≤ k) : Pre S (cled k S1) := ⟨pre_set a.1 n, a.2⟩
theorem Pre.len (a : Pre S S1) : S.1.length ≤ S1.1.length := a.1.length_le
theorem Pre.leds : ∀ {l : List Nat} {S1 : CS}, Pre S S1 → (∀ k ∈ l, S.1.length ≤ k) → Pre S (l.foldl (fun S k => cled k S) S1)
  | [], _, a, _ => a
  | k :: l, S1, a, n => Pre.leds (l := l) (S1 := cled k S1) (a.led (n _ List.mem_cons_self)) fun k h => n k (List.mem_cons_of_mem _ h)
theorem Pre.ite {p : Prop} [Decidable p] (a : Pre S S1) (b : Pre S S2) : Pre S (if p then S1 else S2) := by
  by_cases h : p
  · rw [if_pos h]; exact a
  · rw [if_neg h]; exact b
theorem Pre.truth {l : List Nat} (a : Pre S S1) (n : ∀ k ∈ l, S.1.length ≤ k) : Pre S (ctruth l S1) := by
  unfold ctruth
  refine Pre.led ((Pre.leds (a.putB.putB) n).putB) ?_
  exact (a.putB).len
theorem cput_len : (cput i S).1.length = S.1.length + 1 := by
  show (S.1 ++ [i]).length = _
  rw [List.length_append, List.length_singleton]
theorem cput_get : (cput i S).1[S.1.length]? = some i := by
  show (S.1 ++ [i])[S.1.length]? = some i
  rw [List.getElem?_append_right (Nat.le_refl _), Nat.sub_self]; rfl
theorem Pre.get {x : Tr} (a : Pre S S1) (h : S.1[k]? = some x) : S1.1[k]? = some x := by
  obtain ⟨l, e⟩ := a.1
  rw [← e, List.getElem?_append_left (List.getElem?_eq_some_iff.mp h).1, h]
theorem Pre.fold {c : Tr → CS → CS} (hc : ∀ t S, Pre S (c t S)) : ∀ (l : List Tr) (S : CS), Pre S (cfold c l S)
  | [], _ => .refl
  | t :: l, S => (hc t S).trans (Pre.fold hc l (c t S))
/-- an instruction with a target stands there -/
def Ld (S : CS) (k : Nat) : Prop := ∃ a r, S.1[k]? = some (.t (a :: r))
theorem Ld.led {j : Nat} (h : Ld S j) : Ld (cled k S) j := by
  obtain ⟨a, r, h⟩ := h
  unfold Ld cled
  show ∃ a r, (S.1.set k _)[j]? = _
  by_cases e : k = j
  · subst e
    rw [List.getElem?_set_self (List.getElem?_eq_some_iff.mp h).1, h]
    exact ⟨_, _, rfl⟩
  · rw [List.getElem?_set_ne e, h]
    exact ⟨_, _, rfl⟩
theorem Ld.pre (a : Pre S S1) (h : Ld S k) : Ld S1 k := by
  obtain ⟨x, r, h⟩ := h
  exact ⟨x, r, a.get h⟩
theorem Ld.pl {w : String} : Ld (cpl w S) S.1.length := ⟨_, _, cput_get⟩
end
section
variable {c : List Ws → Tr → CS → CS} {sl : Ws} {sc : List Ws} {ow : List Nat} (hc : ∀ sc t S, Pre S (c sc t S))
include hc
theorem pre_cKd (k : List Nat) (r : List Tr) (S : CS) : Pre S (cKd c sl sc ow k r S) := by
  have hf := fun sc l S => Pre.fold (fun t S => hc sc t S) l S
  have and_ : ∀ a b, Pre S (cAnd c sc a b S) := fun a b => by
    unfold cAnd
    have p1 := (hc sc a S)
    have p2 := p1.trans ((Pre.put (i := .t [str "unless", .n])).trans (hc sc b _))
    refine Pre.truth p2.putB fun k hk => ?_
    rcases List.mem_cons.mp hk with h | h
    · rw [h]; exact p1.len
    · rw [List.mem_singleton.mp h]; exact p2.len
  have or_ : ∀ a b, Pre S (cOr c sc a b S) := fun a b => by
    unfold cOr
    have p1 := (hc sc a S)
    have p2 := (p1.putB (i := .t [str "unless", .n])).putB (i := .t [str "push", .b true])
    have p3 := (p2.putB (i := .t [str "jump", .n])).led p1.len
    have p4 := p3.trans (hc sc b _)
    refine Pre.led (Pre.truth p4.putB fun k hk => ?_) p2.len
    rw [List.mem_singleton.mp hk]; exact p4.len
  have blk_ : ∀ a b, Pre S (cBlk c sc a b S) := fun a b => ⟨List.prefix_append _ _, List.prefix_append _ _⟩
  have whl_ : ∀ t l, Pre S (cWhl c sc t l S) := fun t l => by
    unfold cWhl
    have p1 := (hc sc t S)
    exact Pre.led (p1.trans ((Pre.put).trans (hf sc l _))).putB p1.len
  have if0_ : ∀ t l, Pre S (cIf0 c sc t l S) := fun t l => by
    unfold cIf0
    have p1 := (hc sc t S)
    exact Pre.led (p1.trans ((Pre.put).trans (hf sc l _))) p1.len
  have if1_ : ∀ t l m, Pre S (cIf1 c sc t l m S) := fun t l m => by
    unfold cIf1
    have p1 := (hc sc t S)
    have p2 := p1.trans ((Pre.put (i := .t [str "unless", .n])).trans (hf sc l _))
    exact Pre.led (((p2.putB).led p1.len).trans (hf sc m _)) p2.len
  have try_ : ∀ l a m, Pre S (cTry c sl sc l a m S) := fun l a m => by
    unfold cTry
    have p2 := ((Pre.put (S := S) (i := .t [str "try", .n])).trans (hf sc l _)).putB (i := .t [str "done"])
    exact Pre.led ((((p2.putB).led (Nat.le_refl _)).putB).trans (hf sc m _)) p2.len
  have keep_ : ∀ l m, Pre S (cKeep c sc l m S) := fun l m => by
    unfold cKeep
    have p2 := ((Pre.put (S := S) (i := .t [str "keep", .n])).trans (hf sc l _)).putB (i := .t [str "always"])
    exact (((p2.led (Nat.le_refl _))).trans (hf sc m _)).putB
  unfold cKd
  repeat' (first | refine Pre.ite ?_ ?_ | split)
  all_goals first
    | exact .refl
    | exact .put
    | exact (hc _ _ _).putB
    | exact ((hc _ _ _).trans (hc _ _ _)).putB
    | exact ((hc _ _ _).trans (hf _ _ _)).putB
    | exact (hf _ _ _).putB
    | exact and_ _ _
    | exact or_ _ _
    | exact blk_ _ _
    | exact whl_ _ _
    | exact if0_ _ _
    | exact if1_ _ _ _
    | exact try_ _ _ _
    | exact keep_ _ _
end
theorem cX_pre (sl : Ws) (ow : List Nat) : ∀ (n : Nat) (sc : List Ws) (t : Tr) (S : CS), Pre S (cX sl ow n sc t S)
  | 0, _, _, _ => .refl
  | n + 1, sc, .t (.s k :: r), S => pre_cKd (fun sc t S => cX_pre sl ow n sc t S) k r S
  | _ + 1, _, .s _, _ => .refl
  | _ + 1, _, .i _, _ => .refl
  | _ + 1, _, .b _, _ => .refl
  | _ + 1, _, .n, _ => .refl
  | _ + 1, _, .t [], _ => .refl
  | _ + 1, _, .t (.i _ :: _), _ => .refl
  | _ + 1, _, .t (.b _ :: _), _ => .refl
  | _ + 1, _, .t (.n :: _), _ => .refl
  | _ + 1, _, .t (.t _ :: _), _ => .refl
theorem cXs_pre (sl : Ws) (ow : List Nat) (n : Nat) (sc : List Ws) (l : List Tr) (S : CS) : Pre S (cfold (cX sl ow n sc) l S) := Pre.fold (fun t S => cX_pre sl ow n sc t S) l S
theorem Pe.isT {lv h : Nat} {t : Tr} {w : Ws} {ns : List Ws} {x : List Nat} (p : Pe lv h t w ns x) : ∃ l, t = .t l := by
  cases p <;> first | exact ⟨_, rfl⟩ | exact binT_t _ _ _
theorem Pp.isT {a h : Nat} {t : Tr} {w : Ws} {ns : List Ws} {x : List Nat} : Pp a h t w ns x → ∃ l, t = .t l
  | .go _ p => p.isT
  | .br _ p => p.isT
/-! shapes -/
def XE (n : Nat) (t : Tr) (m : Nat) : Prop := ∃ lv w ns x, Pe lv n t w ns x ∧ w.length = m
def XS (n : Nat) (t : Tr) (m : Nat) : Prop := ∃ w ns x, Ps n t w ns x ∧ w.length = m
inductive XL (p : Tr → Nat → Prop) : List Tr → Nat → Prop
  | nil : XL p [] 0
  | cons {t : Tr} {m : Nat} {l : List Tr} {k : Nat} : p t m → XL p l k → XL p (t :: l) (m + k)
theorem Pl.xl : ∀ {h : Nat} {l : List Tr} {w : Ws} {ns : List Ws} {ys : Ws}, Pl h l w ns ys → ∃ m, XL (XE h) l m ∧ m ≤ w.length
  | _, _, _, _, _, .nil => ⟨0, .nil, Nat.le_refl _⟩
  | _, _, _, _, _, .cons p q => by
    obtain ⟨m, h, e⟩ := q.xl
    exact ⟨_, .cons ⟨_, _, _, _, p, rfl⟩ h, by simp only [List.length_append, List.length_cons]; omega⟩
theorem Pa.xl {h : Nat} {l : List Tr} {w : Ws} {ns : List Ws} {ys : Ws} : Pa h l w ns ys → ∃ m, XL (XE h) l m ∧ m ≤ w.length
  | .nil => ⟨0, .nil, Nat.le_refl _⟩
  | .cons p q _ => by
    obtain ⟨m, h, e⟩ := q.xl
    exact ⟨_, .cons ⟨_, _, _, _, p, rfl⟩ h, by simp only [List.length_append]; omega⟩
theorem Pq.xl : ∀ {h : Nat} {l : List Tr} {w : Ws} {ns : List Ws} {ys : Ws}, Pq h l w ns ys → ∃ m, XL (XS h) l m ∧ m ≤ w.length
  | _, _, _, _, _, .nil => ⟨0, .nil, Nat.le_refl _⟩
  | _, _, _, _, _, .cons p q => by
    obtain ⟨m, h, e⟩ := q.xl
    exact ⟨_, .cons ⟨_, _, _, p, rfl⟩ h, by simp only [List.length_append, List.length_cons]; omega⟩
theorem Pb.xl {h : Nat} {l : List Tr} {w : Ws} {ns : List Ws} {ys : Ws} : Pb h l w ns ys → ∃ m, XL (XS h) l m ∧ m ≤ w.length
  | .nil => ⟨0, .nil, Nat.le_refl _⟩
  | .cons p q => by
    obtain ⟨m, h, e⟩ := q.xl
    exact ⟨_, .cons ⟨_, _, _, p, rfl⟩ h, by simp only [List.length_append]; omega⟩
theorem Pp.xe {a h : Nat} {t : Tr} {w : Ws} {ns : List Ws} {x : List Nat} : Pp a h t w ns x → ∃ m, XE h t m ∧ m ≤ w.length
  | .go _ p => ⟨_, ⟨_, _, _, _, p, rfl⟩, Nat.le_refl _⟩
  | .br _ p => ⟨_, ⟨_, _, _, _, p.up, rfl⟩, by simp only [List.length_append, List.length_cons]; omega⟩
section
variable {sl : Ws} {ow : List Nat} {n : Nat} {sc : List Ws} {t : Tr} {m : Nat} {l : List Tr}
theorem XE.lm (h : XE n t m) (S : CS) : Lm S (cX sl ow n sc t S) (10 * m) m := by
  obtain ⟨lv, w, ns, x, p, rfl⟩ := h
  exact (p.ln n sc (Nat.le_refl _) S).weak (by omega) (Nat.le_refl _)
theorem XS.lm (h : XS n t m) (S : CS) : Lm S (cX sl ow n sc t S) (10 * m) m := by
  obtain ⟨w, ns, x, p, rfl⟩ := h
  exact p.ln n sc (Nat.le_refl _) S
theorem XL.lm {p : Tr → Nat → Prop} {c : Tr → CS → CS} (hp : ∀ t m, p t m → ∀ S, Lm S (c t S) (10 * m) m) : ∀ {l : List Tr} {m : Nat}, XL p l m → ∀ S, Lm S (cfold c l S) (10 * m) m
  | _, _, .nil, _ => .refl
  | _, _, .cons a b, S => ((hp _ _ a S).trans (XL.lm hp b _)).weak (by omega) (by omega)
theorem XL.len {p : Tr → Nat → Prop} (hp : ∀ t m, p t m → 1 ≤ m) : ∀ {l : List Tr} {m : Nat}, XL p l m → l.length ≤ m
  | _, _, .nil => Nat.le_refl _
  | _, _, .cons a b => by
    have := hp _ _ a
    have := XL.len hp b
    rw [List.length_cons]; omega
/-- the first i of them -/
theorem XL.at {p : Tr → Nat → Prop} : ∀ {l : List Tr} {m : Nat} (i : Nat), XL p l m → i < l.length → ∃ t m1 m2, l[i]? = some t ∧ p t m2 ∧ XL p (l.take i) m1 ∧ m1 + m2 ≤ m
  | _, _, _, .nil, h => absurd h (Nat.not_lt_zero _)
  | _, _, 0, .cons a b, _ => ⟨_, 0, _, rfl, a, .nil, by omega⟩
  | _, _, i + 1, .cons a b, h => by
    obtain ⟨t, m1, m2, h1, h2, h3, h4⟩ := XL.at i b (by simpa using h)
    exact ⟨t, _, m2, by simpa using h1, h2, .cons a h3, by omega⟩
end
end
section
/-! The compiler: new ones, truths, lists of parts. -/
open PySem PySem.Spec PyProof.Rows L2
open C8 (Cal Met Mak cal0 pe_c pe_gc pss_cut tCut pe_mt pe_mt0 pe_mk)

section
variable {K : PySem.W.Frag} {CC self il bl : Addr} {sc : List Ws} {sl : Ws} {ow : List Nat} {S : CS} {H : Hp} {Q : VK} {E : XK} {σ : L2.St} {t : TA} {m : Str} {sp : Sp} {dvs : List V}
theorem c_mat (hC : CdS K CC self il bl sc sl ow S H) (l : ∀ sD tS, (fldsC sD tS il bl ow).lookup m = none) (k : t σ H fun vs H2 => sp (.ref self :: (vs ++ dvs)) H2 Q E) : OMeth CC m sp dvs E t σ (.ref self) H Q := by
  obtain ⟨dx, sD, tS, xv, iv, bv, n1, n2, n3, hs, _⟩ := hC
  exact o_mat hs (l sD tS) k
theorem c_put {xs : List V} {ts : List Tr} (hC : CdS K CC self il bl sc sl ow S H) (n : xs.length ≤ 1000000) (ht : TrsAt K H xs ts) (hl : S.1.length ≤ 900000) (k : ∀ H', CdS K CC self il bl sc sl ow (cput (.t ts) S) H' → Fq il bl H H' → Q .non H') : NewT xs H (fun v H1 => tNil σ H1 fun vs H2 => spCPut K CC (.ref self :: (v :: vs ++ [])) H2 Q E) :=
  w_newT n fun q H1 hq s1 h1 => w_nil ⟨self, il, bl, .ref q, .t ts, sc, sl, ow, S, rfl, hC.same s1, .t (.inl (.inl h1)) (ht.same s1), hl, fun H2 hC2 f2 => k H2 hC2 ((Fq.same s1).trans f2)⟩
theorem u_put {v : V} {tr : Tr} (hC : CdS K CC self il bl sc sl ow S H) (ht : TrAt K H v tr) (hl : S.1.length ≤ 900000) (k : ∀ H', CdS K CC self il bl sc sl ow (cput tr S) H' → Fq il bl H H' → Q .non H') : spCPut K CC (.ref self :: ([v] ++ [])) H Q E :=
  ⟨self, il, bl, v, tr, sc, sl, ow, S, rfl, hC, ht, hl, fun H2 hC2 f2 => k H2 hC2 f2⟩
theorem u_pl {a : List Nat} (hC : CdS K CC self il bl sc sl ow S H) (hl : S.1.length ≤ 900000) (k : ∀ H', CdS K CC self il bl sc sl ow (cput (.t [.s a, .n]) S) H' → Fq il bl H H' → Q (.int (S.1.length : Int)) H') : spCPl K CC (.ref self :: ([T a] ++ [])) H Q E :=
  ⟨self, il, bl, a, sc, sl, ow, S, rfl, hC, hl, fun H2 hC2 f2 => k H2 hC2 f2⟩
theorem u_led {j : Nat} (hC : CdS K CC self il bl sc sl ow S H) (hj : Ld S j) (hl : S.1.length ≤ 900000) (k : ∀ H', CdS K CC self il bl sc sl ow (cled j S) H' → Fq il bl H H' → Q .non H') : spCLed K CC (.ref self :: ([.int (j : Int)] ++ [])) H Q E := by
  obtain ⟨a, r, hj⟩ := hj
  exact ⟨self, il, bl, j, a, r, sc, sl, ow, S, rfl, hC, hj, hl, fun H2 hC2 f2 => k H2 hC2 f2⟩
theorem u_in {a : List Nat} (hC : CdS K CC self il bl sc sl ow S H) (hl : S.1.length ≤ 900000) (k : ∀ H', CdS K CC self il bl sc sl ow (cput (.t [str "set", plcT a sl 0 sc]) S) H' → Fq il bl H H' → Q .non H') : spCIn K CC (.ref self :: ([T a] ++ [])) H Q E :=
  ⟨self, il, bl, a, sc, sl, ow, S, rfl, hC, hl, fun H2 hC2 f2 => k H2 hC2 f2⟩
/-- tuples stand while the coder writes -/
theorem CdS.sq (hC : CdS K CC self il bl sc sl ow S H) {H' : Hp} (f : Fq il bl H H') {p : Addr} {xs : List V} (a : SqT K H p xs) : SqT K H' p xs := by
  obtain ⟨dx, sD, tS, xv, iv, bv, n1, n2, n3, hs, hD, hSc, hT, hI, hIt, hB, hBt, hsl⟩ := hC
  rcases a with (a | ⟨o, a⟩) | a
  · exact .inl (.inl (f.1 _ _ (fun e => by rw [e, hI] at a; cases a) (fun e => by rw [e, hB] at a; cases a) a))
  · exact .inl (.inr ⟨o, f.1 _ _ (fun e => by rw [e, hI] at a; cases a) (fun e => by rw [e, hB] at a; cases a) a⟩)
  · exact .inr a
theorem CdS.ft (hC : CdS K CC self il bl sc sl ow S H) {H' : Hp} (f : Fq il bl H H') {p : Addr} {xs : List V} (a : FT H p xs) : FT H' p xs := by
  obtain ⟨dx, sD, tS, xv, iv, bv, n1, n2, n3, hs, hD, hSc, hT, hI, hIt, hB, hBt, hsl⟩ := hC
  obtain ⟨o, e, a⟩ := a
  exact ⟨o, e, f.1 _ _ (fun e => by rw [e, hI] at a; cases a) (fun e => by rw [e, hB] at a; cases a) a⟩
theorem CdS.tr (hC : CdS K CC self il bl sc sl ow S H) {H' : Hp} (f : Fq il bl H H') {v : V} {tr : Tr} (a : TrB K H v tr) : TrB K H' v tr := a.imp (fun _ _ => hC.sq f) fun _ _ => hC.ft f
theorem CdS.trs (hC : CdS K CC self il bl sc sl ow S H) {H' : Hp} (f : Fq il bl H H') {v : List V} {tr : List Tr} (a : TrsB K H v tr) : TrsB K H' v tr := a.imp (fun _ _ => hC.sq f) fun _ _ => hC.ft f
theorem CdS.scl (hC : CdS K CC self il bl sc sl ow S H) : True := True.intro
end
section
variable {P : Program} {w : World} {K : PySem.W.Frag} {mg : Str → Option Value} {base : Heap} {CC : Addr} {k n : Nat}
abbrev s_Coder___init__ : Stmt := inClass (topS 4) 0
abbrev N_Coder___init__ : List Str := ["self", "scopes", "owner", "slots"]
theorem sc_Coder___init__ : FnScope N_Coder___init__ ["self", "scopes", "owner", "slots"] (defScope s_Coder___init__) := ⟨rfl, rfl, rfl, by decide +kernel, rfl, by decide +kernel, by decide +kernel⟩
def spCIni (K : PySem.W.Frag) (CC : Addr) : Sp := fun vs H Q _ => ∃ (x dx sD tS : Addr) (xv : List V) (sc : List Ws) (sl : Ws) (ow : List Nat), vs = [.ref x, .ref sD, T ow, .ref tS] ∧ H x = some (.ins CC dx []) ∧ H sD = some (.lst xv) ∧ ScAt H xv sc ∧ SqT K H tS (sl.map T) ∧ sc.length ≤ 1000 ∧
  ∀ il bl H', CdS K CC x il bl sc sl ow ([], []) H' → H' x = some (.ins CC dx (fldsC sD tS il bl ow)) → (∀ b o, b ≠ x → H b = some o → H' b = some o) → (∀ b, H' b = none → H b = none) → H il = none → H bl = none → Q .non H'
theorem ok_init {f : Addr} {fd : FuncData} (F : Fun K "__init__" "Coder.__init__" s_Coder___init__ f fd) (Z : CdTx K CC) : FnOk P w K mg base CX0 1 f fd ["self", "scopes", "owner", "slots"] (spCIni K CC) := by
  refine F.ok sc_Coder___init__ (fun vs H Q E h => ?_) (fun cdv A outer s H vs Q E hr h => ?_)
  · obtain ⟨x, dx, sD, tS, xv, sc, sl, ow, rfl, _⟩ := h
    rfl
  · obtain ⟨x, dx, sD, tS, xv, sc, sl, ow, rfl, hx, hD, hSc, hT, hsl, kQ⟩ := h
    have nd := sc_Coder___init__.nd
    refine ⟨_, (pss_cons (ps_fld (pv 0) (pv 1) rfl)
      (pss_cons (ps_fld (pv 0) (pv 2) rfl)
      (pss_cons (ps_fld (pv 0) (pv 3) rfl)
      (pss_cons (ps_fld (pv 0) (pe_lst pa_nil) rfl)
      (pss_one (ps_fld (pv 0) (pe_lst pa_nil) rfl)))))), ?_⟩
    rw [show L2.start N_Coder___init__ [.ref x, .ref sD, T ow, .ref tS] = [some (.ref x), some (.ref sD), some (T ow), some (.ref tS)] from rfl]
    walk_at "rdc"
    refine o_set hx Z.cl Z.n_scopes (show (0 : Nat) < 1000 from by decide) fun H1 h1 k1 g1 => ?_
    walk_at "rdc"
    refine o_set h1 Z.cl Z.n_owner (show (1 : Nat) < 1000 from by decide) fun H2 h2 k2 g2 => ?_
    walk_at "rdc"
    refine o_set h2 Z.cl Z.n_slots (show (2 : Nat) < 1000 from by decide) fun H3 h3 k3 g3 => ?_
    walk_at "rdc"
    refine w_newL (by show 0 ≤ 1000000; decide) fun il H4 hil s4 h4 => ?_
    walk_at "rdc"
    refine o_set (s4 _ _ h3) Z.cl Z.n_instructions (show (3 : Nat) < 1000 from by decide) fun H5 h5 k5 g5 => ?_
    walk_at "rdc"
    refine w_newL (by show 0 ≤ 1000000; decide) fun bl H6 hbl s6 h6 => ?_
    walk_at "rdc"
    refine o_set (s6 _ _ h5) Z.cl Z.n_blocks (show (4 : Nat) < 1000 from by decide) fun H7 h7 k7 g7 => ?_
    have kk : ∀ b o, b ≠ x → H b = some o → H7 b = some o := fun b o n e => k7 b o n (s6 b o (k5 b o n (s4 b o (k3 b o n (k2 b o n (k1 b o n e))))))
    have g3' : ∀ b, H3 b = none → H b = none := fun b e => g1 b (g2 b (g3 b e))
    have g6' : ∀ b, H5 b = none → H b = none := fun b e => g3' b (s4.free (g5 b e))
    have nD : sD ≠ x := fun e => by rw [e, hx] at hD; cases hD
    have nil : il ≠ x := fun e => by rw [e, h3] at hil; cases hil
    have nbl : bl ≠ x := fun e => by rw [e, h5] at hbl; cases hbl
    have h45 : H5 il = some (.lst []) := k5 _ _ nil h4
    have nib : il ≠ bl := fun e => by rw [← e, h45] at hbl; cases hbl
    have nDi : sD ≠ il := fun e => by
      have := g3' _ hil
      rw [← e, hD] at this; cases this
    have nDb : sD ≠ bl := fun e => by
      have := g6' _ hbl
      rw [← e, hD] at this; cases this
    have hxl : ∀ p xs, SqT K H p xs → SqT K H7 p xs := fun p xs a => by
      rcases a with (a | ⟨o, a⟩) | a
      · exact .inl (.inl (kk _ _ (fun e => by rw [e, hx] at a; cases a) a))
      · exact .inl (.inr ⟨o, kk _ _ (fun e => by rw [e, hx] at a; cases a) a⟩)
      · exact .inr a
    have hfl : ∀ p xs, FT H p xs → FT H7 p xs := fun p xs a => by
      obtain ⟨o, e, a⟩ := a
      exact ⟨o, e, kk _ _ (fun e => by rw [e, hx] at a; cases a) a⟩
    refine kQ il bl H7 ⟨dx, sD, tS, xv, [], [], nib, nDi, nDb, h7, kk _ _ nD hD, hSc.imp hfl, hxl _ _ hT, k7 _ _ nil (s6 _ _ h45), .nil, k7 _ _ nbl h6, .nil, hsl⟩ h7 kk (fun b e => g6' b (s6.free (g7 b e))) (g3' _ hil) (g6' _ hbl)
abbrev s_Coder_truth : Stmt := inClass (topS 4) 17
abbrev N_Coder_truth : List Str := ["self", "wrong", "leave", "number"]
theorem sc_Coder_truth : FnScope N_Coder_truth ["self", "wrong"] (defScope s_Coder_truth) := ⟨rfl, rfl, rfl, by decide +kernel, rfl, by decide +kernel, by decide +kernel⟩
def spCTru (K : PySem.W.Frag) (CC : Addr) : Sp := fun vs H Q _ => ∃ (self il bl wl : Addr) (ks : List Nat) (sc : List Ws) (sl : Ws) (ow : List Nat) (S : CS), vs = [.ref self, .ref wl] ∧ CdS K CC self il bl sc sl ow S H ∧ H wl = some (.lst (ks.map fun k : Nat => V.int (k : Int))) ∧ wl ≠ il ∧ wl ≠ bl ∧ (∀ k ∈ ks, Ld S k) ∧ S.1.length ≤ 890000 ∧ CdQ K CC self il bl sc sl ow (ctruth ks S) H (Q .non)
theorem ok_truth {f : Addr} {fd : FuncData} (F : Fun K "truth" "Coder.truth" s_Coder_truth f fd) (Z : CdTx K CC) (m_put : Met P w K mg base 1 CC "put" (spCPut K CC) []) (m_put_leading : Met P w K mg base 2 CC "put_leading" (spCPl K CC) []) (m_lead_here : Met P w K mg base 1 CC "lead_here" (spCLed K CC) []) : FnOk P w K mg base CX0 3 f fd ["self", "wrong"] (spCTru K CC) := by
  refine F.ok sc_Coder_truth (fun vs H Q E h => ?_) (fun cdv A outer s H vs Q E hr h => ?_)
  · obtain ⟨self, il, bl, wl, ks, sc, sl, ow, S, rfl, _⟩ := h
    rfl
  · obtain ⟨self, il, bl, wl, ks, sc, sl, ow, S, rfl, hC, hW, nwi, nwb, hks, hl, kQ⟩ := h
    have nd := sc_Coder_truth.nd
    refine ⟨_, (pss_cons (ps_expr (pe_mt m_put hr (by omega) (pv 0) (pa_cons (pe_tup (pa_cons pe_str (pa_cons pe_bl pa_nil))) pa_nil)))
      (pss_cons (ps_set (i := 2) nd rfl (Or.inl rfl) (pe_mt m_put_leading hr (by omega) (pv 0) (pa_cons pe_str pa_nil)))
      (pss_cons (ps_for PassesOwn.never rfl (pi_list (pv 1)) (pg_name (i := 3) nd rfl (Or.inl rfl)) (pss_one (ps_expr (pe_mt m_lead_here hr (by omega) (pv 0) (pa_cons (pv 3) pa_nil)))))
      (pss_cons (ps_expr (pe_mt m_put hr (by omega) (pv 0) (pa_cons (pe_tup (pa_cons pe_str (pa_cons pe_bl pa_nil))) pa_nil)))
      (pss_one (ps_expr (pe_mt m_lead_here hr (by omega) (pv 0) (pa_cons (pv 2) pa_nil)))))))), ?_⟩
    rw [show L2.start N_Coder_truth [.ref self, .ref wl] = [some (.ref self), some (.ref wl), none, none] from rfl]
    walk_at "rdc"
    refine c_mat hC (fun _ _ => rfl) ?_
    walk_at "rdc"
    refine c_put hC (by show 2 ≤ 1000000; decide) (.cons .s (.cons .b .nil)) (by omega) fun H1 hC1 f1 => ?_
    generalize hS1 : cput (Tr.t [Tr.s _, Tr.b true]) S = S1 at hC1
    have l1 : S1.1.length = S.1.length + 1 := by rw [← hS1, cput_len]
    have p1 : Pre S S1 := by rw [← hS1]; exact .put
    walk_at "rdc"
    refine c_mat hC1 (fun _ _ => rfl) ?_
    walk_at "rdc"
    refine u_pl hC1 (by omega) fun H2 hC2 f2 => ?_
    walk_at "rdc"
    rw [l1]
    generalize hS2 : cput (Tr.t [Tr.s _, Tr.n]) S1 = S2 at hC2
    have l2 : S2.1.length = S.1.length + 2 := by rw [← hS2, cput_len, l1]
    have p2 : Pre S S2 := by rw [← hS2]; exact p1.putB
    have d2 : Ld S2 (S.1.length + 1) := by rw [← hS2, ← l1]; exact ⟨_, _, cput_get⟩
    have f02 := f1.trans f2
    have hW2 : H2 wl = some (.lst (ks.map fun k : Nat => V.int (k : Int))) := f02.1 _ _ nwi nwb hW
    refine for_L (xs := ks.map fun k : Nat => V.int (k : Int)) (fun i σ' H' => ∃ x : Option V, σ' = [some (.ref self), some (.ref wl), some (.int ((S.1.length + 1 : Nat) : Int)), x] ∧ CdS K CC self il bl sc sl ow ((ks.take i).foldl (fun S k => cled k S) S2) H' ∧ Fq il bl H H') ⟨none, rfl, hC2, f02⟩ (fun i σ' H' _ h => h.elim fun x h => SqL.of (h.2.2.1 _ _ nwi nwb hW)) ?_ ?_
    · rintro i v σ' H3 hv ⟨x, rfl, hC3, f3⟩
      obtain ⟨k, hk, rfl⟩ : ∃ k, ks[i]? = some k ∧ v = .int (k : Int) := by
        rw [List.getElem?_map] at hv
        cases e : ks[i]? with
        | none => rw [e] at hv; cases hv
        | some a => rw [e] at hv; exact ⟨a, rfl, (Option.some.inj hv).symm⟩
      obtain ⟨hik, ek⟩ := List.getElem?_eq_some_iff.mp hk
      have et : ks.take (i + 1) = ks.take i ++ [k] := by rw [List.take_succ_eq_append_getElem hik, ek]
      have hlm := Lm.leds (ks.take i) S2
      have hld : ∀ (l : List Nat) (S : CS), Ld S k → Ld (l.foldl (fun S k => cled k S) S) k := fun l => by
        induction l with
        | nil => intro S h; exact h
        | cons a l ih => intro S h; exact ih _ h.led
      walk_at "rdc"
      refine c_mat hC3 (fun _ _ => rfl) ?_
      walk_at "rdc"
      refine u_led hC3 (hld _ _ (Ld.pre p2 (hks k (List.mem_of_getElem? hk)))) (by have := hlm.2.1; omega) fun H4 hC4 f4 => ?_
      walk_at "rdc"
      refine ⟨_, rfl, ?_, f3.trans f4⟩
      rw [et, List.foldl_append]
      exact hC4
    · rintro σ' H3 ⟨x, rfl, hC3, f3⟩
      rw [List.length_map, List.take_length] at hC3
      have hlm := Lm.leds ks S2
      have hp3 := hlm.1
      have hq3 := hlm.2.1
      walk_at "rdc"
      refine c_mat hC3 (fun _ _ => rfl) ?_
      walk_at "rdc"
      refine c_put hC3 (by show 2 ≤ 1000000; decide) (.cons .s (.cons .b .nil)) (by omega) fun H4 hC4 f4 => ?_
      walk_at "rdc"
      refine c_mat hC4 (fun _ _ => rfl) ?_
      walk_at "rdc"
      have hld : ∀ (l : List Nat) (S : CS), Ld S (S2.1.length - 1) → Ld (l.foldl (fun S k => cled k S) S) (S2.1.length - 1) := fun l => by
        induction l with
        | nil => intro S h; exact h
        | cons a l ih => intro S h; exact ih _ h.led
      have d3 := hld ks S2 (by rw [show S2.1.length - 1 = S.1.length + 1 by omega]; exact d2)
      rw [show S2.1.length - 1 = S.1.length + 1 by omega] at d3
      refine u_led hC4 (Ld.pre .put d3) (by rw [cput_len]; omega) fun H5 hC5 f5 => ?_
      walk_at "rdc"
      refine kQ H5 ?_ ((f3.trans f4).trans f5)
      have e : ctruth ks S = cled (S.1.length + 1) (cput (.t [str "push", .b false]) (ks.foldl (fun S k => cled k S) S2)) := by
        rw [← hS2, ← hS1]
        unfold ctruth
        show cled (cput (.t [str "push", .b true]) S).1.length _ = _
        rw [cput_len]
        rfl
      rw [e]
      exact hC5
end
end
section
/-! The compiler: lists of parts. -/
open PySem PySem.Spec PyProof.Rows L2
open C8 (Cal Met Mak cal0 pe_c pe_gc pss_cut tCut pe_mt pe_mt0 pe_mk)

def spCP (K : PySem.W.Frag) (CC : Addr) (sh : Nat → Tr → Nat → Prop) (n : Nat) : Sp := fun vs H Q _ => ∃ (self il bl : Addr) (v : V) (t : Tr) (m : Nat) (sc : List Ws) (sl : Ws) (ow : List Nat) (S : CS), vs = [.ref self, v] ∧ CdS K CC self il bl sc sl ow S H ∧ TrB K H v t ∧ sh n t m ∧ (S.1.length + 10 * m ≤ 800000 ∧ S.2.length + m ≤ 800000 ∧ sc.length + n ≤ 500) ∧ CdQ K CC self il bl sc sl ow (cX sl ow n sc t S) H (Q .non)
def spCL (K : PySem.W.Frag) (CC : Addr) (sh : Nat → Tr → Nat → Prop) (n : Nat) : Sp := fun vs H Q _ => ∃ (self il bl p : Addr) (xs : List V) (l : List Tr) (m : Nat) (sc : List Ws) (sl : Ws) (ow : List Nat) (S : CS), vs = [.ref self, .ref p] ∧ CdS K CC self il bl sc sl ow S H ∧ SqT K H p xs ∧ TrsB K H xs l ∧ XL (sh n) l m ∧ (S.1.length + 10 * m ≤ 800000 ∧ S.2.length + m ≤ 800000 ∧ sc.length + n ≤ 500) ∧ CdQ K CC self il bl sc sl ow (cfold (cX sl ow n sc) l S) H (Q .non)
theorem cfold_take {c : Tr → CS → CS} {l : List Tr} {i : Nat} {t : Tr} (h : l[i]? = some t) (S : CS) : cfold c (l.take (i + 1)) S = c t (cfold c (l.take i) S) := by
  obtain ⟨hl, e⟩ := List.getElem?_eq_some_iff.mp h
  rw [List.take_succ_eq_append_getElem hl, e, cfold_append]
  rfl
section
variable {P : Program} {w : World} {K : PySem.W.Frag} {mg : Str → Option Value} {base : Heap} {CC : Addr} {k n : Nat}
abbrev s_Coder_body : Stmt := inClass (topS 4) 7
abbrev N_Coder_body : List Str := ["self", "body", "part"]
theorem sc_Coder_body : FnScope N_Coder_body ["self", "body"] (defScope s_Coder_body) := ⟨rfl, rfl, rfl, by decide +kernel, rfl, by decide +kernel, by decide +kernel⟩
theorem ok_body {f : Addr} {fd : FuncData} (F : Fun K "body" "Coder.body" s_Coder_body f fd) (Z : CdTx K CC) (m_statement : Met P w K mg base k CC "statement" (spCP K CC XS n) []) : FnOk P w K mg base CX0 (k + 1) f fd ["self", "body"] (spCL K CC XS n) := by
  refine F.ok sc_Coder_body (fun vs H Q E h => ?_) (fun cdv A outer s H vs Q E hr h => ?_)
  · obtain ⟨self, il, bl, p, xs, l, m, sc, sl, ow, S, rfl, _⟩ := h
    rfl
  · obtain ⟨self, il, bl, p, xs, l, m, sc, sl, ow, S, rfl, hC, hp, hxs, hL, ⟨b1, b2, b3⟩, kQ⟩ := h
    have nd := sc_Coder_body.nd
    refine ⟨_, (pss_one (ps_for PassesOwn.never rfl (pi_tup (pv 1)) (pg_name (i := 2) nd rfl (Or.inl rfl)) (pss_one (ps_expr (pe_mt m_statement hr (by omega) (pv 0) (pa_cons (pv 2) pa_nil)))))), ?_⟩
    rw [show L2.start N_Coder_body [.ref self, .ref p] = [some (.ref self), some (.ref p), none] from rfl]
    walk_at "rdc"
    refine for_T (xs := xs) (fun i σ' H' => ∃ x : Option V, σ' = [some (.ref self), some (.ref p), x] ∧ CdS K CC self il bl sc sl ow (cfold (cX sl ow n sc) (l.take i) S) H' ∧ Fq il bl H H') ⟨none, rfl, hC, Fq.refl⟩ (fun i σ' H' _ h => h.elim fun x h => hC.sq h.2.2 hp) ?_ ?_
    · rintro i v σ' H1 hv ⟨x, rfl, hC1, f1⟩
      have hil : i < l.length := by rw [← hxs.length]; exact (List.getElem?_eq_some_iff.mp hv).1
      obtain ⟨v', t, h1, h2, hvt⟩ := hxs.get hil
      rw [hv] at h1
      cases h1
      obtain ⟨t', m1, m2, h3, h4, h5, h6⟩ := hL.at i hil
      rw [h2] at h3
      cases h3
      have hlm := h5.lm (c := cX sl ow n sc) (fun t m h => h.lm) S
      obtain ⟨_, q1, _, q2⟩ := hlm
      walk_at "rdc"
      refine c_mat hC1 (fun _ _ => rfl) ?_
      walk_at "rdc"
      refine ⟨self, il, bl, v, t, m2, sc, sl, ow, _, rfl, hC1, hC.tr f1 hvt, h4, ⟨by omega, by omega, b3⟩, fun H2 hC2 f2 => ?_⟩
      walk_at "rdc"
      refine ⟨_, rfl, ?_, f1.trans f2⟩
      rw [cfold_take h2]
      exact hC2
    · rintro σ' H1 ⟨x, rfl, hC1, f1⟩
      rw [hxs.length, List.take_length] at hC1
      walk_at "rdc"
      exact kQ H1 hC1 f1
abbrev s_Coder_expressions : Stmt := inClass (topS 4) 14
abbrev N_Coder_expressions : List Str := ["self", "parts", "part"]
theorem sc_Coder_expressions : FnScope N_Coder_expressions ["self", "parts"] (defScope s_Coder_expressions) := ⟨rfl, rfl, rfl, by decide +kernel, rfl, by decide +kernel, by decide +kernel⟩
theorem ok_expressions {f : Addr} {fd : FuncData} (F : Fun K "expressions" "Coder.expressions" s_Coder_expressions f fd) (Z : CdTx K CC) (m_expression : Met P w K mg base k CC "expression" (spCP K CC XE n) []) : FnOk P w K mg base CX0 (k + 1) f fd ["self", "parts"] (spCL K CC XE n) := by
  refine F.ok sc_Coder_expressions (fun vs H Q E h => ?_) (fun cdv A outer s H vs Q E hr h => ?_)
  · obtain ⟨self, il, bl, p, xs, l, m, sc, sl, ow, S, rfl, _⟩ := h
    rfl
  · obtain ⟨self, il, bl, p, xs, l, m, sc, sl, ow, S, rfl, hC, hp, hxs, hL, ⟨b1, b2, b3⟩, kQ⟩ := h
    have nd := sc_Coder_expressions.nd
    refine ⟨_, (pss_one (ps_for PassesOwn.never rfl (pi_tup (pv 1)) (pg_name (i := 2) nd rfl (Or.inl rfl)) (pss_one (ps_expr (pe_mt m_expression hr (by omega) (pv 0) (pa_cons (pv 2) pa_nil)))))), ?_⟩
    rw [show L2.start N_Coder_expressions [.ref self, .ref p] = [some (.ref self), some (.ref p), none] from rfl]
    walk_at "rdc"
    refine for_T (xs := xs) (fun i σ' H' => ∃ x : Option V, σ' = [some (.ref self), some (.ref p), x] ∧ CdS K CC self il bl sc sl ow (cfold (cX sl ow n sc) (l.take i) S) H' ∧ Fq il bl H H') ⟨none, rfl, hC, Fq.refl⟩ (fun i σ' H' _ h => h.elim fun x h => hC.sq h.2.2 hp) ?_ ?_
    · rintro i v σ' H1 hv ⟨x, rfl, hC1, f1⟩
      have hil : i < l.length := by rw [← hxs.length]; exact (List.getElem?_eq_some_iff.mp hv).1
      obtain ⟨v', t, h1, h2, hvt⟩ := hxs.get hil
      rw [hv] at h1
      cases h1
      obtain ⟨t', m1, m2, h3, h4, h5, h6⟩ := hL.at i hil
      rw [h2] at h3
      cases h3
      have hlm := h5.lm (c := cX sl ow n sc) (fun t m h => h.lm) S
      obtain ⟨_, q1, _, q2⟩ := hlm
      walk_at "rdc"
      refine c_mat hC1 (fun _ _ => rfl) ?_
      walk_at "rdc"
      refine ⟨self, il, bl, v, t, m2, sc, sl, ow, _, rfl, hC1, hC.tr f1 hvt, h4, ⟨by omega, by omega, b3⟩, fun H2 hC2 f2 => ?_⟩
      walk_at "rdc"
      refine ⟨_, rfl, ?_, f1.trans f2⟩
      rw [cfold_take h2]
      exact hC2
    · rintro σ' H1 ⟨x, rfl, hC1, f1⟩
      rw [hxs.length, List.take_length] at hC1
      walk_at "rdc"
      exact kQ H1 hC1 f1
end
end
section
/-! The compiler: parts with jumps. -/
open PySem PySem.Spec PyProof.Rows L2
open C8 (Cal Met Mak cal0 pe_c pe_gc pss_cut tCut pe_mt pe_mt0 pe_mk)

theorem TrB.tupV {K : PySem.W.Frag} {H : Hp} {v : V} {l : List Tr} (h : TrB K H v (.t l)) : ∃ p xs, v = .ref p ∧ SqT K H p xs ∧ TrsB K H xs l ∧ blkOk H xs l := by
  cases h with
  | mk a b c => exact ⟨_, _, rfl, a, b, c⟩
section
variable {K : PySem.W.Frag} {CC self il bl : Addr} {sc : List Ws} {sl : Ws} {ow : List Nat} {S : CS} {H : Hp} {Q : VK} {E : XK} {σ : L2.St} {t : TA} {m : Str} {sp : Sp} {dvs : List V}
theorem v_put {xs : List V} {ts : List Tr} (hC : CdS K CC self il bl sc sl ow S H) (n : xs.length ≤ 1000000) (ht : TrsAt K H xs ts) (hl : S.1.length ≤ 900000) (k : ∀ H' S', S' = cput (.t ts) S → S'.1.length = S.1.length + 1 → S'.2.length = S.2.length → Pre S S' → CdS K CC self il bl sc sl ow S' H' → Fq il bl H H' → Q .non H') : NewT xs H (fun v H1 => tNil σ H1 fun vs H2 => spCPut K CC (.ref self :: (v :: vs ++ [])) H2 Q E) :=
  c_put hC n ht hl fun H' hC' f => k H' _ rfl cput_len rfl .put hC' f
theorem v_pl {a : List Nat} (hC : CdS K CC self il bl sc sl ow S H) (hl : S.1.length ≤ 900000) (k : ∀ H' S', S' = cput (.t [.s a, .n]) S → S'.1.length = S.1.length + 1 → S'.2.length = S.2.length → Pre S S' → Ld S' S.1.length → CdS K CC self il bl sc sl ow S' H' → Fq il bl H H' → Q (.int (S.1.length : Int)) H') : spCPl K CC (.ref self :: ([T a] ++ [])) H Q E :=
  u_pl hC hl fun H' hC' f => k H' _ rfl cput_len rfl .put ⟨_, _, cput_get⟩ hC' f
theorem v_led {j : Nat} (hC : CdS K CC self il bl sc sl ow S H) (hj : Ld S j) (hl : S.1.length ≤ 900000) (k : ∀ H' S', S' = cled j S → S'.1.length = S.1.length → S'.2.length = S.2.length → (∀ i, Ld S i → Ld S' i) → CdS K CC self il bl sc sl ow S' H' → Fq il bl H H' → Q .non H') : spCLed K CC (.ref self :: ([.int (j : Int)] ++ [])) H Q E :=
  u_led hC hj hl fun H' hC' f => k H' _ rfl (by show (S.1.set j _).length = _; rw [List.length_set]) rfl (fun i h => h.led) hC' f
theorem v_in {a : List Nat} (hC : CdS K CC self il bl sc sl ow S H) (hl : S.1.length ≤ 900000) (k : ∀ H' S', S' = cput (.t [str "set", plcT a sl 0 sc]) S → S'.1.length = S.1.length + 1 → S'.2.length = S.2.length → Pre S S' → CdS K CC self il bl sc sl ow S' H' → Fq il bl H H' → Q .non H') : spCIn K CC (.ref self :: ([T a] ++ [])) H Q E :=
  u_in hC hl fun H' hC' f => k H' _ rfl cput_len rfl .put hC' f
theorem v_e {n : Nat} {v : V} {tr : Tr} {j : Nat} (hC : CdS K CC self il bl sc sl ow S H) (hv : TrB K H v tr) (hs : XE n tr j) (hb : S.1.length + 10 * j ≤ 800000 ∧ S.2.length + j ≤ 800000 ∧ sc.length + n ≤ 500) (k : ∀ H' S', S' = cX sl ow n sc tr S → Lm S S' (10 * j) j → Pre S S' → CdS K CC self il bl sc sl ow S' H' → Fq il bl H H' → Q .non H') : spCP K CC XE n (.ref self :: ([v] ++ [])) H Q E :=
  ⟨self, il, bl, v, tr, j, sc, sl, ow, S, rfl, hC, hv, hs, hb, fun H2 hC2 f2 => k H2 _ rfl (hs.lm S) (cX_pre _ _ _ _ _ _) hC2 f2⟩
theorem v_b {n : Nat} {v : V} {l : List Tr} {j : Nat} (hC : CdS K CC self il bl sc sl ow S H) (hv : TrB K H v (.t l)) (hs : XL (XS n) l j) (hb : S.1.length + 10 * j ≤ 800000 ∧ S.2.length + j ≤ 800000 ∧ sc.length + n ≤ 500) (k : ∀ H' S', S' = cfold (cX sl ow n sc) l S → Lm S S' (10 * j) j → Pre S S' → CdS K CC self il bl sc sl ow S' H' → Fq il bl H H' → Q .non H') : spCL K CC XS n (.ref self :: ([v] ++ [])) H Q E := by
  obtain ⟨p, xs, rfl, h1, h2, _⟩ := hv.tupV
  exact ⟨self, il, bl, p, xs, l, j, sc, sl, ow, S, rfl, hC, h1, h2, hs, hb, fun H2 hC2 f2 => k H2 _ rfl (hs.lm (fun t m h => h.lm) S) (cXs_pre _ _ _ _ _ _) hC2 f2⟩
theorem v_es {n : Nat} {v : V} {l : List Tr} {j : Nat} (hC : CdS K CC self il bl sc sl ow S H) (hv : TrB K H v (.t l)) (hs : XL (XE n) l j) (hb : S.1.length + 10 * j ≤ 800000 ∧ S.2.length + j ≤ 800000 ∧ sc.length + n ≤ 500) (k : ∀ H' S', S' = cfold (cX sl ow n sc) l S → Lm S S' (10 * j) j → Pre S S' → CdS K CC self il bl sc sl ow S' H' → Fq il bl H H' → Q .non H') : spCL K CC XE n (.ref self :: ([v] ++ [])) H Q E := by
  obtain ⟨p, xs, rfl, h1, h2, _⟩ := hv.tupV
  exact ⟨self, il, bl, p, xs, l, j, sc, sl, ow, S, rfl, hC, h1, h2, hs, hb, fun H2 hC2 f2 => k H2 _ rfl (hs.lm (fun t m h => h.lm) S) (cXs_pre _ _ _ _ _ _) hC2 f2⟩
theorem v_tru {ks : List Nat} {wl : Addr} (hC : CdS K CC self il bl sc sl ow S H) (hw : H wl = some (.lst (ks.map fun k : Nat => V.int (k : Int)))) (n1 : wl ≠ il) (n2 : wl ≠ bl) (hk : ∀ k ∈ ks, Ld S k) (hl : S.1.length ≤ 890000) (k : ∀ H' S', S' = ctruth ks S → Lm S S' 3 0 → ((∀ S0, Pre S0 S → (∀ k ∈ ks, S0.1.length ≤ k) → Pre S0 S')) → CdS K CC self il bl sc sl ow S' H' → Fq il bl H H' → Q .non H') : spCTru K CC (.ref self :: ([.ref wl] ++ [])) H Q E :=
  ⟨self, il, bl, wl, ks, sc, sl, ow, S, rfl, hC, hw, n1, n2, hk, hl, fun H2 hC2 f2 => k H2 _ rfl Lm.truth (fun S0 p h => p.truth h) hC2 f2⟩
theorem CdS.new (hC : CdS K CC self il bl sc sl ow S H) {q : Addr} (h : H q = none) : q ≠ il ∧ q ≠ bl := by
  obtain ⟨dx, sD, tS, xv, iv, bv, n1, n2, n3, hs, hD, hSc, hT, hI, hIt, hB, hBt, hsl⟩ := hC
  exact ⟨fun e => (by rw [e, hI] at h; cases h), fun e => (by rw [e, hB] at h; cases h)⟩
end
section
variable {P : Program} {w : World} {K : PySem.W.Frag} {mg : Str → Option Value} {base : Heap} {CC : Addr} {k n : Nat}
/-- the small methods -/
structure CdM (P : Program) (w : World) (K : PySem.W.Frag) (mg : Str → Option Value) (base : Heap) (CC : Addr) : Prop where
  Y : Bn mg
  Z : CdTx K CC
  c_place_of : Cal P w K mg base 1 "place_of" (spPlace K) []
  m_put : Met P w K mg base 1 CC "put" (spCPut K CC) []
  m_put_leading : Met P w K mg base 2 CC "put_leading" (spCPl K CC) []
  m_lead_here : Met P w K mg base 1 CC "lead_here" (spCLed K CC) []
  m_put_into : Met P w K mg base 2 CC "put_into" (spCIn K CC) []
  m_end_with_none : Met P w K mg base 2 CC "end_with_none" (spCEn K CC) []
  m_code : Met P w K mg base 1 CC "code" (spCCode K CC) []
  m_truth : Met P w K mg base 3 CC "truth" (spCTru K CC) []
  c_Coder : Mak P w K mg base 1 "Coder" CC (spCIni K CC) []
abbrev s_Coder_loop : Stmt := inClass (topS 4) 9
abbrev N_Coder_loop : List Str := ["self", "test", "body", "start", "leave"]
theorem sc_Coder_loop : FnScope N_Coder_loop ["self", "test", "body"] (defScope s_Coder_loop) := ⟨rfl, rfl, rfl, by decide +kernel, rfl, by decide +kernel, by decide +kernel⟩
def spCWhl (K : PySem.W.Frag) (CC : Addr) (n : Nat) : Sp := fun vs H Q _ => ∃ (self il bl : Addr) (v u : V) (t : Tr) (l : List Tr) (m1 m2 : Nat) (sc : List Ws) (sl : Ws) (ow : List Nat) (S : CS), vs = [.ref self, v, u] ∧ CdS K CC self il bl sc sl ow S H ∧ TrB K H v t ∧ XE n t m1 ∧ TrB K H u (.t l) ∧ XL (XS n) l m2 ∧ (S.1.length + 10 * (m1 + m2 + 1) ≤ 800000 ∧ S.2.length + (m1 + m2) ≤ 800000 ∧ sc.length + n ≤ 500) ∧ CdQ K CC self il bl sc sl ow (cWhl (cX sl ow n) sc t l S) H (Q .non)
theorem ok_loop {f : Addr} {fd : FuncData} (F : Fun K "loop" "Coder.loop" s_Coder_loop f fd) (M : CdM P w K mg base CC) (hk : 3 ≤ k) (m_expression : Met P w K mg base k CC "expression" (spCP K CC XE n) []) (m_body : Met P w K mg base k CC "body" (spCL K CC XS n) []) : FnOk P w K mg base CX0 (k + 1) f fd ["self", "test", "body"] (spCWhl K CC n) := by
  have Y := M.Y
  have m_put := M.m_put
  have m_put_leading := M.m_put_leading
  have m_lead_here := M.m_lead_here
  refine F.ok sc_Coder_loop (fun vs H Q E h => ?_) (fun cdv A outer s H vs Q E hr h => ?_)
  · obtain ⟨self, il, bl, v, u, t, l, m1, m2, sc, sl, ow, S, rfl, _⟩ := h
    rfl
  · obtain ⟨self, il, bl, v, u, t, l, m1, m2, sc, sl, ow, S, rfl, hC, hv, hs, hu, hL, ⟨b1, b2, b3⟩, kQ⟩ := h
    obtain ⟨dx, sD, tS, xv, iv, bv, n1, n2, n3, hself, hD, hSc, hT, hI, hIt, hB, hBt, hsl⟩ := id hC
    have e0 := hIt.length
    have nd := sc_Coder_loop.nd
    refine ⟨_, (pss_cons (ps_set (i := 3) nd rfl (Or.inl rfl) (pe_callB call_lenL (by rfl) Y.n_len (by decide +kernel) (pa_cons (pe_fld (pv 0) rfl) pa_nil)))
      (pss_cons (ps_expr (pe_mt m_expression hr (by omega) (pv 0) (pa_cons (pv 1) pa_nil)))
      (pss_cons (ps_set (i := 4) nd rfl (Or.inl rfl) (pe_mt m_put_leading hr (by omega) (pv 0) (pa_cons pe_str pa_nil)))
      (pss_cons (ps_expr (pe_mt m_body hr (by omega) (pv 0) (pa_cons (pv 2) pa_nil)))
      (pss_cons (ps_expr (pe_mt m_put hr (by omega) (pv 0) (pa_cons (pe_tup (pa_cons pe_str (pa_cons (pv 3) pa_nil))) pa_nil)))
      (pss_one (ps_expr (pe_mt m_lead_here hr (by omega) (pv 0) (pa_cons (pv 4) pa_nil))))))))), ?_⟩
    rw [show L2.start N_Coder_loop [.ref self, v, u] = [some (.ref self), some v, some u, none, none] from rfl]
    walk_at "rdc"
    refine o_fat hself M.Z.cl M.Z.n_instructions rfl ?_
    walk_at "rdc"
    rw [e0]
    refine c_mat hC (fun _ _ => rfl) ?_
    walk_at "rdc"
    refine v_e hC hv hs ⟨by omega, by omega, b3⟩ fun H1 S1 e1 L1 p1 hC1 f1 => ?_
    obtain ⟨q1, q2, q3, q4⟩ := L1
    walk_at "rdc"
    refine c_mat hC1 (fun _ _ => rfl) ?_
    walk_at "rdc"
    refine v_pl hC1 (by omega) fun H2 S2 e2 q5 q6 p2 d2 hC2 f2 => ?_
    walk_at "rdc"
    refine c_mat hC2 (fun _ _ => rfl) ?_
    walk_at "rdc"
    refine v_b hC2 (hC1.tr f2 (hC.tr f1 hu)) hL ⟨by omega, by omega, b3⟩ fun H3 S3 e3 L3 p3 hC3 f3 => ?_
    obtain ⟨q7, q8, q9, q10⟩ := L3
    walk_at "rdc"
    refine c_mat hC3 (fun _ _ => rfl) ?_
    walk_at "rdc"
    refine v_put hC3 (by show 2 ≤ 1000000; decide) (.cons .s (.cons .i .nil)) (by omega) fun H4 S4 e4 q11 q12 p4 hC4 f4 => ?_
    walk_at "rdc"
    refine c_mat hC4 (fun _ _ => rfl) ?_
    walk_at "rdc"
    refine v_led hC4 (Ld.pre (p3.trans p4) d2) (by omega) fun H5 S5 e5 q13 q14 g5 hC5 f5 => ?_
    walk_at "rdc"
    subst e5 e4 e3 e2 e1
    exact kQ H5 hC5 ((((f1.trans f2).trans f3).trans f4).trans f5)
abbrev s_Coder_choice : Stmt := inClass (topS 4) 10
abbrev N_Coder_choice : List Str := ["self", "test", "body", "other", "wrong", "leave"]
theorem sc_Coder_choice : FnScope N_Coder_choice ["self", "test", "body", "other"] (defScope s_Coder_choice) := ⟨rfl, rfl, rfl, by decide +kernel, rfl, by decide +kernel, by decide +kernel⟩
def spCIf (K : PySem.W.Frag) (CC : Addr) (n : Nat) : Sp := fun vs H Q _ => ∃ (self il bl : Addr) (v u u2 : V) (t : Tr) (l l2 : List Tr) (m1 m2 m3 : Nat) (sc : List Ws) (sl : Ws) (ow : List Nat) (S : CS), vs = [.ref self, v, u, u2] ∧ CdS K CC self il bl sc sl ow S H ∧ TrB K H v t ∧ XE n t m1 ∧ TrB K H u (.t l) ∧ XL (XS n) l m2 ∧ TrB K H u2 (.t l2) ∧ XL (XS n) l2 m3 ∧ (S.1.length + 10 * (m1 + m2 + m3 + 1) ≤ 800000 ∧ S.2.length + (m1 + m2 + m3) ≤ 800000 ∧ sc.length + n ≤ 500) ∧ CdQ K CC self il bl sc sl ow (if l2.isEmpty = true then cIf0 (cX sl ow n) sc t l S else cIf1 (cX sl ow n) sc t l l2 S) H (Q .non)
theorem ok_choice {f : Addr} {fd : FuncData} (F : Fun K "choice" "Coder.choice" s_Coder_choice f fd) (M : CdM P w K mg base CC) (hk : 3 ≤ k) (m_expression : Met P w K mg base k CC "expression" (spCP K CC XE n) []) (m_body : Met P w K mg base k CC "body" (spCL K CC XS n) []) : FnOk P w K mg base CX0 (k + 1) f fd ["self", "test", "body", "other"] (spCIf K CC n) := by
  have Y := M.Y
  have m_put := M.m_put
  have m_put_leading := M.m_put_leading
  have m_lead_here := M.m_lead_here
  have m_put_into := M.m_put_into
  have m_truth := M.m_truth
  refine F.ok sc_Coder_choice (fun vs H Q E h => ?_) (fun cdv A outer s H vs Q E hr h => ?_)
  · obtain ⟨self, il, bl, v, u, u2, t, l, l2, m1, m2, m3, sc, sl, ow, S, rfl, _⟩ := h
    rfl
  · obtain ⟨self, il, bl, v, u, u2, t, l, l2, m1, m2, m3, sc, sl, ow, S, rfl, hC, hv, hs, hu, hL, hu2, hL2, ⟨b1, b2, b3⟩, kQ⟩ := h
    have nd := sc_Coder_choice.nd
    refine ⟨_, (pss_cons (ps_expr (pe_mt m_expression hr (by omega) (pv 0) (pa_cons (pv 1) pa_nil)))
      (pss_cons (ps_set (i := 4) nd rfl (Or.inl rfl) (pe_mt m_put_leading hr (by omega) (pv 0) (pa_cons pe_str pa_nil)))
      (pss_cons (ps_expr (pe_mt m_body hr (by omega) (pv 0) (pa_cons (pv 2) pa_nil)))
      (pss_cons (ps_if (pt_not (pt_tru (pv 3))) (pss_cons (ps_expr (pe_mt m_lead_here hr (by omega) (pv 0) (pa_cons (pv 4) pa_nil)))
      (pss_one ps_retN)) pss_nil)
      (pss_cons (ps_set (i := 5) nd rfl (Or.inl rfl) (pe_mt m_put_leading hr (by omega) (pv 0) (pa_cons pe_str pa_nil)))
      (pss_cons (ps_expr (pe_mt m_lead_here hr (by omega) (pv 0) (pa_cons (pv 4) pa_nil)))
      (pss_cons (ps_expr (pe_mt m_body hr (by omega) (pv 0) (pa_cons (pv 3) pa_nil)))
      (pss_one (ps_expr (pe_mt m_lead_here hr (by omega) (pv 0) (pa_cons (pv 5) pa_nil))))))))))), ?_⟩
    rw [show L2.start N_Coder_choice [.ref self, v, u, u2] = [some (.ref self), some v, some u, some u2, none, none] from rfl]
    walk_at "rdc"
    refine c_mat hC (fun _ _ => rfl) ?_
    walk_at "rdc"
    refine v_e hC hv hs ⟨by omega, by omega, b3⟩ fun H1 S1 e1 L1 p1 hC1 f1 => ?_
    obtain ⟨qa1, qb1, qc1, qd1⟩ := L1
    have F1 := f1
    walk_at "rdc"
    refine c_mat hC1 (fun _ _ => rfl) ?_
    walk_at "rdc"
    refine v_pl hC1 (by omega) fun H2 S2 e2 qa2 qb2 p2 d2 hC2 f2 => ?_
    have F2 := F1.trans f2
    walk_at "rdc"
    refine c_mat hC2 (fun _ _ => rfl) ?_
    walk_at "rdc"
    refine v_b hC2 (hC.tr F2 hu) hL ⟨by omega, by omega, b3⟩ fun H3 S3 e3 L3 p3 hC3 f3 => ?_
    obtain ⟨qa3, qb3, qc3, qd3⟩ := L3
    have F3 := F2.trans f3
    walk_at "rdc"
    obtain ⟨pt4, xs4, rfl, hp4, hx4, _⟩ := (hC.tr F3 hu2).tupV
    refine w_truT hp4 (fun hne => ?_) (fun hem => ?_)
    · have hl2 : l2 ≠ [] := fun e => hne (List.length_eq_zero_iff.mp (by rw [hx4.length, e]; rfl))
      rw [if_neg (by cases l2 with | nil => exact absurd rfl hl2 | cons a b => exact Bool.false_ne_true)] at kQ
      walk_at "rdc"
      refine c_mat hC3 (fun _ _ => rfl) ?_
      walk_at "rdc"
      refine v_pl hC3 (by omega) fun H4 S4 e4 qa4 qb4 p4 d4 hC4 f4 => ?_
      have F4 := F3.trans f4
      walk_at "rdc"
      refine c_mat hC4 (fun _ _ => rfl) ?_
      walk_at "rdc"
      refine v_led hC4 (Ld.pre (p3.trans p4) d2) (by omega) fun H5 S5 e5 qa5 qb5 g5 hC5 f5 => ?_
      have F5 := F4.trans f5
      walk_at "rdc"
      refine c_mat hC5 (fun _ _ => rfl) ?_
      walk_at "rdc"
      refine v_b hC5 (hC.tr F5 hu2) hL2 ⟨by omega, by omega, b3⟩ fun H6 S6 e6 L6 p6 hC6 f6 => ?_
      obtain ⟨qa6, qb6, qc6, qd6⟩ := L6
      have F6 := F5.trans f6
      walk_at "rdc"
      refine c_mat hC6 (fun _ _ => rfl) ?_
      walk_at "rdc"
      refine v_led hC6 ((Ld.pre p6 (g5 _ d4))) (by omega) fun H7 S7 e7 qa7 qb7 g7 hC7 f7 => ?_
      have F7 := F6.trans f7
      walk_at "rdc"
      subst e7 e6 e5 e4 e3 e2 e1
      exact kQ H7 hC7 F7
    · have hl2 : l2 = [] := List.length_eq_zero_iff.mp (by rw [← hx4.length, hem]; rfl)
      rw [if_pos (by rw [hl2]; rfl)] at kQ
      walk_at "rdc"
      refine c_mat hC3 (fun _ _ => rfl) ?_
      walk_at "rdc"
      refine v_led hC3 (Ld.pre p3 d2) (by omega) fun H4 S4 e4 qa4 qb4 g4 hC4 f4 => ?_
      have F4 := F3.trans f4
      walk_at "rdc"
      subst e4 e3 e2 e1
      exact kQ H4 hC4 F4
abbrev s_Coder_attempt : Stmt := inClass (topS 4) 11
abbrev N_Coder_attempt : List Str := ["self", "body", "name", "handler", "failed", "leave"]
theorem sc_Coder_attempt : FnScope N_Coder_attempt ["self", "body", "name", "handler"] (defScope s_Coder_attempt) := ⟨rfl, rfl, rfl, by decide +kernel, rfl, by decide +kernel, by decide +kernel⟩
def spCTry (K : PySem.W.Frag) (CC : Addr) (n : Nat) : Sp := fun vs H Q _ => ∃ (self il bl : Addr) (u u2 : V) (a : List Nat) (l l2 : List Tr) (m2 m3 : Nat) (sc : List Ws) (sl : Ws) (ow : List Nat) (S : CS), vs = [.ref self, u, T a, u2] ∧ CdS K CC self il bl sc sl ow S H ∧ TrB K H u (.t l) ∧ XL (XS n) l m2 ∧ TrB K H u2 (.t l2) ∧ XL (XS n) l2 m3 ∧ (S.1.length + 10 * (m2 + m3 + 1) ≤ 800000 ∧ S.2.length + (m2 + m3) ≤ 800000 ∧ sc.length + n ≤ 500) ∧ CdQ K CC self il bl sc sl ow (cTry (cX sl ow n) sl sc l a l2 S) H (Q .non)
theorem ok_attempt {f : Addr} {fd : FuncData} (F : Fun K "attempt" "Coder.attempt" s_Coder_attempt f fd) (M : CdM P w K mg base CC) (hk : 3 ≤ k) (m_body : Met P w K mg base k CC "body" (spCL K CC XS n) []) : FnOk P w K mg base CX0 (k + 1) f fd ["self", "body", "name", "handler"] (spCTry K CC n) := by
  have Y := M.Y
  have m_put := M.m_put
  have m_put_leading := M.m_put_leading
  have m_lead_here := M.m_lead_here
  have m_put_into := M.m_put_into
  have m_truth := M.m_truth
  refine F.ok sc_Coder_attempt (fun vs H Q E h => ?_) (fun cdv A outer s H vs Q E hr h => ?_)
  · obtain ⟨self, il, bl, u, u2, a, l, l2, m2, m3, sc, sl, ow, S, rfl, _⟩ := h
    rfl
  · obtain ⟨self, il, bl, u, u2, a, l, l2, m2, m3, sc, sl, ow, S, rfl, hC, hu, hL, hu2, hL2, ⟨b1, b2, b3⟩, kQ⟩ := h
    have nd := sc_Coder_attempt.nd
    refine ⟨_, (pss_cons (ps_set (i := 4) nd rfl (Or.inl rfl) (pe_mt m_put_leading hr (by omega) (pv 0) (pa_cons pe_str pa_nil)))
      (pss_cons (ps_expr (pe_mt m_body hr (by omega) (pv 0) (pa_cons (pv 1) pa_nil)))
      (pss_cons (ps_expr (pe_mt m_put hr (by omega) (pv 0) (pa_cons (pe_tup (pa_cons pe_str pa_nil)) pa_nil)))
      (pss_cons (ps_set (i := 5) nd rfl (Or.inl rfl) (pe_mt m_put_leading hr (by omega) (pv 0) (pa_cons pe_str pa_nil)))
      (pss_cons (ps_expr (pe_mt m_lead_here hr (by omega) (pv 0) (pa_cons (pv 4) pa_nil)))
      (pss_cons (ps_expr (pe_mt m_put_into hr (by omega) (pv 0) (pa_cons (pv 2) pa_nil)))
      (pss_cons (ps_expr (pe_mt m_body hr (by omega) (pv 0) (pa_cons (pv 3) pa_nil)))
      (pss_one (ps_expr (pe_mt m_lead_here hr (by omega) (pv 0) (pa_cons (pv 5) pa_nil))))))))))), ?_⟩
    rw [show L2.start N_Coder_attempt [.ref self, u, T a, u2] = [some (.ref self), some u, some (T a), some u2, none, none] from rfl]
    walk_at "rdc"
    refine c_mat hC (fun _ _ => rfl) ?_
    walk_at "rdc"
    refine v_pl hC (by omega) fun H1 S1 e1 qa1 qb1 p1 d1 hC1 f1 => ?_
    have F1 := f1
    walk_at "rdc"
    refine c_mat hC1 (fun _ _ => rfl) ?_
    walk_at "rdc"
    refine v_b hC1 (hC.tr F1 hu) hL ⟨by omega, by omega, b3⟩ fun H2 S2 e2 L2 p2 hC2 f2 => ?_
    obtain ⟨qa2, qb2, qc2, qd2⟩ := L2
    have F2 := F1.trans f2
    walk_at "rdc"
    refine c_mat hC2 (fun _ _ => rfl) ?_
    walk_at "rdc"
    refine v_put hC2 (by show 1 ≤ 1000000; decide) (.cons .s .nil) (by omega) fun H3 S3 e3 qa3 qb3 p3 hC3 f3 => ?_
    have F3 := F2.trans f3
    walk_at "rdc"
    refine c_mat hC3 (fun _ _ => rfl) ?_
    walk_at "rdc"
    refine v_pl hC3 (by omega) fun H4 S4 e4 qa4 qb4 p4 d4 hC4 f4 => ?_
    have F4 := F3.trans f4
    walk_at "rdc"
    refine c_mat hC4 (fun _ _ => rfl) ?_
    walk_at "rdc"
    refine v_led hC4 (Ld.pre ((p2.trans p3).trans p4) d1) (by omega) fun H5 S5 e5 qa5 qb5 g5 hC5 f5 => ?_
    have F5 := F4.trans f5
    walk_at "rdc"
    refine c_mat hC5 (fun _ _ => rfl) ?_
    walk_at "rdc"
    refine v_in hC5 (by omega) fun H6 S6 e6 qa6 qb6 p6 hC6 f6 => ?_
    have F6 := F5.trans f6
    walk_at "rdc"
    refine c_mat hC6 (fun _ _ => rfl) ?_
    walk_at "rdc"
    refine v_b hC6 (hC.tr F6 hu2) hL2 ⟨by omega, by omega, b3⟩ fun H7 S7 e7 L7 p7 hC7 f7 => ?_
    obtain ⟨qa7, qb7, qc7, qd7⟩ := L7
    have F7 := F6.trans f7
    walk_at "rdc"
    refine c_mat hC7 (fun _ _ => rfl) ?_
    walk_at "rdc"
    refine v_led hC7 (Ld.pre (p6.trans p7) (g5 _ d4)) (by omega) fun H8 S8 e8 qa8 qb8 g8 hC8 f8 => ?_
    have F8 := F7.trans f8
    walk_at "rdc"
    subst e8 e7 e6 e5 e4 e3 e2 e1
    exact kQ H8 hC8 F8
abbrev s_Coder_kept : Stmt := inClass (topS 4) 12
abbrev N_Coder_kept : List Str := ["self", "body", "last", "left"]
theorem sc_Coder_kept : FnScope N_Coder_kept ["self", "body", "last"] (defScope s_Coder_kept) := ⟨rfl, rfl, rfl, by decide +kernel, rfl, by decide +kernel, by decide +kernel⟩
def spCKeep (K : PySem.W.Frag) (CC : Addr) (n : Nat) : Sp := fun vs H Q _ => ∃ (self il bl : Addr) (u u2 : V) (l l2 : List Tr) (m2 m3 : Nat) (sc : List Ws) (sl : Ws) (ow : List Nat) (S : CS), vs = [.ref self, u, u2] ∧ CdS K CC self il bl sc sl ow S H ∧ TrB K H u (.t l) ∧ XL (XS n) l m2 ∧ TrB K H u2 (.t l2) ∧ XL (XS n) l2 m3 ∧ (S.1.length + 10 * (m2 + m3 + 1) ≤ 800000 ∧ S.2.length + (m2 + m3) ≤ 800000 ∧ sc.length + n ≤ 500) ∧ CdQ K CC self il bl sc sl ow (cKeep (cX sl ow n) sc l l2 S) H (Q .non)
theorem ok_kept {f : Addr} {fd : FuncData} (F : Fun K "kept" "Coder.kept" s_Coder_kept f fd) (M : CdM P w K mg base CC) (hk : 3 ≤ k) (m_body : Met P w K mg base k CC "body" (spCL K CC XS n) []) : FnOk P w K mg base CX0 (k + 1) f fd ["self", "body", "last"] (spCKeep K CC n) := by
  have Y := M.Y
  have m_put := M.m_put
  have m_put_leading := M.m_put_leading
  have m_lead_here := M.m_lead_here
  have m_put_into := M.m_put_into
  have m_truth := M.m_truth
  refine F.ok sc_Coder_kept (fun vs H Q E h => ?_) (fun cdv A outer s H vs Q E hr h => ?_)
  · obtain ⟨self, il, bl, u, u2, l, l2, m2, m3, sc, sl, ow, S, rfl, _⟩ := h
    rfl
  · obtain ⟨self, il, bl, u, u2, l, l2, m2, m3, sc, sl, ow, S, rfl, hC, hu, hL, hu2, hL2, ⟨b1, b2, b3⟩, kQ⟩ := h
    have nd := sc_Coder_kept.nd
    refine ⟨_, (pss_cons (ps_set (i := 3) nd rfl (Or.inl rfl) (pe_mt m_put_leading hr (by omega) (pv 0) (pa_cons pe_str pa_nil)))
      (pss_cons (ps_expr (pe_mt m_body hr (by omega) (pv 0) (pa_cons (pv 1) pa_nil)))
      (pss_cons (ps_expr (pe_mt m_put hr (by omega) (pv 0) (pa_cons (pe_tup (pa_cons pe_str pa_nil)) pa_nil)))
      (pss_cons (ps_expr (pe_mt m_lead_here hr (by omega) (pv 0) (pa_cons (pv 3) pa_nil)))
      (pss_cons (ps_expr (pe_mt m_body hr (by omega) (pv 0) (pa_cons (pv 2) pa_nil)))
      (pss_one (ps_expr (pe_mt m_put hr (by omega) (pv 0) (pa_cons (pe_tup (pa_cons pe_str pa_nil)) pa_nil))))))))), ?_⟩
    rw [show L2.start N_Coder_kept [.ref self, u, u2] = [some (.ref self), some u, some u2, none] from rfl]
    walk_at "rdc"
    refine c_mat hC (fun _ _ => rfl) ?_
    walk_at "rdc"
    refine v_pl hC (by omega) fun H1 S1 e1 qa1 qb1 p1 d1 hC1 f1 => ?_
    have F1 := f1
    walk_at "rdc"
    refine c_mat hC1 (fun _ _ => rfl) ?_
    walk_at "rdc"
    refine v_b hC1 (hC.tr F1 hu) hL ⟨by omega, by omega, b3⟩ fun H2 S2 e2 L2 p2 hC2 f2 => ?_
    obtain ⟨qa2, qb2, qc2, qd2⟩ := L2
    have F2 := F1.trans f2
    walk_at "rdc"
    refine c_mat hC2 (fun _ _ => rfl) ?_
    walk_at "rdc"
    refine v_put hC2 (by show 1 ≤ 1000000; decide) (.cons .s .nil) (by omega) fun H3 S3 e3 qa3 qb3 p3 hC3 f3 => ?_
    have F3 := F2.trans f3
    walk_at "rdc"
    refine c_mat hC3 (fun _ _ => rfl) ?_
    walk_at "rdc"
    refine v_led hC3 (Ld.pre (p2.trans p3) d1) (by omega) fun H4 S4 e4 qa4 qb4 g4 hC4 f4 => ?_
    have F4 := F3.trans f4
    walk_at "rdc"
    refine c_mat hC4 (fun _ _ => rfl) ?_
    walk_at "rdc"
    refine v_b hC4 (hC.tr F4 hu2) hL2 ⟨by omega, by omega, b3⟩ fun H5 S5 e5 L5 p5 hC5 f5 => ?_
    obtain ⟨qa5, qb5, qc5, qd5⟩ := L5
    have F5 := F4.trans f5
    walk_at "rdc"
    refine c_mat hC5 (fun _ _ => rfl) ?_
    walk_at "rdc"
    refine v_put hC5 (by show 1 ≤ 1000000; decide) (.cons .s .nil) (by omega) fun H6 S6 e6 qa6 qb6 p6 hC6 f6 => ?_
    have F6 := F5.trans f6
    walk_at "rdc"
    subst e6 e5 e4 e3 e2 e1
    exact kQ H6 hC6 F6
abbrev s_Coder_both : Stmt := inClass (topS 4) 15
abbrev N_Coder_both : List Str := ["self", "left", "right", "first", "second"]
theorem sc_Coder_both : FnScope N_Coder_both ["self", "left", "right"] (defScope s_Coder_both) := ⟨rfl, rfl, rfl, by decide +kernel, rfl, by decide +kernel, by decide +kernel⟩
def spCBin (K : PySem.W.Frag) (CC : Addr) (n : Nat) (G : (List Ws → Tr → CS → CS) → List Ws → Tr → Tr → CS → CS) : Sp := fun vs H Q _ => ∃ (self il bl : Addr) (v u : V) (t t2 : Tr) (m1 m2 : Nat) (sc : List Ws) (sl : Ws) (ow : List Nat) (S : CS), vs = [.ref self, v, u] ∧ CdS K CC self il bl sc sl ow S H ∧ TrB K H v t ∧ XE n t m1 ∧ TrB K H u t2 ∧ XE n t2 m2 ∧ (S.1.length + 10 * (m1 + m2 + 1) ≤ 800000 ∧ S.2.length + (m1 + m2) ≤ 800000 ∧ sc.length + n ≤ 500) ∧ CdQ K CC self il bl sc sl ow (G (cX sl ow n) sc t t2 S) H (Q .non)
def spCAnd (K : PySem.W.Frag) (CC : Addr) (n : Nat) : Sp := spCBin K CC n cAnd
def spCOr (K : PySem.W.Frag) (CC : Addr) (n : Nat) : Sp := spCBin K CC n cOr
theorem ok_both {f : Addr} {fd : FuncData} (F : Fun K "both" "Coder.both" s_Coder_both f fd) (M : CdM P w K mg base CC) (hk : 3 ≤ k) (m_expression : Met P w K mg base k CC "expression" (spCP K CC XE n) []) : FnOk P w K mg base CX0 (k + 1) f fd ["self", "left", "right"] (spCAnd K CC n) := by
  have Y := M.Y
  have m_put := M.m_put
  have m_put_leading := M.m_put_leading
  have m_lead_here := M.m_lead_here
  have m_put_into := M.m_put_into
  have m_truth := M.m_truth
  refine F.ok sc_Coder_both (fun vs H Q E h => ?_) (fun cdv A outer s H vs Q E hr h => ?_)
  · obtain ⟨self, il, bl, v, u, t, t2, m1, m2, sc, sl, ow, S, rfl, _⟩ := h
    rfl
  · obtain ⟨self, il, bl, v, u, t, t2, m1, m2, sc, sl, ow, S, rfl, hC, hv, hs, hu, hs2, ⟨b1, b2, b3⟩, kQ⟩ := h
    have nd := sc_Coder_both.nd
    refine ⟨_, (pss_cons (ps_expr (pe_mt m_expression hr (by omega) (pv 0) (pa_cons (pv 1) pa_nil)))
      (pss_cons (ps_set (i := 3) nd rfl (Or.inl rfl) (pe_mt m_put_leading hr (by omega) (pv 0) (pa_cons pe_str pa_nil)))
      (pss_cons (ps_expr (pe_mt m_expression hr (by omega) (pv 0) (pa_cons (pv 2) pa_nil)))
      (pss_cons (ps_set (i := 4) nd rfl (Or.inl rfl) (pe_mt m_put_leading hr (by omega) (pv 0) (pa_cons pe_str pa_nil)))
      (pss_one (ps_expr (pe_mt m_truth hr (by omega) (pv 0) (pa_cons (pe_lst (pa_cons (pv 3) (pa_cons (pv 4) pa_nil))) pa_nil)))))))), ?_⟩
    rw [show L2.start N_Coder_both [.ref self, v, u] = [some (.ref self), some v, some u, none, none] from rfl]
    walk_at "rdc"
    refine c_mat hC (fun _ _ => rfl) ?_
    walk_at "rdc"
    refine v_e hC hv hs ⟨by omega, by omega, b3⟩ fun H1 S1 e1 L1 p1 hC1 f1 => ?_
    obtain ⟨qa1, qb1, qc1, qd1⟩ := L1
    have F1 := f1
    walk_at "rdc"
    refine c_mat hC1 (fun _ _ => rfl) ?_
    walk_at "rdc"
    refine v_pl hC1 (by omega) fun H2 S2 e2 qa2 qb2 p2 d2 hC2 f2 => ?_
    have F2 := F1.trans f2
    walk_at "rdc"
    refine c_mat hC2 (fun _ _ => rfl) ?_
    walk_at "rdc"
    refine v_e hC2 (hC.tr F2 hu) hs2 ⟨by omega, by omega, b3⟩ fun H3 S3 e3 L3 p3 hC3 f3 => ?_
    obtain ⟨qa3, qb3, qc3, qd3⟩ := L3
    have F3 := F2.trans f3
    walk_at "rdc"
    refine c_mat hC3 (fun _ _ => rfl) ?_
    walk_at "rdc"
    refine v_pl hC3 (by omega) fun H4 S4 e4 qa4 qb4 p4 d4 hC4 f4 => ?_
    have F4 := F3.trans f4
    walk_at "rdc"
    refine c_mat hC4 (fun _ _ => rfl) ?_
    walk_at "rdc"
    refine w_newL (by show 2 ≤ 1000000; decide) fun wl Hw hwl sw hw => ?_
    walk_at "rdc"
    refine v_tru (ks := [S1.1.length, S3.1.length]) (hC4.same sw) hw (hC4.new hwl).1 (hC4.new hwl).2 (fun k hk => ?_) (by omega) fun H5 S5 e5 L5 g5 hC5 f5 => ?_
    · rcases List.mem_cons.mp hk with h | h
      · rw [h]; exact Ld.pre (p3.trans p4) d2
      · rw [List.mem_singleton.mp h]; exact d4
    have F5 := (F4.trans (Fq.same sw)).trans f5
    walk_at "rdc"
    subst e5 e4 e3 e2 e1
    exact kQ H5 hC5 F5
abbrev s_Coder_either : Stmt := inClass (topS 4) 16
abbrev N_Coder_either : List Str := ["self", "left", "right", "wrong", "leave"]
theorem sc_Coder_either : FnScope N_Coder_either ["self", "left", "right"] (defScope s_Coder_either) := ⟨rfl, rfl, rfl, by decide +kernel, rfl, by decide +kernel, by decide +kernel⟩
theorem ok_either {f : Addr} {fd : FuncData} (F : Fun K "either" "Coder.either" s_Coder_either f fd) (M : CdM P w K mg base CC) (hk : 3 ≤ k) (m_expression : Met P w K mg base k CC "expression" (spCP K CC XE n) []) : FnOk P w K mg base CX0 (k + 1) f fd ["self", "left", "right"] (spCOr K CC n) := by
  have Y := M.Y
  have m_put := M.m_put
  have m_put_leading := M.m_put_leading
  have m_lead_here := M.m_lead_here
  have m_put_into := M.m_put_into
  have m_truth := M.m_truth
  refine F.ok sc_Coder_either (fun vs H Q E h => ?_) (fun cdv A outer s H vs Q E hr h => ?_)
  · obtain ⟨self, il, bl, v, u, t, t2, m1, m2, sc, sl, ow, S, rfl, _⟩ := h
    rfl
  · obtain ⟨self, il, bl, v, u, t, t2, m1, m2, sc, sl, ow, S, rfl, hC, hv, hs, hu, hs2, ⟨b1, b2, b3⟩, kQ⟩ := h
    have nd := sc_Coder_either.nd
    refine ⟨_, (pss_cons (ps_expr (pe_mt m_expression hr (by omega) (pv 0) (pa_cons (pv 1) pa_nil)))
      (pss_cons (ps_set (i := 3) nd rfl (Or.inl rfl) (pe_mt m_put_leading hr (by omega) (pv 0) (pa_cons pe_str pa_nil)))
      (pss_cons (ps_expr (pe_mt m_put hr (by omega) (pv 0) (pa_cons (pe_tup (pa_cons pe_str (pa_cons pe_bl pa_nil))) pa_nil)))
      (pss_cons (ps_set (i := 4) nd rfl (Or.inl rfl) (pe_mt m_put_leading hr (by omega) (pv 0) (pa_cons pe_str pa_nil)))
      (pss_cons (ps_expr (pe_mt m_lead_here hr (by omega) (pv 0) (pa_cons (pv 3) pa_nil)))
      (pss_cons (ps_expr (pe_mt m_expression hr (by omega) (pv 0) (pa_cons (pv 2) pa_nil)))
      (pss_cons (ps_expr (pe_mt m_truth hr (by omega) (pv 0) (pa_cons (pe_lst (pa_cons (pe_mt m_put_leading hr (by omega) (pv 0) (pa_cons pe_str pa_nil)) pa_nil)) pa_nil)))
      (pss_one (ps_expr (pe_mt m_lead_here hr (by omega) (pv 0) (pa_cons (pv 4) pa_nil))))))))))), ?_⟩
    rw [show L2.start N_Coder_either [.ref self, v, u] = [some (.ref self), some v, some u, none, none] from rfl]
    walk_at "rdc"
    refine c_mat hC (fun _ _ => rfl) ?_
    walk_at "rdc"
    refine v_e hC hv hs ⟨by omega, by omega, b3⟩ fun H1 S1 e1 L1 p1 hC1 f1 => ?_
    obtain ⟨qa1, qb1, qc1, qd1⟩ := L1
    have F1 := f1
    walk_at "rdc"
    refine c_mat hC1 (fun _ _ => rfl) ?_
    walk_at "rdc"
    refine v_pl hC1 (by omega) fun H2 S2 e2 qa2 qb2 p2 d2 hC2 f2 => ?_
    have F2 := F1.trans f2
    walk_at "rdc"
    refine c_mat hC2 (fun _ _ => rfl) ?_
    walk_at "rdc"
    refine v_put hC2 (by show 2 ≤ 1000000; decide) (.cons .s (.cons .b .nil)) (by omega) fun H3 S3 e3 qa3 qb3 p3 hC3 f3 => ?_
    have F3 := F2.trans f3
    walk_at "rdc"
    refine c_mat hC3 (fun _ _ => rfl) ?_
    walk_at "rdc"
    refine v_pl hC3 (by omega) fun H4 S4 e4 qa4 qb4 p4 d4 hC4 f4 => ?_
    have F4 := F3.trans f4
    walk_at "rdc"
    refine c_mat hC4 (fun _ _ => rfl) ?_
    walk_at "rdc"
    refine v_led hC4 (Ld.pre (p3.trans p4) d2) (by omega) fun H5 S5 e5 qa5 qb5 g5 hC5 f5 => ?_
    have F5 := F4.trans f5
    walk_at "rdc"
    refine c_mat hC5 (fun _ _ => rfl) ?_
    walk_at "rdc"
    refine v_e hC5 (hC.tr F5 hu) hs2 ⟨by omega, by omega, b3⟩ fun H6 S6 e6 L6 p6 hC6 f6 => ?_
    obtain ⟨qa6, qb6, qc6, qd6⟩ := L6
    have F6 := F5.trans f6
    walk_at "rdc"
    refine c_mat hC6 (fun _ _ => rfl) ?_
    walk_at "rdc"
    refine c_mat hC6 (fun _ _ => rfl) ?_
    walk_at "rdc"
    refine v_pl hC6 (by omega) fun H7 S7 e7 qa7 qb7 p7 d7 hC7 f7 => ?_
    have F7 := F6.trans f7
    walk_at "rdc"
    refine w_newL (by show 1 ≤ 1000000; decide) fun wl Hw hwl sw hw => ?_
    walk_at "rdc"
    refine v_tru (ks := [S6.1.length]) (hC7.same sw) hw (hC7.new hwl).1 (hC7.new hwl).2 (fun k hk => ?_) (by omega) fun H8 S8 e8 L8 g8 hC8 f8 => ?_
    · rw [List.mem_singleton.mp hk]; exact d7
    obtain ⟨qa8, qb8, qc8, qd8⟩ := L8
    have F8 := (F7.trans (Fq.same sw)).trans f8
    walk_at "rdc"
    refine c_mat hC8 (fun _ _ => rfl) ?_
    walk_at "rdc"
    refine v_led hC8 (Ld.pre (g8 S6 p7 (fun k hk => by rw [List.mem_singleton.mp hk]; exact Nat.le_refl _)) (Ld.pre p6 (g5 _ d4))) (by omega) fun H9 S9 e9 qa9 qb9 g9 hC9 f9 => ?_
    have F9 := F8.trans f9
    walk_at "rdc"
    subst e9 e8 e7 e6 e5 e4 e3 e2 e1
    exact kQ H9 hC9 F9
end
end
section
/-! The compiler: blocks, expressions, statements, every depth. -/
open PySem PySem.Spec PyProof.Rows L2
open C8 (Cal Met Mak cal0 pe_c pe_gc pss_cut tCut pe_mt pe_mt0 pe_mk)

theorem c_if_Te {a b : List Nat} {A B : Prop} (h : a = b) (k : A) : if decide (T a = T b) = true then A else B := by rw [if_pos (by rw [h]; simp)]; exact k
theorem c_if_Tn {a b : List Nat} {A B : Prop} (h : a ≠ b) (k : B) : if decide (T a = T b) = true then A else B := by
  rw [if_neg]
  · exact k
  · intro e; exact h (T_inj (of_decide_eq_true e))
theorem c_or_Te {a b : List Nat} {G : Bool → Hp → Prop} {H : Hp} {A : Prop} (h : a = b) (k : G true H) : if decide (T a = T b) = true then G true H else A := c_if_Te h k
local macro_rules | `(tactic| walk_at "kd") => `(tactic| repeat (first
  | walk_at "r1c"
  | with_reducible refine c_if_Te (by with_unfolding_all decide +kernel) ?_
  | with_reducible refine c_if_Tn (by with_unfolding_all decide +kernel) ?_))
theorem atI_last {α : Type} {xs : List α} {v : α} (h : xs.getLast? = some v) : atI xs (-1) = some v := by
  cases xs with
  | nil => cases h
  | cons a l =>
    unfold atI ixN
    rw [if_neg (by decide), if_pos (by rw [List.length_cons]; omega)]
    show (a :: l)[(-1 + ((a :: l).length : Int)).toNat]? = some v
    rw [show (-1 + ((a :: l).length : Int)).toNat = (a :: l).length - 1 by omega, ← List.getLast?_eq_getElem?, h]
theorem ixN_last {n : Nat} (h : 1 ≤ n) : ixN n (-1) = some (n - 1) := by
  unfold ixN
  rw [if_neg (by decide), if_pos (by omega)]
  congr 1
  omega
section
variable {K : PySem.W.Frag} {H : Hp} {v : V}
theorem TrB.sE {a : List Nat} (h : TrB K H v (.s a)) : v = T a := by cases h; rfl
theorem TrsB.nE {vs : List V} (h : TrsB K H vs []) : vs = [] := by cases h; rfl
theorem TrsB.cE {vs : List V} {t : Tr} {l : List Tr} (h : TrsB K H vs (t :: l)) : ∃ x r, vs = x :: r ∧ TrB K H x t ∧ TrsB K H r l := by cases h; exact ⟨_, _, rfl, ‹_›, ‹_›⟩
theorem TrB.e1 {k : List Nat} (h : TrB K H v (.t [.s k])) : ∃ p, v = .ref p ∧ SqT K H p [T k] := by
  obtain ⟨p, vs, rfl, hq, r, b⟩ := h.tupV
  obtain ⟨x, r1, rfl, hx, r⟩ := r.cE
  cases r.nE; cases hx.sE
  exact ⟨p, rfl, hq⟩
theorem TrB.e2 {k : List Nat} {a : Tr} (h : TrB K H v (.t [.s k, a])) : ∃ p x, v = .ref p ∧ SqT K H p [T k, x] ∧ TrB K H x a := by
  obtain ⟨p, vs, rfl, hq, r, b⟩ := h.tupV
  obtain ⟨x, r1, rfl, hx, r⟩ := r.cE
  obtain ⟨y, r2, rfl, hy, r⟩ := r.cE
  cases r.nE; cases hx.sE
  exact ⟨p, y, rfl, hq, hy⟩
theorem TrB.e3 {k : List Nat} {a b : Tr} (h : TrB K H v (.t [.s k, a, b])) : ∃ p x y, v = .ref p ∧ SqT K H p [T k, x, y] ∧ TrB K H x a ∧ TrB K H y b := by
  obtain ⟨p, vs, rfl, hq, r, _⟩ := h.tupV
  obtain ⟨x, r1, rfl, hx, r⟩ := r.cE
  obtain ⟨y, r2, rfl, hy, r⟩ := r.cE
  obtain ⟨z, r3, rfl, hz, r⟩ := r.cE
  cases r.nE; cases hx.sE
  exact ⟨p, y, z, rfl, hq, hy, hz⟩
theorem TrB.e4 {k : List Nat} {a b c : Tr} (h : TrB K H v (.t [.s k, a, b, c])) : ∃ p x y z, v = .ref p ∧ SqT K H p [T k, x, y, z] ∧ TrB K H x a ∧ TrB K H y b ∧ TrB K H z c := by
  obtain ⟨p, vs, rfl, hq, r, _⟩ := h.tupV
  obtain ⟨x, r1, rfl, hx, r⟩ := r.cE
  obtain ⟨y, r2, rfl, hy, r⟩ := r.cE
  obtain ⟨z, r3, rfl, hz, r⟩ := r.cE
  obtain ⟨u, r4, rfl, hu, r⟩ := r.cE
  cases r.nE; cases hx.sE
  exact ⟨p, y, z, u, rfl, hq, hy, hz, hu⟩
theorem TrB.eBlk {ps l : List Tr} (h : TrB K H v (.t [str "block", .t ps, .t l])) : ∃ (p q : Addr) (u : V) (ws : Ws), v = .ref p ∧ SqT K H p [T (cds "block"), .ref q, u] ∧ ps = ws.map Tr.s ∧ FT H q (ws.map T) ∧ TrB K H u (.t l) := by
  obtain ⟨p, vs, rfl, hq, r, b⟩ := h.tupV
  obtain ⟨x, q, vs', ws, rfl, e1, e2⟩ := b ps _ rfl
  obtain ⟨x', r1, e3, hx, r⟩ := r.cE
  cases e3
  obtain ⟨y, r2, e3, hy, r⟩ := r.cE
  cases e3
  obtain ⟨z, r3, rfl, hz, r⟩ := r.cE
  cases r.nE; cases hx.sE
  exact ⟨p, q, z, ws, rfl, hq, e1, e2, hz⟩
end
theorem XS.hd {n : Nat} {t : Tr} {m : Nat} (h : XS n t m) : ∃ j k r, n = j + 1 ∧ t = .t (.s k :: r) := by
  obtain ⟨w, ns, x, p, _⟩ := h
  cases p <;> exact ⟨_, _, _, rfl, rfl⟩
theorem XL.last {p : Tr → Nat → Prop} : ∀ {l : List Tr} {m : Nat}, XL p l m → ∀ t, l.getLast? = some t → ∃ j, p t j
  | _, _, .nil, t, h => by cases h
  | _, _, .cons (l := []) a b, t, h => by cases h; exact ⟨_, a⟩
  | _, _, .cons (l := x :: l) a b, t, h => by
    rw [List.getLast?_cons_cons] at h
    exact b.last t h
theorem cfold_eval {n : Nat} {sc : List Ws} {sl : Ws} {ow : List Nat} {l : List Tr} {m : Nat} (h : XL (XS n) l m) {t : Tr} (e : l.getLast? = some t) (he : isEval t = true) (S : CS) : 1 ≤ (cfold (cX sl ow n sc) l S).1.length := by
  obtain ⟨j, k, r, rfl, rfl⟩ := (h.last t e).elim fun _ h => h.hd
  have hk : k = cds "eval" := of_decide_eq_true he
  subst hk
  have hl := h.last _ e
  obtain ⟨_, w, ns, x, p, _⟩ := hl
  obtain ⟨l', rfl⟩ := List.getLast?_eq_some_iff.mp e
  rw [cfold_append]
  cases p with
  | @eval lv _ t' w' ns' x' pe =>
    generalize cfold (cX sl ow (j + 1) sc) l' S = S'
    have e2 : cX sl ow (j + 1) sc (.t [str "eval", t']) S' = cput (.t [str "pop"]) (cX sl ow j sc t' S') := cd_eval (cX sl ow j) sl ow sc S' t'
    show 1 ≤ (cX sl ow (j + 1) sc (.t [str "eval", t']) S').1.length
    rw [e2, cput_len]
    omega
  | gf hg pe => rcases hg with h | h <;> exact absurd h (by decide +kernel)
section
variable {K : PySem.W.Frag} {CC self il bl : Addr} {sc : List Ws} {sl : Ws} {ow : List Nat} {S : CS} {H : Hp}
/-- what another coder's lists do not touch -/
theorem CdS.fq {dx sD tS il2 bl2 : Addr} {H' : Hp} {iv2 bv2 : List V} (hC : CdS K CC self il bl sc sl ow S H) (hx : H self = some (.ins CC dx (fldsC sD tS il bl ow))) (n1 : sD ≠ il2) (n2 : sD ≠ bl2) (n3 : il ≠ il2) (n4 : il ≠ bl2) (n5 : bl ≠ il2) (n6 : bl ≠ bl2) (h1 : H il2 = some (.lst iv2)) (h2 : H bl2 = some (.lst bv2)) (f : Fq il2 bl2 H H') : CdS K CC self il bl sc sl ow S H' := by
  obtain ⟨dx2, sD2, tS2, xv, iv, bv, a1, a2, a3, hs, hD, hSc, hT, hI, hIt, hB, hBt, hsl⟩ := hC
  rw [hx] at hs
  cases hs
  have q : ∀ p xs, SqT K H p xs → SqT K H' p xs := fun p xs a => by
    rcases a with (a | ⟨o, a⟩) | a
    · exact .inl (.inl (f.1 _ _ (fun e => by rw [e, h1] at a; cases a) (fun e => by rw [e, h2] at a; cases a) a))
    · exact .inl (.inr ⟨o, f.1 _ _ (fun e => by rw [e, h1] at a; cases a) (fun e => by rw [e, h2] at a; cases a) a⟩)
    · exact .inr a
  have g : ∀ p xs, FT H p xs → FT H' p xs := fun p xs a => by
    obtain ⟨o, e, a⟩ := a
    exact ⟨o, e, f.1 _ _ (fun e => by rw [e, h1] at a; cases a) (fun e => by rw [e, h2] at a; cases a) a⟩
  exact ⟨dx, sD, tS, xv, iv, bv, a1, a2, a3, f.1 _ _ (fun e => by rw [e, h1] at hx; cases hx) (fun e => by rw [e, h2] at hx; cases hx) hx, f.1 _ _ n1 n2 hD, hSc.imp g, q _ _ hT, f.1 _ _ n3 n4 hI, hIt.imp q, f.1 _ _ n5 n6 hB, hBt.imp q, hsl⟩
theorem CdS.eq {S' : CS} (e : S' = S) (h : CdS K CC self il bl sc sl ow S H) : CdS K CC self il bl sc sl ow S' H := by rw [e]; exact h
theorem CdS.ln (h : CdS K CC self il bl sc sl ow S H) : ∃ dx sD tS iv bv, H self = some (.ins CC dx (fldsC sD tS il bl ow)) ∧ H il = some (.lst iv) ∧ iv.length = S.1.length ∧ H bl = some (.lst bv) ∧ bv.length = S.2.length ∧ il ≠ bl ∧ TrsAt K H iv S.1 ∧ TrsAt K H bv S.2 := by
  obtain ⟨dx, sD, tS, xv, iv, bv, n1, n2, n3, hs, hD, hSc, hT, hI, hIt, hB, hBt, hsl⟩ := h
  exact ⟨dx, sD, tS, iv, bv, hs, hI, hIt.length, hB, hBt.length, n1, hIt, hBt⟩
/-- the instructions changed in place -/
theorem CdS.putI (h : CdS K CC self il bl sc sl ow S H) {iv iv' : List V} {I' : List Tr} {H1 : Hp} (hI : H il = some (.lst iv)) (h1 : H1 il = some (.lst iv')) (k1 : ∀ b o, b ≠ il → H b = some o → H1 b = some o) (ht : TrsAt K H1 iv' I') : CdS K CC self il bl sc sl ow (I', S.2) H1 := by
  obtain ⟨dx, sD, tS, xv, iv0, bv, n1, n2, n3, hs, hD, hSc, hT, hI0, hIt, hB, hBt, hsl⟩ := h
  exact .chg n1 n2 n3 hs hD hSc hT hI0 hB hBt hsl h1 k1 ht
/-- the blocks changed in place -/
theorem CdS.putB (h : CdS K CC self il bl sc sl ow S H) {bv bv' : List V} {B' : List Tr} {H1 : Hp} (hB : H bl = some (.lst bv)) (h1 : H1 bl = some (.lst bv')) (k1 : ∀ b o, b ≠ bl → H b = some o → H1 b = some o) (ht : TrsAt K H1 bv' B') : CdS K CC self il bl sc sl ow (S.1, B') H1 := by
  obtain ⟨dx, sD, tS, xv, iv, bv0, n1, n2, n3, hs, hD, hSc, hT, hI, hIt, hB0, hBt, hsl⟩ := h
  exact ⟨dx, sD, tS, xv, iv, bv', n1, n2, n3, k1 _ _ (fun e => by rw [e, hB] at hs; cases hs) hs, k1 _ _ n3 hD, hSc.but hB k1, sqT_but hT hB k1, k1 _ _ n1 hI, hIt.but hB k1, h1, ht, hsl⟩
end
section
variable {P : Program} {w : World} {K : PySem.W.Frag} {mg : Str → Option Value} {base : Heap} {CC : Addr} {k n : Nat}
abbrev s_Coder_block : Stmt := inClass (topS 4) 18
abbrev N_Coder_block : List Str := ["self", "params", "body", "coder"]
theorem sc_Coder_block : FnScope N_Coder_block ["self", "params", "body"] (defScope s_Coder_block) := ⟨rfl, rfl, rfl, by decide +kernel, rfl, by decide +kernel, by decide +kernel⟩
def spCBk (K : PySem.W.Frag) (CC : Addr) (n : Nat) : Sp := fun vs H Q _ => ∃ (self il bl q : Addr) (u : V) (ps : Ws) (l : List Tr) (m : Nat) (sc : List Ws) (sl : Ws) (ow : List Nat) (S : CS), vs = [.ref self, .ref q, u] ∧ CdS K CC self il bl sc sl ow S H ∧ FT H q (ps.map T) ∧ TrB K H u (.t l) ∧ XL (XS n) l m ∧ (S.1.length + 10 * (m + 1) ≤ 800000 ∧ S.2.length + (m + 1) ≤ 800000 ∧ sc.length + (n + 1) ≤ 500) ∧ CdQ K CC self il bl sc sl ow (cBlk (cX sl ow n) sc (ps.map Tr.s) l S) H (Q .non)
theorem ok_c_block {f : Addr} {fd : FuncData} (F : Fun K "block" "Coder.block" s_Coder_block f fd) (M : CdM P w K mg base CC) (hk : 3 ≤ k) (m_body : Met P w K mg base k CC "body" (spCL K CC XS n) []) : FnOk P w K mg base CX0 (k + 1) f fd ["self", "params", "body"] (spCBk K CC n) := by
  have Y := M.Y
  have m_put := M.m_put
  have m_code := M.m_code
  have m_end_with_none := M.m_end_with_none
  have c_Coder := M.c_Coder
  refine F.ok sc_Coder_block (fun vs H Q E h => ?_) (fun cdv A outer s H vs Q E hr h => ?_)
  · obtain ⟨self, il, bl, q, u, ps, l, m, sc, sl, ow, S, rfl, _⟩ := h
    rfl
  · obtain ⟨self, il, bl, q, u, ps, l, m, sc, sl, ow, S, rfl, hC, hq, hu, hL, ⟨b1, b2, b3⟩, kQ⟩ := h
    have nd := sc_Coder_block.nd
    obtain ⟨dx, sD, tS, xv, iv, bv, n1, n2, n3, hself, hD, hSc, hT, hI, hIt, hB, hBt, hsl⟩ := id hC
    obtain ⟨pu, us, rfl, hpu, hus, _⟩ := hu.tupV
    refine ⟨_, (pss_cons (ps_set (i := 3) nd rfl (Or.inl rfl) (pe_mk c_Coder hr (by omega) rfl (pa_cons (pe_op op_cat (pe_lst (pa_cons (pv 1) pa_nil)) (pe_fld (pv 0) rfl)) (pa_cons (pe_fld (pv 0) rfl) (pa_cons (pe_fld (pv 0) rfl) pa_nil)))))
      (pss_cons (ps_expr (pe_mt m_body hr (by omega) (pv 3) (pa_cons (pv 2) pa_nil)))
      (pss_cut (ps_if (PW.pt (pw_and (pt_tru (pv 2)) (pw_and1 (pt_cmpR op_eq (pe_ix ix_tup (pe_ix ix_tup (pv 2) (pe_un un_neg pe_int) (fun _ _ => rfl)) pe_int (fun _ _ => rfl)) pe_str (nomark _))))) (pss_one (ps_asg (pe_tup (pa_cons pe_str pa_nil)) (pg_sub (pe_fld (pv 3) rfl) (pe_un un_neg pe_int) set_list))) (pss_one (ps_expr (pe_mt0 m_end_with_none hr (by omega) (pv 3)))))
      (pss_cons (ps_expr (pe_mt m_put hr (by omega) (pv 0) (pa_cons (pe_tup (pa_cons pe_str (pa_cons (pe_callB call_lenL (by rfl) Y.n_len (by decide +kernel) (pa_cons (pe_fld (pv 0) rfl) pa_nil)) pa_nil))) pa_nil)))
      (pss_one (ps_expr (pe_bm PySem.F.plainAttrs_list PySem.F.slot_list_append PySem.F.type_list_append mt_append (pe_fld (pv 0) rfl) (pa_cons (pe_mt0 m_code hr (by omega) (pv 3)) pa_nil)))))))), ?_⟩
    rw [show L2.start N_Coder_block [.ref self, .ref q, .ref pu] = [some (.ref self), some (.ref q), some (.ref pu), none] from rfl]
    walk_at "rdc"
    refine w_newL (by show 1 ≤ 1000000; decide) fun l1 H1 hl1 s1 h1 => ?_
    walk_at "rdc"
    refine o_fat (s1 _ _ hself) M.Z.cl M.Z.n_scopes rfl ?_
    refine w_cat2 h1 (s1 _ _ hD) (by rw [hSc.length]; show 1 + sc.length ≤ _; omega) fun D2 H2 hD2 s2 h2 => ?_
    have s12 := s1.trans s2
    walk_at "rdc"
    refine o_fat (s12 _ _ hself) M.Z.cl M.Z.n_owner rfl ?_
    walk_at "rdc"
    refine o_fat (s12 _ _ hself) M.Z.cl M.Z.n_slots rfl ?_
    walk_at "rdc"
    intro x dx2 hx hdx ndx
    have sN : Same H2 (upd (upd H2 dx2 (.own x)) x (.ins CC dx2 [])) := fun b o e => by
      rw [upd_ne (fun z => by rw [z, hx] at e; cases e), upd_ne (fun z => by rw [z, hdx] at e; cases e)]
      exact e
    have sO := s12.trans sN
    refine ⟨x, dx2, D2, tS, _, ps :: sc, sl, ow, rfl, upd_same, sN _ _ h2, .cons (hq.same sO) (hSc.sm sO), Same.sqT sO hT, by rw [List.length_cons]; omega, fun il2 bl2 H3 hC3 hx3 k3 g3 f1 f2 => ?_⟩
    refine ⟨rfl, ?_⟩
    -- all that was there stands
    have hil2 : H2 il2 = none := by
      have := f1
      by_cases z : il2 = x
      · rw [z, upd_same] at this; cases this
      · rw [upd_ne z] at this
        by_cases y : il2 = dx2
        · rw [y, upd_same] at this; cases this
        · rw [upd_ne y] at this; exact this
    have hbl2 : H2 bl2 = none := by
      have := f2
      by_cases z : bl2 = x
      · rw [z, upd_same] at this; cases this
      · rw [upd_ne z] at this
        by_cases y : bl2 = dx2
        · rw [y, upd_same] at this; cases this
        · rw [upd_ne y] at this; exact this
    have s3 : Same H2 H3 := fun b o e => k3 b o (fun z => by rw [z, hx] at e; cases e) (sN b o e)
    have sA : Same H H3 := s12.trans s3
    walk_at "rdc"
    refine c_mat hC3 (fun _ _ => rfl) ?_
    walk_at "rdc"
    refine v_b hC3 (hu.same sA) hL ⟨by show 0 + _ ≤ _; omega, by show 0 + _ ≤ _; omega, by rw [List.length_cons]; omega⟩ fun H4 S4 e4 L4 p4 hC4 f4 => ?_
    obtain ⟨q1, q2, q3, q4⟩ := L4
    have q2' : S4.1.length ≤ 10 * m := by have : ([] : List Tr).length = 0 := rfl; simp only [List.length_nil] at q2; omega
    have q4' : S4.2.length ≤ m := by simp only [List.length_nil] at q4; omega
    have s4 : Same H2 H4 := fun b o e => f4.1 b o (fun z => by rw [z, hil2] at e; cases e) (fun z => by rw [z, hbl2] at e; cases e) (s3 b o e)
    obtain ⟨_, _, _, iv3, bv3, _, hI3, _, hB3, _, nib3, _⟩ := hC3.ln
    have hx4 := f4.1 _ _ (fun e => by rw [e, hI3] at hx3; cases hx3) (fun e => by rw [e, hB3] at hx3; cases hx3) hx3
    have hb5 : ∀ t, l.getLast? = some t → isEval t = true → 1 ≤ S4.1.length := fun t e he => by rw [e4]; exact cfold_eval hL e he _
    have hcb : cblk (cX sl ow n (ps :: sc)) l = match l.getLast? with
        | some t => if isEval t = true then (S4.1.set (S4.1.length - 1) (.t [str "end"]), S4.2) else cend S4
        | none => cend S4 := by rw [e4]; rfl
    walk_at "rdc"
    refine ⟨fun σ' H' => σ' = [some (.ref self), some (.ref q), some (.ref pu), some (.ref x)] ∧ CdS K CC x il2 bl2 (ps :: sc) sl ow (cblk (cX sl ow n (ps :: sc)) l) H' ∧ H' x = some (.ins CC dx2 (fldsC D2 tS il2 bl2 ow)) ∧ Same H2 H', ?_, ?_⟩
    · have tail : cblk (cX sl ow n (ps :: sc)) l = cend S4 → ∀ (G : Hp → Prop), (∀ H5, CdS K CC x il2 bl2 (ps :: sc) sl ow (cblk (cX sl ow n (ps :: sc)) l) H5 → H5 x = some (.ins CC dx2 (fldsC D2 tS il2 bl2 ow)) → Same H2 H5 → G H5) → spCEn K CC (.ref x :: ([] ++ [])) H4 (fun v H' => G H') E := fun e G kG => by
        refine ⟨x, il2, bl2, _, sl, ow, S4, rfl, hC4, by omega, fun H5 hC5 f5 => ?_⟩
        obtain ⟨_, _, _, iv4, bv4, _, hI4, _, hB4, _, nib4, _⟩ := hC4.ln
        rw [e] at kG
        exact kG H5 hC5 (f5.1 _ _ (fun e => by rw [e, hI4] at hx4; cases hx4) (fun e => by rw [e, hB4] at hx4; cases hx4) hx4) fun b o e => f5.1 b o (fun z => by rw [z, hil2] at e; cases e) (fun z => by rw [z, hbl2] at e; cases e) (s4 b o e)
      walk_at "rdc"
      refine w_truT (Same.sqT (s12.trans s4) hpu) (fun hne => ?_) (fun hem => ?_)
      · walk_at "rdc"
        have hlen := hus.length
        have hl0 : l.length ≠ 0 := fun e => hne (List.length_eq_zero_iff.mp (by rw [hlen, e]))
        obtain ⟨t, ht⟩ : ∃ t, l.getLast? = some t := by
          cases e : l.getLast? with
          | some t => exact ⟨t, rfl⟩
          | none => exact absurd (by rw [List.getLast?_eq_none_iff.mp e]; rfl) hl0
        obtain ⟨j, kk, r, en, rfl⟩ := (hL.last t ht).elim fun _ h => h.hd
        obtain ⟨v, t2, hv, ht2, hvt⟩ := hus.get (i := l.length - 1) (by omega)
        rw [List.getLast?_eq_getElem?] at ht
        rw [ht2] at ht
        cases ht
        obtain ⟨pv, xs, rfl, hpv, hxs, _⟩ := hvt.tupV
        obtain ⟨x1, r1, rfl, hx1, _⟩ := hxs.cE
        cases hx1.sE
        refine w_ixT (Same.sqT (s12.trans s4) hpu) (atI_last (by rw [List.getLast?_eq_getElem?, hlen]; exact hv)) ?_
        walk_at "rdc"
        refine w_ixT (Same.sqT (s12.trans s4) hpv) (atI_nat (j := 0) rfl) ?_
        walk_at "rdc"
        have eg : l.getLast? = some (.t (.s kk :: r)) := by rw [List.getLast?_eq_getElem?]; exact ht2
        rw [eg] at hcb
        refine w_ifT (fun hk1 => ?_) (fun hk1 => ?_)
        · have hie : isEval (.t (.s kk :: r)) = true := decide_eq_true hk1
          have h1l := hb5 _ eg hie
          have hcb := hcb.trans (if_pos hie)
          walk_at "rdc"
          refine w_newT (by show 1 ≤ 1000000; decide) fun q5 H5 hq5 s5 h5 => ?_
          walk_at "rdc"
          refine o_fat (s5 _ _ hx4) M.Z.cl M.Z.n_instructions rfl ?_
          walk_at "rdc"
          obtain ⟨_, _, _, iv4, bv4, _, hI4, hl4, hB4, _, nib4, hIt4, _⟩ := hC4.ln
          refine w_setL (n := S4.1.length - 1) (s5 _ _ hI4) (by rw [hl4]; exact ixN_last h1l) ?_
          have k2 : ∀ b o, b ≠ il2 → H5 b = some o → upd H5 il2 (.lst (iv4.set (S4.1.length - 1) (.ref q5))) b = some o := fun b o n e => by rw [upd_ne n]; exact e
          have hq2 : upd H5 il2 (.lst (iv4.set (S4.1.length - 1) (.ref q5))) q5 = some (.tup [T (cds "end")]) := k2 _ _ (fun z => by rw [z, hI4] at hq5; cases hq5) h5
          have hnew : TrAt K (upd H5 il2 (.lst (iv4.set (S4.1.length - 1) (.ref q5)))) (.ref q5) (.t [str "end"]) := .t (.inl (.inl hq2)) (.cons .s .nil)
          refine ⟨rfl, ?_, ?_, ?_⟩
          · rw [hcb]
            exact (hC4.same s5).putI (s5 _ _ hI4) upd_same k2 (trs_set hnew _ ((hIt4.same s5).but (s5 _ _ hI4) k2))
          · exact k2 _ _ (fun e => by rw [e, hI4] at hx4; cases hx4) (s5 _ _ hx4)
          · exact fun b o e => k2 b o (fun z => by rw [z, hil2] at e; cases e) (s5 _ _ (s4 b o e))
        · have hie : ¬ isEval (.t (.s kk :: r)) = true := fun e => hk1 (of_decide_eq_true e)
          have hcb := hcb.trans (if_neg hie)
          walk_at "rdc"
          refine c_mat hC4 (fun _ _ => rfl) ?_
          walk_at "rdc"
          exact tail hcb _ fun H5 hC5 hx5 s5 => ⟨rfl, hC5, hx5, s5⟩
      · walk_at "rdc"
        have hl0 : l = [] := List.length_eq_zero_iff.mp (by rw [← hus.length, hem]; rfl)
        have hg : l.getLast? = none := by rw [hl0]; rfl
        rw [hg] at hcb
        refine c_mat hC4 (fun _ _ => rfl) ?_
        walk_at "rdc"
        exact tail hcb _ fun H5 hC5 hx5 s5 => ⟨rfl, hC5, hx5, s5⟩
    · rintro σ' H5 ⟨rfl, hC5, hx5, s5⟩
      have sB : Same H H5 := s12.trans s5
      walk_at "rdc"
      refine c_mat (hC.same sB) (fun _ _ => rfl) ?_
      walk_at "rdc"
      refine o_fat (sB _ _ hself) M.Z.cl M.Z.n_blocks rfl ?_
      walk_at "rdc"
      refine w_lenL (SqL.of (sB _ _ hB)) ?_
      rw [hBt.length]
      walk_at "rdc"
      refine v_put (hC.same sB) (by show 2 ≤ 1000000; decide) (.cons .s (.cons .i .nil)) (by omega) fun H6 S6 e6 qa qb p6 hC6 f6 => ?_
      walk_at "rdc"
      obtain ⟨dx6, sD6, tS6, iv6, bv6, hs6, hI6, hl6, hB6, hlb6, nib6, hIt6, hBt6⟩ := hC6.ln
      refine o_fat hs6 M.Z.cl M.Z.n_blocks rfl ?_
      refine ⟨tyL (SqL.of hB6), ?_⟩
      -- the inner coder stands
      have ni : ∀ {a : Addr} {o : HO}, H2 a = none → H a = some o → False := fun h1 h2 => by rw [s12 _ _ h2] at h1; cases h1
      have hC5' := hC5.fq hx5 (il2 := il) (bl2 := bl) (fun e => by have := hD2; rw [e] at this; exact absurd (s1 _ _ hI) (by rw [this]; exact fun h => by cases h)) (fun e => by have := hD2; rw [e] at this; exact absurd (s1 _ _ hB) (by rw [this]; exact fun h => by cases h)) (fun e => ni hil2 (by rw [e]; exact hI)) (fun e => ni hil2 (by rw [e]; exact hB)) (fun e => ni hbl2 (by rw [e]; exact hI)) (fun e => ni hbl2 (by rw [e]; exact hB)) (sB _ _ hI) (sB _ _ hB) f6
      walk_at "rdc"
      refine c_mat hC5' (fun _ _ => rfl) ?_
      walk_at "rdc"
      refine ⟨x, il2, bl2, ps, sc, sl, ow, _, rfl, hC5', fun q7 H7 hq7 s7 => ?_⟩
      walk_at "rdc"
      refine w_app2 (s7 _ _ hB6) (by rw [hlb6, qb]; omega) fun H8 h8 k8 => ?_
      walk_at "rdc"
      have hC8 : CdS K CC self il bl sc sl ow (S6.1, S6.2 ++ [cdT ps.length (cblk (cX sl ow n (ps :: sc)) l)]) H8 := (hC6.same s7).putB (s7 _ _ hB6) h8 k8 (TrsAt.snoc (hq7.but (s7 _ _ hB6) k8) ((hBt6.same s7).but (s7 _ _ hB6) k8))
      refine kQ H8 ?_ (((Fq.same sB).trans f6).trans ((Fq.same s7).trans (Fq.r h8 k8)))
      have e : cBlk (cX sl ow n) sc (ps.map Tr.s) l S = (S6.1, S6.2 ++ [cdT ps.length (cblk (cX sl ow n (ps :: sc)) l)]) := by
        rw [e6]
        unfold cBlk
        rw [nmsT_map, List.length_map]
        rfl
      rw [e]
      exact hC8
theorem v_blk {q : Addr} {u : V} {ps : Ws} {l : List Tr} {m : Nat} {self il bl : Addr} {sc : List Ws} {sl : Ws} {ow : List Nat} {S : CS} {H : Hp} {Q : VK} {E : XK} (hC : CdS K CC self il bl sc sl ow S H) (hq : FT H q (ps.map T)) (hu : TrB K H u (.t l)) (hL : XL (XS n) l m) (hb : S.1.length + 10 * (m + 1) ≤ 800000 ∧ S.2.length + (m + 1) ≤ 800000 ∧ sc.length + (n + 1) ≤ 500) (k : CdQ K CC self il bl sc sl ow (cBlk (cX sl ow n) sc (ps.map Tr.s) l S) H (Q .non)) : spCBk K CC n (.ref self :: ([.ref q, u] ++ [])) H Q E :=
  ⟨self, il, bl, q, u, ps, l, m, sc, sl, ow, S, rfl, hC, hq, hu, hL, hb, k⟩
abbrev s_Coder_expression : Stmt := inClass (topS 4) 13
abbrev N_Coder_expression : List Str := ["self", "tree", "kind"]
theorem sc_Coder_expression : FnScope N_Coder_expression ["self", "tree"] (defScope s_Coder_expression) := ⟨rfl, rfl, rfl, by decide +kernel, rfl, by decide +kernel, by decide +kernel⟩
theorem ok_c_expression0 {f : Addr} {fd : FuncData} (F : Fun K "expression" "Coder.expression" s_Coder_expression f fd) : FnOk P w K mg base CX0 1 f fd ["self", "tree"] (spCP K CC XE 0) := by
  refine F.ok sc_Coder_expression (fun vs H Q E h => ?_) (fun cdv A outer s H vs Q E hr h => ?_)
  · obtain ⟨self, il, bl, v, t, m, sc, sl, ow, S, rfl, _⟩ := h
    rfl
  · obtain ⟨self, il, bl, v, t, m, sc, sl, ow, S, rfl, hC, hv, ⟨lv, w, ns, x, p, _⟩, _⟩ := h
    cases p
theorem ok_c_expression {f : Addr} {fd : FuncData} (F : Fun K "expression" "Coder.expression" s_Coder_expression f fd) (M : CdM P w K mg base CC) (hk : 3 ≤ k) (m_expression : Met P w K mg base k CC "expression" (spCP K CC XE n) []) (m_expressions : Met P w K mg base k CC "expressions" (spCL K CC XE n) []) (m_both : Met P w K mg base k CC "both" (spCAnd K CC n) []) (m_either : Met P w K mg base k CC "either" (spCOr K CC n) []) (m_block : Met P w K mg base k CC "block" (spCBk K CC n) []) : FnOk P w K mg base CX0 (k + 1) f fd ["self", "tree"] (spCP K CC XE (n + 1)) := by
  have Y := M.Y
  have m_put := M.m_put
  have c_place_of := M.c_place_of
  refine F.ok sc_Coder_expression (fun vs H Q E h => ?_) (fun cdv A outer s H vs Q E hr h => ?_)
  · obtain ⟨self, il, bl, v, t, m, sc, sl, ow, S, rfl, _⟩ := h
    rfl
  · obtain ⟨self, il, bl, v, t, m, sc, sl, ow, S, rfl, hC, hv, ⟨lv, w, ns, x, hp, rfl⟩, ⟨b1, b2, b3⟩, kQ⟩ := h
    have nd := sc_Coder_expression.nd
    obtain ⟨dx, sD, tS, xv, iv, bv, n1, n2, n3, hself, hD, hSc, hT, hI, hIt, hB, hBt, hsl⟩ := id hC
    refine ⟨_, (pss_cons (ps_set (i := 2) nd rfl (Or.inl rfl) (pe_ix ix_tup (pv 1) pe_int (fun _ _ => rfl)))
      (pss_one (ps_if (pt_cmpR op_eq (pv 2) pe_str (nomark _)) (pss_one (ps_expr (pe_mt m_put hr (by omega) (pv 0) (pa_cons (pe_tup (pa_cons pe_str (pa_cons (pe_ix ix_tup (pv 1) pe_int (fun _ _ => rfl)) pa_nil))) pa_nil)))) (pss_one (ps_if (pt_cmpR op_eq (pv 2) pe_str (nomark _)) (pss_one (ps_expr (pe_mt m_put hr (by omega) (pv 0) (pa_cons (pe_c c_place_of hr (by omega) rfl (pa_cons (pe_ix ix_tup (pv 1) pe_int (fun _ _ => rfl)) (pa_cons (pe_fld (pv 0) rfl) (pa_cons (pe_fld (pv 0) rfl) pa_nil)))) pa_nil)))) (pss_one (ps_if (PW.pt (pw_or (pt_cmpR op_eq (pv 2) pe_str (nomark _)) (pw_or1 (pt_cmpR op_eq (pv 2) pe_str (nomark _))))) (pss_cons (ps_expr (pe_mt m_expression hr (by omega) (pv 0) (pa_cons (pe_ix ix_tup (pv 1) pe_int (fun _ _ => rfl)) pa_nil)))
      (pss_one (ps_expr (pe_mt m_put hr (by omega) (pv 0) (pa_cons (pe_tup (pa_cons (pv 2) pa_nil)) pa_nil))))) (pss_one (ps_if (pt_cmpR op_eq (pv 2) pe_str (nomark _)) (pss_cons (ps_expr (pe_mt m_expressions hr (by omega) (pv 0) (pa_cons (pe_tup (pa_cons (pe_ix ix_tup (pv 1) pe_int (fun _ _ => rfl)) (pa_cons (pe_ix ix_tup (pv 1) pe_int (fun _ _ => rfl)) pa_nil))) pa_nil)))
      (pss_one (ps_expr (pe_mt m_put hr (by omega) (pv 0) (pa_cons (pe_tup (pa_cons pe_str (pa_cons (pe_ix ix_tup (pv 1) pe_int (fun _ _ => rfl)) pa_nil))) pa_nil))))) (pss_one (ps_if (pt_cmpR op_eq (pv 2) pe_str (nomark _)) (pss_one (ps_expr (pe_mt m_both hr (by omega) (pv 0) (pa_cons (pe_ix ix_tup (pv 1) pe_int (fun _ _ => rfl)) (pa_cons (pe_ix ix_tup (pv 1) pe_int (fun _ _ => rfl)) pa_nil))))) (pss_one (ps_if (pt_cmpR op_eq (pv 2) pe_str (nomark _)) (pss_one (ps_expr (pe_mt m_either hr (by omega) (pv 0) (pa_cons (pe_ix ix_tup (pv 1) pe_int (fun _ _ => rfl)) (pa_cons (pe_ix ix_tup (pv 1) pe_int (fun _ _ => rfl)) pa_nil))))) (pss_one (ps_if (pt_cmpR op_eq (pv 2) pe_str (nomark _)) (pss_cons (ps_expr (pe_mt m_expression hr (by omega) (pv 0) (pa_cons (pe_ix ix_tup (pv 1) pe_int (fun _ _ => rfl)) pa_nil)))
      (pss_cons (ps_expr (pe_mt m_expressions hr (by omega) (pv 0) (pa_cons (pe_ix ix_tup (pv 1) pe_int (fun _ _ => rfl)) pa_nil)))
      (pss_one (ps_expr (pe_mt m_put hr (by omega) (pv 0) (pa_cons (pe_tup (pa_cons pe_str (pa_cons (pe_ix ix_tup (pv 1) pe_int (fun _ _ => rfl)) (pa_cons (pe_callB call_lenL (by rfl) Y.n_len (by decide +kernel) (pa_cons (pe_ix ix_tup (pv 1) pe_int (fun _ _ => rfl)) pa_nil)) pa_nil)))) pa_nil)))))) (pss_one (ps_if (pt_cmpR op_eq (pv 2) pe_str (nomark _)) (pss_cons (ps_expr (pe_mt m_expressions hr (by omega) (pv 0) (pa_cons (pe_ix ix_tup (pv 1) pe_int (fun _ _ => rfl)) pa_nil)))
      (pss_one (ps_expr (pe_mt m_put hr (by omega) (pv 0) (pa_cons (pe_tup (pa_cons pe_str (pa_cons (pe_fld (pv 0) rfl) (pa_cons (pe_ix ix_tup (pv 1) pe_int (fun _ _ => rfl)) (pa_cons (pe_callB call_lenL (by rfl) Y.n_len (by decide +kernel) (pa_cons (pe_ix ix_tup (pv 1) pe_int (fun _ _ => rfl)) pa_nil)) pa_nil))))) pa_nil))))) (pss_one (ps_if (pt_cmpR op_eq (pv 2) pe_str (nomark _)) (pss_one (ps_expr (pe_mt m_block hr (by omega) (pv 0) (pa_cons (pe_ix ix_tup (pv 1) pe_int (fun _ _ => rfl)) (pa_cons (pe_ix ix_tup (pv 1) pe_int (fun _ _ => rfl)) pa_nil))))) (pss_one (ps_expr (pe_mt m_put hr (by omega) (pv 0) (pa_cons (pv 1) pa_nil))))))))))))))))))))))), ?_⟩
    rw [show L2.start N_Coder_expression [.ref self, v] = [some (.ref self), some v, none] from rfl]
    cases hp with
    | num hn =>
      obtain ⟨p, y, rfl, hq, hy⟩ := hv.e2
      simp only [List.length_cons, List.length_nil] at b1 b2
      walk_at "kd"
      refine c_mat hC (fun _ _ => rfl) ?_
      walk_at "kd"
      refine v_put hC (by show 2 ≤ 1000000; decide) (.cons .s (.cons hy.at .nil)) (by omega) fun H1 S1 e1 qa qb p1 hC1 f1 => ?_
      walk_at "kd"
      subst e1
      exact kQ H1 (CdS.eq (cd_plain (cX sl ow n) sl ow sc S _) hC1) f1
    | text hn =>
      obtain ⟨p, y, rfl, hq, hy⟩ := hv.e2
      simp only [List.length_cons, List.length_nil] at b1 b2
      walk_at "kd"
      refine c_mat hC (fun _ _ => rfl) ?_
      walk_at "kd"
      refine v_put hC (by show 2 ≤ 1000000; decide) (.cons .s (.cons hy.at .nil)) (by omega) fun H1 S1 e1 qa qb p1 hC1 f1 => ?_
      walk_at "kd"
      subst e1
      exact kQ H1 (CdS.eq (cd_plain (cX sl ow n) sl ow sc S _) hC1) f1
    | word hn =>
      obtain ⟨p, y, rfl, hq, hy⟩ := hv.e2
      simp only [List.length_cons, List.length_nil] at b1 b2
      walk_at "kd"
      refine c_mat hC (fun _ _ => rfl) ?_
      walk_at "kd"
      refine v_put hC (by show 2 ≤ 1000000; decide) (.cons .s (.cons hy.at .nil)) (by omega) fun H1 S1 e1 qa qb p1 hC1 f1 => ?_
      walk_at "kd"
      subst e1
      exact kQ H1 (CdS.eq (cd_plain (cX sl ow n) sl ow sc S _) hC1) f1
    | self =>
      obtain ⟨p, rfl, hq⟩ := hv.e1
      simp only [List.length_cons, List.length_nil] at b1 b2
      walk_at "kd"
      refine c_mat hC (fun _ _ => rfl) ?_
      walk_at "kd"
      refine u_put hC hv.at (by omega) fun H1 hC1 f1 => ?_
      walk_at "kd"
      exact kQ H1 (CdS.eq (cd_self (cX sl ow n) sl ow sc S) hC1) f1
    | new hn =>
      obtain ⟨p, y, rfl, hq, hy⟩ := hv.e2
      simp only [List.length_cons, List.length_nil] at b1 b2
      walk_at "kd"
      refine c_mat hC (fun _ _ => rfl) ?_
      walk_at "kd"
      refine u_put hC hv.at (by omega) fun H1 hC1 f1 => ?_
      walk_at "kd"
      exact kQ H1 (CdS.eq (cd_new (cX sl ow n) sl ow sc S _) hC1) f1
    | name hn =>
      obtain ⟨p, y, rfl, hq, hy⟩ := hv.e2
      cases hy.sE
      simp only [List.length_cons, List.length_nil] at b1 b2
      walk_at "kd"
      refine c_mat hC (fun _ _ => rfl) ?_
      walk_at "kd"
      refine o_fat hself M.Z.cl M.Z.n_scopes rfl ?_
      walk_at "kd"
      refine o_fat hself M.Z.cl M.Z.n_slots rfl ?_
      walk_at "kd"
      refine ⟨sD, tS, _, xv, sc, sl, rfl, SqL.of hD, hSc, hT, by rw [hSc.length]; exact hsl, fun p H1 s1 hp => ?_⟩
      walk_at "kd"
      have hpt := pk_at hp
      rw [pk_plc] at hpt
      refine u_put (hC.same s1) hpt (by omega) fun H2 hC2 f2 => ?_
      walk_at "kd"
      exact kQ H2 (CdS.eq (cd_name (cX sl ow n) sl ow sc S _) hC2) ((Fq.same s1).trans f2)
    | neg pe =>
      obtain ⟨p, y, rfl, hq, hy⟩ := hv.e2
      obtain ⟨m1, hs1, hm1⟩ := pe.xe
      simp only [List.length_cons, List.length_nil] at b1 b2
      walk_at "kd"
      refine c_mat hC (fun _ _ => rfl) ?_
      walk_at "kd"
      refine v_e hC hy hs1 ⟨by omega, by omega, by omega⟩ fun H1 S1 e1 L1 p1 hC1 f1 => ?_
      obtain ⟨qa1, qb1, qc1, qd1⟩ := L1
      walk_at "kd"
      refine c_mat hC1 (fun _ _ => rfl) ?_
      walk_at "kd"
      refine v_put hC1 (by show 1 ≤ 1000000; decide) (.cons .s .nil) (by omega) fun H2 S2 e2 qa qb p2 hC2 f2 => ?_
      walk_at "kd"
      subst e2 e1
      exact kQ H2 (CdS.eq (cd_neg (cX sl ow n) sl ow sc S _) hC2) (f1.trans f2)
    | not pe =>
      obtain ⟨p, y, rfl, hq, hy⟩ := hv.e2
      obtain ⟨m1, hs1, hm1⟩ := pe.xe
      simp only [List.length_cons, List.length_nil] at b1 b2
      walk_at "kd"
      refine c_mat hC (fun _ _ => rfl) ?_
      walk_at "kd"
      refine v_e hC hy hs1 ⟨by omega, by omega, by omega⟩ fun H1 S1 e1 L1 p1 hC1 f1 => ?_
      obtain ⟨qa1, qb1, qc1, qd1⟩ := L1
      walk_at "kd"
      refine c_mat hC1 (fun _ _ => rfl) ?_
      walk_at "kd"
      refine v_put hC1 (by show 1 ≤ 1000000; decide) (.cons .s .nil) (by omega) fun H2 S2 e2 qa qb p2 hC2 f2 => ?_
      walk_at "kd"
      subst e2 e1
      exact kQ H2 (CdS.eq (cd_not (cX sl ow n) sl ow sc S _) hC2) (f1.trans f2)
    | @bin _ _ sg t1 t2 _ _ _ _ _ _ ha hb pe1 pe2 =>
      obtain ⟨m1, hs1, hm1⟩ := pe1.xe
      obtain ⟨m2, hs2, hm2⟩ := pe2.xe
      simp only [List.length_append, List.length_cons, List.length_nil] at b1 b2
      by_cases h : sg = cds "and" ∨ sg = cds "or"
      · rw [show binT sg t1 t2 = .t [.s sg, t1, t2] from if_pos h] at hv kQ
        obtain ⟨p, y, z, rfl, hq, hy, hz⟩ := hv.e3
        rcases h with rfl | rfl
        · walk_at "kd"
          refine c_mat hC (fun _ _ => rfl) ?_
          walk_at "kd"
          refine ⟨self, il, bl, y, z, t1, t2, m1, m2, sc, sl, ow, S, rfl, hC, hy, hs1, hz, hs2, ⟨by omega, by omega, by omega⟩, fun H1 hC1 f1 => ?_⟩
          walk_at "kd"
          exact kQ H1 (CdS.eq (cd_and (cX sl ow n) sl ow sc S _ _) hC1) f1
        · walk_at "kd"
          refine c_mat hC (fun _ _ => rfl) ?_
          walk_at "kd"
          refine ⟨self, il, bl, y, z, t1, t2, m1, m2, sc, sl, ow, S, rfl, hC, hy, hs1, hz, hs2, ⟨by omega, by omega, by omega⟩, fun H1 hC1 f1 => ?_⟩
          walk_at "kd"
          exact kQ H1 (CdS.eq (cd_or (cX sl ow n) sl ow sc S _ _) hC1) f1
      · rw [show binT sg t1 t2 = .t [str "op", .s sg, t1, t2] from if_neg h] at hv kQ
        obtain ⟨p, y, z, u, rfl, hq, hy, hz, hu⟩ := hv.e4
        cases hy.sE
        walk_at "kd"
        refine c_mat hC (fun _ _ => rfl) ?_
        walk_at "kd"
        refine w_newT (by show 2 ≤ 1000000; decide) fun q1 H1 hq1 s1 h1 => ?_
        walk_at "kd"
        have hpair : TrB K H1 (.ref q1) (.t [t1, t2]) := .mk (.inl (.inl h1)) (.cons (hz.same s1) (.cons (hu.same s1) .nil)) (fun ps r e => by
          obtain ⟨lv1, w1, ns1, x1, p1, _⟩ := hs1
          obtain ⟨l1, e1⟩ := p1.isT
          rw [e1] at e
          cases e)
        refine v_es (hC.same s1) hpair (.cons hs1 (.cons hs2 .nil)) ⟨by omega, by omega, by omega⟩ fun H2 S2 e2 L2 p2 hC2 f2 => ?_
        obtain ⟨qa1, qb1, qc1, qd1⟩ := L2
        walk_at "kd"
        refine c_mat hC2 (fun _ _ => rfl) ?_
        walk_at "kd"
        refine w_ixT ((hC.same s1).sq f2 (Same.sqT s1 hq)) (atI_nat (j := 1) rfl) ?_
        walk_at "kd"
        refine v_put hC2 (by show 2 ≤ 1000000; decide) (.cons .s (.cons .s .nil)) (by omega) fun H3 S3 e3 qa qb p3 hC3 f3 => ?_
        walk_at "kd"
        subst e3 e2
        exact kQ H3 (CdS.eq (cd_op (cX sl ow n) sl ow sc S _ _ _) hC3) (((Fq.same s1).trans f2).trans f3)
    | send pe hn pa =>
      obtain ⟨p, y, z, u, rfl, hq, hy, hz, hu⟩ := hv.e4
      cases hz.sE
      obtain ⟨m1, hs1, hm1⟩ := pe.xe
      obtain ⟨m2, hs2, hm2⟩ := pa.xl
      obtain ⟨pu, us, rfl, hpu, hus, _⟩ := hu.tupV
      simp only [List.length_append, List.length_cons, List.length_nil] at b1 b2
      walk_at "kd"
      refine c_mat hC (fun _ _ => rfl) ?_
      walk_at "kd"
      refine v_e hC hy hs1 ⟨by omega, by omega, by omega⟩ fun H1 S1 e1 L1 p1 hC1 f1 => ?_
      obtain ⟨qa1, qb1, qc1, qd1⟩ := L1
      walk_at "kd"
      refine c_mat hC1 (fun _ _ => rfl) ?_
      walk_at "kd"
      refine w_ixT (hC.sq f1 hq) (atI_nat (j := 3) rfl) ?_
      walk_at "kd"
      refine v_es hC1 (hC.tr f1 hu) hs2 ⟨by omega, by omega, by omega⟩ fun H2 S2 e2 L2 p2 hC2 f2 => ?_
      obtain ⟨qa2, qb2, qc2, qd2⟩ := L2
      have f12 := f1.trans f2
      walk_at "kd"
      refine c_mat hC2 (fun _ _ => rfl) ?_
      walk_at "kd"
      refine w_ixT (hC.sq f12 hq) (atI_nat (j := 2) rfl) ?_
      walk_at "kd"
      refine w_ixT (hC.sq f12 hq) (atI_nat (j := 3) rfl) ?_
      walk_at "kd"
      refine w_lenT (hC.sq f12 hpu) ?_
      rw [hus.length]
      walk_at "kd"
      refine v_put hC2 (by show 3 ≤ 1000000; decide) (.cons .s (.cons .s (.cons .i .nil))) (by omega) fun H3 S3 e3 qa qb p3 hC3 f3 => ?_
      walk_at "kd"
      subst e3 e2 e1
      exact kQ H3 (CdS.eq (cd_send (cX sl ow n) sl ow sc S _ _ _) hC3) (f12.trans f3)
    | sup hn pa =>
      obtain ⟨p, y, u, rfl, hq, hy, hu⟩ := hv.e3
      cases hy.sE
      obtain ⟨m2, hs2, hm2⟩ := pa.xl
      obtain ⟨pu, us, rfl, hpu, hus, _⟩ := hu.tupV
      simp only [List.length_append, List.length_cons, List.length_nil] at b1 b2
      walk_at "kd"
      refine c_mat hC (fun _ _ => rfl) ?_
      walk_at "kd"
      refine v_es hC hu hs2 ⟨by omega, by omega, by omega⟩ fun H1 S1 e1 L1 p1 hC1 f1 => ?_
      obtain ⟨qa1, qb1, qc1, qd1⟩ := L1
      obtain ⟨dx1, sD1, tS1, _, _, _, _, _, _, hs1, _⟩ := id hC1
      walk_at "kd"
      refine c_mat hC1 (fun _ _ => rfl) ?_
      walk_at "kd"
      refine o_fat hs1 M.Z.cl M.Z.n_owner rfl ?_
      walk_at "kd"
      refine w_ixT (hC.sq f1 hq) (atI_nat (j := 1) rfl) ?_
      walk_at "kd"
      refine w_ixT (hC.sq f1 hq) (atI_nat (j := 2) rfl) ?_
      walk_at "kd"
      refine w_lenT (hC.sq f1 hpu) ?_
      rw [hus.length]
      walk_at "kd"
      refine v_put hC1 (by show 4 ≤ 1000000; decide) (.cons .s (.cons .s (.cons .s (.cons .i .nil)))) (by omega) fun H3 S3 e3 qa qb p3 hC3 f3 => ?_
      walk_at "kd"
      subst e3 e1
      exact kQ H3 (CdS.eq (cd_super (cX sl ow n) sl ow sc S _ _) hC3) (f1.trans f3)
    | blk0 pb =>
      obtain ⟨p, q, u, ws, rfl, hq, ew, hqf, hu⟩ := hv.eBlk
      obtain ⟨m2, hs2, hm2⟩ := pb.xl
      simp only [List.length_append, List.length_cons, List.length_nil] at b1 b2
      walk_at "kd"
      refine c_mat hC (fun _ _ => rfl) ?_
      walk_at "kd"
      refine v_blk hC hqf hu hs2 ⟨by omega, by omega, by omega⟩ fun H1 hC1 f1 => ?_
      rw [← ew] at hC1
      walk_at "kd"
      exact kQ H1 (CdS.eq (cd_block (cX sl ow n) sl ow sc S _ _) hC1) f1
    | blk h0 h4 hn pb =>
      obtain ⟨p, q, u, ws, rfl, hq, ew, hqf, hu⟩ := hv.eBlk
      obtain ⟨m2, hs2, hm2⟩ := pb.xl
      simp only [List.length_append, List.length_cons, List.length_nil] at b1 b2
      walk_at "kd"
      refine c_mat hC (fun _ _ => rfl) ?_
      walk_at "kd"
      refine v_blk hC hqf hu hs2 ⟨by omega, by omega, by omega⟩ fun H1 hC1 f1 => ?_
      rw [← ew] at hC1
      walk_at "kd"
      exact kQ H1 (CdS.eq (cd_block (cX sl ow n) sl ow sc S _ _) hC1) f1
end
end
section
/-! The compiler: statements, every depth. -/
open PySem PySem.Spec PyProof.Rows L2
open C8 (Cal Met Mak cal0 pe_c pe_gc pss_cut tCut pe_mt pe_mt0 pe_mk)

local macro_rules | `(tactic| walk_at "kd") => `(tactic| repeat (first
  | walk_at "r1c"
  | with_reducible refine c_if_Te (by with_unfolding_all decide +kernel) ?_
  | with_reducible refine c_if_Tn (by with_unfolding_all decide +kernel) ?_))
section
variable {P : Program} {w : World} {K : PySem.W.Frag} {mg : Str → Option Value} {base : Heap} {CC : Addr} {k n : Nat}
abbrev s_Coder_statement : Stmt := inClass (topS 4) 8
abbrev N_Coder_statement : List Str := ["self", "tree", "kind"]
theorem sc_Coder_statement : FnScope N_Coder_statement ["self", "tree"] (defScope s_Coder_statement) := ⟨rfl, rfl, rfl, by decide +kernel, rfl, by decide +kernel, by decide +kernel⟩
theorem ok_c_statement0 {f : Addr} {fd : FuncData} (F : Fun K "statement" "Coder.statement" s_Coder_statement f fd) : FnOk P w K mg base CX0 1 f fd ["self", "tree"] (spCP K CC XS 0) := by
  refine F.ok sc_Coder_statement (fun vs H Q E h => ?_) (fun cdv A outer s H vs Q E hr h => ?_)
  · obtain ⟨self, il, bl, v, t, m, sc, sl, ow, S, rfl, _⟩ := h
    rfl
  · obtain ⟨self, il, bl, v, t, m, sc, sl, ow, S, rfl, hC, hv, ⟨w, ns, x, p, _⟩, _⟩ := h
    cases p
theorem ok_c_statement {f : Addr} {fd : FuncData} (F : Fun K "statement" "Coder.statement" s_Coder_statement f fd) (M : CdM P w K mg base CC) (hk : 3 ≤ k) (m_expression : Met P w K mg base k CC "expression" (spCP K CC XE n) []) (m_loop : Met P w K mg base k CC "loop" (spCWhl K CC n) []) (m_choice : Met P w K mg base k CC "choice" (spCIf K CC n) []) (m_attempt : Met P w K mg base k CC "attempt" (spCTry K CC n) []) (m_kept : Met P w K mg base k CC "kept" (spCKeep K CC n) []) : FnOk P w K mg base CX0 (k + 1) f fd ["self", "tree"] (spCP K CC XS (n + 1)) := by
  have Y := M.Y
  have m_put := M.m_put
  have m_put_into := M.m_put_into
  refine F.ok sc_Coder_statement (fun vs H Q E h => ?_) (fun cdv A outer s H vs Q E hr h => ?_)
  · obtain ⟨self, il, bl, v, t, m, sc, sl, ow, S, rfl, _⟩ := h
    rfl
  · obtain ⟨self, il, bl, v, t, m, sc, sl, ow, S, rfl, hC, hv, ⟨w, ns, x, hp, rfl⟩, ⟨b1, b2, b3⟩, kQ⟩ := h
    have nd := sc_Coder_statement.nd
    refine ⟨_, (pss_cons (ps_set (i := 2) nd rfl (Or.inl rfl) (pe_ix ix_tup (pv 1) pe_int (fun _ _ => rfl)))
      (pss_one (ps_if (pt_cmpR op_eq (pv 2) pe_str (nomark _)) (pss_one (ps_expr (pe_mt m_loop hr (by omega) (pv 0) (pa_cons (pe_ix ix_tup (pv 1) pe_int (fun _ _ => rfl)) (pa_cons (pe_ix ix_tup (pv 1) pe_int (fun _ _ => rfl)) pa_nil))))) (pss_one (ps_if (pt_cmpR op_eq (pv 2) pe_str (nomark _)) (pss_one (ps_expr (pe_mt m_choice hr (by omega) (pv 0) (pa_cons (pe_ix ix_tup (pv 1) pe_int (fun _ _ => rfl)) (pa_cons (pe_ix ix_tup (pv 1) pe_int (fun _ _ => rfl)) (pa_cons (pe_ix ix_tup (pv 1) pe_int (fun _ _ => rfl)) pa_nil)))))) (pss_one (ps_if (pt_cmpR op_eq (pv 2) pe_str (nomark _)) (pss_one (ps_expr (pe_mt m_attempt hr (by omega) (pv 0) (pa_cons (pe_ix ix_tup (pv 1) pe_int (fun _ _ => rfl)) (pa_cons (pe_ix ix_tup (pv 1) pe_int (fun _ _ => rfl)) (pa_cons (pe_ix ix_tup (pv 1) pe_int (fun _ _ => rfl)) pa_nil)))))) (pss_one (ps_if (pt_cmpR op_eq (pv 2) pe_str (nomark _)) (pss_one (ps_expr (pe_mt m_kept hr (by omega) (pv 0) (pa_cons (pe_ix ix_tup (pv 1) pe_int (fun _ _ => rfl)) (pa_cons (pe_ix ix_tup (pv 1) pe_int (fun _ _ => rfl)) pa_nil))))) (pss_one (ps_if (pt_cmpR op_eq (pv 2) pe_str (nomark _)) (pss_cons (ps_expr (pe_mt m_expression hr (by omega) (pv 0) (pa_cons (pe_ix ix_tup (pv 1) pe_int (fun _ _ => rfl)) pa_nil)))
      (pss_one (ps_expr (pe_mt m_put_into hr (by omega) (pv 0) (pa_cons (pe_ix ix_tup (pv 1) pe_int (fun _ _ => rfl)) pa_nil))))) (pss_one (ps_if (pt_cmpR op_eq (pv 2) pe_str (nomark _)) (pss_cons (ps_expr (pe_mt m_expression hr (by omega) (pv 0) (pa_cons (pe_ix ix_tup (pv 1) pe_int (fun _ _ => rfl)) pa_nil)))
      (pss_one (ps_expr (pe_mt m_put hr (by omega) (pv 0) (pa_cons (pe_tup (pa_cons pe_str pa_nil)) pa_nil))))) (pss_cons (ps_expr (pe_mt m_expression hr (by omega) (pv 0) (pa_cons (pe_ix ix_tup (pv 1) pe_int (fun _ _ => rfl)) pa_nil)))
      (pss_one (ps_expr (pe_mt m_put hr (by omega) (pv 0) (pa_cons (pe_tup (pa_cons (pv 2) pa_nil)) pa_nil)))))))))))))))))), ?_⟩
    rw [show L2.start N_Coder_statement [.ref self, v] = [some (.ref self), some v, none] from rfl]
    cases hp with
    | eval pe =>
      obtain ⟨p, y, rfl, hq, hy⟩ := hv.e2
      have hw1 := w_one pe.len
      walk_at "kd"
      refine c_mat hC (fun _ _ => rfl) ?_
      walk_at "kd"
      refine v_e hC hy ⟨_, _, _, _, pe, rfl⟩ ⟨by omega, by omega, by omega⟩ fun H1 S1 e1 L1 p1 hC1 f1 => ?_
      obtain ⟨qa1, qb1, qc1, qd1⟩ := L1
      walk_at "kd"
      refine c_mat hC1 (fun _ _ => rfl) ?_
      walk_at "kd"
      refine v_put hC1 (by show 1 ≤ 1000000; decide) (.cons .s .nil) (by omega) fun H2 S2 e2 qa qb p2 hC2 f2 => ?_
      walk_at "kd"
      subst e2 e1
      exact kQ H2 (CdS.eq (cd_eval (cX sl ow n) sl ow sc S _) hC2) (f1.trans f2)
    | set na pe =>
      obtain ⟨p, y, z, rfl, hq, hy, hz⟩ := hv.e3
      cases hy.sE
      simp only [List.length_append, List.length_cons, List.length_nil] at b1 b2
      walk_at "kd"
      refine c_mat hC (fun _ _ => rfl) ?_
      walk_at "kd"
      refine v_e hC hz ⟨_, _, _, _, pe, rfl⟩ ⟨by omega, by omega, by omega⟩ fun H1 S1 e1 L1 p1 hC1 f1 => ?_
      obtain ⟨qa1, qb1, qc1, qd1⟩ := L1
      walk_at "kd"
      refine c_mat hC1 (fun _ _ => rfl) ?_
      walk_at "kd"
      refine w_ixT (hC.sq f1 hq) (atI_nat (j := 1) rfl) ?_
      walk_at "kd"
      refine v_in hC1 (by omega) fun H2 S2 e2 qa qb p2 hC2 f2 => ?_
      walk_at "kd"
      subst e2 e1
      exact kQ H2 (CdS.eq (cd_set (cX sl ow n) sl ow sc S _ _) hC2) (f1.trans f2)
    | gf hg pe =>
      obtain ⟨p, z, rfl, hq, hz⟩ := hv.e2
      simp only [List.length_append, List.length_cons, List.length_nil] at b1 b2
      rcases hg with rfl | rfl
      · walk_at "kd"
        refine c_mat hC (fun _ _ => rfl) ?_
        walk_at "kd"
        refine v_e hC hz ⟨_, _, _, _, pe, rfl⟩ ⟨by omega, by omega, by omega⟩ fun H1 S1 e1 L1 p1 hC1 f1 => ?_
        obtain ⟨qa1, qb1, qc1, qd1⟩ := L1
        walk_at "kd"
        refine c_mat hC1 (fun _ _ => rfl) ?_
        walk_at "kd"
        refine v_put hC1 (by show 1 ≤ 1000000; decide) (.cons .s .nil) (by omega) fun H2 S2 e2 qa qb p2 hC2 f2 => ?_
        walk_at "kd"
        subst e2 e1
        exact kQ H2 (CdS.eq (cd_give (cX sl ow n) sl ow sc S _) hC2) (f1.trans f2)
      · walk_at "kd"
        refine c_mat hC (fun _ _ => rfl) ?_
        walk_at "kd"
        refine v_e hC hz ⟨_, _, _, _, pe, rfl⟩ ⟨by omega, by omega, by omega⟩ fun H1 S1 e1 L1 p1 hC1 f1 => ?_
        obtain ⟨qa1, qb1, qc1, qd1⟩ := L1
        walk_at "kd"
        refine c_mat hC1 (fun _ _ => rfl) ?_
        walk_at "kd"
        refine v_put hC1 (by show 1 ≤ 1000000; decide) (.cons .s .nil) (by omega) fun H2 S2 e2 qa qb p2 hC2 f2 => ?_
        walk_at "kd"
        subst e2 e1
        exact kQ H2 (CdS.eq (cd_fail (cX sl ow n) sl ow sc S _) hC2) (f1.trans f2)
    | whl pe pb =>
      obtain ⟨p, y, z, rfl, hq, hy, hz⟩ := hv.e3
      obtain ⟨m2, hs2, hm2⟩ := pb.xl
      simp only [List.length_append, List.length_cons, List.length_nil] at b1 b2
      walk_at "kd"
      refine c_mat hC (fun _ _ => rfl) ?_
      walk_at "kd"
      refine ⟨self, il, bl, y, z, _, _, _, m2, sc, sl, ow, S, rfl, hC, hy, ⟨_, _, _, _, pe, rfl⟩, hz, hs2, ⟨by omega, by omega, by omega⟩, fun H1 hC1 f1 => ?_⟩
      walk_at "kd"
      exact kQ H1 (CdS.eq (cd_while (cX sl ow n) sl ow sc S _ _) hC1) f1
    | if0 pe pb =>
      obtain ⟨p, y, z, u, rfl, hq, hy, hz, hu⟩ := hv.e4
      obtain ⟨m2, hs2, hm2⟩ := pb.xl
      simp only [List.length_append, List.length_cons, List.length_nil] at b1 b2
      walk_at "kd"
      refine c_mat hC (fun _ _ => rfl) ?_
      walk_at "kd"
      refine ⟨self, il, bl, y, z, u, _, _, [], _, m2, 0, sc, sl, ow, S, rfl, hC, hy, ⟨_, _, _, _, pe, rfl⟩, hz, hs2, hu, .nil, ⟨by omega, by omega, by omega⟩, fun H1 hC1 f1 => ?_⟩
      walk_at "kd"
      exact kQ H1 (CdS.eq (cd_if0 (cX sl ow n) sl ow sc S _ _) hC1) f1
    | if1 pe pb h3 pc =>
      obtain ⟨p, y, z, u, rfl, hq, hy, hz, hu⟩ := hv.e4
      obtain ⟨m2, hs2, hm2⟩ := pb.xl
      obtain ⟨m3, hs3, hm3⟩ := pc.xl
      simp only [List.length_append, List.length_cons, List.length_nil] at b1 b2
      walk_at "kd"
      refine c_mat hC (fun _ _ => rfl) ?_
      walk_at "kd"
      refine ⟨self, il, bl, y, z, u, _, _, _, _, m2, m3, sc, sl, ow, S, rfl, hC, hy, ⟨_, _, _, _, pe, rfl⟩, hz, hs2, hu, hs3, ⟨by omega, by omega, by omega⟩, fun H1 hC1 f1 => ?_⟩
      walk_at "kd"
      rw [if_neg (by rw [List.isEmpty_iff]; exact h3)] at hC1
      exact kQ H1 (CdS.eq (cd_if1 (cX sl ow n) sl ow sc S _ _ _ h3) hC1) f1
    | try_ pb na pc =>
      obtain ⟨p, y, z, u, rfl, hq, hy, hz, hu⟩ := hv.e4
      cases hz.sE
      obtain ⟨m2, hs2, hm2⟩ := pb.xl
      obtain ⟨m3, hs3, hm3⟩ := pc.xl
      simp only [List.length_append, List.length_cons, List.length_nil] at b1 b2
      walk_at "kd"
      refine c_mat hC (fun _ _ => rfl) ?_
      walk_at "kd"
      refine ⟨self, il, bl, y, u, _, _, _, m2, m3, sc, sl, ow, S, rfl, hC, hy, hs2, hu, hs3, ⟨by omega, by omega, by omega⟩, fun H1 hC1 f1 => ?_⟩
      walk_at "kd"
      exact kQ H1 (CdS.eq (cd_try (cX sl ow n) sl ow sc S _ _ _) hC1) f1
    | keep pb pc =>
      obtain ⟨p, y, u, rfl, hq, hy, hu⟩ := hv.e3
      obtain ⟨m2, hs2, hm2⟩ := pb.xl
      obtain ⟨m3, hs3, hm3⟩ := pc.xl
      simp only [List.length_append, List.length_cons, List.length_nil] at b1 b2
      walk_at "kd"
      refine c_mat hC (fun _ _ => rfl) ?_
      walk_at "kd"
      refine ⟨self, il, bl, y, u, _, _, m2, m3, sc, sl, ow, S, rfl, hC, hy, hs2, hu, hs3, ⟨by omega, by omega, by omega⟩, fun H1 hC1 f1 => ?_⟩
      walk_at "kd"
      exact kQ H1 (CdS.eq (cd_keep (cX sl ow n) sl ow sc S _ _) hC1) f1
/-- a method of the class -/
structure DfM (K : PySem.W.Frag) (CC : Addr) (x q : Str) (st : Stmt) (ps : List Str) : Prop where
  ex : ∃ (f : Addr) (fd : FuncData), Fun K x q st f fd ∧ Cls K CC ∧ Meth K CC x f ∧ Binds K fd ps []
theorem DfM.met {P : Program} {w : World} {K : PySem.W.Frag} {mg : Str → Option Value} {base : Heap} {CC : Addr} {x q : Str} {st : Stmt} {ps : List Str} {k : Nat} {sp : Sp} (c : DfM K CC x q st ps) (h : ∀ f fd, Fun K x q st f fd → FnOk P w K mg base CX0 k f fd ps sp) : Met P w K mg base k CC x sp [] := by
  obtain ⟨f, fd, F, a, b, c⟩ := c.ex
  exact ⟨f, fd, ps, [], a, b, h f fd F, c, .nil⟩
theorem met_up {P : Program} {w : World} {K : PySem.W.Frag} {mg : Str → Option Value} {base : Heap} {CC : Addr} {x : Str} {k j : Nat} {sp : Sp} {dvs : List V} (c : Met P w K mg base k CC x sp dvs) (h : k ≤ j) : Met P w K mg base j CC x sp dvs := by
  obtain ⟨f, fd, ps, ds, a, b, F, c, d⟩ := c.ex
  exact ⟨f, fd, ps, ds, a, b, F.mono h, c, d⟩
/-- the methods that call one another -/
structure CdD (P : Program) (w : World) (K : PySem.W.Frag) (mg : Str → Option Value) (base : Heap) (CC : Addr) : Prop where
  M : CdM P w K mg base CC
  expression : DfM K CC "expression" "Coder.expression" s_Coder_expression ["self", "tree"]
  expressions : DfM K CC "expressions" "Coder.expressions" s_Coder_expressions ["self", "parts"]
  statement : DfM K CC "statement" "Coder.statement" s_Coder_statement ["self", "tree"]
  body : DfM K CC "body" "Coder.body" s_Coder_body ["self", "body"]
  loop : DfM K CC "loop" "Coder.loop" s_Coder_loop ["self", "test", "body"]
  choice : DfM K CC "choice" "Coder.choice" s_Coder_choice ["self", "test", "body", "other"]
  attempt : DfM K CC "attempt" "Coder.attempt" s_Coder_attempt ["self", "body", "name", "handler"]
  kept : DfM K CC "kept" "Coder.kept" s_Coder_kept ["self", "body", "last"]
  both : DfM K CC "both" "Coder.both" s_Coder_both ["self", "left", "right"]
  either : DfM K CC "either" "Coder.either" s_Coder_either ["self", "left", "right"]
  block : DfM K CC "block" "Coder.block" s_Coder_block ["self", "params", "body"]
theorem CdD.all (D : CdD P w K mg base CC) : ∀ n, Met P w K mg base (3 * n + 3) CC "expression" (spCP K CC XE n) [] ∧ Met P w K mg base (3 * n + 3) CC "statement" (spCP K CC XS n) []
  | 0 => ⟨D.expression.met fun f fd F => (ok_c_expression0 F).mono (by decide), D.statement.met fun f fd F => (ok_c_statement0 F).mono (by decide)⟩
  | n + 1 => by
    obtain ⟨e, s⟩ := D.all n
    have M := D.M
    generalize hk : 3 * n + 3 = k at e s
    have hk3 : 3 ≤ k := by omega
    have es : Met P w K mg base (k + 1) CC "expressions" (spCL K CC XE n) [] := D.expressions.met fun f fd F => ok_expressions F M.Z e
    have bo : Met P w K mg base (k + 1) CC "body" (spCL K CC XS n) [] := D.body.met fun f fd F => ok_body F M.Z s
    have e1 := met_up e (show k ≤ k + 1 by omega)
    have e2 := met_up e (show k ≤ k + 2 by omega)
    have bh : Met P w K mg base (k + 1) CC "both" (spCAnd K CC n) [] := D.both.met fun f fd F => ok_both F M hk3 e
    have ei : Met P w K mg base (k + 1) CC "either" (spCOr K CC n) [] := D.either.met fun f fd F => ok_either F M hk3 e
    have bk : Met P w K mg base (k + 2) CC "block" (spCBk K CC n) [] := D.block.met fun f fd F => ok_c_block F M (by omega) bo
    have lo : Met P w K mg base (k + 2) CC "loop" (spCWhl K CC n) [] := D.loop.met fun f fd F => ok_loop F M (by omega) e1 bo
    have ch : Met P w K mg base (k + 2) CC "choice" (spCIf K CC n) [] := D.choice.met fun f fd F => ok_choice F M (by omega) e1 bo
    have at_ : Met P w K mg base (k + 2) CC "attempt" (spCTry K CC n) [] := D.attempt.met fun f fd F => ok_attempt F M (by omega) bo
    have kp : Met P w K mg base (k + 2) CC "kept" (spCKeep K CC n) [] := D.kept.met fun f fd F => ok_kept F M (by omega) bo
    have ex : Met P w K mg base (k + 3) CC "expression" (spCP K CC XE (n + 1)) [] := D.expression.met fun f fd F => ok_c_expression F M (by omega) e2 (met_up es (by omega)) (met_up bh (by omega)) (met_up ei (by omega)) bk
    have st : Met P w K mg base (k + 3) CC "statement" (spCP K CC XS (n + 1)) [] := D.statement.met fun f fd F => ok_c_statement F M (by omega) e2 lo ch at_ kp
    have e3 : 3 * (n + 1) + 3 = k + 3 := by omega
    rw [e3]
    exact ⟨ex, st⟩
theorem CdD.bodyM (D : CdD P w K mg base CC) (n : Nat) : Met P w K mg base (3 * n + 4) CC "body" (spCL K CC XS n) [] := D.body.met fun f fd F => ok_body F D.M.Z (D.all n).2
end
end
section
/-! The compiler: a method's code. -/
open PySem PySem.Spec PyProof.Rows L2
open C8 (Cal Met Mak cal0 pe_c pe_gc pss_cut tCut pe_mt pe_mt0 pe_mk)

/-! two tuples behind one another: the new one's object is known -/
def rCatF : V → V → Hp → VK → Prop := fun x y H Q => ∃ a b xs ys, x = .ref a ∧ y = .ref b ∧ FT H a xs ∧ FT H b ys ∧ xs.length + ys.length ≤ sizeLine ∧ ∀ p H', Same H H' → FT H' p (xs ++ ys) → Q (.ref p) H'
theorem op_catF {X : Cx} : OpR X (binaryOp .Add) rCatF := by
  intro pins s σ H x y v u Q I rx ry h
  obtain ⟨a, b, xs, ys, rfl, rfl, fa, fb, hz, q⟩ := h
  by_cases hx : xs = []
  · subst hx
    exact op_catA (X := X) pins s σ H _ _ v u Q I rx ry ⟨a, b, [], ys, rfl, rfl, fa.sq, fb.sq, by exact hz, fun _ => q b H (fun _ _ h => h) fb, fun h => absurd rfl h, fun h => absurd rfl h⟩
  · by_cases hy : ys = []
    · subst hy
      exact op_catA (X := X) pins s σ H _ _ v u Q I rx ry ⟨a, b, xs, [], rfl, rfl, fa.sq, fb.sq, by exact hz, fun h => absurd h hx, fun _ _ => q a H (fun _ _ h => h) (by rw [List.append_nil]; exact fa), fun _ h => absurd rfl h⟩
    · cases rx
      cases ry
      obtain ⟨its, r1, p1, _⟩ := I.tuple (fa.sq (K := X.K))
      obtain ⟨its2, r2, p2, _⟩ := I.tuple (fb.sq (K := X.K))
      refine HT.cat_tup p1 p2 (fun z => hx (r1.nil_iff.mp z)) (fun z => absurd (r2.nil_iff.mp z) hy) (fun z => ?_) (by rw [← r1.length, ← r2.length]; exact hz)
      have I2 : Inv X pins σ (upd H s.heap.objs.size (.frz { cls := .type "tuple", data := .seq (its ++ its2).toArray } (.tup (xs ++ ys)))) { s with heap := s.heap.push { cls := .type "tuple", data := .seq (its ++ its2).toArray } } :=
        I.laid (t' := s.toks) (fun b o e => Heap.get?_push_of_some _ e) (Nat.le_refl _) (show ObjOk X.prog X.w _ _ _ (.frz _ (.tup (xs ++ ys))) from ⟨Heap.get?_push_size _ rfl, by rw [List.length_append]; exact hz, _, r1.append r2, IsTup.new _ _⟩)
      exact ⟨.ref s.heap.objs.size, _, I2, rfl, q _ _ (same_new0 (I.hok.fresh (Nat.le_refl _))) ⟨_, rfl, upd_same⟩⟩
theorem cut_from (xs : List V) (n : Nat) : cutV xs (some (n : Int)) none = xs.drop n := by
  unfold cutV
  have e1 : HT.sIx xs.length 0 (some (n : Int)) = min n xs.length := by
    show (if (n : Int) < 0 then ((n : Int) + (xs.length : Int)).toNat else min (n : Int).toNat xs.length) = _
    rw [if_neg (by omega), Int.toNat_natCast]
  have e2 : HT.sIx xs.length xs.length none = xs.length := rfl
  rw [e1, e2, List.take_of_length_le (by rw [List.length_drop]; omega)]
  by_cases h : n ≤ xs.length
  · rw [Nat.min_eq_left h]
  · rw [Nat.min_eq_right (by omega), List.drop_length, List.drop_eq_nil_of_le (by omega)]
theorem w_slT {K : PySem.W.Frag} {H : Hp} {Q : VK} {a : Addr} {xs : List V} {n : Nat} (h : SqT K H a xs) (h0 : 0 < n) (h1 : 0 < xs.length) (k : ∀ p H', H p = none → Same H H' → H' p = some (.tup (xs.drop n)) → Q (.ref p) H') : rSlT K (.ref a) (some (n : Int)) none H Q := by
  refine ⟨a, xs, rfl, h, fun e => ?_, fun p hp => k p _ hp (same_new0 hp) (by rw [upd_same, cut_from])⟩
  have h2 : (if (n : Int) < 0 then ((n : Int) + (xs.length : Int)).toNat else min (n : Int).toNat xs.length) = 0 := e.1
  rw [if_neg (by omega), Int.toNat_natCast] at h2
  omega
/-- a method's tree, its names in known tuples -/
def MtB (K : PySem.W.Frag) (H : Hp) (v : V) (a : List Nat) (p vv : Ws) (l : List Tr) : Prop := ∃ (pt pp pv : Addr) (vb : V), v = .ref pt ∧ SqT K H pt [T (cds "method"), T a, .ref pp, .ref pv, vb] ∧ FT H pp (p.map T) ∧ FT H pv (vv.map T) ∧ TrB K H vb (.t l)
theorem MtB.same {K : PySem.W.Frag} {H H' : Hp} {v : V} {a : List Nat} {p vv : Ws} {l : List Tr} (h : MtB K H v a p vv l) (s : Same H H') : MtB K H' v a p vv l := by
  obtain ⟨pt, pp, pv, vb, e, h1, h2, h3, h4⟩ := h
  exact ⟨pt, pp, pv, vb, e, Same.sqT s h1, h2.same s, h3.same s, h4.same s⟩
/-! a call with keywords -/
structure CalN (P : Program) (w : World) (K : PySem.W.Frag) (mg : Str → Option Value) (base : Heap) (k : Nat) (x : Str) (n : Nat) (ks : List Str) (sp : Sp) : Prop where
  ex : ∃ (f : Addr) (fd : FuncData) (ps : List Str), FnOk P w K mg base CX0 k f fd ps sp ∧ mg x = some (.ref f) ∧ PySem.W.keepIn K (.ref f) = true ∧ KBn K fd ps n ks (fun us ws => us ++ ws) (fun vs zs => vs ++ zs)
theorem Fun.kb {K : PySem.W.Frag} {x qual : Str} {st : Stmt} {f : Addr} {fd : FuncData} {ps ks : List Str} {n : Nat} (F : Fun K x qual st f fd) (h : ∀ (kV doc pm : Value) (an : Option Addr) (cdv ct : Value) (us ws : List Value), us.length = n → ws.length = ks.length → bindArgs (PySem.W.fnOf x qual (defArgs st) (defBody st) (defScope st) .none kV doc pm an cdv ct) ⟨us, ks.zip ws⟩ = pure (ps.zip (us ++ ws))) : KBn K fd ps n ks (fun us ws => us ++ ws) (fun vs zs => vs ++ zs) := by
  obtain ⟨oc, od, kV, doc, pm, an, cdv, ct, osl, rfl, lk, hcd⟩ := F.ex
  exact ⟨fun s us ws _ l1 l2 => .of_eq (h kV doc pm an cdv ct us ws l1 l2), fun r1 r2 => r1.append r2⟩
theorem pe_cN {X : Cx} {k j n : Nat} {x : Str} {sp : Sp} {ks : List Str} {p pos : Pos} {e : Expr} {es : List Expr} {kws : List Keyword} {t tk : TA} (c : CalN X.prog X.w X.K X.mg X.base k x n ks sp) (hr : Room j X.A) (hj : k ≤ j) (hg : Gl X x) (ha : PA X (e :: es) t) (hkw : PK X kws tk) (hall : (backToKw pos (keywordEach kws X.env)).all (·.1.isSome) = true := by rfl) (hks : (backToKw pos (keywordEach kws X.env)).filterMap (·.1) = ks := by rfl)
    (hdb : (x == ("__debug__" : Str)) = false := by decide) (he : starEach (e :: es) X.env = (false, eval e X.env) :: starEach es X.env := by rfl)
    (hpl : ((backTo pos (starEach (e :: es) X.env)).any (·.1) || (backToKw pos (keywordEach kws X.env)).any (·.1.isNone)) = false := by rfl) :
    PE X (.Call (.Name x p) (e :: es) kws pos) (tCallN n ks.length sp (fun vs zs => vs ++ zs) C8.E0 t tk) := by
  obtain ⟨f, fd, ps, F, hm, hk, hb⟩ := c.ex
  exact pe_callN (CX := CX0) F (hr.mono hj) hg hm hk hb C8.pass0 ha hkw hall hks hdb he hpl
theorem w_cN {n m : Nat} {sp : Sp} {gV : List V → List V → List V} {E : XK} {t tk : TA} {σ : L2.St} {H : Hp} {Q : VK} (k : t σ H fun vs H1 => tk σ H1 fun zs H2 => vs.length = n ∧ zs.length = m ∧ sp (gV vs zs) H2 Q E) : tCallN n m sp gV E t tk σ H Q := k
section
variable {P : Program} {w : World} {K : PySem.W.Frag} {mg : Str → Option Value} {base : Heap} {CC : Addr} {k n : Nat}
abbrev s_compile_method : Stmt := topS 3
abbrev N_compile_method : List Str := ["tree", "owner", "slots", "params", "variables", "body", "coder"]
theorem sc_compile_method : FnScope N_compile_method ["tree", "owner", "slots"] (defScope s_compile_method) := ⟨rfl, rfl, rfl, by decide +kernel, rfl, by decide +kernel, by decide +kernel⟩
/-- the code of a method -/
def mCode (sl : Ws) (ow : List Nat) (p vv : Ws) (l : List Tr) : CS := cend (cfold (cX sl ow 12 [p ++ vv]) l ([], []))
def spComM (K : PySem.W.Frag) : Sp := fun vs H Q _ => ∃ (tS : Addr) (v : V) (a : List Nat) (p vv : Ws) (l : List Tr) (m : Nat) (sl : Ws) (ow : List Nat), vs = [v, T ow, .ref tS] ∧ MtB K H v a p vv l ∧ SqT K H tS (sl.map T) ∧ XL (XS 12) l m ∧ m ≤ 70000 ∧ p.length + vv.length ≤ 1000 ∧ ∀ q H', TrAt K H' (.ref q) (cdT (p ++ vv).length (mCode sl ow p vv l)) → Same H H' → Q (.ref q) H'
theorem ok_compile_method {f : Addr} {fd : FuncData} (F : Fun K "compile_method" "compile_method" s_compile_method f fd) (M : CdM P w K mg base CC) (hk : 3 ≤ k) (m_body : Met P w K mg base k CC "body" (spCL K CC XS 12) []) : FnOk P w K mg base CX0 (k + 1) f fd ["tree", "owner", "slots"] (spComM K) := by
  have Y := M.Y
  have m_code := M.m_code
  have m_end_with_none := M.m_end_with_none
  have c_Coder := M.c_Coder
  refine F.ok sc_compile_method (fun vs H Q E h => ?_) (fun cdv A outer s H vs Q E hr h => ?_)
  · obtain ⟨tS, v, a, p, vv, l, m, sl, ow, rfl, _⟩ := h
    rfl
  · obtain ⟨tS, v, a, p, vv, l, m, sl, ow, rfl, ⟨pt, pp, pV, vb, rfl, hpt, hpp, hpv, hvb⟩, hT, hL, hm, hpl, kQ⟩ := h
    have nd := sc_compile_method.nd
    refine ⟨_, (pss_cons (ps_asg (pe_slice sl_tup (pv 0) (po_some pe_int) po_none) (pg_tup (by rfl) (pgs_cons (pg_name (i := 3) nd rfl (Or.inl rfl)) (pgs_cons (pg_name (i := 4) nd rfl (Or.inl rfl)) (pgs_cons (pg_name (i := 5) nd rfl (Or.inl rfl)) pgs_nil)))))
      (pss_cons (ps_set (i := 6) nd rfl (Or.inl rfl) (pe_mk c_Coder hr (by omega) rfl (pa_cons (pe_lst (pa_cons (pe_op op_catF (pv 3) (pv 4)) pa_nil)) (pa_cons (pv 1) (pa_cons (pv 2) pa_nil)))))
      (pss_cons (ps_expr (pe_mt m_body hr (by omega) (pv 6) (pa_cons (pv 5) pa_nil)))
      (pss_cons (ps_expr (pe_mt0 m_end_with_none hr (by omega) (pv 6)))
      (pss_one (ps_ret (pe_mt0 m_code hr (by omega) (pv 6)))))))), ?_⟩
    rw [show L2.start N_compile_method [.ref pt, T ow, .ref tS] = [some (.ref pt), some (T ow), some (.ref tS), none, none, none, none] from rfl]
    walk_at "rdc"
    refine w_slT hpt (n := 2) (by decide) (by show 0 < 5; decide) fun q1 H1 hq1 s1 h1 => ?_
    walk_at "rdc"
    refine ⟨_, _, rfl, .inl (.inl h1), (by rfl), ?_⟩
    refine ⟨_, _, rfl, ?_⟩
    walk_at "rdc"
    refine ⟨_, _, rfl, ?_⟩
    walk_at "rdc"
    refine ⟨_, _, rfl, ?_⟩
    walk_at "rdc"
    refine ⟨rfl, ?_⟩
    walk_at "rdc"
    refine ⟨pp, pV, _, _, rfl, rfl, hpp.same s1, hpv.same s1, by rw [List.length_map, List.length_map]; exact Nat.le_trans hpl (by decide), fun pq H2 s2 hpq => ?_⟩
    rw [← List.map_append] at hpq
    walk_at "rdc"
    refine w_newL (by show 1 ≤ 1000000; decide) fun D3 H3 hD3 s3 h3 => ?_
    walk_at "rdc"
    intro x dx2 hx hdx ndx
    have s13 := (s1.trans s2).trans s3
    have sN : Same H3 (upd (upd H3 dx2 (.own x)) x (.ins CC dx2 [])) := fun b o e => by
      rw [upd_ne (fun z => by rw [z, hx] at e; cases e), upd_ne (fun z => by rw [z, hdx] at e; cases e)]
      exact e
    have sO := s13.trans sN
    refine ⟨x, dx2, D3, tS, _, [p ++ vv], sl, ow, rfl, upd_same, sN _ _ h3, .cons (hpq.same (s3.trans sN)) .nil, Same.sqT sO hT, by show 1 ≤ 1000; decide, fun il bl H4 hC4 hx4 k4 g4 f1 f2 => ?_⟩
    refine ⟨rfl, ?_⟩
    have hil : H3 il = none := by
      have := f1
      by_cases z : il = x
      · rw [z, upd_same] at this; cases this
      · rw [upd_ne z] at this
        by_cases y : il = dx2
        · rw [y, upd_same] at this; cases this
        · rw [upd_ne y] at this; exact this
    have hbl : H3 bl = none := by
      have := f2
      by_cases z : bl = x
      · rw [z, upd_same] at this; cases this
      · rw [upd_ne z] at this
        by_cases y : bl = dx2
        · rw [y, upd_same] at this; cases this
        · rw [upd_ne y] at this; exact this
    have s4 : Same H3 H4 := fun b o e => k4 b o (fun z => by rw [z, hx] at e; cases e) (sN b o e)
    have sq : ∀ {H'}, Fq il bl H4 H' → Same H H' := fun f b o e => f.1 b o (fun z => by rw [z] at e; rw [s13 _ _ e] at hil; cases hil) (fun z => by rw [z] at e; rw [s13 _ _ e] at hbl; cases hbl) (s4 b o (s13 b o e))
    walk_at "rdc"
    refine c_mat hC4 (fun _ _ => rfl) ?_
    walk_at "rdc"
    refine v_b hC4 (hvb.same (s13.trans s4)) hL ⟨by show 0 + _ ≤ _; omega, by show 0 + _ ≤ _; omega, by show 1 + 12 ≤ 500; decide⟩ fun H5 S5 e5 L5 p5 hC5 f5 => ?_
    obtain ⟨q1, q2, q3, q4⟩ := L5
    simp only [List.length_nil] at q2
    walk_at "rdc"
    refine c_mat hC5 (fun _ _ => rfl) ?_
    walk_at "rdc"
    refine ⟨x, il, bl, _, sl, ow, S5, rfl, hC5, by omega, fun H6 hC6 f6 => ?_⟩
    walk_at "rdc"
    refine c_mat hC6 (fun _ _ => rfl) ?_
    walk_at "rdc"
    refine ⟨x, il, bl, p ++ vv, [], sl, ow, _, rfl, hC6, fun q7 H7 hq7 s7 => ?_⟩
    walk_at "rdc"
    refine kQ q7 H7 ?_ ((sq (f5.trans f6)).trans s7)
    rw [e5] at hq7
    exact hq7
end
end
section
/-! The rows that a code is told by: part by part, and out of the code itself. -/
open PySem PySem.Spec PyProof.Rows L2
def tO (w : String) : Tr := .t [str w]
def leadsL : List (List Nat) := [cds "jump", cds "unless", cds "try", cds "keep"]
/-- an instruction, told without where it leads -/
def rowF : Tr → Tr
  | .t (.s w :: r) => if w ∈ leadsL then .t [.s w] else .t (.s w :: r)
  | t => t
/-- what a block's rows end with -/
def rEnd (l R : List Tr) : List Tr := match l.getLast? with
  | some t => if isEval t = true then R.take (R.length - 1) ++ [tO "end"] else R ++ [.t [str "push", .n], tO "end"]
  | none => R ++ [.t [str "push", .n], tO "end"]
section
variable (c : List Ws → Tr → List Tr) (sl : Ws) (sc : List Ws)
def rBlk (ps l : List Tr) : List Tr := .t [str "begin", .i (ps.length : Int)] :: (rEnd l (l.flatMap (c (nmsT ps :: sc))) ++ [tO "behind"])
def truR : List Tr := [tO "unless", .t [str "push", .b true], tO "jump", .t [str "push", .b false]]
/-- one part, its kind told -/
def rKd (ow : List Nat) (k : List Nat) (r : List Tr) : List Tr :=
  if k = cds "plain" then (match r with | [v] => [.t [str "push", v]] | _ => [])
  else if k = cds "name" then (match r with | [.s a] => [plcT a sl 0 sc] | _ => [])
  else if k = cds "neg" ∨ k = cds "not" then (match r with | [t] => c sc t ++ [.t [.s k]] | _ => [])
  else if k = cds "op" then (match r with | [s, a, b] => c sc a ++ c sc b ++ [.t [str "op", s]] | _ => [])
  else if k = cds "and" then (match r with | [a, b] => c sc a ++ [tO "unless"] ++ (c sc b ++ truR) | _ => [])
  else if k = cds "or" then (match r with | [a, b] => c sc a ++ [tO "unless", .t [str "push", .b true], tO "jump"] ++ (c sc b ++ truR) | _ => [])
  else if k = cds "send" then (match r with | [t, a, .t l] => c sc t ++ l.flatMap (c sc) ++ [.t [str "send", a, .i (l.length : Int)]] | _ => [])
  else if k = cds "super" then (match r with | [a, .t l] => l.flatMap (c sc) ++ [.t [str "super", .s ow, a, .i (l.length : Int)]] | _ => [])
  else if k = cds "block" then (match r with | [.t ps, .t l] => rBlk c sc ps l | _ => [])
  else if k = cds "while" then (match r with | [t, .t l] => c sc t ++ [tO "unless"] ++ l.flatMap (c sc) ++ [tO "jump"] | _ => [])
  else if k = cds "if" then (match r with | [t, .t l, .t m] => (if m.isEmpty = true then c sc t ++ [tO "unless"] ++ l.flatMap (c sc) else c sc t ++ [tO "unless"] ++ l.flatMap (c sc) ++ [tO "jump"] ++ m.flatMap (c sc)) | _ => [])
  else if k = cds "try" then (match r with | [.t l, .s a, .t m] => [tO "try"] ++ l.flatMap (c sc) ++ [tO "done", tO "jump", .t [str "set", plcT a sl 0 sc]] ++ m.flatMap (c sc) | _ => [])
  else if k = cds "keep" then (match r with | [.t l, .t m] => [tO "keep"] ++ l.flatMap (c sc) ++ [tO "always"] ++ m.flatMap (c sc) ++ [tO "resume"] | _ => [])
  else if k = cds "set" then (match r with | [.s a, t] => c sc t ++ [.t [str "set", plcT a sl 0 sc]] | _ => [])
  else if k = cds "eval" then (match r with | [t] => c sc t ++ [tO "pop"] | _ => [])
  else if k = cds "give" ∨ k = cds "fail" then (match r with | [t] => c sc t ++ [.t [.s k]] | _ => [])
  else [.t (.s k :: r)]
end
def rX (sl : Ws) (ow : List Nat) : Nat → List Ws → Tr → List Tr
  | 0, _, _ => []
  | f + 1, sc, .t (.s k :: r) => rKd (rX sl ow f) sl sc ow k r
  | _ + 1, _, _ => []
local macro_rules | `(tactic| walk_at "cd") => `(tactic| (unfold rKd; repeat (first | rw [if_pos (by decide +kernel)] | rw [if_neg (by decide +kernel)])))
section
variable (c : List Ws → Tr → List Tr) (sl : Ws) (ow : List Nat) (sc : List Ws)
theorem rd_plain (v : Tr) : rKd c sl sc ow (cds "plain") [v] = [.t [str "push", v]] := by walk_at "cd"
theorem rd_name (a : List Nat) : rKd c sl sc ow (cds "name") [.s a] = [plcT a sl 0 sc] := by walk_at "cd"
theorem rd_neg (t : Tr) : rKd c sl sc ow (cds "neg") [t] = c sc t ++ [tO "neg"] := by walk_at "cd"; rfl
theorem rd_not (t : Tr) : rKd c sl sc ow (cds "not") [t] = c sc t ++ [tO "not"] := by walk_at "cd"; rfl
theorem rd_op (s a b : Tr) : rKd c sl sc ow (cds "op") [s, a, b] = c sc a ++ c sc b ++ [.t [str "op", s]] := by walk_at "cd"
theorem rd_and (a b : Tr) : rKd c sl sc ow (cds "and") [a, b] = c sc a ++ [tO "unless"] ++ (c sc b ++ truR) := by walk_at "cd"
theorem rd_or (a b : Tr) : rKd c sl sc ow (cds "or") [a, b] = c sc a ++ [tO "unless", .t [str "push", .b true], tO "jump"] ++ (c sc b ++ truR) := by walk_at "cd"
theorem rd_send (t a : Tr) (l : List Tr) : rKd c sl sc ow (cds "send") [t, a, .t l] = c sc t ++ l.flatMap (c sc) ++ [.t [str "send", a, .i (l.length : Int)]] := by walk_at "cd"
theorem rd_super (a : Tr) (l : List Tr) : rKd c sl sc ow (cds "super") [a, .t l] = l.flatMap (c sc) ++ [.t [str "super", .s ow, a, .i (l.length : Int)]] := by walk_at "cd"
theorem rd_block (ps l : List Tr) : rKd c sl sc ow (cds "block") [.t ps, .t l] = rBlk c sc ps l := by walk_at "cd"
theorem rd_while (t : Tr) (l : List Tr) : rKd c sl sc ow (cds "while") [t, .t l] = c sc t ++ [tO "unless"] ++ l.flatMap (c sc) ++ [tO "jump"] := by walk_at "cd"
theorem rd_if0 (t : Tr) (l : List Tr) : rKd c sl sc ow (cds "if") [t, .t l, .t []] = c sc t ++ [tO "unless"] ++ l.flatMap (c sc) := by walk_at "cd"; rfl
theorem rd_if1 (t : Tr) (l m : List Tr) (h : m ≠ []) : rKd c sl sc ow (cds "if") [t, .t l, .t m] = c sc t ++ [tO "unless"] ++ l.flatMap (c sc) ++ [tO "jump"] ++ m.flatMap (c sc) := by
  have e : m.isEmpty = false := by cases m with
    | nil => exact absurd rfl h
    | cons a m => rfl
  walk_at "cd"
  show (if m.isEmpty = true then _ else _) = _
  rw [e]; rfl
theorem rd_try (l : List Tr) (a : List Nat) (m : List Tr) : rKd c sl sc ow (cds "try") [.t l, .s a, .t m] = [tO "try"] ++ l.flatMap (c sc) ++ [tO "done", tO "jump", .t [str "set", plcT a sl 0 sc]] ++ m.flatMap (c sc) := by walk_at "cd"
theorem rd_keep (l m : List Tr) : rKd c sl sc ow (cds "keep") [.t l, .t m] = [tO "keep"] ++ l.flatMap (c sc) ++ [tO "always"] ++ m.flatMap (c sc) ++ [tO "resume"] := by walk_at "cd"
theorem rd_set (a : List Nat) (t : Tr) : rKd c sl sc ow (cds "set") [.s a, t] = c sc t ++ [.t [str "set", plcT a sl 0 sc]] := by walk_at "cd"
theorem rd_eval (t : Tr) : rKd c sl sc ow (cds "eval") [t] = c sc t ++ [tO "pop"] := by walk_at "cd"
theorem rd_give (t : Tr) : rKd c sl sc ow (cds "give") [t] = c sc t ++ [tO "give"] := by walk_at "cd"; rfl
theorem rd_fail (t : Tr) : rKd c sl sc ow (cds "fail") [t] = c sc t ++ [tO "fail"] := by walk_at "cd"; rfl
theorem rd_self : rKd c sl sc ow (cds "self") [] = [tO "self"] := by walk_at "cd"; rfl
theorem rd_new (a : Tr) : rKd c sl sc ow (cds "new") [a] = [.t [str "new", a]] := by walk_at "cd"; rfl
end
/-! ### out of the code -/
/-- no block's row -/
def isRow (i : Tr) : Prop := ∃ w r, i = .t (.s w :: r) ∧ w ≠ cds "block"
inductive FlatR (p : Tr → List Tr → Prop) : List Tr → List Tr → Nat → List Tr → Prop
  | nil {c : Nat} : FlatR p [] [] c []
  | row {i : Tr} {I B : List Tr} {c : Nat} {R : List Tr} : isRow i → FlatR p I B c R → FlatR p (i :: I) B c (rowF i :: R)
  | blk {b : Tr} {rb I B : List Tr} {c : Nat} {R : List Tr} : p b rb → FlatR p I B (c + 1) R → FlatR p (.t [str "block", .i (c : Int)] :: I) (b :: B) c (rb ++ R)
def FlatC : Nat → Tr → List Tr → Prop
  | 0, _, _ => False
  | d + 1, t, R => ∃ (n : Nat) (I B R0 : List Tr), t = .t [str "code", .i (n : Int), .t I, .t B] ∧ FlatR (FlatC d) I B 0 R0 ∧ R = .t [str "begin", .i (n : Int)] :: (R0 ++ [tO "behind"])
section
variable {p q : Tr → List Tr → Prop}
theorem FlatR.imp (f : ∀ t R, p t R → q t R) : ∀ {I B : List Tr} {c : Nat} {R : List Tr}, FlatR p I B c R → FlatR q I B c R
  | _, _, _, _, .nil => .nil
  | _, _, _, _, .row a b => .row a (b.imp f)
  | _, _, _, _, .blk a b => .blk (f _ _ a) (b.imp f)
theorem FlatR.app : ∀ {I B : List Tr} {c : Nat} {R : List Tr} {I2 B2 R2 : List Tr}, FlatR p I B c R → FlatR p I2 B2 (c + B.length) R2 → FlatR p (I ++ I2) (B ++ B2) c (R ++ R2)
  | _, _, _, _, _, _, _, .nil, h => h
  | _, _, _, _, _, _, _, .row a b, h => .row a (b.app h)
  | _, _, _, _, _, _, _, .blk (c := c) (B := B) (R := R) (rb := rb) a b, h => by
    rw [List.append_assoc]
    exact .blk a (b.app (by rw [List.length_cons] at h; rw [show c + 1 + B.length = c + (B.length + 1) by omega]; exact h))
theorem FlatR.set : ∀ {I B : List Tr} {c : Nat} {R : List Tr} {j : Nat} {w : List Nat} {x y : Tr}, FlatR p I B c R → I[j]? = some (.t [.s w, x]) → w ∈ leadsL → FlatR p (I.set j (.t [.s w, y])) B c R
  | _, _, _, _, _, _, _, _, .nil, h, _ => by simp at h
  | _, _, _, _, 0, w, x, y, .row (R := R) a b, h, hw => by
    rw [List.getElem?_cons_zero] at h
    cases h
    have e : rowF (.t [.s w, x]) = rowF (.t [.s w, y]) := by
      show (if w ∈ leadsL then _ else _) = (if w ∈ leadsL then _ else _)
      rw [if_pos hw, if_pos hw]
    rw [e]
    obtain ⟨w2, r, e1, e2⟩ := a
    cases e1
    exact .row ⟨_, _, rfl, e2⟩ b
  | _, _, _, _, j + 1, _, _, _, .row a b, h, hw => .row a (b.set (by simpa using h) hw)
  | _, _, _, _, 0, w, x, y, .blk a b, h, hw => by
    rw [List.getElem?_cons_zero] at h
    cases h
    exact absurd hw (by decide +kernel)
  | _, _, _, _, j + 1, _, _, _, .blk a b, h, hw => .blk a (b.set (by simpa using h) hw)
end
theorem FlatC.up : ∀ {d : Nat} {t : Tr} {R : List Tr}, FlatC d t R → FlatC (d + 1) t R
  | 0, _, _, h => h.elim
  | d + 1, _, _, ⟨n, I, B, R0, e, h, e2⟩ => ⟨n, I, B, R0, e, h.imp fun t R => FlatC.up (d := d), e2⟩
/-- what came to the code, its rows, at most so many -/
def Wro (p : Tr → List Tr → Prop) (S S' : CS) (R : List Tr) (n : Nat) : Prop := (∃ I B, S'.1 = S.1 ++ I ∧ S'.2 = S.2 ++ B ∧ FlatR p I B S.2.length R) ∧ R.length ≤ n
/-- an instruction that leads on stands there -/
def LdW (S : CS) (k : Nat) : Prop := ∃ w x, w ∈ leadsL ∧ S.1[k]? = some (.t [.s w, x])
section
variable {p : Tr → List Tr → Prop} {S S1 S2 : CS} {R R1 R2 : List Tr} {m n k : Nat} {i : Tr}
theorem Wro.refl : Wro p S S [] 0 := ⟨⟨[], [], (List.append_nil _).symm, (List.append_nil _).symm, .nil⟩, Nat.le_refl _⟩
theorem Wro.trans (a : Wro p S S1 R m) (b : Wro p S1 S2 R1 n) : Wro p S S2 (R ++ R1) (m + n) := by
  obtain ⟨⟨I, B, e1, e2, h⟩, l1⟩ := a
  obtain ⟨⟨I2, B2, e3, e4, h2⟩, l2⟩ := b
  refine ⟨⟨I ++ I2, B ++ B2, by rw [e3, e1, List.append_assoc], by rw [e4, e2, List.append_assoc], h.app ?_⟩, by rw [List.length_append]; omega⟩
  rw [e2, List.length_append] at h2
  exact h2
theorem Wro.eq (a : Wro p S S1 R m) (e : R = R1) (h : m ≤ n) : Wro p S S1 R1 n := ⟨e ▸ a.1, by rw [← e]; exact Nat.le_trans a.2 h⟩
theorem Wro.put {w : List Nat} {r : List Tr} (h : w ≠ cds "block" := by first | assumption | decide +kernel) : Wro p S (cput (.t (.s w :: r)) S) [rowF (.t (.s w :: r))] 1 := ⟨⟨[_], [], rfl, (List.append_nil _).symm, .row ⟨_, _, rfl, h⟩ .nil⟩, Nat.le_refl _⟩
theorem Wro.led (a : Wro p S S1 R m) (hk : S.1.length ≤ k) (h : LdW S1 k) : Wro p S (cled k S1) R m := by
  obtain ⟨⟨I, B, e1, e2, hf⟩, l1⟩ := a
  obtain ⟨w, x, hw, hg⟩ := h
  refine ⟨⟨I.set (k - S.1.length) (.t [.s w, .i (S1.1.length : Int)]), B, ?_, e2, hf.set (x := x) ?_ hw⟩, l1⟩
  · show S1.1.set k (match S1.1[k]? with | some (.t (w :: _)) => .t [w, .i (S1.1.length : Int)] | _ => .n) = _
    rw [hg]
    show S1.1.set k (.t [.s w, .i (S1.1.length : Int)]) = _
    rw [e1, List.set_append_right _ _ hk]
  · rw [← hg, e1, List.getElem?_append_right hk]
theorem LdW.led {j : Nat} (h : LdW S j) : LdW (cled k S) j := by
  obtain ⟨w, x, hw, hg⟩ := h
  by_cases e : k = j
  · subst e
    refine ⟨w, .i (S.1.length : Int), hw, ?_⟩
    show (S.1.set k (match S.1[k]? with | some (.t (w :: _)) => .t [w, .i (S.1.length : Int)] | _ => .n))[k]? = _
    rw [List.getElem?_set_self (List.getElem?_eq_some_iff.mp hg).1, hg]
  · refine ⟨w, x, hw, ?_⟩
    show (S.1.set k _)[j]? = _
    rw [List.getElem?_set_ne e, hg]
theorem LdW.out (a : Wro p S S1 R m) (h : LdW S k) : LdW S1 k := by
  obtain ⟨w, x, hw, hg⟩ := h
  obtain ⟨⟨I, B, e1, _⟩, _⟩ := a
  exact ⟨w, x, hw, by rw [e1, List.getElem?_append_left (List.getElem?_eq_some_iff.mp hg).1, hg]⟩
theorem LdW.put (h : LdW S k) : LdW (cput i S) k := by
  obtain ⟨w, x, hw, hg⟩ := h
  exact ⟨w, x, hw, by show (S.1 ++ [i])[k]? = _; rw [List.getElem?_append_left (List.getElem?_eq_some_iff.mp hg).1, hg]⟩
theorem LdW.pl {w : String} (hw : cds w ∈ leadsL := by decide +kernel) : LdW (cpl w S) S.1.length := ⟨_, .n, hw, cput_get⟩
theorem Wro.len (a : Wro p S S1 R m) : S.1.length ≤ S1.1.length := by
  obtain ⟨⟨I, B, e1, _⟩, _⟩ := a
  rw [e1, List.length_append]; omega
theorem Wro.leds (a : Wro p S S1 R m) : ∀ (l : List Nat) (S1 : CS), Wro p S S1 R m → (∀ k ∈ l, S.1.length ≤ k ∧ LdW S1 k) → Wro p S (l.foldl (fun S k => cled k S) S1) R m ∧ ∀ j, LdW S1 j → LdW (l.foldl (fun S k => cled k S) S1) j
  | [], _, h, _ => ⟨h, fun _ h => h⟩
  | k :: l, S1, h, hl => by
    obtain ⟨h1, h2⟩ := hl k List.mem_cons_self
    obtain ⟨g1, g2⟩ := Wro.leds a l (cled k S1) (h.led h1 h2) fun j hj => ⟨(hl j (List.mem_cons_of_mem _ hj)).1, (hl j (List.mem_cons_of_mem _ hj)).2.led⟩
    exact ⟨g1, fun j hj => g2 j hj.led⟩
theorem row_id {w : List Nat} {r : List Tr} (h : w ∉ leadsL) : rowF (.t (.s w :: r)) = .t (.s w :: r) := if_neg h
theorem row_ld {w : List Nat} {r : List Tr} (h : w ∈ leadsL) : rowF (.t (.s w :: r)) = .t [.s w] := if_pos h
theorem Wro.put' {w : List Nat} {r : List Tr} (h : w ≠ cds "block" := by decide +kernel) (h2 : w ∉ leadsL := by decide +kernel) : Wro p S (cput (.t (.s w :: r)) S) [.t (.s w :: r)] 1 := Wro.eq (Wro.put h) (by rw [row_id h2]) (Nat.le_refl _)
theorem Wro.pl {w : String} (h : cds w ≠ cds "block" := by decide +kernel) (h2 : cds w ∈ leadsL := by decide +kernel) : Wro p S (cpl w S) [tO w] 1 := Wro.eq (Wro.put h) (by rw [row_ld h2]; rfl) (Nat.le_refl _)
theorem Wro.ptr {w : String} {r : List Tr} (h : cds w ≠ cds "block" := by decide +kernel) (h2 : cds w ∈ leadsL := by decide +kernel) : Wro p S (cput (.t (str w :: r)) S) [tO w] 1 := Wro.eq (Wro.put h) (by rw [row_ld h2]; rfl) (Nat.le_refl _)
theorem Wro.truth {l : List Nat} (a : Wro p S S1 R m) (h : ∀ k ∈ l, S.1.length ≤ k ∧ LdW S1 k) : Wro p S (ctruth l S1) (R ++ [.t [str "push", .b true], tO "jump", .t [str "push", .b false]]) (m + 3) ∧ ∀ j, LdW S1 j → LdW (ctruth l S1) j := by
  have h1 := a.trans (Wro.put' (S := S1) (w := cds "push") (r := [.b true]))
  have h2 := h1.trans (Wro.pl (w := "jump"))
  have le := h1.len
  obtain ⟨h3, g3⟩ := Wro.leds h2 l _ h2 fun k hk => ⟨(h k hk).1, (h k hk).2.put.put⟩
  have h4 := h3.trans (Wro.put' (w := cds "push") (r := [.b false]))
  have e1 := g3 _ (LdW.pl (S := cput (.t [str "push", .b true]) S1) (w := "jump"))
  refine ⟨Wro.eq (Wro.led h4 le e1.put) (by simp; rfl) (by omega), fun j hj => ?_⟩
  exact ((g3 _ hj.put.put).put).led
end
theorem plc_row (a : List Nat) (sl : Ws) : ∀ (sc : List Ws) (up : Nat), ∃ w r, plcT a sl up sc = .t (.s w :: r) ∧ w ≠ cds "block" ∧ w ∉ leadsL
  | [], up => by
    unfold plcT
    split
    · exact ⟨_, _, rfl, by decide +kernel, by decide +kernel⟩
    · exact ⟨_, _, rfl, by decide +kernel, by decide +kernel⟩
  | s :: ss, up => by
    unfold plcT
    split
    · exact ⟨_, _, rfl, by decide +kernel, by decide +kernel⟩
    · exact plc_row a sl ss (up + 1)
section
variable {sl : Ws} {ow : List Nat}
abbrev Oe (sl : Ws) (ow : List Nat) (F : Nat) (sc : List Ws) (t : Tr) (n : Nat) : Prop := ∀ S, Wro (FlatC F) S (cX sl ow F sc t S) (rX sl ow F sc t) (10 * n - 5)
abbrev Os (sl : Ws) (ow : List Nat) (F : Nat) (sc : List Ws) (t : Tr) (n : Nat) : Prop := ∀ S, Wro (FlatC F) S (cX sl ow F sc t S) (rX sl ow F sc t) (10 * n)
abbrev Ol (sl : Ws) (ow : List Nat) (F : Nat) (sc : List Ws) (l : List Tr) (n : Nat) : Prop := ∀ S, Wro (FlatC F) S (cfold (cX sl ow F sc) l S) (l.flatMap (rX sl ow F sc)) (10 * n)
theorem Wro.u {F : Nat} {S S' : CS} {R : List Tr} {n : Nat} (a : Wro (FlatC F) S S' R n) : Wro (FlatC (F + 1)) S S' R n := by
  obtain ⟨⟨I, B, e1, e2, h⟩, l⟩ := a
  exact ⟨⟨I, B, e1, e2, h.imp fun _ _ => FlatC.up⟩, l⟩
theorem blk_out {F : Nat} {sc : List Ws} {ps l : List Tr} {n : Nat} (h : Ol sl ow F (nmsT ps :: sc) l n) (hx : ∀ t, l.getLast? = some t → isEval t = true → ∃ F' l' t', F = F' + 1 ∧ l = l' ++ [t] ∧ t = .t [str "eval", t'] ∧ ∃ n', Ol sl ow F (nmsT ps :: sc) l' n' ∧ Wro (FlatC F') (cfold (cX sl ow F (nmsT ps :: sc)) l' ([], [])) (cX sl ow F' (nmsT ps :: sc) t' (cfold (cX sl ow F (nmsT ps :: sc)) l' ([], []))) (rX sl ow F' (nmsT ps :: sc) t') n') (S : CS) : Wro (FlatC (F + 1)) S (cBlk (cX sl ow F) sc ps l S) (rBlk (rX sl ow F) sc ps l) (10 * n + 4) := by
  have go : ∃ R0, Wro (FlatC F) ([], []) (cblk (cX sl ow F (nmsT ps :: sc)) l) R0 (10 * n + 2) ∧ rEnd l (l.flatMap (rX sl ow F (nmsT ps :: sc))) = R0 := by
    have h0 := h ([], [])
    have el : ∀ b, (cblk (cX sl ow F (nmsT ps :: sc)) l) = cend (cfold (cX sl ow F (nmsT ps :: sc)) l ([], [])) → rEnd l (l.flatMap (rX sl ow F (nmsT ps :: sc))) = l.flatMap (rX sl ow F (nmsT ps :: sc)) ++ [.t [str "push", .n], tO "end"] → b = True → ∃ R0, Wro (FlatC F) ([], []) (cblk (cX sl ow F (nmsT ps :: sc)) l) R0 (10 * n + 2) ∧ rEnd l (l.flatMap (rX sl ow F (nmsT ps :: sc))) = R0 := fun b e1 e2 _ => by
      rw [e1, e2]
      exact ⟨_, Wro.eq (h0.trans ((Wro.put' (w := cds "push") (r := [.n])).trans (Wro.put' (w := cds "end") (r := [])))) rfl (by omega), rfl⟩
    cases hg : l.getLast? with
    | none => exact el True (by unfold cblk; rw [hg]) (by unfold rEnd; rw [hg]) rfl
    | some t =>
      by_cases he : isEval t = true
      · obtain ⟨F', l', t', rfl, rfl, rfl, n', h1, h2⟩ := hx t hg he
        have e3 : ∀ X : CS, cX sl ow (F' + 1) (nmsT ps :: sc) (.t [str "eval", t']) X = cput (tO "pop") (cX sl ow F' (nmsT ps :: sc) t' X) := fun X => cd_eval (cX sl ow F') sl ow (nmsT ps :: sc) X t'
        have e4 : rX sl ow (F' + 1) (nmsT ps :: sc) (.t [str "eval", t']) = rX sl ow F' (nmsT ps :: sc) t' ++ [tO "pop"] := rd_eval (rX sl ow F') sl ow (nmsT ps :: sc) t'
        have hA := (h1 ([], [])).trans h2.u
        generalize hX : cX sl ow F' (nmsT ps :: sc) t' (cfold (cX sl ow (F' + 1) (nmsT ps :: sc)) l' ([], [])) = X at hA
        have e1 : cblk (cX sl ow (F' + 1) (nmsT ps :: sc)) (l' ++ [Tr.t [str "eval", t']]) = cput (tO "end") X := by
          unfold cblk
          rw [hg]
          show (if isEval _ = true then _ else _) = _
          rw [if_pos he, cfold_append]
          show ((cX sl ow (F' + 1) (nmsT ps :: sc) (.t [str "eval", t']) _).1.set ((cX sl ow (F' + 1) (nmsT ps :: sc) (.t [str "eval", t']) _).1.length - 1) _, (cX sl ow (F' + 1) (nmsT ps :: sc) (.t [str "eval", t']) _).2) = _
          rw [e3, hX, cput_len]
          show ((X.1 ++ [tO "pop"]).set (X.1.length + 1 - 1) (tO "end"), X.2) = (X.1 ++ [tO "end"], X.2)
          rw [Nat.add_sub_cancel, List.set_append_right _ _ (Nat.le_refl _), Nat.sub_self]
          rfl
        have e2 : rEnd (l' ++ [Tr.t [str "eval", t']]) ((l' ++ [Tr.t [str "eval", t']]).flatMap (rX sl ow (F' + 1) (nmsT ps :: sc))) = l'.flatMap (rX sl ow (F' + 1) (nmsT ps :: sc)) ++ rX sl ow F' (nmsT ps :: sc) t' ++ [tO "end"] := by
          unfold rEnd
          rw [hg]
          show (if isEval _ = true then _ else _) = _
          rw [if_pos he, List.flatMap_append, List.flatMap_singleton, e4, ← List.append_assoc, List.length_append, List.length_singleton, Nat.add_sub_cancel, List.take_left']
          rfl
        rw [e1, e2]
        have hl := h0.2
        rw [List.flatMap_append, List.flatMap_singleton, e4] at hl
        simp only [List.length_append, List.length_singleton] at hl
        refine ⟨_, ⟨(hA.trans (Wro.put' (w := cds "end") (r := []))).1, ?_⟩, rfl⟩
        simp only [List.length_append, List.length_singleton]
        omega
      · exact el True (by unfold cblk; rw [hg]; exact if_neg he) (by unfold rEnd; rw [hg]; exact if_neg he) rfl
  obtain ⟨R0, ⟨⟨I, B, e1, e2, hf⟩, hl⟩, e3⟩ := go
  rw [List.nil_append] at e1 e2
  refine ⟨⟨[.t [str "block", .i (S.2.length : Int)]], [.t [str "code", .i (ps.length : Int), .t (cblk (cX sl ow F (nmsT ps :: sc)) l).1, .t (cblk (cX sl ow F (nmsT ps :: sc)) l).2]], rfl, rfl, ?_⟩, ?_⟩
  · unfold rBlk
    rw [e3]
    have := FlatR.blk (p := FlatC (F + 1)) (c := S.2.length) (I := []) (B := []) (R := []) (b := .t [str "code", .i (ps.length : Int), .t I, .t B]) (rb := .t [str "begin", .i (ps.length : Int)] :: (R0 ++ [tO "behind"])) ⟨ps.length, I, B, R0, rfl, hf, rfl⟩ .nil
    rw [List.append_nil] at this
    rw [e1, e2]
    exact this
  · unfold rBlk
    rw [e3]
    simp only [List.length_cons, List.length_append, List.length_nil]
    omega
end
end
section
/-! What every part comes to, told by its rows. -/
open PySem PySem.Spec PyProof.Rows L2
section
variable {sl : Ws} {ow : List Nat}
theorem one_row {F : Nat} {S : CS} {w : List Nat} {r : List Tr} {R : List Tr} {n : Nat} (e : R = [.t (.s w :: r)]) (h : w ≠ cds "block" := by decide +kernel) (h2 : w ∉ leadsL := by decide +kernel) (h3 : 1 ≤ n := by omega) : Wro (FlatC F) S (cput (.t (.s w :: r)) S) R n := by
  rw [e]; exact Wro.eq (Wro.put' h h2) rfl h3
theorem plc_out {F : Nat} {S : CS} {a : List Nat} {sc : List Ws} {n : Nat} (h3 : 1 ≤ n) : Wro (FlatC F) S (cput (plcT a sl 0 sc) S) [plcT a sl 0 sc] n := by
  obtain ⟨w, r, e, h1, h2⟩ := plc_row a sl sc 0
  rw [e]
  exact Wro.eq (Wro.put' h1 h2) rfl h3
theorem ev_no {k : List Nat} {r : List Tr} (h : k ≠ cds "eval") (he : isEval (.t (.s k :: r)) = true) : False := h (of_decide_eq_true he)
theorem Ps.last_eval {h : Nat} {t : Tr} {w : Ws} {ns : List Ws} {x : List Nat} (p : Ps h t w ns x) (he : isEval t = true) : ∃ h' t' lv w' ns' x', h = h' + 1 ∧ t = .t [str "eval", t'] ∧ Pe lv h' t' w' ns' x' := by
  cases p with
  | eval pe => exact ⟨_, _, _, _, _, _, rfl, rfl, pe⟩
  | gf hg pe => rcases hg with rfl | rfl <;> exact (ev_no (by decide +kernel) he).elim
  | _ => exact (ev_no (by decide +kernel) he).elim
theorem Pq.split : ∀ {h : Nat} {l : List Tr} {w : Ws} {ns : List Ws} {ys : Ws}, Pq h l w ns ys → ∀ t, l.getLast? = some t → ∃ l' w' ns' ys' w2 ns2 x2, l = l' ++ [t] ∧ Pq h l' w' ns' ys' ∧ Ps h t w2 ns2 x2 ∧ w'.length ≤ w.length
  | _, _, _, _, _, .nil, t, h => by cases h
  | _, _, _, _, _, .cons (l := []) p q, t, h => by
    cases h
    exact ⟨[], _, _, _, _, _, _, rfl, .nil, p, Nat.zero_le _⟩
  | _, _, _, _, _, .cons (l := x :: l) p q, t, h => by
    rw [List.getLast?_cons_cons] at h
    obtain ⟨l', w', ns', ys', w2, ns2, x2, e, q', p', hl⟩ := q.split t h
    exact ⟨_ :: l', _, _, _, _, _, _, by rw [e]; rfl, .cons p q', p', by simp only [List.length_cons, List.length_append]; omega⟩
theorem Pb.split {h : Nat} {l : List Tr} {w : Ws} {ns : List Ws} {ys : Ws} (b : Pb h l w ns ys) (t : Tr) (e : l.getLast? = some t) : ∃ l' w' ns' ys' w2 ns2 x2, l = l' ++ [t] ∧ Pb h l' w' ns' ys' ∧ Ps h t w2 ns2 x2 ∧ w'.length ≤ w.length := by
  cases b with
  | nil => cases e
  | cons p q =>
    rename_i t0 w0 ns0 x0 l0 w20 n20 ys0
    cases l0 with
    | nil =>
      cases e
      exact ⟨[], _, _, _, _, _, _, rfl, .nil, p, Nat.zero_le _⟩
    | cons x l =>
      rw [List.getLast?_cons_cons] at e
      obtain ⟨l', w', ns', ys', w2, ns2, x2, e, q', p', hl⟩ := q.split t e
      exact ⟨_ :: l', _, _, _, _, _, _, by rw [e]; rfl, .cons p q', p', by simp only [List.length_append]; omega⟩
def AE (sl : Ws) (ow : List Nat) (F : Nat) : Prop := ∀ (lv h : Nat) (t : Tr) (w : Ws) (ns : List Ws) (x : List Nat), Pe lv h t w ns x → h ≤ F → ∀ sc, Oe sl ow F sc t w.length
def AS (sl : Ws) (ow : List Nat) (F : Nat) : Prop := ∀ (h : Nat) (t : Tr) (w : Ws) (ns : List Ws) (x : List Nat), Ps h t w ns x → h ≤ F → ∀ sc, Os sl ow F sc t w.length
section
variable {F : Nat} {sc : List Ws}
theorem Pp.ro (A : AE sl ow F) : ∀ {a h : Nat} {t : Tr} {w : Ws} {ns : List Ws} {x : List Nat}, Pp a h t w ns x → h ≤ F → Oe sl ow F sc t w.length
  | _, _, _, _, _, _, .go l p, hF => A _ _ _ _ _ _ p hF sc
  | _, _, _, _, _, _, .br l p, hF => fun S => (A _ _ _ _ _ _ p (by omega) sc S).eq rfl (by simp only [List.length_append, List.length_cons]; omega)
theorem Pl.ro (A : AE sl ow F) : ∀ {h : Nat} {l : List Tr} {w : Ws} {ns : List Ws} {ys : Ws}, Pl h l w ns ys → h ≤ F → Ol sl ow F sc l w.length
  | _, _, _, _, _, .nil, _ => fun S => Wro.refl
  | _, _, _, _, _, .cons p q, hF => fun S => ((A _ _ _ _ _ _ p hF sc S).trans (Pl.ro A q hF _)).eq rfl (by simp only [List.length_append, List.length_cons]; omega)
theorem Pa.ro (A : AE sl ow F) : ∀ {h : Nat} {l : List Tr} {w : Ws} {ns : List Ws} {ys : Ws}, Pa h l w ns ys → h ≤ F → Ol sl ow F sc l w.length
  | _, _, _, _, _, .nil, _ => fun S => Wro.refl
  | _, _, _, _, _, .cons p q _, hF => fun S => ((A _ _ _ _ _ _ p hF sc S).trans (Pl.ro A q hF _)).eq rfl (by simp only [List.length_append]; omega)
theorem Pq.ro (B : AS sl ow F) : ∀ {h : Nat} {l : List Tr} {w : Ws} {ns : List Ws} {ys : Ws}, Pq h l w ns ys → h ≤ F → Ol sl ow F sc l w.length
  | _, _, _, _, _, .nil, _ => fun S => Wro.refl
  | _, _, _, _, _, .cons p q, hF => fun S => ((B _ _ _ _ _ p hF sc S).trans (Pq.ro B q hF _)).eq rfl (by simp only [List.length_append, List.length_cons]; omega)
theorem Pb.ro (B : AS sl ow F) : ∀ {h : Nat} {l : List Tr} {w : Ws} {ns : List Ws} {ys : Ws}, Pb h l w ns ys → h ≤ F → Ol sl ow F sc l w.length
  | _, _, _, _, _, .nil, _ => fun S => Wro.refl
  | _, _, _, _, _, .cons p q, hF => fun S => ((B _ _ _ _ _ p hF sc S).trans (Pq.ro B q hF _)).eq rfl (by simp only [List.length_append]; omega)
theorem Pb.le (B : AS sl ow F) (A' : ∀ F', F = F' + 1 → AE sl ow F') {h : Nat} {l : List Tr} {w : Ws} {ns : List Ws} {ys : Ws} (b : Pb h l w ns ys) (hF : h ≤ F) (t : Tr) (e : l.getLast? = some t) (he : isEval t = true) : ∃ F' l' t', F = F' + 1 ∧ l = l' ++ [t] ∧ t = .t [str "eval", t'] ∧ ∃ n', Ol sl ow F sc l' n' ∧ Wro (FlatC F') (cfold (cX sl ow F sc) l' ([], [])) (cX sl ow F' sc t' (cfold (cX sl ow F sc) l' ([], []))) (rX sl ow F' sc t') n' := by
  obtain ⟨l', w', ns', ys', w2, ns2, x2, e2, pb, p2, hl⟩ := b.split t e
  obtain ⟨h', t', lv, w3, ns3, x3, rfl, rfl, pe⟩ := p2.last_eval he
  obtain ⟨F', rfl⟩ : ∃ F', F = F' + 1 := ⟨F - 1, by omega⟩
  exact ⟨F', l', t', rfl, e2, rfl, w'.length + 10 * w3.length, fun S => (Pb.ro B pb hF S).eq rfl (by omega), (A' F' rfl _ _ _ _ _ _ pe (by omega) sc _).eq rfl (by omega)⟩
end
theorem AE.succ {F : Nat} (A : AE sl ow F) (B : AS sl ow F) (A' : ∀ F', F = F' + 1 → AE sl ow F') : ∀ (lv h : Nat) (t : Tr) (w : Ws) (ns : List Ws) (x : List Nat), Pe lv h t w ns x → h ≤ F + 1 → ∀ sc, Oe sl ow (F + 1) sc t w.length
  | _, _, _, _, _, _, .num n, hF, sc => fun S => by
    show Wro _ S (cKd (cX sl ow F) sl sc ow (cds "plain") _ S) (rKd (rX sl ow F) sl sc ow (cds "plain") _) _
    rw [cd_plain, rd_plain]
    exact one_row rfl (by decide +kernel) (by decide +kernel) (by simp only [List.length_cons, List.length_nil]; omega)
  | _, _, _, _, _, _, .text n, hF, sc => fun S => by
    show Wro _ S (cKd (cX sl ow F) sl sc ow (cds "plain") _ S) (rKd (rX sl ow F) sl sc ow (cds "plain") _) _
    rw [cd_plain, rd_plain]
    exact one_row rfl (by decide +kernel) (by decide +kernel) (by simp only [List.length_cons, List.length_nil]; omega)
  | _, _, _, _, _, _, .word n, hF, sc => fun S => by
    show Wro _ S (cKd (cX sl ow F) sl sc ow (cds "plain") _ S) (rKd (rX sl ow F) sl sc ow (cds "plain") _) _
    rw [cd_plain, rd_plain]
    exact one_row rfl (by decide +kernel) (by decide +kernel) (by simp only [List.length_cons, List.length_nil]; omega)
  | _, _, _, _, _, _, .self, hF, sc => fun S => by
    show Wro _ S (cKd (cX sl ow F) sl sc ow (cds "self") _ S) (rKd (rX sl ow F) sl sc ow (cds "self") _) _
    rw [cd_self, rd_self]
    exact one_row rfl (by decide +kernel) (by decide +kernel) (by simp only [List.length_cons, List.length_nil]; omega)
  | _, _, _, _, _, _, .new n, hF, sc => fun S => by
    show Wro _ S (cKd (cX sl ow F) sl sc ow (cds "new") _ S) (rKd (rX sl ow F) sl sc ow (cds "new") _) _
    rw [cd_new, rd_new]
    exact one_row rfl (by decide +kernel) (by decide +kernel) (by simp only [List.length_cons, List.length_nil]; omega)
  | _, _, _, _, _, _, .name n, hF, sc => fun S => by
    show Wro _ S (cKd (cX sl ow F) sl sc ow (cds "name") _ S) (rKd (rX sl ow F) sl sc ow (cds "name") _) _
    rw [cd_name, rd_name]
    exact plc_out (by simp only [List.length_cons, List.length_nil]; omega)
  | _, _, _, _, _, _, .neg p, hF, sc => fun S => by
    have h1 := (Pp.ro (sc := sc) A p (by omega) S).u
    have u1 := w_one p.len
    show Wro _ S (cKd (cX sl ow F) sl sc ow (cds "neg") _ S) (rKd (rX sl ow F) sl sc ow (cds "neg") _) _
    rw [cd_neg, rd_neg]
    exact (h1.trans Wro.put').eq rfl (by simp only [List.length_cons]; omega)
  | _, _, _, _, _, _, .not p, hF, sc => fun S => by
    have h1 := (Pp.ro (sc := sc) A p (by omega) S).u
    have u1 := w_one p.len
    show Wro _ S (cKd (cX sl ow F) sl sc ow (cds "not") _ S) (rKd (rX sl ow F) sl sc ow (cds "not") _) _
    rw [cd_not, rd_not]
    exact (h1.trans Wro.put').eq rfl (by simp only [List.length_cons]; omega)
  | _, _, _, _, _, _, .bin (s := s) (t1 := t1) (t2 := t2) a b p q, hF, sc => fun S => by
    have h1 := fun S => (Pp.ro (sc := sc) A p (by omega) S).u
    have h2 := fun S => (Pp.ro (sc := sc) A q (by omega) S).u
    have u1 := w_one p.len
    have u2 := w_one q.len
    by_cases h : s = cds "and" ∨ s = cds "or"
    · rw [show binT s t1 t2 = .t [.s s, t1, t2] from if_pos h]
      show Wro _ S (cKd (cX sl ow F) sl sc ow s [t1, t2] S) (rKd (rX sl ow F) sl sc ow s [t1, t2]) _
      rcases h with rfl | rfl
      · rw [cd_and, rd_and]
        have g1 := h1 S
        have g2 := g1.trans (Wro.pl (w := "unless"))
        have g3 := g2.trans (h2 _)
        have g4 := g3.trans (Wro.pl (w := "unless"))
        have d1 : LdW (cpl "unless" (cX sl ow F sc t1 S)) (cX sl ow F sc t1 S).1.length := LdW.pl
        have d2 : LdW (cpl "unless" (cX sl ow F sc t2 (cpl "unless" (cX sl ow F sc t1 S)))) (cX sl ow F sc t2 (cpl "unless" (cX sl ow F sc t1 S))).1.length := LdW.pl
        refine (Wro.truth (l := [(cX sl ow F sc t1 S).1.length, (cX sl ow F sc t2 (cpl "unless" (cX sl ow F sc t1 S))).1.length]) g4 fun k hk => ?_).1.eq (by simp [truR]) (by simp only [List.length_append, List.length_cons]; omega)
        rcases List.mem_cons.mp hk with e | hk
        · rw [e]; exact ⟨g1.len, (LdW.out (h2 _) d1).put⟩
        · rw [List.mem_singleton.mp hk]; exact ⟨g3.len, d2⟩
      · rw [cd_or, rd_or]
        have g1 := h1 S
        have g2 := g1.trans (Wro.pl (w := "unless"))
        have g3 := g2.trans (Wro.put' (w := cds "push") (r := [.b true]))
        have g4 := g3.trans (Wro.pl (w := "jump"))
        have d1 : LdW (cpl "unless" (cX sl ow F sc t1 S)) (cX sl ow F sc t1 S).1.length := LdW.pl
        have g5 := g4.led g1.len d1.put.put
        have d3 : LdW (cpl "jump" (cput (.t [str "push", .b true]) (cpl "unless" (cX sl ow F sc t1 S)))) (cput (.t [str "push", .b true]) (cpl "unless" (cX sl ow F sc t1 S))).1.length := LdW.pl
        have h5 := h2 (cled (cX sl ow F sc t1 S).1.length (cpl "jump" (cput (.t [str "push", .b true]) (cpl "unless" (cX sl ow F sc t1 S)))))
        have g6 := g5.trans h5
        have d4 := (LdW.out h5 d3.led).put (i := .t [str "unless", .n])
        generalize hX : cX sl ow F sc t2 (cled (cX sl ow F sc t1 S).1.length (cpl "jump" (cput (.t [str "push", .b true]) (cpl "unless" (cX sl ow F sc t1 S))))) = X at g6 d4
        have g7 := g6.trans (Wro.pl (w := "unless"))
        obtain ⟨g8, e8⟩ := Wro.truth (l := [X.1.length]) g7 fun k hk => by
          rw [List.mem_singleton.mp hk]; exact ⟨g6.len, LdW.pl⟩
        have g9 := g8.led g3.len (e8 _ d4)
        show Wro _ S (cOr (cX sl ow F) sc t1 t2 S) _ _
        have ex : cOr (cX sl ow F) sc t1 t2 S = cled (cput (.t [str "push", .b true]) (cpl "unless" (cX sl ow F sc t1 S))).1.length (ctruth [X.1.length] (cpl "unless" X)) := by
          rw [← hX]; rfl
        rw [ex]
        exact g9.eq (by simp [truR, str]) (by simp only [List.length_append, List.length_cons]; omega)
    · rw [show binT s t1 t2 = .t [str "op", .s s, t1, t2] from if_neg h]
      show Wro _ S (cKd (cX sl ow F) sl sc ow (cds "op") [.s s, t1, t2] S) (rKd (rX sl ow F) sl sc ow (cds "op") [.s s, t1, t2]) _
      rw [cd_op, rd_op]
      exact (((h1 _).trans (h2 _)).trans Wro.put').eq rfl (by simp only [List.length_append, List.length_cons]; omega)
  | _, _, _, _, _, _, .send p n k, hF, sc => fun S => by
    have u1 := w_one p.len
    have h1 := fun S => (Pp.ro (sc := sc) A p (by omega) S).u
    have h2 := fun S => (Pa.ro (sc := sc) A k (by omega) S).u
    show Wro _ S (cKd (cX sl ow F) sl sc ow (cds "send") _ S) (rKd (rX sl ow F) sl sc ow (cds "send") _) _
    rw [cd_send, rd_send]
    exact (((h1 _).trans (h2 _)).trans Wro.put').eq rfl (by simp only [List.length_append, List.length_cons]; omega)
  | _, _, _, _, _, _, .sup n k, hF, sc => fun S => by
    have h2 := fun S => (Pa.ro (sc := sc) A k (by omega) S).u
    show Wro _ S (cKd (cX sl ow F) sl sc ow (cds "super") _ S) (rKd (rX sl ow F) sl sc ow (cds "super") _) _
    rw [cd_super, rd_super]
    exact ((h2 _).trans Wro.put').eq rfl (by simp only [List.length_append, List.length_cons]; omega)
  | _, _, _, _, _, _, .blk0 b, hF, sc => fun S => by
    show Wro _ S (cKd (cX sl ow F) sl sc ow (cds "block") _ S) (rKd (rX sl ow F) sl sc ow (cds "block") _) _
    rw [cd_block, rd_block]
    exact (blk_out (Pb.ro B b (by omega)) (fun t ht he => Pb.le B A' b (by omega) t ht he) S).eq rfl (by simp only [List.length_append, List.length_cons]; omega)
  | _, _, _, _, _, _, .blk h0 h4 hn b, hF, sc => fun S => by
    show Wro _ S (cKd (cX sl ow F) sl sc ow (cds "block") _ S) (rKd (rX sl ow F) sl sc ow (cds "block") _) _
    rw [cd_block, rd_block]
    exact (blk_out (Pb.ro B b (by omega)) (fun t ht he => Pb.le B A' b (by omega) t ht he) S).eq rfl (by simp only [List.length_append, List.length_cons]; omega)
theorem AS.succ {F : Nat} (A : AE sl ow F) (B : AS sl ow F) : ∀ (h : Nat) (t : Tr) (w : Ws) (ns : List Ws) (x : List Nat), Ps h t w ns x → h ≤ F + 1 → ∀ sc, Os sl ow (F + 1) sc t w.length
  | _, _, _, _, _, .eval p, hF, sc => fun S => by
    have h1 := (A _ _ _ _ _ _ p (by omega) sc S).u
    show Wro _ S (cKd (cX sl ow F) sl sc ow (cds "eval") _ S) (rKd (rX sl ow F) sl sc ow (cds "eval") _) _
    rw [cd_eval, rd_eval]
    have hw := w_one p.len
    exact (h1.trans Wro.put').eq rfl (by omega)
  | _, _, _, _, _, .set n p, hF, sc => fun S => by
    have h1 := (A _ _ _ _ _ _ p (by omega) sc S).u
    show Wro _ S (cKd (cX sl ow F) sl sc ow (cds "set") _ S) (rKd (rX sl ow F) sl sc ow (cds "set") _) _
    rw [cd_set, rd_set]
    exact (h1.trans Wro.put').eq rfl (by simp only [List.length_cons]; omega)
  | _, _, _, _, _, .gf (t := t) hg p, hF, sc => fun S => by
    have h1 := (A _ _ _ _ _ _ p (by omega) sc S).u
    rcases hg with rfl | rfl
    · show Wro _ S (cKd (cX sl ow F) sl sc ow (cds "give") [t] S) (rKd (rX sl ow F) sl sc ow (cds "give") [t]) _
      rw [cd_give, rd_give]
      exact (h1.trans Wro.put').eq rfl (by simp only [List.length_cons]; omega)
    · show Wro _ S (cKd (cX sl ow F) sl sc ow (cds "fail") [t] S) (rKd (rX sl ow F) sl sc ow (cds "fail") [t]) _
      rw [cd_fail, rd_fail]
      exact (h1.trans Wro.put').eq rfl (by simp only [List.length_cons]; omega)
  | _, _, _, _, _, .whl (t := t) (l := l) p q, hF, sc => fun S => by
    have h1 := (A _ _ _ _ _ _ p (by omega) sc S).u
    have h2 := fun S => (Pb.ro (sc := sc) B q (by omega) S).u
    show Wro _ S (cKd (cX sl ow F) sl sc ow (cds "while") [t, .t l] S) (rKd (rX sl ow F) sl sc ow (cds "while") [t, .t l]) _
    rw [cd_while, rd_while]
    have d1 : LdW (cpl "unless" (cX sl ow F sc t S)) (cX sl ow F sc t S).1.length := LdW.pl
    have g3 := (h1.trans (Wro.pl (w := "unless"))).trans (h2 _)
    have g4 := g3.trans (Wro.ptr (w := "jump") (r := [.i (S.1.length : Int)]))
    exact (g4.led h1.len (LdW.out (h2 _) d1).put).eq rfl (by simp only [List.length_append, List.length_cons]; omega)
  | _, _, _, _, _, .if0 (t := t) (l := l) p q, hF, sc => fun S => by
    have h1 := (A _ _ _ _ _ _ p (by omega) sc S).u
    have h2 := fun S => (Pb.ro (sc := sc) B q (by omega) S).u
    show Wro _ S (cKd (cX sl ow F) sl sc ow (cds "if") [t, .t l, .t []] S) (rKd (rX sl ow F) sl sc ow (cds "if") [t, .t l, .t []]) _
    rw [cd_if0, rd_if0]
    have d1 : LdW (cpl "unless" (cX sl ow F sc t S)) (cX sl ow F sc t S).1.length := LdW.pl
    have g3 := (h1.trans (Wro.pl (w := "unless"))).trans (h2 _)
    exact (g3.led h1.len (LdW.out (h2 _) d1)).eq rfl (by simp only [List.length_append, List.length_cons]; omega)
  | _, _, _, _, _, .if1 (t := t) (l := l) (l3 := l3) p q h3 r, hF, sc => fun S => by
    have h1 := (A _ _ _ _ _ _ p (by omega) sc S).u
    have h2 := fun S => (Pb.ro (sc := sc) B q (by omega) S).u
    have h4 := fun S => (Pb.ro (sc := sc) B r (by omega) S).u
    show Wro _ S (cKd (cX sl ow F) sl sc ow (cds "if") [t, .t l, .t l3] S) (rKd (rX sl ow F) sl sc ow (cds "if") [t, .t l, .t l3]) _
    rw [cd_if1 _ _ _ _ _ _ _ _ h3, rd_if1 _ _ _ _ _ _ _ h3]
    have d1 : LdW (cpl "unless" (cX sl ow F sc t S)) (cX sl ow F sc t S).1.length := LdW.pl
    have k2 := h2 (cpl "unless" (cX sl ow F sc t S))
    have g3 := (h1.trans (Wro.pl (w := "unless"))).trans k2
    have d2 := LdW.out k2 d1
    show Wro _ S (cIf1 (cX sl ow F) sc t l l3 S) _ _
    have ex : ∀ X, cfold (cX sl ow F sc) l (cpl "unless" (cX sl ow F sc t S)) = X → cIf1 (cX sl ow F) sc t l l3 S = cled X.1.length (cfold (cX sl ow F sc) l3 (cled (cX sl ow F sc t S).1.length (cpl "jump" X))) := fun X e => by rw [← e]; rfl
    generalize hX : cfold (cX sl ow F sc) l (cpl "unless" (cX sl ow F sc t S)) = X at g3 d2
    rw [ex X hX]
    have g5 := (g3.trans (Wro.pl (w := "jump"))).led h1.len d2.put
    have d3 : LdW (cpl "jump" X) X.1.length := LdW.pl
    have g6 := g5.trans (h4 _)
    refine Wro.eq (g6.led g3.len (LdW.out (h4 _) d3.led)) ?_ ?_
    · rfl
    · simp only [List.length_append, List.length_cons]; omega
  | _, _, _, _, _, .try_ (l := l) (l2 := l2) (a := a) p n q, hF, sc => fun S => by
    have h1 := fun S => (Pb.ro (sc := sc) B p (by omega) S).u
    have h2 := fun S => (Pb.ro (sc := sc) B q (by omega) S).u
    show Wro _ S (cKd (cX sl ow F) sl sc ow (cds "try") [.t l, .s a, .t l2] S) (rKd (rX sl ow F) sl sc ow (cds "try") [.t l, .s a, .t l2]) _
    rw [cd_try, rd_try]
    have k1 := h1 (cpl "try" S)
    have d1 : LdW (cpl "try" S) S.1.length := LdW.pl
    have g1 := (Wro.pl (S := S) (p := FlatC (F + 1)) (w := "try")).trans k1
    have d2 := LdW.out k1 d1
    show Wro _ S (cTry (cX sl ow F) sl sc l a l2 S) _ _
    have ex : ∀ X, cfold (cX sl ow F sc) l (cpl "try" S) = X → cTry (cX sl ow F) sl sc l a l2 S = cled (cput (.t [str "done"]) X).1.length (cfold (cX sl ow F sc) l2 (cput (.t [str "set", plcT a sl 0 sc]) (cled S.1.length (cpl "jump" (cput (.t [str "done"]) X))))) := fun X e => by rw [← e]; rfl
    generalize hX : cfold (cX sl ow F sc) l (cpl "try" S) = X at g1 d2
    rw [ex X hX]
    have g2 := g1.trans (Wro.put' (w := cds "done") (r := []))
    have g3 := (g2.trans (Wro.pl (w := "jump"))).led (Nat.le_refl _) (LdW.put (LdW.put d2))
    have d3 : LdW (cpl "jump" (cput (.t [str "done"]) X)) (cput (.t [str "done"]) X).1.length := LdW.pl
    have g4 := g3.trans (Wro.put' (w := cds "set") (r := [plcT a sl 0 sc]))
    have g5 := g4.trans (h2 _)
    exact (g5.led g2.len (LdW.out (h2 _) (d3.led.put))).eq (by simp only [List.append_assoc, List.cons_append, List.nil_append]; rfl) (by simp only [List.length_append, List.length_cons]; omega)
  | _, _, _, _, _, .keep (l := l) (l2 := l2) p q, hF, sc => fun S => by
    have h1 := fun S => (Pb.ro (sc := sc) B p (by omega) S).u
    have h2 := fun S => (Pb.ro (sc := sc) B q (by omega) S).u
    show Wro _ S (cKd (cX sl ow F) sl sc ow (cds "keep") [.t l, .t l2] S) (rKd (rX sl ow F) sl sc ow (cds "keep") [.t l, .t l2]) _
    rw [cd_keep, rd_keep]
    have k1 := h1 (cpl "keep" S)
    have d1 : LdW (cpl "keep" S) S.1.length := LdW.pl
    have g1 := (Wro.pl (S := S) (p := FlatC (F + 1)) (w := "keep")).trans k1
    have d2 := LdW.out k1 d1
    show Wro _ S (cKeep (cX sl ow F) sc l l2 S) _ _
    have ex : ∀ X, cfold (cX sl ow F sc) l (cpl "keep" S) = X → cKeep (cX sl ow F) sc l l2 S = cput (.t [str "resume"]) (cfold (cX sl ow F sc) l2 (cled S.1.length (cput (.t [str "always"]) X))) := fun X e => by rw [← e]; rfl
    generalize hX : cfold (cX sl ow F sc) l (cpl "keep" S) = X at g1 d2
    rw [ex X hX]
    have g2 := (g1.trans (Wro.put' (w := cds "always") (r := []))).led (Nat.le_refl _) (LdW.put d2)
    exact ((g2.trans (h2 _)).trans (Wro.put' (w := cds "resume") (r := []))).eq rfl (by simp only [List.length_append, List.length_cons]; omega)
theorem AE.zero : AE sl ow 0 := fun _ _ _ _ _ _ p hF => by cases p <;> omega
theorem AS.zero : AS sl ow 0 := fun _ _ _ _ _ p hF => by cases p <;> omega
theorem ro_all (sl : Ws) (ow : List Nat) : ∀ F, AE sl ow F ∧ AS sl ow F ∧ ∀ F', F = F' + 1 → AE sl ow F'
  | 0 => ⟨AE.zero, AS.zero, fun _ h => by cases h⟩
  | F + 1 => by
    obtain ⟨a, b, c⟩ := ro_all sl ow F
    exact ⟨a.succ b c, AS.succ a b, fun F' h => by cases h; exact a⟩
end
end
section
/-! The law's rows of a method's parts. -/
open PySem PySem.Spec PyProof.Rows L2
open C8 (Cal cal0 pe_c pe_gc pss_cut tCut)

local macro_rules | `(tactic| walk_at "kd") => `(tactic| repeat (first
  | walk_at "r1c"
  | with_reducible refine c_if_Te (by with_unfolding_all decide +kernel) ?_
  | with_reducible refine c_if_Tn (by with_unfolding_all decide +kernel) ?_))
/-- a list of rows -/
def RwAt (K : PySem.W.Frag) (H : Hp) (q : Addr) (R : List Tr) : Prop := ∃ vs, H q = some (.lst vs) ∧ TrsAt K H vs R
theorem RwAt.same {K : PySem.W.Frag} {H H' : Hp} {q : Addr} {R : List Tr} (h : RwAt K H q R) (s : Same H H') : RwAt K H' q R := by
  obtain ⟨vs, a, b⟩ := h
  exact ⟨vs, s _ _ a, b.same s⟩
theorem RwAt.eq {K : PySem.W.Frag} {H : Hp} {q : Addr} {R R' : List Tr} (e : R' = R) (h : RwAt K H q R) : RwAt K H q R' := by rw [e]; exact h
theorem TrsAt.app {K : PySem.W.Frag} {H : Hp} : ∀ {xs : List V} {l : List Tr} {ys : List V} {m : List Tr}, TrsAt K H xs l → TrsAt K H ys m → TrsAt K H (xs ++ ys) (l ++ m)
  | _, _, _, _, .nil, h => h
  | _, _, _, _, .cons a b, h => .cons a (b.app h)
section
variable {K : PySem.W.Frag} {H : Hp} {Q : VK} {a b : Addr} {R1 R2 ts : List Tr} {xs : List V}
theorem rw_cat (ha : RwAt K H a R1) (hb : RwAt K H b R2) (z : R1.length + R2.length ≤ 1000000) (k : ∀ q H', H q = none → Same H H' → RwAt K H' q (R1 ++ R2) → Q (.ref q) H') : rCat (.ref a) (.ref b) H Q := by
  obtain ⟨vs, h1, t1⟩ := ha
  obtain ⟨us, h2, t2⟩ := hb
  exact w_cat2 h1 h2 (by rw [t1.length, t2.length]; exact z) fun q H' n s h => k q H' n s ⟨_, h, (t1.same s).app (t2.same s)⟩
theorem n_tup (ht : TrsAt K H xs ts) (z : xs.length ≤ 1000000) (k : ∀ q H1, H q = none → Same H H1 → TrAt K H1 (.ref q) (.t ts) → Q (.ref q) H1) : NewT xs H Q :=
  w_newT z fun q H1 n s h => k q H1 n s (.t (.inl (.inl h)) (ht.same s))
theorem n_lst (ht : TrsAt K H xs ts) (z : xs.length ≤ 1000000) (k : ∀ q H1, H q = none → Same H H1 → RwAt K H1 q ts → Q (.ref q) H1) : NewL xs H Q :=
  w_newL z fun q H1 n s h => k q H1 n s ⟨_, h, ht.same s⟩
end
/-- the scopes and the slots, as the law hands them on -/
def ScC (K : PySem.W.Frag) (H : Hp) (D tS : Addr) (sc : List Ws) (sl : Ws) : Prop := (∃ xv, H D = some (.lst xv) ∧ ScAt H xv sc) ∧ SqT K H tS (sl.map T)
theorem ScC.same {K : PySem.W.Frag} {H H' : Hp} {D tS : Addr} {sc : List Ws} {sl : Ws} (h : ScC K H D tS sc sl) (s : Same H H') : ScC K H' D tS sc sl := by
  obtain ⟨⟨xv, a, b⟩, c⟩ := h
  exact ⟨⟨xv, s _ _ a, b.sm s⟩, Same.sqT s c⟩
def hdT : Tr → List Nat
  | .t (.s k :: _) => k
  | _ => []
theorem hd_no {k c : List Nat} {r : List Tr} (h : k ≠ c) (hh : hdT (.t (.s k :: r)) = c) : False := h hh
def XP (n : Nat) (t : Tr) (m : Nat) : Prop := XE n t m ∨ XS n t m
def shTry (n : Nat) (t : Tr) (m : Nat) : Prop := XS n t m ∧ hdT t = cds "try"
def shBlk (n : Nat) (t : Tr) (m : Nat) : Prop := XE n t m ∧ hdT t = cds "block"
def shSt (n : Nat) (t : Tr) (m : Nat) : Prop := XS n t m ∧ hdT t ≠ cds "try" ∧ hdT t ≠ cds "while"
def scB (sc : List Ws) : Prop := ∀ s ∈ sc, s.length ≤ 1000
section
variable {sl : Ws} {ow : List Nat} {n m : Nat} {sc : List Ws} {t : Tr} {l : List Tr}
theorem wro_len {p : Tr → List Tr → Prop} {S S' : CS} {R : List Tr} {n : Nat} (h : Wro p S S' R n) : R.length ≤ n := h.2
theorem XE.rl (h : XE n t m) : (rX sl ow n sc t).length ≤ 10 * m - 5 := by
  obtain ⟨lv, w, ns, x, p, rfl⟩ := h
  exact wro_len ((ro_all sl ow n).1 _ _ _ _ _ _ p (Nat.le_refl _) sc ([], []))
theorem XS.rl (h : XS n t m) : (rX sl ow n sc t).length ≤ 10 * m := by
  obtain ⟨w, ns, x, p, rfl⟩ := h
  exact wro_len ((ro_all sl ow n).2.1 _ _ _ _ _ p (Nat.le_refl _) sc ([], []))
theorem XP.rl (h : XP n t m) : (rX sl ow n sc t).length ≤ 10 * m := by
  rcases h with h | h
  · exact Nat.le_trans h.rl (Nat.sub_le _ _)
  · exact h.rl
theorem XL.rl {c : Tr → List Tr} {p : Tr → Nat → Prop} (hp : ∀ t m, p t m → (c t).length ≤ 10 * m) : ∀ {l : List Tr} {m : Nat}, XL p l m → (l.flatMap c).length ≤ 10 * m
  | _, _, .nil => Nat.zero_le _
  | _, _, .cons a b => by
    have h1 := hp _ _ a
    have h2 := XL.rl hp b
    rw [List.flatMap_cons, List.length_append]
    omega
theorem XL.map {p q : Tr → Nat → Prop} (f : ∀ t m, p t m → q t m) : ∀ {l : List Tr} {m : Nat}, XL p l m → XL q l m
  | _, _, .nil => .nil
  | _, _, .cons a b => .cons (f _ _ a) (b.map f)
theorem XL.rlP (h : XL (XP n) l m) : (l.flatMap (rX sl ow n sc)).length ≤ 10 * m := XL.rl (fun t m h => h.rl) h
end
section
variable {P : Program} {w : World} {K : PySem.W.Frag} {mg : Str → Option Value} {base : Heap} {k n : Nat}
abbrev s_law_place : Stmt := topS 27
abbrev N_law_place : List Str := ["name", "scopes", "fields", "up", "k"]
theorem sc_law_place : FnScope N_law_place ["name", "scopes", "fields"] (defScope s_law_place) := ⟨rfl, rfl, rfl, by decide +kernel, rfl, by decide +kernel, by decide +kernel⟩
def spLPl (K : PySem.W.Frag) : Sp := fun vs H Q _ => ∃ (a : List Nat) (D tS : Addr) (sc : List Ws) (sl : Ws), vs = [T a, .ref D, .ref tS] ∧ ScC K H D tS sc sl ∧ sc.length ≤ 1000 ∧ scB sc ∧ ∀ p H', Same H H' → TrAt K H' (.ref p) (plcT a sl 0 sc) → Q (.ref p) H'
theorem ok_law_place {f : Addr} {fd : FuncData} (F : Fun K "_law_place" "_law_place" s_law_place f fd) (Y : Bn mg) : FnOk P w K mg base CX0 1 f fd ["name", "scopes", "fields"] (spLPl K) := by
  refine F.ok sc_law_place (fun vs H Q E h => ?_) (fun cdv A outer s H vs Q E hr h => ?_)
  · obtain ⟨a, D, tS, sc, sl, rfl, _⟩ := h
    rfl
  · obtain ⟨a, D, tS, sc, sl, rfl, ⟨⟨xv, hD, hSc⟩, hT⟩, hl, hb, kQ⟩ := h
    have nd := sc_law_place.nd
    have hxl := hSc.length
    refine ⟨_, (pss_cons (ps_for PassesOwn.never rfl (pi_range1 rfl Y.n_range (pa_cons (pe_callB call_lenL (by rfl) Y.n_len (by decide +kernel) (pa_cons (pv 1) pa_nil)) pa_nil)) (pg_name (i := 3) nd rfl (Or.inl rfl)) (pss_one (ps_for PassesOwn.never rfl (pi_range1 rfl Y.n_range (pa_cons (pe_callB call_lenL (by rfl) Y.n_len (by decide +kernel) (pa_cons (pe_ix ix_list (pv 1) (pv 3) (fun _ _ => rfl)) pa_nil)) pa_nil)) (pg_name (i := 4) nd rfl (Or.inl rfl)) (pss_one (ps_if (pt_cmpR op_eq (pe_ix ix_tup (pe_ix ix_list (pv 1) (pv 3) (fun _ _ => rfl)) (pv 4) (fun _ _ => rfl)) (pv 0) (nomark _)) (pss_one (ps_ret (pe_tup (pa_cons pe_str (pa_cons (pv 3) (pa_cons (pv 4) pa_nil)))))) pss_nil)))))
      (pss_cons (ps_if (pt_cmpR op_in_seq (pv 0) (pv 2) (by rfl)) (pss_one (ps_ret (pe_tup (pa_cons pe_str (pa_cons (pv 0) pa_nil))))) pss_nil)
      (pss_one (ps_ret (pe_tup (pa_cons pe_str (pa_cons (pv 0) pa_nil))))))), ?_⟩
    rw [show L2.start N_law_place [T a, .ref D, .ref tS] = [some (T a), some (.ref D), some (.ref tS), none, none] from rfl]
    walk_at "rdc"
    refine for_R (fun i σ' H' => ∃ x y : Option V, σ' = [some (T a), some (.ref D), some (.ref tS), x, y] ∧ Same H H' ∧ plcT a sl 0 sc = plcT a sl i (sc.drop i)) (by omega) (by omega) ⟨none, none, rfl, fun _ _ h => h, rfl⟩ ?_ ?_
    · rintro i σ' H1 hi ⟨x, y, rfl, s1, e1⟩
      have i0 : (0 : Int) + (i : Int) = (i : Int) := Int.zero_add _
      have hix : i < xv.length := by omega
      obtain ⟨q, s, hv, hsc, hq⟩ := hSc.get (List.getElem?_eq_getElem hix)
      have hv2 : xv[i]? = some (.ref q) := by rw [List.getElem?_eq_getElem hix, hv]
      have hsl := hb s (List.mem_of_getElem? hsc)
      have ed : sc.drop i = s :: sc.drop (i + 1) := by
        obtain ⟨hlt, e⟩ := List.getElem?_eq_some_iff.mp hsc
        rw [List.drop_eq_getElem_cons hlt, e]
      rw [i0]
      walk_at "rdc"
      refine w_ixL (SqL.of (s1 _ _ hD)) (atI_nat hv2) ?_
      walk_at "rdc"
      refine w_lenT (hq.same s1).sq ?_
      rw [List.length_map]
      refine for_R (fun k σ' H' => ∃ y : Option V, σ' = [some (T a), some (.ref D), some (.ref tS), some (.int (i : Int)), y] ∧ Same H H' ∧ a ∉ s.take k) (by omega) (by omega) ⟨y, rfl, s1, by rw [List.take_zero]; exact List.not_mem_nil⟩ ?_ ?_
      · rintro k σ' H2 hk ⟨y, rfl, s2, hn⟩
        have k0 : (0 : Int) + (k : Int) = (k : Int) := Int.zero_add _
        have hk2 : k < s.length := by omega
        have gk : s[k]? = some s[k] := List.getElem?_eq_getElem hk2
        rw [k0]
        walk_at "rdc"
        refine w_ixL (SqL.of (s2 _ _ hD)) (atI_nat hv2) ?_
        walk_at "rdc"
        refine w_ixT (hq.same s2).sq (atI_nat (by rw [List.getElem?_map, gk]; rfl)) ?_
        walk_at "rdc"
        refine w_ifT (fun he => ?_) (fun he => ?_)
        · walk_at "rdc"
          refine n_tup (K := K) (.cons .s (.cons .i (.cons .i .nil))) (by show 3 ≤ 1000000; decide) fun p H3 hp s3 h3 => ?_
          refine kQ p H3 (s2.trans s3) ?_
          have hin : a ∈ s := by rw [← he]; exact List.getElem_mem hk2
          have hix2 : s.idxOf a = k := by
            have h1 : ¬ k < s.idxOf a := fun hlt => by
              have := List.not_of_lt_findIdx (p := (· == a)) (xs := s) (i := k) hlt
              rw [he] at this
              simp at this
            have h2 : ¬ s.idxOf a < k := fun hlt => hn (by
              have hl2 := List.idxOf_lt_length_of_mem hin
              rw [List.mem_take_iff_getElem]
              exact ⟨s.idxOf a, by omega, List.getElem_idxOf hl2⟩)
            omega
          rw [e1, ed]
          show TrAt K H3 (.ref p) (if a ∈ s then .t [str "local", .i (i : Int), .i ((s.idxOf a : Nat) : Int)] else plcT a sl (i + 1) (sc.drop (i + 1)))
          rw [if_pos hin, hix2]
          exact h3
        · refine ⟨_, rfl, s2, fun hm => ?_⟩
          rw [List.take_succ_eq_append_getElem hk2, List.mem_append, List.mem_singleton] at hm
          exact hm.elim hn fun e => he e.symm
      · rintro σ' H2 ⟨y, rfl, s2, hn⟩
        rw [Int.toNat_natCast, List.take_length] at hn
        refine ⟨_, _, rfl, s2, ?_⟩
        rw [e1, ed]
        show (if a ∈ s then _ else plcT a sl (i + 1) (sc.drop (i + 1))) = _
        rw [if_neg hn]
    · rintro σ' H1 ⟨x, y, rfl, s1, e1⟩
      rw [Int.toNat_natCast, hxl, List.drop_length] at e1
      walk_at "rdc"
      refine w_inT (Same.sqT s1 hT) ?_
      refine ⟨_, rfl, ?_⟩
      have e2 : plcT a sl 0 sc = if a ∈ sl then .t [str "slot", .s a] else .t [str "global", .s a] := e1
      refine w_if (fun hin => ?_) (fun hin => ?_)
      · walk_at "rdc"
        refine n_tup (K := K) (.cons .s (.cons .s .nil)) (by show 2 ≤ 1000000; decide) fun p H3 hp s3 h3 => ?_
        refine kQ p H3 (s1.trans s3) ?_
        rw [e2, if_pos hin]
        exact h3
      · walk_at "rdc"
        refine n_tup (K := K) (.cons .s (.cons .s .nil)) (by show 2 ≤ 1000000; decide) fun p H3 hp s3 h3 => ?_
        refine kQ p H3 (s1.trans s3) ?_
        rw [e2, if_neg hin]
        exact h3
/-- a part's rows -/
def spRws (K : PySem.W.Frag) (sh : Nat → Tr → Nat → Prop) (n : Nat) : Sp := fun vs H Q _ => ∃ (v : V) (t : Tr) (m : Nat) (D tS : Addr) (sc : List Ws) (sl : Ws) (ow : List Nat), vs = [v, .ref D, .ref tS, T ow] ∧ TrB K H v t ∧ sh n t m ∧ ScC K H D tS sc sl ∧ (m ≤ 60000 ∧ sc.length + n ≤ 500 ∧ scB sc) ∧ ∀ q H', H q = none → Same H H' → RwAt K H' q (rX sl ow n sc t) → Q (.ref q) H'
def spRwL (K : PySem.W.Frag) (n : Nat) : Sp := fun vs H Q _ => ∃ (v : V) (l : List Tr) (m : Nat) (D tS : Addr) (sc : List Ws) (sl : Ws) (ow : List Nat), vs = [v, .ref D, .ref tS, T ow] ∧ (∃ p xs, v = .ref p ∧ SqT K H p xs ∧ TrsB K H xs l) ∧ XL (XP n) l m ∧ ScC K H D tS sc sl ∧ (m ≤ 60000 ∧ sc.length + n ≤ 500 ∧ scB sc) ∧ ∀ q H', H q = none → Same H H' → RwAt K H' q (l.flatMap (rX sl ow n sc)) → Q (.ref q) H'
abbrev s_law_all : Stmt := topS 28
abbrev N_law_all : List Str := ["trees", "scopes", "fields", "cls", "rows", "tree"]
theorem sc_law_all : FnScope N_law_all ["trees", "scopes", "fields", "cls"] (defScope s_law_all) := ⟨rfl, rfl, rfl, by decide +kernel, rfl, by decide +kernel, by decide +kernel⟩
theorem ok_law_all {f : Addr} {fd : FuncData} (F : Fun K "_law_all" "_law_all" s_law_all f fd) (c_law_rows : Cal P w K mg base k "_law_rows" (spRws K XP n) []) : FnOk P w K mg base CX0 (k + 1) f fd ["trees", "scopes", "fields", "cls"] (spRwL K n) := by
  refine F.ok sc_law_all (fun vs H Q E h => ?_) (fun cdv A outer s H vs Q E hr h => ?_)
  · obtain ⟨v, l, m, D, tS, sc, sl, ow, rfl, _⟩ := h
    rfl
  · obtain ⟨v, l, m, D, tS, sc, sl, ow, rfl, ⟨p, xs, rfl, hp, hxs⟩, hL, hC, ⟨b1, b2, b3⟩, kQ⟩ := h
    have nd := sc_law_all.nd
    refine ⟨_, (pss_cons (ps_set (i := 4) nd rfl (Or.inl rfl) (pe_lst pa_nil))
      (pss_cons (ps_for PassesOwn.never rfl (pi_tup (pv 0)) (pg_name (i := 5) nd rfl (Or.inl rfl)) (pss_one (ps_set (i := 4) nd rfl (Or.inl rfl) (pe_op op_cat (pv 4) (pe_c c_law_rows hr (by omega) rfl (pa_cons (pv 5) (pa_cons (pv 1) (pa_cons (pv 2) (pa_cons (pv 3) pa_nil)))))))))
      (pss_one (ps_ret (pv 4))))), ?_⟩
    rw [show L2.start N_law_all [.ref p, .ref D, .ref tS, T ow] = [some (.ref p), some (.ref D), some (.ref tS), some (T ow), none, none] from rfl]
    walk_at "rdc"
    refine n_lst (K := K) .nil (by show 0 ≤ 1000000; decide) fun q0 H0 n0 s0 r0 => ?_
    walk_at "rdc"
    refine for_T (xs := xs) (fun i σ' H' => ∃ (q : Addr) (x : Option V), σ' = [some (.ref p), some (.ref D), some (.ref tS), some (T ow), some (.ref q), x] ∧ H q = none ∧ Same H H' ∧ RwAt K H' q ((l.take i).flatMap (rX sl ow n sc))) ⟨q0, none, rfl, n0, s0, r0⟩ (fun i σ' H' _ h => h.elim fun q h => h.elim fun x h => Same.sqT h.2.2.1 hp) ?_ ?_
    · rintro i v σ' H1 hv ⟨q, x, rfl, nq, s1, r1⟩
      have hil : i < l.length := by rw [← hxs.length]; exact (List.getElem?_eq_some_iff.mp hv).1
      obtain ⟨v', t, h1, h2, hvt⟩ := hxs.get hil
      rw [hv] at h1
      cases h1
      obtain ⟨t', m1, m2, h3, h4, h5, h6⟩ := hL.at i hil
      rw [h2] at h3
      cases h3
      have z1 := h5.rlP (sl := sl) (ow := ow) (sc := sc)
      have z2 := h4.rl (sl := sl) (ow := ow) (sc := sc)
      walk_at "rdc"
      refine ⟨v, t, m2, D, tS, sc, sl, ow, rfl, hvt.same s1, h4, hC.same s1, ⟨by omega, b2, b3⟩, fun q2 H2 n2 s2 r2 => ?_⟩
      refine rw_cat (r1.same s2) r2 (by omega) fun q3 H3 n3 s3 r3 => ?_
      walk_at "rdc"
      refine ⟨q3, _, rfl, ((s1.trans s2).free n3), (s1.trans s2).trans s3, ?_⟩
      obtain ⟨hlt, e⟩ := List.getElem?_eq_some_iff.mp h2
      rw [List.take_succ_eq_append_getElem hlt, e, List.flatMap_append, List.flatMap_singleton]
      exact r3
    · rintro σ' H1 ⟨q, x, rfl, nq, s1, r1⟩
      rw [hxs.length, List.take_length] at r1
      walk_at "rdc"
      exact kQ q H1 nq s1 r1
abbrev s_law_truth_rows : Stmt := topS 30
abbrev N_law_truth_rows : List Str := ["kind", "one", "two", "last"]
theorem sc_law_truth_rows : FnScope N_law_truth_rows ["kind", "one", "two"] (defScope s_law_truth_rows) := ⟨rfl, rfl, rfl, by decide +kernel, rfl, by decide +kernel, by decide +kernel⟩
def truO (k : List Nat) (R1 R2 : List Tr) : List Tr := if k = cds "and" then R1 ++ [tO "unless"] ++ (R2 ++ truR) else R1 ++ [tO "unless", .t [str "push", .b true], tO "jump"] ++ (R2 ++ truR)
def spTruR (K : PySem.W.Frag) : Sp := fun vs H Q _ => ∃ (k : List Nat) (a b : Addr) (R1 R2 : List Tr), vs = [T k, .ref a, .ref b] ∧ RwAt K H a R1 ∧ RwAt K H b R2 ∧ R1.length + R2.length ≤ 900000 ∧ ∀ q H', H q = none → Same H H' → RwAt K H' q (truO k R1 R2) → Q (.ref q) H'
theorem ok_law_truth_rows {f : Addr} {fd : FuncData} (F : Fun K "_law_truth_rows" "_law_truth_rows" s_law_truth_rows f fd) : FnOk P w K mg base CX0 1 f fd ["kind", "one", "two"] (spTruR K) := by
  refine F.ok sc_law_truth_rows (fun vs H Q E h => ?_) (fun cdv A outer s H vs Q E hr h => ?_)
  · obtain ⟨k, a, b, R1, R2, rfl, _⟩ := h
    rfl
  · obtain ⟨k, a, b, R1, R2, rfl, ha, hb, hl, kQ⟩ := h
    have nd := sc_law_truth_rows.nd
    refine ⟨_, (pss_cons (ps_set (i := 3) nd rfl (Or.inl rfl) (pe_op op_cat (pv 2) (pe_lst (pa_cons (pe_tup (pa_cons pe_str pa_nil)) (pa_cons (pe_tup (pa_cons pe_str (pa_cons pe_bl pa_nil))) (pa_cons (pe_tup (pa_cons pe_str pa_nil)) (pa_cons (pe_tup (pa_cons pe_str (pa_cons pe_bl pa_nil))) pa_nil)))))))
      (pss_cons (ps_if (pt_cmpR op_eq (pv 0) pe_str (nomark _)) (pss_one (ps_ret (pe_op op_cat (pe_op op_cat (pv 1) (pe_lst (pa_cons (pe_tup (pa_cons pe_str pa_nil)) pa_nil))) (pv 3)))) pss_nil)
      (pss_one (ps_ret (pe_op op_cat (pe_op op_cat (pv 1) (pe_lst (pa_cons (pe_tup (pa_cons pe_str pa_nil)) (pa_cons (pe_tup (pa_cons pe_str (pa_cons pe_bl pa_nil))) (pa_cons (pe_tup (pa_cons pe_str pa_nil)) pa_nil))))) (pv 3)))))), ?_⟩
    rw [show L2.start N_law_truth_rows [T k, .ref a, .ref b] = [some (T k), some (.ref a), some (.ref b), none] from rfl]
    walk_at "rdc"
    refine n_tup (K := K) (.cons .s .nil) (by show 1 ≤ 1000000; decide) fun q1 H1 n1 s1 t1 => ?_
    walk_at "rdc"
    refine n_tup (K := K) (.cons .s (.cons .b .nil)) (by show 2 ≤ 1000000; decide) fun q2 H2 n2 s2 t2 => ?_
    walk_at "rdc"
    refine n_tup (K := K) (.cons .s .nil) (by show 1 ≤ 1000000; decide) fun q3 H3 n3 s3 t3 => ?_
    walk_at "rdc"
    refine n_tup (K := K) (.cons .s (.cons .b .nil)) (by show 2 ≤ 1000000; decide) fun q4 H4 n4 s4 t4 => ?_
    walk_at "rdc"
    refine n_lst (K := K) (.cons (t1.same ((s2.trans s3).trans s4)) (.cons (t2.same (s3.trans s4)) (.cons (t3.same s4) (.cons t4 .nil)))) (by show 4 ≤ 1000000; decide) fun q5 H5 n5 s5 r5 => ?_
    have s15 := (((s1.trans s2).trans s3).trans s4).trans s5
    refine rw_cat (hb.same s15) r5 (by show _ + 4 ≤ _; omega) fun q6 H6 n6 s6 r6 => ?_
    have s16 := s15.trans s6
    have h4 : truR.length = 4 := rfl
    walk_at "rdc"
    refine w_ifT (fun he => ?_) (fun he => ?_)
    · walk_at "rdc"
      refine n_tup (K := K) (.cons .s .nil) (by show 1 ≤ 1000000; decide) fun q7 H7 n7 s7 t7 => ?_
      walk_at "rdc"
      refine n_lst (K := K) (.cons t7 .nil) (by show 1 ≤ 1000000; decide) fun q8 H8 n8 s8 r8 => ?_
      have s18 := (s16.trans s7).trans s8
      refine rw_cat (ha.same s18) r8 (by show _ + 1 ≤ _; omega) fun q9 H9 n9 s9 r9 => ?_
      walk_at "rdc"
      refine rw_cat r9 (((r6.same s7).same s8).same s9) (by rw [List.length_append, List.length_append]; show _ + 1 + (_ + 4) ≤ _; omega) fun qa Ha na sa ra => ?_
      refine kQ qa Ha ((s18.trans s9).free na) ((s18.trans s9).trans sa) ?_
      unfold truO
      rw [if_pos (show k = cds "and" from he)]
      exact ra
    · walk_at "rdc"
      refine n_tup (K := K) (.cons .s .nil) (by show 1 ≤ 1000000; decide) fun q7 H7 n7 s7 t7 => ?_
      walk_at "rdc"
      refine n_tup (K := K) (.cons .s (.cons .b .nil)) (by show 2 ≤ 1000000; decide) fun qx Hx nx sx tx => ?_
      walk_at "rdc"
      refine n_tup (K := K) (.cons .s .nil) (by show 1 ≤ 1000000; decide) fun qy Hy ny sy ty => ?_
      walk_at "rdc"
      refine n_lst (K := K) (.cons (t7.same (sx.trans sy)) (.cons (tx.same sy) (.cons ty .nil))) (by show 3 ≤ 1000000; decide) fun q8 H8 n8 s8 r8 => ?_
      have s78 := (s7.trans (sx.trans sy)).trans s8
      have s18 := s16.trans s78
      refine rw_cat (ha.same s18) r8 (by show _ + 3 ≤ _; omega) fun q9 H9 n9 s9 r9 => ?_
      walk_at "rdc"
      refine rw_cat r9 ((r6.same s78).same s9) (by rw [List.length_append, List.length_append]; show _ + 3 + (_ + 4) ≤ _; omega) fun qa Ha na sa ra => ?_
      refine kQ qa Ha ((s18.trans s9).free na) ((s18.trans s9).trans sa) ?_
      unfold truO
      rw [if_neg (show ¬ k = cds "and" from he)]
      exact ra
end
end
section
/-! The law's rows of a method's parts. -/
open PySem PySem.Spec PyProof.Rows L2
open C8 (Cal cal0 pe_c pe_gc pss_cut tCut)

local macro_rules | `(tactic| walk_at "kd") => `(tactic| repeat (first
  | walk_at "r1c"
  | with_reducible refine c_if_Te (by with_unfolding_all decide +kernel) ?_
  | with_reducible refine c_if_Tn (by with_unfolding_all decide +kernel) ?_))
/-- the first n of a list's rows -/
theorem trs_take {K : PySem.W.Frag} {H : Hp} : ∀ {vs : List V} {l : List Tr} (n : Nat), TrsAt K H vs l → TrsAt K H (vs.take n) (l.take n)
  | _, _, 0, _ => .nil
  | _, _, n + 1, .nil => .nil
  | _, _, n + 1, .cons a b => .cons a (trs_take n b)
theorem cut_upto (xs : List V) (n : Nat) : cutV xs none (some (n : Int)) = xs.take n := by
  unfold cutV
  have e1 : HT.sIx xs.length xs.length (some (n : Int)) = min n xs.length := by
    show (if (n : Int) < 0 then ((n : Int) + (xs.length : Int)).toNat else min (n : Int).toNat xs.length) = _
    rw [if_neg (by omega), Int.toNat_natCast]
  have e2 : HT.sIx xs.length 0 none = 0 := rfl
  rw [e1, e2, List.drop_zero, Nat.sub_zero]
  by_cases h : n ≤ xs.length
  · rw [Nat.min_eq_left h]
  · rw [Nat.min_eq_right (by omega), List.take_length, List.take_of_length_le (by omega)]
theorem w_slL {K : PySem.W.Frag} {H : Hp} {Q : VK} {a : Addr} {xs : List V} {n : Nat} (h : SqL K H a xs) (k : ∀ p H', H p = none → Same H H' → H' p = some (.lst (xs.take n)) → Q (.ref p) H') : rSlL K (.ref a) none (some (n : Int)) H Q :=
  ⟨a, xs, rfl, h, fun p hp => k p _ hp (same_new0 hp) (by rw [upd_same, cut_upto])⟩
section
variable {P : Program} {w : World} {K : PySem.W.Frag} {mg : Str → Option Value} {base : Heap} {k n : Nat}
abbrev s_law_try_rows : Stmt := topS 32
abbrev N_law_try_rows : List Str := ["tree", "scopes", "fields", "cls", "one", "two"]
theorem sc_law_try_rows : FnScope N_law_try_rows ["tree", "scopes", "fields", "cls"] (defScope s_law_try_rows) := ⟨rfl, rfl, rfl, by decide +kernel, rfl, by decide +kernel, by decide +kernel⟩
theorem ok_law_try_rows {f : Addr} {fd : FuncData} (F : Fun K "_law_try_rows" "_law_try_rows" s_law_try_rows f fd) (Y : Bn mg) (hk : 1 ≤ k) (c_law_all : Cal P w K mg base k "_law_all" (spRwL K n) []) (c_law_place : Cal P w K mg base 1 "_law_place" (spLPl K) [])  : FnOk P w K mg base CX0 (k + 1) f fd ["tree", "scopes", "fields", "cls"] (spRws K shTry (n + 1)) := by
  refine F.ok sc_law_try_rows (fun vs H Q E h => ?_) (fun cdv A outer s H vs Q E hr h => ?_)
  · obtain ⟨v, t, m, D, tS, sc, sl, ow, rfl, _⟩ := h
    rfl
  · obtain ⟨v, t, m, D, tS, sc, sl, ow, rfl, hv, ⟨⟨w, ns, x, hp, rfl⟩, hh⟩, hC, ⟨b1, b2, b3⟩, kQ⟩ := h
    have nd := sc_law_try_rows.nd
    refine ⟨_, (pss_cons (ps_set (i := 4) nd rfl (Or.inl rfl) (pe_c c_law_all hr (by omega) rfl (pa_cons (pe_ix ix_tup (pv 0) pe_int (fun _ _ => rfl)) (pa_cons (pv 1) (pa_cons (pv 2) (pa_cons (pv 3) pa_nil))))))
      (pss_cons (ps_set (i := 5) nd rfl (Or.inl rfl) (pe_c c_law_all hr (by omega) rfl (pa_cons (pe_ix ix_tup (pv 0) pe_int (fun _ _ => rfl)) (pa_cons (pv 1) (pa_cons (pv 2) (pa_cons (pv 3) pa_nil))))))
      (pss_one (ps_ret (pe_op op_cat (pe_op op_cat (pe_op op_cat (pe_lst (pa_cons (pe_tup (pa_cons pe_str pa_nil)) pa_nil)) (pv 4)) (pe_lst (pa_cons (pe_tup (pa_cons pe_str pa_nil)) (pa_cons (pe_tup (pa_cons pe_str pa_nil)) (pa_cons (pe_tup (pa_cons pe_str (pa_cons (pe_c c_law_place hr (by omega) rfl (pa_cons (pe_ix ix_tup (pv 0) pe_int (fun _ _ => rfl)) (pa_cons (pv 1) (pa_cons (pv 2) pa_nil)))) pa_nil))) pa_nil))))) (pv 5)))))), ?_⟩
    rw [show L2.start N_law_try_rows [v, .ref D, .ref tS, T ow] = [some v, some (.ref D), some (.ref tS), some (T ow), none, none] from rfl]
    cases hp with
    | try_ pb na pc =>
      obtain ⟨p, y, z, u, rfl, hq, hy, hz, hu⟩ := hv.e4
      cases hz.sE
      obtain ⟨m2, hs2, hm2⟩ := pb.xl
      obtain ⟨m3, hs3, hm3⟩ := pc.xl
      simp only [List.length_append, List.length_cons, List.length_nil] at b1
      have hs2 := hs2.map (q := XP n) fun _ _ h => Or.inr h
      have hs3 := hs3.map (q := XP n) fun _ _ h => Or.inr h
      have z2 := hs2.rlP (sl := sl) (ow := ow) (sc := sc)
      have z3 := hs3.rlP (sl := sl) (ow := ow) (sc := sc)
      walk_at "kd"
      obtain ⟨pz1, xz1, ez1, hz1, hy1, _⟩ := hy.tupV
      refine ⟨y, _, m2, D, tS, sc, sl, ow, rfl, ⟨pz1, xz1, ez1, hz1, hy1⟩, hs2, hC, ⟨by omega, by omega, b3⟩, fun q1 H1 n1 s1 r1 => ?_⟩
      have hC := hC.same s1
      have hq := Same.sqT s1 hq
      have hy := hy.same s1
      have hu := hu.same s1
      have SS := s1
      walk_at "kd"
      obtain ⟨pz2, xz2, ez2, hz2, hy2, _⟩ := hu.tupV
      refine ⟨u, _, m3, D, tS, sc, sl, ow, rfl, ⟨pz2, xz2, ez2, hz2, hy2⟩, hs3, hC, ⟨by omega, by omega, b3⟩, fun q2 H2 n2 s2 r2 => ?_⟩
      have hC := hC.same s2
      have hq := Same.sqT s2 hq
      have hy := hy.same s2
      have hu := hu.same s2
      have r1 := r1.same s2
      have SS := SS.trans s2
      walk_at "kd"
      refine n_tup (K := K) (.cons .s .nil) (by show 1 ≤ 1000000; decide) fun q3 H3 n3 s3 r3 => ?_
      have hC := hC.same s3
      have hq := Same.sqT s3 hq
      have hy := hy.same s3
      have hu := hu.same s3
      have r1 := r1.same s3
      have r2 := r2.same s3
      have SS := SS.trans s3
      walk_at "kd"
      refine n_lst (K := K) (.cons r3 .nil) (by show 1 ≤ 1000000; decide) fun q4 H4 n4 s4 r4 => ?_
      have hC := hC.same s4
      have hq := Same.sqT s4 hq
      have hy := hy.same s4
      have hu := hu.same s4
      have r1 := r1.same s4
      have r2 := r2.same s4
      have r3 := r3.same s4
      have SS := SS.trans s4
      walk_at "kd"
      refine rw_cat r4 r1 (by first | omega | (simp only [List.length_append, List.length_cons, List.length_nil]; omega)) fun q5 H5 n5 s5 r5 => ?_
      have N5 := (SS.free n5)
      have hC := hC.same s5
      have hq := Same.sqT s5 hq
      have hy := hy.same s5
      have hu := hu.same s5
      have r1 := r1.same s5
      have r2 := r2.same s5
      have r3 := r3.same s5
      have r4 := r4.same s5
      have SS := SS.trans s5
      walk_at "kd"
      refine n_tup (K := K) (.cons .s .nil) (by show 1 ≤ 1000000; decide) fun q6 H6 n6 s6 r6 => ?_
      have hC := hC.same s6
      have hq := Same.sqT s6 hq
      have hy := hy.same s6
      have hu := hu.same s6
      have r1 := r1.same s6
      have r2 := r2.same s6
      have r3 := r3.same s6
      have r4 := r4.same s6
      have r5 := r5.same s6
      have SS := SS.trans s6
      walk_at "kd"
      refine n_tup (K := K) (.cons .s .nil) (by show 1 ≤ 1000000; decide) fun q7 H7 n7 s7 r7 => ?_
      have hC := hC.same s7
      have hq := Same.sqT s7 hq
      have hy := hy.same s7
      have hu := hu.same s7
      have r1 := r1.same s7
      have r2 := r2.same s7
      have r3 := r3.same s7
      have r4 := r4.same s7
      have r5 := r5.same s7
      have r6 := r6.same s7
      have SS := SS.trans s7
      walk_at "kd"
      refine ⟨_, D, tS, sc, sl, rfl, hC, by omega, b3, fun q8 H8 s8 r8 => ?_⟩
      have hC := hC.same s8
      have hq := Same.sqT s8 hq
      have hy := hy.same s8
      have hu := hu.same s8
      have r1 := r1.same s8
      have r2 := r2.same s8
      have r3 := r3.same s8
      have r4 := r4.same s8
      have r5 := r5.same s8
      have r6 := r6.same s8
      have r7 := r7.same s8
      have SS := SS.trans s8
      walk_at "kd"
      refine n_tup (K := K) (.cons .s (.cons r8 .nil)) (by show 2 ≤ 1000000; decide) fun q9 H9 n9 s9 r9 => ?_
      have hC := hC.same s9
      have hq := Same.sqT s9 hq
      have hy := hy.same s9
      have hu := hu.same s9
      have r1 := r1.same s9
      have r2 := r2.same s9
      have r3 := r3.same s9
      have r4 := r4.same s9
      have r5 := r5.same s9
      have r6 := r6.same s9
      have r7 := r7.same s9
      have r8 := r8.same s9
      have SS := SS.trans s9
      walk_at "kd"
      refine n_lst (K := K) (.cons r6 (.cons r7 (.cons r9 .nil))) (by show 3 ≤ 1000000; decide) fun q10 H10 n10 s10 r10 => ?_
      have hC := hC.same s10
      have hq := Same.sqT s10 hq
      have hy := hy.same s10
      have hu := hu.same s10
      have r1 := r1.same s10
      have r2 := r2.same s10
      have r3 := r3.same s10
      have r4 := r4.same s10
      have r5 := r5.same s10
      have r6 := r6.same s10
      have r7 := r7.same s10
      have r8 := r8.same s10
      have r9 := r9.same s10
      have SS := SS.trans s10
      walk_at "kd"
      refine rw_cat r5 r10 (by first | omega | (simp only [List.length_append, List.length_cons, List.length_nil]; omega)) fun q11 H11 n11 s11 r11 => ?_
      have N11 := (SS.free n11)
      have hC := hC.same s11
      have hq := Same.sqT s11 hq
      have hy := hy.same s11
      have hu := hu.same s11
      have r1 := r1.same s11
      have r2 := r2.same s11
      have r3 := r3.same s11
      have r4 := r4.same s11
      have r5 := r5.same s11
      have r6 := r6.same s11
      have r7 := r7.same s11
      have r8 := r8.same s11
      have r9 := r9.same s11
      have r10 := r10.same s11
      have SS := SS.trans s11
      walk_at "kd"
      refine rw_cat r11 r2 (by first | omega | (simp only [List.length_append, List.length_cons, List.length_nil]; omega)) fun q12 H12 n12 s12 r12 => ?_
      have N12 := (SS.free n12)
      have hC := hC.same s12
      have hq := Same.sqT s12 hq
      have hy := hy.same s12
      have hu := hu.same s12
      have r1 := r1.same s12
      have r2 := r2.same s12
      have r3 := r3.same s12
      have r4 := r4.same s12
      have r5 := r5.same s12
      have r6 := r6.same s12
      have r7 := r7.same s12
      have r8 := r8.same s12
      have r9 := r9.same s12
      have r10 := r10.same s12
      have r11 := r11.same s12
      have SS := SS.trans s12
      walk_at "kd"
      exact kQ q12 H12 N12 SS (RwAt.eq (rd_try (rX sl ow n) sl ow sc _ _ _) r12)
    | gf hg pe => rcases hg with rfl | rfl <;> exact (hd_no (by decide +kernel) hh).elim
    | _ => exact (hd_no (by decide +kernel) hh).elim
abbrev s_law_block_rows : Stmt := topS 29
abbrev N_law_block_rows : List Str := ["tree", "scopes", "fields", "cls", "rows"]
theorem sc_law_block_rows : FnScope N_law_block_rows ["tree", "scopes", "fields", "cls"] (defScope s_law_block_rows) := ⟨rfl, rfl, rfl, by decide +kernel, rfl, by decide +kernel, by decide +kernel⟩
theorem ok_law_block_rows {f : Addr} {fd : FuncData} (F : Fun K "_law_block_rows" "_law_block_rows" s_law_block_rows f fd) (Y : Bn mg) (hk : 1 ≤ k) (c_law_all : Cal P w K mg base k "_law_all" (spRwL K n) [])  : FnOk P w K mg base CX0 (k + 1) f fd ["tree", "scopes", "fields", "cls"] (spRws K shBlk (n + 1)) := by
  refine F.ok sc_law_block_rows (fun vs H Q E h => ?_) (fun cdv A outer s H vs Q E hr h => ?_)
  · obtain ⟨v, t, m, D, tS, sc, sl, ow, rfl, _⟩ := h
    rfl
  · obtain ⟨v, t, m, D, tS, sc, sl, ow, rfl, hv, ⟨⟨lv, w, ns, x, hp, rfl⟩, hh⟩, hC, ⟨b1, b2, b3⟩, kQ⟩ := h
    have nd := sc_law_block_rows.nd
    refine ⟨_, (pss_cons (ps_set (i := 4) nd rfl (Or.inl rfl) (pe_c c_law_all hr (by omega) rfl (pa_cons (pe_ix ix_tup (pv 0) pe_int (fun _ _ => rfl)) (pa_cons (pe_op op_cat (pe_lst (pa_cons (pe_ix ix_tup (pv 0) pe_int (fun _ _ => rfl)) pa_nil)) (pv 1)) (pa_cons (pv 2) (pa_cons (pv 3) pa_nil))))))
      (pss_cut (ps_if (PW.pt (pw_and (pt_tru (pe_ix ix_tup (pv 0) pe_int (fun _ _ => rfl))) (pw_and1 (pt_cmpR op_eq (pe_ix ix_tup (pe_ix ix_tup (pe_ix ix_tup (pv 0) pe_int (fun _ _ => rfl)) (pe_op op_sub (pe_callB call_lenL (by rfl) Y.n_len (by decide +kernel) (pa_cons (pe_ix ix_tup (pv 0) pe_int (fun _ _ => rfl)) pa_nil)) pe_int) (fun _ _ => rfl)) pe_int (fun _ _ => rfl)) pe_str (nomark _))))) (pss_one (ps_set (i := 4) nd rfl (Or.inl rfl) (pe_op op_cat (pe_slice sl_list (pv 4) po_none (po_some (pe_op op_sub (pe_callB call_lenL (by rfl) Y.n_len (by decide +kernel) (pa_cons (pv 4) pa_nil)) pe_int))) (pe_lst (pa_cons (pe_tup (pa_cons pe_str pa_nil)) pa_nil))))) (pss_one (ps_set (i := 4) nd rfl (Or.inl rfl) (pe_op op_cat (pv 4) (pe_lst (pa_cons (pe_tup (pa_cons pe_str (pa_cons pe_non pa_nil))) (pa_cons (pe_tup (pa_cons pe_str pa_nil)) pa_nil)))))))
      (pss_one (ps_ret (pe_op op_cat (pe_op op_cat (pe_lst (pa_cons (pe_tup (pa_cons pe_str (pa_cons (pe_callB call_lenL (by rfl) Y.n_len (by decide +kernel) (pa_cons (pe_ix ix_tup (pv 0) pe_int (fun _ _ => rfl)) pa_nil)) pa_nil))) pa_nil)) (pv 4)) (pe_lst (pa_cons (pe_tup (pa_cons pe_str pa_nil)) pa_nil))))))), ?_⟩
    rw [show L2.start N_law_block_rows [v, .ref D, .ref tS, T ow] = [some v, some (.ref D), some (.ref tS), some (T ow), none] from rfl]
    suffices go : ∀ (ps l : List Tr) (m2 : Nat), t = .t [str "block", .t ps, .t l] → XL (XS n) l m2 → m2 ≤ 60000 → ps.length ≤ 4 → _ by
      cases hp with
      | blk0 pb =>
        obtain ⟨m2, hs2, hm2⟩ := pb.xl
        simp only [List.length_append, List.length_cons, List.length_nil] at b1
        exact go _ _ m2 rfl hs2 (by omega) (by show 0 ≤ 4; omega)
      | blk h0 h4 hn pb =>
        obtain ⟨m2, hs2, hm2⟩ := pb.xl
        simp only [List.length_append, List.length_cons, List.length_nil] at b1
        exact go _ _ m2 rfl hs2 (by omega) (by rw [List.length_map]; exact h4)
      | @bin _ _ sg t1 t2 _ _ _ _ _ _ ha hb pe1 pe2 =>
        unfold binT at hh
        split at hh
        · next h => rcases h with rfl | rfl <;> exact (hd_no (by decide +kernel) hh).elim
        · exact (hd_no (by decide +kernel) hh).elim
      | _ => exact (hd_no (by decide +kernel) hh).elim
    intro ps l m2 et hs2 hm2 hps
    clear hp
    subst et
    obtain ⟨p, q, u, ws, rfl, hq, ew, hqf, hu⟩ := hv.eBlk
    have hlen : ws.length = ps.length := by rw [ew, List.length_map]
    have hs3 := hs2.map (q := XP n) fun _ _ h => Or.inr h
    have z2 := hs3.rlP (sl := sl) (ow := ow) (sc := ws :: sc)
    obtain ⟨⟨xv, hD, hSc⟩, hT⟩ := id hC
    obtain ⟨pu, us, rfl, hpu, hus, _⟩ := hu.tupV
    have hlu := hus.length
    walk_at "kd"
    refine w_newL (by show 1 ≤ 1000000; decide) fun q1 H1 n1 s1 h1 => ?_
    walk_at "kd"
    refine w_cat2 h1 (s1 _ _ hD) (by rw [hSc.length]; show 1 + sc.length ≤ _; omega) fun D2 H2 n2 s2 h2 => ?_
    walk_at "kd"
    have s12 := s1.trans s2
    refine ⟨_, l, m2, D2, tS, ws :: sc, sl, ow, rfl, ⟨pu, us, rfl, Same.sqT s12 hpu, hus.same s12⟩, hs3, ⟨⟨_, h2, .cons (hqf.same s12) (hSc.sm s12)⟩, Same.sqT s12 hT⟩, ⟨by omega, by rw [List.length_cons]; omega, fun s hs => ?_⟩, fun q3 H3 n3 s3 r3 => ?_⟩
    · rcases List.mem_cons.mp hs with e | hs
      · rw [e]; omega
      · exact b3 s hs
    have s13 := s12.trans s3
    walk_at "kd"
    generalize hR : l.flatMap (rX sl ow n (ws :: sc)) = R at r3 z2
    refine ⟨fun σ' H' => ∃ q, σ' = [some (.ref p), some (.ref D), some (.ref tS), some (T ow), some (.ref q)] ∧ Same H H' ∧ RwAt K H' q (rEnd l R), ?_, ?_⟩
    · have alt : ∀ (G : Hp → Prop) , True := fun _ => True.intro
      walk_at "kd"
      refine w_ixT (Same.sqT s13 hq) (atI_nat (j := 2) rfl) ?_
      refine w_truT (Same.sqT s13 hpu) (fun hne => ?_) (fun hem => ?_)
      · walk_at "kd"
        have hl0 : l.length ≠ 0 := fun e => hne (List.length_eq_zero_iff.mp (by rw [hlu, e]))
        obtain ⟨t, ht⟩ : ∃ t, l.getLast? = some t := by
          cases e : l.getLast? with
          | some t => exact ⟨t, rfl⟩
          | none => exact absurd (by rw [List.getLast?_eq_none_iff.mp e]; rfl) hl0
        obtain ⟨j, kk, r, en, rfl⟩ := (hs2.last t ht).elim fun _ h => h.hd
        obtain ⟨v, t2, hv2, ht2, hvt⟩ := hus.get (i := l.length - 1) (by omega)
        have ht' := ht
        rw [List.getLast?_eq_getElem?] at ht
        rw [ht2] at ht
        cases ht
        obtain ⟨pv', xs, rfl, hpv, hxs, _⟩ := hvt.tupV
        obtain ⟨x1, r1, rfl, hx1, _⟩ := hxs.cE
        cases hx1.sE
        refine w_ixT (Same.sqT s13 hq) (atI_nat (j := 2) rfl) ?_
        walk_at "kd"
        refine w_ixT (Same.sqT s13 hq) (atI_nat (j := 2) rfl) ?_
        walk_at "kd"
        refine w_lenT (Same.sqT s13 hpu) ?_
        walk_at "kd"
        have eI : (us.length : Int) - 1 = ((l.length - 1 : Nat) : Int) := by omega
        rw [eI]
        refine w_ixT (Same.sqT s13 hpu) (atI_nat hv2) ?_
        walk_at "kd"
        refine w_ixT (Same.sqT s13 hpv) (atI_nat (j := 0) rfl) ?_
        walk_at "kd"
        refine w_ifT (fun hk1 => ?_) (fun hk1 => ?_)
        · have hie : isEval (.t (.s kk :: r)) = true := decide_eq_true hk1
          have h1R : 1 ≤ R.length := by
            obtain ⟨l', e⟩ := List.getLast?_eq_some_iff.mp ht'
            have hkk : kk = cds "eval" := hk1
            subst hkk
            have hRR := hR
            clear hR
            subst en
            obtain ⟨_, w', ns', x', pp, _⟩ := hs2.last _ ht'
            cases pp with
            | @eval lv _ t' w' ns' x' pe =>
              rw [← hRR, e, List.flatMap_append, List.flatMap_singleton, List.length_append]
              have e2 : rX sl ow (j + 1) (ws :: sc) (.t [str "eval", t']) = rX sl ow j (ws :: sc) t' ++ [tO "pop"] := rd_eval (rX sl ow j) sl ow (ws :: sc) t'
              have e3 : (rX sl ow (j + 1) (ws :: sc) (.t [str "eval", t'])).length = (rX sl ow j (ws :: sc) t').length + 1 := by rw [e2, List.length_append]; rfl
              have e4 : (rX sl ow (j + 1) (ws :: sc) (.t [.s (cds "eval"), t'])).length = (rX sl ow j (ws :: sc) t').length + 1 := e3
              omega
            | gf hg pe => rcases hg with h | h <;> exact absurd h (by decide +kernel)
          obtain ⟨vs3, h3v, t3⟩ := r3
          have l3 := t3.length
          walk_at "kd"
          have eJ : (vs3.length : Int) - 1 = ((R.length - 1 : Nat) : Int) := by omega
          rw [eJ]
          refine w_slL (SqL.of h3v) fun q4 H4 n4 s4 h4 => ?_
          walk_at "kd"
          refine n_tup (K := K) (.cons .s .nil) (by show 1 ≤ 1000000; decide) fun q5 H5 n5 s5 r5 => ?_
          walk_at "kd"
          refine n_lst (K := K) (.cons r5 .nil) (by show 1 ≤ 1000000; decide) fun q6 H6 n6 s6 r6 => ?_
          have r4 : RwAt K H4 q4 (R.take (R.length - 1)) := ⟨_, h4, trs_take _ (t3.same s4)⟩
          refine rw_cat ((r4.same s5).same s6) r6 (by rw [List.length_take]; show _ + 1 ≤ _; omega) fun q7 H7 n7 s7 r7 => ?_
          walk_at "kd"
          refine ⟨q7, rfl, ((s13.trans s4).trans (s5.trans s6)).trans s7, ?_⟩
          unfold rEnd
          rw [ht']
          show RwAt K H7 q7 (if isEval _ = true then _ else _)
          rw [if_pos hie]
          exact r7
        · have hie : ¬ isEval (.t (.s kk :: r)) = true := fun e => hk1 (of_decide_eq_true e)
          walk_at "kd"
          refine n_tup (K := K) (.cons .s (.cons .n .nil)) (by show 2 ≤ 1000000; decide) fun q6 H6 n6 s6 r6 => ?_
          walk_at "kd"
          refine n_tup (K := K) (.cons .s .nil) (by show 1 ≤ 1000000; decide) fun q7 H7 n7 s7 r7 => ?_
          walk_at "kd"
          refine n_lst (K := K) (.cons (r6.same s7) (.cons r7 .nil)) (by show 2 ≤ 1000000; decide) fun q8 H8 n8 s8 r8 => ?_
          refine rw_cat (((r3.same s6).same s7).same s8) r8 (by show _ + 2 ≤ _; omega) fun q9 H9 n9 s9 r9 => ?_
          walk_at "kd"
          refine ⟨q9, rfl, ((s13.trans s6).trans (s7.trans s8)).trans s9, ?_⟩
          unfold rEnd
          rw [ht']
          show RwAt K H9 q9 (if isEval _ = true then _ else _)
          rw [if_neg hie]
          exact r9
      · walk_at "kd"
        have hl0 : l = [] := List.length_eq_zero_iff.mp (by rw [← hlu, hem]; rfl)
        have ht' : l.getLast? = none := by rw [hl0]; rfl
        refine n_tup (K := K) (.cons .s (.cons .n .nil)) (by show 2 ≤ 1000000; decide) fun q6 H6 n6 s6 r6 => ?_
        walk_at "kd"
        refine n_tup (K := K) (.cons .s .nil) (by show 1 ≤ 1000000; decide) fun q7 H7 n7 s7 r7 => ?_
        walk_at "kd"
        refine n_lst (K := K) (.cons (r6.same s7) (.cons r7 .nil)) (by show 2 ≤ 1000000; decide) fun q8 H8 n8 s8 r8 => ?_
        refine rw_cat (((r3.same s6).same s7).same s8) r8 (by show _ + 2 ≤ _; omega) fun q9 H9 n9 s9 r9 => ?_
        walk_at "kd"
        refine ⟨q9, rfl, ((s13.trans s6).trans (s7.trans s8)).trans s9, ?_⟩
        unfold rEnd
        rw [ht']
        exact r9
    · rintro σ' H4 ⟨q4, rfl, s4, r4⟩
      have z4 : (rEnd l R).length ≤ 10 * m2 + 2 := by
        have : ∀ b : Bool, True := fun _ => True.intro
        unfold rEnd
        split
        · split
          · rw [List.length_append, List.length_take]; show _ + 1 ≤ _; omega
          · rw [List.length_append]; show _ + 2 ≤ _; omega
        · rw [List.length_append]; show _ + 2 ≤ _; omega
      walk_at "kd"
      refine w_ixT (Same.sqT s4 hq) (atI_nat (j := 1) rfl) ?_
      walk_at "kd"
      refine w_lenT (hqf.same s4).sq ?_
      rw [List.length_map]
      walk_at "kd"
      refine n_tup (K := K) (.cons .s (.cons .i .nil)) (by show 2 ≤ 1000000; decide) fun q5 H5 n5 s5 r5 => ?_
      walk_at "kd"
      refine n_lst (K := K) (.cons r5 .nil) (by show 1 ≤ 1000000; decide) fun q6 H6 n6 s6 r6 => ?_
      walk_at "kd"
      refine rw_cat r6 ((r4.same s5).same s6) (by show 1 + _ ≤ _; omega) fun q7 H7 n7 s7 r7 => ?_
      walk_at "kd"
      refine n_tup (K := K) (.cons .s .nil) (by show 1 ≤ 1000000; decide) fun q8 H8 n8 s8 r8 => ?_
      walk_at "kd"
      refine n_lst (K := K) (.cons r8 .nil) (by show 1 ≤ 1000000; decide) fun q9 H9 n9 s9 r9 => ?_
      refine rw_cat ((r7.same s8).same s9) r9 (by rw [List.length_append]; show 1 + _ + 1 ≤ _; omega) fun qa Ha na sa ra => ?_
      have sS := ((s4.trans (s5.trans s6)).trans s7).trans (s8.trans s9)
      refine kQ qa Ha (sS.free na) (sS.trans sa) (RwAt.eq (rd_block (rX sl ow n) sl ow sc ps l) ?_)
      unfold rBlk
      have en : nmsT ps = ws := by rw [ew, nmsT_map]
      rw [en, hR, ← hlen]
      exact ra
end
end
section
open PySem PySem.Spec PyProof.Rows L2
open C8 (Cal cal0 pe_c pe_gc pss_cut tCut)

end
local macro_rules | `(tactic| walk_at "r1o") => `(tactic| first
  | with_reducible refine w_seq ?_
  | with_reducible refine w_next ?_
  | with_reducible refine w_var (by with_unfolding_all exact rfl) ?_
  | with_reducible refine w_asg ?_
  | with_reducible refine w_gname ?_
  | with_reducible refine w_ifS ?_
  | with_reducible refine w_test ?_
  | with_reducible refine w_tB ?_
  | with_reducible refine w_op ?_
  | with_reducible refine w_un ?_
  | with_reducible refine w_var (by with_unfolding_all exact rfl) ?_
  | with_reducible refine w_cT ?_
  | with_reducible refine w_str ?_
  | with_reducible refine w_c ?_
  | with_reducible refine w_i0 ?_
  | with_reducible refine w_intI ?_
  | with_reducible refine w_intB ?_
  | with_reducible refine w_cb ?_
  | with_reducible refine w_cons ?_
  | with_reducible refine w_nil ?_
  | with_reducible refine w_call ?_
  | with_reducible refine w_ret ?_
  | with_reducible refine w_retN ?_
  | with_reducible refine w_drop ?_
  | with_reducible refine w_gsub ?_
  | with_reducible refine w_sl ?_
  | with_reducible refine w_part ?_
  | with_reducible refine w_nopart ?_
  | with_reducible refine w_lst ?_
  | with_reducible refine w_tup ?_
  | with_reducible refine w_bm ?_
  | with_reducible refine w_bm0 ?_
  | with_reducible refine w_and ?_
  | with_reducible refine w_or ?_
  | with_reducible refine w_not ?_
  | with_reducible refine w_andV ?_
  | with_reducible refine w_orV ?_
  | with_reducible refine w_notV ?_
  | with_reducible refine w_inC ?_
  | with_reducible refine w_ninC ?_
  | with_reducible refine w_ord ?_
  | with_reducible refine w_max ?_
  | with_reducible refine w_ifE ?_
  | with_reducible refine w_forR ?_
  | with_reducible refine w_forL ?_
  | with_reducible refine w_forT ?_
  | with_reducible refine w_forS ?_
  | with_reducible refine w_eq (by with_unfolding_all exact rfl) ?_
  | with_reducible refine w_ne (by with_unfolding_all exact rfl) ?_
  | with_reducible refine ex_int ?_
  | with_reducible refine ex_bl ?_
  | ((with_reducible refine @ite_g _ _ _ _ ?_); first | with_reducible refine L2.iteF ?_ | with_reducible refine L2.iteT ?_ | with_reducible refine w_nt ?_ | with_reducible refine w_nf ?_))
local macro_rules | `(tactic| walk_at "rdo") => `(tactic| repeat walk_at "r1o")
section
open PySem PySem.Spec PyProof.Rows L2
open C8 (Cal cal0 pe_c pe_gc pss_cut tCut)

/-- the draws' state: a list of the ints, a place in it, the cell, what is left of it, a flag, what is left of the text, whether brackets are spared, the names so far -/
def StL (A : Addr) (i c k : Int) (b : Bool) (r f : Int) (L : Addr) : List V := [.ref A, .int i, .int c, .int k, .bl b, .int r, .int f, .ref L]
def StR (H : Hp) (S L : Addr) (r f : Int) : Prop := ∃ (ns : List Int) (i c k : Int) (b : Bool) (A : Addr) (pl : List (List Nat)), (f = (A : Int) ∧ A ≠ S ∧ A ≠ L) ∧ L ≠ S ∧ H A = some (.lst (ns.map V.int)) ∧ 0 ≤ i ∧ H S = some (.lst (StL A i c k b r 0 L)) ∧ H L = some (.lst (pl.map T)) ∧ (∀ x ∈ pl, IsName x) ∧ (pl.length : Int) ≤ 500 - r
theorem StR.mono {H H' : Hp} {S L : Addr} {r z : Int} (h : StR H S L r z) (f : Same H H') : StR H' S L r z := by
  obtain ⟨ns, i, c, k, b, A, pl, h1, h2, h3, h4, h5, h6, h7⟩ := h
  exact ⟨ns, i, c, k, b, A, pl, h1, h2, f _ _ h3, h4, f _ _ h5, f _ _ h6, h7⟩

theorem w_stset {H : Hp} {S : Addr} {xs : List V} {j : Int} {n : Nat} {v : V} {G : Hp → Prop} (hS : H S = some (.lst xs)) (e : ixN xs.length j = some n)
    (k : ∀ H2, H2 S = some (.lst (xs.set n v)) → Fr S H H2 → G H2) : rSetL (.ref S) (.int j) v H G := w_setL hS e (k _ upd_same Fr.own)
theorem at_ints {ns : List Int} {i : Int} (h0 : 0 ≤ i) (h1 : ¬ (ns.map V.int).length ≤ i) : ∃ z, atI (ns.map V.int) i = some (V.int z) := by
  have h2 : i.toNat < ns.length := by rw [List.length_map] at h1; omega
  obtain ⟨j, rfl⟩ : ∃ j : Nat, i = (j : Int) := ⟨i.toNat, by omega⟩
  rw [Int.toNat_natCast] at h2
  refine ⟨ns[j], atI_nat ?_⟩
  rw [List.getElem?_map, List.getElem?_eq_getElem h2]
  rfl

section
variable {P : Program} {w : World} {K : PySem.W.Frag} {mg : Str → Option Value} {base : Heap}

abbrev s_law_state : Stmt := topS 6
abbrev N_law_state : List Str := ["script", "spare"]
theorem sc_law_state : FnScope N_law_state ["script", "spare"] (defScope s_law_state) := ⟨rfl, rfl, rfl, by decide +kernel, rfl, by decide +kernel, by decide +kernel⟩
def spState (K : PySem.W.Frag) : Sp := fun vs H Q _ => ∃ (a : Addr) (ns : List Int), vs = [.ref a, .int 0] ∧ SqL K H a (ns.map V.int) ∧ ∀ S L z H', StR H' S L 500 z → Same H H' → H S = none → H L = none → Q (.ref S) H'
theorem ok_law_state {f : Addr} {fd : FuncData} (F : Fun K "_law_state" "_law_state" s_law_state f fd) (Y : Bn mg) : FnOk P w K mg base CX0 1 f fd ["script", "spare"] (spState K) := by
  refine F.ok sc_law_state (fun vs H Q E h => ?_) (fun cdv A outer s H vs Q E hr h => ?_)
  · obtain ⟨a, ns, rfl, _⟩ := h
    rfl
  · obtain ⟨a, ns, rfl, hS, kQ⟩ := h
    have nd := sc_law_state.nd
    refine ⟨_, (pss_one (ps_ret (pe_lst (pa_cons (pe_callTy call_listOf (by rfl) Y.n_list (by decide +kernel) (pa_cons (pv 0) pa_nil)) (pa_cons pe_int (pa_cons pe_int (pa_cons pe_int (pa_cons pe_bl (pa_cons pe_int (pa_cons (pv 1) (pa_cons (pe_lst pa_nil) pa_nil))))))))))), ?_⟩
    rw [show L2.start N_law_state [.ref a, .int 0] = [some (.ref a), some (.int 0)] from rfl]
    walk_at "rdo"
    refine w_listOf hS fun l hl => ?_
    walk_at "rdo"
    refine w_newL (by show 0 ≤ 1000000; decide) fun q H2 hq s2 h2 => ?_
    walk_at "rdo"
    refine w_newL (by show 8 ≤ 1000000; decide) fun p H3 hp s3 h3 => ?_
    have nlq : l ≠ q := fun e => by rw [← e, upd_same] at hq; cases hq
    have nqp : q ≠ p := fun e => by rw [← e, h2] at hp; cases hp
    have nlp : l ≠ p := fun e => by rw [← e, s2 _ _ upd_same] at hp; cases hp
    refine kQ p q _ _ ⟨ns, 0, 0, 0, false, l, [], ⟨rfl, nlp, nlq⟩, nqp, s3 _ _ (s2 _ _ upd_same), by decide, h3, s3 _ _ h2, fun x hx => absurd hx List.not_mem_nil, by decide⟩ (((same_new hl).trans s2).trans s3) (((same_new hl).trans s2).free hp) ((same_new hl).free hq)

abbrev s_law_draw : Stmt := topS 7
abbrev N_law_draw : List Str := ["state", "limit", "cell", "digit", "mixed"]
theorem sc_law_draw : FnScope N_law_draw ["state", "limit"] (defScope s_law_draw) := ⟨rfl, rfl, rfl, by decide +kernel, rfl, by decide +kernel, by decide +kernel⟩
def spDraw : Sp := fun vs H Q _ => ∃ (S L : Addr) (r z m : Int), vs = [.ref S, .int m] ∧ StR H S L r z ∧ 0 < m ∧ m < 1073741824 ∧ ∀ x H', 0 ≤ x → x < m → StR H' S L r z → Fr S H H' → Q (.int x) H'
theorem ok_law_draw {f : Addr} {fd : FuncData} (F : Fun K "_law_draw" "_law_draw" s_law_draw f fd) (Y : Bn mg) : FnOk P w K mg base CX0 1 f fd ["state", "limit"] spDraw := by
  refine F.ok sc_law_draw (fun vs H Q E h => ?_) (fun cdv A outer s H vs Q E hr h => ?_)
  · obtain ⟨S, L, r, z, m, rfl, _⟩ := h
    rfl
  · obtain ⟨S, L, r, z, m, rfl, ⟨ns, i, c, k, b, A0, pl, hAS, hLS, hL, hi, hS, hP, hPn⟩, hm, hm2, kQ⟩ := h
    have nd := sc_law_draw.nd
    refine ⟨_, (pss_cut (ps_if (pt_cmpR op_eq (pe_ix ix_list (pv 0) pe_int (fun _ _ => rfl)) pe_int (nomark _)) (pss_cons (ps_if (pt_cmpR op_ge (pe_ix ix_list (pv 0) pe_int (fun _ _ => rfl)) (pe_callB call_lenL (by rfl) Y.n_len (by decide +kernel) (pa_cons (pe_ix ix_list (pv 0) pe_int (fun _ _ => rfl)) pa_nil)) (nomark _)) (pss_one (ps_ret pe_int)) pss_nil)
      (pss_cons (ps_set (i := 2) nd rfl (Or.inl rfl) (pe_ix ix_list (pe_ix ix_list (pv 0) pe_int (fun _ _ => rfl)) (pe_ix ix_list (pv 0) pe_int (fun _ _ => rfl)) (fun _ _ => rfl)))
      (pss_cut (ps_if (pt_cmpR op_lt (pv 2) pe_int (nomark _)) (pss_one (ps_set (i := 2) nd rfl (Or.inl rfl) (pe_op op_sub (pe_un un_neg pe_int) (pv 2)))) pss_nil)
      (pss_cons (ps_asg (pe_op op_add (pe_ix ix_list (pv 0) pe_int (fun _ _ => rfl)) pe_int) (pg_sub (pv 0) pe_int set_list))
      (pss_cons (ps_asg (pv 2) (pg_sub (pv 0) pe_int set_list))
      (pss_cons (ps_asg (pe_cmpR op_ge (pv 2) (pe_op op_pow pe_int pe_int) (nomark _)) (pg_sub (pv 0) pe_int set_list))
      (pss_cons (ps_asg pe_int (pg_sub (pv 0) pe_int set_list))
      (pss_one (ps_if (pt_val (pe_ix ix_list (pv 0) pe_int (fun _ _ => rfl))) (pss_one (ps_asg pe_int (pg_sub (pv 0) pe_int set_list))) pss_nil))))))))) pss_nil)
      (pss_cons (ps_asg (pe_op op_sub (pe_ix ix_list (pv 0) pe_int (fun _ _ => rfl)) pe_int) (pg_sub (pv 0) pe_int set_list))
      (pss_cons (ps_if (pt_val (pe_ix ix_list (pv 0) pe_int (fun _ _ => rfl))) (pss_cons (ps_set (i := 3) nd rfl (Or.inl rfl) (pe_op op_modN (pe_callTy call_intI (by rfl) Y.n_int (by decide +kernel) (pa_cons (pe_ix ix_list (pv 0) pe_int (fun _ _ => rfl)) pa_nil)) (pv 1)))
      (pss_cons (ps_asg (pe_op op_fdivN (pe_ix ix_list (pv 0) pe_int (fun _ _ => rfl)) (pv 1)) (pg_sub (pv 0) pe_int set_list))
      (pss_cons (ps_if (pt_cmpR op_eq (pe_ix ix_list (pv 0) pe_int (fun _ _ => rfl)) pe_int (nomark _)) (pss_one (ps_asg pe_int (pg_sub (pv 0) pe_int set_list))) pss_nil)
      (pss_one (ps_ret (pv 3)))))) pss_nil)
      (pss_cons (ps_set (i := 4) nd rfl (Or.inl rfl) (pe_op op_modN (pe_callTy call_intI (by rfl) Y.n_int (by decide +kernel) (pa_cons (pe_op op_add (pe_op op_add (pe_op op_mul (pe_ix ix_list (pv 0) pe_int (fun _ _ => rfl)) pe_int) (pe_op op_mul (pe_ix ix_list (pv 0) pe_int (fun _ _ => rfl)) pe_int)) pe_int) pa_nil)) pe_int))
      (pss_cons (ps_set (i := 4) nd rfl (Or.inl rfl) (pe_op op_modN (pe_callTy call_intI (by rfl) Y.n_int (by decide +kernel) (pa_cons (pe_op op_add (pe_op op_add (pe_op op_mul (pv 4) (pv 4)) (pe_op op_mul (pe_ix ix_list (pv 0) pe_int (fun _ _ => rfl)) pe_int)) (pe_ix ix_list (pv 0) pe_int (fun _ _ => rfl))) pa_nil)) pe_int))
      (pss_one (ps_ret (pe_op op_modN (pe_callTy call_intI (by rfl) Y.n_int (by decide +kernel) (pa_cons (pv 4) pa_nil)) (pv 1))))))))), ?_⟩
    rw [show L2.start N_law_draw [.ref S, .int m] = [some (.ref S), some (.int m), none, none, none] from rfl]
    refine ⟨fun σ' H' => ∃ x, σ' = [some (.ref S), some (.int m), x, none, none] ∧ (∃ (i c k : Int) (b : Bool), 0 ≤ i ∧ H' A0 = some (.lst (ns.map V.int)) ∧ H' S = some (.lst (StL A0 i c k b r 0 L))) ∧ Fr S H H', ?_, ?_⟩
    · walk_at "rdo"
      refine w_ixL (SqL.of hS) rfl ?_
      walk_at "rdo"
      refine w_ifI (fun hk => ?_) (fun hk => ?_)
      · walk_at "rdo"
        refine w_ixL (SqL.of hS) rfl ?_
        walk_at "rdo"
        refine w_ixL (SqL.of hS) rfl ?_
        walk_at "rdo"
        refine w_lenL (SqL.of hL) ?_
        walk_at "rdo"
        refine w_if (fun hl => ?_) (fun hl => ?_)
        · walk_at "rdo"
          exact kQ 0 H (by decide) hm ⟨ns, i, c, k, b, A0, pl, hAS, hLS, hL, hi, hS, hP, hPn⟩ (Fr.refl S H)
        · walk_at "rdo"
          refine w_ixL (SqL.of hS) rfl ?_
          walk_at "rdo"
          refine w_ixL (SqL.of hS) rfl ?_
          obtain ⟨y, hy⟩ := at_ints hi hl
          refine w_ixL (SqL.of hL) hy ?_
          walk_at "rdo"
          refine ⟨fun σ' H' => H' = H ∧ ∃ y, σ' = [some (.ref S), some (.int m), some (.int y), none, none], ?_, ?_⟩
          · walk_at "rdo"
            refine w_if (fun _ => ?_) (fun _ => ?_)
            · walk_at "rdo"
              refine ⟨_, rfl, ?_⟩
              walk_at "rdo"
              exact ⟨rfl, _, rfl⟩
            · exact ⟨rfl, _, rfl⟩
          · rintro σ' H' ⟨rfl, y, rfl⟩
            walk_at "rdo"
            refine w_ixL (SqL.of hS) rfl ?_
            walk_at "rdo"
            refine w_stset hS rfl fun H1 hS1 f1 => ?_
            walk_at "rdo"
            refine w_stset hS1 rfl fun H2 hS2 f2 => ?_
            walk_at "rdo"
            refine w_i ⟨by decide, by decide, by decide⟩ ?_
            walk_at "rdo"
            refine w_stset hS2 rfl fun H3 hS3 f3 => ?_
            walk_at "rdo"
            refine w_stset hS3 rfl fun H4 hS4 f4 => ?_
            walk_at "rdo"
            refine w_ixL (SqL.of hS4) rfl ?_
            have f := ((f1.trans f2).trans f3).trans f4
            walk_at "rdo"
            refine w_if (fun _ => ?_) (fun _ => ?_)
            · walk_at "rdo"
              refine w_stset hS4 rfl fun H5 hS5 f5 => ?_
              exact ⟨_, rfl, ⟨_, _, _, _, Int.add_nonneg hi (by decide), (f.trans f5) _ _ hAS.2.1 hL, hS5⟩, f.trans f5⟩
            · exact ⟨_, rfl, ⟨_, _, _, _, Int.add_nonneg hi (by decide), f _ _ hAS.2.1 hL, hS4⟩, f⟩
      · exact ⟨_, rfl, ⟨i, c, k, b, hi, hL, hS⟩, Fr.refl S H⟩
    · rintro σ' H0 ⟨x, rfl, ⟨i, c, k, b, hi, hL, hS⟩, fr⟩
      walk_at "rdo"
      refine w_ixL (SqL.of hS) rfl ?_
      walk_at "rdo"
      refine w_stset hS rfl fun H1 hS1 f1 => ?_
      walk_at "rdo"
      refine w_ixL (SqL.of hS1) rfl ?_
      walk_at "rdo"
      refine w_ifb (fun _ => ?_) (fun _ => ?_)
      · walk_at "rdo"
        refine w_ixL (SqL.of hS1) rfl ?_
        walk_at "rdo"
        refine w_i (by omega) ?_
        walk_at "rdo"
        refine w_ixL (SqL.of hS1) rfl ?_
        walk_at "rdo"
        refine w_i ⟨by omega, by omega⟩ ?_
        walk_at "rdo"
        refine w_stset hS1 rfl fun H2 hS2 f2 => ?_
        walk_at "rdo"
        refine w_ixL (SqL.of hS2) rfl ?_
        walk_at "rdo"
        have b0 := Int.fmod_nonneg_of_pos c hm
        have b1 := Int.fmod_lt_of_pos c hm
        refine w_ifI (fun _ => ?_) (fun _ => ?_)
        · walk_at "rdo"
          refine w_stset hS2 rfl fun H3 hS3 f3 => ?_
          walk_at "rdo"
          have f := ((fr.trans f1).trans f2).trans f3
          exact kQ _ H3 b0 b1 ⟨ns, _, _, _, _, A0, pl, hAS, hLS, ((f1.trans f2).trans f3) _ _ hAS.2.1 hL, hi, hS3, f _ _ hLS hP, hPn⟩ f
        · walk_at "rdo"
          exact kQ _ H2 b0 b1 ⟨ns, _, _, _, _, A0, pl, hAS, hLS, (f1.trans f2) _ _ hAS.2.1 hL, hi, hS2, ((fr.trans f1).trans f2) _ _ hLS hP, hPn⟩ ((fr.trans f1).trans f2)
      · walk_at "rdo"
        refine w_ixL (SqL.of hS1) rfl ?_
        walk_at "rdo"
        refine w_mulR (by decide) ?_
        walk_at "rdo"
        refine w_ixL (SqL.of hS1) rfl ?_
        walk_at "rdo"
        refine w_mulR (by decide) ?_
        walk_at "rdo"
        refine w_i (by decide) ?_
        walk_at "rdo"
        refine w_mulR ?_ ?_
        · have b0 := Int.fmod_nonneg_of_pos (c * 48271 + (k - 1) * 69621 + 7) (show (0 : Int) < 2147483647 by decide)
          have b1 := Int.fmod_lt_of_pos (c * 48271 + (k - 1) * 69621 + 7) (show (0 : Int) < 2147483647 by decide)
          omega
        walk_at "rdo"
        refine w_ixL (SqL.of hS1) rfl ?_
        walk_at "rdo"
        refine w_mulR (by decide) ?_
        walk_at "rdo"
        refine w_ixL (SqL.of hS1) rfl ?_
        walk_at "rdo"
        refine w_i (by decide) ?_
        walk_at "rdo"
        refine w_i (by omega) ?_
        exact kQ _ H1 (Int.fmod_nonneg_of_pos _ hm) (Int.fmod_lt_of_pos _ hm) ⟨ns, _, _, _, _, A0, pl, hAS, hLS, f1 _ _ hAS.2.1 hL, hi, hS1, (fr.trans f1) _ _ hLS hP, hPn⟩ (fr.trans f1)
end
end
section
open PySem PySem.Spec PyProof.Rows L2
open C8 (Cal cal0 pe_c pe_gc pss_cut tCut)

section
variable {P : Program} {w : World} {K : PySem.W.Frag} {mg : Str → Option Value} {base : Heap}

abbrev s_law_words : Stmt := topS 8
abbrev N_law_words : List Str := ["words"]
theorem sc_law_words : FnScope N_law_words [] (defScope s_law_words) := ⟨rfl, rfl, rfl, by decide +kernel, rfl, by decide +kernel, by decide +kernel⟩
def spWords : Sp := fun vs H Q _ => vs = [] ∧ ∀ p H', Same H H' → H p = none → H' p = some (.lst (WL.map T)) → Q (.ref p) H'
theorem ok_law_words {f : Addr} {fd : FuncData} (F : Fun K "_law_words" "_law_words" s_law_words f fd) : FnOk P w K mg base CX0 1 f fd [] spWords := by
  refine F.ok sc_law_words (fun vs H Q E h => ?_) (fun cdv A outer s H vs Q E hr h => ?_)
  · obtain ⟨rfl, _⟩ := h
    rfl
  · obtain ⟨rfl, kQ⟩ := h
    have nd := sc_law_words.nd
    refine ⟨_, (pss_cons (ps_set (i := 0) nd rfl (Or.inl rfl) (pe_lst (pa_cons pe_str (pa_cons pe_str (pa_cons pe_str (pa_cons pe_str (pa_cons pe_str (pa_cons pe_str (pa_cons pe_str (pa_cons pe_str (pa_cons pe_str (pa_cons pe_str (pa_cons pe_str (pa_cons pe_str (pa_cons pe_str pa_nil)))))))))))))))
      (pss_one (ps_ret (pe_op op_cat (pv 0) (pe_lst (pa_cons pe_str (pa_cons pe_str (pa_cons pe_str (pa_cons pe_str (pa_cons pe_str (pa_cons pe_str (pa_cons pe_str (pa_cons pe_str (pa_cons pe_str (pa_cons pe_str pa_nil))))))))))))))), ?_⟩
    rw [show L2.start N_law_words [] = [none] from rfl]
    walk_at "rdo"
    refine w_newL (by show 13 ≤ 1000000; decide) fun p H1 _ s1 hp => ?_
    walk_at "rdo"
    refine w_newL (by show 10 ≤ 1000000; decide) fun q H2 _ s2 hq => ?_
    refine w_cat2 (s2 _ _ hp) hq (by show 13 + 10 ≤ 1000000; decide) fun a H3 ha s3 h3 => ?_
    exact kQ a _ ((s1.trans s2).trans s3) ((s1.trans s2).free ha) h3

abbrev s_law_run : Stmt := topS 9
abbrev N_law_run : List Str := ["state", "first", "other", "number", "run", "tail"]
theorem sc_law_run : FnScope N_law_run ["state", "first"] (defScope s_law_run) := ⟨rfl, rfl, rfl, by decide +kernel, rfl, by decide +kernel, by decide +kernel⟩
def spRun : Sp := fun vs H Q _ => ∃ (S L : Addr) (fs : List Nat) (r z : Int), vs = [.ref S, T fs] ∧ StR H S L r z ∧ fs.length = 26 ∧ ∀ a H', RunOf fs a → StR H' S L (r - a.length) z → Fr S H H' → Q (T a) H'
theorem use_draw {S L : Addr} {r z m : Int} {H : Hp} {Q : VK} {E : XK} (h : StR H S L r z) (h0 : 0 < m) (h1 : m < 1073741824) (k : ∀ x H', 0 ≤ x → x < m → StR H' S L r z → FrP S L H H' → Q (.int x) H') : spDraw ([.ref S, .int m] ++ []) H Q E :=
  ⟨S, L, r, z, m, rfl, h, h0, h1, fun x H' a b c d => k x H' a b c d.p⟩
theorem use_drawS {S L : Addr} {r z m : Int} {H : Hp} {Q : VK} {E : XK} (h : StR H S L r z) (h0 : 0 < m) (h1 : m < 1073741824) (k : ∀ x H', 0 ≤ x → x < m → StR H' S L r z → Fr S H H' → Q (.int x) H') : spDraw ([.ref S, .int m] ++ []) H Q E :=
  ⟨S, L, r, z, m, rfl, h, h0, h1, k⟩
theorem RunOf.pos {fs a : List Nat} (h : RunOf fs a) : 1 ≤ a.length := by
  obtain ⟨c, r, rfl, _⟩ := h
  exact Nat.succ_pos _
theorem StR.obj {H : Hp} {S L : Addr} {r z : Int} (h : StR H S L r z) : ∃ (A : Addr) (i c k : Int) (b : Bool), H S = some (.lst (StL A i c k b r 0 L)) := by
  obtain ⟨_, i, c, k, b, A, _, _, _, _, _, h, _⟩ := h
  exact ⟨A, i, c, k, b, h⟩
theorem StR.put5 {H H' : Hp} {S L A : Addr} {i c k : Int} {b : Bool} {r z y : Int} (h : StR H S L r z) (hS : H S = some (.lst (StL A i c k b r 0 L))) (h2 : H' S = some (.lst ((StL A i c k b r 0 L).set 5 (.int y)))) (f : Fr S H H') (hy : y ≤ r) : StR H' S L y z := by
  obtain ⟨ns, i', c', k', b', A', pl, h1, h3, h4, h5, h6, h7, h8, h9⟩ := h
  rw [hS] at h6
  injection h6 with h6
  injection h6 with h6
  injection h6 with e0 h6
  injection h6 with e1 h6
  injection e0 with e0
  injection e1 with e1
  subst e0
  subst e1
  exact ⟨ns, i, c, k, b, A, pl, h1, h3, f _ _ h1.2.1 h4, h5, h2, f _ _ h3 h7, h8, by omega⟩
theorem ok_law_run {f : Addr} {fd : FuncData} (F : Fun K "_law_run" "_law_run" s_law_run f fd) (Y : Bn mg) (c_law_draw : Cal P w K mg base 1 "_law_draw" spDraw []) : FnOk P w K mg base CX0 2 f fd ["state", "first"] spRun := by
  refine F.ok sc_law_run (fun vs H Q E h => ?_) (fun cdv A outer s H vs Q E hr h => ?_)
  · obtain ⟨S, L, fs, r, z, rfl, _⟩ := h
    rfl
  · obtain ⟨S, L, fs, r, z, rfl, hSt, hfs, kQ⟩ := h
    have nd := sc_law_run.nd
    refine ⟨_, (pss_cons (ps_set (i := 2) nd rfl (Or.inl rfl) pe_str)
      (pss_cons (ps_set (i := 3) nd rfl (Or.inl rfl) (pe_c c_law_draw hr (by omega) rfl (pa_cons (pv 0) (pa_cons pe_int pa_nil))))
      (pss_cons (ps_set (i := 4) nd rfl (Or.inl rfl) (pe_ix ix_str (pv 1) (pe_op op_modN (pe_callTy call_intI (by rfl) Y.n_int (by decide +kernel) (pa_cons (pe_op op_fdivN (pv 3) pe_int) pa_nil)) pe_int) (fun _ _ => rfl)))
      (pss_cons (ps_set (i := 5) nd rfl (Or.inl rfl) (pe_op op_addS (pe_op op_addS (pe_ix ix_str (pv 2) (pe_op op_modN (pe_callTy call_intI (by rfl) Y.n_int (by decide +kernel) (pa_cons (pe_op op_fdivN (pv 3) pe_int) pa_nil)) pe_int) (fun _ _ => rfl)) (pe_ix ix_str (pv 2) (pe_op op_modN (pe_callTy call_intI (by rfl) Y.n_int (by decide +kernel) (pa_cons (pe_op op_fdivN (pv 3) pe_int) pa_nil)) pe_int) (fun _ _ => rfl))) (pe_ix ix_str (pv 2) (pe_op op_modN (pe_callTy call_intI (by rfl) Y.n_int (by decide +kernel) (pa_cons (pv 3) pa_nil)) pe_int) (fun _ _ => rfl))))
      (pss_cut (ps_if (pt_cmpR op_eq (pe_c c_law_draw hr (by omega) rfl (pa_cons (pv 0) (pa_cons pe_int pa_nil))) pe_int (nomark _)) (pss_one (ps_set (i := 4) nd rfl (Or.inl rfl) (pe_slice sl_str (pe_op op_addS (pv 4) (pe_op op_mulS (pv 5) pe_int)) po_none (po_some (pe_op op_add pe_int (pe_c c_law_draw hr (by omega) rfl (pa_cons (pv 0) (pa_cons pe_int pa_nil)))))))) (pss_one (ps_set (i := 4) nd rfl (Or.inl rfl) (pe_op op_addS (pv 4) (pe_slice sl_str (pv 5) po_none (po_some (pe_op op_modN (pe_callTy call_intI (by rfl) Y.n_int (by decide +kernel) (pa_cons (pv 3) pa_nil)) pe_int)))))))
      (pss_cons (ps_asg (pe_op op_sub (pe_ix ix_list (pv 0) pe_int (fun _ _ => rfl)) (pe_callB call_lenS (by rfl) Y.n_len (by decide +kernel) (pa_cons (pv 4) pa_nil))) (pg_sub (pv 0) pe_int set_list))
      (pss_one (ps_ret (pv 4))))))))), ?_⟩
    rw [show L2.start N_law_run [.ref S, T fs] = [some (.ref S), some (T fs), none, none, none, none] from rfl]
    walk_at "rdo"
    refine use_drawS hSt (by decide) (by decide) fun n H1 n0 n1 hSt1 f1 => ?_
    walk_at "rdo"
    refine w_i ⟨by decide, by decide⟩ ?_
    walk_at "rdo"
    refine w_i (by decide) ?_
    obtain ⟨c, hc, ec⟩ := at_mod hfs (by decide) (n.fdiv 4)
    refine w_ixS (by omega) ec ?_
    walk_at "rdo"
    refine w_i ⟨by decide, by decide⟩ ?_
    walk_at "rdo"
    refine w_i (by decide) ?_
    obtain ⟨d1, hd1, e1⟩ := at_mod len_aJ (by decide) (n.fdiv 104)
    refine w_ixS (by decide +kernel) e1 ?_
    walk_at "rdo"
    refine w_i ⟨by decide, by decide⟩ ?_
    walk_at "rdo"
    refine w_i (by decide) ?_
    obtain ⟨d2, hd2, e2⟩ := at_mod len_aJ (by decide) (n.fdiv 6448)
    refine w_ixS (by decide +kernel) e2 ?_
    refine w_addS (by show 1 + 1 ≤ 1000000; decide) ?_
    walk_at "rdo"
    refine w_i (by decide) ?_
    obtain ⟨d3, hd3, e3⟩ := at_lt (l := aJ) (Int.fmod_nonneg_of_pos n (show (0 : Int) < 61 by decide)) (Int.lt_trans (Int.fmod_lt_of_pos n (show (0 : Int) < 61 by decide)) (by decide +kernel))
    refine w_ixS (by decide +kernel) e3 ?_
    refine w_addS (by show 2 + 1 ≤ 1000000; decide) ?_
    have hm : ∀ d, d ∈ ([d1] ++ [d2] ++ [d3] : List Nat) → d ∈ aJ := by
      intro d hd
      rcases List.mem_append.mp hd with hd | hd
      · rcases List.mem_append.mp hd with hd | hd
        · rw [List.mem_singleton.mp hd]; exact hd1
        · rw [List.mem_singleton.mp hd]; exact hd2
      · rw [List.mem_singleton.mp hd]; exact hd3
    walk_at "rdo"
    generalize hT : ([d1] ++ [d2] ++ [d3] : List Nat) = tl at hm ⊢
    have hl : tl.length = 3 := by rw [← hT]; rfl
    refine ⟨fun σ' H' => ∃ a, σ' = [some (.ref S), some (T fs), some (T aJ), some (.int n), some (T a), some (T tl)] ∧ RunOf fs a ∧ StR H' S L r z ∧ Fr S H H', ?_, ?_⟩
    · walk_at "rdo"
      refine use_drawS hSt1 (by decide) (by decide) fun b H2 b0 b1 hSt2 f2 => ?_
      walk_at "rdo"
      refine w_ifI (fun _ => ?_) (fun _ => ?_)
      · walk_at "rdo"
        refine w_mulS (by decide) (by decide) (by rw [hl]; decide) ?_
        refine w_addS (by rw [len_rep, hl]; show 1 + 21 ≤ 1000000; decide) ?_
        walk_at "rdo"
        refine use_drawS hSt2 (by decide) (by decide) fun e H3 e0 e1 hSt3 f3 => ?_
        walk_at "rdo"
        refine w_slS (by rw [List.length_append, len_rep, hl]; show 1 + 21 ≤ 1000000; decide) ?_
        refine ⟨_, rfl, ⟨c, ((List.replicate (Int.toNat 7) tl).flatten).take (4 + e.toNat), ?_, hc, fun d hd => hm d (mem_rep (List.mem_of_mem_take hd)), ?_⟩, hSt3, (f1.trans f2).trans f3⟩
        · have e2 : (5 + e : Int) = ((5 + e.toNat : Nat) : Int) := by omega
          rw [e2, cut_to]
          show List.take (5 + e.toNat) (c :: _) = _
          rw [show 5 + e.toNat = (4 + e.toNat) + 1 by omega, List.take_succ_cons]
          rfl
        · rw [List.length_take]
          omega
      · walk_at "rdo"
        refine w_i (by decide) ?_
        walk_at "rdo"
        refine w_slS (by omega) ?_
        refine w_addS ?_ ?_
        · have := cut_len tl none (some (n.fmod 4))
          rw [hl] at this
          show 1 + _ ≤ 1000000
          omega
        · refine ⟨_, rfl, ⟨c, cut tl none (some (n.fmod 4)), rfl, hc, fun d hd => hm d (cut_mem hd), ?_⟩, hSt2, f1.trans f2⟩
          have := cut_len tl none (some (n.fmod 4))
          omega
    · rintro σ' H2 ⟨a, rfl, ha, hSt2, f2⟩
      have hal : a.length ≤ 20 := by
        obtain ⟨c, _, rfl, _, _, h⟩ := ha
        rw [List.length_cons]
        omega
      obtain ⟨A, i, c', k, b, hS⟩ := hSt2.obj
      walk_at "rdo"
      refine w_ixL (SqL.of hS) rfl ?_
      walk_at "rdo"
      refine w_lenS (by omega) ?_
      walk_at "rdo"
      refine w_stset hS rfl fun H3 h3 f3 => ?_
      walk_at "rdo"
      exact kQ a _ ha (hSt2.put5 hS h3 f3 (by omega)) (f2.trans f3)
end
end
section
open PySem PySem.Spec PyProof.Rows L2
open C8 (Cal cal0 pe_c pe_gc pss_cut tCut)

section
variable {P : Program} {w : World} {K : PySem.W.Frag} {mg : Str → Option Value} {base : Heap}
theorem use_run {S L : Addr} {fs : List Nat} {r z : Int} {H : Hp} {Q : VK} {E : XK} (h : StR H S L r z) (hf : fs.length = 26) (k : ∀ a H', RunOf fs a → StR H' S L (r - a.length) z → Fr S H H' → Q (T a) H') : spRun ([.ref S, T fs] ++ []) H Q E :=
  ⟨S, L, fs, r, z, rfl, h, hf, k⟩
/-- one promise for all that draws a text: c is what it costs at least -/
def spTx (Ok : List Nat → Prop) (c : Nat) : Sp := fun vs H Q _ => ∃ (S L : Addr) (r z : Int), vs = [.ref S] ∧ StR H S L r z ∧ -900000 ≤ r ∧ ∀ a r' H', Ok a → r' + (a.length : Int) ≤ r + c ∧ r ≤ r' + a.length → r' ≤ r → StR H' S L r' z → FrP S L H H' → Q (T a) H'
theorem use_tx {Ok : List Nat → Prop} {c : Nat} {S L : Addr} {r z : Int} {H : Hp} {Q : VK} {E : XK} (h : StR H S L r z) (lo : -900000 ≤ r) (k : ∀ a r' H', Ok a → r' + (a.length : Int) ≤ r + c ∧ r ≤ r' + a.length → r' ≤ r → StR H' S L r' z → FrP S L H H' → Q (T a) H') : spTx Ok c ([.ref S] ++ []) H Q E := ⟨S, L, r, z, rfl, h, lo, k⟩
/-- the pool -/
theorem StR.pool {H : Hp} {S L : Addr} {r z : Int} (h : StR H S L r z) : ∃ (pl : List (List Nat)), H L = some (.lst (pl.map T)) ∧ (∀ x ∈ pl, IsName x) ∧ (pl.length : Int) ≤ 500 - r ∧ L ≠ S := by
  obtain ⟨_, _, _, _, _, _, pl, _, n, _, _, _, h1, h2, h3⟩ := h
  exact ⟨pl, h1, h2, h3, n⟩
/-- the pool longer -/
theorem StR.more {H H' : Hp} {S L : Addr} {r z : Int} {pl : List (List Nat)} (h : StR H S L r z) (h2 : H' L = some (.lst (pl.map T))) (hn : ∀ x ∈ pl, IsName x) (hl : (pl.length : Int) ≤ 500 - r) (f : Fr L H H') : StR H' S L r z := by
  obtain ⟨ns, i, c, k, b, A, _, h1, h3, h4, h5, h6, _⟩ := h
  exact ⟨ns, i, c, k, b, A, pl, h1, h3, f _ _ h1.2.2 h4, h5, f _ _ h3.symm h6, h2, hn, hl⟩

theorem pick_at {l : List (List Nat)} {n : Nat} (hl : l.length = n) {r : Int} (h0 : 0 ≤ r) (h1 : r < (n : Int)) : ∃ a, a ∈ l ∧ atI (l.map T) r = some (T a) := by
  have hr2 : r.toNat < l.length := by omega
  obtain ⟨q, rfl⟩ : ∃ q : Nat, r = (q : Int) := ⟨r.toNat, by omega⟩
  rw [Int.toNat_natCast] at hr2
  exact ⟨l[q], List.getElem_mem hr2, atI_nat (by rw [List.getElem?_map, List.getElem?_eq_getElem hr2]; rfl)⟩
abbrev s_law_name : Stmt := topS 10
abbrev N_law_name : List Str := ["state", "pool", "name"]
theorem sc_law_name : FnScope N_law_name ["state"] (defScope s_law_name) := ⟨rfl, rfl, rfl, by decide +kernel, rfl, by decide +kernel, by decide +kernel⟩
theorem ok_law_name {f : Addr} {fd : FuncData} (F : Fun K "_law_name" "_law_name" s_law_name f fd) (Y : Bn mg) (c_law_draw : Cal P w K mg base 1 "_law_draw" spDraw []) (c_law_run : Cal P w K mg base 2 "_law_run" spRun []) (c_law_words : Cal P w K mg base 1 "_law_words" spWords []) : FnOk P w K mg base CX0 3 f fd ["state"] (spTx IsName 21) := by
  refine F.ok sc_law_name (fun vs H Q E h => ?_) (fun cdv A outer s H vs Q E hr h => ?_)
  · obtain ⟨S, L, r, z, rfl, _⟩ := h
    rfl
  · obtain ⟨S, L, r, z, rfl, hSt, lo, kQ⟩ := h
    have nd := sc_law_name.nd
    refine ⟨_, (pss_cons (ps_set (i := 1) nd rfl (Or.inl rfl) (pe_ix ix_list (pv 0) pe_int (fun _ _ => rfl)))
      (pss_cut (ps_if (PW.pt (pw_and (pt_tru (pv 1)) (pw_and1 (pt_cmpR op_gt (pe_c c_law_draw hr (by omega) rfl (pa_cons (pv 0) (pa_cons pe_int pa_nil))) pe_int (nomark _))))) (pss_one (ps_ret (pe_ix ix_list (pv 1) (pe_c c_law_draw hr (by omega) rfl (pa_cons (pv 0) (pa_cons (pe_callB call_lenL (by rfl) Y.n_len (by decide +kernel) (pa_cons (pv 1) pa_nil)) pa_nil))) (fun _ _ => rfl)))) pss_nil)
      (pss_cons (ps_set (i := 2) nd rfl (Or.inl rfl) (pe_c c_law_run hr (by decide) rfl (pa_cons (pv 0) (pa_cons pe_str pa_nil))))
      (pss_cons (ps_if (pt_cmpR op_in_seq (pv 2) (pe_c0 c_law_words hr (by decide) rfl) (by rfl)) (pss_one (ps_set (i := 2) nd rfl (Or.inl rfl) (pe_op op_addS (pv 2) pe_str))) pss_nil)
      (pss_cons (ps_expr (pe_bm PySem.F.plainAttrs_list PySem.F.slot_list_append PySem.F.type_list_append mt_append (pv 1) (pa_cons (pv 2) pa_nil)))
      (pss_one (ps_ret (pv 2)))))))), ?_⟩
    rw [show L2.start N_law_name [.ref S] = [some (.ref S), none, none] from rfl]
    obtain ⟨A0, i0, c0, k0, b0, hS0⟩ := hSt.obj
    walk_at "rdy"
    obtain ⟨pl, hP, hPn, hPl, nLS⟩ := hSt.pool
    refine ⟨fun σ' H' => σ' = [some (.ref S), some (.ref L), none] ∧ StR H' S L r z ∧ FrP S L H H', ?_, ?_⟩
    · walk_at "rdy"
      refine w_truL (SqL.of hP) (fun hne => ?_) (fun hem => ?_)
      · have hne' : pl ≠ [] := fun e => hne (by rw [e]; rfl)
        have hpos : 0 < pl.length := List.length_pos_iff.mpr hne'
        walk_at "rdy"
        refine use_drawS hSt (by decide) (by decide) fun y H1 y0 y1 hSt1 f1 => ?_
        have hP1 := f1 _ _ nLS hP
        walk_at "rdy"
        refine w_if (fun _ => ?_) (fun _ => ?_)
        · walk_at "rdy"
          rw [List.length_map]
          refine use_drawS hSt1 (by omega) (by omega) fun y2 H2 y20 y21 hSt2 f2 => ?_
          obtain ⟨a, ha, ea⟩ := pick_at (l := pl) rfl y20 y21
          refine w_ixL (SqL.of (f2 _ _ nLS hP1)) ea ?_
          have hn := hPn a ha
          have hal := hn.1.len
          exact kQ a r H2 hn ⟨by omega, by omega⟩ (Int.le_refl _) hSt2 (f1.trans f2).p
        · exact ⟨rfl, hSt1, f1.p⟩
      · exact ⟨rfl, hSt, FrP.refl S L H⟩
    · rintro σ' H0 ⟨rfl, hSt0, f0⟩
      walk_at "rdy"
      refine use_run hSt0 len_aLow fun a H1 ha hSt1 f1 => ?_
      walk_at "rdy"
      refine ⟨rfl, fun p H2 s2 _ hp => ?_⟩
      refine w_inL (SqL.of hp) ?_
      walk_at "rdy"
      have al := ha.len
      obtain ⟨pl2, hP0, hPn2, hPl2, nLS⟩ := hSt0.pool
      have hP2 := s2 _ _ (f1 _ _ nLS hP0)
      have fin : ∀ (a' : List Nat) H4, IsName a' → a.length ≤ a'.length → a'.length ≤ a.length + 1 → H4 L = some (.lst (pl2.map T ++ [T a'])) → (∀ b o, b ≠ L → H2 b = some o → H4 b = some o) → Q (T a') H4 := fun a' H4 hn h1 h2 h4 k4 =>
        kQ a' _ H4 hn ⟨by omega, by omega⟩ (by omega) ((hSt1.mono s2).more (pl := pl2 ++ [a']) (by rw [h4, List.map_append]; rfl) (fun x hx => (List.mem_append.mp hx).elim (hPn2 x) fun hx => by rw [List.mem_singleton.mp hx]; exact hn) (by have := ha.pos; rw [List.length_append, List.length_singleton]; omega) k4) ((f0.trans (f1.p.to s2)).trans (Fr.q k4))
      refine w_if (fun h => ?_) (fun h => ?_)
      · walk_at "rdy"
        refine w_addS (by have := ha.len; show a.length + 1 ≤ 1000000; omega) ?_
        walk_at "rdy"
        refine ⟨tyL (SqL.of hP2), ?_⟩
        walk_at "rdy"
        refine w_app2 hP2 (by rw [List.length_map]; omega) fun H4 h4 k4 => ?_
        walk_at "rdy"
        exact fin _ H4 (word_name h) (by rw [List.length_append]; omega) (by rw [List.length_append]; exact Nat.le_refl _) h4 k4
      · walk_at "rdy"
        refine ⟨tyL (SqL.of hP2), ?_⟩
        walk_at "rdy"
        refine w_app2 hP2 (by rw [List.length_map]; omega) fun H4 h4 k4 => ?_
        walk_at "rdy"
        exact fin _ H4 ⟨ha, h⟩ (Nat.le_refl _) (by omega) h4 k4
abbrev s_law_class : Stmt := topS 11
abbrev N_law_class : List Str := ["state"]
theorem sc_law_class : FnScope N_law_class ["state"] (defScope s_law_class) := ⟨rfl, rfl, rfl, by decide +kernel, rfl, by decide +kernel, by decide +kernel⟩
theorem ok_law_class {f : Addr} {fd : FuncData} (F : Fun K "_law_class" "_law_class" s_law_class f fd) (c_law_run : Cal P w K mg base 2 "_law_run" spRun []) : FnOk P w K mg base CX0 3 f fd ["state"] (spTx IsClass 0) := by
  refine F.ok sc_law_class (fun vs H Q E h => ?_) (fun cdv A outer s H vs Q E hr h => ?_)
  · obtain ⟨S, L, r, z, rfl, _⟩ := h
    rfl
  · obtain ⟨S, L, r, z, rfl, hSt, lo, kQ⟩ := h
    have nd := sc_law_class.nd
    refine ⟨_, (pss_one (ps_ret (pe_c c_law_run hr (by decide) rfl (pa_cons (pv 0) (pa_cons pe_str pa_nil))))), ?_⟩
    rw [show L2.start N_law_class [.ref S] = [some (.ref S)] from rfl]
    walk_at "rdy"
    exact use_run hSt len_aUp fun a H1 ha hSt1 f1 => kQ a _ H1 ha ⟨by omega, by omega⟩ (by omega) hSt1 f1.p

abbrev s_law_number : Stmt := topS 12
abbrev N_law_number : List Str := ["state", "kind"]
theorem sc_law_number : FnScope N_law_number ["state"] (defScope s_law_number) := ⟨rfl, rfl, rfl, by decide +kernel, rfl, by decide +kernel, by decide +kernel⟩
def spNum : Sp := fun vs H Q _ => ∃ (S L : Addr) (r z : Int), vs = [.ref S] ∧ StR H S L r z ∧ ∀ (n : Nat) H', n ≤ 1000000000 → StR H' S L r z → FrP S L H H' → Q (.int n) H'
theorem ok_law_number {f : Addr} {fd : FuncData} (F : Fun K "_law_number" "_law_number" s_law_number f fd) (c_law_draw : Cal P w K mg base 1 "_law_draw" spDraw []) : FnOk P w K mg base CX0 3 f fd ["state"] spNum := by
  refine F.ok sc_law_number (fun vs H Q E h => ?_) (fun cdv A outer s H vs Q E hr h => ?_)
  · obtain ⟨S, L, r, z, rfl, _⟩ := h
    rfl
  · obtain ⟨S, L, r, z, rfl, hSt, kQ⟩ := h
    have nd := sc_law_number.nd
    refine ⟨_, (pss_cons (ps_set (i := 1) nd rfl (Or.inl rfl) (pe_c c_law_draw hr (by omega) rfl (pa_cons (pv 0) (pa_cons pe_int pa_nil))))
      (pss_cons (ps_if (pt_cmpR op_eq (pv 1) pe_int (nomark _)) (pss_one (ps_ret (pe_c c_law_draw hr (by omega) rfl (pa_cons (pv 0) (pa_cons pe_int pa_nil))))) pss_nil)
      (pss_cons (ps_if (pt_cmpR op_eq (pv 1) pe_int (nomark _)) (pss_one (ps_ret (pe_op op_sub pe_int (pe_c c_law_draw hr (by omega) rfl (pa_cons (pv 0) (pa_cons pe_int pa_nil)))))) pss_nil)
      (pss_one (ps_ret (pe_c c_law_draw hr (by omega) rfl (pa_cons (pv 0) (pa_cons pe_int pa_nil)))))))), ?_⟩
    rw [show L2.start N_law_number [.ref S] = [some (.ref S), none] from rfl]
    have go : ∀ (y : Int) H', 0 ≤ y → y ≤ 1000000000 → StR H' S L r z → FrP S L H H' → Q (.int y) H' := fun y H' h0 h1 h2 h3 => by
      have := kQ y.toNat H' (by omega) h2 h3
      rw [Int.toNat_of_nonneg h0] at this
      exact this
    walk_at "rdy"
    refine use_draw hSt (by decide) (by decide) fun b H1 b0 b1 hSt1 f1 => ?_
    walk_at "rdy"
    refine w_ifI (fun _ => ?_) (fun _ => ?_)
    · walk_at "rdy"
      exact use_draw hSt1 (by decide) (by decide) fun n H2 n0 n1 hSt2 f2 => go n H2 n0 (by omega) hSt2 (f1.trans f2)
    · walk_at "rdy"
      refine w_ifI (fun _ => ?_) (fun _ => ?_)
      · walk_at "rdy"
        refine use_draw hSt1 (by decide) (by decide) fun n H2 n0 n1 hSt2 f2 => ?_
        walk_at "rdy"
        exact go _ H2 (by omega) (by omega) hSt2 (f1.trans f2)
      · walk_at "rdy"
        exact use_draw hSt1 (by decide) (by decide) fun n H2 n0 n1 hSt2 f2 => go n H2 n0 (by omega) hSt2 (f1.trans f2)

abbrev s_law_characters : Stmt := topS 13
abbrev N_law_characters : List Str := ["state", "signs", "text", "k"]
theorem sc_law_characters : FnScope N_law_characters ["state"] (defScope s_law_characters) := ⟨rfl, rfl, rfl, by decide +kernel, rfl, by decide +kernel, by decide +kernel⟩
theorem ok_law_characters {f : Addr} {fd : FuncData} (F : Fun K "_law_characters" "_law_characters" s_law_characters f fd) (Y : Bn mg) (c_law_draw : Cal P w K mg base 1 "_law_draw" spDraw []) : FnOk P w K mg base CX0 3 f fd ["state"] (spTx IsText 0) := by
  refine F.ok sc_law_characters (fun vs H Q E h => ?_) (fun cdv A outer s H vs Q E hr h => ?_)
  · obtain ⟨S, L, r, z, rfl, _⟩ := h
    rfl
  · obtain ⟨S, L, r, z, rfl, hSt, lo, kQ⟩ := h
    have nd := sc_law_characters.nd
    refine ⟨_, (pss_cons (ps_set (i := 1) nd rfl (Or.inl rfl) pe_str)
      (pss_cons (ps_set (i := 2) nd rfl (Or.inl rfl) pe_str)
      (pss_cons (ps_for PassesOwn.never rfl (pi_range1 rfl Y.n_range (pa_cons (pe_c c_law_draw hr (by omega) rfl (pa_cons (pv 0) (pa_cons pe_int pa_nil))) pa_nil)) (pg_name (i := 3) nd rfl (Or.inl rfl)) (pss_one (ps_set (i := 2) nd rfl (Or.inl rfl) (pe_op op_addS (pv 2) (pe_ix ix_str (pv 1) (pe_c c_law_draw hr (by omega) rfl (pa_cons (pv 0) (pa_cons pe_int pa_nil))) (fun _ _ => rfl))))))
      (pss_cut (ps_if (pt_cmpR op_eq (pe_c c_law_draw hr (by omega) rfl (pa_cons (pv 0) (pa_cons pe_int pa_nil))) pe_int (nomark _)) (pss_one (ps_set (i := 2) nd rfl (Or.inl rfl) (pe_slice sl_str (pe_op op_mulS (pe_op op_addS (pv 2) pe_str) pe_int) po_none (po_some (pe_op op_sub pe_int (pe_c c_law_draw hr (by omega) rfl (pa_cons (pv 0) (pa_cons pe_int pa_nil)))))))) pss_nil)
      (pss_cons (ps_asg (pe_op op_sub (pe_ix ix_list (pv 0) pe_int (fun _ _ => rfl)) (pe_callB call_lenS (by rfl) Y.n_len (by decide +kernel) (pa_cons (pv 2) pa_nil))) (pg_sub (pv 0) pe_int set_list))
      (pss_one (ps_ret (pv 2)))))))), ?_⟩
    rw [show L2.start N_law_characters [.ref S] = [some (.ref S), none, none, none] from rfl]
    walk_at "rdy"
    refine use_draw hSt (by decide) (by decide) fun n H1 n0 n1 hSt1 f1 => ?_
    walk_at "rdy"
    refine for_R (fun i σ' H' => ∃ (a : List Nat) (x : Option V), σ' = [some (.ref S), some (T aTxt), some (T a), x] ∧ (∀ d ∈ a, d ∈ aTxt) ∧ a.length = i ∧ StR H' S L r z ∧ FrP S L H H') n0 (by omega)
      ⟨[], none, by rw [show (Str.ofString "").cps.toList = ([] : List Nat) by decide +kernel]; rfl, fun d hd => (List.not_mem_nil hd).elim, rfl, hSt1, f1⟩ ?_ ?_
    · rintro i σ' H2 hi ⟨a, x, rfl, ha, hl, hSt2, f2⟩
      walk_at "rdy"
      refine use_draw hSt2 (by decide) (by decide) fun m H3 m0 m1 hSt3 f3 => ?_
      obtain ⟨c, hc, ec⟩ := at_lt (l := aTxt) m0 (by rw [len_aTxt]; exact m1)
      refine w_ixS (by rw [len_aTxt]; decide) ec ?_
      refine w_addS (by show a.length + 1 ≤ 1000000; omega) ?_
      walk_at "rdy"
      refine ⟨a ++ [c], _, rfl, fun d hd => ?_, by rw [List.length_append, hl]; rfl, hSt3, f2.trans f3⟩
      rcases List.mem_append.mp hd with hd | hd
      · exact ha d hd
      · rw [List.mem_singleton.mp hd]; exact hc
    · rintro σ' H2 ⟨a, x, rfl, ha, hl, hSt2, f2⟩
      walk_at "rdy"
      refine ⟨fun σ' H' => ∃ (a : List Nat), σ' = [some (.ref S), some (T aTxt), some (T a), x] ∧ IsText a ∧ StR H' S L r z ∧ FrP S L H H', ?_, ?_⟩
      · walk_at "rdy"
        refine use_draw hSt2 (by decide) (by decide) fun m H3 m0 m1 hSt3 f3 => ?_
        walk_at "rdy"
        refine w_ifI (fun _ => ?_) (fun _ => ?_)
        · walk_at "rdy"
          refine w_addS (by show a.length + 2 ≤ 1000000; omega) ?_
          walk_at "rdy"
          have e2 : (cds "z ").length = 2 := by decide +kernel
          have l2 : (a ++ cds "z ").length ≤ 8 := by rw [List.length_append, e2]; omega
          refine w_mulS (by decide) (by decide) (Nat.le_trans (Nat.mul_le_mul_right _ l2) (by decide)) ?_
          walk_at "rdy"
          refine use_draw hSt3 (by decide) (by decide) fun e H4 e0 e1 hSt4 f4 => ?_
          walk_at "rdy"
          refine w_slS (by rw [len_rep]; exact Nat.le_trans (Nat.mul_le_mul_left _ l2) (by decide)) ?_
          refine ⟨_, rfl, ⟨fun d hd => ?_, ?_⟩, hSt4, (f2.trans f3).trans f4⟩
          · have := mem_rep (cut_mem hd)
            rcases List.mem_append.mp this with hd | hd
            · exact ha d hd
            · exact (by decide +kernel : ∀ d ∈ cds "z ", d ∈ aTxt) d hd
          · have e3 : (200 - e : Int) = (((200 - e).toNat : Nat) : Int) := by omega
            rw [e3, cut_to, List.length_take]
            omega
        · exact ⟨a, rfl, ⟨ha, by omega⟩, hSt3, f2.trans f3⟩
      · rintro σ' H3 ⟨a, rfl, ha, hSt3, f3⟩
        obtain ⟨A0, i, c', k, b, hS⟩ := hSt3.obj
        walk_at "rdy"
        refine w_lenS (by have := ha.2; omega) ?_
        walk_at "rdy"
        refine w_stset hS rfl fun H4 h4 f4 => ?_
        walk_at "rdy"
        exact kQ a _ _ ha ⟨by omega, by omega⟩ (by omega) (hSt3.put5 hS h4 f4 (by omega)) (f3.trans f4.p)
end
end
section
open PySem PySem.Spec PyProof.Rows L2
open TL (numL tl_num numL_digits numL_ne numL_val numL_len numL_lt numL_step)
open C8 (Cal cal0 pe_c pe_gc pss_cut tCut)

theorem StR.new {H : Hp} {S L D : Addr} {r z : Int} (h : StR H S L r z) (hD : H D = none) : D ≠ S ∧ D ≠ L := by
  obtain ⟨ns, i, c, k, b, A, pl, h1, h2, h3, h4, h5, h6, _⟩ := h
  exact ⟨fun e => (by rw [e, h5] at hD; cases hD), fun e => (by rw [e, h6] at hD; cases hD)⟩
theorem StR.new3 {H : Hp} {S L D : Addr} {r z : Int} (h : StR H S L r z) (hD : H D = none) : (D ≠ S ∧ D ≠ L) ∧ (D : Int) ≠ z := by
  refine ⟨h.new hD, ?_⟩
  obtain ⟨ns, i, c, k, b, A, pl, h1, h2, h3, h4, h5, h6, _⟩ := h
  exact fun e => by
    have e2 : D = A := Int.ofNat_inj.mp (e.trans h1.1)
    rw [e2, h3] at hD; cases hD
theorem StR.grow {H H1 : Hp} {S L D : Addr} {r z : Int} (h : StR H S L r z) (n : (D ≠ S ∧ D ≠ L) ∧ (D : Int) ≠ z) (k : ∀ b o, b ≠ D → H b = some o → H1 b = some o) : StR H1 S L r z := by
  obtain ⟨ns, i, c, k', b, A, pl, h1, h2, h3, h4, h5, h6, h7⟩ := h
  exact ⟨ns, i, c, k', b, A, pl, h1, h2, k _ _ (fun e => n.2 (by rw [← e]; exact h1.1.symm)) h3, h4, k _ _ n.1.1.symm h5, k _ _ n.1.2.symm h6, h7⟩
theorem FrP.grow {S L D : Addr} {H H1 H2 : Hp} (f : FrP S L H H1) (hD : H D = none) (k : ∀ b o, b ≠ D → H1 b = some o → H2 b = some o) : FrP S L H H2 := fun b o n e => k b o (fun z => by rw [z, hD] at e; cases e) (f b o n e)
theorem FrP.free {S L D : Addr} {H H1 : Hp} (f : FrP S L H H1) (n : D ≠ S ∧ D ≠ L) (hD : H1 D = none) : H D = none := by
  cases e : H D with
  | none => rfl
  | some o => rw [f _ _ n e] at hD; cases hD
/-- the list of tokens that stands at q -/
def Tl (H : Hp) (q : Addr) (w : Ws) : Prop := H q = some (.lst (w.map T))
theorem StR.sqT {K : PySem.W.Frag} {H H1 : Hp} {S L p : Addr} {r z : Int} {xs : List V} (h : StR H S L r z) (f : FrP S L H H1) (a : SqT K H p xs) : SqT K H1 p xs := by
  obtain ⟨ns, i, c, k', b, A, pl, h1, h2, h3, h4, h5, h6, _⟩ := h
  rcases a with (a | ⟨o, a⟩) | a
  · exact .inl (.inl (f _ _ ⟨fun e => (by rw [e, h5] at a; cases a), fun e => (by rw [e, h6] at a; cases a)⟩ a))
  · exact .inl (.inr ⟨o, f _ _ ⟨fun e => (by rw [e, h5] at a; cases a), fun e => (by rw [e, h6] at a; cases a)⟩ a⟩)
  · exact .inr a
theorem StR.fT {H H1 : Hp} {S L p : Addr} {r z : Int} {xs : List V} (h : StR H S L r z) (f : FrP S L H H1) (a : FT H p xs) : FT H1 p xs := by
  obtain ⟨ns, i, c, k', b, A, pl, h1, h2, h3, h4, h5, h6, _⟩ := h
  obtain ⟨o, e, a⟩ := a
  exact ⟨o, e, f _ _ ⟨fun e => (by rw [e, h5] at a; cases a), fun e => (by rw [e, h6] at a; cases a)⟩ a⟩
theorem StR.tr {K : PySem.W.Frag} {H H1 : Hp} {S L : Addr} {r z : Int} {v : V} {t : Tr} (h : StR H S L r z) (f : FrP S L H H1) (a : TrB K H v t) : TrB K H1 v t := a.imp (fun _ _ => h.sqT f) fun _ _ => h.fT f
theorem StR.trs {K : PySem.W.Frag} {H H1 : Hp} {S L : Addr} {r z : Int} {v : List V} {t : List Tr} (h : StR H S L r z) (f : FrP S L H H1) (a : TrsB K H v t) : TrsB K H1 v t := a.imp (fun _ _ => h.sqT f) fun _ _ => h.fT f
theorem Tl.fr {H H1 : Hp} {S L q : Addr} {w : Ws} (f : FrP S L H H1) (n : q ≠ S ∧ q ≠ L) (a : Tl H q w) : Tl H1 q w := f _ _ n a
theorem plain_some' {a : List Nat} {v : V} (h : plainL.lookup a = some v) : v = .non ∨ v = .bl true ∨ v = .bl false := by
  unfold plainL at h
  simp only [List.lookup] at h
  split at h
  · cases h; exact .inl rfl
  · split at h
    · cases h; exact .inr (.inl rfl)
    · split at h
      · cases h; exact .inr (.inr rfl)
      · cases h
/-- what is left to be spent, as a measure -/
def Phi (r : Int) : Int := if 0 < r then 40 * r + 400 else 0
theorem Phi_mono {r s : Int} (h : r ≤ s) : Phi r ≤ Phi s := by unfold Phi; split <;> split <;> omega
theorem Phi_nn (r : Int) : 0 ≤ Phi r := by unfold Phi; split <;> omega
theorem w_strN {H : Hp} {Q : VK} {n : Nat} (hn : n ≤ 1000000000000) (k : Q (T (numL n)) H) : rStrI [.int (n : Int)] H Q := by
  refine ⟨(n : Int), rfl, ?_, ?_⟩
  · rw [Int.natAbs_natCast]
    by_cases h0 : n = 0
    · subst h0; decide
    · exact Nat.lt_trans ((Nat.log2_lt h0).mpr (show n < 2 ^ 41 by omega)) (by decide)
  · have e : V.str (toString (n : Int)) = T (numL n) := by rw [T_eta]; exact congrArg T (tl_num n)
    rw [e]
    exact k
section
variable {P : Program} {w : World} {K : PySem.W.Frag} {mg : Str → Option Value} {base : Heap}
abbrev s_law_names : Stmt := topS 14
abbrev N_law_names : List Str := ["state", "count", "taken", "names", "k", "name"]
theorem sc_law_names : FnScope N_law_names ["state", "count", "taken"] (defScope s_law_names) := ⟨rfl, rfl, rfl, by decide +kernel, rfl, by decide +kernel, by decide +kernel⟩
def spGNames : Sp := fun vs H Q _ => ∃ (S L N : Addr) (r z m : Int) (tk : Ws), vs = [.ref S, .int m, .ref N] ∧ StR H S L r z ∧ Tl H N tk ∧ (N ≠ S ∧ N ≠ L) ∧ 0 ≤ m ∧ m ≤ 1000 ∧ -890000 + 21 * m ≤ r + 21 * 10 ∧
  ∀ (q : Addr) (l : Ws) (r' : Int) (H' : Hp), l.Nodup → (∀ x ∈ l, x ∉ tk) → (∀ x ∈ l, IsName x) → (l.length : Int) ≤ m → Tl H' q l → H q = none → r' ≤ r ∧ r ≤ r' + 21 * m → StR H' S L r' z → FrP S L H H' → Q (.ref q) H'
theorem ok_law_names {f : Addr} {fd : FuncData} (F : Fun K "_law_names" "_law_names" s_law_names f fd) (Y : Bn mg) (c_law_name : Cal P w K mg base 3 "_law_name" (spTx IsName 21) []) : FnOk P w K mg base CX0 4 f fd ["state", "count", "taken"] spGNames := by
  refine F.ok sc_law_names (fun vs H Q E h => ?_) (fun cdv A outer s H vs Q E hr h => ?_)
  · obtain ⟨S, L, N, r, z, m, tk, rfl, _⟩ := h
    rfl
  · obtain ⟨S, L, N, r, z, m, tk, rfl, hSt, hN, nN, m0, m1, lo, kQ⟩ := h
    have nd := sc_law_names.nd
    refine ⟨_, (pss_cons (ps_set (i := 3) nd rfl (Or.inl rfl) (pe_lst pa_nil))
      (pss_cons (ps_for PassesOwn.never rfl (pi_range1 rfl Y.n_range (pa_cons (pv 1) pa_nil)) (pg_name (i := 4) nd rfl (Or.inl rfl)) (pss_cons (ps_set (i := 5) nd rfl (Or.inl rfl) (pe_c c_law_name hr (by omega) rfl (pa_cons (pv 0) pa_nil)))
      (pss_one (ps_if (PW.pt (pw_and (pt_cmpR op_notIn_seq (pv 5) (pv 3) (by rfl)) (pw_and1 (pt_cmpR op_notIn_seq (pv 5) (pv 2) (by rfl))))) (pss_one (ps_expr (pe_bm PySem.F.plainAttrs_list PySem.F.slot_list_append PySem.F.type_list_append mt_append (pv 3) (pa_cons (pv 5) pa_nil)))) pss_nil))))
      (pss_one (ps_ret (pv 3))))), ?_⟩
    rw [show L2.start N_law_names [.ref S, .int m, .ref N] = [some (.ref S), some (.int m), some (.ref N), none, none, none] from rfl]
    walk_at "rdy"
    refine w_newL (by show 0 ≤ 1000000; decide) fun D H1 hD s1 h1 => ?_
    walk_at "rdy"
    have nD := hSt.new3 hD
    have nND : N ≠ D := fun e => by unfold Tl at hN; rw [e, hD] at hN; cases hN
    refine for_R (fun i σ' H' => ∃ (l : Ws) (r' : Int) (x4 x5 : Option V), σ' = [some (.ref S), some (.int m), some (.ref N), some (.ref D), x4, x5] ∧ StR H' S L r' z ∧ (r' ≤ r ∧ r ≤ r' + 21 * (i : Int)) ∧ FrP S L H H' ∧ H' D = some (.lst (l.map T)) ∧ l.Nodup ∧ (∀ x ∈ l, x ∉ tk) ∧ (∀ x ∈ l, IsName x) ∧ l.length ≤ i) m0 (by omega)
      ⟨[], r, none, none, rfl, hSt.mono s1, ⟨Int.le_refl _, by omega⟩, (FrP.refl S L H).to s1, h1, List.nodup_nil, (fun x hx => absurd hx List.not_mem_nil), (fun x hx => absurd hx List.not_mem_nil), Nat.le_refl _⟩ ?_ ?_
    · rintro i σ' H2 hi ⟨l, r2, x4, x5, rfl, hSt2, hr2, f2, h2, hnd, htk, hnm, hl⟩
      walk_at "rdy"
      refine use_tx hSt2 (by omega) fun a r3 H3 ha hra hr3 hSt3 f3 => ?_
      have h3 := f3 _ _ nD.1 h2
      have hN3 := f3 _ _ nN (f2 _ _ nN hN)
      walk_at "rdy"
      refine w_ninL (SqL.of h3) ?_
      refine ⟨_, rfl, ?_⟩
      refine w_ifn (fun hin => ?_) (fun hin => ?_)
      · walk_at "rdy"
        refine w_ninL (SqL.of hN3) ?_
        refine ⟨_, rfl, ?_⟩
        refine w_ifn (fun hin2 => ?_) (fun hin2 => ?_)
        · walk_at "rdy"
          refine ⟨tyL (SqL.of h3), ?_⟩
          walk_at "rdy"
          refine w_app2 h3 (by rw [List.length_map]; omega) fun H4 h4 k4 => ?_
          walk_at "rdy"
          refine ⟨l ++ [a], r3, _, _, rfl, hSt3.grow nD k4, by have := ha.1.len; omega, (f2.trans f3).grow hD k4, by rw [h4, List.map_append]; rfl, ?_, ?_, ?_, by rw [List.length_append]; show l.length + 1 ≤ i + 1; omega⟩
          · exact List.nodup_append.mpr ⟨hnd, List.nodup_cons.mpr ⟨List.not_mem_nil, List.nodup_nil⟩, fun x hx y hy e => hin (by rw [List.mem_singleton.mp hy] at e; rw [← e]; exact hx)⟩
          · intro x hx
            rcases List.mem_append.mp hx with hx | hx
            · exact htk x hx
            · rw [List.mem_singleton.mp hx]; exact hin2
          · intro x hx
            rcases List.mem_append.mp hx with hx | hx
            · exact hnm x hx
            · rw [List.mem_singleton.mp hx]; exact ha
        · exact ⟨l, r3, _, _, rfl, hSt3, by have := ha.1.len; omega, f2.trans f3, h3, hnd, htk, hnm, by omega⟩
      · exact ⟨l, r3, _, _, rfl, hSt3, by have := ha.1.len; omega, f2.trans f3, h3, hnd, htk, hnm, by omega⟩
    · rintro σ' H2 ⟨l, r2, x4, x5, rfl, hSt2, hr2, f2, h2, hnd, htk, hnm, hl⟩
      walk_at "rdy"
      exact kQ D l r2 H2 hnd htk hnm (by omega) h2 hD ⟨hr2.1, by omega⟩ hSt2 f2
abbrev s_law_commas : Stmt := topS 15
abbrev N_law_commas : List Str := ["names", "tokens", "name"]
theorem sc_law_commas : FnScope N_law_commas ["names"] (defScope s_law_commas) := ⟨rfl, rfl, rfl, by decide +kernel, rfl, by decide +kernel, by decide +kernel⟩
def spCommas : Sp := fun vs H Q _ => ∃ (N : Addr) (l : Ws), vs = [.ref N] ∧ Tl H N l ∧ l.length ≤ 1000 ∧ ∀ q H', Tl H' q (commas l) → H q = none → Same H H' → Q (.ref q) H'
theorem commas_snoc (a : List Nat) : ∀ {l : Ws}, l ≠ [] → commas (l ++ [a]) = commas l ++ [cds ",", a]
  | [], h => absurd rfl h
  | [b], _ => rfl
  | b :: c :: l, _ => by
    show b :: cds "," :: commas (c :: l ++ [a]) = b :: cds "," :: commas (c :: l) ++ [cds ",", a]
    rw [commas_snoc a (List.cons_ne_nil c l)]
    rfl
theorem ok_law_commas {f : Addr} {fd : FuncData} (F : Fun K "_law_commas" "_law_commas" s_law_commas f fd) (Y : Bn mg) : FnOk P w K mg base CX0 1 f fd ["names"] spCommas := by
  refine F.ok sc_law_commas (fun vs H Q E h => ?_) (fun cdv A outer s H vs Q E hr h => ?_)
  · obtain ⟨N, l, rfl, _⟩ := h
    rfl
  · obtain ⟨N, l, rfl, hN, hl, kQ⟩ := h
    have nd := sc_law_commas.nd
    refine ⟨_, (pss_cons (ps_set (i := 1) nd rfl (Or.inl rfl) (pe_lst pa_nil))
      (pss_cons (ps_for PassesOwn.never rfl (pi_list (pv 0)) (pg_name (i := 2) nd rfl (Or.inl rfl)) (pss_cons (ps_if (pt_tru (pv 1)) (pss_one (ps_expr (pe_bm PySem.F.plainAttrs_list PySem.F.slot_list_append PySem.F.type_list_append mt_append (pv 1) (pa_cons pe_str pa_nil)))) pss_nil)
      (pss_one (ps_expr (pe_bm PySem.F.plainAttrs_list PySem.F.slot_list_append PySem.F.type_list_append mt_append (pv 1) (pa_cons (pv 2) pa_nil))))))
      (pss_one (ps_ret (pv 1))))), ?_⟩
    rw [show L2.start N_law_commas [.ref N] = [some (.ref N), none, none] from rfl]
    walk_at "rdy"
    refine w_newL (by show 0 ≤ 1000000; decide) fun D H1 hD s1 h1 => ?_
    walk_at "rdy"
    have nND : N ≠ D := fun e => by unfold Tl at hN; rw [e, hD] at hN; cases hN
    have lc : ∀ i, (commas (l.take i)).length ≤ 2 * l.length := fun i => by
      by_cases h0 : l.take i = []
      · rw [h0]; exact Nat.zero_le _
      · have := commas_len h0
        rw [List.length_take] at this
        omega
    refine for_L (xs := l.map T) (fun i σ' H' => ∃ x : Option V, σ' = [some (.ref N), some (.ref D), x] ∧ Same H H' ∧ H' D = some (.lst ((commas (l.take i)).map T))) ⟨none, rfl, s1, h1⟩ (fun i σ' H' _ h => h.elim fun x h => SqL.of (h.2.1 _ _ hN)) ?_ ?_
    · rintro i v σ' H2 hv ⟨x, rfl, s2, h2⟩
      obtain ⟨a, ha, rfl⟩ : ∃ a, l[i]? = some a ∧ v = T a := by
        rw [List.getElem?_map] at hv
        cases e : l[i]? with
        | none => rw [e] at hv; cases hv
        | some a => rw [e] at hv; exact ⟨a, rfl, (Option.some.inj hv).symm⟩
      obtain ⟨hil, ea⟩ := List.getElem?_eq_some_iff.mp ha
      have et : l.take (i + 1) = l.take i ++ [a] := by rw [List.take_succ_eq_append_getElem hil, ea]
      have hli := lc i
      have fin : ∀ H3, Same H H3 → H3 D = some (.lst ((commas (l.take i)).map T ++ if l.take i = [] then [] else [T (cds ",")])) → ∀ H4, H4 D = some (.lst (((commas (l.take i)).map T ++ if l.take i = [] then [] else [T (cds ",")]) ++ [T a])) → But D H3 H4 → Same H H4 ∧ H4 D = some (.lst ((commas (l.take (i + 1))).map T)) := fun H3 s3 h3 H4 h4 k4 => by
        refine ⟨same_of_but hD s3 k4, ?_⟩
        rw [h4, et]
        by_cases h0 : l.take i = []
        · rw [h0]; rfl
        · rw [commas_snoc a h0, if_neg h0, List.map_append, List.append_assoc]; rfl
      walk_at "rdy"
      refine w_truL (SqL.of h2) (fun hne => ?_) (fun hem => ?_)
      · have h0 : l.take i ≠ [] := fun e => hne (by rw [e]; rfl)
        rw [if_neg h0] at fin
        walk_at "rdy"
        refine ⟨tyL (SqL.of h2), ?_⟩
        walk_at "rdy"
        refine w_app2 h2 (by rw [List.length_map]; omega) fun H3 h3 k3 => ?_
        walk_at "rdy"
        refine ⟨tyL (SqL.of h3), ?_⟩
        walk_at "rdy"
        refine w_app2 h3 (by rw [List.length_append, List.length_map]; show _ + 1 ≤ 1000000; omega) fun H4 h4 k4 => ?_
        walk_at "rdy"
        obtain ⟨z1, z2⟩ := fin H3 (same_of_but hD s2 k3) h3 H4 h4 k4
        exact ⟨_, rfl, z1, z2⟩
      · have h0 : l.take i = [] := by
          cases e : l.take i with
          | nil => rfl
          | cons b m => rw [e, commas_cons] at hem; cases hem
        rw [if_pos h0, List.append_nil] at fin
        walk_at "rdy"
        refine ⟨tyL (SqL.of h2), ?_⟩
        walk_at "rdy"
        refine w_app2 h2 (by rw [List.length_map]; omega) fun H4 h4 k4 => ?_
        walk_at "rdy"
        obtain ⟨z1, z2⟩ := fin H2 s2 h2 H4 h4 k4
        exact ⟨_, rfl, z1, z2⟩
    · rintro σ' H2 ⟨x, rfl, s2, h2⟩
      rw [List.length_map, List.take_length] at h2
      walk_at "rdy"
      exact kQ D H2 h2 hD s2
abbrev s_law_leaf : Stmt := topS 16
abbrev N_law_leaf : List Str := ["state", "kind", "number", "value", "word", "name", "text"]
theorem sc_law_leaf : FnScope N_law_leaf ["state"] (defScope s_law_leaf) := ⟨rfl, rfl, rfl, by decide +kernel, rfl, by decide +kernel, by decide +kernel⟩
def spLeaf (K : PySem.W.Frag) : Sp := fun vs H Q _ => ∃ (S L : Addr) (r z : Int), vs = [.ref S] ∧ StR H S L r z ∧ -900000 ≤ r ∧
  ∀ (p : Addr) (v : V) (q : Addr) (t : Tr) (w : Ws) (r' : Int) (H' : Hp), H' p = some (.tup [v, .ref q]) → TrB K H' v t → Tl H' q w → (∀ h, Ex 9 (h + 1) t w []) → (∀ a ∈ w, Tok a) → ((wt w : Int) + Phi r' ≤ Phi r + 30 ∧ r + 3 ≤ r' + wt w) → (r ≤ 0 → wt w ≤ 4) → r' ≤ r → H q = none → StR H' S L r' z → FrP S L H H' → Q (.ref p) H'
theorem numL_9 : ∀ n < 10, (numL n).length = 1 := by decide +kernel
theorem tok1 {a : List Nat} (h : Tok a) : ∀ x ∈ [a], Tok x := fun x hx => by rw [List.mem_singleton.mp hx]; exact h
theorem ok_law_leaf {f : Addr} {fd : FuncData} (F : Fun K "_law_leaf" "_law_leaf" s_law_leaf f fd) (Y : Bn mg) (c_law_draw : Cal P w K mg base 1 "_law_draw" spDraw []) (c_law_number : Cal P w K mg base 3 "_law_number" spNum []) (c_law_class : Cal P w K mg base 3 "_law_class" (spTx IsClass 0) [])
    (c_law_characters : Cal P w K mg base 3 "_law_characters" (spTx IsText 0) []) (c_law_name : Cal P w K mg base 3 "_law_name" (spTx IsName 21) []) : FnOk P w K mg base CX0 4 f fd ["state"] (spLeaf K) := by
  refine F.ok sc_law_leaf (fun vs H Q E h => ?_) (fun cdv A outer s H vs Q E hr h => ?_)
  · obtain ⟨S, L, r, z, rfl, _⟩ := h
    rfl
  · obtain ⟨S, L, r, z, rfl, hSt, lo, kQ⟩ := h
    have nd := sc_law_leaf.nd
    refine ⟨_, (pss_cons (ps_set (i := 1) nd rfl (Or.inl rfl) (pe_c c_law_draw hr (by omega) rfl (pa_cons (pv 0) (pa_cons pe_int pa_nil))))
      (pss_cons (ps_if (PW.pt (pw_or (pt_cmpR op_le (pe_ix ix_list (pv 0) pe_int (fun _ _ => rfl)) pe_int (nomark _)) (pw_or1 (pt_cmpR op_eq (pv 1) pe_int (nomark _))))) (pss_cons (ps_set (i := 2) nd rfl (Or.inl rfl) (pe_c c_law_draw hr (by omega) rfl (pa_cons (pv 0) (pa_cons pe_int pa_nil))))
      (pss_one (ps_ret (pe_tup (pa_cons (pe_tup (pa_cons pe_str (pa_cons (pv 2) pa_nil))) (pa_cons (pe_lst (pa_cons (pe_callTy call_strI (by rfl) Y.n_str (by decide +kernel) (pa_cons (pv 2) pa_nil)) pa_nil)) pa_nil)))))) pss_nil)
      (pss_cons (ps_if (pt_cmpR op_eq (pv 1) pe_int (nomark _)) (pss_cons (ps_set (i := 2) nd rfl (Or.inl rfl) (pe_c c_law_number hr (by decide) rfl (pa_cons (pv 0) pa_nil)))
      (pss_one (ps_ret (pe_tup (pa_cons (pe_tup (pa_cons pe_str (pa_cons (pv 2) pa_nil))) (pa_cons (pe_lst (pa_cons (pe_callTy call_strI (by rfl) Y.n_str (by decide +kernel) (pa_cons (pv 2) pa_nil)) pa_nil)) pa_nil)))))) pss_nil)
      (pss_cons (ps_if (pt_cmpR op_eq (pv 1) pe_int (nomark _)) (pss_cons (ps_asg (pe_ix ix_list (pe_lst (pa_cons (pe_tup (pa_cons pe_non (pa_cons pe_str pa_nil))) (pa_cons (pe_tup (pa_cons pe_bl (pa_cons pe_str pa_nil))) (pa_cons (pe_tup (pa_cons pe_bl (pa_cons pe_str pa_nil))) pa_nil)))) (pe_c c_law_draw hr (by omega) rfl (pa_cons (pv 0) (pa_cons pe_int pa_nil))) (fun _ _ => rfl)) (pg_tup (by rfl) (pgs_cons (pg_name (i := 3) nd rfl (Or.inl rfl)) (pgs_cons (pg_name (i := 4) nd rfl (Or.inl rfl)) pgs_nil))))
      (pss_one (ps_ret (pe_tup (pa_cons (pe_tup (pa_cons pe_str (pa_cons (pv 3) pa_nil))) (pa_cons (pe_lst (pa_cons (pv 4) pa_nil)) pa_nil)))))) pss_nil)
      (pss_cons (ps_if (pt_cmpR op_eq (pv 1) pe_int (nomark _)) (pss_one (ps_ret (pe_tup (pa_cons (pe_tup (pa_cons pe_str pa_nil)) (pa_cons (pe_lst (pa_cons pe_str pa_nil)) pa_nil))))) pss_nil)
      (pss_cons (ps_if (pt_cmpR op_eq (pv 1) pe_int (nomark _)) (pss_cons (ps_set (i := 5) nd rfl (Or.inl rfl) (pe_c c_law_class hr (by decide) rfl (pa_cons (pv 0) pa_nil)))
      (pss_one (ps_ret (pe_tup (pa_cons (pe_tup (pa_cons pe_str (pa_cons (pv 5) pa_nil))) (pa_cons (pe_lst (pa_cons pe_str (pa_cons (pv 5) pa_nil))) pa_nil)))))) pss_nil)
      (pss_cons (ps_if (pt_cmpR op_eq (pv 1) pe_int (nomark _)) (pss_cons (ps_set (i := 6) nd rfl (Or.inl rfl) (pe_c c_law_characters hr (by decide) rfl (pa_cons (pv 0) pa_nil)))
      (pss_one (ps_ret (pe_tup (pa_cons (pe_tup (pa_cons pe_str (pa_cons (pv 6) pa_nil))) (pa_cons (pe_lst (pa_cons (pe_op op_addS (pe_op op_addS pe_str (pv 6)) pe_str) pa_nil)) pa_nil)))))) pss_nil)
      (pss_cons (ps_set (i := 5) nd rfl (Or.inl rfl) (pe_c c_law_name hr (by omega) rfl (pa_cons (pv 0) pa_nil)))
      (pss_one (ps_ret (pe_tup (pa_cons (pe_tup (pa_cons pe_str (pa_cons (pv 5) pa_nil))) (pa_cons (pe_lst (pa_cons (pv 5) pa_nil)) pa_nil))))))))))))), ?_⟩
    rw [show L2.start N_law_leaf [.ref S] = [some (.ref S), none, none, none, none, none, none] from rfl]
    walk_at "rdy"
    refine use_draw hSt (by decide) (by decide) fun y H1 y0 y1 hSt1 f1 => ?_
    obtain ⟨A0, i0, c0, k0, b0, hS1⟩ := hSt1.obj
    walk_at "rdy"
    have fin : ∀ {u : Ws} {vs : List V} {t : List Tr} {r' : Int} {H2 H3 H4 H5 : Hp} {p q m : Addr}, (∀ vs H, blkOk H vs t) → StR H2 S L r' z → FrP S L H H2 → TrsB K H2 vs t → (∀ h, Ex 9 (h + 1) (.t t) u []) → (∀ a ∈ u, Tok a) → ((wt u : Int) + Phi r' ≤ Phi r + 30 ∧ r + 3 ≤ r' + wt u) → (r ≤ 0 → wt u ≤ 4) → r' ≤ r →
        Same H2 H3 → H3 p = some (.tup vs) → H3 q = none → Same H3 H4 → H4 q = some (.lst (u.map T)) → Same H4 H5 → H5 m = some (.tup [.ref p, .ref q]) → Q (.ref m) H5 := fun {u vs t r' H2 H3 H4 H5 p q m} hb hS2 f2 ht e tok c1 c2 c3 s3 h3 hq s4 h4 s5 h5 =>
      kQ m (.ref p) q _ u r' H5 h5 (.t (.inl (.inl (s5 _ _ (s4 _ _ h3)))) ((ht.same (s3.trans s4)).same s5) (hb _ _)) (s5 _ _ h4) e tok c1 c2 c3 ((f2.to s3).free ((hS2.mono s3).new hq) hq) (((hS2.mono s3).mono s4).mono s5) (((f2.to s3).to s4).to s5)
    have leaves : ∀ {a : List Nat} {n : Nat}, a.length ≤ n → n ≤ 27 → ((wt [a] : Nat) : Int) + Phi r ≤ Phi r + 30 ∧ r + 3 ≤ r + (wt [a] : Nat) := fun {a n} h1 h2 => by
      show ((a.length + 3 + 0 : Nat) : Int) + _ ≤ _ ∧ _ ≤ _ + ((a.length + 3 + 0 : Nat) : Int)
      omega
    have num : ∀ {n : Nat} {H2 H3 H4 H5 : Hp} {p q m : Addr}, n ≤ 1000000000 → (r ≤ 0 → n < 10) → StR H2 S L r z → FrP S L H H2 → Same H2 H3 → H3 p = some (.tup [T (cds "plain"), .int (n : Int)]) → H3 q = none → Same H3 H4 → H4 q = some (.lst [T (numL n)]) → Same H4 H5 → H5 m = some (.tup [.ref p, .ref q]) → Q (.ref m) H5 := fun {n H2 H3 H4 H5 p q m} hn h10 hS2 f2 s3 h3 hq s4 h4 s5 h5 =>
      fin (u := [numL n]) (t := [str "plain", .i (n : Int)]) (fun _ _ => blk_str (by decide +kernel)) hS2 f2 (.cons .s (.cons .i .nil)) (fun h => .num (drawn_tk (.number hn))) (tok1 ⟨_, _, .number hn⟩) (leaves (numL_len (n := n) (k := 10) (by decide) (by omega)) (by decide)) (fun h => by show (numL n).length + 3 + 0 ≤ 4; rw [numL_9 n (h10 h)]; exact Nat.le_refl _) (Int.le_refl _) s3 h3 hq s4 h4 s5 h5
    walk_at "rdy"
    refine w_if (fun hr0 => ?_) (fun hr0 => ?_)
    · walk_at "rdy"
      refine use_draw hSt1 (by decide) (by decide) fun n H2 n0 n1 hS2 f2 => ?_
      obtain ⟨n, rfl⟩ : ∃ q : Nat, n = (q : Int) := ⟨n.toNat, by omega⟩
      walk_at "rdy"
      refine w_newT (by show 2 ≤ 1000000; decide) fun p H3 hp s3 h3 => ?_
      walk_at "rdy"
      refine w_strN (by omega) ?_
      walk_at "rdy"
      refine w_newL (by show 1 ≤ 1000000; decide) fun q H4 hq s4 h4 => ?_
      walk_at "rdy"
      refine w_newT (by show 2 ≤ 1000000; decide) fun m H5 hm s5 h5 => ?_
      exact num (by omega) (fun _ => by omega) hS2 (f1.trans f2) s3 h3 hq s4 h4 s5 h5
    · walk_at "rdy"
      refine w_ifI (fun _ => ?_) (fun _ => ?_)
      · walk_at "rdy"
        refine use_draw hSt1 (by decide) (by decide) fun n H2 n0 n1 hS2 f2 => ?_
        obtain ⟨n, rfl⟩ : ∃ q : Nat, n = (q : Int) := ⟨n.toNat, by omega⟩
        walk_at "rdy"
        refine w_newT (by show 2 ≤ 1000000; decide) fun p H3 hp s3 h3 => ?_
        walk_at "rdy"
        refine w_strN (by omega) ?_
        walk_at "rdy"
        refine w_newL (by show 1 ≤ 1000000; decide) fun q H4 hq s4 h4 => ?_
        walk_at "rdy"
        refine w_newT (by show 2 ≤ 1000000; decide) fun m H5 hm s5 h5 => ?_
        exact num (by omega) (fun _ => by omega) hS2 (f1.trans f2) s3 h3 hq s4 h4 s5 h5
      · walk_at "rdy"
        refine w_ifI (fun _ => ?_) (fun _ => ?_)
        · walk_at "rdy"
          refine ⟨S, L, r, z, rfl, hSt1, fun n H2 hn hS2 f2 => ?_⟩
          walk_at "rdy"
          refine w_newT (by show 2 ≤ 1000000; decide) fun p H3 hp s3 h3 => ?_
          walk_at "rdy"
          refine w_strN (by omega) ?_
          walk_at "rdy"
          refine w_newL (by show 1 ≤ 1000000; decide) fun q H4 hq s4 h4 => ?_
          walk_at "rdy"
          refine w_newT (by show 2 ≤ 1000000; decide) fun m H5 hm s5 h5 => ?_
          exact num hn (fun h => absurd h (by omega)) hS2 (f1.trans f2) s3 h3 hq s4 h4 s5 h5
        · walk_at "rdy"
          refine w_ifI (fun _ => ?_) (fun _ => ?_)
          · walk_at "rdy"
            refine w_newT (by show 2 ≤ 1000000; decide) fun p1 H2 hp1 s2 h2 => ?_
            walk_at "rdy"
            refine w_newT (by show 2 ≤ 1000000; decide) fun p2 H3 hp2 s3 h3 => ?_
            walk_at "rdy"
            refine w_newT (by show 2 ≤ 1000000; decide) fun p3 H4 hp3 s4 h4 => ?_
            walk_at "rdy"
            refine w_newL (by show 3 ≤ 1000000; decide) fun q0 H5 hq0 s5 h5 => ?_
            walk_at "rdy"
            have hS5 := (((hSt1.mono s2).mono s3).mono s4).mono s5
            have f5 := (((f1.to s2).to s3).to s4).to s5
            have nq0 := (((hSt1.mono s2).mono s3).mono s4).new hq0
            refine use_draw hS5 (by decide) (by decide) fun n H6 n0 n1 hS6 f6 => ?_
            have g1 := f6 _ _ (hSt1.new hp1) (s5 _ _ (s4 _ _ (s3 _ _ h2)))
            have g2 := f6 _ _ ((hSt1.mono s2).new hp2) (s5 _ _ (s4 _ _ h3))
            have g3 := f6 _ _ (((hSt1.mono s2).mono s3).new hp3) (s5 _ _ h4)
            have g5 := f6 _ _ nq0 h5
            obtain ⟨pp, v, a, he, hpp, ha, hv⟩ : ∃ (pp : Addr) (v : V) (a : List Nat), atI [V.ref p1, .ref p2, .ref p3] n = some (.ref pp) ∧ H6 pp = some (.tup [v, T a]) ∧ a ∈ [cds "none", cds "true", cds "false"] ∧ plainL.lookup a = some v := by
              rcases (show n = 0 ∨ n = 1 ∨ n = 2 by omega) with rfl | rfl | rfl
              · exact ⟨p1, _, _, rfl, g1, by decide +kernel, by decide +kernel⟩
              · exact ⟨p2, _, _, rfl, g2, by decide +kernel, by decide +kernel⟩
              · exact ⟨p3, _, _, rfl, g3, by decide +kernel, by decide +kernel⟩
            refine w_ixL (SqL.of g5) he ?_
            walk_at "rdy"
            refine ⟨pp, _, rfl, .inl (.inl hpp), rfl, ?_⟩
            refine ⟨_, _, rfl, ?_⟩
            walk_at "rdy"
            refine ⟨_, _, rfl, ?_⟩
            walk_at "rdy"
            refine ⟨rfl, ?_⟩
            walk_at "rdy"
            refine w_newT (by show 2 ≤ 1000000; decide) fun p H3 hp s3 h3 => ?_
            walk_at "rdy"
            refine w_newL (by show 1 ≤ 1000000; decide) fun q H4 hq s4 h4 => ?_
            walk_at "rdy"
            refine w_newT (by show 2 ≤ 1000000; decide) fun m H5 hm s5 h5 => ?_
            have vt : ∀ H, TrB K H v (plainTr v) := fun H => by
              rcases plain_some' hv with rfl | rfl | rfl
              · exact .n
              · exact .b
              · exact .b
            have al : a.length ≤ 5 := (by decide +kernel : ∀ a ∈ [cds "none", cds "true", cds "false"], a.length ≤ 5) a ha
            have aw : a ∈ WM := (by decide +kernel : ∀ a ∈ [cds "none", cds "true", cds "false"], a ∈ WM) a ha
            exact fin (u := [a]) (t := [str "plain", plainTr v]) (fun _ _ => blk_str (by decide +kernel)) hS6 (f5.trans f6) (.cons .s (.cons (vt _) .nil)) (fun h => .word hv) (tok1 (wm_tok a aw)) (leaves al (by decide)) (fun h => absurd h (by omega)) (Int.le_refl _) s3 h3 hq s4 h4 s5 h5
          · walk_at "rdy"
            refine w_ifI (fun _ => ?_) (fun _ => ?_)
            · walk_at "rdy"
              refine w_newT (by show 1 ≤ 1000000; decide) fun p H3 hp s3 h3 => ?_
              walk_at "rdy"
              refine w_newL (by show 1 ≤ 1000000; decide) fun q H4 hq s4 h4 => ?_
              walk_at "rdy"
              refine w_newT (by show 2 ≤ 1000000; decide) fun m H5 hm s5 h5 => ?_
              exact fin (u := [cds "self"]) (t := [str "self"]) (fun _ _ => blk_str (by decide +kernel)) hSt1 f1 (.cons .s .nil) (fun h => .self) (tok1 (wm_tok _ (by decide +kernel))) (leaves (n := 4) (by decide +kernel) (by decide)) (fun h => absurd h (by omega)) (Int.le_refl _) s3 h3 hq s4 h4 s5 h5
            · walk_at "rdy"
              refine w_ifI (fun _ => ?_) (fun _ => ?_)
              · walk_at "rdy"
                refine use_tx hSt1 lo fun a r2 H2 ha hra hr2 hS2 f2 => ?_
                walk_at "rdy"
                refine w_newT (by show 2 ≤ 1000000; decide) fun p H3 hp s3 h3 => ?_
                walk_at "rdy"
                refine w_newL (by show 2 ≤ 1000000; decide) fun q H4 hq s4 h4 => ?_
                walk_at "rdy"
                refine w_newT (by show 2 ≤ 1000000; decide) fun m H5 hm s5 h5 => ?_
                have al : a.length ≤ 20 := RunOf.len ha
                have e3 : (cds "new").length = 3 := by decide +kernel
                refine fin (u := [cds "new", a]) (t := [str "new", .s a]) (fun _ _ => blk_str (by decide +kernel)) hS2 (f1.trans f2) (.cons .s (.cons .s .nil)) (fun h => .new (drawn_tk (.cls ha))) (fun x hx => ?_) ?_ (fun h => absurd h (by omega)) hr2 s3 h3 hq s4 h4 s5 h5
                · rcases List.mem_cons.mp hx with rfl | hx
                  · exact wm_tok _ (by decide +kernel)
                  · rw [List.mem_singleton.mp hx]; exact ⟨_, _, .cls ha⟩
                · have := Phi_mono hr2
                  show (((cds "new").length + 3 + (a.length + 3 + 0) : Nat) : Int) + _ ≤ _ ∧ _ ≤ _ + (((cds "new").length + 3 + (a.length + 3 + 0) : Nat) : Int)
                  omega
              · walk_at "rdy"
                refine w_ifI (fun _ => ?_) (fun _ => ?_)
                · walk_at "rdy"
                  refine use_tx hSt1 lo fun a r2 H2 ha hra hr2 hS2 f2 => ?_
                  walk_at "rdy"
                  refine w_newT (by show 2 ≤ 1000000; decide) fun p H3 hp s3 h3 => ?_
                  walk_at "rdy"
                  have al : a.length ≤ 200 := ha.2
                  have eq1 : (Str.ofString "'").cps.toList = [39] := by decide +kernel
                  rw [eq1]
                  refine w_addS (by show 1 + _ ≤ _; omega) ?_
                  walk_at "rdy"
                  rw [eq1]
                  refine w_addS (by show ([39] ++ a).length + 1 ≤ _; rw [List.length_append]; show 1 + _ + 1 ≤ _; omega) ?_
                  walk_at "rdy"
                  refine w_newL (by show 1 ≤ 1000000; decide) fun q H4 hq s4 h4 => ?_
                  walk_at "rdy"
                  refine w_newT (by show 2 ≤ 1000000; decide) fun m H5 hm s5 h5 => ?_
                  refine fin (u := [39 :: (a ++ [39])]) (t := [str "plain", .s a]) (fun _ _ => blk_str (by decide +kernel)) hS2 (f1.trans f2) (.cons .s (.cons .s .nil)) (fun h => .text (drawn_tk (.text ha))) (tok1 ⟨_, _, .text ha⟩) ?_ (fun h => absurd h (by omega)) hr2 s3 h3 hq s4 h4 s5 h5
                  show (((39 :: (a ++ [39])).length + 3 + 0 : Nat) : Int) + _ ≤ _ ∧ _ ≤ _ + (((39 :: (a ++ [39])).length + 3 + 0 : Nat) : Int)
                  rw [List.length_cons, List.length_append]
                  unfold Phi
                  rw [if_pos (show 0 < r by omega)]
                  split
                  · show ((a.length + 1 + 1 + 3 + 0 : Nat) : Int) + _ ≤ _ ∧ _ ≤ _ + ((a.length + 1 + 1 + 3 + 0 : Nat) : Int); omega
                  · show ((a.length + 1 + 1 + 3 + 0 : Nat) : Int) + _ ≤ _ ∧ _ ≤ _ + ((a.length + 1 + 1 + 3 + 0 : Nat) : Int); omega
                · walk_at "rdy"
                  refine use_tx hSt1 lo fun a r2 H2 ha hra hr2 hS2 f2 => ?_
                  walk_at "rdy"
                  refine w_newT (by show 2 ≤ 1000000; decide) fun p H3 hp s3 h3 => ?_
                  walk_at "rdy"
                  refine w_newL (by show 1 ≤ 1000000; decide) fun q H4 hq s4 h4 => ?_
                  walk_at "rdy"
                  refine w_newT (by show 2 ≤ 1000000; decide) fun m H5 hm s5 h5 => ?_
                  have al : a.length ≤ 20 := RunOf.len ha.1
                  refine fin (u := [a]) (t := [str "name", .s a]) (fun _ _ => blk_str (by decide +kernel)) hS2 (f1.trans f2) (.cons .s (.cons .s .nil)) (fun h => .name (name_nm ha)) (tok1 (name_tok ha)) ?_ (fun h => absurd h (by omega)) hr2 s3 h3 hq s4 h4 s5 h5
                  have := Phi_mono hr2
                  show ((a.length + 3 + 0 : Nat) : Int) + _ ≤ _ ∧ _ ≤ _ + ((a.length + 3 + 0 : Nat) : Int)
                  omega
end
end
section
open PySem PySem.Spec PyProof.Rows L2
open C8 (Cal cal0 pe_c pe_gc pss_cut tCut)

theorem al_snoc {h lv : Nat} {t : Tr} {w1 : Ws} {n1 : List Ws} (hl : 1 ≤ lv) (e : Ex lv h t w1 n1) : ∀ {l : List Tr} {w : Ws} {ns : List Ws}, Al h l w ns → Al h (l ++ [t]) (w ++ cds "," :: w1) (ns ++ n1)
  | _, _, _, .nil => by
    have := Al.cons (w2 := []) (n2 := []) hl e .nil
    rw [List.append_nil, List.append_nil] at this
    exact this
  | _, _, _, .cons a b c => by
    have := Al.cons a b (al_snoc hl e c)
    rw [← List.append_assoc, ← List.append_assoc] at this
    exact this
theorem ar_snoc {h lv : Nat} {t : Tr} {w1 : Ws} {n1 : List Ws} (hl : 1 ≤ lv) (e : Ex lv h t w1 n1) {l : List Tr} {w : Ws} {ns : List Ws} (a : Ar h l w ns) (h7 : l.length ≤ 7) : Ar h (l ++ [t]) ((if l = [] then w else w ++ [cds ","]) ++ w1) (ns ++ n1) := by
  cases a with
  | nil =>
    have := Ar.cons (w2 := []) (n2 := []) hl e .nil (Nat.zero_le _)
    rw [List.append_nil, List.append_nil] at this
    rw [if_pos rfl]
    exact this
  | cons a b c d =>
    rw [List.length_cons] at h7
    have := Ar.cons a b (al_snoc hl e c) (by rw [List.length_append]; show _ + 1 ≤ 7; omega)
    rw [if_neg (List.cons_ne_nil _ _), List.append_assoc, List.append_assoc, List.append_assoc]
    exact this
theorem bl_snoc {h : Nat} {t : Tr} {w1 : Ws} {n1 : List Ws} (e : St h t w1 n1) : ∀ {l : List Tr} {w : Ws} {ns : List Ws}, Bl h l w ns → Bl h (l ++ [t]) (w ++ cds ";" :: w1) (ns ++ n1)
  | _, _, _, .nil => by
    have := Bl.cons (w2 := []) (n2 := []) e .nil
    rw [List.append_nil, List.append_nil] at this
    exact this
  | _, _, _, .cons b c => by
    have := Bl.cons b (bl_snoc e c)
    rw [← List.append_assoc, ← List.append_assoc] at this
    exact this
theorem bd_snoc {h : Nat} {t : Tr} {w1 : Ws} {n1 : List Ws} (e : St h t w1 n1) {l : List Tr} {w : Ws} {ns : List Ws} (a : Bd h l w ns) : Bd h (l ++ [t]) ((if l = [] then w else w ++ [cds ";"]) ++ w1) (ns ++ n1) := by
  cases a with
  | nil =>
    have := Bd.cons (w2 := []) (n2 := []) e .nil
    rw [List.append_nil, List.append_nil] at this
    rw [if_pos rfl]
    exact this
  | cons b c =>
    have := Bd.cons b (bl_snoc e c)
    rw [if_neg (List.cons_ne_nil _ _), List.append_assoc, List.append_assoc, List.append_assoc]
    exact this
/-- what is handed back: a pair of v and a new list of tokens -/
def GiveD (d : Int) (S L : Addr) (r z : Int) (H : Hp) (Q : VK) (ok : V → Hp → Ws → List Ws → Prop) (c : Int) : Prop := ∀ (p : Addr) (v : V) (q : Addr) (w : Ws) (ns : List Ws) (r' : Int) (H' : Hp), H' p = some (.tup [v, .ref q]) → ok v H' w ns → Tl H' q w → (∀ l ∈ ns, l.Nodup) → (∀ a ∈ w, Tok a) → ((wt w : Int) + Phi r' ≤ Phi r + c ∧ r + d ≤ r' + 16 * (wt w : Int)) → r' ≤ r → H q = none → StR H' S L r' z → FrP S L H H' → Q (.ref p) H'
def Give (S L : Addr) (r z : Int) (H : Hp) (Q : VK) (ok : V → Hp → Ws → List Ws → Prop) (c : Int) : Prop := GiveD 0 S L r z H Q ok c
def okE (K : PySem.W.Frag) (n : Nat) (lo : Nat → Prop) : V → Hp → Ws → List Ws → Prop := fun v H w ns => ∃ lv t, lo lv ∧ TrB K H v t ∧ Ex lv n t w ns
def okL (K : PySem.W.Frag) (n : Nat) : V → Hp → Ws → List Ws → Prop := fun v H w ns => ∃ l w0, w = cds "(" :: (w0 ++ [cds ")"]) ∧ TrB K H v (.t l) ∧ Ar n l w0 ns
def okB (K : PySem.W.Frag) (n : Nat) : V → Hp → Ws → List Ws → Prop := fun v H w ns => ∃ l, TrB K H v (.t l) ∧ Bd n l w ns
def okS (K : PySem.W.Frag) (n : Nat) : V → Hp → Ws → List Ws → Prop := fun v H w ns => ∃ t, TrB K H v t ∧ St n t w ns
/-- an expression: rooms up to n -/
def spExpr (K : PySem.W.Frag) (n : Nat) : Sp := fun vs H Q _ => ∃ (S L : Addr) (r z : Int) (m a : Nat), vs = [.ref S, .int (m : Int), .int (a : Int)] ∧ StR H S L r z ∧ (r ≤ 500 ∧ -800000 ≤ r - 16 * Phi r ∧ 0 ≤ Phi r) ∧ 1 ≤ m ∧ m ≤ n ∧ a ≤ 9 ∧ GiveD 16 S L r z H Q (okE K m fun lv => a ≤ lv ∧ 1 ≤ lv) (if 0 < r then -100 else 20)
def spStmt (K : PySem.W.Frag) (n : Nat) : Sp := fun vs H Q _ => ∃ (S L : Addr) (r z : Int) (m : Nat), vs = [.ref S, .int (m : Int)] ∧ StR H S L r z ∧ (r ≤ 500 ∧ -800000 ≤ r - 16 * Phi r ∧ 0 ≤ Phi r) ∧ 0 < r ∧ 2 ≤ m ∧ m ≤ n ∧ Give S L r z H Q (okS K m) (-100)
def spList (K : PySem.W.Frag) (n : Nat) : Sp := fun vs H Q _ => ∃ (S L : Addr) (r z : Int) (m : Nat), vs = [.ref S, .int (m : Int)] ∧ StR H S L r z ∧ (r ≤ 500 ∧ -800000 ≤ r - 16 * Phi r ∧ 0 ≤ Phi r) ∧ 1 ≤ m ∧ m ≤ n ∧ Give S L r z H Q (okL K m) 8
def spBody (K : PySem.W.Frag) (n : Nat) : Sp := fun vs H Q _ => ∃ (S L : Addr) (r z : Int) (m : Nat) (u : Int), vs = [.ref S, .int (m : Int), .int u] ∧ StR H S L r z ∧ (r ≤ 500 ∧ -800000 ≤ r - 16 * Phi r ∧ 0 ≤ Phi r) ∧ m ≤ n ∧ 0 < u ∧ u ≤ 1000 ∧ Give S L r z H Q (okB K m) 0
theorem Phi_500 {r : Int} (h : r ≤ 500) : Phi r ≤ 20400 := by unfold Phi; split <;> omega
theorem w_len_of {w : Ws} {r r' c : Int} {p : Prop} (h : (wt w : Int) + Phi r' ≤ Phi r + c ∧ p) (hr : r ≤ 500) (hc : c ≤ 1000) : w.length ≤ 7200 := by
  have := wt_len w
  have := Phi_500 hr
  have h := h.1
  have := Phi_nn r'
  omega
theorem tl_cat {H : Hp} {Q : VK} {p q : Addr} {u v : Ws} (hp : Tl H p u) (hq : Tl H q v) (z : u.length + v.length ≤ 1000000) (k : ∀ a H1, H a = none → Same H H1 → Tl H1 a (u ++ v) → Q (.ref a) H1) : rCat (.ref p) (.ref q) H Q :=
  w_cat2 hp hq (by rw [List.length_map, List.length_map]; exact z) fun a H1 h0 s h1 => k a H1 h0 s (by unfold Tl; rw [h1, List.map_append])
theorem tl_new {H : Hp} {Q : VK} {u : Ws} {xs : List V} (e : xs = u.map T) (z : xs.length ≤ 1000000) (k : ∀ p H1, H p = none → Same H H1 → Tl H1 p u → Q (.ref p) H1) : NewL xs H Q :=
  w_newL z fun p H1 h0 s h1 => k p H1 h0 s (by unfold Tl; rw [h1, e])
theorem Tl.same {H H1 : Hp} {q : Addr} {w : Ws} (h : Tl H q w) (s : Same H H1) : Tl H1 q w := s _ _ h
theorem wm1 {a : List Nat} (h : a ∈ WM) : ∀ x ∈ [a], Tok x := tok1 (wm_tok a h)
theorem tok_app {u v : Ws} (h : ∀ x ∈ u, Tok x) (g : ∀ x ∈ v, Tok x) : ∀ x ∈ u ++ v, Tok x := fun x hx => (List.mem_append.mp hx).elim (h x) (g x)
theorem nod_app {u v : List Ws} (h : ∀ x ∈ u, x.Nodup) (g : ∀ x ∈ v, x.Nodup) : ∀ x ∈ u ++ v, x.Nodup := fun x hx => (List.mem_append.mp hx).elim (h x) (g x)
section
variable {P : Program} {w : World} {K : PySem.W.Frag} {mg : Str → Option Value} {base : Heap} {k n : Nat}
abbrev s_law_list : Stmt := topS 18
abbrev N_law_list : List Str := ["state", "room", "count", "trees", "tokens", "k", "tree", "more"]
theorem sc_law_list : FnScope N_law_list ["state", "room"] (defScope s_law_list) := ⟨rfl, rfl, rfl, by decide +kernel, rfl, by decide +kernel, by decide +kernel⟩
theorem ok_law_list {f : Addr} {fd : FuncData} (F : Fun K "_law_list" "_law_list" s_law_list f fd) (Y : Bn mg) (hk : 1 ≤ k) (c_law_draw : Cal P w K mg base 1 "_law_draw" spDraw []) (c_law_expression : Cal P w K mg base k "_law_expression" (spExpr K n) []) : FnOk P w K mg base CX0 (k + 1) f fd ["state", "room"] (spList K n) := by
  refine F.ok sc_law_list (fun vs H Q E h => ?_) (fun cdv A outer s H vs Q E hr h => ?_)
  · obtain ⟨S, L, r, z, m, rfl, _⟩ := h
    rfl
  · obtain ⟨S, L, r, z, m, rfl, hSt, hr5, hm1, hmn, kQ⟩ := h
    have nd := sc_law_list.nd
    refine ⟨_, (pss_cons (ps_set (i := 2) nd rfl (Or.inl rfl) (pe_c c_law_draw hr (by omega) rfl (pa_cons (pv 0) (pa_cons pe_int pa_nil))))
      (pss_cut (ps_if (pt_cmpR op_eq (pe_c c_law_draw hr (by omega) rfl (pa_cons (pv 0) (pa_cons pe_int pa_nil))) pe_int (nomark _)) (pss_one (ps_set (i := 2) nd rfl (Or.inl rfl) pe_int)) pss_nil)
      (pss_cons (ps_set (i := 3) nd rfl (Or.inl rfl) (pe_lst pa_nil))
      (pss_cons (ps_set (i := 4) nd rfl (Or.inl rfl) (pe_lst pa_nil))
      (pss_cons (ps_for PassesOwn.never rfl (pi_range1 rfl Y.n_range (pa_cons (pv 2) pa_nil)) (pg_name (i := 5) nd rfl (Or.inl rfl)) (pss_one (ps_if (pt_cmpR op_gt (pe_ix ix_list (pv 0) pe_int (fun _ _ => rfl)) pe_int (nomark _)) (pss_cons (ps_asg (pe_c c_law_expression hr (by omega) rfl (pa_cons (pv 0) (pa_cons (pv 1) (pa_cons pe_int pa_nil)))) (pg_tup (by rfl) (pgs_cons (pg_name (i := 6) nd rfl (Or.inl rfl)) (pgs_cons (pg_name (i := 7) nd rfl (Or.inl rfl)) pgs_nil))))
      (pss_cut (ps_if (pt_tru (pv 3)) (pss_one (ps_set (i := 4) nd rfl (Or.inl rfl) (pe_op op_cat (pv 4) (pe_lst (pa_cons pe_str pa_nil))))) pss_nil)
      (pss_cons (ps_expr (pe_bm PySem.F.plainAttrs_list PySem.F.slot_list_append PySem.F.type_list_append mt_append (pv 3) (pa_cons (pv 6) pa_nil)))
      (pss_one (ps_set (i := 4) nd rfl (Or.inl rfl) (pe_op op_cat (pv 4) (pv 7))))))) pss_nil)))
      (pss_one (ps_ret (pe_tup (pa_cons (pe_callTy call_tupleOf (by rfl) Y.n_tuple (by decide +kernel) (pa_cons (pv 3) pa_nil)) (pa_cons (pe_op op_cat (pe_op op_cat (pe_lst (pa_cons pe_str pa_nil)) (pv 4)) (pe_lst (pa_cons pe_str pa_nil))) pa_nil)))))))))), ?_⟩
    rw [show L2.start N_law_list [.ref S, .int (m : Int)] = [some (.ref S), some (.int (m : Int)), none, none, none, none, none, none] from rfl]
    walk_at "rdy"
    refine use_draw hSt (by decide) (by decide) fun c H1 c0 c1 hSt1 f1 => ?_
    walk_at "rdy"
    refine ⟨fun σ' H' => ∃ c : Int, σ' = [some (.ref S), some (.int (m : Int)), some (.int c), none, none, none, none, none] ∧ 0 ≤ c ∧ c ≤ 8 ∧ StR H' S L r z ∧ FrP S L H H', ?_, ?_⟩
    · walk_at "rdy"
      refine use_draw hSt1 (by decide) (by decide) fun y H2 y0 y1 hSt2 f2 => ?_
      walk_at "rdy"
      refine w_ifI (fun _ => ?_) (fun _ => ?_)
      · walk_at "rdy"
        exact ⟨8, rfl, by decide, by decide, hSt2, f1.trans f2⟩
      · exact ⟨c, rfl, c0, by omega, hSt2, f1.trans f2⟩
    · rintro σ' H2 ⟨c, rfl, c0, c8, hSt2, f2⟩
      walk_at "rdy"
      refine w_newL (by show 0 ≤ 1000000; decide) fun D H3 hD s3 h3 => ?_
      walk_at "rdy"
      refine tl_new (u := []) rfl (by show 0 ≤ 1000000; decide) fun q0 H4 hq0 s4 h4 => ?_
      walk_at "rdy"
      have nD := hSt2.new3 hD
      have nq0 := (hSt2.mono s3).new hq0
      have hD0 : H D = none := f2.free nD.1 hD
      refine for_R (fun i σ' H' => ∃ (q : Addr) (vs : List V) (l : List Tr) (w0 : Ws) (ns : List Ws) (r' : Int) (x5 x6 x7 : Option V), σ' = [some (.ref S), some (.int (m : Int)), some (.int c), some (.ref D), some (.ref q), x5, x6, x7] ∧ StR H' S L r' z ∧ r' ≤ r ∧ FrP S L H H' ∧ H' D = some (.lst vs) ∧ TrsB K H' vs l ∧ l.length ≤ i ∧ (q ≠ S ∧ q ≠ L) ∧ q ≠ D ∧ Tl H' q w0 ∧ Ar m l w0 ns ∧ (∀ a ∈ w0, Tok a) ∧ (∀ x ∈ ns, x.Nodup) ∧ ((wt w0 : Int) + Phi r' ≤ Phi r ∧ r ≤ r' + 16 * (wt w0 : Int))) c0 (by omega)
        ⟨q0, [], [], [], [], r, none, none, none, rfl, (hSt2.mono s3).mono s4, Int.le_refl _, (f2.to s3).to s4, s4 _ _ h3, .nil, Nat.le_refl _, nq0, (fun e => by rw [e, h3] at hq0; cases hq0), h4, .nil, (fun x hx => absurd hx List.not_mem_nil), (fun x hx => absurd hx List.not_mem_nil), (by show ((0 : Nat) : Int) + _ ≤ _ ∧ _ ≤ _ + 16 * ((0 : Nat) : Int); omega)⟩ ?_ ?_
      · rintro i σ' H5 hi ⟨q, vs, l, w0, ns, r5, x5, x6, x7, rfl, hSt5, hr5', f5, hD5, hT5, hl5, nq, nqD, hw5, ha5, ht5, hn5, hc5⟩
        obtain ⟨A0, i0, c0', k0, b0, hS5⟩ := hSt5.obj
        walk_at "rdy"
        refine w_if (fun hpos => ?_) (fun hpos => ?_)
        · walk_at "rdy"
          refine ⟨S, L, r5, z, m, 1, rfl, hSt5, (by have := Phi_nn r5; omega), hm1, hmn, by decide, fun p v q2 w1 n1 r6 H6 hp hok hw6 hn6 ht6 hc6 hr6 nq2 hSt6 f6 => ?_⟩
          obtain ⟨lv, t, hlv, hv, e⟩ := hok
          rw [if_pos hpos] at hc6
          walk_at "upy"
          have hD6 := f6 _ _ nD.1 hD5
          have hT6 := hSt5.trs f6 hT5
          have hw06 := Tl.fr f6 nq hw5
          have hvl := hT6.length
          have nDq2 : q2 ≠ D := fun e => by rw [e, hD5] at nq2; cases nq2
          have nq2S := (hSt5.new nq2)
          have lw0 := w_len_of (c := 0) (by rw [Int.add_zero]; exact hc5) hr5.1 (by decide)
          have lw1 : w1.length ≤ 7200 := w_len_of hc6 (by omega) (by decide)
          refine ⟨fun σ' H' => ∃ q3, σ' = [some (.ref S), some (.int (m : Int)), some (.int c), some (.ref D), some (.ref q3), some (.int (0 + (i : Int))), some v, some (.ref q2)] ∧ Same H6 H' ∧ (q3 ≠ S ∧ q3 ≠ L) ∧ q3 ≠ D ∧ Tl H' q3 (if l = [] then w0 else w0 ++ [cds ","]), ?_, ?_⟩
          · walk_at "rdy"
            refine w_truL (SqL.of hD6) (fun hne => ?_) (fun hem => ?_)
            · walk_at "rdy"
              refine tl_new (u := [cds ","]) rfl (by show 1 ≤ 1000000; decide) fun q4 H7 hq4 s7 h7 => ?_
              refine tl_cat (hw06.same s7) h7 (by show w0.length + 1 ≤ 1000000; omega) fun q5 H8 hq5 s8 h8 => ?_
              walk_at "rdy"
              have h0 : l ≠ [] := fun e => hne (by rw [e] at hvl; exact List.length_eq_zero_iff.mp hvl)
              refine ⟨q5, rfl, s7.trans s8, ((hSt6.mono s7).new hq5), (fun e => by rw [e, s7 _ _ hD6] at hq5; cases hq5), ?_⟩
              rw [if_neg h0]
              exact h8
            · have h0 : l = [] := List.length_eq_zero_iff.mp (by rw [← hvl, hem]; rfl)
              refine ⟨q, rfl, fun _ _ h => h, nq, nqD, ?_⟩
              rw [if_pos h0]
              exact hw06
          · rintro σ' H7 ⟨q3, rfl, s7, nq3, nq3D, hw3⟩
            walk_at "rdy"
            have hD7 := s7 _ _ hD6
            refine ⟨tyL (SqL.of hD7), ?_⟩
            walk_at "rdy"
            refine w_app2 hD7 (by omega) fun H8 h8 k8 => ?_
            walk_at "rdy"
            have hw38 : Tl H8 q3 _ := k8 _ _ nq3D hw3
            have hw18 : Tl H8 q2 _ := k8 _ _ nDq2 (hw6.same s7)
            refine tl_cat hw38 hw18 (by split; omega; rw [List.length_append]; show w0.length + 1 + _ ≤ _; omega) fun q6 H9 hq6 s9 h9 => ?_
            walk_at "rdy"
            have hSt8 := (hSt6.mono s7).grow nD k8
            have hT8 := TrsB.snoc ((hv.same s7).but hD7 k8) ((hT6.same s7).but hD7 k8)
            refine ⟨q6, vs ++ [v], l ++ [t], _, ns ++ n1, r6, _, _, _, rfl, hSt8.mono s9, by omega, (((f5.trans f6).to s7).grow hD0 k8).to s9, s9 _ _ h8, hT8.same s9, by rw [List.length_append]; show l.length + 1 ≤ i + 1; omega, (hSt8.new hq6), (fun e => by rw [e, h8] at hq6; cases hq6), h9, ar_snoc hlv.2 e ha5 (by omega), ?_, nod_app hn5 hn6, ?_⟩
            · refine tok_app ?_ ht6
              split
              · exact ht5
              · exact tok_app ht5 (wm1 (by decide +kernel))
            · have ec : wt [cds ","] = 4 := by decide +kernel
              rw [wt_append]
              split
              · omega
              · rw [wt_append, ec]; omega
        · exact ⟨q, vs, l, w0, ns, r5, _, _, _, rfl, hSt5, hr5', f5, hD5, hT5, by omega, nq, nqD, hw5, ha5, ht5, hn5, hc5⟩
      · rintro σ' H5 ⟨q, vs, l, w0, ns, r5, x5, x6, x7, rfl, hSt5, hr5', f5, hD5, hT5, hl5, nq, nqD, hw5, ha5, ht5, hn5, hc5⟩
        have lw0 := w_len_of (c := 0) (by rw [Int.add_zero]; exact hc5) hr5.1 (by decide)
        walk_at "rdy"
        refine w_tupOf (SqL.of hD5) fun p H6 hp s6 h6 => ?_
        walk_at "rdy"
        refine tl_new (u := [cds "("]) rfl (by show 1 ≤ 1000000; decide) fun q1 H7 hq1 s7 h7 => ?_
        walk_at "rdy"
        refine tl_cat h7 ((hw5.same s6).same s7) (by show 1 + w0.length ≤ 1000000; omega) fun q2 H8 hq2 s8 h8 => ?_
        walk_at "rdy"
        refine tl_new (u := [cds ")"]) rfl (by show 1 ≤ 1000000; decide) fun q3 H9 hq3 s9 h9 => ?_
        refine tl_cat (h8.same s9) h9 (by show _ + 1 ≤ 1000000; rw [List.length_append]; show 1 + w0.length + 1 ≤ 1000000; omega) fun q4 H10 hq4 s10 h10 => ?_
        walk_at "rdy"
        refine w_newT (by show 2 ≤ 1000000; decide) fun p2 H11 hp2 s11 h11 => ?_
        have s56 := (((s6.trans s7).trans s8).trans s9).trans s10
        have s511 := s56.trans s11
        have e1 : wt [cds "("] = 4 := by decide +kernel
        have e2 : wt [cds ")"] = 4 := by decide +kernel
        refine kQ p2 (.ref p) q4 _ ns r5 H11 h11 ⟨l, w0, rfl, .t (h6.same ((((s7.trans s8).trans s9).trans s10).trans s11)).sq (hT5.same s511) ha5.blk, ha5⟩ (h10.same s11) hn5 (tok_app (tok_app (wm1 (by decide +kernel)) ht5) (wm1 (by decide +kernel))) ?_ hr5' ?_ (hSt5.mono s511) (f5.to s511)
        · have e3 : wt (cds "(" :: (w0 ++ [cds ")"])) = 4 + (wt w0 + 4) := by
            show (cds "(").length + 3 + wt (w0 ++ _) = _
            rw [wt_append, e2]
            have : (cds "(").length = 1 := by decide +kernel
            omega
          omega
        · exact (f5.to (((s6.trans s7).trans s8).trans s9)).free ((hSt5.mono (((s6.trans s7).trans s8).trans s9)).new hq4) hq4
abbrev s_law_body : Stmt := topS 22
abbrev N_law_body : List Str := ["state", "room", "most", "trees", "tokens", "k", "tree", "more"]
theorem sc_law_body : FnScope N_law_body ["state", "room", "most"] (defScope s_law_body) := ⟨rfl, rfl, rfl, by decide +kernel, rfl, by decide +kernel, by decide +kernel⟩
theorem ok_law_body {f : Addr} {fd : FuncData} (F : Fun K "_law_body" "_law_body" s_law_body f fd) (Y : Bn mg) (hk : 1 ≤ k) (c_law_draw : Cal P w K mg base 1 "_law_draw" spDraw []) (c_law_statement : Cal P w K mg base k "_law_statement" (spStmt K n) []) : FnOk P w K mg base CX0 (k + 1) f fd ["state", "room", "most"] (spBody K n) := by
  refine F.ok sc_law_body (fun vs H Q E h => ?_) (fun cdv A outer s H vs Q E hr h => ?_)
  · obtain ⟨S, L, r, z, m, u, rfl, _⟩ := h
    rfl
  · obtain ⟨S, L, r, z, m, u, rfl, hSt, hr5, hmn, u0, u1, kQ⟩ := h
    have nd := sc_law_body.nd
    refine ⟨_, (pss_cons (ps_set (i := 3) nd rfl (Or.inl rfl) (pe_lst pa_nil))
      (pss_cons (ps_set (i := 4) nd rfl (Or.inl rfl) (pe_lst pa_nil))
      (pss_cons (ps_for PassesOwn.never rfl (pi_range1 rfl Y.n_range (pa_cons (pe_c c_law_draw hr (by omega) rfl (pa_cons (pv 0) (pa_cons (pv 2) pa_nil))) pa_nil)) (pg_name (i := 5) nd rfl (Or.inl rfl)) (pss_one (ps_if (PW.pt (pw_and (pt_cmpR op_gt (pv 1) pe_int (nomark _)) (pw_and1 (pt_cmpR op_gt (pe_ix ix_list (pv 0) pe_int (fun _ _ => rfl)) pe_int (nomark _))))) (pss_cons (ps_asg (pe_c c_law_statement hr (by omega) rfl (pa_cons (pv 0) (pa_cons (pv 1) pa_nil))) (pg_tup (by rfl) (pgs_cons (pg_name (i := 6) nd rfl (Or.inl rfl)) (pgs_cons (pg_name (i := 7) nd rfl (Or.inl rfl)) pgs_nil))))
      (pss_cut (ps_if (pt_tru (pv 3)) (pss_one (ps_set (i := 4) nd rfl (Or.inl rfl) (pe_op op_cat (pv 4) (pe_lst (pa_cons pe_str pa_nil))))) pss_nil)
      (pss_cons (ps_expr (pe_bm PySem.F.plainAttrs_list PySem.F.slot_list_append PySem.F.type_list_append mt_append (pv 3) (pa_cons (pv 6) pa_nil)))
      (pss_one (ps_set (i := 4) nd rfl (Or.inl rfl) (pe_op op_cat (pv 4) (pv 7))))))) pss_nil)))
      (pss_one (ps_ret (pe_tup (pa_cons (pe_callTy call_tupleOf (by rfl) Y.n_tuple (by decide +kernel) (pa_cons (pv 3) pa_nil)) (pa_cons (pv 4) pa_nil)))))))), ?_⟩
    rw [show L2.start N_law_body [.ref S, .int (m : Int), .int u] = [some (.ref S), some (.int (m : Int)), some (.int u), none, none, none, none, none] from rfl]
    walk_at "rdy"
    refine w_newL (by show 0 ≤ 1000000; decide) fun D H3 hD s3 h3 => ?_
    walk_at "rdy"
    refine tl_new (u := []) rfl (by show 0 ≤ 1000000; decide) fun q0 H4 hq0 s4 h4 => ?_
    walk_at "rdy"
    have nD := hSt.new3 hD
    have nq0 := (hSt.mono s3).new hq0
    have hD0 : H D = none := hD
    have nq0D : q0 ≠ D := fun e => by rw [e, h3] at hq0; cases hq0
    refine use_draw ((hSt.mono s3).mono s4) (by omega) (by omega) fun c H4' c0 c1 hSt4 f4 => ?_
    refine for_R (fun i σ' H' => ∃ (q : Addr) (vs : List V) (l : List Tr) (w0 : Ws) (ns : List Ws) (r' : Int) (x5 x6 x7 : Option V), σ' = [some (.ref S), some (.int (m : Int)), some (.int u), some (.ref D), some (.ref q), x5, x6, x7] ∧ StR H' S L r' z ∧ r' ≤ r ∧ FrP S L H H' ∧ H' D = some (.lst vs) ∧ TrsB K H' vs l ∧ l.length ≤ i ∧ H q = none ∧ (q ≠ S ∧ q ≠ L) ∧ q ≠ D ∧ Tl H' q w0 ∧ Bd m l w0 ns ∧ (∀ a ∈ w0, Tok a) ∧ (∀ x ∈ ns, x.Nodup) ∧ ((wt w0 : Int) + Phi r' ≤ Phi r ∧ r ≤ r' + 16 * (wt w0 : Int))) c0 (by omega)
      ⟨q0, [], [], [], [], r, none, none, none, rfl, hSt4, Int.le_refl _, (((FrP.refl S L H).to s3).to s4).trans f4, f4 _ _ nD.1 (s4 _ _ h3), .nil, Nat.le_refl _, s3.free hq0, nq0, nq0D, f4 _ _ nq0 h4, .nil, (fun x hx => absurd hx List.not_mem_nil), (fun x hx => absurd hx List.not_mem_nil), (by show ((0 : Nat) : Int) + _ ≤ _ ∧ _ ≤ _ + 16 * ((0 : Nat) : Int); omega)⟩ ?_ ?_
    · rintro i σ' H5 hi ⟨q, vs, l, w0, ns, r5, x5, x6, x7, rfl, hSt5, hr5', f5, hD5, hT5, hl5, nq0', nq, nqD, hw5, ha5, ht5, hn5, hc5⟩
      obtain ⟨A0, i0, c0', k0, b0, hS5⟩ := hSt5.obj
      walk_at "rdy"
      refine w_if (fun hroom => ?_) (fun hroom => ?_)
      · walk_at "rdy"
        refine w_if (fun hpos => ?_) (fun hpos => ?_)
        · walk_at "rdy"
          refine ⟨S, L, r5, z, m, rfl, hSt5, (by have := Phi_nn r5; omega), hpos, by omega, hmn, fun p v q2 w1 n1 r6 H6 hp hok hw6 hn6 ht6 hc6 hr6 nq2 hSt6 f6 => ?_⟩
          obtain ⟨t, hv, e⟩ := hok
          walk_at "upy"
          have hD6 := f6 _ _ nD.1 hD5
          have hT6 := hSt5.trs f6 hT5
          have hw06 := Tl.fr f6 nq hw5
          have hvl := hT6.length
          have nDq2 : q2 ≠ D := fun e => by rw [e, hD5] at nq2; cases nq2
          have nq2S := (hSt5.new nq2)
          have lw0 := w_len_of (c := 0) (by rw [Int.add_zero]; exact hc5) hr5.1 (by decide)
          have lw1 : w1.length ≤ 7200 := w_len_of hc6 (by omega) (by decide)
          refine ⟨fun σ' H' => ∃ q3, σ' = [some (.ref S), some (.int (m : Int)), some (.int u), some (.ref D), some (.ref q3), some (.int (0 + (i : Int))), some v, some (.ref q2)] ∧ Same H6 H' ∧ (q3 ≠ S ∧ q3 ≠ L) ∧ q3 ≠ D ∧ Tl H' q3 (if l = [] then w0 else w0 ++ [cds ";"]), ?_, ?_⟩
          · walk_at "rdy"
            refine w_truL (SqL.of hD6) (fun hne => ?_) (fun hem => ?_)
            · walk_at "rdy"
              refine tl_new (u := [cds ";"]) rfl (by show 1 ≤ 1000000; decide) fun q4 H7 hq4 s7 h7 => ?_
              refine tl_cat (hw06.same s7) h7 (by show w0.length + 1 ≤ 1000000; omega) fun q5 H8 hq5 s8 h8 => ?_
              walk_at "rdy"
              have h0 : l ≠ [] := fun e => hne (by rw [e] at hvl; exact List.length_eq_zero_iff.mp hvl)
              refine ⟨q5, rfl, s7.trans s8, ((hSt6.mono s7).new hq5), (fun e => by rw [e, s7 _ _ hD6] at hq5; cases hq5), ?_⟩
              rw [if_neg h0]
              exact h8
            · have h0 : l = [] := List.length_eq_zero_iff.mp (by rw [← hvl, hem]; rfl)
              refine ⟨q, rfl, fun _ _ h => h, nq, nqD, ?_⟩
              rw [if_pos h0]
              exact hw06
          · rintro σ' H7 ⟨q3, rfl, s7, nq3, nq3D, hw3⟩
            walk_at "rdy"
            have hD7 := s7 _ _ hD6
            refine ⟨tyL (SqL.of hD7), ?_⟩
            walk_at "rdy"
            refine w_app2 hD7 (by omega) fun H8 h8 k8 => ?_
            walk_at "rdy"
            have hw38 : Tl H8 q3 _ := k8 _ _ nq3D hw3
            have hw18 : Tl H8 q2 _ := k8 _ _ nDq2 (hw6.same s7)
            refine tl_cat hw38 hw18 (by split; omega; rw [List.length_append]; show w0.length + 1 + _ ≤ _; omega) fun q6 H9 hq6 s9 h9 => ?_
            walk_at "rdy"
            have hSt8 := (hSt6.mono s7).grow nD k8
            have hT8 := TrsB.snoc ((hv.same s7).but hD7 k8) ((hT6.same s7).but hD7 k8)
            have f8 := ((f5.trans f6).to s7).grow hD0 k8
            refine ⟨q6, vs ++ [v], l ++ [t], _, ns ++ n1, r6, _, _, _, rfl, hSt8.mono s9, by omega, f8.to s9, s9 _ _ h8, hT8.same s9, by rw [List.length_append]; show l.length + 1 ≤ i + 1; omega, f8.free (hSt8.new hq6) hq6, (hSt8.new hq6), (fun e => by rw [e, h8] at hq6; cases hq6), h9, bd_snoc e ha5, ?_, nod_app hn5 hn6, ?_⟩
            · refine tok_app ?_ ht6
              split
              · exact ht5
              · exact tok_app ht5 (wm1 (by decide +kernel))
            · have ec : wt [cds ";"] = 4 := by decide +kernel
              rw [wt_append]
              split
              · omega
              · rw [wt_append, ec]; omega
        · exact ⟨q, vs, l, w0, ns, r5, _, _, _, rfl, hSt5, hr5', f5, hD5, hT5, by omega, nq0', nq, nqD, hw5, ha5, ht5, hn5, hc5⟩
      · exact ⟨q, vs, l, w0, ns, r5, _, _, _, rfl, hSt5, hr5', f5, hD5, hT5, by omega, nq0', nq, nqD, hw5, ha5, ht5, hn5, hc5⟩
    · rintro σ' H5 ⟨q, vs, l, w0, ns, r5, x5, x6, x7, rfl, hSt5, hr5', f5, hD5, hT5, hl5, nq0', nq, nqD, hw5, ha5, ht5, hn5, hc5⟩
      walk_at "rdy"
      refine w_tupOf (SqL.of hD5) fun p H6 hp s6 h6 => ?_
      walk_at "rdy"
      refine w_newT (by show 2 ≤ 1000000; decide) fun p2 H11 hp2 s11 h11 => ?_
      have s511 := s6.trans s11
      exact kQ p2 (.ref p) q _ ns r5 H11 h11 ⟨l, .t (h6.same s11).sq (hT5.same s511) ha5.blk, ha5⟩ (hw5.same s511) hn5 ht5 (by omega) hr5' nq0' (hSt5.mono s511) (f5.to s511)
end
end
section
open PySem PySem.Spec PyProof.Rows L2
open C8 (Cal cal0 pe_c pe_gc pss_cut tCut)

/-- the level of a compound's kind -/
def lvK (k : Int) : Nat := if k = 4 then 7 else if k = 5 then 3 else if k = 6 then 1 else if k = 7 then 2 else if k = 8 then 4 else if k = 9 then 5 else if k = 10 then 6 else if k ≤ 12 then 8 else 9
theorem wt1 {a : List Nat} {n : Nat} (h : a.length = n) : wt [a] = n + 3 := by show a.length + 3 + 0 = _; omega
theorem wt_cons (a : List Nat) (w : Ws) : wt (a :: w) = a.length + 3 + wt w := rfl
def spSides (K : PySem.W.Frag) (n : Nat) : Sp := fun vs H Q _ => ∃ (S L : Addr) (r z : Int) (kk : Int) (m : Nat), vs = [.ref S, .int kk, .int ((m + 1 : Nat) : Int)] ∧ StR H S L r z ∧ (r ≤ 500 ∧ -797000 ≤ r - 16 * Phi r ∧ 0 ≤ Phi r) ∧ 0 < r ∧ 6 ≤ kk ∧ kk ≤ 10 ∧ 1 ≤ m ∧ m ≤ n ∧ GiveD 24 S L r z H Q (okE K (m + 1) fun lv => lv = lvK kk) 0
def spGBlock (K : PySem.W.Frag) (n : Nat) : Sp := fun vs H Q _ => ∃ (S L : Addr) (r z : Int) (m : Nat), vs = [.ref S, .int ((m + 1 : Nat) : Int)] ∧ StR H S L r z ∧ (r ≤ 500 ∧ -797000 ≤ r - 16 * Phi r ∧ 0 ≤ Phi r) ∧ m ≤ n ∧ GiveD 24 S L r z H Q (okE K (m + 1) fun lv => lv = 9) 150
def spComp (K : PySem.W.Frag) (n : Nat) : Sp := fun vs H Q _ => ∃ (S L : Addr) (r z : Int) (kk : Int) (m : Nat), vs = [.ref S, .int kk, .int ((m + 1 : Nat) : Int)] ∧ StR H S L r z ∧ (r ≤ 500 ∧ -797000 ≤ r - 16 * Phi r ∧ 0 ≤ Phi r) ∧ 0 < r ∧ 4 ≤ kk ∧ kk ≤ 15 ∧ 1 ≤ m ∧ m ≤ n ∧ GiveD 24 S L r z H Q (okE K (m + 1) fun lv => lv = lvK kk) 160
/-- the signs of a kind, and what they ask of their sides -/
theorem sides_pick {kk : Int} (h6 : 6 ≤ kk) (h10 : kk ≤ 10) {a1 a2 a3 a4 a5 : V} : ∃ (i : Nat), i < 5 ∧ kk = 6 + (i : Int) ∧ atI [a1, a2, a3, a4, a5] (kk - 6) = [a1, a2, a3, a4, a5][i]? := by
  obtain ⟨i, hi⟩ : ∃ i : Nat, kk = 6 + (i : Int) := ⟨(kk - 6).toNat, by omega⟩
  refine ⟨i, by omega, hi, ?_⟩
  have e : kk - 6 = (i : Int) := by omega
  rw [e]
  have hlt : i < [a1, a2, a3, a4, a5].length := by show i < 5; omega
  rw [List.getElem?_eq_getElem hlt]
  exact atI_nat (List.getElem?_eq_getElem hlt)
def sgL : List Ws := [[cds "or"], [cds "and"], [cds "=", cds "<", cds "<="], [cds "+", cds "-"], [cds "*", cds "/"]]
def sdL : List (Nat × Nat) := [(1, 2), (2, 3), (5, 5), (5, 6), (6, 7)]
theorem sg_facts : ∀ i < 5, ∀ s ∈ sgL.getD i [], behN.lookup s = some (lvK (6 + (i : Int))) ∧ s ≠ cds "." ∧ (if lvK (6 + (i : Int)) = 4 then 5 else lvK (6 + (i : Int))) ≤ (sdL.getD i (0, 0)).1 ∧ lvK (6 + (i : Int)) + 1 ≤ (sdL.getD i (0, 0)).2 ∧ (sdL.getD i (0, 0)).1 ≤ 9 ∧ (sdL.getD i (0, 0)).2 ≤ 9 ∧ s.length ≤ 3 ∧ s ∈ WM ∧ ((s = cds "and" ∨ s = cds "or") ↔ i < 2) := by decide +kernel
theorem sg_len : ∀ i < 5, 0 < (sgL.getD i []).length ∧ (sgL.getD i []).length ≤ 3 := by decide +kernel
section
variable {P : Program} {w : World} {K : PySem.W.Frag} {mg : Str → Option Value} {base : Heap} {k n : Nat}
abbrev s_law_sides : Stmt := topS 17
abbrev N_law_sides : List Str := ["state", "kind", "room", "left", "right", "signs", "sign", "one", "tokens", "two", "more"]
theorem sc_law_sides : FnScope N_law_sides ["state", "kind", "room"] (defScope s_law_sides) := ⟨rfl, rfl, rfl, by decide +kernel, rfl, by decide +kernel, by decide +kernel⟩
theorem ok_law_sides {f : Addr} {fd : FuncData} (F : Fun K "_law_sides" "_law_sides" s_law_sides f fd) (Y : Bn mg) (hk : 1 ≤ k) (c_law_draw : Cal P w K mg base 1 "_law_draw" spDraw []) (c_law_expression : Cal P w K mg base k "_law_expression" (spExpr K n) []) : FnOk P w K mg base CX0 (k + 1) f fd ["state", "kind", "room"] (spSides K n) := by
  refine F.ok sc_law_sides (fun vs H Q E h => ?_) (fun cdv A outer s H vs Q E hr h => ?_)
  · obtain ⟨S, L, r, z, kk, m, rfl, _⟩ := h
    rfl
  · obtain ⟨S, L, r, z, kk, m, rfl, hSt, hr5, hr0, h6, h10, hm1, hmn, kQ⟩ := h
    have nd := sc_law_sides.nd
    refine ⟨_, (pss_cons (ps_asg (pe_ix ix_list (pe_lst (pa_cons (pe_tup (pa_cons pe_int (pa_cons pe_int pa_nil))) (pa_cons (pe_tup (pa_cons pe_int (pa_cons pe_int pa_nil))) (pa_cons (pe_tup (pa_cons pe_int (pa_cons pe_int pa_nil))) (pa_cons (pe_tup (pa_cons pe_int (pa_cons pe_int pa_nil))) (pa_cons (pe_tup (pa_cons pe_int (pa_cons pe_int pa_nil))) pa_nil)))))) (pe_op op_sub (pv 1) pe_int) (fun _ _ => rfl)) (pg_tup (by rfl) (pgs_cons (pg_name (i := 3) nd rfl (Or.inl rfl)) (pgs_cons (pg_name (i := 4) nd rfl (Or.inl rfl)) pgs_nil))))
      (pss_cons (ps_set (i := 5) nd rfl (Or.inl rfl) (pe_ix ix_list (pe_lst (pa_cons (pe_lst (pa_cons pe_str pa_nil)) (pa_cons (pe_lst (pa_cons pe_str pa_nil)) (pa_cons (pe_lst (pa_cons pe_str (pa_cons pe_str (pa_cons pe_str pa_nil)))) (pa_cons (pe_lst (pa_cons pe_str (pa_cons pe_str pa_nil))) (pa_cons (pe_lst (pa_cons pe_str (pa_cons pe_str pa_nil))) pa_nil)))))) (pe_op op_sub (pv 1) pe_int) (fun _ _ => rfl)))
      (pss_cons (ps_set (i := 6) nd rfl (Or.inl rfl) (pe_ix ix_list (pv 5) (pe_c c_law_draw hr (by omega) rfl (pa_cons (pv 0) (pa_cons (pe_callB call_lenL (by rfl) Y.n_len (by decide +kernel) (pa_cons (pv 5) pa_nil)) pa_nil))) (fun _ _ => rfl)))
      (pss_cons (ps_asg (pe_c c_law_expression hr (by omega) rfl (pa_cons (pv 0) (pa_cons (pe_op op_sub (pv 2) pe_int) (pa_cons (pv 3) pa_nil)))) (pg_tup (by rfl) (pgs_cons (pg_name (i := 7) nd rfl (Or.inl rfl)) (pgs_cons (pg_name (i := 8) nd rfl (Or.inl rfl)) pgs_nil))))
      (pss_cons (ps_asg (pe_c c_law_expression hr (by omega) rfl (pa_cons (pv 0) (pa_cons (pe_op op_sub (pv 2) pe_int) (pa_cons (pv 4) pa_nil)))) (pg_tup (by rfl) (pgs_cons (pg_name (i := 9) nd rfl (Or.inl rfl)) (pgs_cons (pg_name (i := 10) nd rfl (Or.inl rfl)) pgs_nil))))
      (pss_cons (ps_if (pt_cmpR op_lt (pv 1) pe_int (nomark _)) (pss_one (ps_ret (pe_tup (pa_cons (pe_tup (pa_cons (pv 6) (pa_cons (pv 7) (pa_cons (pv 9) pa_nil)))) (pa_cons (pe_op op_cat (pe_op op_cat (pv 8) (pe_lst (pa_cons (pv 6) pa_nil))) (pv 10)) pa_nil))))) pss_nil)
      (pss_one (ps_ret (pe_tup (pa_cons (pe_tup (pa_cons pe_str (pa_cons (pv 6) (pa_cons (pv 7) (pa_cons (pv 9) pa_nil))))) (pa_cons (pe_op op_cat (pe_op op_cat (pv 8) (pe_lst (pa_cons (pv 6) pa_nil))) (pv 10)) pa_nil))))))))))), ?_⟩
    rw [show L2.start N_law_sides [.ref S, .int kk, .int ((m + 1 : Nat) : Int)] = [some (.ref S), some (.int kk), some (.int ((m + 1 : Nat) : Int)), none, none, none, none, none, none, none, none] from rfl]
    have em : ((m + 1 : Nat) : Int) - 1 = (m : Int) := by omega
    walk_at "rdy"
    refine w_newT (by show 2 ≤ 1000000; decide) fun p1 H1 hp1 s1 h1 => ?_
    walk_at "rdy"
    refine w_newT (by show 2 ≤ 1000000; decide) fun p2 H2 hp2 s2 h2 => ?_
    walk_at "rdy"
    refine w_newT (by show 2 ≤ 1000000; decide) fun p3 H3 hp3 s3 h3 => ?_
    walk_at "rdy"
    refine w_newT (by show 2 ≤ 1000000; decide) fun p4 H4 hp4 s4 h4 => ?_
    walk_at "rdy"
    refine w_newT (by show 2 ≤ 1000000; decide) fun p5 H5 hp5 s5 h5 => ?_
    walk_at "rdy"
    refine w_newL (by show 5 ≤ 1000000; decide) fun q0 H6 hq0 s6 h6' => ?_
    walk_at "rdy"
    obtain ⟨i, hi, ek, eat⟩ := sides_pick h6 h10 (a1 := V.ref p1) (a2 := .ref p2) (a3 := .ref p3) (a4 := .ref p4) (a5 := .ref p5)
    obtain ⟨pp, epp, hpp⟩ : ∃ pp, [V.ref p1, .ref p2, .ref p3, .ref p4, .ref p5][i]? = some (.ref pp) ∧ H6 pp = some (.tup [.int (((sdL.getD i (0, 0)).1 : Nat) : Int), .int (((sdL.getD i (0, 0)).2 : Nat) : Int)]) := by
      rcases (show i = 0 ∨ i = 1 ∨ i = 2 ∨ i = 3 ∨ i = 4 by omega) with rfl | rfl | rfl | rfl | rfl
      · exact ⟨p1, rfl, s6 _ _ (s5 _ _ (s4 _ _ (s3 _ _ (s2 _ _ h1))))⟩
      · exact ⟨p2, rfl, s6 _ _ (s5 _ _ (s4 _ _ (s3 _ _ h2)))⟩
      · exact ⟨p3, rfl, s6 _ _ (s5 _ _ (s4 _ _ h3))⟩
      · exact ⟨p4, rfl, s6 _ _ (s5 _ _ h4)⟩
      · exact ⟨p5, rfl, s6 _ _ h5⟩
    refine w_ixL (SqL.of h6') (by rw [eat, epp]) ?_
    walk_at "upy"
    have s16 := ((((s1.trans s2).trans s3).trans s4).trans s5).trans s6
    have hSt6 := hSt.mono s16
    refine tl_new (u := [cds "or"]) rfl (by show 1 ≤ 1000000; decide) fun t1 H7 ht1 s7 h7 => ?_
    walk_at "rdy"
    refine tl_new (u := [cds "and"]) rfl (by show 1 ≤ 1000000; decide) fun t2 H8 ht2 s8 h8 => ?_
    walk_at "rdy"
    refine tl_new (u := [cds "=", cds "<", cds "<="]) rfl (by show 3 ≤ 1000000; decide) fun t3 H9 ht3 s9 h9 => ?_
    walk_at "rdy"
    refine tl_new (u := [cds "+", cds "-"]) rfl (by show 2 ≤ 1000000; decide) fun t4 H10 ht4 s10 h10' => ?_
    walk_at "rdy"
    refine tl_new (u := [cds "*", cds "/"]) rfl (by show 2 ≤ 1000000; decide) fun t5 H11 ht5 s11 h11 => ?_
    walk_at "rdy"
    refine w_newL (by show 5 ≤ 1000000; decide) fun q1 H12 hq1 s12 h12 => ?_
    walk_at "rdy"
    obtain ⟨j, hj, ej, ejat⟩ := sides_pick h6 h10 (a1 := V.ref t1) (a2 := .ref t2) (a3 := .ref t3) (a4 := .ref t4) (a5 := .ref t5)
    have eji : j = i := by omega
    subst eji
    have s612 := ((((s7.trans s8).trans s9).trans s10).trans s11).trans s12
    have hSt12 := hSt6.mono s612
    obtain ⟨sa, esa, hsa, nsa⟩ : ∃ sa, [V.ref t1, .ref t2, .ref t3, .ref t4, .ref t5][j]? = some (.ref sa) ∧ Tl H12 sa (sgL.getD j []) ∧ (sa ≠ S ∧ sa ≠ L) := by
      rcases (show j = 0 ∨ j = 1 ∨ j = 2 ∨ j = 3 ∨ j = 4 by omega) with rfl | rfl | rfl | rfl | rfl
      · exact ⟨t1, rfl, s12 _ _ (s11 _ _ (s10 _ _ (s9 _ _ (s8 _ _ h7)))), (hSt6.new ht1)⟩
      · exact ⟨t2, rfl, s12 _ _ (s11 _ _ (s10 _ _ (s9 _ _ h8))), ((hSt6.mono s7).new ht2)⟩
      · exact ⟨t3, rfl, s12 _ _ (s11 _ _ (s10 _ _ h9)), ((hSt6.mono (s7.trans s8)).new ht3)⟩
      · exact ⟨t4, rfl, s12 _ _ (s11 _ _ h10'), ((hSt6.mono ((s7.trans s8).trans s9)).new ht4)⟩
      · exact ⟨t5, rfl, s12 _ _ h11, ((hSt6.mono (((s7.trans s8).trans s9).trans s10)).new ht5)⟩
    refine w_ixL (SqL.of h12) (by rw [ejat, esa]) ?_
    walk_at "rdy"
    obtain ⟨sl0, sl3⟩ := sg_len j hi
    refine use_draw hSt12 (by rw [List.length_map]; omega) (by rw [List.length_map]; omega) fun y H13 y0 y1 hSt13 f13 => ?_
    rw [List.length_map] at y1
    obtain ⟨sg, hsg, esg⟩ := pick_at (l := sgL.getD j []) rfl y0 y1
    refine w_ixL (SqL.of (Tl.fr f13 nsa hsa)) esg ?_
    walk_at "rdy"
    obtain ⟨b1, b2, b3, b4, b5, b6, b7, b8, b9⟩ := sg_facts j hi sg hsg
    rw [← ek] at b1 b3 b4
    rw [em]
    have f0 : FrP S L H H13 := (((FrP.refl S L H).to s16).to s612).trans f13
    refine ⟨S, L, r, z, m, _, rfl, hSt13, (by omega), hm1, hmn, b5, fun pa va qa wa na ra Ha hpa oka hwa hna hta hca hra nqa hSta fa => ?_⟩
    obtain ⟨lva, ta, hlva, hva, ea⟩ := oka
    rw [if_pos hr0] at hca
    walk_at "upy"
    rw [em]
    refine ⟨S, L, ra, z, m, _, rfl, hSta, (by have := Phi_nn ra; omega), hm1, hmn, b6, fun pb vb qb wb nb rb Hb hpb okb hwb hnb htb hcb hrb nqb hStb fb => ?_⟩
    obtain ⟨lvb, tb, hlvb, hvb, eb⟩ := okb
    have hcb2 : (wt wb : Int) + Phi rb ≤ Phi ra + 20 ∧ ra ≤ rb + 16 * (wt wb : Int) := by split at hcb <;> omega
    walk_at "upy"
    have nqaS := (hSt13.new nqa)
    have hva2 := hSta.tr fb hva
    have hwa2 := Tl.fr fb nqaS hwa
    have lwa : wa.length ≤ 7200 := w_len_of hca hr5.1 (by decide)
    have lwb : wb.length ≤ 7200 := w_len_of hcb2 (by omega) (by decide)
    have fin : ∀ {Hc Hd He Hf Hg : Hp} {pt q4 q5 q6 p6 : Addr} {vs : List V}, vs = (if (j < 2) then [T sg, va, vb] else [T (cds "op"), T sg, va, vb]) → Same Hb Hc → Hc pt = some (.tup vs) → Same Hc Hd → Same Hd He → Same He Hf → Hf q6 = some (.lst ((wa ++ [sg] ++ wb).map T)) → He q6 = none → Same Hf Hg → Hg p6 = some (.tup [.ref pt, .ref q6]) → Q (.ref p6) Hg := fun {Hc Hd He Hf Hg pt q4 q5 q6 p6 vs} hvs sc hc sd se sf hf hq6 sg' hg => by
      have sbg := (((sc.trans sd).trans se).trans sf).trans sg'
      have stc := sd.trans (se.trans (sf.trans sg'))
      have e := Ex.bin b1 b2 (Nat.le_trans b3 hlva.1) ea (Nat.le_trans b4 hlvb.1) eb
      have htr : TrB K Hg (.ref pt) (binT sg ta tb) := by
        unfold binT
        by_cases h2 : j < 2
        · rw [if_pos h2] at hvs
          rw [if_pos (b9.mpr h2)]
          subst hvs
          exact .t (.inl (.inl (stc _ _ hc))) (.cons .s (.cons (hva2.same sbg) (.cons (hvb.same sbg) .nil))) (blk_no (fun e => by have h9 := b9.mpr h2; rw [e] at h9; exact absurd h9 (by decide +kernel)))
        · rw [if_neg h2] at hvs
          rw [if_neg (fun z => h2 (b9.mp z))]
          subst hvs
          exact .t (.inl (.inl (stc _ _ hc))) (.cons .s (.cons .s (.cons (hva2.same sbg) (.cons (hvb.same sbg) .nil))))
      have ew : wa ++ [sg] ++ wb = wa ++ sg :: wb := by rw [List.append_assoc]; rfl
      rw [ew] at hf
      have fbf : FrP S L H He := (((((f0.trans fa).trans fb).to sc).to sd).to se)
      refine kQ p6 (.ref pt) q6 _ (na ++ nb) rb Hg hg ⟨lvK kk, _, rfl, htr, e⟩ (sg' _ _ hf) (nod_app hna hnb) ?_ ?_ (by omega) (fbf.free ((((hStb.mono sc).mono sd).mono se).new hq6) hq6) (((((hStb.mono sc).mono sd).mono se).mono sf).mono sg') ((fbf.to sf).to sg')
      · intro x hx
        rcases List.mem_append.mp hx with hx | hx
        · exact hta x hx
        · rcases List.mem_cons.mp hx with rfl | hx
          · exact wm_tok _ b8
          · exact htb x hx
      · rw [wt_append, wt_cons]; omega
    refine w_if (fun h8 => ?_) (fun h8 => ?_)
    · walk_at "rdy"
      refine w_newT (by show 3 ≤ 1000000; decide) fun pt Hc hpt sc hc => ?_
      walk_at "rdy"
      refine tl_new (u := [sg]) rfl (by show 1 ≤ 1000000; decide) fun q4 Hd hq4 sd hd => ?_
      refine tl_cat ((hwa2.same sc).same sd) hd (by show _ + 1 ≤ _; omega) fun q5 He hq5 se he => ?_
      walk_at "rdy"
      refine tl_cat he (((hwb.same sc).same sd).same se) (by rw [List.length_append]; show _ + 1 + _ ≤ _; omega) fun q6 Hf hq6 sf hf => ?_
      walk_at "rdy"
      refine w_newT (by show 2 ≤ 1000000; decide) fun p6 Hg hp6 sg' hg => ?_
      exact fin (q4 := q4) (q5 := q5) (by rw [if_pos (by omega)]) sc hc sd se sf hf hq6 sg' hg
    · walk_at "rdy"
      refine w_newT (by show 4 ≤ 1000000; decide) fun pt Hc hpt sc hc => ?_
      walk_at "rdy"
      refine tl_new (u := [sg]) rfl (by show 1 ≤ 1000000; decide) fun q4 Hd hq4 sd hd => ?_
      refine tl_cat ((hwa2.same sc).same sd) hd (by show _ + 1 ≤ _; omega) fun q5 He hq5 se he => ?_
      walk_at "rdy"
      refine tl_cat he (((hwb.same sc).same sd).same se) (by rw [List.length_append]; show _ + 1 + _ ≤ _; omega) fun q6 Hf hq6 sf hf => ?_
      walk_at "rdy"
      refine w_newT (by show 2 ≤ 1000000; decide) fun p6 Hg hp6 sg' hg => ?_
      exact fin (q4 := q4) (q5 := q5) (by rw [if_neg (by omega)]; rfl) sc hc sd se sf hf hq6 sg' hg
abbrev s_law_block : Stmt := topS 19
abbrev N_law_block : List Str := ["state", "room", "names", "trees", "tokens"]
theorem sc_law_block : FnScope N_law_block ["state", "room"] (defScope s_law_block) := ⟨rfl, rfl, rfl, by decide +kernel, rfl, by decide +kernel, by decide +kernel⟩
theorem ok_law_block {f : Addr} {fd : FuncData} (F : Fun K "_law_block" "_law_block" s_law_block f fd) (Y : Bn mg) (hk : 4 ≤ k) (c_law_draw : Cal P w K mg base 1 "_law_draw" spDraw []) (c_law_names : Cal P w K mg base 4 "_law_names" spGNames []) (c_law_commas : Cal P w K mg base 1 "_law_commas" spCommas []) (c_law_body : Cal P w K mg base k "_law_body" (spBody K n) []) : FnOk P w K mg base CX0 (k + 1) f fd ["state", "room"] (spGBlock K n) := by
  refine F.ok sc_law_block (fun vs H Q E h => ?_) (fun cdv A outer s H vs Q E hr h => ?_)
  · obtain ⟨S, L, r, z, m, rfl, _⟩ := h
    rfl
  · obtain ⟨S, L, r, z, m, rfl, hSt, hr5, hmn, kQ⟩ := h
    have nd := sc_law_block.nd
    refine ⟨_, (pss_cons (ps_set (i := 2) nd rfl (Or.inl rfl) (pe_c c_law_names hr (by omega) rfl (pa_cons (pv 0) (pa_cons (pe_c c_law_draw hr (by omega) rfl (pa_cons (pv 0) (pa_cons pe_int pa_nil))) (pa_cons (pe_lst pa_nil) pa_nil)))))
      (pss_cons (ps_asg (pe_c c_law_body hr (by omega) rfl (pa_cons (pv 0) (pa_cons (pe_op op_sub (pv 1) pe_int) (pa_cons pe_int pa_nil)))) (pg_tup (by rfl) (pgs_cons (pg_name (i := 3) nd rfl (Or.inl rfl)) (pgs_cons (pg_name (i := 4) nd rfl (Or.inl rfl)) pgs_nil))))
      (pss_cut (ps_if (pt_tru (pv 2)) (pss_one (ps_set (i := 4) nd rfl (Or.inl rfl) (pe_op op_cat (pe_op op_cat (pe_c c_law_commas hr (by omega) rfl (pa_cons (pv 2) pa_nil)) (pe_lst (pa_cons pe_str pa_nil))) (pv 4)))) pss_nil)
      (pss_one (ps_ret (pe_tup (pa_cons (pe_tup (pa_cons pe_str (pa_cons (pe_callTy call_tupleOf (by rfl) Y.n_tuple (by decide +kernel) (pa_cons (pv 2) pa_nil)) (pa_cons (pv 3) pa_nil)))) (pa_cons (pe_op op_cat (pe_op op_cat (pe_lst (pa_cons pe_str pa_nil)) (pv 4)) (pe_lst (pa_cons pe_str pa_nil))) pa_nil)))))))), ?_⟩
    rw [show L2.start N_law_block [.ref S, .int ((m + 1 : Nat) : Int)] = [some (.ref S), some (.int ((m + 1 : Nat) : Int)), none, none, none] from rfl]
    have em : ((m + 1 : Nat) : Int) - 1 = (m : Int) := by omega
    walk_at "rdy"
    refine use_draw hSt (by decide) (by decide) fun c H1 c0 c1 hSt1 f1 => ?_
    walk_at "rdy"
    refine tl_new (u := []) rfl (by show 0 ≤ 1000000; decide) fun q0 H2 hq0 s2 h2 => ?_
    walk_at "rdy"
    refine ⟨S, L, q0, r, z, c, [], rfl, hSt1.mono s2, h2, (hSt1.new hq0), c0, by omega, (by have := Phi_nn r; omega), fun qn ps r3 H3 hnd _ hnm hpl hqn nqn hr3 hSt3 f3 => ?_⟩
    walk_at "rdy"
    rw [em]
    have f03 := (f1.to s2).trans f3
    refine ⟨S, L, r3, z, m, 3, rfl, hSt3, (by have := Phi_nn r3; have := Phi_mono hr3.1; omega), hmn, by decide, by decide, fun pb vb qb wb nb rb H4 hpb okb hwb hnb htb hcb hrb nqb hSt4 f4 => ?_⟩
    obtain ⟨l, hl, eb⟩ := okb
    walk_at "upy"
    have nqnS := ((hSt1.mono s2).new nqn)
    have hqn4 := Tl.fr f4 nqnS hqn
    have lwb : wb.length ≤ 7200 := w_len_of hcb (by omega) (by decide)
    have f04 := f03.trans f4
    have nqbS := (hSt3.new nqb)
    have pml := Phi_mono hr3.1
    have wps : ∀ {l : Ws}, (∀ x ∈ l, IsName x) → wt (commas l) ≤ 28 * l.length := fun {l} hn => by
      have wf : ∀ l : Ws, (∀ x ∈ l, IsName x) → wt (l.flatMap fun b => [cds ",", b]) ≤ 28 * l.length := fun l => by
        induction l with
        | nil => intro _; exact Nat.le_refl _
        | cons b l ih =>
          intro hn
          have := ih fun x hx => hn x (List.mem_cons_of_mem _ hx)
          have hb := RunOf.len (hn b List.mem_cons_self).1
          have e1 : (cds ",").length = 1 := by decide +kernel
          rw [List.flatMap_cons, wt_append, List.length_cons]
          show (cds ",").length + 3 + (b.length + 3 + 0) + _ ≤ _
          omega
      cases l with
      | nil => exact Nat.le_refl _
      | cons a l =>
        have := wf l fun x hx => hn x (List.mem_cons_of_mem _ hx)
        have hb := RunOf.len (hn a List.mem_cons_self).1
        rw [commas_cons, wt_cons, List.length_cons]
        omega
    have tps : ∀ {l : Ws}, (∀ x ∈ l, IsName x) → ∀ x ∈ commas l, Tok x := fun {l} hn => by
      cases l with
      | nil => intro x hx; exact absurd hx List.not_mem_nil
      | cons a l =>
        intro x hx
        rw [commas_cons] at hx
        rcases List.mem_cons.mp hx with rfl | hx
        · exact name_tok (hn _ List.mem_cons_self)
        · obtain ⟨b, hb, hx⟩ := List.mem_flatMap.mp hx
          rcases List.mem_cons.mp hx with rfl | hx
          · exact wm_tok _ (by decide +kernel)
          · rw [List.mem_singleton.mp hx]; exact name_tok (hn b (List.mem_cons_of_mem _ hb))
    have hps4 : ps.length ≤ 4 := by omega
    refine ⟨fun σ' H' => ∃ (q5 : Addr) (w5 : Ws), σ' = [some (.ref S), some (.int ((m + 1 : Nat) : Int)), some (.ref qn), some vb, some (.ref q5)] ∧ Same H4 H' ∧ Tl H' q5 w5 ∧ w5 = (if ps = [] then wb else commas ps ++ cds "|" :: wb), ?_, ?_⟩
    · walk_at "rdy"
      refine w_truL (SqL.of hqn4) (fun hne => ?_) (fun hem => ?_)
      · have hp0 : ps ≠ [] := fun e => hne (by rw [e]; rfl)
        have cl := commas_len hp0
        walk_at "rdy"
        refine ⟨qn, ps, rfl, hqn4, by omega, fun qc H5 hqc nqc s5 => ?_⟩
        walk_at "rdy"
        refine tl_new (u := [cds "|"]) rfl (by show 1 ≤ 1000000; decide) fun q6 H6 hq6 s6 h6 => ?_
        refine tl_cat (hqc.same s6) h6 (by show _ + 1 ≤ _; omega) fun q7 H7 hq7 s7 h7 => ?_
        walk_at "rdy"
        refine tl_cat h7 (((hwb.same s5).same s6).same s7) (by rw [List.length_append]; show _ + 1 + _ ≤ _; omega) fun q8 H8 hq8 s8 h8 => ?_
        walk_at "rdy"
        refine ⟨q8, _, rfl, ((s5.trans s6).trans s7).trans s8, h8, ?_⟩
        rw [if_neg hp0, List.append_assoc]
        rfl
      · have hp0 : ps = [] := by
          cases ps with
          | nil => rfl
          | cons a l => cases hem
        exact ⟨qb, wb, rfl, fun _ _ h => h, hwb, by rw [if_pos hp0]⟩
    · rintro σ' H5 ⟨q5, w5, rfl, s5, h5, ew5⟩
      have lw5 : w5.length ≤ 7300 := by
        rw [ew5]
        split
        · omega
        · rename_i hp0
          have cl := commas_len hp0
          rw [List.length_append, List.length_cons]; omega
      walk_at "rdy"
      refine w_tupOf (SqL.of (hqn4.same s5)) fun pn H6 hpn s6 h6 => ?_
      walk_at "rdy"
      refine w_newT (by show 3 ≤ 1000000; decide) fun pt H7 hpt s7 h7 => ?_
      walk_at "rdy"
      refine tl_new (u := [cds "{"]) rfl (by show 1 ≤ 1000000; decide) fun q8 H8 hq8 s8 h8 => ?_
      walk_at "rdy"
      refine tl_cat h8 (((h5.same s6).same s7).same s8) (by show 1 + _ ≤ _; omega) fun q9 H9 hq9 s9 h9 => ?_
      walk_at "rdy"
      refine tl_new (u := [cds "}"]) rfl (by show 1 ≤ 1000000; decide) fun q10 H10 hq10 s10 h10 => ?_
      refine tl_cat (h9.same s10) h10 (by rw [List.length_append]; show 1 + _ + 1 ≤ _; omega) fun q11 H11 hq11 s11 h11 => ?_
      walk_at "rdy"
      refine w_newT (by show 2 ≤ 1000000; decide) fun p12 H12 hp12 s12 h12 => ?_
      have s7e := (((s8.trans s9).trans s10).trans s11).trans s12
      have s4e := ((s5.trans s6).trans s7).trans s7e
      have s10' := ((((((s5.trans s6).trans s7).trans s8).trans s9).trans s10))
      have e1 : (cds "{").length = 1 := by decide +kernel
      have e2 : (cds "}").length = 1 := by decide +kernel
      have e3 : (cds "|").length = 1 := by decide +kernel
      have ew : [cds "{"] ++ w5 ++ [cds "}"] = cds "{" :: (w5 ++ [cds "}"]) := rfl
      rw [ew] at h11
      have hnod : ∀ x ∈ (if ps = [] then nb else ps :: nb), x.Nodup := by
        split
        · exact hnb
        · intro x hx
          rcases List.mem_cons.mp hx with rfl | hx
          · exact hnd
          · exact hnb x hx
      have hnm' : ∀ x ∈ ps, isNm x := fun x hx => name_nm (hnm x hx)
      have htr : TrB K H12 (.ref pt) (.t [str "block", .t (ps.map Tr.s), .t l]) := .t (.inl (.inl (s7e _ _ h7))) (.cons .s (.cons (.t (h6.same (s7.trans s7e)).sq (trsB_texts ps)) (.cons (hl.same s4e) .nil))) (fun ps2 r2 e => by injection e with _ e; injection e with e _; injection e with e; exact ⟨_, pn, _, ps, rfl, e.symm, h6.same (s7.trans s7e)⟩)
      have hex : Ex 9 (m + 1) (.t [str "block", .t (ps.map Tr.s), .t l]) (cds "{" :: (w5 ++ [cds "}"])) (if ps = [] then nb else ps :: nb) := by
        rw [ew5]
        by_cases hp0 : ps = []
        · rw [if_pos hp0, if_pos hp0, hp0]; exact .blk0 eb
        · rw [if_neg hp0, if_neg hp0, List.append_assoc]; exact .blk hp0 hps4 hnm' eb
      refine kQ p12 (.ref pt) q11 _ _ rb H12 h12 ⟨9, _, rfl, htr, hex⟩ (h11.same s12) hnod ?_ ?_ (by omega) ((f04.to s10').free ((hSt4.mono s10').new hq11) hq11) (hSt4.mono s4e) (f04.to s4e)
      · intro x hx
        rcases List.mem_cons.mp hx with rfl | hx
        · exact wm_tok _ (by decide +kernel)
        · rcases List.mem_append.mp hx with hx | hx
          · rw [ew5] at hx
            split at hx
            · exact htb x hx
            · rcases List.mem_append.mp hx with hx | hx
              · exact tps hnm x hx
              · rcases List.mem_cons.mp hx with rfl | hx
                · exact wm_tok _ (by decide +kernel)
                · exact htb x hx
          · rw [List.mem_singleton.mp hx]; exact wm_tok _ (by decide +kernel)
      · have ec : wt [cds "}"] = 4 := by decide +kernel
        have ww := wps hnm
        rw [wt_cons, wt_append, ec, e1, ew5]
        split
        · omega
        · rw [wt_append, wt_cons, e3]; omega
abbrev s_law_compound : Stmt := topS 20
abbrev N_law_compound : List Str := ["state", "kind", "room", "tree", "tokens", "name", "parts", "more"]
theorem sc_law_compound : FnScope N_law_compound ["state", "kind", "room"] (defScope s_law_compound) := ⟨rfl, rfl, rfl, by decide +kernel, rfl, by decide +kernel, by decide +kernel⟩
theorem ok_law_compound {f : Addr} {fd : FuncData} (F : Fun K "_law_compound" "_law_compound" s_law_compound f fd) (Y : Bn mg) (hk : 3 ≤ k) (c_law_expression : Cal P w K mg base k "_law_expression" (spExpr K n) []) (c_law_sides : Cal P w K mg base k "_law_sides" (spSides K n) []) (c_law_name : Cal P w K mg base 3 "_law_name" (spTx IsName 21) [])
    (c_law_list : Cal P w K mg base k "_law_list" (spList K n) []) (c_law_block : Cal P w K mg base k "_law_block" (spGBlock K n) []) : FnOk P w K mg base CX0 (k + 1) f fd ["state", "kind", "room"] (spComp K n) := by
  refine F.ok sc_law_compound (fun vs H Q E h => ?_) (fun cdv A outer s H vs Q E hr h => ?_)
  · obtain ⟨S, L, r, z, kk, m, rfl, _⟩ := h
    rfl
  · obtain ⟨S, L, r, z, kk, m, rfl, hSt, hr5, hr0, h4, h15, hm1, hmn, kQ⟩ := h
    have nd := sc_law_compound.nd
    refine ⟨_, (pss_cons (ps_if (pt_cmpR op_eq (pv 1) pe_int (nomark _)) (pss_cons (ps_asg (pe_c c_law_expression hr (by omega) rfl (pa_cons (pv 0) (pa_cons (pe_op op_sub (pv 2) pe_int) (pa_cons pe_int pa_nil)))) (pg_tup (by rfl) (pgs_cons (pg_name (i := 3) nd rfl (Or.inl rfl)) (pgs_cons (pg_name (i := 4) nd rfl (Or.inl rfl)) pgs_nil))))
      (pss_one (ps_ret (pe_tup (pa_cons (pe_tup (pa_cons pe_str (pa_cons (pv 3) pa_nil))) (pa_cons (pe_op op_cat (pe_lst (pa_cons pe_str pa_nil)) (pv 4)) pa_nil)))))) pss_nil)
      (pss_cons (ps_if (pt_cmpR op_eq (pv 1) pe_int (nomark _)) (pss_cons (ps_asg (pe_c c_law_expression hr (by omega) rfl (pa_cons (pv 0) (pa_cons (pe_op op_sub (pv 2) pe_int) (pa_cons pe_int pa_nil)))) (pg_tup (by rfl) (pgs_cons (pg_name (i := 3) nd rfl (Or.inl rfl)) (pgs_cons (pg_name (i := 4) nd rfl (Or.inl rfl)) pgs_nil))))
      (pss_one (ps_ret (pe_tup (pa_cons (pe_tup (pa_cons pe_str (pa_cons (pv 3) pa_nil))) (pa_cons (pe_op op_cat (pe_lst (pa_cons pe_str pa_nil)) (pv 4)) pa_nil)))))) pss_nil)
      (pss_cons (ps_if (pt_cmpR op_lt (pv 1) pe_int (nomark _)) (pss_one (ps_ret (pe_c c_law_sides hr (by omega) rfl (pa_cons (pv 0) (pa_cons (pv 1) (pa_cons (pv 2) pa_nil)))))) pss_nil)
      (pss_cons (ps_if (pt_cmpR op_lt (pv 1) pe_int (nomark _)) (pss_cons (ps_asg (pe_c c_law_expression hr (by omega) rfl (pa_cons (pv 0) (pa_cons (pe_op op_sub (pv 2) pe_int) (pa_cons pe_int pa_nil)))) (pg_tup (by rfl) (pgs_cons (pg_name (i := 3) nd rfl (Or.inl rfl)) (pgs_cons (pg_name (i := 4) nd rfl (Or.inl rfl)) pgs_nil))))
      (pss_cons (ps_set (i := 5) nd rfl (Or.inl rfl) (pe_c c_law_name hr (by omega) rfl (pa_cons (pv 0) pa_nil)))
      (pss_cons (ps_asg (pe_c c_law_list hr (by omega) rfl (pa_cons (pv 0) (pa_cons (pe_op op_sub (pv 2) pe_int) pa_nil))) (pg_tup (by rfl) (pgs_cons (pg_name (i := 6) nd rfl (Or.inl rfl)) (pgs_cons (pg_name (i := 7) nd rfl (Or.inl rfl)) pgs_nil))))
      (pss_one (ps_ret (pe_tup (pa_cons (pe_tup (pa_cons pe_str (pa_cons (pv 3) (pa_cons (pv 5) (pa_cons (pv 6) pa_nil))))) (pa_cons (pe_op op_cat (pe_op op_cat (pv 4) (pe_lst (pa_cons pe_str (pa_cons (pv 5) pa_nil)))) (pv 7)) pa_nil)))))))) pss_nil)
      (pss_cons (ps_if (pt_cmpR op_eq (pv 1) pe_int (nomark _)) (pss_cons (ps_set (i := 5) nd rfl (Or.inl rfl) (pe_c c_law_name hr (by omega) rfl (pa_cons (pv 0) pa_nil)))
      (pss_cons (ps_asg (pe_c c_law_list hr (by omega) rfl (pa_cons (pv 0) (pa_cons (pe_op op_sub (pv 2) pe_int) pa_nil))) (pg_tup (by rfl) (pgs_cons (pg_name (i := 6) nd rfl (Or.inl rfl)) (pgs_cons (pg_name (i := 7) nd rfl (Or.inl rfl)) pgs_nil))))
      (pss_one (ps_ret (pe_tup (pa_cons (pe_tup (pa_cons pe_str (pa_cons (pv 5) (pa_cons (pv 6) pa_nil)))) (pa_cons (pe_op op_cat (pe_lst (pa_cons pe_str (pa_cons pe_str (pa_cons (pv 5) pa_nil)))) (pv 7)) pa_nil))))))) pss_nil)
      (pss_one (ps_ret (pe_c c_law_block hr (by omega) rfl (pa_cons (pv 0) (pa_cons (pv 2) pa_nil)))))))))), ?_⟩
    rw [show L2.start N_law_compound [.ref S, .int kk, .int ((m + 1 : Nat) : Int)] = [some (.ref S), some (.int kk), some (.int ((m + 1 : Nat) : Int)), none, none, none, none, none] from rfl]
    have em : ((m + 1 : Nat) : Int) - 1 = (m : Int) := by omega
    walk_at "rdy"
    refine w_ifI (fun k4 => ?_) (fun k4 => ?_)
    · walk_at "rdy"
      rw [em]
      refine ⟨S, L, r, z, m, 7, rfl, hSt, (by omega), hm1, hmn, by decide, fun pa va qa wa na ra Ha hpa oka hwa hna hta hca hra nqa hSta fa => ?_⟩
      obtain ⟨lva, ta, hlva, hva, ea⟩ := oka
      rw [if_pos hr0] at hca
      have lwa : wa.length ≤ 7200 := w_len_of hca hr5.1 (by decide)
      walk_at "upy"
      refine w_newT (by show 2 ≤ 1000000; decide) fun pt Hc hpt sc hc => ?_
      walk_at "rdy"
      refine tl_new (u := [cds "-"]) rfl (by show 1 ≤ 1000000; decide) fun q4 Hd hq4 sd hd => ?_
      walk_at "rdy"
      refine tl_cat hd ((hwa.same sc).same sd) (by show 1 + _ ≤ _; omega) fun q5 He hq5 se he => ?_
      walk_at "rdy"
      refine w_newT (by show 2 ≤ 1000000; decide) fun p6 Hg hp6 sg hg => ?_
      have e1 : (cds "-").length = 1 := by decide +kernel
      refine kQ p6 (.ref pt) q5 _ na ra Hg hg ⟨7, _, by rw [k4]; rfl, .t (.inl (.inl (sg _ _ (se _ _ (sd _ _ hc))))) (.cons .s (.cons (hva.same (((sc.trans sd).trans se).trans sg)) .nil)), .neg hlva.1 ea⟩ (he.same sg) hna (fun x hx => ?_) ?_ hra (((fa.to sc).to sd).free (((hSta.mono sc).mono sd).new hq5) hq5) ((((hSta.mono sc).mono sd).mono se).mono sg) ((((fa.to sc).to sd).to se).to sg)
      · rcases List.mem_cons.mp hx with rfl | hx
        · exact wm_tok _ (by decide +kernel)
        · exact hta x hx
      · show ((wt (cds "-" :: wa) : Nat) : Int) + _ ≤ _ ∧ _ ≤ _ + 16 * ((wt (cds "-" :: wa) : Nat) : Int)
        rw [wt_cons]; omega
    · walk_at "rdy"
      refine w_ifI (fun k5 => ?_) (fun k5 => ?_)
      · walk_at "rdy"
        rw [em]
        refine ⟨S, L, r, z, m, 3, rfl, hSt, (by omega), hm1, hmn, by decide, fun pa va qa wa na ra Ha hpa oka hwa hna hta hca hra nqa hSta fa => ?_⟩
        obtain ⟨lva, ta, hlva, hva, ea⟩ := oka
        rw [if_pos hr0] at hca
        have lwa : wa.length ≤ 7200 := w_len_of hca hr5.1 (by decide)
        walk_at "upy"
        refine w_newT (by show 2 ≤ 1000000; decide) fun pt Hc hpt sc hc => ?_
        walk_at "rdy"
        refine tl_new (u := [cds "not"]) rfl (by show 1 ≤ 1000000; decide) fun q4 Hd hq4 sd hd => ?_
        walk_at "rdy"
        refine tl_cat hd ((hwa.same sc).same sd) (by show 1 + _ ≤ _; omega) fun q5 He hq5 se he => ?_
        walk_at "rdy"
        refine w_newT (by show 2 ≤ 1000000; decide) fun p6 Hg hp6 sg hg => ?_
        have e1 : (cds "not").length = 3 := by decide +kernel
        refine kQ p6 (.ref pt) q5 _ na ra Hg hg ⟨3, _, by rw [k5]; rfl, .t (.inl (.inl (sg _ _ (se _ _ (sd _ _ hc))))) (.cons .s (.cons (hva.same (((sc.trans sd).trans se).trans sg)) .nil)), .not hlva.1 ea⟩ (he.same sg) hna (fun x hx => ?_) ?_ hra (((fa.to sc).to sd).free (((hSta.mono sc).mono sd).new hq5) hq5) ((((hSta.mono sc).mono sd).mono se).mono sg) ((((fa.to sc).to sd).to se).to sg)
        · rcases List.mem_cons.mp hx with rfl | hx
          · exact wm_tok _ (by decide +kernel)
          · exact hta x hx
        · show ((wt (cds "not" :: wa) : Nat) : Int) + _ ≤ _ ∧ _ ≤ _ + 16 * ((wt (cds "not" :: wa) : Nat) : Int)
          rw [wt_cons]; omega
      · walk_at "rdy"
        refine w_if (fun k11 => ?_) (fun k11 => ?_)
        · walk_at "rdy"
          refine ⟨S, L, r, z, kk, m, rfl, hSt, hr5, hr0, by omega, by omega, hm1, hmn, fun pa va qa wa na ra Ha hpa oka hwa hna hta hca hra nqa hSta fa => ?_⟩
          exact kQ pa va qa wa na ra Ha hpa oka hwa hna hta (by omega) hra nqa hSta fa
        · walk_at "rdy"
          refine w_if (fun k13 => ?_) (fun k13 => ?_)
          · walk_at "rdy"
            rw [em]
            refine ⟨S, L, r, z, m, 8, rfl, hSt, (by omega), hm1, hmn, by decide, fun pa va qa wa na ra Ha hpa oka hwa hna hta hca hra nqa hSta fa => ?_⟩
            obtain ⟨lva, ta, hlva, hva, ea⟩ := oka
            rw [if_pos hr0] at hca
            have lwa : wa.length ≤ 7200 := w_len_of hca hr5.1 (by decide)
            walk_at "upy"
            refine use_tx hSta (by have := Phi_nn ra; omega) fun x rx Hx hx hxr hxr2 hStx fx => ?_
            walk_at "rdy"
            rw [em]
            refine ⟨S, L, rx, z, m, rfl, hStx, (by have := Phi_nn rx; have := Phi_mono hxr2; have := RunOf.len hx.1; omega), hm1, hmn, fun pb vb qb wb nb rb Hb hpb okb hwb hnb htb hcb hrb nqb hStb fb => ?_⟩
            obtain ⟨l, w0, ew0, hl, eb⟩ := okb
            have lwb : wb.length ≤ 7200 := w_len_of hcb (by omega) (by decide)
            walk_at "upy"
            have nqaS := (hSt.new nqa)
            have hva2 := hStx.tr fb (hSta.tr fx hva)
            have hwa2 := Tl.fr fb nqaS (Tl.fr fx nqaS hwa)
            refine w_newT (by show 4 ≤ 1000000; decide) fun pt Hc hpt sc hc => ?_
            walk_at "rdy"
            refine tl_new (u := [cds ".", x]) rfl (by show 2 ≤ 1000000; decide) fun q4 Hd hq4 sd hd => ?_
            refine tl_cat ((hwa2.same sc).same sd) hd (by show _ + 2 ≤ _; omega) fun q5 He hq5 se he => ?_
            walk_at "rdy"
            refine tl_cat he (((hwb.same sc).same sd).same se) (by rw [List.length_append]; show _ + 2 + _ ≤ _; omega) fun q6 Hf hq6 sf hf => ?_
            walk_at "rdy"
            refine w_newT (by show 2 ≤ 1000000; decide) fun p6 Hg hp6 sg hg => ?_
            have e1 : (cds ".").length = 1 := by decide +kernel
            have xl := RunOf.len hx.1
            have pm := Phi_mono hxr2
            have ew : wa ++ [cds ".", x] ++ wb = wa ++ cds "." :: x :: cds "(" :: (w0 ++ [cds ")"]) := by rw [List.append_assoc, ew0]; rfl
            have elv : (8 : Nat) = lvK kk := by
              unfold lvK
              rw [if_neg k4, if_neg k5, if_neg (by omega), if_neg (by omega), if_neg (by omega), if_neg (by omega), if_neg (by omega), if_pos (by omega)]
            have f3 := (fa.trans fx).trans fb
            refine kQ p6 (.ref pt) q6 _ (na ++ nb) rb Hg hg ⟨8, _, elv, .t (.inl (.inl (sg _ _ (sf _ _ (se _ _ (sd _ _ hc)))))) (.cons .s (.cons (hva2.same ((((sc.trans sd).trans se).trans sf).trans sg)) (.cons .s (.cons (hl.same ((((sc.trans sd).trans se).trans sf).trans sg)) .nil)))), (by rw [ew]; exact .send hlva.1 ea (name_nm hx) eb)⟩ (hf.same sg) (nod_app hna hnb) (fun y hy => ?_) ?_ (by omega) ((((f3.to sc).to sd).to se).free ((((hStb.mono sc).mono sd).mono se).new hq6) hq6) (((((hStb.mono sc).mono sd).mono se).mono sf).mono sg) (((((f3.to sc).to sd).to se).to sf).to sg)
            · rcases List.mem_append.mp hy with hy | hy
              · rcases List.mem_append.mp hy with hy | hy
                · exact hta y hy
                · rcases List.mem_cons.mp hy with rfl | hy
                  · exact wm_tok _ (by decide +kernel)
                  · rw [List.mem_singleton.mp hy]; exact name_tok hx
              · exact htb y hy
            · have ec : wt [cds ".", x] = 4 + (x.length + 3) := by rw [wt_cons, e1, wt1 rfl]
              rw [wt_append, wt_append, ec]; omega
          · walk_at "rdy"
            refine w_ifI (fun k13' => ?_) (fun k13' => ?_)
            · walk_at "rdy"
              refine use_tx hSt (by have := Phi_nn r; omega) fun x rx Hx hx hxr hxr2 hStx fx => ?_
              walk_at "rdy"
              rw [em]
              refine ⟨S, L, rx, z, m, rfl, hStx, (by have := Phi_nn rx; have := Phi_mono hxr2; have := RunOf.len hx.1; omega), hm1, hmn, fun pb vb qb wb nb rb Hb hpb okb hwb hnb htb hcb hrb nqb hStb fb => ?_⟩
              obtain ⟨l, w0, ew0, hl, eb⟩ := okb
              have lwb : wb.length ≤ 7200 := w_len_of hcb (by omega) (by decide)
              walk_at "upy"
              refine w_newT (by show 3 ≤ 1000000; decide) fun pt Hc hpt sc hc => ?_
              walk_at "rdy"
              refine tl_new (u := [cds "super", cds ".", x]) rfl (by show 3 ≤ 1000000; decide) fun q4 Hd hq4 sd hd => ?_
              walk_at "rdy"
              refine tl_cat hd ((hwb.same sc).same sd) (by show 3 + _ ≤ _; omega) fun q5 He hq5 se he => ?_
              walk_at "rdy"
              refine w_newT (by show 2 ≤ 1000000; decide) fun p6 Hg hp6 sg hg => ?_
              have e1 : (cds ".").length = 1 := by decide +kernel
              have e2 : (cds "super").length = 5 := by decide +kernel
              have xl := RunOf.len hx.1
              have pm := Phi_mono hxr2
              have ew : [cds "super", cds ".", x] ++ wb = cds "super" :: cds "." :: x :: cds "(" :: (w0 ++ [cds ")"]) := by rw [ew0]; rfl
              have elv : (9 : Nat) = lvK kk := by rw [k13']; rfl
              have f3 := fx.trans fb
              refine kQ p6 (.ref pt) q5 _ nb rb Hg hg ⟨9, _, elv, .t (.inl (.inl (sg _ _ (se _ _ (sd _ _ hc))))) (.cons .s (.cons .s (.cons (hl.same (((sc.trans sd).trans se).trans sg)) .nil))), (by rw [ew]; exact .sup (name_nm hx) eb)⟩ (he.same sg) hnb (fun y hy => ?_) ?_ (by omega) (((f3.to sc).to sd).free (((hStb.mono sc).mono sd).new hq5) hq5) ((((hStb.mono sc).mono sd).mono se).mono sg) ((((f3.to sc).to sd).to se).to sg)
              · rcases List.mem_append.mp hy with hy | hy
                · rcases List.mem_cons.mp hy with rfl | hy
                  · exact wm_tok _ (by decide +kernel)
                  · rcases List.mem_cons.mp hy with rfl | hy
                    · exact wm_tok _ (by decide +kernel)
                    · rw [List.mem_singleton.mp hy]; exact name_tok hx
                · exact htb y hy
              · have ec : wt [cds "super", cds ".", x] = 8 + (4 + (x.length + 3)) := by rw [wt_cons, e2, wt_cons, e1, wt1 rfl]
                rw [wt_append, ec]; omega
            · walk_at "rdy"
              refine ⟨S, L, r, z, m, rfl, hSt, (by omega), hmn, fun pa va qa wa na ra Ha hpa oka hwa hna hta hca hra nqa hSta fa => ?_⟩
              obtain ⟨lva, ta, hlva, hva, ea⟩ := oka
              have elv : (9 : Nat) = lvK kk := by
                unfold lvK
                rw [if_neg k4, if_neg k5, if_neg (by omega), if_neg (by omega), if_neg (by omega), if_neg (by omega), if_neg (by omega), if_neg (by omega)]
              exact kQ pa va qa wa na ra Ha hpa ⟨lva, ta, by rw [hlva, elv], hva, ea⟩ hwa hna hta (by omega) hra nqa hSta fa
end
end
section
open PySem PySem.Spec PyProof.Rows L2
open C8 (Cal cal0 pe_c pe_gc pss_cut tCut)

def lvA (k : Int) : Nat := if k < 4 then 9 else lvK k
theorem lv_pick {kk : Int} (h0 : 0 ≤ kk) (h1 : kk < 16) : atI [V.int 9, .int 9, .int 9, .int 9, .int 7, .int 3, .int 1, .int 2, .int 4, .int 5, .int 6, .int 8, .int 8, .int 9, .int 9, .int 9] kk = some (.int ((lvA kk : Nat) : Int)) := by
  have : kk = 0 ∨ kk = 1 ∨ kk = 2 ∨ kk = 3 ∨ kk = 4 ∨ kk = 5 ∨ kk = 6 ∨ kk = 7 ∨ kk = 8 ∨ kk = 9 ∨ kk = 10 ∨ kk = 11 ∨ kk = 12 ∨ kk = 13 ∨ kk = 14 ∨ kk = 15 := by omega
  rcases this with rfl | rfl | rfl | rfl | rfl | rfl | rfl | rfl | rfl | rfl | rfl | rfl | rfl | rfl | rfl | rfl <;> rfl
theorem lvA_pos (kk : Int) : 1 ≤ lvA kk := by unfold lvA lvK; repeat' split
                                              all_goals omega
def spChc (K : PySem.W.Frag) (n : Nat) : Sp := fun vs H Q _ => ∃ (S L : Addr) (r z : Int) (m : Nat), vs = [.ref S, .int ((m + 1 : Nat) : Int)] ∧ StR H S L r z ∧ (r ≤ 500 ∧ -797000 ≤ r - 16 * Phi r ∧ 0 ≤ Phi r) ∧ 1 ≤ m ∧ m ≤ n ∧ GiveD 16 S L r z H Q (okS K (m + 1)) 60
section
variable {P : Program} {w : World} {K : PySem.W.Frag} {mg : Str → Option Value} {base : Heap} {k n : Nat}
abbrev s_law_expression : Stmt := topS 21
abbrev N_law_expression : List Str := ["state", "room", "asked", "kind", "spare", "level", "bracket", "tree", "tokens"]
theorem sc_law_expression : FnScope N_law_expression ["state", "room", "asked"] (defScope s_law_expression) := ⟨rfl, rfl, rfl, by decide +kernel, rfl, by decide +kernel, by decide +kernel⟩
theorem ok_law_expression {f : Addr} {fd : FuncData} (F : Fun K "_law_expression" "_law_expression" s_law_expression f fd) (Y : Bn mg) (hk : 4 ≤ k) (c_law_draw : Cal P w K mg base 1 "_law_draw" spDraw []) (c_law_leaf : Cal P w K mg base 4 "_law_leaf" (spLeaf K) []) (c_law_compound : Cal P w K mg base k "_law_compound" (spComp K n) []) :
    FnOk P w K mg base CX0 (k + 1) f fd ["state", "room", "asked"] (spExpr K (n + 1)) := by
  refine F.ok sc_law_expression (fun vs H Q E h => ?_) (fun cdv A outer s H vs Q E hr h => ?_)
  · obtain ⟨S, L, r, z, m, a, rfl, _⟩ := h
    rfl
  · obtain ⟨S, L, r, z, m, a, rfl, hSt, hr5, hm1, hmn, ha9, kQ⟩ := h
    have nd := sc_law_expression.nd
    refine ⟨_, (pss_cons (ps_set (i := 3) nd rfl (Or.inl rfl) (pe_c c_law_draw hr (by omega) rfl (pa_cons (pv 0) (pa_cons pe_int pa_nil))))
      (pss_cons (ps_asg (pe_op op_sub (pe_ix ix_list (pv 0) pe_int (fun _ _ => rfl)) pe_int) (pg_sub (pv 0) pe_int set_list))
      (pss_cut (ps_set (i := 4) nd rfl (Or.inl rfl) (pe_and (pe_cmpR op_gt (pe_ix ix_list (pv 0) pe_int (fun _ _ => rfl)) pe_int (nomark _)) (pe_one (pe_cmpR op_eq (pe_c c_law_draw hr (by omega) rfl (pa_cons (pv 0) (pa_cons pe_int pa_nil))) pe_int (nomark _)))))
      (pss_cons (ps_set (i := 5) nd rfl (Or.inl rfl) (pe_ix ix_list (pe_lst (pa_cons pe_int (pa_cons pe_int (pa_cons pe_int (pa_cons pe_int (pa_cons pe_int (pa_cons pe_int (pa_cons pe_int (pa_cons pe_int (pa_cons pe_int (pa_cons pe_int (pa_cons pe_int (pa_cons pe_int (pa_cons pe_int (pa_cons pe_int (pa_cons pe_int (pa_cons pe_int pa_nil))))))))))))))))) (pv 3) (fun _ _ => rfl)))
      (pss_cut (ps_set (i := 6) nd rfl (Or.inl rfl) (pe_or (pv 4) (pe_one (pe_cmpR op_lt (pv 5) (pv 2) (nomark _)))))
      (pss_cut (ps_if (PW.pt (pw_or (pt_cmpR op_le (pe_ix ix_list (pv 0) pe_int (fun _ _ => rfl)) pe_int (nomark _)) (pw_or (pt_cmpR op_lt (pv 3) pe_int (nomark _)) (pw_or1 (pt_cmpR op_lt (pe_op op_sub (pv 1) (pe_callTy call_intI (by rfl) Y.n_int (by decide +kernel) (pa_cons (pv 6) pa_nil))) pe_int (nomark _)))))) (pss_cons (ps_set (i := 6) nd rfl (Or.inl rfl) (pe_and (pv 4) (pe_one (pe_cmpR op_gt (pv 1) pe_int (nomark _)))))
      (pss_one (ps_asg (pe_c c_law_leaf hr (by omega) rfl (pa_cons (pv 0) pa_nil)) (pg_tup (by rfl) (pgs_cons (pg_name (i := 7) nd rfl (Or.inl rfl)) (pgs_cons (pg_name (i := 8) nd rfl (Or.inl rfl)) pgs_nil)))))) (pss_one (ps_asg (pe_c c_law_compound hr (by omega) rfl (pa_cons (pv 0) (pa_cons (pv 3) (pa_cons (pe_op op_sub (pv 1) (pe_callTy call_intI (by rfl) Y.n_int (by decide +kernel) (pa_cons (pv 6) pa_nil))) pa_nil)))) (pg_tup (by rfl) (pgs_cons (pg_name (i := 7) nd rfl (Or.inl rfl)) (pgs_cons (pg_name (i := 8) nd rfl (Or.inl rfl)) pgs_nil))))))
      (pss_cut (ps_if (pt_val (pv 6)) (pss_one (ps_set (i := 8) nd rfl (Or.inl rfl) (pe_op op_cat (pe_op op_cat (pe_lst (pa_cons pe_str pa_nil)) (pv 8)) (pe_lst (pa_cons pe_str pa_nil))))) pss_nil)
      (pss_one (ps_ret (pe_tup (pa_cons (pv 7) (pa_cons (pv 8) pa_nil)))))))))))), ?_⟩
    rw [show L2.start N_law_expression [.ref S, .int (m : Int), .int (a : Int)] = [some (.ref S), some (.int (m : Int)), some (.int (a : Int)), none, none, none, none, none, none] from rfl]
    walk_at "rdy"
    refine use_draw hSt (by decide) (by decide) fun kk H1 k0 k15 hSt1 f1 => ?_
    obtain ⟨A0, i1, c1, x1, b1, hS1⟩ := hSt1.obj
    walk_at "rdy"
    refine w_stset hS1 rfl fun H2 hS2 f2 => ?_
    have hSt2 := hSt1.put5 hS1 hS2 f2 (by omega)
    have f12 := f1.trans (Fr.p f2)
    walk_at "rdy"
    refine ⟨fun σ' H' => ∃ b : Bool, σ' = [some (.ref S), some (.int (m : Int)), some (.int (a : Int)), some (.int kk), some (.bl b), none, none, none, none] ∧ StR H' S L (r - 8) z ∧ FrP S L H H', ?_, ?_⟩
    · walk_at "rdy"
      refine w_if (fun hz => ?_) (fun hz => ?_)
      · walk_at "rdy"
        refine use_draw hSt2 (by decide) (by decide) fun y H3 y0 y1 hSt3 f3 => ?_
        walk_at "rdy"
        exact ⟨_, rfl, hSt3, f12.trans f3⟩
      · walk_at "rdy"
        exact ⟨_, rfl, hSt2, f12⟩
    · rintro σ' H3 ⟨b, rfl, hSt3, f3⟩
      walk_at "rdy"
      refine w_newL (by show 16 ≤ 1000000; decide) fun qL H4 hqL s4 h4 => ?_
      walk_at "rdy"
      refine w_ixL (SqL.of h4) (lv_pick k0 k15) ?_
      walk_at "rdy"
      have hSt4 := hSt3.mono s4
      have f4 := f3.to s4
      refine ⟨fun σ' H' => H' = H4 ∧ ∃ brk : Bool, σ' = [some (.ref S), some (.int (m : Int)), some (.int (a : Int)), some (.int kk), some (.bl b), some (.int ((lvA kk : Nat) : Int)), some (.bl brk), none, none] ∧ (brk = false → a ≤ lvA kk), ?_, ?_⟩
      · walk_at "rdy"
        refine w_ifb (fun hb => ?_) (fun hb => ?_)
        · walk_at "rdy"
          exact ⟨rfl, true, rfl, fun h => Bool.noConfusion h⟩
        · walk_at "rdy"
          refine ⟨rfl, _, rfl, fun h => ?_⟩
          have := of_decide_eq_false h
          omega
      · rintro σ' H5 ⟨rfl, brk, rfl, hbrk⟩
        obtain ⟨A0, i4, c4, x4, b4, hS4⟩ := hSt4.obj
        walk_at "rdy"
        refine ⟨fun σ' H' => ∃ (bk : Bool) (v : V) (q : Addr) (t : Tr) (lv hm : Nat) (w0 : Ws) (ns : List Ws) (r' : Int), σ' = [some (.ref S), some (.int (m : Int)), some (.int (a : Int)), some (.int kk), some (.bl b), some (.int ((lvA kk : Nat) : Int)), some (.bl bk), some v, some (.ref q)] ∧
            StR H' S L r' z ∧ FrP S L H H' ∧ TrB K H' v t ∧ Tl H' q w0 ∧ Ex lv hm t w0 ns ∧ m = hm + (if bk = true then 1 else 0) ∧ 1 ≤ hm ∧ (bk = false → a ≤ lv) ∧ 1 ≤ lv ∧ (∀ l ∈ ns, l.Nodup) ∧ (∀ x ∈ w0, Tok x) ∧ ((wt w0 : Int) + Phi r' ≤ Phi r + (if 0 < r then -110 else 12) ∧ r + 16 ≤ r' + 16 * (wt w0 : Int)) ∧ r' ≤ r ∧ H q = none, ?_, ?_⟩
        · have lf : ∀ bk : Bool, (bk = true → 2 ≤ m) → ∃ hm, m = (hm + 1) + (if bk = true then 1 else 0) := fun bk hbk => by
            cases bk with
            | true => exact ⟨m - 2, by have := hbk rfl; rw [if_pos rfl]; omega⟩
            | false => exact ⟨m - 1, by rw [if_neg Bool.false_ne_true]; omega⟩
          have doLeaf : ∀ bk : Bool, (bk = true → 2 ≤ m) → ∀ {G : V → Hp → Prop}, (∀ p v q t hm w0 r' H', H' p = some (.tup [v, .ref q]) → StR H' S L r' z → FrP S L H H' → TrB K H' v t → Tl H' q w0 → Ex 9 (hm + 1) t w0 [] → m = (hm + 1) + (if bk = true then 1 else 0) → (∀ x ∈ w0, Tok x) → (wt w0 : Int) + Phi r' ≤ Phi r + (if 0 < r then -110 else 12) ∧ r + 16 ≤ r' + 16 * (wt w0 : Int) → r' ≤ r → H q = none → G (.ref p) H') → spLeaf K ([.ref S] ++ []) H5 G L2.E0 := fun bk hbk {G} k => by
            obtain ⟨hm, ehm⟩ := lf bk hbk
            exact ⟨S, L, r - 8, z, rfl, hSt4, (by have := Phi_nn r; omega), fun p v q t w0 r' H' hp hv hw e ht hc hc2 hr' nq hS' f' => k p v q t hm w0 r' H' hp hS' (f4.trans f') hv hw (e hm) ehm ht (by
              by_cases hs : 0 < r - 8
              · have e1 : Phi (r - 8) = Phi r - 320 := by unfold Phi; rw [if_pos hs, if_pos (by omega)]; omega
                rw [if_pos (by omega)]; omega
              · have e0 : Phi r' = 0 := by unfold Phi; rw [if_neg (by omega)]
                have := hc2 (by omega)
                by_cases hr0 : 0 < r
                · have e1 : 440 ≤ Phi r := by unfold Phi; rw [if_pos hr0]; omega
                  rw [if_pos hr0]; omega
                · have e1 : Phi r = 0 := by unfold Phi; rw [if_neg hr0]
                  rw [if_neg hr0]; omega) (by omega) (f4.free (hSt4.new nq) nq)⟩
          walk_at "rdy"
          refine w_if (fun hs0 => ?_) (fun hs0 => ?_)
          · walk_at "rdy"
            refine w_ifb (fun hb => ?_) (fun hb => ?_)
            · walk_at "rdy"
              refine doLeaf (decide (1 < (m : Int))) (fun h => by have := of_decide_eq_true h; omega) fun p v q t hm w0 r' H' hp hS' f' hv hw e em ht hc hr' nq => ?_
              walk_at "upy"
              exact ⟨_, v, q, t, 9, hm + 1, w0, [], r', rfl, hS', f', hv, hw, e, em, by omega, fun _ => ha9, by decide, (fun l hl => absurd hl List.not_mem_nil), ht, hc, hr', nq⟩
            · walk_at "rdy"
              refine doLeaf false (fun h => Bool.noConfusion h) fun p v q t hm w0 r' H' hp hS' f' hv hw e em ht hc hr' nq => ?_
              walk_at "upy"
              exact ⟨_, v, q, t, 9, hm + 1, w0, [], r', rfl, hS', f', hv, hw, e, em, by omega, fun _ => ha9, by decide, (fun l hl => absurd hl List.not_mem_nil), ht, hc, hr', nq⟩
          · walk_at "rdy"
            refine w_if (fun hk4 => ?_) (fun hk4 => ?_)
            · walk_at "rdy"
              refine w_ifb (fun hb => ?_) (fun hb => ?_)
              · walk_at "rdy"
                refine doLeaf (decide (1 < (m : Int))) (fun h => by have := of_decide_eq_true h; omega) fun p v q t hm w0 r' H' hp hS' f' hv hw e em ht hc hr' nq => ?_
                walk_at "upy"
                exact ⟨_, v, q, t, 9, hm + 1, w0, [], r', rfl, hS', f', hv, hw, e, em, by omega, fun _ => ha9, by decide, (fun l hl => absurd hl List.not_mem_nil), ht, hc, hr', nq⟩
              · walk_at "rdy"
                refine doLeaf false (fun h => Bool.noConfusion h) fun p v q t hm w0 r' H' hp hS' f' hv hw e em ht hc hr' nq => ?_
                walk_at "upy"
                exact ⟨_, v, q, t, 9, hm + 1, w0, [], r', rfl, hS', f', hv, hw, e, em, by omega, fun _ => ha9, by decide, (fun l hl => absurd hl List.not_mem_nil), ht, hc, hr', nq⟩
            · walk_at "rdy"
              refine w_if (fun hm2 => ?_) (fun hm2 => ?_)
              · walk_at "rdy"
                refine w_ifb (fun hb => ?_) (fun hb => ?_)
                · walk_at "rdy"
                  refine doLeaf (decide (1 < (m : Int))) (fun h => by have := of_decide_eq_true h; omega) fun p v q t hm w0 r' H' hp hS' f' hv hw e em ht hc hr' nq => ?_
                  walk_at "upy"
                  exact ⟨_, v, q, t, 9, hm + 1, w0, [], r', rfl, hS', f', hv, hw, e, em, by omega, fun _ => ha9, by decide, (fun l hl => absurd hl List.not_mem_nil), ht, hc, hr', nq⟩
                · walk_at "rdy"
                  refine doLeaf false (fun h => Bool.noConfusion h) fun p v q t hm w0 r' H' hp hS' f' hv hw e em ht hc hr' nq => ?_
                  walk_at "upy"
                  exact ⟨_, v, q, t, 9, hm + 1, w0, [], r', rfl, hS', f', hv, hw, e, em, by omega, fun _ => ha9, by decide, (fun l hl => absurd hl List.not_mem_nil), ht, hc, hr', nq⟩
              · walk_at "rdy"
                obtain ⟨m', em', em''⟩ : ∃ m' : Nat, (m : Int) - (if brk = true then 1 else 0) = ((m' + 1 : Nat) : Int) ∧ m = m' + 1 + (if brk = true then 1 else 0) := by
                  cases brk with
                  | true => exact ⟨m - 2, by rw [if_pos rfl] at hm2 ⊢; omega, by rw [if_pos rfl] at hm2 ⊢; omega⟩
                  | false => exact ⟨m - 1, by rw [if_neg Bool.false_ne_true] at hm2 ⊢; omega, by rw [if_neg Bool.false_ne_true] at hm2 ⊢; omega⟩
                rw [em'] at hm2 ⊢
                refine ⟨S, L, r - 8, z, kk, m', rfl, hSt4, (by have e1 : Phi (r - 8) = Phi r - 320 := (by unfold Phi; rw [if_pos (by omega), if_pos (by omega)]; omega); have := Phi_nn (r - 8); omega), by omega, by omega, by omega, by omega, by (cases brk with | true => rw [if_pos rfl] at em''; omega | false => rw [if_neg Bool.false_ne_true] at em''; omega), fun p v q w0 ns r' H' hp hok hw hn ht hc hr' nq hS' f' => ?_⟩
                obtain ⟨lv, t, hlv, hv, e⟩ := hok
                walk_at "upy"
                have elv : lvA kk = lv := by rw [hlv]; exact if_neg (by omega)
                refine ⟨brk, v, q, t, lv, m' + 1, w0, ns, r', rfl, hS', f4.trans f', hv, hw, e, em'', by omega, fun h => by rw [← elv]; exact hbrk h, by rw [← elv]; exact lvA_pos kk, hn, ht, ?_, by omega, f4.free (hSt4.new nq) nq⟩
                have e1 : Phi (r - 8) = Phi r - 320 := by unfold Phi; rw [if_pos (by omega), if_pos (by omega)]; omega
                rw [if_pos (by omega)]; omega
        · rintro σ' H6 ⟨bk, v, q, t, lv, hm, w0, ns, r6, rfl, hSt6, f6, hv6, hw6, e6, em6, hm6, hbk6, hlv6, hn6, ht6, hc6, hr6, nq6⟩
          have lw0 : w0.length ≤ 7200 := w_len_of hc6 hr5.1 (by split <;> decide)
          walk_at "rdy"
          refine ⟨fun σ' H' => ∃ (q' : Addr) (w1 : Ws), σ' = [some (.ref S), some (.int (m : Int)), some (.int (a : Int)), some (.int kk), some (.bl b), some (.int ((lvA kk : Nat) : Int)), some (.bl bk), some v, some (.ref q')] ∧ Same H6 H' ∧ Tl H' q' w1 ∧ H q' = none ∧ w1 = (if bk = true then cds "(" :: (w0 ++ [cds ")"]) else w0), ?_, ?_⟩
          · walk_at "rdy"
            refine w_ifb (fun hb => ?_) (fun hb => ?_)
            · walk_at "rdy"
              refine tl_new (u := [cds "("]) rfl (by show 1 ≤ 1000000; decide) fun q8 H8 hq8 s8 h8 => ?_
              walk_at "rdy"
              refine tl_cat h8 (hw6.same s8) (by show 1 + _ ≤ _; omega) fun q9 H9 hq9 s9 h9 => ?_
              walk_at "rdy"
              refine tl_new (u := [cds ")"]) rfl (by show 1 ≤ 1000000; decide) fun q10 H10 hq10 s10 h10 => ?_
              refine tl_cat (h9.same s10) h10 (by rw [List.length_append]; show 1 + _ + 1 ≤ _; omega) fun q11 H11 hq11 s11 h11 => ?_
              walk_at "rdy"
              exact ⟨q11, _, rfl, ((s8.trans s9).trans s10).trans s11, h11, (f6.to ((s8.trans s9).trans s10)).free ((hSt6.mono ((s8.trans s9).trans s10)).new hq11) hq11, by rw [if_pos hb]; rfl⟩
            · exact ⟨q, w0, rfl, fun _ _ h => h, hw6, nq6, by rw [if_neg (by rw [hb]; exact Bool.false_ne_true)]⟩
          · rintro σ' H7 ⟨q', w1, rfl, s7, hw7, nq7, ew1⟩
            walk_at "rdy"
            refine w_newT (by show 2 ≤ 1000000; decide) fun p8 H8 hp8 s8 h8 => ?_
            have s78 := s7.trans s8
            cases bk with
            | true =>
              rw [if_pos rfl] at ew1 em6
              subst ew1
              have e1 : (cds "(").length = 1 := by decide +kernel
              have ec : wt [cds ")"] = 4 := by decide +kernel
              subst em6
              refine kQ p8 v q' _ ns r6 H8 h8 ⟨9, t, ⟨ha9, by decide⟩, hv6.same s78, .par hlv6 e6⟩ (hw7.same s8) hn6 (fun x hx => ?_) ?_ hr6 nq7 (hSt6.mono s78) (f6.to s78)
              · rcases List.mem_cons.mp hx with rfl | hx
                · exact wm_tok _ (by decide +kernel)
                · rcases List.mem_append.mp hx with hx | hx
                  · exact ht6 x hx
                  · rw [List.mem_singleton.mp hx]; exact wm_tok _ (by decide +kernel)
              · rw [wt_cons, wt_append, ec, e1]
                split at hc6 <;> split <;> omega
            | false =>
              rw [if_neg Bool.false_ne_true] at ew1 em6
              subst ew1
              have em : m = hm := em6
              subst em
              refine kQ p8 v q' _ ns r6 H8 h8 ⟨lv, t, ⟨hbk6 rfl, hlv6⟩, hv6.same s78, e6⟩ (hw7.same s8) hn6 ht6 ?_ hr6 nq7 (hSt6.mono s78) (f6.to s78)
              split at hc6 <;> split <;> omega
abbrev s_law_choice : Stmt := topS 23
abbrev N_law_choice : List Str := ["state", "room", "test", "tokens", "body", "more", "other", "last"]
theorem sc_law_choice : FnScope N_law_choice ["state", "room"] (defScope s_law_choice) := ⟨rfl, rfl, rfl, by decide +kernel, rfl, by decide +kernel, by decide +kernel⟩
theorem ok_law_choice {f : Addr} {fd : FuncData} (F : Fun K "_law_choice" "_law_choice" s_law_choice f fd) (Y : Bn mg) (hk : 1 ≤ k) (c_law_draw : Cal P w K mg base 1 "_law_draw" spDraw []) (c_law_expression : Cal P w K mg base k "_law_expression" (spExpr K n) []) (c_law_body : Cal P w K mg base k "_law_body" (spBody K n) []) :
    FnOk P w K mg base CX0 (k + 1) f fd ["state", "room"] (spChc K n) := by
  refine F.ok sc_law_choice (fun vs H Q E h => ?_) (fun cdv A outer s H vs Q E hr h => ?_)
  · obtain ⟨S, L, r, z, m, rfl, _⟩ := h
    rfl
  · obtain ⟨S, L, r, z, m, rfl, hSt, hr5, hm1, hmn, kQ⟩ := h
    have nd := sc_law_choice.nd
    refine ⟨_, (pss_cons (ps_asg (pe_c c_law_expression hr (by omega) rfl (pa_cons (pv 0) (pa_cons (pe_op op_sub (pv 1) pe_int) (pa_cons pe_int pa_nil)))) (pg_tup (by rfl) (pgs_cons (pg_name (i := 2) nd rfl (Or.inl rfl)) (pgs_cons (pg_name (i := 3) nd rfl (Or.inl rfl)) pgs_nil))))
      (pss_cons (ps_asg (pe_c c_law_body hr (by omega) rfl (pa_cons (pv 0) (pa_cons (pe_op op_sub (pv 1) pe_int) (pa_cons pe_int pa_nil)))) (pg_tup (by rfl) (pgs_cons (pg_name (i := 4) nd rfl (Or.inl rfl)) (pgs_cons (pg_name (i := 5) nd rfl (Or.inl rfl)) pgs_nil))))
      (pss_cons (ps_asg (pe_c c_law_body hr (by omega) rfl (pa_cons (pv 0) (pa_cons (pe_op op_sub (pv 1) pe_int) (pa_cons pe_int pa_nil)))) (pg_tup (by rfl) (pgs_cons (pg_name (i := 6) nd rfl (Or.inl rfl)) (pgs_cons (pg_name (i := 7) nd rfl (Or.inl rfl)) pgs_nil))))
      (pss_cons (ps_set (i := 3) nd rfl (Or.inl rfl) (pe_op op_cat (pe_op op_cat (pe_op op_cat (pe_lst (pa_cons pe_str pa_nil)) (pv 3)) (pe_lst (pa_cons pe_str pa_nil))) (pv 5)))
      (pss_cut (ps_if (PW.pt (pw_or (pt_tru (pv 6)) (pw_or1 (PW.pt (pw_and (pt_cmpR op_gt (pe_ix ix_list (pv 0) pe_int (fun _ _ => rfl)) pe_int (nomark _)) (pw_and1 (pt_cmpR op_eq (pe_c c_law_draw hr (by omega) rfl (pa_cons (pv 0) (pa_cons pe_int pa_nil))) pe_int (nomark _)))))))) (pss_one (ps_set (i := 3) nd rfl (Or.inl rfl) (pe_op op_cat (pe_op op_cat (pv 3) (pe_lst (pa_cons pe_str pa_nil))) (pv 7)))) pss_nil)
      (pss_one (ps_ret (pe_tup (pa_cons (pe_tup (pa_cons pe_str (pa_cons (pv 2) (pa_cons (pv 4) (pa_cons (pv 6) pa_nil))))) (pa_cons (pe_op op_cat (pv 3) (pe_lst (pa_cons pe_str pa_nil))) pa_nil)))))))))), ?_⟩
    rw [show L2.start N_law_choice [.ref S, .int ((m + 1 : Nat) : Int)] = [some (.ref S), some (.int ((m + 1 : Nat) : Int)), none, none, none, none, none, none] from rfl]
    have em : ((m + 1 : Nat) : Int) - 1 = (m : Int) := by omega
    walk_at "rdy"
    rw [em]
    refine ⟨S, L, r, z, m, 1, rfl, hSt, (by omega), hm1, hmn, by decide, fun pa va qa wa na ra Ha hpa oka hwa hna hta hca hra nqa hSta fa => ?_⟩
    obtain ⟨lva, ta, hlva, hva, ea⟩ := oka
    have hca2 : (wt wa : Int) + Phi ra ≤ Phi r + 20 ∧ r ≤ ra + 16 * (wt wa : Int) := by split at hca <;> omega
    walk_at "upy"
    rw [em]
    refine ⟨S, L, ra, z, m, 4, rfl, hSta, (by have := Phi_nn ra; omega), hmn, by decide, by decide, fun pb vb qb wb nb rb Hb hpb okb hwb hnb htb hcb hrb nqb hStb fb => ?_⟩
    obtain ⟨lb, hvb, eb⟩ := okb
    walk_at "upy"
    rw [em]
    refine ⟨S, L, rb, z, m, 3, rfl, hStb, (by have := Phi_nn rb; omega), hmn, by decide, by decide, fun pc vc qc wc nc rc Hc hpc okc hwc hnc htc hcc hrc nqc hStc fc => ?_⟩
    obtain ⟨lc, hvc, ec⟩ := okc
    walk_at "upy"
    have nqaS := (hSt.new nqa)
    have nqbS := (hSta.new nqb)
    have lwa : wa.length ≤ 7200 := w_len_of hca2 hr5.1 (by decide)
    have lwb : wb.length ≤ 7200 := w_len_of hcb (by omega) (by decide)
    have lwc : wc.length ≤ 7200 := w_len_of hcc (by omega) (by decide)
    have hvac := hStb.tr fc (hSta.tr fb hva)
    have hvbc := hStb.tr fc hvb
    have hwac := Tl.fr fc nqaS (Tl.fr fb nqaS hwa)
    have hwbc := Tl.fr fc nqbS hwb
    have f3 := (fa.trans fb).trans fc
    refine tl_new (u := [cds "if"]) rfl (by show 1 ≤ 1000000; decide) fun q4 Hd hq4 sd hd => ?_
    walk_at "rdy"
    refine tl_cat hd (hwac.same sd) (by show 1 + _ ≤ _; omega) fun q5 He hq5 se he => ?_
    walk_at "rdy"
    refine tl_new (u := [cds "then"]) rfl (by show 1 ≤ 1000000; decide) fun q6 Hf hq6 sf hf => ?_
    refine tl_cat (he.same sf) hf (by rw [List.length_append]; show 1 + _ + 1 ≤ _; omega) fun q7 Hg hq7 sg hg => ?_
    walk_at "rdy"
    refine tl_cat hg ((((hwbc.same sd).same se).same sf).same sg) (by rw [List.length_append, List.length_append]; show 1 + _ + 1 + _ ≤ _; omega) fun q8 Hh hq8 sh hh => ?_
    walk_at "rdy"
    have sch := (((sd.trans se).trans sf).trans sg).trans sh
    obtain ⟨pco, vco, hpco, hvco⟩ : ∃ (pc' : Addr) (vs : List V), vc = .ref pc' ∧ (SqT K Hh pc' vs ∧ TrsB K Hh vs lc) := by
      cases hvc.same sch with
      | mk a b _ => exact ⟨_, _, rfl, a, b⟩
    have hSth := hStc.mono sch
    have nq8 := (hStc.mono (((sd.trans se).trans sf).trans sg)).new hq8
    obtain ⟨A0, i8, c8, x8, b8, hS8⟩ := hSth.obj
    refine ⟨fun σ' H' => ∃ (q9 : Addr) (w9 : Ws), σ' = [some (.ref S), some (.int ((m + 1 : Nat) : Int)), some va, some (.ref q9), some vb, some (.ref qb), some vc, some (.ref qc)] ∧ StR H' S L rc z ∧ FrP S L Hh H' ∧ Tl H' q9 w9 ∧ ((w9 = [cds "if"] ++ wa ++ [cds "then"] ++ wb ∧ lc = []) ∨ w9 = [cds "if"] ++ wa ++ [cds "then"] ++ wb ++ [cds "else"] ++ wc), ?_, ?_⟩
    · have tails : ∀ H2, StR H2 S L rc z → FrP S L Hh H2 → rCat (.ref q8) (.ref q8) H2 (fun _ _ => True) → True := fun _ _ _ _ => True.intro
      subst hpco
      walk_at "rdy"
      refine w_truT hvco.1 (fun hne => ?_) (fun hem => ?_)
      · walk_at "rdy"
        refine tl_new (u := [cds "else"]) rfl (by show 1 ≤ 1000000; decide) fun q9 Hi hq9 si hi => ?_
        refine tl_cat (hh.same si) hi (by rw [List.length_append, List.length_append, List.length_append]; show 1 + _ + 1 + _ + 1 ≤ _; omega) fun q10 Hj hq10 sj hj => ?_
        walk_at "rdy"
        refine tl_cat hj (((hwc.same sch).same si).same sj) (by rw [List.length_append, List.length_append, List.length_append, List.length_append]; show 1 + _ + 1 + _ + 1 + _ ≤ _; omega) fun q11 Hk hq11 sk hk' => ?_
        walk_at "rdy"
        exact ⟨q11, _, rfl, ((hSth.mono si).mono sj).mono sk, (((FrP.refl S L Hh).to si).to sj).to sk, hk', .inr rfl⟩
      · have hlc : lc = [] := List.length_eq_zero_iff.mp (by rw [← hvco.2.length, hem]; rfl)
        walk_at "rdy"
        refine w_if (fun hz => ?_) (fun hz => ?_)
        · walk_at "rdy"
          refine use_draw hSth (by decide) (by decide) fun y Hi y0 y1 hSti fi => ?_
          walk_at "rdy"
          refine w_ifI (fun _ => ?_) (fun _ => ?_)
          · walk_at "rdy"
            refine tl_new (u := [cds "else"]) rfl (by show 1 ≤ 1000000; decide) fun q9 Hj hq9 sj hj => ?_
            have hhj := (Tl.fr fi nq8 hh).same sj
            refine tl_cat hhj hj (by rw [List.length_append, List.length_append, List.length_append]; show 1 + _ + 1 + _ + 1 ≤ _; omega) fun q10 Hk hq10 sk hk' => ?_
            walk_at "rdy"
            have hwck := ((Tl.fr fi (hStb.new nqc) (hwc.same sch)).same sj).same sk
            refine tl_cat hk' hwck (by rw [List.length_append, List.length_append, List.length_append, List.length_append]; show 1 + _ + 1 + _ + 1 + _ ≤ _; omega) fun q11 Hl hq11 sl hl' => ?_
            walk_at "rdy"
            exact ⟨q11, _, rfl, ((hSti.mono sj).mono sk).mono sl, ((fi.to sj).to sk).to sl, hl', .inr rfl⟩
          · exact ⟨q8, _, rfl, hSti, fi, Tl.fr fi nq8 hh, .inl ⟨rfl, hlc⟩⟩
        · exact ⟨q8, _, rfl, hSth, FrP.refl S L Hh, hh, .inl ⟨rfl, hlc⟩⟩
    · rintro σ' Hi ⟨q9, w9, rfl, hSti, fi, hw9, ew9⟩
      have lw9 : w9.length ≤ 22000 := by
        rcases ew9 with ⟨e, _⟩ | e
        · rw [e]; simp only [List.length_append, List.length_cons, List.length_nil]; omega
        · rw [e]; simp only [List.length_append, List.length_cons, List.length_nil]; omega
      walk_at "rdy"
      refine w_newT (by show 4 ≤ 1000000; decide) fun pt Hj hpt sj hj => ?_
      walk_at "rdy"
      refine tl_new (u := [cds "end"]) rfl (by show 1 ≤ 1000000; decide) fun q10 Hk hq10 sk hk' => ?_
      refine tl_cat ((hw9.same sj).same sk) hk' (by show _ + 1 ≤ _; omega) fun q11 Hl hq11 sl hl' => ?_
      walk_at "rdy"
      refine w_newT (by show 2 ≤ 1000000; decide) fun p6 Hm hp6 sm hm' => ?_
      have sjm := ((sj.trans sk).trans sl).trans sm
      have hva2 := (hSth.tr fi (hvac.same sch)).same sjm
      have hvb2 := (hSth.tr fi (hvbc.same sch)).same sjm
      have hvc2 := (hSth.tr fi (hvc.same sch)).same sjm
      have e1 : wt [cds "if"] = 5 := by decide +kernel
      have e2 : wt [cds "then"] = 7 := by decide +kernel
      have e3 : wt [cds "else"] = 7 := by decide +kernel
      have e4 : wt [cds "end"] = 6 := by decide +kernel
      have ff := (f3.to sch).trans fi
      have htr : TrB K Hm (.ref pt) (.t [str "if", ta, .t lb, .t lc]) := .t (.inl (.inl (sm _ _ (sl _ _ (sk _ _ hj))))) (.cons .s (.cons hva2 (.cons hvb2 (.cons hvc2 .nil))))
      have t1 : ∀ x ∈ [cds "if"] ++ wa ++ [cds "then"] ++ wb, Tok x := tok_app (tok_app (tok_app (wm1 (by decide +kernel)) hta) (wm1 (by decide +kernel))) htb
      rcases ew9 with ⟨e, hlc⟩ | e
      · subst e hlc
        have hex : St (m + 1) (.t [str "if", ta, .t lb, .t []]) ([cds "if"] ++ wa ++ [cds "then"] ++ wb ++ [cds "end"]) (na ++ nb) := by
          have := St.if0 hlva.2 ea eb
          simpa using this
        have wc0 : wt wc = 0 := by
          have : wc = [] := by cases ec; rfl
          rw [this]; rfl
        refine kQ p6 (.ref pt) q11 _ (na ++ nb) rc Hm hm' ⟨_, htr, hex⟩ (hl'.same sm) (nod_app hna hnb) (tok_app t1 (wm1 (by decide +kernel))) ?_ (by omega) ((ff.to (sj.trans sk)).free ((hSti.mono (sj.trans sk)).new hq11) hq11) (hSti.mono sjm) (ff.to sjm)
        rw [wt_append, wt_append, wt_append, wt_append, e1, e2, e4]; omega
      · subst e
        have hex : St (m + 1) (.t [str "if", ta, .t lb, .t lc]) ([cds "if"] ++ wa ++ [cds "then"] ++ wb ++ [cds "else"] ++ wc ++ [cds "end"]) (na ++ (nb ++ nc)) := by
          have := St.if1 hlva.2 ea eb ec
          simpa using this
        refine kQ p6 (.ref pt) q11 _ (na ++ (nb ++ nc)) rc Hm hm' ⟨_, htr, hex⟩ (hl'.same sm) (nod_app hna (nod_app hnb hnc)) (tok_app (tok_app (tok_app t1 (wm1 (by decide +kernel))) htc) (wm1 (by decide +kernel))) ?_ (by omega) ((ff.to (sj.trans sk)).free ((hSti.mono (sj.trans sk)).new hq11) hq11) (hSti.mono sjm) (ff.to sjm)
        rw [wt_append, wt_append, wt_append, wt_append, wt_append, wt_append, e1, e2, e3, e4]; omega
end
end
section
open PySem PySem.Spec PyProof.Rows L2
open C8 (Cal cal0 pe_c pe_gc pss_cut tCut)

section
variable {P : Program} {w : World} {K : PySem.W.Frag} {mg : Str → Option Value} {base : Heap} {k n : Nat}
abbrev s_law_statement : Stmt := topS 24
abbrev N_law_statement : List Str := ["state", "room", "kind", "test", "tokens", "body", "more", "name", "other", "tree", "word"]
theorem sc_law_statement : FnScope N_law_statement ["state", "room"] (defScope s_law_statement) := ⟨rfl, rfl, rfl, by decide +kernel, rfl, by decide +kernel, by decide +kernel⟩
theorem ok_law_statement {f : Addr} {fd : FuncData} (F : Fun K "_law_statement" "_law_statement" s_law_statement f fd) (Y : Bn mg) (hk : 3 ≤ k) (c_law_draw : Cal P w K mg base 1 "_law_draw" spDraw []) (c_law_choice : Cal P w K mg base k "_law_choice" (spChc K n) []) (c_law_expression : Cal P w K mg base k "_law_expression" (spExpr K n) []) (c_law_body : Cal P w K mg base k "_law_body" (spBody K n) [])
    (c_law_name : Cal P w K mg base 3 "_law_name" (spTx IsName 21) []) : FnOk P w K mg base CX0 (k + 1) f fd ["state", "room"] (spStmt K (n + 1)) := by
  refine F.ok sc_law_statement (fun vs H Q E h => ?_) (fun cdv A outer s H vs Q E hr h => ?_)
  · obtain ⟨S, L, r, z, m, rfl, _⟩ := h
    rfl
  · obtain ⟨S, L, r0, z, m0, rfl, hSt0, hr5, hr0, hm2, hmn, kQ⟩ := h
    obtain ⟨m, rfl⟩ : ∃ m, m0 = m + 1 := ⟨m0 - 1, by omega⟩
    have nd := sc_law_statement.nd
    refine ⟨_, (pss_cons (ps_set (i := 2) nd rfl (Or.inl rfl) (pe_c c_law_draw hr (by omega) rfl (pa_cons (pv 0) (pa_cons pe_int pa_nil))))
      (pss_cons (ps_asg (pe_op op_sub (pe_ix ix_list (pv 0) pe_int (fun _ _ => rfl)) pe_int) (pg_sub (pv 0) pe_int set_list))
      (pss_cons (ps_if (PW.pt (pw_or (pt_cmpR op_eq (pv 2) pe_int (nomark _)) (pw_or1 (pt_cmpR op_eq (pv 2) pe_int (nomark _))))) (pss_one (ps_ret (pe_c c_law_choice hr (by omega) rfl (pa_cons (pv 0) (pa_cons (pv 1) pa_nil))))) pss_nil)
      (pss_cons (ps_if (pt_cmpR op_eq (pv 2) pe_int (nomark _)) (pss_cons (ps_asg (pe_c c_law_expression hr (by omega) rfl (pa_cons (pv 0) (pa_cons (pe_op op_sub (pv 1) pe_int) (pa_cons pe_int pa_nil)))) (pg_tup (by rfl) (pgs_cons (pg_name (i := 3) nd rfl (Or.inl rfl)) (pgs_cons (pg_name (i := 4) nd rfl (Or.inl rfl)) pgs_nil))))
      (pss_cons (ps_asg (pe_c c_law_body hr (by omega) rfl (pa_cons (pv 0) (pa_cons (pe_op op_sub (pv 1) pe_int) (pa_cons pe_int pa_nil)))) (pg_tup (by rfl) (pgs_cons (pg_name (i := 5) nd rfl (Or.inl rfl)) (pgs_cons (pg_name (i := 6) nd rfl (Or.inl rfl)) pgs_nil))))
      (pss_one (ps_ret (pe_tup (pa_cons (pe_tup (pa_cons pe_str (pa_cons (pv 3) (pa_cons (pv 5) pa_nil)))) (pa_cons (pe_op op_cat (pe_op op_cat (pe_op op_cat (pe_op op_cat (pe_lst (pa_cons pe_str pa_nil)) (pv 4)) (pe_lst (pa_cons pe_str pa_nil))) (pv 6)) (pe_lst (pa_cons pe_str pa_nil))) pa_nil))))))) pss_nil)
      (pss_cons (ps_if (pt_cmpR op_eq (pv 2) pe_int (nomark _)) (pss_cons (ps_set (i := 7) nd rfl (Or.inl rfl) (pe_c c_law_name hr (by omega) rfl (pa_cons (pv 0) pa_nil)))
      (pss_cons (ps_asg (pe_c c_law_body hr (by omega) rfl (pa_cons (pv 0) (pa_cons (pe_op op_sub (pv 1) pe_int) (pa_cons pe_int pa_nil)))) (pg_tup (by rfl) (pgs_cons (pg_name (i := 5) nd rfl (Or.inl rfl)) (pgs_cons (pg_name (i := 4) nd rfl (Or.inl rfl)) pgs_nil))))
      (pss_cons (ps_asg (pe_c c_law_body hr (by omega) rfl (pa_cons (pv 0) (pa_cons (pe_op op_sub (pv 1) pe_int) (pa_cons pe_int pa_nil)))) (pg_tup (by rfl) (pgs_cons (pg_name (i := 8) nd rfl (Or.inl rfl)) (pgs_cons (pg_name (i := 6) nd rfl (Or.inl rfl)) pgs_nil))))
      (pss_one (ps_ret (pe_tup (pa_cons (pe_tup (pa_cons pe_str (pa_cons (pv 5) (pa_cons (pv 7) (pa_cons (pv 8) pa_nil))))) (pa_cons (pe_op op_cat (pe_op op_cat (pe_op op_cat (pe_op op_cat (pe_lst (pa_cons pe_str pa_nil)) (pv 4)) (pe_lst (pa_cons pe_str (pa_cons (pv 7) (pa_cons pe_str pa_nil))))) (pv 6)) (pe_lst (pa_cons pe_str pa_nil))) pa_nil)))))))) pss_nil)
      (pss_cons (ps_if (pt_cmpR op_eq (pv 2) pe_int (nomark _)) (pss_cons (ps_asg (pe_c c_law_body hr (by omega) rfl (pa_cons (pv 0) (pa_cons (pe_op op_sub (pv 1) pe_int) (pa_cons pe_int pa_nil)))) (pg_tup (by rfl) (pgs_cons (pg_name (i := 5) nd rfl (Or.inl rfl)) (pgs_cons (pg_name (i := 4) nd rfl (Or.inl rfl)) pgs_nil))))
      (pss_cons (ps_asg (pe_c c_law_body hr (by omega) rfl (pa_cons (pv 0) (pa_cons (pe_op op_sub (pv 1) pe_int) (pa_cons pe_int pa_nil)))) (pg_tup (by rfl) (pgs_cons (pg_name (i := 8) nd rfl (Or.inl rfl)) (pgs_cons (pg_name (i := 6) nd rfl (Or.inl rfl)) pgs_nil))))
      (pss_one (ps_ret (pe_tup (pa_cons (pe_tup (pa_cons pe_str (pa_cons (pv 5) (pa_cons (pv 8) pa_nil)))) (pa_cons (pe_op op_cat (pe_op op_cat (pe_op op_cat (pe_op op_cat (pe_lst (pa_cons pe_str pa_nil)) (pv 4)) (pe_lst (pa_cons pe_str pa_nil))) (pv 6)) (pe_lst (pa_cons pe_str pa_nil))) pa_nil))))))) pss_nil)
      (pss_cons (ps_asg (pe_c c_law_expression hr (by omega) rfl (pa_cons (pv 0) (pa_cons (pe_op op_sub (pv 1) pe_int) (pa_cons pe_int pa_nil)))) (pg_tup (by rfl) (pgs_cons (pg_name (i := 9) nd rfl (Or.inl rfl)) (pgs_cons (pg_name (i := 4) nd rfl (Or.inl rfl)) pgs_nil))))
      (pss_cons (ps_if (pt_cmpR op_eq (pv 2) pe_int (nomark _)) (pss_cons (ps_set (i := 7) nd rfl (Or.inl rfl) (pe_c c_law_name hr (by omega) rfl (pa_cons (pv 0) pa_nil)))
      (pss_one (ps_ret (pe_tup (pa_cons (pe_tup (pa_cons pe_str (pa_cons (pv 7) (pa_cons (pv 9) pa_nil)))) (pa_cons (pe_op op_cat (pe_lst (pa_cons (pv 7) (pa_cons pe_str pa_nil))) (pv 4)) pa_nil)))))) pss_nil)
      (pss_cons (ps_if (pt_cmpR op_eq (pv 2) pe_int (nomark _)) (pss_cons (ps_set (i := 10) nd rfl (Or.inl rfl) (pe_ix ix_list (pe_lst (pa_cons pe_str (pa_cons pe_str pa_nil))) (pe_c c_law_draw hr (by omega) rfl (pa_cons (pv 0) (pa_cons pe_int pa_nil))) (fun _ _ => rfl)))
      (pss_one (ps_ret (pe_tup (pa_cons (pe_tup (pa_cons (pv 10) (pa_cons (pv 9) pa_nil))) (pa_cons (pe_op op_cat (pe_lst (pa_cons (pv 10) pa_nil)) (pv 4)) pa_nil)))))) pss_nil)
      (pss_one (ps_ret (pe_tup (pa_cons (pe_tup (pa_cons pe_str (pa_cons (pv 9) pa_nil))) (pa_cons (pv 4) pa_nil)))))))))))))), ?_⟩
    rw [show L2.start N_law_statement [.ref S, .int ((m + 1 : Nat) : Int)] = [some (.ref S), some (.int ((m + 1 : Nat) : Int)), none, none, none, none, none, none, none, none, none] from rfl]
    have em : ((m + 1 : Nat) : Int) - 1 = (m : Int) := by omega
    walk_at "rdy"
    refine use_draw hSt0 (by decide) (by decide) fun kk H1 k0 k9 hSt1 f1 => ?_
    obtain ⟨A0, i1, c1, x1, b1, hS1⟩ := hSt1.obj
    walk_at "rdy"
    refine w_stset hS1 rfl fun H2 hS2 f2 => ?_
    have hSt := hSt1.put5 hS1 hS2 f2 (by omega)
    have f0 := f1.trans (Fr.p f2)
    generalize hr : r0 - 16 = r at hSt
    have hc0 : Phi r ≤ Phi r0 - 440 := by
      unfold Phi
      rw [if_pos hr0]
      split <;> omega
    have kQ' : GiveD 16 S L r z H2 Q (okS K (m + 1)) 60 := fun p v q w ns r' H' hp ok hw hn ht hc hr' nq hS' f' => kQ p v q w ns r' H' hp ok hw hn ht (by omega) (by omega) (f0.free (hSt.new nq) nq) hS' (f0.trans f')
    have hr5' : r ≤ 500 ∧ -797000 ≤ r - 16 * Phi r ∧ 0 ≤ Phi r := by have := Phi_nn r; omega
    have hm1 : 1 ≤ m := by omega
    have hmn' : m ≤ n := by omega
    clear kQ
    have e1 : (cds "end").length = 3 := by decide +kernel
    walk_at "rdy"
    refine w_ifI (fun _ => ?_) (fun k3 => ?_)
    · walk_at "rdy"
      exact ⟨S, L, r, z, m, rfl, hSt, hr5', hm1, hmn', kQ'⟩
    walk_at "rdy"
    refine w_ifI (fun _ => ?_) (fun k4 => ?_)
    · walk_at "rdy"
      exact ⟨S, L, r, z, m, rfl, hSt, hr5', hm1, hmn', kQ'⟩
    walk_at "rdy"
    refine w_ifI (fun _ => ?_) (fun k5 => ?_)
    · walk_at "rdy"
      rw [em]
      refine ⟨S, L, r, z, m, 1, rfl, hSt, (by omega), hm1, hmn', by decide, fun pa va qa wa na ra Ha hpa oka hwa hna hta hca hra nqa hSta fa => ?_⟩
      obtain ⟨lva, ta, hlva, hva, ea⟩ := oka
      have hca2 : (wt wa : Int) + Phi ra ≤ Phi r + 20 ∧ r ≤ ra + 16 * (wt wa : Int) := by split at hca <;> omega
      walk_at "upy"
      rw [em]
      refine ⟨S, L, ra, z, m, 4, rfl, hSta, (by have := Phi_nn ra; omega), hmn', by decide, by decide, fun pb vb qb wb nb rb Hb hpb okb hwb hnb htb hcb hrb nqb hStb fb => ?_⟩
      obtain ⟨lb, hvb, eb⟩ := okb
      walk_at "upy"
      have nqaS := (hSt.new nqa)
      have lwa : wa.length ≤ 7200 := w_len_of hca2 hr5'.1 (by decide)
      have lwb : wb.length ≤ 7200 := w_len_of hcb (by omega) (by decide)
      have hva2 := hSta.tr fb hva
      have hwa2 := Tl.fr fb nqaS hwa
      refine w_newT (by show 3 ≤ 1000000; decide) fun pt Hc hpt sc hc => ?_
      walk_at "rdy"
      refine tl_new (u := [cds "while"]) rfl (by show 1 ≤ 1000000; decide) fun q4 Hd hq4 sd hd => ?_
      walk_at "rdy"
      refine tl_cat hd ((hwa2.same sc).same sd) (by show 1 + _ ≤ _; omega) fun q5 He hq5 se he => ?_
      walk_at "rdy"
      refine tl_new (u := [cds "do"]) rfl (by show 1 ≤ 1000000; decide) fun q6 Hf hq6 sf hf => ?_
      refine tl_cat (he.same sf) hf (by rw [List.length_append]; show 1 + _ + 1 ≤ _; omega) fun q7 Hg hq7 sg hg => ?_
      walk_at "rdy"
      refine tl_cat hg (((((hwb.same sc).same sd).same se).same sf).same sg) (by rw [List.length_append, List.length_append]; show 1 + _ + 1 + _ ≤ _; omega) fun q8 Hh hq8 sh hh => ?_
      walk_at "rdy"
      refine tl_new (u := [cds "end"]) rfl (by show 1 ≤ 1000000; decide) fun q9 Hi hq9 si hi => ?_
      refine tl_cat (hh.same si) hi (by rw [List.length_append, List.length_append, List.length_append]; show 1 + _ + 1 + _ + 1 ≤ _; omega) fun q10 Hj hq10 sj hj => ?_
      walk_at "rdy"
      refine w_newT (by show 2 ≤ 1000000; decide) fun p6 Hk hp6 sk hk' => ?_
      have sdk := ((((((sd.trans se).trans sf).trans sg).trans sh).trans si).trans sj).trans sk
      have sci := (((((sc.trans sd).trans se).trans sf).trans sg).trans sh).trans si
      have sck := (sci.trans sj).trans sk
      have w1 : wt [cds "while"] = 8 := by decide +kernel
      have w2 : wt [cds "do"] = 5 := by decide +kernel
      have w3 : wt [cds "end"] = 6 := by decide +kernel
      have ff := fa.trans fb
      have hex : St (m + 1) (.t [str "while", ta, .t lb]) ([cds "while"] ++ wa ++ [cds "do"] ++ wb ++ [cds "end"]) (na ++ nb) := by
        have := St.whl hlva.2 ea eb
        simpa using this
      refine kQ' p6 (.ref pt) q10 _ (na ++ nb) rb Hk hk' ⟨_, .t (.inl (.inl (sdk _ _ hc))) (.cons .s (.cons (hva2.same sck) (.cons (hvb.same sck) .nil))), hex⟩ (hj.same sk) (nod_app hna hnb) (tok_app (tok_app (tok_app (tok_app (wm1 (by decide +kernel)) hta) (wm1 (by decide +kernel))) htb) (wm1 (by decide +kernel))) ?_ (by omega) ((ff.to sci).free ((hStb.mono sci).new hq10) hq10) (hStb.mono sck) (ff.to sck)
      rw [wt_append, wt_append, wt_append, wt_append, w1, w2, w3]; omega
    walk_at "rdy"
    refine w_ifI (fun _ => ?_) (fun k6 => ?_)
    · walk_at "rdy"
      refine use_tx hSt (by have := Phi_nn r; omega) fun x rx Hx hx hxr hxr2 hStx fx => ?_
      have xl := RunOf.len hx.1
      have pm := Phi_mono hxr2
      walk_at "rdy"
      rw [em]
      refine ⟨S, L, rx, z, m, 4, rfl, hStx, (by have := Phi_nn rx; have := Phi_mono hxr2; have := RunOf.len hx.1; omega), hmn', by decide, by decide, fun pa va qa wa na ra Ha hpa oka hwa hna hta hca hra nqa hSta fa => ?_⟩
      obtain ⟨la, hva, ea⟩ := oka
      walk_at "upy"
      rw [em]
      refine ⟨S, L, ra, z, m, 3, rfl, hSta, (by have := Phi_nn ra; omega), hmn', by decide, by decide, fun pb vb qb wb nb rb Hb hpb okb hwb hnb htb hcb hrb nqb hStb fb => ?_⟩
      obtain ⟨lb, hvb, eb⟩ := okb
      walk_at "upy"
      have nqaS := (hStx.new nqa)
      have lwa : wa.length ≤ 7200 := w_len_of hca (by omega) (by decide)
      have lwb : wb.length ≤ 7200 := w_len_of hcb (by omega) (by decide)
      have hva2 := hSta.tr fb hva
      have hwa2 := Tl.fr fb nqaS hwa
      refine w_newT (by show 4 ≤ 1000000; decide) fun pt Hc hpt sc hc => ?_
      walk_at "rdy"
      refine tl_new (u := [cds "try"]) rfl (by show 1 ≤ 1000000; decide) fun q4 Hd hq4 sd hd => ?_
      walk_at "rdy"
      refine tl_cat hd ((hwa2.same sc).same sd) (by show 1 + _ ≤ _; omega) fun q5 He hq5 se he => ?_
      walk_at "rdy"
      refine tl_new (u := [cds "catch", x, cds "then"]) rfl (by show 3 ≤ 1000000; decide) fun q6 Hf hq6 sf hf => ?_
      refine tl_cat (he.same sf) hf (by rw [List.length_append]; show 1 + _ + 3 ≤ _; omega) fun q7 Hg hq7 sg hg => ?_
      walk_at "rdy"
      refine tl_cat hg (((((hwb.same sc).same sd).same se).same sf).same sg) (by rw [List.length_append, List.length_append]; show 1 + _ + 3 + _ ≤ _; omega) fun q8 Hh hq8 sh hh => ?_
      walk_at "rdy"
      refine tl_new (u := [cds "end"]) rfl (by show 1 ≤ 1000000; decide) fun q9 Hi hq9 si hi => ?_
      refine tl_cat (hh.same si) hi (by rw [List.length_append, List.length_append, List.length_append]; show 1 + _ + 3 + _ + 1 ≤ _; omega) fun q10 Hj hq10 sj hj => ?_
      walk_at "rdy"
      refine w_newT (by show 2 ≤ 1000000; decide) fun p6 Hk hp6 sk hk' => ?_
      have sdk := ((((((sd.trans se).trans sf).trans sg).trans sh).trans si).trans sj).trans sk
      have sci := (((((sc.trans sd).trans se).trans sf).trans sg).trans sh).trans si
      have sck := (sci.trans sj).trans sk
      have w1 : wt [cds "try"] = 6 := by decide +kernel
      have l1 : (cds "catch").length = 5 := by decide +kernel
      have l2 : (cds "then").length = 4 := by decide +kernel
      have w2 : wt [cds "catch", x, cds "then"] = 8 + (x.length + 3 + 7) := by rw [wt_cons, wt_cons, wt1 l2, l1]
      have w3 : wt [cds "end"] = 6 := by decide +kernel
      have ff := (fx.trans fa).trans fb
      have hex : St (m + 1) (.t [str "try", .t la, .s x, .t lb]) ([cds "try"] ++ wa ++ [cds "catch", x, cds "then"] ++ wb ++ [cds "end"]) (na ++ nb) := by
        have := St.try_ ea (name_nm hx) eb
        simpa using this
      refine kQ' p6 (.ref pt) q10 _ (na ++ nb) rb Hk hk' ⟨_, .t (.inl (.inl (sdk _ _ hc))) (.cons .s (.cons (hva2.same sck) (.cons .s (.cons (hvb.same sck) .nil)))), hex⟩ (hj.same sk) (nod_app hna hnb) (tok_app (tok_app (tok_app (tok_app (wm1 (by decide +kernel)) hta) (fun y hy => ?_)) htb) (wm1 (by decide +kernel))) ?_ (by omega) ((ff.to sci).free ((hStb.mono sci).new hq10) hq10) (hStb.mono sck) (ff.to sck)
      · rcases List.mem_cons.mp hy with rfl | hy
        · exact wm_tok _ (by decide +kernel)
        · rcases List.mem_cons.mp hy with rfl | hy
          · exact name_tok hx
          · rw [List.mem_singleton.mp hy]; exact wm_tok _ (by decide +kernel)
      · rw [wt_append, wt_append, wt_append, wt_append, w1, w2, w3]; omega
    walk_at "rdy"
    refine w_ifI (fun _ => ?_) (fun k7 => ?_)
    · walk_at "rdy"
      rw [em]
      refine ⟨S, L, r, z, m, 4, rfl, hSt, (by have := Phi_nn r; omega), hmn', by decide, by decide, fun pa va qa wa na ra Ha hpa oka hwa hna hta hca hra nqa hSta fa => ?_⟩
      obtain ⟨la, hva, ea⟩ := oka
      walk_at "upy"
      rw [em]
      refine ⟨S, L, ra, z, m, 3, rfl, hSta, (by have := Phi_nn ra; omega), hmn', by decide, by decide, fun pb vb qb wb nb rb Hb hpb okb hwb hnb htb hcb hrb nqb hStb fb => ?_⟩
      obtain ⟨lb, hvb, eb⟩ := okb
      walk_at "upy"
      have nqaS := (hSt.new nqa)
      have lwa : wa.length ≤ 7200 := w_len_of hca (by omega) (by decide)
      have lwb : wb.length ≤ 7200 := w_len_of hcb (by omega) (by decide)
      have hva2 := hSta.tr fb hva
      have hwa2 := Tl.fr fb nqaS hwa
      refine w_newT (by show 3 ≤ 1000000; decide) fun pt Hc hpt sc hc => ?_
      walk_at "rdy"
      refine tl_new (u := [cds "keep"]) rfl (by show 1 ≤ 1000000; decide) fun q4 Hd hq4 sd hd => ?_
      walk_at "rdy"
      refine tl_cat hd ((hwa2.same sc).same sd) (by show 1 + _ ≤ _; omega) fun q5 He hq5 se he => ?_
      walk_at "rdy"
      refine tl_new (u := [cds "always"]) rfl (by show 1 ≤ 1000000; decide) fun q6 Hf hq6 sf hf => ?_
      refine tl_cat (he.same sf) hf (by rw [List.length_append]; show 1 + _ + 1 ≤ _; omega) fun q7 Hg hq7 sg hg => ?_
      walk_at "rdy"
      refine tl_cat hg (((((hwb.same sc).same sd).same se).same sf).same sg) (by rw [List.length_append, List.length_append]; show 1 + _ + 1 + _ ≤ _; omega) fun q8 Hh hq8 sh hh => ?_
      walk_at "rdy"
      refine tl_new (u := [cds "end"]) rfl (by show 1 ≤ 1000000; decide) fun q9 Hi hq9 si hi => ?_
      refine tl_cat (hh.same si) hi (by rw [List.length_append, List.length_append, List.length_append]; show 1 + _ + 1 + _ + 1 ≤ _; omega) fun q10 Hj hq10 sj hj => ?_
      walk_at "rdy"
      refine w_newT (by show 2 ≤ 1000000; decide) fun p6 Hk hp6 sk hk' => ?_
      have sdk := ((((((sd.trans se).trans sf).trans sg).trans sh).trans si).trans sj).trans sk
      have sci := (((((sc.trans sd).trans se).trans sf).trans sg).trans sh).trans si
      have sck := (sci.trans sj).trans sk
      have w1 : wt [cds "keep"] = 7 := by decide +kernel
      have w2 : wt [cds "always"] = 9 := by decide +kernel
      have w3 : wt [cds "end"] = 6 := by decide +kernel
      have ff := fa.trans fb
      have hex : St (m + 1) (.t [str "keep", .t la, .t lb]) ([cds "keep"] ++ wa ++ [cds "always"] ++ wb ++ [cds "end"]) (na ++ nb) := by
        have := St.keep ea eb
        simpa using this
      refine kQ' p6 (.ref pt) q10 _ (na ++ nb) rb Hk hk' ⟨_, .t (.inl (.inl (sdk _ _ hc))) (.cons .s (.cons (hva2.same sck) (.cons (hvb.same sck) .nil))), hex⟩ (hj.same sk) (nod_app hna hnb) (tok_app (tok_app (tok_app (tok_app (wm1 (by decide +kernel)) hta) (wm1 (by decide +kernel))) htb) (wm1 (by decide +kernel))) ?_ (by omega) ((ff.to sci).free ((hStb.mono sci).new hq10) hq10) (hStb.mono sck) (ff.to sck)
      rw [wt_append, wt_append, wt_append, wt_append, w1, w2, w3]; omega
    walk_at "rdy"
    rw [em]
    refine ⟨S, L, r, z, m, 1, rfl, hSt, (by omega), hm1, hmn', by decide, fun pa va qa wa na ra Ha hpa oka hwa hna hta hca hra nqa hSta fa => ?_⟩
    obtain ⟨lva, ta, hlva, hva, ea⟩ := oka
    have hca2 : (wt wa : Int) + Phi ra ≤ Phi r + 20 ∧ r ≤ ra + 16 * (wt wa : Int) := by split at hca <;> omega
    have lwa : wa.length ≤ 7200 := w_len_of hca2 hr5'.1 (by decide)
    have nqaS := (hSt.new nqa)
    walk_at "upy"
    refine w_ifI (fun _ => ?_) (fun k1 => ?_)
    · walk_at "rdy"
      refine use_tx hSta (by have := Phi_nn ra; omega) fun x rx Hx hx hxr hxr2 hStx fx => ?_
      have xl := RunOf.len hx.1
      have pm := Phi_mono hxr2
      walk_at "rdy"
      refine w_newT (by show 3 ≤ 1000000; decide) fun pt Hc hpt sc hc => ?_
      walk_at "rdy"
      refine tl_new (u := [x, cds ":="]) rfl (by show 2 ≤ 1000000; decide) fun q4 Hd hq4 sd hd => ?_
      walk_at "rdy"
      refine tl_cat hd (((Tl.fr fx nqaS hwa).same sc).same sd) (by show 2 + _ ≤ _; omega) fun q5 He hq5 se he => ?_
      walk_at "rdy"
      refine w_newT (by show 2 ≤ 1000000; decide) fun p6 Hk hp6 sk hk' => ?_
      have l1 : (cds ":=").length = 2 := by decide +kernel
      have w1 : wt [x, cds ":="] = x.length + 3 + 5 := by rw [wt_cons, wt1 l1]
      have ff := fa.trans fx
      have sck := ((sc.trans sd).trans se).trans sk
      refine kQ' p6 (.ref pt) q5 _ na rx Hk hk' ⟨_, .t (.inl (.inl (sk _ _ (se _ _ (sd _ _ hc))))) (.cons .s (.cons .s (.cons ((hSta.tr fx hva).same sck) .nil))), .set (name_nm hx) hlva.2 ea⟩ (he.same sk) hna (tok_app (u := [x, cds ":="]) (fun y hy => ?_) hta) ?_ (by omega) ((ff.to (sc.trans sd)).free ((hStx.mono (sc.trans sd)).new hq5) hq5) (hStx.mono sck) (ff.to sck)
      · rcases List.mem_cons.mp hy with rfl | hy
        · exact name_tok hx
        · rw [List.mem_singleton.mp hy]; exact wm_tok _ (by decide +kernel)
      · show ((wt ([x, cds ":="] ++ wa) : Nat) : Int) + _ ≤ _ ∧ _ ≤ _ + 16 * ((wt ([x, cds ":="] ++ wa) : Nat) : Int)
        rw [wt_append, w1]; omega
    walk_at "rdy"
    refine w_ifI (fun _ => ?_) (fun k2 => ?_)
    · walk_at "rdy"
      refine tl_new (u := [cds "give", cds "fail"]) rfl (by show 2 ≤ 1000000; decide) fun q3 Hb hq3 sb hb => ?_
      walk_at "rdy"
      have nq3 := (hSta.new hq3)
      refine use_draw (hSta.mono sb) (by decide) (by decide) fun y Hx y0 y1 hStx fx => ?_
      obtain ⟨g, hg, eg⟩ := pick_at (l := [cds "give", cds "fail"]) (n := 2) rfl y0 y1
      refine w_ixL (SqL.of (Tl.fr fx nq3 hb)) eg ?_
      have hg2 : g = cds "give" ∨ g = cds "fail" := by
        rcases List.mem_cons.mp hg with h | h
        · exact .inl h
        · exact .inr (List.mem_singleton.mp h)
      have gw : g ∈ WM ∧ g.length = 4 := by rcases hg2 with rfl | rfl <;> decide +kernel
      walk_at "rdy"
      refine w_newT (by show 2 ≤ 1000000; decide) fun pt Hc hpt sc hc => ?_
      walk_at "rdy"
      refine tl_new (u := [g]) rfl (by show 1 ≤ 1000000; decide) fun q4 Hd hq4 sd hd => ?_
      walk_at "rdy"
      refine tl_cat hd (((Tl.fr fx nqaS (hwa.same sb)).same sc).same sd) (by show 1 + _ ≤ _; omega) fun q5 He hq5 se he => ?_
      walk_at "rdy"
      refine w_newT (by show 2 ≤ 1000000; decide) fun p6 Hk hp6 sk hk' => ?_
      have w1 : wt [g] = 7 := wt1 gw.2
      have ff := (fa.to sb).trans fx
      have sck := ((sc.trans sd).trans se).trans sk
      refine kQ' p6 (.ref pt) q5 _ na ra Hk hk' ⟨_, .t (.inl (.inl (sk _ _ (se _ _ (sd _ _ hc))))) (.cons .s (.cons (((hSta.mono sb).tr fx (hva.same sb)).same sck) .nil)) (blk_no (fun e => by rw [e] at hg2; exact absurd hg2 (by decide +kernel))), .gf hg2 hlva.2 ea⟩ (he.same sk) hna (tok_app (wm1 gw.1) hta) ?_ (by omega) ((ff.to (sc.trans sd)).free ((hStx.mono (sc.trans sd)).new hq5) hq5) (hStx.mono sck) (ff.to sck)
      show ((wt ([g] ++ wa) : Nat) : Int) + _ ≤ _ ∧ _ ≤ _ + 16 * ((wt ([g] ++ wa) : Nat) : Int)
      rw [wt_append, w1]; omega
    walk_at "rdy"
    refine w_newT (by show 2 ≤ 1000000; decide) fun pt Hc hpt sc hc => ?_
    walk_at "rdy"
    refine w_newT (by show 2 ≤ 1000000; decide) fun p6 Hk hp6 sk hk' => ?_
    exact kQ' p6 (.ref pt) qa _ na ra Hk hk' ⟨_, .t (.inl (.inl (sk _ _ hc))) (.cons .s (.cons ((hva.same sc).same sk) .nil)), .eval hlva.2 ea⟩ ((hwa.same sc).same sk) hna hta (by omega) hra nqa ((hSta.mono sc).mono sk) ((fa.to sc).to sk)
/-- nothing is promised for rooms below 1 -/
theorem ok_expr0 {f : Addr} {fd : FuncData} (F : Fun K "_law_expression" "_law_expression" s_law_expression f fd) : FnOk P w K mg base CX0 (k + 1) f fd ["state", "room", "asked"] (spExpr K 0) :=
  F.ok sc_law_expression (fun vs H Q E ⟨S, L, r, z, m, a, e, _⟩ => by rw [e]; rfl) fun cdv A outer s H vs Q E hr ⟨S, L, r, z, m, a, e, _, _, h1, h2, _⟩ => by omega
theorem ok_stmt0 {f : Addr} {fd : FuncData} (F : Fun K "_law_statement" "_law_statement" s_law_statement f fd) : FnOk P w K mg base CX0 (k + 1) f fd ["state", "room"] (spStmt K 0) :=
  F.ok sc_law_statement (fun vs H Q E ⟨S, L, r, z, m, e, _⟩ => by rw [e]; rfl) fun cdv A outer s H vs Q E hr ⟨S, L, r, z, m, e, _, _, _, h1, h2, _⟩ => by omega
end
end
section
open PySem PySem.Spec PyProof.Rows L2
open C8 (Cal cal0 pe_c pe_gc pss_cut tCut)

/-- a def that stands at a name of the top -/
structure DefC (K : PySem.W.Frag) (mg : Str → Option Value) (x : Str) (st : Stmt) (ps : List Str) : Prop where
  ex : ∃ (f : Addr) (fd : FuncData), Fun K x x st f fd ∧ mg x = some (.ref f) ∧ PySem.W.keepIn K (.ref f) = true ∧ Binds K fd ps []
theorem DefC.cal {P : Program} {w : World} {K : PySem.W.Frag} {mg : Str → Option Value} {base : Heap} {x : Str} {st : Stmt} {ps : List Str} {k : Nat} {sp : Sp} (c : DefC K mg x st ps) (h : ∀ f fd, Fun K x x st f fd → FnOk P w K mg base CX0 k f fd ps sp) : Cal P w K mg base k x sp [] := by
  obtain ⟨f, fd, F, m, kp, b⟩ := c.ex
  exact ⟨f, fd, ps, [], h f fd F, m, kp, b, .nil⟩
theorem cal_mono {P : Program} {w : World} {K : PySem.W.Frag} {mg : Str → Option Value} {base : Heap} {x : Str} {k j : Nat} {sp : Sp} {dvs : List V} (c : Cal P w K mg base k x sp dvs) (h : k ≤ j) : Cal P w K mg base j x sp dvs := by
  obtain ⟨f, fd, ps, ds, F, m, kp, b, d⟩ := c.ex
  exact ⟨f, fd, ps, ds, F.mono h, m, kp, b, d⟩
section
variable {P : Program} {w : World} {K : PySem.W.Frag} {mg : Str → Option Value} {base : Heap}
/-- the draws' defs -/
structure GenC (P : Program) (w : World) (K : PySem.W.Frag) (mg : Str → Option Value) (base : Heap) : Prop where
  Y : Bn mg
  draw : Cal P w K mg base 1 "_law_draw" spDraw []
  name : Cal P w K mg base 3 "_law_name" (spTx IsName 21) []
  names : Cal P w K mg base 4 "_law_names" spGNames []
  commas : Cal P w K mg base 1 "_law_commas" spCommas []
  leaf : Cal P w K mg base 4 "_law_leaf" (spLeaf K) []
  d_expression : DefC K mg "_law_expression" s_law_expression ["state", "room", "asked"]
  d_compound : DefC K mg "_law_compound" s_law_compound ["state", "kind", "room"]
  d_sides : DefC K mg "_law_sides" s_law_sides ["state", "kind", "room"]
  d_list : DefC K mg "_law_list" s_law_list ["state", "room"]
  d_block : DefC K mg "_law_block" s_law_block ["state", "room"]
  d_body : DefC K mg "_law_body" s_law_body ["state", "room", "most"]
  d_choice : DefC K mg "_law_choice" s_law_choice ["state", "room"]
  d_statement : DefC K mg "_law_statement" s_law_statement ["state", "room"]
theorem GenC.all (C : GenC P w K mg base) : ∀ n, Cal P w K mg base (10 * n + 5) "_law_expression" (spExpr K n) [] ∧ Cal P w K mg base (10 * n + 5) "_law_statement" (spStmt K n) []
  | 0 => ⟨C.d_expression.cal fun f fd F => ok_expr0 (k := 4) F, C.d_statement.cal fun f fd F => ok_stmt0 (k := 4) F⟩
  | n + 1 => by
    obtain ⟨e, s⟩ := C.all n
    generalize hk : 10 * n + 5 = k at e s
    have li : Cal P w K mg base (k + 1) "_law_list" (spList K n) [] := C.d_list.cal fun f fd F => ok_law_list F C.Y (by omega) C.draw e
    have bo : Cal P w K mg base (k + 1) "_law_body" (spBody K n) [] := C.d_body.cal fun f fd F => ok_law_body F C.Y (by omega) C.draw s
    have bl : Cal P w K mg base (k + 2) "_law_block" (spGBlock K n) [] := C.d_block.cal fun f fd F => ok_law_block F C.Y (by omega) C.draw C.names C.commas bo
    have si : Cal P w K mg base (k + 1) "_law_sides" (spSides K n) [] := C.d_sides.cal fun f fd F => ok_law_sides F C.Y (by omega) C.draw e
    have co : Cal P w K mg base (k + 3) "_law_compound" (spComp K n) [] := C.d_compound.cal fun f fd F => ok_law_compound (k := k + 2) F C.Y (by omega) (cal_mono e (by omega)) (cal_mono si (by omega)) C.name (cal_mono li (by omega)) bl
    have ex : Cal P w K mg base (k + 4) "_law_expression" (spExpr K (n + 1)) [] := C.d_expression.cal fun f fd F => ok_law_expression (k := k + 3) F C.Y (by omega) C.draw C.leaf co
    have ch : Cal P w K mg base (k + 2) "_law_choice" (spChc K n) [] := C.d_choice.cal fun f fd F => ok_law_choice (k := k + 1) F C.Y (by omega) C.draw (cal_mono e (by omega)) bo
    have st : Cal P w K mg base (k + 3) "_law_statement" (spStmt K (n + 1)) [] := C.d_statement.cal fun f fd F => ok_law_statement (k := k + 2) F C.Y (by omega) C.draw ch (cal_mono e (by omega)) (cal_mono bo (by omega)) C.name
    exact ⟨cal_mono ex (by omega), cal_mono st (by omega)⟩
theorem GenC.body (C : GenC P w K mg base) (n : Nat) : Cal P w K mg base (10 * n + 6) "_law_body" (spBody K n) [] := C.d_body.cal fun f fd F => ok_law_body F C.Y (by omega) C.draw (C.all n).2
end
end
section
open PySem PySem.Spec PyProof.Rows L2
open C8 (Cal cal0 pe_c pe_gc pss_cut tCut)

theorem wt_commas {l : Ws} (hn : ∀ x ∈ l, IsName x) : wt (commas l) ≤ 28 * l.length := by
  have wf : ∀ l : Ws, (∀ x ∈ l, IsName x) → wt (l.flatMap fun b => [cds ",", b]) ≤ 28 * l.length := fun l => by
    induction l with
    | nil => intro _; exact Nat.le_refl _
    | cons b l ih =>
      intro hn
      have := ih fun x hx => hn x (List.mem_cons_of_mem _ hx)
      have hb := RunOf.len (hn b List.mem_cons_self).1
      have e1 : (cds ",").length = 1 := by decide +kernel
      rw [List.flatMap_cons, wt_append, List.length_cons]
      show (cds ",").length + 3 + (b.length + 3 + 0) + _ ≤ _
      omega
  cases l with
  | nil => exact Nat.le_refl _
  | cons a l =>
    have := wf l fun x hx => hn x (List.mem_cons_of_mem _ hx)
    have hb := RunOf.len (hn a List.mem_cons_self).1
    rw [commas_cons, wt_cons, List.length_cons]
    omega
theorem tok_commas {l : Ws} (hn : ∀ x ∈ l, IsName x) : ∀ x ∈ commas l, Tok x := by
  cases l with
  | nil => intro x hx; exact absurd hx List.not_mem_nil
  | cons a l =>
    intro x hx
    rw [commas_cons] at hx
    rcases List.mem_cons.mp hx with rfl | hx
    · exact name_tok (hn _ List.mem_cons_self)
    · obtain ⟨b, hb, hx⟩ := List.mem_flatMap.mp hx
      rcases List.mem_cons.mp hx with rfl | hx
      · exact wm_tok _ (by decide +kernel)
      · rw [List.mem_singleton.mp hx]; exact name_tok (hn b (List.mem_cons_of_mem _ hb))
theorem tok_cons {a : List Nat} {w : Ws} (h : Tok a) (g : ∀ x ∈ w, Tok x) : ∀ x ∈ a :: w, Tok x := fun x hx => (List.mem_cons.mp hx).elim (fun e => e ▸ h) (g x)
theorem commas_le (l : Ws) : (commas l).length ≤ 2 * l.length := by
  by_cases h : l = []
  · subst h; exact Nat.le_refl _
  · have := commas_len h; omega
theorem tok_m {a : List Nat} {p v w : Ws} (na : IsName a) (hp : ∀ x ∈ p, IsName x) (hv : ∀ x ∈ v, IsName x) (hw : ∀ x ∈ w, Tok x) : ∀ x ∈ mWs a p v w, Tok x := by
  refine tok_cons (wm_tok _ (by decide +kernel)) (tok_cons (name_tok na) (tok_cons (wm_tok _ (by decide +kernel)) (tok_app (tok_commas hp) (tok_cons (wm_tok _ (by decide +kernel)) (tok_app ?_ (tok_app hw (wm1 (by decide +kernel))))))))
  unfold vWs
  split
  · intro x hx; exact absurd hx List.not_mem_nil
  · exact tok_cons (wm_tok _ (by decide +kernel)) (tok_app (tok_commas hv) (wm1 (by decide +kernel)))
theorem wt_m {a : List Nat} {p v w : Ws} (na : IsName a) (hp : ∀ x ∈ p, IsName x) (hp8 : p.length ≤ 8) (hv : ∀ x ∈ v, IsName x) (hv8 : v.length ≤ 8) : wt (mWs a p v w) ≤ wt w + 540 := by
  have h1 := wt_commas hp
  have h2 := wt_commas hv
  have h3 := RunOf.len na.1
  have e1 : (cds "method").length = 6 := by decide +kernel
  have e2 : (cds "(").length = 1 := by decide +kernel
  have e3 : (cds ")").length = 1 := by decide +kernel
  have e4 : (cds "var").length = 3 := by decide +kernel
  have e5 : wt [cds ";"] = 4 := by decide +kernel
  have e6 : wt [cds "end"] = 6 := by decide +kernel
  have hv' : wt (vWs v) ≤ 234 := by
    unfold vWs
    split
    · exact Nat.zero_le _
    · rw [wt_cons, wt_append, e4, e5]; omega
  unfold mWs
  rw [wt_cons, wt_cons, wt_cons, wt_append, wt_cons, wt_append, wt_append, e1, e2, e3, e6]
  omega
section
variable {P : Program} {w : World} {K : PySem.W.Frag} {mg : Str → Option Value} {base : Heap} {k : Nat}
abbrev s_law_method : Stmt := topS 25
abbrev N_law_method : List Str := ["state", "name", "first", "second", "tokens", "body", "more"]
theorem sc_law_method : FnScope N_law_method ["state"] (defScope s_law_method) := ⟨rfl, rfl, rfl, by decide +kernel, rfl, by decide +kernel, by decide +kernel⟩
def spMeth (K : PySem.W.Frag) : Sp := fun vs H Q _ => ∃ (S L : Addr) (r z : Int), vs = [.ref S] ∧ StR H S L r z ∧ (r ≤ 500 ∧ -4000 ≤ r) ∧
  ∀ (pt : Addr) (v : V) (q : Addr) (a : List Nat) (p vv w : Ws) (l : List Tr) (ns : List Ws) (r' : Int) (H' : Hp), H' pt = some (.tup [v, .ref q]) → MtB K H' v a p vv l → Bd 12 l w ns → IsName a → (∀ x ∈ p, IsName x) → p.length ≤ 8 → (∀ x ∈ vv, IsName x) → vv.length ≤ 8 → (p ++ vv).Nodup → (∀ l ∈ ns, l.Nodup) →
    Tl H' q (mWs a p vv w) → (∀ x ∈ mWs a p vv w, Tok x) → wt w ≤ 20400 → wt (mWs a p vv w) ≤ 21000 → r' ≤ r → H q = none → StR H' S L r' z → FrP S L H H' → Q (.ref pt) H'
theorem ok_law_method {f : Addr} {fd : FuncData} (F : Fun K "_law_method" "_law_method" s_law_method f fd) (Y : Bn mg) (hk : 4 ≤ k) (c_law_draw : Cal P w K mg base 1 "_law_draw" spDraw []) (c_law_name : Cal P w K mg base 3 "_law_name" (spTx IsName 21) []) (c_law_names : Cal P w K mg base 4 "_law_names" spGNames []) (c_law_commas : Cal P w K mg base 1 "_law_commas" spCommas []) (c_law_body : Cal P w K mg base k "_law_body" (spBody K 12) []) : FnOk P w K mg base CX0 (k + 1) f fd ["state"] (spMeth K) := by
  refine F.ok sc_law_method (fun vs H Q E h => ?_) (fun cdv A outer s H vs Q E hr h => ?_)
  · obtain ⟨S, L, r, z, rfl, _⟩ := h
    rfl
  · obtain ⟨S, L, r, z, rfl, hSt, hr5, kQ⟩ := h
    have nd := sc_law_method.nd
    refine ⟨_, (pss_cons (ps_set (i := 1) nd rfl (Or.inl rfl) (pe_c c_law_name hr (by omega) rfl (pa_cons (pv 0) pa_nil)))
      (pss_cons (ps_set (i := 2) nd rfl (Or.inl rfl) (pe_c c_law_names hr (by omega) rfl (pa_cons (pv 0) (pa_cons (pe_c c_law_draw hr (by omega) rfl (pa_cons (pv 0) (pa_cons pe_int pa_nil))) (pa_cons (pe_lst pa_nil) pa_nil)))))
      (pss_cons (ps_set (i := 3) nd rfl (Or.inl rfl) (pe_c c_law_names hr (by omega) rfl (pa_cons (pv 0) (pa_cons (pe_c c_law_draw hr (by omega) rfl (pa_cons (pv 0) (pa_cons pe_int pa_nil))) (pa_cons (pv 2) pa_nil)))))
      (pss_cons (ps_set (i := 4) nd rfl (Or.inl rfl) (pe_op op_cat (pe_op op_cat (pe_lst (pa_cons pe_str (pa_cons (pv 1) (pa_cons pe_str pa_nil)))) (pe_c c_law_commas hr (by omega) rfl (pa_cons (pv 2) pa_nil))) (pe_lst (pa_cons pe_str pa_nil))))
      (pss_cut (ps_if (pt_tru (pv 3)) (pss_one (ps_set (i := 4) nd rfl (Or.inl rfl) (pe_op op_cat (pe_op op_cat (pe_op op_cat (pv 4) (pe_lst (pa_cons pe_str pa_nil))) (pe_c c_law_commas hr (by omega) rfl (pa_cons (pv 3) pa_nil))) (pe_lst (pa_cons pe_str pa_nil))))) pss_nil)
      (pss_cons (ps_asg (pe_c c_law_body hr (by omega) rfl (pa_cons (pv 0) (pa_cons pe_int (pa_cons pe_int pa_nil)))) (pg_tup (by rfl) (pgs_cons (pg_name (i := 5) nd rfl (Or.inl rfl)) (pgs_cons (pg_name (i := 6) nd rfl (Or.inl rfl)) pgs_nil))))
      (pss_one (ps_ret (pe_tup (pa_cons (pe_tup (pa_cons pe_str (pa_cons (pv 1) (pa_cons (pe_callTy call_tupleOf (by rfl) Y.n_tuple (by decide +kernel) (pa_cons (pv 2) pa_nil)) (pa_cons (pe_callTy call_tupleOf (by rfl) Y.n_tuple (by decide +kernel) (pa_cons (pv 3) pa_nil)) (pa_cons (pv 5) pa_nil)))))) (pa_cons (pe_op op_cat (pe_op op_cat (pv 4) (pv 6)) (pe_lst (pa_cons pe_str pa_nil))) pa_nil))))))))))), ?_⟩
    rw [show L2.start N_law_method [.ref S] = [some (.ref S), none, none, none, none, none, none] from rfl]
    walk_at "rdy"
    refine use_tx hSt (by have := Phi_nn r; omega) fun a r1 H1 ha hra hr1 hSt1 f1 => ?_
    walk_at "rdy"
    refine use_draw hSt1 (by decide) (by decide) fun c H2 c0 c1 hSt2 f2 => ?_
    walk_at "rdy"
    refine tl_new (u := []) rfl (by show 0 ≤ 1000000; decide) fun q0 H3 hq0 s3 h3 => ?_
    walk_at "rdy"
    refine ⟨S, L, q0, r1, z, c, [], rfl, hSt2.mono s3, h3, (hSt2.new hq0), c0, by omega, (by have := RunOf.len ha.1; omega), fun qp p r4 H4 hnd _ hnm hpl hqp nqp hr4 hSt4 f4 => ?_⟩
    walk_at "rdy"
    have nqpS := ((hSt2.mono s3).new nqp)
    refine use_draw hSt4 (by decide) (by decide) fun c' H5 c0' c1' hSt5 f5 => ?_
    walk_at "rdy"
    refine ⟨S, L, qp, r4, z, c', p, rfl, hSt5, Tl.fr f5 nqpS hqp, nqpS, c0', by omega, (by have := RunOf.len ha.1; omega), fun qv vv r6 H6 hnd2 hdj hnm2 hvl hqv nqv hr6 hSt6 f6 => ?_⟩
    walk_at "rdy"
    have nqvS := (hSt5.new nqv)
    have hqp6 : Tl H6 qp p := Tl.fr f6 nqpS (Tl.fr f5 nqpS hqp)
    have hp8 : p.length ≤ 8 := by omega
    have hv8 : vv.length ≤ 8 := by omega
    have clp := commas_le p
    have clv := commas_le vv
    have f06 := (((f1.trans f2).to s3).trans f4).trans (f5.trans f6)
    refine tl_new (u := [cds "method", a, cds "("]) rfl (by show 3 ≤ 1000000; decide) fun q7 H7 hq7 s7 h7 => ?_
    walk_at "rdy"
    refine ⟨qp, p, rfl, hqp6.same s7, by omega, fun q8 H8 hq8 nq8 s8 => ?_⟩
    refine tl_cat (h7.same s8) hq8 (by show 3 + _ ≤ _; omega) fun q9 H9 hq9 s9 h9 => ?_
    walk_at "rdy"
    refine tl_new (u := [cds ")"]) rfl (by show 1 ≤ 1000000; decide) fun q10 H10 hq10 s10 h10 => ?_
    refine tl_cat (h9.same s10) h10 (by rw [List.length_append]; show 3 + _ + 1 ≤ _; omega) fun q11 H11 hq11 s11 h11 => ?_
    walk_at "rdy"
    have s6b := (((s7.trans s8).trans s9).trans s10).trans s11
    have hSt11 := hSt6.mono s6b
    have hqv11 : Tl H11 qv vv := hqv.same s6b
    refine ⟨fun σ' H' => ∃ (q5 : Addr), σ' = [some (.ref S), some (T a), some (.ref qp), some (.ref qv), some (.ref q5), none, none] ∧ (q5 ≠ S ∧ q5 ≠ L) ∧ Same H11 H' ∧ Tl H' q5 ([cds "method", a, cds "("] ++ commas p ++ [cds ")"] ++ vWs vv), ?_, ?_⟩
    · walk_at "rdy"
      refine w_truL (SqL.of hqv11) (fun hne => ?_) (fun hem => ?_)
      · have h0 : vv ≠ [] := fun e => hne (by rw [e]; rfl)
        walk_at "rdy"
        refine tl_new (u := [cds "var"]) rfl (by show 1 ≤ 1000000; decide) fun q12 H12 hq12 s12 h12 => ?_
        refine tl_cat (h11.same s12) h12 (by rw [List.length_append, List.length_append]; show 3 + _ + 1 + 1 ≤ _; omega) fun q13 H13 hq13 s13 h13 => ?_
        walk_at "rdy"
        refine ⟨qv, vv, rfl, (hqv11.same s12).same s13, by omega, fun q14 H14 hq14 nq14 s14 => ?_⟩
        refine tl_cat (h13.same s14) hq14 (by rw [List.length_append, List.length_append, List.length_append]; show 3 + _ + 1 + 1 + _ ≤ _; omega) fun q15 H15 hq15 s15 h15 => ?_
        walk_at "rdy"
        refine tl_new (u := [cds ";"]) rfl (by show 1 ≤ 1000000; decide) fun q16 H16 hq16 s16 h16 => ?_
        refine tl_cat (h15.same s16) h16 (by rw [List.length_append, List.length_append, List.length_append, List.length_append]; show 3 + _ + 1 + 1 + _ + 1 ≤ _; omega) fun q17 H17 hq17 s17 h17 => ?_
        walk_at "rdy"
        refine ⟨q17, rfl, ((hSt11.mono ((((s12.trans s13).trans s14).trans s15).trans s16)).new hq17), (((((s12.trans s13).trans s14).trans s15).trans s16).trans s17), ?_⟩
        have e : vWs vv = cds "var" :: (commas vv ++ [cds ";"]) := if_neg h0
        rw [e]
        have e2 : [cds "method", a, cds "("] ++ commas p ++ [cds ")"] ++ [cds "var"] ++ commas vv ++ [cds ";"] = [cds "method", a, cds "("] ++ commas p ++ [cds ")"] ++ cds "var" :: (commas vv ++ [cds ";"]) := by simp
        rw [e2] at h17
        exact h17
      · have h0 : vv = [] := by
          cases vv with
          | nil => rfl
          | cons a l => cases hem
        refine ⟨q11, rfl, ((hSt6.mono (((s7.trans s8).trans s9).trans s10)).new hq11), fun _ _ h => h, ?_⟩
        have e : vWs vv = [] := if_pos h0
        rw [e, List.append_nil]
        exact h11
    · rintro σ' H12 ⟨q5, rfl, nq5, s12, h12⟩
      walk_at "rdy"
      have hSt12 := hSt11.mono s12
      refine ⟨S, L, r6, z, 12, 6, rfl, hSt12, (by have := Phi_nn r6; have := Phi_500 (r := r6) (by omega); have := RunOf.len ha.1; omega), by decide, by decide, by decide, fun pb vb qb wb nb rb H13 hpb okb hwb hnb htb hcb hrb nqb hSt13 f13 => ?_⟩
      obtain ⟨l, hl, eb⟩ := okb
      walk_at "upy"
      have pr := Phi_500 (r := r6) (by omega)
      have pn := Phi_nn rb
      have lwb : wt wb ≤ 20400 := by omega
      have lww := wt_len wb
      have hqp13 : Tl H13 qp p := Tl.fr f13 nqpS ((hqp6.same s6b).same s12)
      have hqv13 : Tl H13 qv vv := Tl.fr f13 nqvS (hqv11.same s12)
      have h13 := Tl.fr f13 nq5 h12
      refine w_tupOf (SqL.of hqp13) fun pn H14 hpn s14 h14 => ?_
      walk_at "rdy"
      refine w_tupOf (SqL.of (hqv13.same s14)) fun pv H15 hpv s15 h15 => ?_
      walk_at "rdy"
      refine w_newT (by show 5 ≤ 1000000; decide) fun pt H16 hpt s16 h16 => ?_
      walk_at "rdy"
      have l5 : ([cds "method", a, cds "("] ++ commas p ++ [cds ")"] ++ vWs vv).length ≤ 100 := by
        unfold vWs
        split
        · simp only [List.length_append, List.length_cons, List.length_nil]; omega
        · simp only [List.length_append, List.length_cons, List.length_nil]; omega
      refine tl_cat (((h13.same s14).same s15).same s16) (((hwb.same s14).same s15).same s16) (by omega) fun q17 H17 hq17 s17 h17 => ?_
      walk_at "rdy"
      refine tl_new (u := [cds "end"]) rfl (by show 1 ≤ 1000000; decide) fun q18 H18 hq18 s18 h18 => ?_
      refine tl_cat (h17.same s18) h18 (by rw [List.length_append]; show _ + _ + 1 ≤ _; omega) fun q19 H19 hq19 s19 h19 => ?_
      walk_at "rdy"
      refine w_newT (by show 2 ≤ 1000000; decide) fun p20 H20 hp20 s20 h20 => ?_
      have s17e := ((s17.trans s18).trans s19).trans s20
      have s15e := s16.trans s17e
      have s13e := (s14.trans s15).trans s15e
      have htr : MtB K H20 (.ref pt) a p vv l := ⟨pt, _, _, _, rfl, .inl (.inl (s17e _ _ h16)), h14.same (s15.trans s15e), h15.same s15e, hl.same s13e⟩
      have ew : [cds "method", a, cds "("] ++ commas p ++ [cds ")"] ++ vWs vv ++ wb ++ [cds "end"] = mWs a p vv wb := by
        unfold mWs
        simp
      rw [ew] at h19
      have f0e := ((f06.to s6b).to s12).trans f13
      have f19 := f0e.to ((((s14.trans s15).trans s16).trans s17).trans s18)
      have h21 := wt_m (w := wb) ha hnm hp8 hnm2 hv8
      refine kQ p20 (.ref pt) q19 a p vv wb l nb rb H20 h20 htr eb ha hnm hp8 hnm2 hv8 ?_ hnb (h19.same s20) (tok_m ha hnm hnm2 htb) lwb (by omega) (by omega) (f19.free ((hSt13.mono ((((s14.trans s15).trans s16).trans s17).trans s18)).new hq19) hq19) (hSt13.mono s13e) (f0e.to s13e)
      exact List.nodup_append.mpr ⟨hnd, hnd2, fun x hx y hy e => hdj y hy (by rw [← e]; exact hx)⟩
end
end
section
/-! The law's rows of a method's parts. -/
open PySem PySem.Spec PyProof.Rows L2
open C8 (Cal cal0 pe_c pe_gc pss_cut tCut)

local macro_rules | `(tactic| walk_at "kd") => `(tactic| repeat (first
  | walk_at "r1c"
  | with_reducible refine c_if_Te (by with_unfolding_all decide +kernel) ?_
  | with_reducible refine c_if_Tn (by with_unfolding_all decide +kernel) ?_))
section
variable {P : Program} {w : World} {K : PySem.W.Frag} {mg : Str → Option Value} {base : Heap} {k n : Nat}
abbrev s_law_statement_rows : Stmt := topS 31
abbrev N_law_statement_rows : List Str := ["tree", "scopes", "fields", "cls", "kind", "one", "two", "test"]
theorem sc_law_statement_rows : FnScope N_law_statement_rows ["tree", "scopes", "fields", "cls"] (defScope s_law_statement_rows) := ⟨rfl, rfl, rfl, by decide +kernel, rfl, by decide +kernel, by decide +kernel⟩
theorem ok_law_statement_rows {f : Addr} {fd : FuncData} (F : Fun K "_law_statement_rows" "_law_statement_rows" s_law_statement_rows f fd) (Y : Bn mg) (hk : 1 ≤ k) (c_law_rows : Cal P w K mg base k "_law_rows" (spRws K XP n) []) (c_law_all : Cal P w K mg base k "_law_all" (spRwL K n) []) (c_law_place : Cal P w K mg base 1 "_law_place" (spLPl K) [])  : FnOk P w K mg base CX0 (k + 1) f fd ["tree", "scopes", "fields", "cls"] (spRws K shSt (n + 1)) := by
  refine F.ok sc_law_statement_rows (fun vs H Q E h => ?_) (fun cdv A outer s H vs Q E hr h => ?_)
  · obtain ⟨v, t, m, D, tS, sc, sl, ow, rfl, _⟩ := h
    rfl
  · obtain ⟨v, t, m, D, tS, sc, sl, ow, rfl, hv, ⟨⟨w, ns, x, hp, rfl⟩, hh⟩, hC, ⟨b1, b2, b3⟩, kQ⟩ := h
    have nd := sc_law_statement_rows.nd
    refine ⟨_, (pss_cons (ps_set (i := 4) nd rfl (Or.inl rfl) (pe_ix ix_tup (pv 0) pe_int (fun _ _ => rfl)))
      (pss_cons (ps_if (pt_cmpR op_eq (pv 4) pe_str (nomark _)) (pss_one (ps_ret (pe_op op_cat (pe_c c_law_rows hr (by omega) rfl (pa_cons (pe_ix ix_tup (pv 0) pe_int (fun _ _ => rfl)) (pa_cons (pv 1) (pa_cons (pv 2) (pa_cons (pv 3) pa_nil))))) (pe_lst (pa_cons (pe_tup (pa_cons pe_str (pa_cons (pe_c c_law_place hr (by omega) rfl (pa_cons (pe_ix ix_tup (pv 0) pe_int (fun _ _ => rfl)) (pa_cons (pv 1) (pa_cons (pv 2) pa_nil)))) pa_nil))) pa_nil))))) pss_nil)
      (pss_cons (ps_if (pt_cmpR op_eq (pv 4) pe_str (nomark _)) (pss_one (ps_ret (pe_op op_cat (pe_c c_law_rows hr (by omega) rfl (pa_cons (pe_ix ix_tup (pv 0) pe_int (fun _ _ => rfl)) (pa_cons (pv 1) (pa_cons (pv 2) (pa_cons (pv 3) pa_nil))))) (pe_lst (pa_cons (pe_tup (pa_cons pe_str pa_nil)) pa_nil))))) pss_nil)
      (pss_cons (ps_if (PW.pt (pw_or (pt_cmpR op_eq (pv 4) pe_str (nomark _)) (pw_or1 (pt_cmpR op_eq (pv 4) pe_str (nomark _))))) (pss_one (ps_ret (pe_op op_cat (pe_c c_law_rows hr (by omega) rfl (pa_cons (pe_ix ix_tup (pv 0) pe_int (fun _ _ => rfl)) (pa_cons (pv 1) (pa_cons (pv 2) (pa_cons (pv 3) pa_nil))))) (pe_lst (pa_cons (pe_tup (pa_cons (pv 4) pa_nil)) pa_nil))))) pss_nil)
      (pss_cons (ps_set (i := 5) nd rfl (Or.inl rfl) (pe_c c_law_all hr (by omega) rfl (pa_cons (pe_ix ix_tup (pv 0) (pe_op op_sub (pe_callB call_lenL (by rfl) Y.n_len (by decide +kernel) (pa_cons (pv 0) pa_nil)) pe_int) (fun _ _ => rfl)) (pa_cons (pv 1) (pa_cons (pv 2) (pa_cons (pv 3) pa_nil))))))
      (pss_cons (ps_set (i := 6) nd rfl (Or.inl rfl) (pe_c c_law_all hr (by omega) rfl (pa_cons (pe_ix ix_tup (pv 0) (pe_op op_sub (pe_callB call_lenL (by rfl) Y.n_len (by decide +kernel) (pa_cons (pv 0) pa_nil)) pe_int) (fun _ _ => rfl)) (pa_cons (pv 1) (pa_cons (pv 2) (pa_cons (pv 3) pa_nil))))))
      (pss_cons (ps_if (pt_cmpR op_eq (pv 4) pe_str (nomark _)) (pss_one (ps_ret (pe_op op_cat (pe_op op_cat (pe_op op_cat (pe_op op_cat (pe_lst (pa_cons (pe_tup (pa_cons pe_str pa_nil)) pa_nil)) (pv 5)) (pe_lst (pa_cons (pe_tup (pa_cons pe_str pa_nil)) pa_nil))) (pv 6)) (pe_lst (pa_cons (pe_tup (pa_cons pe_str pa_nil)) pa_nil))))) pss_nil)
      (pss_cons (ps_set (i := 7) nd rfl (Or.inl rfl) (pe_op op_cat (pe_c c_law_rows hr (by omega) rfl (pa_cons (pe_ix ix_tup (pv 0) pe_int (fun _ _ => rfl)) (pa_cons (pv 1) (pa_cons (pv 2) (pa_cons (pv 3) pa_nil))))) (pe_lst (pa_cons (pe_tup (pa_cons pe_str pa_nil)) pa_nil))))
      (pss_cons (ps_if (PW.pt (pw_and (pt_cmpR op_eq (pv 4) pe_str (nomark _)) (pw_and1 (pt_tru (pe_ix ix_tup (pv 0) pe_int (fun _ _ => rfl)))))) (pss_one (ps_ret (pe_op op_cat (pe_op op_cat (pe_op op_cat (pv 7) (pv 5)) (pe_lst (pa_cons (pe_tup (pa_cons pe_str pa_nil)) pa_nil))) (pv 6)))) pss_nil)
      (pss_one (ps_ret (pe_op op_cat (pv 7) (pv 5))))))))))))), ?_⟩
    rw [show L2.start N_law_statement_rows [v, .ref D, .ref tS, T ow] = [some v, some (.ref D), some (.ref tS), some (T ow), none, none, none, none] from rfl]
    cases hp with
    | eval pe =>
      obtain ⟨p, y, rfl, hq, hy⟩ := hv.e2
      have z1 := (show XE n _ _ from ⟨_, _, _, _, pe, rfl⟩).rl (sl := sl) (ow := ow) (sc := sc)
      have hw1 := w_one pe.len
      walk_at "kd"
      refine ⟨y, _, _, D, tS, sc, sl, ow, rfl, hy, (.inl ⟨_, _, _, _, pe, rfl⟩), hC, ⟨by omega, by omega, b3⟩, fun q1 H1 n1 s1 r1 => ?_⟩
      have hC := hC.same s1
      have hq := Same.sqT s1 hq
      have hy := hy.same s1
      have SS := s1
      walk_at "kd"
      refine n_tup (K := K) (.cons .s .nil) (by show 1 ≤ 1000000; decide) fun q2 H2 n2 s2 r2 => ?_
      have hC := hC.same s2
      have hq := Same.sqT s2 hq
      have hy := hy.same s2
      have r1 := r1.same s2
      have SS := SS.trans s2
      walk_at "kd"
      refine n_lst (K := K) (.cons r2 .nil) (by show 1 ≤ 1000000; decide) fun q3 H3 n3 s3 r3 => ?_
      have hC := hC.same s3
      have hq := Same.sqT s3 hq
      have hy := hy.same s3
      have r1 := r1.same s3
      have r2 := r2.same s3
      have SS := SS.trans s3
      walk_at "kd"
      refine rw_cat r1 r3 (by first | omega | (simp only [List.length_append, List.length_cons, List.length_nil]; omega)) fun q4 H4 n4 s4 r4 => ?_
      have N4 := (SS.free n4)
      have hC := hC.same s4
      have hq := Same.sqT s4 hq
      have hy := hy.same s4
      have r1 := r1.same s4
      have r2 := r2.same s4
      have r3 := r3.same s4
      have SS := SS.trans s4
      walk_at "kd"
      exact kQ q4 H4 N4 SS (RwAt.eq (rd_eval (rX sl ow n) sl ow sc _) r4)
    | set na pe =>
      obtain ⟨p, y, z, rfl, hq, hy, hz⟩ := hv.e3
      simp only [List.length_append, List.length_cons, List.length_nil] at b1
      have z1 := (show XE n _ _ from ⟨_, _, _, _, pe, rfl⟩).rl (sl := sl) (ow := ow) (sc := sc)
      cases hy.sE
      walk_at "kd"
      refine ⟨z, _, _, D, tS, sc, sl, ow, rfl, hz, (.inl ⟨_, _, _, _, pe, rfl⟩), hC, ⟨by omega, by omega, b3⟩, fun q1 H1 n1 s1 r1 => ?_⟩
      have hC := hC.same s1
      have hq := Same.sqT s1 hq
      have hz := hz.same s1
      have SS := s1
      walk_at "kd"
      refine ⟨_, D, tS, sc, sl, rfl, hC, by omega, b3, fun q2 H2 s2 r2 => ?_⟩
      have hC := hC.same s2
      have hq := Same.sqT s2 hq
      have hz := hz.same s2
      have r1 := r1.same s2
      have SS := SS.trans s2
      walk_at "kd"
      refine n_tup (K := K) (.cons .s (.cons r2 .nil)) (by show 2 ≤ 1000000; decide) fun q3 H3 n3 s3 r3 => ?_
      have hC := hC.same s3
      have hq := Same.sqT s3 hq
      have hz := hz.same s3
      have r1 := r1.same s3
      have r2 := r2.same s3
      have SS := SS.trans s3
      walk_at "kd"
      refine n_lst (K := K) (.cons r3 .nil) (by show 1 ≤ 1000000; decide) fun q4 H4 n4 s4 r4 => ?_
      have hC := hC.same s4
      have hq := Same.sqT s4 hq
      have hz := hz.same s4
      have r1 := r1.same s4
      have r2 := r2.same s4
      have r3 := r3.same s4
      have SS := SS.trans s4
      walk_at "kd"
      refine rw_cat r1 r4 (by first | omega | (simp only [List.length_append, List.length_cons, List.length_nil]; omega)) fun q5 H5 n5 s5 r5 => ?_
      have N5 := (SS.free n5)
      have hC := hC.same s5
      have hq := Same.sqT s5 hq
      have hz := hz.same s5
      have r1 := r1.same s5
      have r2 := r2.same s5
      have r3 := r3.same s5
      have r4 := r4.same s5
      have SS := SS.trans s5
      walk_at "kd"
      exact kQ q5 H5 N5 SS (RwAt.eq (rd_set (rX sl ow n) sl ow sc _ _) r5)
    | gf hg pe =>
      obtain ⟨p, y, rfl, hq, hy⟩ := hv.e2
      simp only [List.length_append, List.length_cons, List.length_nil] at b1
      rcases hg with rfl | rfl
      · have z1 := (show XE n _ _ from ⟨_, _, _, _, pe, rfl⟩).rl (sl := sl) (ow := ow) (sc := sc)
        walk_at "kd"
        refine ⟨y, _, _, D, tS, sc, sl, ow, rfl, hy, (.inl ⟨_, _, _, _, pe, rfl⟩), hC, ⟨by omega, by omega, b3⟩, fun q1 H1 n1 s1 r1 => ?_⟩
        have hC := hC.same s1
        have hq := Same.sqT s1 hq
        have hy := hy.same s1
        have SS := s1
        walk_at "kd"
        refine n_tup (K := K) (.cons .s .nil) (by show 1 ≤ 1000000; decide) fun q2 H2 n2 s2 r2 => ?_
        have hC := hC.same s2
        have hq := Same.sqT s2 hq
        have hy := hy.same s2
        have r1 := r1.same s2
        have SS := SS.trans s2
        walk_at "kd"
        refine n_lst (K := K) (.cons r2 .nil) (by show 1 ≤ 1000000; decide) fun q3 H3 n3 s3 r3 => ?_
        have hC := hC.same s3
        have hq := Same.sqT s3 hq
        have hy := hy.same s3
        have r1 := r1.same s3
        have r2 := r2.same s3
        have SS := SS.trans s3
        walk_at "kd"
        refine rw_cat r1 r3 (by first | omega | (simp only [List.length_append, List.length_cons, List.length_nil]; omega)) fun q4 H4 n4 s4 r4 => ?_
        have N4 := (SS.free n4)
        have hC := hC.same s4
        have hq := Same.sqT s4 hq
        have hy := hy.same s4
        have r1 := r1.same s4
        have r2 := r2.same s4
        have r3 := r3.same s4
        have SS := SS.trans s4
        walk_at "kd"
        exact kQ q4 H4 N4 SS (RwAt.eq (rd_give (rX sl ow n) sl ow sc _) r4)
      · have z1 := (show XE n _ _ from ⟨_, _, _, _, pe, rfl⟩).rl (sl := sl) (ow := ow) (sc := sc)
        walk_at "kd"
        refine ⟨y, _, _, D, tS, sc, sl, ow, rfl, hy, (.inl ⟨_, _, _, _, pe, rfl⟩), hC, ⟨by omega, by omega, b3⟩, fun q1 H1 n1 s1 r1 => ?_⟩
        have hC := hC.same s1
        have hq := Same.sqT s1 hq
        have hy := hy.same s1
        have SS := s1
        walk_at "kd"
        refine n_tup (K := K) (.cons .s .nil) (by show 1 ≤ 1000000; decide) fun q2 H2 n2 s2 r2 => ?_
        have hC := hC.same s2
        have hq := Same.sqT s2 hq
        have hy := hy.same s2
        have r1 := r1.same s2
        have SS := SS.trans s2
        walk_at "kd"
        refine n_lst (K := K) (.cons r2 .nil) (by show 1 ≤ 1000000; decide) fun q3 H3 n3 s3 r3 => ?_
        have hC := hC.same s3
        have hq := Same.sqT s3 hq
        have hy := hy.same s3
        have r1 := r1.same s3
        have r2 := r2.same s3
        have SS := SS.trans s3
        walk_at "kd"
        refine rw_cat r1 r3 (by first | omega | (simp only [List.length_append, List.length_cons, List.length_nil]; omega)) fun q4 H4 n4 s4 r4 => ?_
        have N4 := (SS.free n4)
        have hC := hC.same s4
        have hq := Same.sqT s4 hq
        have hy := hy.same s4
        have r1 := r1.same s4
        have r2 := r2.same s4
        have r3 := r3.same s4
        have SS := SS.trans s4
        walk_at "kd"
        exact kQ q4 H4 N4 SS (RwAt.eq (rd_fail (rX sl ow n) sl ow sc _) r4)
    | whl pe pb => exact absurd rfl (show cds "while" ≠ cds "while" from hh.2)
    | try_ pb na pc => exact absurd rfl (show cds "try" ≠ cds "try" from hh.1)
    | keep pb pc =>
      obtain ⟨p, y, u, rfl, hq, hy, hu⟩ := hv.e3
      obtain ⟨m2, hs2, hm2⟩ := pb.xl
      obtain ⟨m3, hs3, hm3⟩ := pc.xl
      simp only [List.length_append, List.length_cons, List.length_nil] at b1
      have hs2 := hs2.map (q := XP n) fun _ _ h => Or.inr h
      have z2 := hs2.rlP (sl := sl) (ow := ow) (sc := sc)
      have hs3 := hs3.map (q := XP n) fun _ _ h => Or.inr h
      have z3 := hs3.rlP (sl := sl) (ow := ow) (sc := sc)
      walk_at "kd"
      obtain ⟨pz1, xz1, ez1, hz1, hy1, _⟩ := hy.tupV
      refine ⟨y, _, m2, D, tS, sc, sl, ow, rfl, ⟨pz1, xz1, ez1, hz1, hy1⟩, hs2, hC, ⟨by omega, by omega, b3⟩, fun q1 H1 n1 s1 r1 => ?_⟩
      have hC := hC.same s1
      have hq := Same.sqT s1 hq
      have hy := hy.same s1
      have hu := hu.same s1
      have SS := s1
      walk_at "kd"
      obtain ⟨pz2, xz2, ez2, hz2, hy2, _⟩ := hu.tupV
      refine ⟨u, _, m3, D, tS, sc, sl, ow, rfl, ⟨pz2, xz2, ez2, hz2, hy2⟩, hs3, hC, ⟨by omega, by omega, b3⟩, fun q2 H2 n2 s2 r2 => ?_⟩
      have hC := hC.same s2
      have hq := Same.sqT s2 hq
      have hy := hy.same s2
      have hu := hu.same s2
      have r1 := r1.same s2
      have SS := SS.trans s2
      walk_at "kd"
      refine n_tup (K := K) (.cons .s .nil) (by show 1 ≤ 1000000; decide) fun q3 H3 n3 s3 r3 => ?_
      have hC := hC.same s3
      have hq := Same.sqT s3 hq
      have hy := hy.same s3
      have hu := hu.same s3
      have r1 := r1.same s3
      have r2 := r2.same s3
      have SS := SS.trans s3
      walk_at "kd"
      refine n_lst (K := K) (.cons r3 .nil) (by show 1 ≤ 1000000; decide) fun q4 H4 n4 s4 r4 => ?_
      have hC := hC.same s4
      have hq := Same.sqT s4 hq
      have hy := hy.same s4
      have hu := hu.same s4
      have r1 := r1.same s4
      have r2 := r2.same s4
      have r3 := r3.same s4
      have SS := SS.trans s4
      walk_at "kd"
      refine rw_cat r4 r1 (by first | omega | (simp only [List.length_append, List.length_cons, List.length_nil]; omega)) fun q5 H5 n5 s5 r5 => ?_
      have N5 := (SS.free n5)
      have hC := hC.same s5
      have hq := Same.sqT s5 hq
      have hy := hy.same s5
      have hu := hu.same s5
      have r1 := r1.same s5
      have r2 := r2.same s5
      have r3 := r3.same s5
      have r4 := r4.same s5
      have SS := SS.trans s5
      walk_at "kd"
      refine n_tup (K := K) (.cons .s .nil) (by show 1 ≤ 1000000; decide) fun q6 H6 n6 s6 r6 => ?_
      have hC := hC.same s6
      have hq := Same.sqT s6 hq
      have hy := hy.same s6
      have hu := hu.same s6
      have r1 := r1.same s6
      have r2 := r2.same s6
      have r3 := r3.same s6
      have r4 := r4.same s6
      have r5 := r5.same s6
      have SS := SS.trans s6
      walk_at "kd"
      refine n_lst (K := K) (.cons r6 .nil) (by show 1 ≤ 1000000; decide) fun q7 H7 n7 s7 r7 => ?_
      have hC := hC.same s7
      have hq := Same.sqT s7 hq
      have hy := hy.same s7
      have hu := hu.same s7
      have r1 := r1.same s7
      have r2 := r2.same s7
      have r3 := r3.same s7
      have r4 := r4.same s7
      have r5 := r5.same s7
      have r6 := r6.same s7
      have SS := SS.trans s7
      walk_at "kd"
      refine rw_cat r5 r7 (by first | omega | (simp only [List.length_append, List.length_cons, List.length_nil]; omega)) fun q8 H8 n8 s8 r8 => ?_
      have N8 := (SS.free n8)
      have hC := hC.same s8
      have hq := Same.sqT s8 hq
      have hy := hy.same s8
      have hu := hu.same s8
      have r1 := r1.same s8
      have r2 := r2.same s8
      have r3 := r3.same s8
      have r4 := r4.same s8
      have r5 := r5.same s8
      have r6 := r6.same s8
      have r7 := r7.same s8
      have SS := SS.trans s8
      walk_at "kd"
      refine rw_cat r8 r2 (by first | omega | (simp only [List.length_append, List.length_cons, List.length_nil]; omega)) fun q9 H9 n9 s9 r9 => ?_
      have N9 := (SS.free n9)
      have hC := hC.same s9
      have hq := Same.sqT s9 hq
      have hy := hy.same s9
      have hu := hu.same s9
      have r1 := r1.same s9
      have r2 := r2.same s9
      have r3 := r3.same s9
      have r4 := r4.same s9
      have r5 := r5.same s9
      have r6 := r6.same s9
      have r7 := r7.same s9
      have r8 := r8.same s9
      have SS := SS.trans s9
      walk_at "kd"
      refine n_tup (K := K) (.cons .s .nil) (by show 1 ≤ 1000000; decide) fun q10 H10 n10 s10 r10 => ?_
      have hC := hC.same s10
      have hq := Same.sqT s10 hq
      have hy := hy.same s10
      have hu := hu.same s10
      have r1 := r1.same s10
      have r2 := r2.same s10
      have r3 := r3.same s10
      have r4 := r4.same s10
      have r5 := r5.same s10
      have r6 := r6.same s10
      have r7 := r7.same s10
      have r8 := r8.same s10
      have r9 := r9.same s10
      have SS := SS.trans s10
      walk_at "kd"
      refine n_lst (K := K) (.cons r10 .nil) (by show 1 ≤ 1000000; decide) fun q11 H11 n11 s11 r11 => ?_
      have hC := hC.same s11
      have hq := Same.sqT s11 hq
      have hy := hy.same s11
      have hu := hu.same s11
      have r1 := r1.same s11
      have r2 := r2.same s11
      have r3 := r3.same s11
      have r4 := r4.same s11
      have r5 := r5.same s11
      have r6 := r6.same s11
      have r7 := r7.same s11
      have r8 := r8.same s11
      have r9 := r9.same s11
      have r10 := r10.same s11
      have SS := SS.trans s11
      walk_at "kd"
      refine rw_cat r9 r11 (by first | omega | (simp only [List.length_append, List.length_cons, List.length_nil]; omega)) fun q12 H12 n12 s12 r12 => ?_
      have N12 := (SS.free n12)
      have hC := hC.same s12
      have hq := Same.sqT s12 hq
      have hy := hy.same s12
      have hu := hu.same s12
      have r1 := r1.same s12
      have r2 := r2.same s12
      have r3 := r3.same s12
      have r4 := r4.same s12
      have r5 := r5.same s12
      have r6 := r6.same s12
      have r7 := r7.same s12
      have r8 := r8.same s12
      have r9 := r9.same s12
      have r10 := r10.same s12
      have r11 := r11.same s12
      have SS := SS.trans s12
      walk_at "kd"
      exact kQ q12 H12 N12 SS (RwAt.eq (rd_keep (rX sl ow n) sl ow sc _ _) r12)
    | if0 pe pb =>
      obtain ⟨p, y, z, u, rfl, hq, hy, hz, hu⟩ := hv.e4
      obtain ⟨m2, hs2, hm2⟩ := pb.xl
      simp only [List.length_append, List.length_cons, List.length_nil] at b1
      have hs2 := hs2.map (q := XP n) fun _ _ h => Or.inr h
      have z2 := hs2.rlP (sl := sl) (ow := ow) (sc := sc)
      have z1 := (show XE n _ _ from ⟨_, _, _, _, pe, rfl⟩).rl (sl := sl) (ow := ow) (sc := sc)
      have hs3 : XL (XP n) [] 0 := .nil
      walk_at "kd"
      obtain ⟨pz1, xz1, ez1, hz1, hy1, _⟩ := hz.tupV
      refine ⟨z, _, m2, D, tS, sc, sl, ow, rfl, ⟨pz1, xz1, ez1, hz1, hy1⟩, hs2, hC, ⟨by omega, by omega, b3⟩, fun q1 H1 n1 s1 r1 => ?_⟩
      have hC := hC.same s1
      have hq := Same.sqT s1 hq
      have hy := hy.same s1
      have hz := hz.same s1
      have hu := hu.same s1
      have SS := s1
      walk_at "kd"
      obtain ⟨pz2, xz2, ez2, hz2, hy2, _⟩ := hu.tupV
      refine ⟨u, _, 0, D, tS, sc, sl, ow, rfl, ⟨pz2, xz2, ez2, hz2, hy2⟩, hs3, hC, ⟨by omega, by omega, b3⟩, fun q2 H2 n2 s2 r2 => ?_⟩
      have hC := hC.same s2
      have hq := Same.sqT s2 hq
      have hy := hy.same s2
      have hz := hz.same s2
      have hu := hu.same s2
      have r1 := r1.same s2
      have SS := SS.trans s2
      walk_at "kd"
      refine ⟨y, _, _, D, tS, sc, sl, ow, rfl, hy, (.inl ⟨_, _, _, _, pe, rfl⟩), hC, ⟨by omega, by omega, b3⟩, fun q3 H3 n3 s3 r3 => ?_⟩
      have hC := hC.same s3
      have hq := Same.sqT s3 hq
      have hy := hy.same s3
      have hz := hz.same s3
      have hu := hu.same s3
      have r1 := r1.same s3
      have r2 := r2.same s3
      have SS := SS.trans s3
      walk_at "kd"
      refine n_tup (K := K) (.cons .s .nil) (by show 1 ≤ 1000000; decide) fun q4 H4 n4 s4 r4 => ?_
      have hC := hC.same s4
      have hq := Same.sqT s4 hq
      have hy := hy.same s4
      have hz := hz.same s4
      have hu := hu.same s4
      have r1 := r1.same s4
      have r2 := r2.same s4
      have r3 := r3.same s4
      have SS := SS.trans s4
      walk_at "kd"
      refine n_lst (K := K) (.cons r4 .nil) (by show 1 ≤ 1000000; decide) fun q5 H5 n5 s5 r5 => ?_
      have hC := hC.same s5
      have hq := Same.sqT s5 hq
      have hy := hy.same s5
      have hz := hz.same s5
      have hu := hu.same s5
      have r1 := r1.same s5
      have r2 := r2.same s5
      have r3 := r3.same s5
      have r4 := r4.same s5
      have SS := SS.trans s5
      walk_at "kd"
      refine rw_cat r3 r5 (by first | omega | (simp only [List.length_append, List.length_cons, List.length_nil]; omega)) fun q6 H6 n6 s6 r6 => ?_
      have N6 := (SS.free n6)
      have hC := hC.same s6
      have hq := Same.sqT s6 hq
      have hy := hy.same s6
      have hz := hz.same s6
      have hu := hu.same s6
      have r1 := r1.same s6
      have r2 := r2.same s6
      have r3 := r3.same s6
      have r4 := r4.same s6
      have r5 := r5.same s6
      have SS := SS.trans s6
      walk_at "kd"
      obtain ⟨pu, us, eu, hpu, hus, _⟩ := hu.tupV
      subst eu
      refine w_truT hpu (fun hne => absurd (List.length_eq_zero_iff.mp (by rw [hus.length]; rfl)) hne) (fun hem => ?_)
      walk_at "kd"
      refine rw_cat r6 r1 (by first | omega | (simp only [List.length_append, List.length_cons, List.length_nil]; omega)) fun q7 H7 n7 s7 r7 => ?_
      have N7 := (SS.free n7)
      have hC := hC.same s7
      have hq := Same.sqT s7 hq
      have hy := hy.same s7
      have hz := hz.same s7
      have hu := hu.same s7
      have r1 := r1.same s7
      have r2 := r2.same s7
      have r3 := r3.same s7
      have r4 := r4.same s7
      have r5 := r5.same s7
      have r6 := r6.same s7
      have SS := SS.trans s7
      walk_at "kd"
      exact kQ q7 H7 N7 SS (RwAt.eq (rd_if0 (rX sl ow n) sl ow sc _ _) r7)
    | if1 pe pb h3 pc =>
      obtain ⟨p, y, z, u, rfl, hq, hy, hz, hu⟩ := hv.e4
      obtain ⟨m2, hs2, hm2⟩ := pb.xl
      obtain ⟨m3, hs3, hm3⟩ := pc.xl
      simp only [List.length_append, List.length_cons, List.length_nil] at b1
      have hs2 := hs2.map (q := XP n) fun _ _ h => Or.inr h
      have z2 := hs2.rlP (sl := sl) (ow := ow) (sc := sc)
      have hs3 := hs3.map (q := XP n) fun _ _ h => Or.inr h
      have z3 := hs3.rlP (sl := sl) (ow := ow) (sc := sc)
      have z1 := (show XE n _ _ from ⟨_, _, _, _, pe, rfl⟩).rl (sl := sl) (ow := ow) (sc := sc)
      walk_at "kd"
      obtain ⟨pz1, xz1, ez1, hz1, hy1, _⟩ := hz.tupV
      refine ⟨z, _, m2, D, tS, sc, sl, ow, rfl, ⟨pz1, xz1, ez1, hz1, hy1⟩, hs2, hC, ⟨by omega, by omega, b3⟩, fun q1 H1 n1 s1 r1 => ?_⟩
      have hC := hC.same s1
      have hq := Same.sqT s1 hq
      have hy := hy.same s1
      have hz := hz.same s1
      have hu := hu.same s1
      have SS := s1
      walk_at "kd"
      obtain ⟨pz2, xz2, ez2, hz2, hy2, _⟩ := hu.tupV
      refine ⟨u, _, m3, D, tS, sc, sl, ow, rfl, ⟨pz2, xz2, ez2, hz2, hy2⟩, hs3, hC, ⟨by omega, by omega, b3⟩, fun q2 H2 n2 s2 r2 => ?_⟩
      have hC := hC.same s2
      have hq := Same.sqT s2 hq
      have hy := hy.same s2
      have hz := hz.same s2
      have hu := hu.same s2
      have r1 := r1.same s2
      have SS := SS.trans s2
      walk_at "kd"
      refine ⟨y, _, _, D, tS, sc, sl, ow, rfl, hy, (.inl ⟨_, _, _, _, pe, rfl⟩), hC, ⟨by omega, by omega, b3⟩, fun q3 H3 n3 s3 r3 => ?_⟩
      have hC := hC.same s3
      have hq := Same.sqT s3 hq
      have hy := hy.same s3
      have hz := hz.same s3
      have hu := hu.same s3
      have r1 := r1.same s3
      have r2 := r2.same s3
      have SS := SS.trans s3
      walk_at "kd"
      refine n_tup (K := K) (.cons .s .nil) (by show 1 ≤ 1000000; decide) fun q4 H4 n4 s4 r4 => ?_
      have hC := hC.same s4
      have hq := Same.sqT s4 hq
      have hy := hy.same s4
      have hz := hz.same s4
      have hu := hu.same s4
      have r1 := r1.same s4
      have r2 := r2.same s4
      have r3 := r3.same s4
      have SS := SS.trans s4
      walk_at "kd"
      refine n_lst (K := K) (.cons r4 .nil) (by show 1 ≤ 1000000; decide) fun q5 H5 n5 s5 r5 => ?_
      have hC := hC.same s5
      have hq := Same.sqT s5 hq
      have hy := hy.same s5
      have hz := hz.same s5
      have hu := hu.same s5
      have r1 := r1.same s5
      have r2 := r2.same s5
      have r3 := r3.same s5
      have r4 := r4.same s5
      have SS := SS.trans s5
      walk_at "kd"
      refine rw_cat r3 r5 (by first | omega | (simp only [List.length_append, List.length_cons, List.length_nil]; omega)) fun q6 H6 n6 s6 r6 => ?_
      have N6 := (SS.free n6)
      have hC := hC.same s6
      have hq := Same.sqT s6 hq
      have hy := hy.same s6
      have hz := hz.same s6
      have hu := hu.same s6
      have r1 := r1.same s6
      have r2 := r2.same s6
      have r3 := r3.same s6
      have r4 := r4.same s6
      have r5 := r5.same s6
      have SS := SS.trans s6
      walk_at "kd"
      obtain ⟨pu, us, eu, hpu, hus, _⟩ := hu.tupV
      subst eu
      refine w_truT hpu (fun hne => ?_) (fun hem => absurd (List.length_eq_zero_iff.mp (by rw [← hus.length, hem]; rfl)) h3)
      walk_at "kd"
      refine rw_cat r6 r1 (by first | omega | (simp only [List.length_append, List.length_cons, List.length_nil]; omega)) fun q7 H7 n7 s7 r7 => ?_
      have N7 := (SS.free n7)
      have hC := hC.same s7
      have hq := Same.sqT s7 hq
      have hy := hy.same s7
      have hz := hz.same s7
      have hu := hu.same s7
      have r1 := r1.same s7
      have r2 := r2.same s7
      have r3 := r3.same s7
      have r4 := r4.same s7
      have r5 := r5.same s7
      have r6 := r6.same s7
      have SS := SS.trans s7
      walk_at "kd"
      refine n_tup (K := K) (.cons .s .nil) (by show 1 ≤ 1000000; decide) fun q8 H8 n8 s8 r8 => ?_
      have hC := hC.same s8
      have hq := Same.sqT s8 hq
      have hy := hy.same s8
      have hz := hz.same s8
      have hu := hu.same s8
      have r1 := r1.same s8
      have r2 := r2.same s8
      have r3 := r3.same s8
      have r4 := r4.same s8
      have r5 := r5.same s8
      have r6 := r6.same s8
      have r7 := r7.same s8
      have SS := SS.trans s8
      walk_at "kd"
      refine n_lst (K := K) (.cons r8 .nil) (by show 1 ≤ 1000000; decide) fun q9 H9 n9 s9 r9 => ?_
      have hC := hC.same s9
      have hq := Same.sqT s9 hq
      have hy := hy.same s9
      have hz := hz.same s9
      have hu := hu.same s9
      have r1 := r1.same s9
      have r2 := r2.same s9
      have r3 := r3.same s9
      have r4 := r4.same s9
      have r5 := r5.same s9
      have r6 := r6.same s9
      have r7 := r7.same s9
      have r8 := r8.same s9
      have SS := SS.trans s9
      walk_at "kd"
      refine rw_cat r7 r9 (by first | omega | (simp only [List.length_append, List.length_cons, List.length_nil]; omega)) fun q10 H10 n10 s10 r10 => ?_
      have N10 := (SS.free n10)
      have hC := hC.same s10
      have hq := Same.sqT s10 hq
      have hy := hy.same s10
      have hz := hz.same s10
      have hu := hu.same s10
      have r1 := r1.same s10
      have r2 := r2.same s10
      have r3 := r3.same s10
      have r4 := r4.same s10
      have r5 := r5.same s10
      have r6 := r6.same s10
      have r7 := r7.same s10
      have r8 := r8.same s10
      have r9 := r9.same s10
      have SS := SS.trans s10
      walk_at "kd"
      refine rw_cat r10 r2 (by first | omega | (simp only [List.length_append, List.length_cons, List.length_nil]; omega)) fun q11 H11 n11 s11 r11 => ?_
      have N11 := (SS.free n11)
      have hC := hC.same s11
      have hq := Same.sqT s11 hq
      have hy := hy.same s11
      have hz := hz.same s11
      have hu := hu.same s11
      have r1 := r1.same s11
      have r2 := r2.same s11
      have r3 := r3.same s11
      have r4 := r4.same s11
      have r5 := r5.same s11
      have r6 := r6.same s11
      have r7 := r7.same s11
      have r8 := r8.same s11
      have r9 := r9.same s11
      have r10 := r10.same s11
      have SS := SS.trans s11
      walk_at "kd"
      exact kQ q11 H11 N11 SS (RwAt.eq (rd_if1 (rX sl ow n) sl ow sc _ _ _ h3) r11)
theorem hd_ne {k c : List Nat} {r : List Tr} (h : k ≠ c) : hdT (.t (.s k :: r)) ≠ c := h
abbrev s_law_rows : Stmt := topS 33
abbrev N_law_rows : List Str := ["tree", "scopes", "fields", "cls", "kind", "one", "rows"]
theorem sc_law_rows : FnScope N_law_rows ["tree", "scopes", "fields", "cls"] (defScope s_law_rows) := ⟨rfl, rfl, rfl, by decide +kernel, rfl, by decide +kernel, by decide +kernel⟩
theorem ok_law_rows {f : Addr} {fd : FuncData} (F : Fun K "_law_rows" "_law_rows" s_law_rows f fd) (Y : Bn mg) (hk : 1 ≤ k) (c_law_rows : Cal P w K mg base k "_law_rows" (spRws K XP n) []) (c_law_all : Cal P w K mg base k "_law_all" (spRwL K n) []) (c_law_place : Cal P w K mg base 1 "_law_place" (spLPl K) []) (c_law_truth_rows : Cal P w K mg base 1 "_law_truth_rows" (spTruR K) []) (c_law_block_rows : Cal P w K mg base (k + 1) "_law_block_rows" (spRws K shBlk (n + 1)) []) (c_law_try_rows : Cal P w K mg base (k + 1) "_law_try_rows" (spRws K shTry (n + 1)) []) (c_law_statement_rows : Cal P w K mg base (k + 1) "_law_statement_rows" (spRws K shSt (n + 1)) [])  : FnOk P w K mg base CX0 (k + 2) f fd ["tree", "scopes", "fields", "cls"] (spRws K XP (n + 1)) := by
  refine F.ok sc_law_rows (fun vs H Q E h => ?_) (fun cdv A outer s H vs Q E hr h => ?_)
  · obtain ⟨v, t, m, D, tS, sc, sl, ow, rfl, _⟩ := h
    rfl
  · obtain ⟨v, t, m, D, tS, sc, sl, ow, rfl, hv, hp0, hC, ⟨b1, b2, b3⟩, kQ⟩ := h
    have nd := sc_law_rows.nd
    refine ⟨_, (pss_cons (ps_set (i := 4) nd rfl (Or.inl rfl) (pe_ix ix_tup (pv 0) pe_int (fun _ _ => rfl)))
      (pss_cons (ps_if (pt_cmpR op_eq (pv 4) pe_str (nomark _)) (pss_one (ps_ret (pe_lst (pa_cons (pe_tup (pa_cons pe_str (pa_cons (pe_ix ix_tup (pv 0) pe_int (fun _ _ => rfl)) pa_nil))) pa_nil)))) pss_nil)
      (pss_cons (ps_if (PW.pt (pw_or (pt_cmpR op_eq (pv 4) pe_str (nomark _)) (pw_or1 (pt_cmpR op_eq (pv 4) pe_str (nomark _))))) (pss_one (ps_ret (pe_lst (pa_cons (pv 0) pa_nil)))) pss_nil)
      (pss_cons (ps_if (pt_cmpR op_eq (pv 4) pe_str (nomark _)) (pss_one (ps_ret (pe_lst (pa_cons (pe_c c_law_place hr (by omega) rfl (pa_cons (pe_ix ix_tup (pv 0) pe_int (fun _ _ => rfl)) (pa_cons (pv 1) (pa_cons (pv 2) pa_nil)))) pa_nil)))) pss_nil)
      (pss_cons (ps_if (PW.pt (pw_or (pt_cmpR op_eq (pv 4) pe_str (nomark _)) (pw_or1 (pt_cmpR op_eq (pv 4) pe_str (nomark _))))) (pss_one (ps_ret (pe_op op_cat (pe_c c_law_rows hr (by omega) rfl (pa_cons (pe_ix ix_tup (pv 0) pe_int (fun _ _ => rfl)) (pa_cons (pv 1) (pa_cons (pv 2) (pa_cons (pv 3) pa_nil))))) (pe_lst (pa_cons (pe_tup (pa_cons (pv 4) pa_nil)) pa_nil))))) pss_nil)
      (pss_cons (ps_if (pt_cmpR op_eq (pv 4) pe_str (nomark _)) (pss_one (ps_ret (pe_op op_cat (pe_c c_law_all hr (by omega) rfl (pa_cons (pe_slice sl_tup (pv 0) (po_some pe_int) po_none) (pa_cons (pv 1) (pa_cons (pv 2) (pa_cons (pv 3) pa_nil))))) (pe_lst (pa_cons (pe_tup (pa_cons pe_str (pa_cons (pe_ix ix_tup (pv 0) pe_int (fun _ _ => rfl)) pa_nil))) pa_nil))))) pss_nil)
      (pss_cons (ps_if (PW.pt (pw_or (pt_cmpR op_eq (pv 4) pe_str (nomark _)) (pw_or1 (pt_cmpR op_eq (pv 4) pe_str (nomark _))))) (pss_cons (ps_set (i := 5) nd rfl (Or.inl rfl) (pe_c c_law_rows hr (by omega) rfl (pa_cons (pe_ix ix_tup (pv 0) pe_int (fun _ _ => rfl)) (pa_cons (pv 1) (pa_cons (pv 2) (pa_cons (pv 3) pa_nil))))))
      (pss_one (ps_ret (pe_c c_law_truth_rows hr (by omega) rfl (pa_cons (pv 4) (pa_cons (pv 5) (pa_cons (pe_c c_law_rows hr (by omega) rfl (pa_cons (pe_ix ix_tup (pv 0) pe_int (fun _ _ => rfl)) (pa_cons (pv 1) (pa_cons (pv 2) (pa_cons (pv 3) pa_nil))))) pa_nil))))))) pss_nil)
      (pss_cons (ps_if (pt_cmpR op_eq (pv 4) pe_str (nomark _)) (pss_cons (ps_set (i := 6) nd rfl (Or.inl rfl) (pe_op op_cat (pe_c c_law_rows hr (by omega) rfl (pa_cons (pe_ix ix_tup (pv 0) pe_int (fun _ _ => rfl)) (pa_cons (pv 1) (pa_cons (pv 2) (pa_cons (pv 3) pa_nil))))) (pe_c c_law_all hr (by omega) rfl (pa_cons (pe_ix ix_tup (pv 0) pe_int (fun _ _ => rfl)) (pa_cons (pv 1) (pa_cons (pv 2) (pa_cons (pv 3) pa_nil)))))))
      (pss_one (ps_ret (pe_op op_cat (pv 6) (pe_lst (pa_cons (pe_tup (pa_cons pe_str (pa_cons (pe_ix ix_tup (pv 0) pe_int (fun _ _ => rfl)) (pa_cons (pe_callB call_lenL (by rfl) Y.n_len (by decide +kernel) (pa_cons (pe_ix ix_tup (pv 0) pe_int (fun _ _ => rfl)) pa_nil)) pa_nil)))) pa_nil)))))) pss_nil)
      (pss_cons (ps_if (pt_cmpR op_eq (pv 4) pe_str (nomark _)) (pss_one (ps_ret (pe_op op_cat (pe_c c_law_all hr (by omega) rfl (pa_cons (pe_ix ix_tup (pv 0) pe_int (fun _ _ => rfl)) (pa_cons (pv 1) (pa_cons (pv 2) (pa_cons (pv 3) pa_nil))))) (pe_lst (pa_cons (pe_tup (pa_cons pe_str (pa_cons (pv 3) (pa_cons (pe_ix ix_tup (pv 0) pe_int (fun _ _ => rfl)) (pa_cons (pe_callB call_lenL (by rfl) Y.n_len (by decide +kernel) (pa_cons (pe_ix ix_tup (pv 0) pe_int (fun _ _ => rfl)) pa_nil)) pa_nil))))) pa_nil))))) pss_nil)
      (pss_cons (ps_if (pt_cmpR op_eq (pv 4) pe_str (nomark _)) (pss_one (ps_ret (pe_c c_law_block_rows hr (by omega) rfl (pa_cons (pv 0) (pa_cons (pv 1) (pa_cons (pv 2) (pa_cons (pv 3) pa_nil))))))) pss_nil)
      (pss_cons (ps_if (pt_cmpR op_eq (pv 4) pe_str (nomark _)) (pss_cons (ps_set (i := 6) nd rfl (Or.inl rfl) (pe_op op_cat (pe_c c_law_rows hr (by omega) rfl (pa_cons (pe_ix ix_tup (pv 0) pe_int (fun _ _ => rfl)) (pa_cons (pv 1) (pa_cons (pv 2) (pa_cons (pv 3) pa_nil))))) (pe_lst (pa_cons (pe_tup (pa_cons pe_str pa_nil)) pa_nil))))
      (pss_one (ps_ret (pe_op op_cat (pe_op op_cat (pv 6) (pe_c c_law_all hr (by omega) rfl (pa_cons (pe_ix ix_tup (pv 0) pe_int (fun _ _ => rfl)) (pa_cons (pv 1) (pa_cons (pv 2) (pa_cons (pv 3) pa_nil)))))) (pe_lst (pa_cons (pe_tup (pa_cons pe_str pa_nil)) pa_nil)))))) pss_nil)
      (pss_cons (ps_if (pt_cmpR op_eq (pv 4) pe_str (nomark _)) (pss_one (ps_ret (pe_c c_law_try_rows hr (by omega) rfl (pa_cons (pv 0) (pa_cons (pv 1) (pa_cons (pv 2) (pa_cons (pv 3) pa_nil))))))) pss_nil)
      (pss_one (ps_ret (pe_c c_law_statement_rows hr (by omega) rfl (pa_cons (pv 0) (pa_cons (pv 1) (pa_cons (pv 2) (pa_cons (pv 3) pa_nil))))))))))))))))))), ?_⟩
    rw [show L2.start N_law_rows [v, .ref D, .ref tS, T ow] = [some v, some (.ref D), some (.ref tS), some (T ow), none, none, none] from rfl]
    rcases hp0 with ⟨lv, w, ns, x, hp, rfl⟩ | ⟨w, ns, x, hp, rfl⟩
    · cases hp with
      | num hn =>
        obtain ⟨p, y, rfl, hq, hy⟩ := hv.e2
        walk_at "kd"
        refine n_tup (K := K) (.cons .s (.cons hy.at .nil)) (by show 2 ≤ 1000000; decide) fun q1 H1 n1 s1 r1 => ?_
        have hC := hC.same s1
        have hq := Same.sqT s1 hq
        have hy := hy.same s1
        have SS := s1
        walk_at "kd"
        refine n_lst (K := K) (.cons r1 .nil) (by show 1 ≤ 1000000; decide) fun q2 H2 n2 s2 r2 => ?_
        have N2 := SS.free n2
        have hC := hC.same s2
        have hq := Same.sqT s2 hq
        have hy := hy.same s2
        have r1 := r1.same s2
        have SS := SS.trans s2
        walk_at "kd"
        exact kQ q2 H2 N2 SS (RwAt.eq (rd_plain (rX sl ow n) sl ow sc _) r2)
      | text hn =>
        obtain ⟨p, y, rfl, hq, hy⟩ := hv.e2
        walk_at "kd"
        refine n_tup (K := K) (.cons .s (.cons hy.at .nil)) (by show 2 ≤ 1000000; decide) fun q1 H1 n1 s1 r1 => ?_
        have hC := hC.same s1
        have hq := Same.sqT s1 hq
        have hy := hy.same s1
        have SS := s1
        walk_at "kd"
        refine n_lst (K := K) (.cons r1 .nil) (by show 1 ≤ 1000000; decide) fun q2 H2 n2 s2 r2 => ?_
        have N2 := SS.free n2
        have hC := hC.same s2
        have hq := Same.sqT s2 hq
        have hy := hy.same s2
        have r1 := r1.same s2
        have SS := SS.trans s2
        walk_at "kd"
        exact kQ q2 H2 N2 SS (RwAt.eq (rd_plain (rX sl ow n) sl ow sc _) r2)
      | word hn =>
        obtain ⟨p, y, rfl, hq, hy⟩ := hv.e2
        walk_at "kd"
        refine n_tup (K := K) (.cons .s (.cons hy.at .nil)) (by show 2 ≤ 1000000; decide) fun q1 H1 n1 s1 r1 => ?_
        have hC := hC.same s1
        have hq := Same.sqT s1 hq
        have hy := hy.same s1
        have SS := s1
        walk_at "kd"
        refine n_lst (K := K) (.cons r1 .nil) (by show 1 ≤ 1000000; decide) fun q2 H2 n2 s2 r2 => ?_
        have N2 := SS.free n2
        have hC := hC.same s2
        have hq := Same.sqT s2 hq
        have hy := hy.same s2
        have r1 := r1.same s2
        have SS := SS.trans s2
        walk_at "kd"
        exact kQ q2 H2 N2 SS (RwAt.eq (rd_plain (rX sl ow n) sl ow sc _) r2)
      | self =>
        obtain ⟨p, rfl, hq⟩ := hv.e1
        walk_at "kd"
        refine n_lst (K := K) (.cons hv.at .nil) (by show 1 ≤ 1000000; decide) fun q1 H1 n1 s1 r1 => ?_
        have N1 := n1
        have hC := hC.same s1
        have SS := s1
        walk_at "kd"
        exact kQ q1 H1 N1 SS (RwAt.eq (rd_self (rX sl ow n) sl ow sc) r1)
      | new hn =>
        obtain ⟨p, y, rfl, hq, hy⟩ := hv.e2
        walk_at "kd"
        refine n_lst (K := K) (.cons hv.at .nil) (by show 1 ≤ 1000000; decide) fun q1 H1 n1 s1 r1 => ?_
        have N1 := n1
        have hC := hC.same s1
        have SS := s1
        walk_at "kd"
        exact kQ q1 H1 N1 SS (RwAt.eq (rd_new (rX sl ow n) sl ow sc _) r1)
      | name hn =>
        obtain ⟨p, y, rfl, hq, hy⟩ := hv.e2
        cases hy.sE
        walk_at "kd"
        refine ⟨_, D, tS, sc, sl, rfl, hC, by omega, b3, fun q1 H1 s1 r1 => ?_⟩
        have hC := hC.same s1
        have hq := Same.sqT s1 hq
        have SS := s1
        walk_at "kd"
        refine n_lst (K := K) (.cons r1 .nil) (by show 1 ≤ 1000000; decide) fun q2 H2 n2 s2 r2 => ?_
        have N2 := SS.free n2
        have hC := hC.same s2
        have hq := Same.sqT s2 hq
        have r1 := r1.same s2
        have SS := SS.trans s2
        walk_at "kd"
        exact kQ q2 H2 N2 SS (RwAt.eq (rd_name (rX sl ow n) sl ow sc _) r2)
      | neg pe =>
        obtain ⟨p, y, rfl, hq, hy⟩ := hv.e2
        obtain ⟨m1, hs1, hm1⟩ := pe.xe
        simp only [List.length_append, List.length_cons, List.length_nil] at b1
        have z1 := hs1.rl (sl := sl) (ow := ow) (sc := sc)
        walk_at "kd"
        refine ⟨y, _, m1, D, tS, sc, sl, ow, rfl, hy, (.inl hs1), hC, ⟨by omega, by omega, b3⟩, fun q1 H1 n1 s1 r1 => ?_⟩
        have hC := hC.same s1
        have hq := Same.sqT s1 hq
        have hy := hy.same s1
        have SS := s1
        walk_at "kd"
        refine n_tup (K := K) (.cons .s .nil) (by show 1 ≤ 1000000; decide) fun q2 H2 n2 s2 r2 => ?_
        have hC := hC.same s2
        have hq := Same.sqT s2 hq
        have hy := hy.same s2
        have r1 := r1.same s2
        have SS := SS.trans s2
        walk_at "kd"
        refine n_lst (K := K) (.cons r2 .nil) (by show 1 ≤ 1000000; decide) fun q3 H3 n3 s3 r3 => ?_
        have hC := hC.same s3
        have hq := Same.sqT s3 hq
        have hy := hy.same s3
        have r1 := r1.same s3
        have r2 := r2.same s3
        have SS := SS.trans s3
        walk_at "kd"
        refine rw_cat r1 r3 (by first | omega | (simp only [List.length_append, List.length_cons, List.length_nil]; omega)) fun q4 H4 n4 s4 r4 => ?_
        have N4 := (SS.free n4)
        have hC := hC.same s4
        have hq := Same.sqT s4 hq
        have hy := hy.same s4
        have r1 := r1.same s4
        have r2 := r2.same s4
        have r3 := r3.same s4
        have SS := SS.trans s4
        walk_at "kd"
        exact kQ q4 H4 N4 SS (RwAt.eq (rd_neg (rX sl ow n) sl ow sc _) r4)
      | not pe =>
        obtain ⟨p, y, rfl, hq, hy⟩ := hv.e2
        obtain ⟨m1, hs1, hm1⟩ := pe.xe
        simp only [List.length_append, List.length_cons, List.length_nil] at b1
        have z1 := hs1.rl (sl := sl) (ow := ow) (sc := sc)
        walk_at "kd"
        refine ⟨y, _, m1, D, tS, sc, sl, ow, rfl, hy, (.inl hs1), hC, ⟨by omega, by omega, b3⟩, fun q1 H1 n1 s1 r1 => ?_⟩
        have hC := hC.same s1
        have hq := Same.sqT s1 hq
        have hy := hy.same s1
        have SS := s1
        walk_at "kd"
        refine n_tup (K := K) (.cons .s .nil) (by show 1 ≤ 1000000; decide) fun q2 H2 n2 s2 r2 => ?_
        have hC := hC.same s2
        have hq := Same.sqT s2 hq
        have hy := hy.same s2
        have r1 := r1.same s2
        have SS := SS.trans s2
        walk_at "kd"
        refine n_lst (K := K) (.cons r2 .nil) (by show 1 ≤ 1000000; decide) fun q3 H3 n3 s3 r3 => ?_
        have hC := hC.same s3
        have hq := Same.sqT s3 hq
        have hy := hy.same s3
        have r1 := r1.same s3
        have r2 := r2.same s3
        have SS := SS.trans s3
        walk_at "kd"
        refine rw_cat r1 r3 (by first | omega | (simp only [List.length_append, List.length_cons, List.length_nil]; omega)) fun q4 H4 n4 s4 r4 => ?_
        have N4 := (SS.free n4)
        have hC := hC.same s4
        have hq := Same.sqT s4 hq
        have hy := hy.same s4
        have r1 := r1.same s4
        have r2 := r2.same s4
        have r3 := r3.same s4
        have SS := SS.trans s4
        walk_at "kd"
        exact kQ q4 H4 N4 SS (RwAt.eq (rd_not (rX sl ow n) sl ow sc _) r4)
      | @bin _ _ sg t1 t2 _ _ _ _ _ _ ha hb pe1 pe2 =>
        obtain ⟨m1, hs1, hm1⟩ := pe1.xe
        obtain ⟨m2, hs2, hm2⟩ := pe2.xe
        simp only [List.length_append, List.length_cons, List.length_nil] at b1 b2
        have z1 := hs1.rl (sl := sl) (ow := ow) (sc := sc)
        have z2 := hs2.rl (sl := sl) (ow := ow) (sc := sc)
        by_cases h : sg = cds "and" ∨ sg = cds "or"
        · rw [show binT sg t1 t2 = .t [.s sg, t1, t2] from if_pos h] at hv kQ
          obtain ⟨p, y, z, rfl, hq, hy, hz⟩ := hv.e3
          rcases h with rfl | rfl
          · walk_at "kd"
            refine ⟨y, _, m1, D, tS, sc, sl, ow, rfl, hy, (.inl hs1), hC, ⟨by omega, by omega, b3⟩, fun q1 H1 n1 s1 r1 => ?_⟩
            have hC := hC.same s1
            have hq := Same.sqT s1 hq
            have hy := hy.same s1
            have hz := hz.same s1
            have SS := s1
            walk_at "kd"
            refine ⟨z, _, m2, D, tS, sc, sl, ow, rfl, hz, (.inl hs2), hC, ⟨by omega, by omega, b3⟩, fun q2 H2 n2 s2 r2 => ?_⟩
            have hC := hC.same s2
            have hq := Same.sqT s2 hq
            have hy := hy.same s2
            have hz := hz.same s2
            have r1 := r1.same s2
            have SS := SS.trans s2
            walk_at "kd"
            refine ⟨_, _, _, _, _, rfl, r1, r2, by omega, fun q3 H3 n3 s3 r3 => ?_⟩
            have N3 := SS.free n3
            have hC := hC.same s3
            have hq := Same.sqT s3 hq
            have hy := hy.same s3
            have hz := hz.same s3
            have r1 := r1.same s3
            have r2 := r2.same s3
            have SS := SS.trans s3
            walk_at "kd"
            exact kQ q3 H3 N3 SS (RwAt.eq ((rd_and (rX sl ow n) sl ow sc _ _).trans (by unfold truO; rw [if_pos (by decide +kernel)])) r3)
          · walk_at "kd"
            refine ⟨y, _, m1, D, tS, sc, sl, ow, rfl, hy, (.inl hs1), hC, ⟨by omega, by omega, b3⟩, fun q1 H1 n1 s1 r1 => ?_⟩
            have hC := hC.same s1
            have hq := Same.sqT s1 hq
            have hy := hy.same s1
            have hz := hz.same s1
            have SS := s1
            walk_at "kd"
            refine ⟨z, _, m2, D, tS, sc, sl, ow, rfl, hz, (.inl hs2), hC, ⟨by omega, by omega, b3⟩, fun q2 H2 n2 s2 r2 => ?_⟩
            have hC := hC.same s2
            have hq := Same.sqT s2 hq
            have hy := hy.same s2
            have hz := hz.same s2
            have r1 := r1.same s2
            have SS := SS.trans s2
            walk_at "kd"
            refine ⟨_, _, _, _, _, rfl, r1, r2, by omega, fun q3 H3 n3 s3 r3 => ?_⟩
            have N3 := SS.free n3
            have hC := hC.same s3
            have hq := Same.sqT s3 hq
            have hy := hy.same s3
            have hz := hz.same s3
            have r1 := r1.same s3
            have r2 := r2.same s3
            have SS := SS.trans s3
            walk_at "kd"
            exact kQ q3 H3 N3 SS (RwAt.eq ((rd_or (rX sl ow n) sl ow sc _ _).trans (by unfold truO; rw [if_neg (by decide +kernel)])) r3)
        · rw [show binT sg t1 t2 = .t [str "op", .s sg, t1, t2] from if_neg h] at hv kQ
          obtain ⟨p, y, z, u, rfl, hq, hy, hz, hu⟩ := hv.e4
          cases hy.sE
          walk_at "kd"
          refine w_slT hq (n := 2) (by decide) (by show 0 < 4; decide) fun q1 H1 n1 s1 h1 => ?_
          have hC := hC.same s1
          have hq := Same.sqT s1 hq
          have hz := hz.same s1
          have hu := hu.same s1
          have SS := s1
          walk_at "kd"
          refine ⟨.ref q1, [t1, t2], m1 + (m2 + 0), D, tS, sc, sl, ow, rfl, ⟨q1, _, rfl, .inl (.inl h1), .cons hz (.cons hu .nil)⟩, .cons (.inl hs1) (.cons (.inl hs2) .nil), hC, ⟨by omega, by omega, b3⟩, fun q2 H2 n2 s2 r2 => ?_⟩
          have hC := hC.same s2
          have hq := Same.sqT s2 hq
          have hz := hz.same s2
          have hu := hu.same s2
          have SS := SS.trans s2
          walk_at "kd"
          have zz : ([t1, t2].flatMap (rX sl ow n sc)).length = (rX sl ow n sc t1).length + (rX sl ow n sc t2).length := by simp
          refine n_tup (K := K) (.cons .s (.cons .s .nil)) (by show 2 ≤ 1000000; decide) fun q3 H3 n3 s3 r3 => ?_
          have hC := hC.same s3
          have hq := Same.sqT s3 hq
          have hz := hz.same s3
          have hu := hu.same s3
          have r2 := r2.same s3
          have SS := SS.trans s3
          walk_at "kd"
          refine n_lst (K := K) (.cons r3 .nil) (by show 1 ≤ 1000000; decide) fun q4 H4 n4 s4 r4 => ?_
          have hC := hC.same s4
          have hq := Same.sqT s4 hq
          have hz := hz.same s4
          have hu := hu.same s4
          have r2 := r2.same s4
          have r3 := r3.same s4
          have SS := SS.trans s4
          walk_at "kd"
          refine rw_cat r2 r4 (by first | omega | (simp only [List.length_append, List.length_cons, List.length_nil]; omega)) fun q5 H5 n5 s5 r5 => ?_
          have N5 := (SS.free n5)
          have hC := hC.same s5
          have hq := Same.sqT s5 hq
          have hz := hz.same s5
          have hu := hu.same s5
          have r2 := r2.same s5
          have r3 := r3.same s5
          have r4 := r4.same s5
          have SS := SS.trans s5
          walk_at "kd"
          exact kQ q5 H5 N5 SS (RwAt.eq ((rd_op (rX sl ow n) sl ow sc _ _ _).trans (by simp; rfl)) r5)
      | send pe hn pa =>
        obtain ⟨p, y, z, u, rfl, hq, hy, hz, hu⟩ := hv.e4
        cases hz.sE
        obtain ⟨m1, hs1, hm1⟩ := pe.xe
        obtain ⟨m2, hs2, hm2⟩ := pa.xl
        simp only [List.length_append, List.length_cons, List.length_nil] at b1
        have z1 := hs1.rl (sl := sl) (ow := ow) (sc := sc)
        have hs2 := hs2.map (q := XP n) fun _ _ h => Or.inl h
        have z2 := hs2.rlP (sl := sl) (ow := ow) (sc := sc)
        walk_at "kd"
        refine ⟨y, _, m1, D, tS, sc, sl, ow, rfl, hy, (.inl hs1), hC, ⟨by omega, by omega, b3⟩, fun q1 H1 n1 s1 r1 => ?_⟩
        have hC := hC.same s1
        have hq := Same.sqT s1 hq
        have hy := hy.same s1
        have hu := hu.same s1
        have SS := s1
        walk_at "kd"
        obtain ⟨pz2, xz2, ez2, hz2, hy2, _⟩ := hu.tupV
        refine ⟨u, _, m2, D, tS, sc, sl, ow, rfl, ⟨pz2, xz2, ez2, hz2, hy2⟩, hs2, hC, ⟨by omega, by omega, b3⟩, fun q2 H2 n2 s2 r2 => ?_⟩
        have hC := hC.same s2
        have hq := Same.sqT s2 hq
        have hy := hy.same s2
        have hu := hu.same s2
        have r1 := r1.same s2
        have SS := SS.trans s2
        walk_at "kd"
        refine rw_cat r1 r2 (by first | omega | (simp only [List.length_append, List.length_cons, List.length_nil]; omega)) fun q3 H3 n3 s3 r3 => ?_
        have N3 := (SS.free n3)
        have hC := hC.same s3
        have hq := Same.sqT s3 hq
        have hy := hy.same s3
        have hu := hu.same s3
        have r1 := r1.same s3
        have r2 := r2.same s3
        have SS := SS.trans s3
        walk_at "kd"
        obtain ⟨pu, us, eu, hpu, hus, _⟩ := hu.tupV
        subst eu
        refine w_lenT hpu ?_
        rw [hus.length]
        walk_at "kd"
        refine n_tup (K := K) (.cons .s (.cons .s (.cons .i .nil))) (by show 3 ≤ 1000000; decide) fun q4 H4 n4 s4 r4 => ?_
        have hC := hC.same s4
        have hq := Same.sqT s4 hq
        have hy := hy.same s4
        have hu := hu.same s4
        have r1 := r1.same s4
        have r2 := r2.same s4
        have r3 := r3.same s4
        have SS := SS.trans s4
        walk_at "kd"
        refine n_lst (K := K) (.cons r4 .nil) (by show 1 ≤ 1000000; decide) fun q5 H5 n5 s5 r5 => ?_
        have hC := hC.same s5
        have hq := Same.sqT s5 hq
        have hy := hy.same s5
        have hu := hu.same s5
        have r1 := r1.same s5
        have r2 := r2.same s5
        have r3 := r3.same s5
        have r4 := r4.same s5
        have SS := SS.trans s5
        walk_at "kd"
        refine rw_cat r3 r5 (by first | omega | (simp only [List.length_append, List.length_cons, List.length_nil]; omega)) fun q6 H6 n6 s6 r6 => ?_
        have N6 := (SS.free n6)
        have hC := hC.same s6
        have hq := Same.sqT s6 hq
        have hy := hy.same s6
        have hu := hu.same s6
        have r1 := r1.same s6
        have r2 := r2.same s6
        have r3 := r3.same s6
        have r4 := r4.same s6
        have r5 := r5.same s6
        have SS := SS.trans s6
        walk_at "kd"
        exact kQ q6 H6 N6 SS (RwAt.eq (rd_send (rX sl ow n) sl ow sc _ _ _) r6)
      | sup hn pa =>
        obtain ⟨p, y, u, rfl, hq, hy, hu⟩ := hv.e3
        cases hy.sE
        obtain ⟨m2, hs2, hm2⟩ := pa.xl
        simp only [List.length_append, List.length_cons, List.length_nil] at b1
        have hs2 := hs2.map (q := XP n) fun _ _ h => Or.inl h
        have z2 := hs2.rlP (sl := sl) (ow := ow) (sc := sc)
        walk_at "kd"
        obtain ⟨pz1, xz1, ez1, hz1, hy1, _⟩ := hu.tupV
        refine ⟨u, _, m2, D, tS, sc, sl, ow, rfl, ⟨pz1, xz1, ez1, hz1, hy1⟩, hs2, hC, ⟨by omega, by omega, b3⟩, fun q1 H1 n1 s1 r1 => ?_⟩
        have hC := hC.same s1
        have hq := Same.sqT s1 hq
        have hu := hu.same s1
        have SS := s1
        walk_at "kd"
        obtain ⟨pu, us, eu, hpu, hus, _⟩ := hu.tupV
        subst eu
        refine w_lenT hpu ?_
        rw [hus.length]
        walk_at "kd"
        refine n_tup (K := K) (.cons .s (.cons .s (.cons .s (.cons .i .nil)))) (by show 4 ≤ 1000000; decide) fun q2 H2 n2 s2 r2 => ?_
        have hC := hC.same s2
        have hq := Same.sqT s2 hq
        have hu := hu.same s2
        have r1 := r1.same s2
        have SS := SS.trans s2
        walk_at "kd"
        refine n_lst (K := K) (.cons r2 .nil) (by show 1 ≤ 1000000; decide) fun q3 H3 n3 s3 r3 => ?_
        have hC := hC.same s3
        have hq := Same.sqT s3 hq
        have hu := hu.same s3
        have r1 := r1.same s3
        have r2 := r2.same s3
        have SS := SS.trans s3
        walk_at "kd"
        refine rw_cat r1 r3 (by first | omega | (simp only [List.length_append, List.length_cons, List.length_nil]; omega)) fun q4 H4 n4 s4 r4 => ?_
        have N4 := (SS.free n4)
        have hC := hC.same s4
        have hq := Same.sqT s4 hq
        have hu := hu.same s4
        have r1 := r1.same s4
        have r2 := r2.same s4
        have r3 := r3.same s4
        have SS := SS.trans s4
        walk_at "kd"
        exact kQ q4 H4 N4 SS (RwAt.eq (rd_super (rX sl ow n) sl ow sc _ _) r4)
      | blk0 pb =>
        obtain ⟨p, q, u, ws, rfl, hq, ew, hqf, hu⟩ := hv.eBlk
        walk_at "kd"
        exact ⟨_, _, _, D, tS, sc, sl, ow, rfl, hv, ⟨⟨_, _, _, _, .blk0 pb, rfl⟩, rfl⟩, hC, ⟨b1, b2, b3⟩, kQ⟩
      | blk h0 h4 hn pb =>
        obtain ⟨p, q, u, ws, rfl, hq, ew, hqf, hu⟩ := hv.eBlk
        walk_at "kd"
        exact ⟨_, _, _, D, tS, sc, sl, ow, rfl, hv, ⟨⟨_, _, _, _, .blk h0 h4 hn pb, rfl⟩, rfl⟩, hC, ⟨b1, b2, b3⟩, kQ⟩
    · cases hp with
      | eval pe =>
        obtain ⟨p, y, rfl, hq, hy⟩ := hv.e2
        walk_at "kd"
        exact ⟨_, _, _, D, tS, sc, sl, ow, rfl, hv, ⟨⟨_, _, _, .eval pe, rfl⟩, ⟨hd_ne (by decide +kernel), hd_ne (by decide +kernel)⟩⟩, hC, ⟨b1, b2, b3⟩, kQ⟩
      | set na pe =>
        obtain ⟨p, y, z, rfl, hq, hy, hz⟩ := hv.e3
        walk_at "kd"
        exact ⟨_, _, _, D, tS, sc, sl, ow, rfl, hv, ⟨⟨_, _, _, .set na pe, rfl⟩, ⟨hd_ne (by decide +kernel), hd_ne (by decide +kernel)⟩⟩, hC, ⟨b1, b2, b3⟩, kQ⟩
      | if0 pe pb =>
        obtain ⟨p, y, z, u, rfl, hq, hy, hz, hu⟩ := hv.e4
        walk_at "kd"
        exact ⟨_, _, _, D, tS, sc, sl, ow, rfl, hv, ⟨⟨_, _, _, .if0 pe pb, rfl⟩, ⟨hd_ne (by decide +kernel), hd_ne (by decide +kernel)⟩⟩, hC, ⟨b1, b2, b3⟩, kQ⟩
      | if1 pe pb h3 pc =>
        obtain ⟨p, y, z, u, rfl, hq, hy, hz, hu⟩ := hv.e4
        walk_at "kd"
        exact ⟨_, _, _, D, tS, sc, sl, ow, rfl, hv, ⟨⟨_, _, _, .if1 pe pb h3 pc, rfl⟩, ⟨hd_ne (by decide +kernel), hd_ne (by decide +kernel)⟩⟩, hC, ⟨b1, b2, b3⟩, kQ⟩
      | keep pb pc =>
        obtain ⟨p, y, z, rfl, hq, hy, hz⟩ := hv.e3
        walk_at "kd"
        exact ⟨_, _, _, D, tS, sc, sl, ow, rfl, hv, ⟨⟨_, _, _, .keep pb pc, rfl⟩, ⟨hd_ne (by decide +kernel), hd_ne (by decide +kernel)⟩⟩, hC, ⟨b1, b2, b3⟩, kQ⟩
      | try_ pb na pc =>
        obtain ⟨p, y, z, u, rfl, hq, hy, hz, hu⟩ := hv.e4
        walk_at "kd"
        exact ⟨_, _, _, D, tS, sc, sl, ow, rfl, hv, ⟨⟨_, _, _, .try_ pb na pc, rfl⟩, rfl⟩, hC, ⟨b1, b2, b3⟩, kQ⟩
      | gf hg pe =>
        obtain ⟨p, y, rfl, hq, hy⟩ := hv.e2
        rcases hg with rfl | rfl
        · walk_at "kd"
          exact ⟨_, _, _, D, tS, sc, sl, ow, rfl, hv, ⟨⟨_, _, _, .gf (.inl rfl) pe, rfl⟩, ⟨hd_ne (by decide +kernel), hd_ne (by decide +kernel)⟩⟩, hC, ⟨b1, b2, b3⟩, kQ⟩
        · walk_at "kd"
          exact ⟨_, _, _, D, tS, sc, sl, ow, rfl, hv, ⟨⟨_, _, _, .gf (.inr rfl) pe, rfl⟩, ⟨hd_ne (by decide +kernel), hd_ne (by decide +kernel)⟩⟩, hC, ⟨b1, b2, b3⟩, kQ⟩
      | whl pe pb =>
        obtain ⟨p, y, z, rfl, hq, hy, hz⟩ := hv.e3
        obtain ⟨m2, hs2, hm2⟩ := pb.xl
        simp only [List.length_append, List.length_cons, List.length_nil] at b1
        have hs2 := hs2.map (q := XP n) fun _ _ h => Or.inr h
        have z2 := hs2.rlP (sl := sl) (ow := ow) (sc := sc)
        have z1 := (show XE n _ _ from ⟨_, _, _, _, pe, rfl⟩).rl (sl := sl) (ow := ow) (sc := sc)
        walk_at "kd"
        refine ⟨y, _, _, D, tS, sc, sl, ow, rfl, hy, (.inl ⟨_, _, _, _, pe, rfl⟩), hC, ⟨by omega, by omega, b3⟩, fun q1 H1 n1 s1 r1 => ?_⟩
        have hC := hC.same s1
        have hq := Same.sqT s1 hq
        have hy := hy.same s1
        have hz := hz.same s1
        have SS := s1
        walk_at "kd"
        refine n_tup (K := K) (.cons .s .nil) (by show 1 ≤ 1000000; decide) fun q2 H2 n2 s2 r2 => ?_
        have hC := hC.same s2
        have hq := Same.sqT s2 hq
        have hy := hy.same s2
        have hz := hz.same s2
        have r1 := r1.same s2
        have SS := SS.trans s2
        walk_at "kd"
        refine n_lst (K := K) (.cons r2 .nil) (by show 1 ≤ 1000000; decide) fun q3 H3 n3 s3 r3 => ?_
        have hC := hC.same s3
        have hq := Same.sqT s3 hq
        have hy := hy.same s3
        have hz := hz.same s3
        have r1 := r1.same s3
        have r2 := r2.same s3
        have SS := SS.trans s3
        walk_at "kd"
        refine rw_cat r1 r3 (by first | omega | (simp only [List.length_append, List.length_cons, List.length_nil]; omega)) fun q4 H4 n4 s4 r4 => ?_
        have N4 := (SS.free n4)
        have hC := hC.same s4
        have hq := Same.sqT s4 hq
        have hy := hy.same s4
        have hz := hz.same s4
        have r1 := r1.same s4
        have r2 := r2.same s4
        have r3 := r3.same s4
        have SS := SS.trans s4
        walk_at "kd"
        obtain ⟨pz5, xz5, ez5, hz5, hy5, _⟩ := hz.tupV
        refine ⟨z, _, m2, D, tS, sc, sl, ow, rfl, ⟨pz5, xz5, ez5, hz5, hy5⟩, hs2, hC, ⟨by omega, by omega, b3⟩, fun q5 H5 n5 s5 r5 => ?_⟩
        have hC := hC.same s5
        have hq := Same.sqT s5 hq
        have hy := hy.same s5
        have hz := hz.same s5
        have r1 := r1.same s5
        have r2 := r2.same s5
        have r3 := r3.same s5
        have r4 := r4.same s5
        have SS := SS.trans s5
        walk_at "kd"
        refine rw_cat r4 r5 (by first | omega | (simp only [List.length_append, List.length_cons, List.length_nil]; omega)) fun q6 H6 n6 s6 r6 => ?_
        have N6 := (SS.free n6)
        have hC := hC.same s6
        have hq := Same.sqT s6 hq
        have hy := hy.same s6
        have hz := hz.same s6
        have r1 := r1.same s6
        have r2 := r2.same s6
        have r3 := r3.same s6
        have r4 := r4.same s6
        have r5 := r5.same s6
        have SS := SS.trans s6
        walk_at "kd"
        refine n_tup (K := K) (.cons .s .nil) (by show 1 ≤ 1000000; decide) fun q7 H7 n7 s7 r7 => ?_
        have hC := hC.same s7
        have hq := Same.sqT s7 hq
        have hy := hy.same s7
        have hz := hz.same s7
        have r1 := r1.same s7
        have r2 := r2.same s7
        have r3 := r3.same s7
        have r4 := r4.same s7
        have r5 := r5.same s7
        have r6 := r6.same s7
        have SS := SS.trans s7
        walk_at "kd"
        refine n_lst (K := K) (.cons r7 .nil) (by show 1 ≤ 1000000; decide) fun q8 H8 n8 s8 r8 => ?_
        have hC := hC.same s8
        have hq := Same.sqT s8 hq
        have hy := hy.same s8
        have hz := hz.same s8
        have r1 := r1.same s8
        have r2 := r2.same s8
        have r3 := r3.same s8
        have r4 := r4.same s8
        have r5 := r5.same s8
        have r6 := r6.same s8
        have r7 := r7.same s8
        have SS := SS.trans s8
        walk_at "kd"
        refine rw_cat r6 r8 (by first | omega | (simp only [List.length_append, List.length_cons, List.length_nil]; omega)) fun q9 H9 n9 s9 r9 => ?_
        have N9 := (SS.free n9)
        have hC := hC.same s9
        have hq := Same.sqT s9 hq
        have hy := hy.same s9
        have hz := hz.same s9
        have r1 := r1.same s9
        have r2 := r2.same s9
        have r3 := r3.same s9
        have r4 := r4.same s9
        have r5 := r5.same s9
        have r6 := r6.same s9
        have r7 := r7.same s9
        have r8 := r8.same s9
        have SS := SS.trans s9
        walk_at "kd"
        exact kQ q9 H9 N9 SS (RwAt.eq (rd_while (rX sl ow n) sl ow sc _ _) r9)
theorem ok_law_rows0 {f : Addr} {fd : FuncData} (F : Fun K "_law_rows" "_law_rows" s_law_rows f fd) : FnOk P w K mg base CX0 1 f fd ["tree", "scopes", "fields", "cls"] (spRws K XP 0) := by
  refine F.ok sc_law_rows (fun vs H Q E h => ?_) (fun cdv A outer s H vs Q E hr h => ?_)
  · obtain ⟨v, t, m, D, tS, sc, sl, ow, rfl, _⟩ := h
    rfl
  · obtain ⟨v, t, m, D, tS, sc, sl, ow, rfl, hv, hp0, _⟩ := h
    rcases hp0 with ⟨lv, w, ns, x, hp, _⟩ | ⟨w, ns, x, hp, _⟩ <;> cases hp
/-- the rows' defs -/
structure RwC (P : Program) (w : World) (K : PySem.W.Frag) (mg : Str → Option Value) (base : Heap) : Prop where
  Y : Bn mg
  place : Cal P w K mg base 1 "_law_place" (spLPl K) []
  truth : Cal P w K mg base 1 "_law_truth_rows" (spTruR K) []
  d_all : DefC K mg "_law_all" s_law_all ["trees", "scopes", "fields", "cls"]
  d_block : DefC K mg "_law_block_rows" s_law_block_rows ["tree", "scopes", "fields", "cls"]
  d_statement : DefC K mg "_law_statement_rows" s_law_statement_rows ["tree", "scopes", "fields", "cls"]
  d_try : DefC K mg "_law_try_rows" s_law_try_rows ["tree", "scopes", "fields", "cls"]
  d_rows : DefC K mg "_law_rows" s_law_rows ["tree", "scopes", "fields", "cls"]
theorem RwC.all (C : RwC P w K mg base) : ∀ n, Cal P w K mg base (3 * n + 1) "_law_rows" (spRws K XP n) []
  | 0 => C.d_rows.cal fun f fd F => ok_law_rows0 F
  | n + 1 => by
    have e := C.all n
    generalize hk : 3 * n + 1 = k at e
    have al : Cal P w K mg base (k + 1) "_law_all" (spRwL K n) [] := C.d_all.cal fun f fd F => ok_law_all F e
    have e1 := cal_mono e (show k ≤ k + 1 by omega)
    have bl : Cal P w K mg base (k + 1 + 1) "_law_block_rows" (spRws K shBlk (n + 1)) [] := C.d_block.cal fun f fd F => ok_law_block_rows F C.Y (by omega) al
    have tr : Cal P w K mg base (k + 1 + 1) "_law_try_rows" (spRws K shTry (n + 1)) [] := C.d_try.cal fun f fd F => ok_law_try_rows F C.Y (by omega) al C.place
    have st : Cal P w K mg base (k + 1 + 1) "_law_statement_rows" (spRws K shSt (n + 1)) [] := C.d_statement.cal fun f fd F => ok_law_statement_rows F C.Y (by omega) e1 al C.place
    have ex : Cal P w K mg base (k + 1 + 2) "_law_rows" (spRws K XP (n + 1)) [] := C.d_rows.cal fun f fd F => ok_law_rows F C.Y (by omega) e1 al C.place C.truth bl tr st
    have e3 : 3 * (n + 1) + 1 = k + 1 + 2 := by omega
    rw [e3]
    exact ex
theorem RwC.allL (C : RwC P w K mg base) (n : Nat) : Cal P w K mg base (3 * n + 2) "_law_all" (spRwL K n) [] := C.d_all.cal fun f fd F => ok_law_all F (C.all n)
end
end
section
open PySem PySem.Spec PyProof.Rows L2
open C8 (Cal cal0 pe_c pe_gc pss_cut tCut)

/-- two of one shape: True -/
def spSame (K : PySem.W.Frag) (n : Nat) : Sp := fun vs H Q _ => ∃ (x y : V) (t : Tr), vs = [x, y] ∧ TrAt K H x t ∧ TrAt K H y t ∧ TrD n t ∧ ∀ H', Same H H' → Q (.bl true) H'
section
variable {P : Program} {w : World} {K : PySem.W.Frag} {mg : Str → Option Value} {base : Heap}
abbrev s_law_same : Stmt := topS 26
abbrev N_law_same : List Str := ["one", "two", "k"]
theorem sc_law_same : FnScope N_law_same ["one", "two"] (defScope s_law_same) := ⟨rfl, rfl, rfl, by decide +kernel, rfl, by decide +kernel, by decide +kernel⟩
theorem ok_same0 {f : Addr} {fd : FuncData} (F : Fun K "_law_same" "_law_same" s_law_same f fd) : FnOk P w K mg base CX0 1 f fd ["one", "two"] (spSame K 0) :=
  F.ok sc_law_same (fun vs H Q E ⟨x, y, t, e, _⟩ => by rw [e]; rfl) fun cdv A outer s H vs Q E hr ⟨x, y, t, e, _, _, h, _⟩ => False.elim h
theorem ok_same1 {n : Nat} {f : Addr} {fd : FuncData} (F : Fun K "_law_same" "_law_same" s_law_same f fd) (Y : Bn mg) (c_law_same : Cal P w K mg base (n + 1) "_law_same" (spSame K n) []) : FnOk P w K mg base CX0 (n + 2) f fd ["one", "two"] (spSame K (n + 1)) := by
  refine F.ok sc_law_same (fun vs H Q E h => ?_) (fun cdv A outer s H vs Q E hr h => ?_)
  · obtain ⟨x, y, t, rfl, _⟩ := h
    rfl
  · obtain ⟨x, y, t, rfl, hx, hy, hd, kQ⟩ := h
    have nd := sc_law_same.nd
    refine ⟨_, (pss_cons (ps_if (PW.pt (pw_or (pt_val (pe_callB call_isi (by rfl) Y.n_isinstance (by decide +kernel) (pa_cons (pv 0) (pa_cons (pe_bltn (v := .ty "tuple") (by rfl) Y.n_tuple (by decide +kernel) rfl) pa_nil)))) (pw_or1 (pt_val (pe_callB call_isi (by rfl) Y.n_isinstance (by decide +kernel) (pa_cons (pv 1) (pa_cons (pe_bltn (v := .ty "tuple") (by rfl) Y.n_tuple (by decide +kernel) rfl) pa_nil))))))) (pss_cons (ps_if (PW.pt (pw_or (pt_not (pt_val (pe_callB call_isi (by rfl) Y.n_isinstance (by decide +kernel) (pa_cons (pv 0) (pa_cons (pe_bltn (v := .ty "tuple") (by rfl) Y.n_tuple (by decide +kernel) rfl) pa_nil))))) (pw_or (pt_not (pt_val (pe_callB call_isi (by rfl) Y.n_isinstance (by decide +kernel) (pa_cons (pv 1) (pa_cons (pe_bltn (v := .ty "tuple") (by rfl) Y.n_tuple (by decide +kernel) rfl) pa_nil))))) (pw_or1 (pt_cmpR op_ne (pe_callB call_lenL (by rfl) Y.n_len (by decide +kernel) (pa_cons (pv 0) pa_nil)) (pe_callB call_lenL (by rfl) Y.n_len (by decide +kernel) (pa_cons (pv 1) pa_nil)) (nomark _)))))) (pss_one (ps_ret pe_bl)) pss_nil)
      (pss_one (ps_ret (pe_cmpR op_eq (pe_callB call_lenL (by rfl) Y.n_len (by decide +kernel) (pa_cons (pe_lc (own := [("k", 2)]) (g := gName 2) (tt := tNot (tB (tCall (spSame K n) [] L2.E0 (tCons (tOp (rIxT K) (tVar 0) (tVar 2)) (tCons (tOp (rIxT K) (tVar 1) (tVar 2)) tNil))))) rfl nd (pi_range1 rfl Y.n_range (pa_cons (pe_callB call_lenL (by rfl) Y.n_len (by decide +kernel) (pa_cons (pv 0) pa_nil)) pa_nil)) (blkOk_by (own := [("k", 2)]) (N := N_law_same) (sc := defScope s_law_same) (by decide +kernel)) (fun _ _ _ _ _ => pg_name (i := 2) nd rfl (Or.inl rfl)) (fun _ _ _ _ _ => pts_one (pt_not (pt_val (pe_c c_law_same hr (by omega) rfl (pa_cons (pe_ix ix_tup (pv 0) (pv 2) (fun _ _ => rfl)) (pa_cons (pe_ix ix_tup (pv 1) (pv 2) (fun _ _ => rfl)) pa_nil)))))) (fun _ _ _ _ _ => (pv 2))) pa_nil)) pe_int (nomark _))))) pss_nil)
      (pss_cons (ps_if (PW.pt (pw_or (pt_cmpR op_isN (pv 0) pe_non (nomark _)) (pw_or1 (pt_cmpR op_isN (pv 1) pe_non (nomark _))))) (pss_one (ps_ret (pe_and (pe_cmpR op_isN (pv 0) pe_non (nomark _)) (pe_one (pe_cmpR op_isN (pv 1) pe_non (nomark _)))))) pss_nil)
      (pss_cons (ps_if (PW.pt (pw_or (pt_val (pe_callB call_isi (by rfl) Y.n_isinstance (by decide +kernel) (pa_cons (pv 0) (pa_cons (pe_bltn (v := .ty "bool") (by rfl) Y.n_bool (by decide +kernel) rfl) pa_nil)))) (pw_or1 (pt_val (pe_callB call_isi (by rfl) Y.n_isinstance (by decide +kernel) (pa_cons (pv 1) (pa_cons (pe_bltn (v := .ty "bool") (by rfl) Y.n_bool (by decide +kernel) rfl) pa_nil))))))) (pss_one (ps_ret (pe_and (pe_callB call_isi (by rfl) Y.n_isinstance (by decide +kernel) (pa_cons (pv 0) (pa_cons (pe_bltn (v := .ty "bool") (by rfl) Y.n_bool (by decide +kernel) rfl) pa_nil))) (pe_and (pe_callB call_isi (by rfl) Y.n_isinstance (by decide +kernel) (pa_cons (pv 1) (pa_cons (pe_bltn (v := .ty "bool") (by rfl) Y.n_bool (by decide +kernel) rfl) pa_nil))) (pe_one (pe_cmpR op_eq (pv 0) (pv 1) (nomark _))))))) pss_nil)
      (pss_cons (ps_if (pt_val (pe_callB call_isi (by rfl) Y.n_isinstance (by decide +kernel) (pa_cons (pv 0) (pa_cons (pe_bltn (v := .ty "int") (by rfl) Y.n_int (by decide +kernel) rfl) pa_nil)))) (pss_one (ps_ret (pe_and (pe_callB call_isi (by rfl) Y.n_isinstance (by decide +kernel) (pa_cons (pv 1) (pa_cons (pe_bltn (v := .ty "int") (by rfl) Y.n_int (by decide +kernel) rfl) pa_nil))) (pe_one (pe_cmpR op_eq (pv 0) (pv 1) (nomark _)))))) pss_nil)
      (pss_one (ps_ret (pe_and (pe_callB call_isi (by rfl) Y.n_isinstance (by decide +kernel) (pa_cons (pv 0) (pa_cons (pe_bltn (v := .ty "str") (by rfl) Y.n_str (by decide +kernel) rfl) pa_nil))) (pe_and (pe_callB call_isi (by rfl) Y.n_isinstance (by decide +kernel) (pa_cons (pv 1) (pa_cons (pe_bltn (v := .ty "str") (by rfl) Y.n_str (by decide +kernel) rfl) pa_nil))) (pe_one (pe_cmpR op_eq (pv 0) (pv 1) (nomark _))))))))))), ?_⟩
    rw [show L2.start N_law_same [x, y] = [some x, some y, none] from rfl]
    cases hx with
    | @s a =>
      cases hy
      walk_at "rdy"
      exact at_self (kQ _ fun _ _ h => h)
    | @i a =>
      cases hy
      walk_at "rdy"
      exact at_self (kQ _ fun _ _ h => h)
    | @b a =>
      cases hy
      walk_at "rdy"
      exact at_self (kQ _ fun _ _ h => h)
    | n =>
      cases hy
      walk_at "rdy"
      exact at_self (kQ _ fun _ _ h => h)
    | @t p vs l hp hl =>
      obtain ⟨p2, vs2, ey, hp2, hl2⟩ : ∃ p2 vs2, y = .ref p2 ∧ SqT K H p2 vs2 ∧ TrsAt K H vs2 l := by cases hy with | t a b => exact ⟨_, _, rfl, a, b⟩
      subst ey
      obtain ⟨hlen, hall⟩ := hd
      have e1 := hl.length
      have e2 := hl2.length
      walk_at "rdy"
      rw [e1, e2]
      refine ifD_self ?_
      walk_at "rdy"
      refine lc_R (j := (vs.length : Int)) (fun D i acc H' => acc = [] ∧ Same H H') (by omega) (by omega) (fun D H1 hD s1 h1 => ⟨rfl, s1⟩) ?_ ?_
      · rintro D i acc H1 hi _ hD1 ⟨rfl, s1⟩
        obtain ⟨v, t, g1, g2, g3⟩ := hl.get (i := i) (by omega)
        obtain ⟨v2, t2, k1, k2, k3⟩ := hl2.get (i := i) (by omega)
        rw [g2] at k2
        cases k2
        walk_at "rdy"
        refine ⟨rfl, ?_⟩
        walk_at "rdy"
        have i0 : (0 : Int) + (i : Int) = (i : Int) := Int.zero_add _
        rw [i0]
        refine w_ixT (Same.sqT s1 hp) (atI_nat g1) ?_
        walk_at "rdy"
        refine w_ixT (Same.sqT s1 hp2) (atI_nat k1) ?_
        walk_at "rdy"
        refine ⟨v, v2, t, rfl, g3.same s1, k3.same s1, hall t (List.mem_of_getElem? g2), fun H2 s2 => ?_⟩
        walk_at "rdy"
        exact lc_skip (acc := []) (Nat.zero_le _) (s2 _ _ hD1) ⟨rfl, s1.trans s2⟩
      · rintro D acc H1 _ hD1 ⟨rfl, s1⟩
        walk_at "rdy"
        exact at_self (kQ _ s1)
end
end
section
/-! The rows of a code. -/
open PySem PySem.Spec PyProof.Rows L2
open C8 (Cal cal0 pe_c pe_gc pss_cut tCut)

local macro_rules | `(tactic| walk_at "kd") => `(tactic| repeat (first
  | walk_at "r1c"
  | with_reducible refine c_if_Te (by with_unfolding_all decide +kernel) ?_
  | with_reducible refine c_if_Tn (by with_unfolding_all decide +kernel) ?_))
theorem blk_lay : (PyData.str ⟨(cds "block").toArray⟩).canLay0 = true := by decide +kernel
theorem sh_blk (c : Int) : SeqAt.shaped (.tuple [.str ⟨(cds "block").toArray⟩, .int c]) = true := by
  unfold SeqAt.shaped
  rw [Bool.and_eq_true]
  refine ⟨?_, decide_eq_true ?_⟩
  · show ((PyData.str ⟨(cds "block").toArray⟩).canLay0 && (true && true)) = true
    rw [blk_lay]; rfl
  · show PyData.depthAll [.str ⟨(cds "block").toArray⟩, .int c] + 1 ≤ 64
    simp [PyData.depthAll, PyData.depth]
theorem w_neS {K : PySem.W.Frag} {H : Hp} {Q : VK} {p q : Addr} {c : Int} (h1 : SqT K H p [T (cds "block"), .int c]) (h2 : SqT K H q [T (cds "block"), .int c]) (k : Q (.bl false) H) : rNeD K (.ref p) (.ref q) H Q := by
  refine ⟨.tuple [.str ⟨(cds "block").toArray⟩, .int c], .tuple [.str ⟨(cds "block").toArray⟩, .int c], .tup h1 (.cons (.str _) (.cons (.int _) .nil)), .tup h2 (.cons (.str _) (.cons (.int _) .nil)), sh_blk _, sh_blk _, ?_⟩
  rw [SeqAt.eqv_refl _ (SeqAt.canLay_of_shaped (sh_blk _))]
  exact k
section
variable {P : Program} {w : World} {K : PySem.W.Frag} {mg : Str → Option Value} {base : Heap} {k : Nat}
abbrev s_law_flat : Stmt := topS 34
abbrev N_law_flat : List Str := ["code", "rows", "count", "row"]
theorem sc_law_flat : FnScope N_law_flat ["code"] (defScope s_law_flat) := ⟨rfl, rfl, rfl, by decide +kernel, rfl, by decide +kernel, by decide +kernel⟩
def spFlat (K : PySem.W.Frag) (d : Nat) : Sp := fun vs H Q _ => ∃ (v : V) (t : Tr) (R : List Tr), vs = [v] ∧ TrAt K H v t ∧ FlatC d t R ∧ R.length ≤ 900000 ∧ ∀ q H', H q = none → Same H H' → RwAt K H' q R → Q (.ref q) H'
theorem ok_law_flat0 {f : Addr} {fd : FuncData} (F : Fun K "_law_flat" "_law_flat" s_law_flat f fd) : FnOk P w K mg base CX0 1 f fd ["code"] (spFlat K 0) := by
  refine F.ok sc_law_flat (fun vs H Q E h => ?_) (fun cdv A outer s H vs Q E hr h => ?_)
  · obtain ⟨v, t, R, rfl, _⟩ := h
    rfl
  · obtain ⟨v, t, R, rfl, _, h, _⟩ := h
    exact h.elim
theorem TrAt.tE' {K : PySem.W.Frag} {H : Hp} {v : V} {l : List Tr} (h : TrAt K H v (.t l)) : ∃ p vs, v = .ref p ∧ SqT K H p vs ∧ TrsAt K H vs l := by cases h; exact ⟨_, _, rfl, ‹_›, ‹_›⟩
theorem TrsAt.cE' {K : PySem.W.Frag} {H : Hp} {vs : List V} {t : Tr} {l : List Tr} (h : TrsAt K H vs (t :: l)) : ∃ x r, vs = x :: r ∧ TrAt K H x t ∧ TrsAt K H r l := by cases h; exact ⟨_, _, rfl, ‹_›, ‹_›⟩
theorem TrsAt.nE' {K : PySem.W.Frag} {H : Hp} {vs : List V} (h : TrsAt K H vs []) : vs = [] := by cases h; rfl
theorem leads_map : leadsL.map T = [T (cds "jump"), T (cds "unless"), T (cds "try"), T (cds "keep")] := rfl
theorem ok_law_flat {d : Nat} {f : Addr} {fd : FuncData} (F : Fun K "_law_flat" "_law_flat" s_law_flat f fd) (Y : Bn mg) (c_law_flat : Cal P w K mg base k "_law_flat" (spFlat K d) []) : FnOk P w K mg base CX0 (k + 1) f fd ["code"] (spFlat K (d + 1)) := by
  refine F.ok sc_law_flat (fun vs H Q E h => ?_) (fun cdv A outer s H vs Q E hr h => ?_)
  · obtain ⟨v, t, R, rfl, _⟩ := h
    rfl
  · obtain ⟨v, t, R, rfl, hv, ⟨n, I, B, R0, rfl, hF, rfl⟩, hl, kQ⟩ := h
    have nd := sc_law_flat.nd
    rw [List.length_cons, List.length_append, show [tO "behind"].length = 1 from rfl] at hl
    obtain ⟨p, vs, rfl, hp, hvs⟩ := hv.tE'
    obtain ⟨x0, r0, rfl, h0, hr0⟩ := hvs.cE'
    obtain ⟨x1, r1, rfl, h1, hr1⟩ := hr0.cE'
    obtain ⟨x2, r2, rfl, h2, hr2⟩ := hr1.cE'
    obtain ⟨x3, r3, rfl, h3, hr3⟩ := hr2.cE'
    cases hr3.nE'
    cases h0
    cases h1
    obtain ⟨pI, vI, rfl, hpI, hvI⟩ := h2.tE'
    obtain ⟨pB, vB, rfl, hpB, hvB⟩ := h3.tE'
    clear hvs hr0 hr1 hr2 hr3 h2 h3
    refine ⟨_, (pss_cons (ps_set (i := 1) nd rfl (Or.inl rfl) (pe_lst (pa_cons (pe_tup (pa_cons pe_str (pa_cons (pe_ix ix_tup (pv 0) pe_int (fun _ _ => rfl)) pa_nil))) pa_nil)))
      (pss_cons (ps_set (i := 2) nd rfl (Or.inl rfl) pe_int)
      (pss_cons (ps_for PassesOwn.never rfl (pi_tup (pe_ix ix_tup (pv 0) pe_int (fun _ _ => rfl))) (pg_name (i := 3) nd rfl (Or.inl rfl)) (pss_one (ps_if (pt_cmpR op_eq (pe_ix ix_tup (pv 3) pe_int (fun _ _ => rfl)) pe_str (nomark _)) (pss_cons (ps_if (PW.pt (pw_or (pt_cmpR (op_neD hr.units) (pv 3) (pe_tup (pa_cons pe_str (pa_cons (pv 2) pa_nil))) (nomark _)) (pw_or1 (pt_cmpR op_ge (pv 2) (pe_callB call_lenL (by rfl) Y.n_len (by decide +kernel) (pa_cons (pe_ix ix_tup (pv 0) pe_int (fun _ _ => rfl)) pa_nil)) (nomark _))))) (pss_one (ps_ret (pe_lst (pa_cons (pe_tup (pa_cons pe_str pa_nil)) pa_nil)))) pss_nil)
      (pss_cons (ps_set (i := 1) nd rfl (Or.inl rfl) (pe_op op_cat (pv 1) (pe_c c_law_flat hr (by omega) rfl (pa_cons (pe_ix ix_tup (pe_ix ix_tup (pv 0) pe_int (fun _ _ => rfl)) (pv 2) (fun _ _ => rfl)) pa_nil))))
      (pss_one (ps_set (i := 2) nd rfl (Or.inl rfl) (pe_op op_add (pv 2) pe_int))))) (pss_one (ps_if (pt_cmpR op_in_seq (pe_ix ix_tup (pv 3) pe_int (fun _ _ => rfl)) (pe_lst (pa_cons pe_str (pa_cons pe_str (pa_cons pe_str (pa_cons pe_str pa_nil))))) (by rfl)) (pss_one (ps_expr (pe_bm PySem.F.plainAttrs_list PySem.F.slot_list_append PySem.F.type_list_append mt_append (pv 1) (pa_cons (pe_tup (pa_cons (pe_ix ix_tup (pv 3) pe_int (fun _ _ => rfl)) pa_nil)) pa_nil)))) (pss_one (ps_expr (pe_bm PySem.F.plainAttrs_list PySem.F.slot_list_append PySem.F.type_list_append mt_append (pv 1) (pa_cons (pv 3) pa_nil)))))))))
      (pss_cons (ps_if (pt_cmpR op_ne (pv 2) (pe_callB call_lenL (by rfl) Y.n_len (by decide +kernel) (pa_cons (pe_ix ix_tup (pv 0) pe_int (fun _ _ => rfl)) pa_nil)) (nomark _)) (pss_one (ps_ret (pe_lst (pa_cons (pe_tup (pa_cons pe_str pa_nil)) pa_nil)))) pss_nil)
      (pss_one (ps_ret (pe_op op_cat (pv 1) (pe_lst (pa_cons (pe_tup (pa_cons pe_str pa_nil)) pa_nil))))))))), ?_⟩
    rw [show L2.start N_law_flat [.ref p] = [some (.ref p), none, none, none] from rfl]
    walk_at "kd"
    refine n_tup (K := K) (.cons .s (.cons .i .nil)) (by show 2 ≤ 1000000; decide) fun q1 H1 n1 s1 t1 => ?_
    walk_at "kd"
    refine n_lst (K := K) (.cons t1 .nil) (by show 1 ≤ 1000000; decide) fun q2 H2 n2 s2 t2 => ?_
    have s12 := s1.trans s2
    walk_at "kd"
    refine w_ixT (Same.sqT s12 hp) (atI_nat (j := 2) rfl) ?_
    refine for_T (xs := vI) (fun i σ' H' => ∃ (q : Addr) (c : Nat) (x : Option V) (R1 R2 : List Tr), σ' = [some (.ref p), some (.ref q), some (.int (c : Int)), x] ∧ H q = none ∧ Same H H' ∧ R0 = R1 ++ R2 ∧ c ≤ B.length ∧ FlatR (FlatC d) (I.drop i) (B.drop c) c R2 ∧ RwAt K H' q (.t [str "begin", .i (n : Int)] :: R1)) ⟨q2, 0, none, [], R0, rfl, (s1.free n2), s12, rfl, Nat.zero_le _, hF, t2⟩ (fun i σ' H' _ h => by obtain ⟨q, c, x, R1, R2, _, _, s, _⟩ := h; exact Same.sqT s hpI) ?_ ?_
    · rintro i v σ' H3 hv ⟨q, c, x, R1, R2, rfl, nq, s3, eR, hc, hfl, hrw⟩
      have hil : i < I.length := by rw [← hvI.length]; exact (List.getElem?_eq_some_iff.mp hv).1
      obtain ⟨v', t, g1, g2, hvt⟩ := hvI.get hil
      rw [hv] at g1
      cases g1
      have ed : I.drop i = t :: I.drop (i + 1) := by
        obtain ⟨hlt, e⟩ := List.getElem?_eq_some_iff.mp g2
        rw [List.drop_eq_getElem_cons hlt, e]
      rw [ed] at hfl
      have lR := congrArg List.length eR
      rw [List.length_append] at lR
      have hp3 := Same.sqT s3 hp
      have hpB3 := Same.sqT s3 hpB
      have hvt3 := hvt.same s3
      have lB := hvB.length
      clear hvt
      generalize hBd : B.drop c = Bd at hfl
      generalize hId : I.drop (i + 1) = Id at hfl
      cases hfl with
      | row hi hfl =>
        rename_i R2
        subst hBd hId
        obtain ⟨wd, r, rfl, hne⟩ := hi
        obtain ⟨pt, ws, rfl, hpt, hws⟩ := hvt3.tE'
        obtain ⟨y, r', rfl, hy, hr'⟩ := hws.cE'
        cases hy
        rw [List.length_cons] at lR
        walk_at "kd"
        refine w_ixT hpt (atI_nat (j := 0) rfl) ?_
        walk_at "kd"
        refine w_ifT (fun he => absurd he hne) (fun _ => ?_)
        walk_at "kd"
        refine w_ixT hpt (atI_nat (j := 0) rfl) ?_
        walk_at "kd"
        refine w_newL (by show 4 ≤ 1000000; decide) fun q4 H4 n4 s4 h4 => ?_
        walk_at "kd"
        refine w_inL (l := leadsL) (SqL.of (by rw [leads_map]; exact h4)) ?_
        refine ⟨_, rfl, ?_⟩
        obtain ⟨us, hu, tu⟩ := hrw.same s4
        have lu := tu.length
        rw [List.length_cons] at lu
        refine w_if (fun hin => ?_) (fun hin => ?_)
        · walk_at "kd"
          refine ⟨tyL (SqL.of hu), ?_⟩
          walk_at "kd"
          refine w_ixT (Same.sqT s4 hpt) (atI_nat (j := 0) rfl) ?_
          walk_at "kd"
          refine n_tup (K := K) (.cons .s .nil) (by show 1 ≤ 1000000; decide) fun q5 H5 n5 s5 t5 => ?_
          walk_at "kd"
          refine w_app2 (s5 _ _ hu) (by omega) fun H6 h6 k6 => ?_
          walk_at "kd"
          refine ⟨q, c, _, R1 ++ [rowF (.t (.s wd :: r))], R2, rfl, nq, fun b o e => k6 b o (fun z => by rw [z, nq] at e; cases e) (s5 _ _ (s4 _ _ (s3 _ _ e))), by rw [eR]; simp, hc, hfl, ⟨_, h6, ?_⟩⟩
          rw [row_ld hin]
          exact TrsAt.snoc (t5.but (s5 _ _ hu) k6) ((tu.same s5).but (s5 _ _ hu) k6)
        · walk_at "kd"
          refine ⟨tyL (SqL.of hu), ?_⟩
          walk_at "kd"
          refine w_app2 hu (by omega) fun H6 h6 k6 => ?_
          walk_at "kd"
          refine ⟨q, c, _, R1 ++ [rowF (.t (.s wd :: r))], R2, rfl, nq, fun b o e => k6 b o (fun z => by rw [z, nq] at e; cases e) (s4 _ _ (s3 _ _ e)), by rw [eR]; simp, hc, hfl, ⟨_, h6, ?_⟩⟩
          rw [row_id hin]
          exact TrsAt.snoc ((hvt3.same s4).but hu k6) (tu.but hu k6)
      | blk hb hfl =>
        rename_i b rb Bd R2
        subst hId
        have hcl : c < B.length := by
          by_cases h : c < B.length
          · exact h
          · rw [List.drop_eq_nil_of_le (by omega)] at hBd; cases hBd
        have hBc : B[c]? = some b ∧ B.drop (c + 1) = Bd := by
          rw [List.drop_eq_getElem_cons hcl] at hBd
          injection hBd with h1 h2
          exact ⟨by rw [List.getElem?_eq_getElem hcl, h1], h2⟩
        obtain ⟨vb, tb, g1, g2, hvb⟩ := hvB.get hcl
        rw [hBc.1] at g2
        cases g2
        obtain ⟨pt, ws, rfl, hpt, hws⟩ := hvt3.tE'
        obtain ⟨y, r', rfl, hy, hr'⟩ := hws.cE'
        obtain ⟨y2, r'', rfl, hy2, hr''⟩ := hr'.cE'
        cases hr''.nE'
        cases hy
        cases hy2
        rw [List.length_append] at lR
        walk_at "kd"
        refine w_newT (by show 2 ≤ 1000000; decide) fun q4 H4 n4 s4 h4 => ?_
        refine w_neS (Same.sqT s4 hpt) (.inl (.inl h4)) ?_
        refine ⟨_, rfl, ?_⟩
        walk_at "kd"
        refine w_ixT (Same.sqT s4 hp3) (atI_nat (j := 3) rfl) ?_
        walk_at "kd"
        refine w_lenT (Same.sqT s4 hpB3) ?_
        walk_at "kd"
        refine w_if (fun h => absurd h (by omega)) (fun _ => ?_)
        walk_at "kd"
        refine w_ixT (Same.sqT s4 hp3) (atI_nat (j := 3) rfl) ?_
        walk_at "kd"
        refine w_ixT (Same.sqT s4 hpB3) (atI_nat g1) ?_
        walk_at "kd"
        refine ⟨vb, b, rb, rfl, (hvb.same s3).same s4, hb, by omega, fun q5 H5 n5 s5 r5 => ?_⟩
        refine rw_cat ((hrw.same s4).same s5) r5 (by rw [List.length_cons]; omega) fun q6 H6 n6 s6 r6 => ?_
        have sT := ((s3.trans s4).trans s5)
        walk_at "kd"
        refine ⟨q6, c + 1, _, R1 ++ rb, R2, by rw [show ((c : Int) + 1) = ((c + 1 : Nat) : Int) by omega]; rfl, sT.free n6, sT.trans s6, by rw [eR, List.append_assoc], by omega, by rw [hBc.2]; exact hfl, ?_⟩
        exact r6
    · rintro σ' H3 ⟨q, c, x, R1, R2, rfl, nq, s3, eR, hc, hfl, hrw⟩
      rw [hvI.length, List.drop_length] at hfl
      have lB := hvB.length
      generalize hBd : B.drop c = Bd at hfl
      cases hfl
      have hcB : c = B.length := by
        have := List.drop_eq_nil_iff.mp hBd
        omega
      rw [List.append_nil] at eR
      subst eR
      walk_at "kd"
      refine w_ixT (Same.sqT s3 hp) (atI_nat (j := 3) rfl) ?_
      walk_at "kd"
      refine w_lenT (Same.sqT s3 hpB) ?_
      walk_at "kd"
      refine w_ifIn (fun h => absurd (by rw [hcB, lB]) h) (fun _ => ?_)
      walk_at "kd"
      refine n_tup (K := K) (.cons .s .nil) (by show 1 ≤ 1000000; decide) fun q5 H5 n5 s5 t5 => ?_
      walk_at "kd"
      refine n_lst (K := K) (.cons t5 .nil) (by show 1 ≤ 1000000; decide) fun q6 H6 n6 s6 t6 => ?_
      refine rw_cat ((hrw.same s5).same s6) t6 (by rw [List.length_cons]; show _ + 1 + 1 ≤ _; omega) fun q7 H7 n7 s7 r7 => ?_
      have sT := (s3.trans s5).trans s6
      exact kQ q7 H7 (sT.free n7) (sT.trans s7) r7
theorem flat_all (Y : Bn mg) (c : DefC K mg "_law_flat" s_law_flat ["code"]) : ∀ d, Cal P w K mg base (d + 1) "_law_flat" (spFlat K d) []
  | 0 => c.cal fun f fd F => ok_law_flat0 F
  | d + 1 => c.cal fun f fd F => ok_law_flat F Y (flat_all Y c d)
end
end
section
/-! The depth of rows; a method's code and its rows. -/
open PySem PySem.Spec PyProof.Rows L2
theorem trd_up {t : Tr} {n : Nat} (h : TrD n t) : TrD (n + 1) t := trd_mono h (Nat.le_succ _)
theorem plc_d (a : List Nat) (sl : Ws) : ∀ (sc : List Ws) (up : Nat), TrD 2 (plcT a sl up sc)
  | [], up => by
    unfold plcT
    split
    · exact trd_t (by show 2 < 1000000; decide) (trd_cons trd_s (trd_cons trd_s trd_nil))
    · exact trd_t (by show 2 < 1000000; decide) (trd_cons trd_s (trd_cons trd_s trd_nil))
  | s :: ss, up => by
    unfold plcT
    split
    · exact trd_t (by show 3 < 1000000; decide) (trd_cons trd_s (trd_cons True.intro (trd_cons True.intro trd_nil)))
    · exact plc_d a sl ss (up + 1)
abbrev Rd3 (N : Nat) (R : List Tr) : Prop := ∀ r ∈ R, TrD N r
section
variable {N : Nat} {R R2 : List Tr}
theorem rd3_app (a : Rd3 N R) (b : Rd3 N R2) : Rd3 N (R ++ R2) := fun r h => (List.mem_append.mp h).elim (a r) (b r)
theorem rd3_flat {c : Tr → List Tr} {l : List Tr} (h : ∀ t ∈ l, Rd3 N (c t)) : Rd3 N (l.flatMap c) := fun r hr => by
  obtain ⟨t, ht, hr⟩ := List.mem_flatMap.mp hr
  exact h t ht r hr
theorem rd3_o {w : String} (h : 3 ≤ N) : TrD N (tO w) := by
  obtain ⟨k, rfl⟩ : ∃ k, N = k + 2 := ⟨N - 2, by omega⟩
  exact trd_t (by show 1 < 1000000; decide) (trd_cons trd_s trd_nil)
theorem rd3_1 {a : List Nat} (h : 3 ≤ N) : TrD N (.t [.s a]) := by
  obtain ⟨k, rfl⟩ : ∃ k, N = k + 2 := ⟨N - 2, by omega⟩
  exact trd_t (by show 1 < 1000000; decide) (trd_cons trd_s trd_nil)
theorem rd3_2 {a : List Nat} {t : Tr} (h : 3 ≤ N) (ht : TrD (N - 1) t) : TrD N (.t [.s a, t]) := by
  obtain ⟨k, rfl⟩ : ∃ k, N = k + 2 := ⟨N - 2, by omega⟩
  exact trd_t (by show 2 < 1000000; decide) (trd_cons trd_s (trd_cons ht trd_nil))
theorem rd3_3 {a : List Nat} {t u : Tr} (h : 3 ≤ N) (ht : TrD (N - 1) t) (hu : TrD (N - 1) u) : TrD N (.t [.s a, t, u]) := by
  obtain ⟨k, rfl⟩ : ∃ k, N = k + 2 := ⟨N - 2, by omega⟩
  exact trd_t (by show 3 < 1000000; decide) (trd_cons trd_s (trd_cons ht (trd_cons hu trd_nil)))
theorem rd3_4 {a : List Nat} {t u v : Tr} (h : 3 ≤ N) (ht : TrD (N - 1) t) (hu : TrD (N - 1) u) (hv : TrD (N - 1) v) : TrD N (.t [.s a, t, u, v]) := by
  obtain ⟨k, rfl⟩ : ∃ k, N = k + 2 := ⟨N - 2, by omega⟩
  exact trd_t (by show 4 < 1000000; decide) (trd_cons trd_s (trd_cons ht (trd_cons hu (trd_cons hv trd_nil))))
theorem rd3_i {i : Int} (h : 3 ≤ N) : TrD (N - 1) (.i i) := by
  obtain ⟨k, rfl⟩ : ∃ k, N = k + 2 := ⟨N - 2, by omega⟩
  exact True.intro
theorem rd3_s {i : List Nat} (h : 3 ≤ N) : TrD (N - 1) (.s i) := by
  obtain ⟨k, rfl⟩ : ∃ k, N = k + 2 := ⟨N - 2, by omega⟩
  exact True.intro
theorem rd3_n (h : 3 ≤ N) : TrD (N - 1) .n := by
  obtain ⟨k, rfl⟩ : ∃ k, N = k + 2 := ⟨N - 2, by omega⟩
  exact True.intro
theorem rd3_b {b : Bool} (h : 3 ≤ N) : TrD (N - 1) (.b b) := by
  obtain ⟨k, rfl⟩ : ∃ k, N = k + 2 := ⟨N - 2, by omega⟩
  exact True.intro
theorem rd3_p {a : List Nat} {sl : Ws} {sc : List Ws} (h : 3 ≤ N) : TrD (N - 1) (plcT a sl 0 sc) := trd_mono (plc_d a sl sc 0) (by omega)
theorem rd3_P {a : List Nat} {sl : Ws} {sc : List Ws} (h : 3 ≤ N) : TrD N (plcT a sl 0 sc) := trd_mono (plc_d a sl sc 0) (by omega)
theorem rd3_one {t : Tr} (h : TrD N t) : Rd3 N [t] := fun r hr => by rw [List.mem_singleton.mp hr]; exact h
theorem rd3_cons {t : Tr} (h : TrD N t) (k : Rd3 N R) : Rd3 N (t :: R) := fun r hr => (List.mem_cons.mp hr).elim (fun e => e ▸ h) (k r)
theorem rd3_nil : Rd3 N [] := fun _ h => absurd h List.not_mem_nil
theorem rd3_truR (h : 3 ≤ N) : Rd3 N truR := rd3_cons (rd3_o h) (rd3_cons (rd3_2 h (rd3_b h)) (rd3_cons (rd3_o h) (rd3_one (rd3_2 h (rd3_b h)))))
theorem rd3_end {l : List Tr} (h : 3 ≤ N) (a : Rd3 N R) : Rd3 N (rEnd l R) := by
  have go : Rd3 N (R ++ [.t [str "push", .n], tO "end"]) := rd3_app a (rd3_cons (rd3_2 h (rd3_n h)) (rd3_one (rd3_o h)))
  unfold rEnd
  split
  · split
    · exact rd3_app (fun r hr => a r (List.mem_of_mem_take hr)) (rd3_one (rd3_o h))
    · exact go
  · exact go
end
theorem trd_sub {N : Nat} {l : List Tr} {t : Tr} (h : TrD N (.t l)) (ht : t ∈ l) : TrD (N - 1) t := by
  cases N with
  | zero => exact h.elim
  | succ n => exact h.2 t ht
theorem trd_up1 {N : Nat} {t : Tr} (h : TrD (N - 1) t) : TrD N t := trd_mono h (Nat.sub_le _ _)
theorem rd3_ite {N : Nat} {p : Prop} [Decidable p] {A B : List Tr} (h1 : p → Rd3 N A) (h2 : ¬ p → Rd3 N B) : Rd3 N (if p then A else B) := by
  by_cases h : p
  · rw [if_pos h]; exact h1 h
  · rw [if_neg h]; exact h2 h
theorem rKd_d {c : List Ws → Tr → List Tr} {sl : Ws} {sc : List Ws} {ow k : List Nat} {r : List Tr} {N : Nat} (h3 : 3 ≤ N) (hc : ∀ sc t, TrD N t → Rd3 N (c sc t)) (ht : TrD N (.t (.s k :: r))) : Rd3 N (rKd c sl sc ow k r) := by
  have hp : ∀ t ∈ r, TrD (N - 1) t := fun t h => trd_sub ht (List.mem_cons_of_mem _ h)
  have hP : ∀ t ∈ r, TrD N t := fun t h => trd_up1 (hp t h)
  have hl : ∀ l, Tr.t l ∈ r → ∀ sc, Rd3 N (l.flatMap (c sc)) := fun l hl sc => rd3_flat fun t h => hc sc t (trd_up1 (trd_sub (hP _ hl) h))
  unfold rKd
  refine rd3_ite (fun _ => ?_) (fun _ => ?_)
  · split
    · exact rd3_one (rd3_2 h3 (hp _ (by simp)))
    · exact rd3_nil
  refine rd3_ite (fun _ => ?_) (fun _ => ?_)
  · split
    · exact rd3_one (rd3_P h3)
    · exact rd3_nil
  refine rd3_ite (fun _ => ?_) (fun _ => ?_)
  · split
    · exact rd3_app (hc _ _ (hP _ (by simp))) (rd3_one (rd3_1 h3))
    · exact rd3_nil
  refine rd3_ite (fun _ => ?_) (fun _ => ?_)
  · split
    · exact rd3_app (rd3_app (hc _ _ (hP _ (by simp))) (hc _ _ (hP _ (by simp)))) (rd3_one (rd3_2 h3 (hp _ (by simp))))
    · exact rd3_nil
  refine rd3_ite (fun _ => ?_) (fun _ => ?_)
  · split
    · exact rd3_app (rd3_app (hc _ _ (hP _ (by simp))) (rd3_one (rd3_o h3))) (rd3_app (hc _ _ (hP _ (by simp))) (rd3_truR h3))
    · exact rd3_nil
  refine rd3_ite (fun _ => ?_) (fun _ => ?_)
  · split
    · exact rd3_app (rd3_app (hc _ _ (hP _ (by simp))) (rd3_cons (rd3_o h3) (rd3_cons (rd3_2 h3 (rd3_b h3)) (rd3_one (rd3_o h3))))) (rd3_app (hc _ _ (hP _ (by simp))) (rd3_truR h3))
    · exact rd3_nil
  refine rd3_ite (fun _ => ?_) (fun _ => ?_)
  · split
    · exact rd3_app (rd3_app (hc _ _ (hP _ (by simp))) (hl _ (by simp) _)) (rd3_one (rd3_3 h3 (hp _ (by simp)) (rd3_i h3)))
    · exact rd3_nil
  refine rd3_ite (fun _ => ?_) (fun _ => ?_)
  · split
    · exact rd3_app (hl _ (by simp) _) (rd3_one (rd3_4 h3 (rd3_s h3) (hp _ (by simp)) (rd3_i h3)))
    · exact rd3_nil
  refine rd3_ite (fun _ => ?_) (fun _ => ?_)
  · split
    · exact rd3_cons (rd3_2 h3 (rd3_i h3)) (rd3_app (rd3_end h3 (hl _ (by simp) _)) (rd3_one (rd3_o h3)))
    · exact rd3_nil
  refine rd3_ite (fun _ => ?_) (fun _ => ?_)
  · split
    · exact rd3_app (rd3_app (rd3_app (hc _ _ (hP _ (by simp))) (rd3_one (rd3_o h3))) (hl _ (by simp) _)) (rd3_one (rd3_o h3))
    · exact rd3_nil
  refine rd3_ite (fun _ => ?_) (fun _ => ?_)
  · split
    · refine rd3_ite (fun _ => ?_) (fun _ => ?_)
      · exact rd3_app (rd3_app (hc _ _ (hP _ (by simp))) (rd3_one (rd3_o h3))) (hl _ (by simp) _)
      · exact rd3_app (rd3_app (rd3_app (rd3_app (hc _ _ (hP _ (by simp))) (rd3_one (rd3_o h3))) (hl _ (by simp) _)) (rd3_one (rd3_o h3))) (hl _ (by simp) _)
    · exact rd3_nil
  refine rd3_ite (fun _ => ?_) (fun _ => ?_)
  · split
    · exact rd3_app (rd3_app (rd3_app (rd3_one (rd3_o h3)) (hl _ (by simp) _)) (rd3_cons (rd3_o h3) (rd3_cons (rd3_o h3) (rd3_one (rd3_2 h3 (rd3_p h3)))))) (hl _ (by simp) _)
    · exact rd3_nil
  refine rd3_ite (fun _ => ?_) (fun _ => ?_)
  · split
    · exact rd3_app (rd3_app (rd3_app (rd3_app (rd3_one (rd3_o h3)) (hl _ (by simp) _)) (rd3_one (rd3_o h3))) (hl _ (by simp) _)) (rd3_one (rd3_o h3))
    · exact rd3_nil
  refine rd3_ite (fun _ => ?_) (fun _ => ?_)
  · split
    · exact rd3_app (hc _ _ (hP _ (by simp))) (rd3_one (rd3_2 h3 (rd3_p h3)))
    · exact rd3_nil
  refine rd3_ite (fun _ => ?_) (fun _ => ?_)
  · split
    · exact rd3_app (hc _ _ (hP _ (by simp))) (rd3_one (rd3_o h3))
    · exact rd3_nil
  refine rd3_ite (fun _ => ?_) (fun _ => ?_)
  · split
    · exact rd3_app (hc _ _ (hP _ (by simp))) (rd3_one (rd3_1 h3))
    · exact rd3_nil
  exact rd3_one ht
theorem rx_d {sl : Ws} {ow : List Nat} {N : Nat} (h3 : 3 ≤ N) : ∀ (F : Nat) (sc : List Ws) (t : Tr), TrD N t → Rd3 N (rX sl ow F sc t)
  | 0, _, _, _ => rd3_nil
  | F + 1, sc, .t (.s k :: r), h => rKd_d h3 (fun sc t h => rx_d h3 F sc t h) h
  | _ + 1, _, .s _, _ => rd3_nil
  | _ + 1, _, .i _, _ => rd3_nil
  | _ + 1, _, .b _, _ => rd3_nil
  | _ + 1, _, .n, _ => rd3_nil
  | _ + 1, _, .t [], _ => rd3_nil
  | _ + 1, _, .t (.i _ :: _), _ => rd3_nil
  | _ + 1, _, .t (.b _ :: _), _ => rd3_nil
  | _ + 1, _, .t (.n :: _), _ => rd3_nil
  | _ + 1, _, .t (.t _ :: _), _ => rd3_nil
/-- the rows that are due -/
def dueR (sl : Ws) (ow : List Nat) (ps : Ws) (l : List Tr) : List Tr := .t [str "begin", .i (ps.length : Int)] :: ((l.flatMap (rX sl ow 12 [ps]) ++ [.t [str "push", .n], tO "end"]) ++ [tO "behind"])
theorem due_flat {sl : Ws} {ow : List Nat} {ps : Ws} {l : List Tr} {w : Ws} {ns : List Ws} {ys : Ws} (b : Pb 12 l w ns ys) : FlatC 13 (.t [str "code", .i (ps.length : Int), .t (cend (cfold (cX sl ow 12 [ps]) l ([], []))).1, .t (cend (cfold (cX sl ow 12 [ps]) l ([], []))).2]) (dueR sl ow ps l) ∧ (dueR sl ow ps l).length ≤ 10 * w.length + 4 := by
  have h0 := Pb.ro (sc := [ps]) (ro_all sl ow 12).2.1 b (Nat.le_refl _) ([], [])
  obtain ⟨⟨I, B, e1, e2, hf⟩, hl⟩ := Wro.eq (n := 10 * w.length + 2) (R1 := l.flatMap (rX sl ow 12 [ps]) ++ [.t [str "push", .n], tO "end"]) (h0.trans ((Wro.put' (w := cds "push") (r := [.n])).trans (Wro.put' (w := cds "end") (r := [])))) rfl (by omega)
  rw [List.nil_append] at e1 e2
  refine ⟨⟨ps.length, I, B, _, ?_, hf, rfl⟩, ?_⟩
  · rw [← e1, ← e2]; rfl
  · unfold dueR
    rw [List.length_cons, List.length_append]
    show _ + 1 + 1 ≤ _
    omega
theorem due_d {sl : Ws} {ow : List Nat} {ps : Ws} {l : List Tr} (h : TrD 26 (.t l)) : Rd3 26 (dueR sl ow ps l) :=
  rd3_cons (rd3_2 (by decide) True.intro) (rd3_app (rd3_app (rd3_flat fun t ht => rx_d (by decide) 12 _ t (trd_up1 (trd_sub h ht))) (rd3_cons (rd3_2 (by decide) True.intro) (rd3_one (rd3_o (by decide))))) (rd3_one (rd3_o (by decide))))
end
section
open PySem PySem.Spec PyProof.Rows L2
open C8 (Cal cal0 pe_c pe_gc pss_cut tCut)

local macro_rules | `(tactic| walk_at "kd") => `(tactic| repeat (first
  | walk_at "r1c"
  | with_reducible refine w_cN ?_
  | with_reducible refine c_if_Te (by with_unfolding_all decide +kernel) ?_
  | with_reducible refine c_if_Tn (by with_unfolding_all decide +kernel) ?_))
section
variable {P : Program} {w : World} {K : PySem.W.Frag} {mg : Str → Option Value} {base : Heap} {k : Nat}
/-- of every depth -/
theorem same_all (Y : Bn mg) (D : DefC K mg "_law_same" s_law_same ["one", "two"]) : ∀ n, Cal P w K mg base (n + 1) "_law_same" (spSame K n) []
  | 0 => D.cal fun f fd F => ok_same0 F
  | n + 1 => D.cal fun f fd F => ok_same1 F Y (same_all Y D n)
abbrev s_law : Stmt := topS 35
abbrev N_law : List Str := ["script", "state", "fields", "name", "tree", "tokens", "names", "due", "actual"]
theorem sc_law : FnScope N_law ["script"] (defScope s_law) := ⟨rfl, rfl, rfl, by decide +kernel, rfl, by decide +kernel, by decide +kernel⟩
def spLaw (K : PySem.W.Frag) : Sp := fun vs H Q _ => ∃ (a : Addr) (ns : List Int), vs = [.ref a] ∧ SqL K H a (ns.map V.int) ∧ ns.length ≤ 63 ∧ ∀ H', Q (.bl true) H'
theorem ok_law {f : Addr} {fd : FuncData} (F : Fun K "law" "law" s_law f fd) (Y : Bn mg) (c_law_state : Cal P w K mg base 1 "_law_state" (spState K) []) (c_law_draw : Cal P w K mg base 1 "_law_draw" spDraw []) (c_law_names : Cal P w K mg base 4 "_law_names" spGNames []) (c_law_class : Cal P w K mg base 3 "_law_class" (spTx IsClass 0) [])
    (c_law_method : Cal P w K mg base 127 "_law_method" (spMeth K) []) (c_law_all : Cal P w K mg base 38 "_law_all" (spRwL K 12) []) (ccompile_method : CalN P w K mg base 41 "compile_method" 1 ["owner", "slots"] (spComM K)) (c_law_flat : Cal P w K mg base 14 "_law_flat" (spFlat K 13) []) (c_law_same : Cal P w K mg base 31 "_law_same" (spSame K 30) []) :
    FnOk P w K mg base CX0 128 f fd ["script"] (spLaw K) := by
  refine F.ok sc_law (fun vs H Q E h => ?_) (fun cdv A outer s H vs Q E hr h => ?_)
  · obtain ⟨a, ns, rfl, _⟩ := h
    rfl
  · obtain ⟨a, ns, rfl, hA, hlen, kQ⟩ := h
    have nd := sc_law.nd
    refine ⟨_, (pss_cons (ps_set (i := 1) nd rfl (Or.inl rfl) (pe_c c_law_state hr (by decide) rfl (pa_cons (pv 0) (pa_cons pe_int pa_nil))))
      (pss_cons (ps_set (i := 2) nd rfl (Or.inl rfl) (pe_callTy call_tupleOf (by rfl) Y.n_tuple (by decide +kernel) (pa_cons (pe_c c_law_names hr (by omega) rfl (pa_cons (pv 1) (pa_cons (pe_c c_law_draw hr (by omega) rfl (pa_cons (pv 1) (pa_cons pe_int pa_nil))) (pa_cons (pe_lst pa_nil) pa_nil)))) pa_nil)))
      (pss_cons (ps_set (i := 3) nd rfl (Or.inl rfl) (pe_c c_law_class hr (by decide) rfl (pa_cons (pv 1) pa_nil)))
      (pss_cons (ps_asg (pe_c c_law_method hr (by decide) rfl (pa_cons (pv 1) pa_nil)) (pg_tup (by rfl) (pgs_cons (pg_name (i := 4) nd rfl (Or.inl rfl)) (pgs_cons (pg_name (i := 5) nd rfl (Or.inl rfl)) pgs_nil))))
      (pss_cons (ps_set (i := 6) nd rfl (Or.inl rfl) (pe_op op_catF (pe_ix ix_tup (pv 4) pe_int (fun _ _ => rfl)) (pe_ix ix_tup (pv 4) pe_int (fun _ _ => rfl))))
      (pss_cons (ps_set (i := 7) nd rfl (Or.inl rfl) (pe_op op_cat (pe_c c_law_all hr (by omega) rfl (pa_cons (pe_ix ix_tup (pv 4) pe_int (fun _ _ => rfl)) (pa_cons (pe_lst (pa_cons (pv 6) pa_nil)) (pa_cons (pv 2) (pa_cons (pv 3) pa_nil))))) (pe_lst (pa_cons (pe_tup (pa_cons pe_str (pa_cons pe_non pa_nil))) (pa_cons (pe_tup (pa_cons pe_str pa_nil)) pa_nil)))))
      (pss_cons (ps_set (i := 7) nd rfl (Or.inl rfl) (pe_op op_cat (pe_op op_cat (pe_lst (pa_cons (pe_tup (pa_cons pe_str (pa_cons (pe_callB call_lenL (by rfl) Y.n_len (by decide +kernel) (pa_cons (pv 6) pa_nil)) pa_nil))) pa_nil)) (pv 7)) (pe_lst (pa_cons (pe_tup (pa_cons pe_str pa_nil)) pa_nil))))
      (pss_cons (ps_set (i := 8) nd rfl (Or.inl rfl) (pe_cN ccompile_method hr (by omega) rfl (pa_cons (pv 4) pa_nil) (pk_cons (pv 3) (pk_cons (pv 2) pk_nil))))
      (pss_cons (ps_if (PW.pt (pw_or (pt_not (pt_val (pe_callB call_isi (by rfl) Y.n_isinstance (by decide +kernel) (pa_cons (pv 8) (pa_cons (pe_bltn (v := .ty "tuple") (by rfl) Y.n_tuple (by decide +kernel) rfl) pa_nil))))) (pw_or (pt_cmpR op_ne (pe_callB call_lenL (by rfl) Y.n_len (by decide +kernel) (pa_cons (pv 8) pa_nil)) pe_int (nomark _)) (pw_or1 (pt_cmpR op_ne (pe_ix ix_tup (pv 8) pe_int (fun _ _ => rfl)) pe_str (nomark _)))))) (pss_one (ps_ret pe_bl)) pss_nil)
      (pss_one (ps_ret (pe_c c_law_same hr (by omega) rfl (pa_cons (pe_callTy call_tupleOf (by rfl) Y.n_tuple (by decide +kernel) (pa_cons (pe_c c_law_flat hr (by omega) rfl (pa_cons (pv 8) pa_nil)) pa_nil)) (pa_cons (pe_callTy call_tupleOf (by rfl) Y.n_tuple (by decide +kernel) (pa_cons (pv 7) pa_nil)) pa_nil)))))))))))))), ?_⟩
    rw [show L2.start N_law [.ref a] = [some (.ref a), none, none, none, none, none, none, none, none] from rfl]
    walk_at "kd"
    refine ⟨a, ns, rfl, hA, fun S L z0 H1 hSt1 s1 hS0 hL0 => ?_⟩
    walk_at "kd"
    refine use_draw hSt1 (by decide) (by decide) fun c H2 c0 c1 hSt2 f2 => ?_
    walk_at "kd"
    refine tl_new (u := []) rfl (by show 0 ≤ 1000000; decide) fun q0 H3 hq0 s3 h3 => ?_
    walk_at "kd"
    refine ⟨S, L, q0, 500, z0, c, [], rfl, hSt2.mono s3, h3, (hSt2.new hq0), c0, by omega, by omega, fun qf fs r4 H4 hnd _ hnm hfl hqf nqf hr4 hSt4 f4 => ?_⟩
    walk_at "kd"
    refine w_tupOf (SqL.of hqf) fun tS H5 htS s5 h5 => ?_
    walk_at "kd"
    have hSt5 := hSt4.mono s5
    refine use_tx hSt5 (by omega) fun ow r6 H6 how hra hr6 hSt6 f6 => ?_
    walk_at "kd"
    refine ⟨S, L, r6, z0, rfl, hSt6, ⟨by omega, (by have := RunOf.len how; omega)⟩, fun pm v q nm p vv ws l nss r7 H7 hpm hv e na hp hp8 hvv hv8 hnd2 hn hw ht hwb hwm hr7 nq hSt7 f7 => ?_⟩
    obtain ⟨pt, pp, pV, vb, rfl, hpt, hpp, hpv, hvb⟩ := id hv
    walk_at "upc"
    have ntS := hSt4.new htS
    have hT7 : SqT K H7 tS (fs.map T) := by
      obtain ⟨o, e, h⟩ := h5
      exact .inl (.inr ⟨o, f7 _ _ ntS (f6 _ _ ntS h)⟩)
    obtain ⟨w', ys, pb, hwt⟩ := bd_pr (all_pr 12).2 e (fun x hx => ht x (by unfold mWs; simp [hx]))
    obtain ⟨m, hL, hm⟩ := pb.xl
    have hwl := wt_len w'
    have hwl2 := wt_len ws
    have hdep := bd_dep (all_dep 12).2 e (by omega)
    have hLP := hL.map (q := XP 12) fun _ _ h => Or.inr h
    have zl := hLP.rlP (sl := fs) (ow := ow) (sc := [p ++ vv])
    obtain ⟨hfc, hdl⟩ := due_flat (sl := fs) (ow := ow) (ps := p ++ vv) pb
    have hdd := due_d (sl := fs) (ow := ow) (ps := p ++ vv) hdep
    obtain ⟨pu, us, rfl, hpu, hus, _⟩ := hvb.tupV
    have hlp : (p ++ vv).length ≤ 16 := by rw [List.length_append]; omega
    refine ⟨pp, pV, _, _, rfl, rfl, hpp, hpv, by rw [List.length_map, List.length_map]; exact Nat.le_trans (show p.length + vv.length ≤ 16 by omega) (by decide), fun pq H8 s8 hpq => ?_⟩
    rw [← List.map_append] at hpq
    walk_at "kd"
    refine w_ixT (Same.sqT s8 hpt) (atI_nat (j := 4) rfl) ?_
    walk_at "kd"
    refine w_newL (by show 1 ≤ 1000000; decide) fun D H9 nD s9 hD => ?_
    walk_at "kd"
    have s89 := s8.trans s9
    refine ⟨_, l, m, D, tS, [p ++ vv], fs, ow, rfl, ⟨pu, us, rfl, Same.sqT s89 hpu, hus.same s89⟩, hLP, ⟨⟨_, hD, .cons (hpq.same s9) .nil⟩, Same.sqT s89 hT7⟩, ⟨by omega, by show 1 + 12 ≤ 500; decide, fun s hs => by rw [List.mem_singleton.mp hs]; omega⟩, fun qr H10 n10 s10 r10 => ?_⟩
    walk_at "kd"
    refine n_tup (K := K) (.cons .s (.cons .n .nil)) (by show 2 ≤ 1000000; decide) fun q11 H11 n11 s11 r11 => ?_
    walk_at "kd"
    refine n_tup (K := K) (.cons .s .nil) (by show 1 ≤ 1000000; decide) fun q12 H12 n12 s12 r12 => ?_
    walk_at "kd"
    refine n_lst (K := K) (.cons (r11.same s12) (.cons r12 .nil)) (by show 2 ≤ 1000000; decide) fun q13 H13 n13 s13 r13 => ?_
    refine rw_cat (((r10.same s11).same s12).same s13) r13 (by show _ + 2 ≤ _; omega) fun q14 H14 n14 s14 r14 => ?_
    have s814 := ((s89.trans s10).trans ((s11.trans s12).trans s13)).trans s14
    walk_at "kd"
    refine w_lenT (hpq.same ((s9.trans s10).trans (((s11.trans s12).trans s13).trans s14))).sq ?_
    rw [List.length_map]
    walk_at "kd"
    refine n_tup (K := K) (.cons .s (.cons .i .nil)) (by show 2 ≤ 1000000; decide) fun q15 H15 n15 s15 r15 => ?_
    walk_at "kd"
    refine n_lst (K := K) (.cons r15 .nil) (by show 1 ≤ 1000000; decide) fun q16 H16 n16 s16 r16 => ?_
    walk_at "kd"
    refine rw_cat r16 ((r14.same s15).same s16) (by simp only [List.length_append, List.length_cons, List.length_nil]; omega) fun q17 H17 n17 s17 r17 => ?_
    walk_at "kd"
    refine n_tup (K := K) (.cons .s .nil) (by show 1 ≤ 1000000; decide) fun q18 H18 n18 s18 r18 => ?_
    walk_at "kd"
    refine n_lst (K := K) (.cons r18 .nil) (by show 1 ≤ 1000000; decide) fun q19 H19 n19 s19 r19 => ?_
    refine rw_cat ((r17.same s18).same s19) r19 (by simp only [List.length_append, List.length_cons, List.length_nil]; omega) fun q20 H20 n20 s20 r20 => ?_
    have s820 := (s814.trans ((s15.trans s16).trans s17)).trans ((s18.trans s19).trans s20)
    have r20' : RwAt K H20 q20 (dueR fs ow (p ++ vv) l) := r20
    walk_at "kd"
    refine ⟨rfl, rfl, tS, _, nm, p, vv, l, m, fs, ow, rfl, hv.same s820, Same.sqT s820 hT7, hL, by omega, by omega, fun qc H21 hqc s21 => ?_⟩
    walk_at "kd"
    obtain ⟨pc, vc, epc, hpc, hvc⟩ := hqc.tE'
    cases epc
    obtain ⟨x0, ra, rfl, h0, hv1⟩ := hvc.cE'
    obtain ⟨x1, rb, rfl, h1, hv2⟩ := hv1.cE'
    obtain ⟨x2, rc, rfl, h2, hv3⟩ := hv2.cE'
    obtain ⟨x3, rd, rfl, h3x, hv4⟩ := hv3.cE'
    cases hv4.nE'
    cases h0
    walk_at "kd"
    refine w_ifIn (fun h => absurd rfl h) (fun _ => ?_)
    walk_at "kd"
    refine w_ifTn (fun h => absurd rfl h) (fun _ => ?_)
    walk_at "kd"
    refine ⟨_, _, _, rfl, hqc, hfc, by omega, fun qf H22 n22 s22 r22 => ?_⟩
    walk_at "kd"
    obtain ⟨vf, hvf, tvf⟩ := r22
    refine w_tupOf (SqL.of hvf) fun t1 H23 n23 s23 h23 => ?_
    walk_at "kd"
    obtain ⟨vd, hvd, tvd⟩ := r20'.same ((s21.trans s22).trans s23)
    refine w_tupOf (SqL.of hvd) fun t2 H24 n24 s24 h24 => ?_
    walk_at "kd"
    exact ⟨_, _, _, rfl, .t (h23.same s24).sq (tvf.same (s23.trans s24)), .t h24.sq (tvd.same s24), trd_t (n := 29) (by omega) (fun t ht => trd_mono (hdd t ht) (by decide)), fun H' _ => kQ H'⟩
end
end
section
open PySem PySem.Spec PyProof.Rows L2
open C8 (Cal cal0 pe_c pe_gc pss_cut tCut)
/-- an error of the class at S is what «except S» names -/
theorem exm_self {K : PySem.W.Frag} {S : Addr} (h1 : PySem.W.subIn K (.ref S) (.type "BaseException") = some true) (h2 : PySem.W.isClsIn K S = true) (h3 : PySem.W.typeIn K (.ref S) = some (.type "type")) (h4 : PySem.W.subIn K (.ref S) (.ref S) = some true) :
    PySem.W.exmOne K (.ref S) (.ref S) = some true := by
  have e1 : (PySem.W.subIn K (.ref S) (.type "BaseException") == some true) = true := by rw [h1] <;> rfl
  have e2 : ((PySem.W.clsIn K S).isSome && PySem.W.typeIn K (.ref S) == some (.type "type")) = true := by
    have h2' : (PySem.W.clsIn K S).isSome = true := h2
    rw [h2', h3] <;> rfl
  show (if (PySem.W.subIn K (.ref S) (.type "BaseException") == some true) = true then (if ((PySem.W.clsIn K S).isSome && PySem.W.typeIn K (.ref S) == some (.type "type")) = true then PySem.W.subIn K (.ref S) (.ref S) else none) else none) = some true
  rw [if_pos e1, if_pos e2]
  exact h4
/-- texts of a tuple that the top has made -/
def valsT : List (List Nat) → List Value → Bool
  | [], [] => true
  | c :: l, .str x _ :: us => decide (x.cps.toList = c) && valsT l us
  | _, _ => false
theorem valsT_ok : ∀ {l : List (List Nat)} {us : List Value}, valsT l us = true → Vals (l.map T) us
  | [], [], _ => .nil
  | [], _ :: _, h => by cases h
  | _ :: _, [], h => by cases h
  | c :: l, u :: us, h => by
    cases u with
    | str x t =>
      have h' : (decide (x.cps.toList = c) && valsT l us) = true := h
      rw [Bool.and_eq_true, decide_eq_true_iff] at h'
      refine .cons ⟨t, ?_⟩ (valsT_ok h'.2)
      rw [← h'.1]
    | _ => cases h
theorem sqT_top {K : PySem.W.Frag} {a : Addr} {o : Option Addr} {its : Array Value} {n : Nat} {sl : Array (Option Value)} {l : List (List Nat)} (h : K.lookup a = some ⟨.type "tuple", o, .seq its n, sl⟩) (e : valsT l its.toList = true) (hl : l.length ≤ 1000) (H : Hp) : SqT K H a (l.map T) := by
  have v := valsT_ok e
  refine .inr ⟨_, its, n, h, rfl, rfl, ?_, v⟩
  have z : its.size = l.length := by
    have z := v.length
    rw [List.length_map] at z
    rw [z]
    exact Array.length_toList.symm
  rw [z]
  exact Nat.le_trans hl (by decide)
theorem all_mk {P : Program} {w : World} {K : PySem.W.Frag} {h : Heap} {mg : Str → Option Value} {fa f0 f1 f2 f3 f4 f5 f6 f7 f8 f9 f10 f11 f12 f13 f14 f15 f16 f17 f18 f19 f20 f21 f22 f23 f24 f25 f26 f27 f28 f29 f30 f31 : Addr} (X : K.In h) (G : h.Ns mainGlobals mg) (hfa : mg "law" = some (.ref fa))
    {od0 an0 od1 an1 od2 an2 od3 an3 od4 an4 od5 an5 od6 an6 od7 an7 od8 an8 od9 an9 od10 an10 od11 an11 od12 an12 od13 an13 od14 an14 od15 an15 od16 an16 od17 an17 od18 an18 od19 an19 od20 an20 od21 an21 od22 an22 od23 an23 od24 an24 od25 an25 od26 an26 od27 an27 od28 an28 od29 an29 od30 an30 od31 an31 : Option Addr} {sl0 sl1 sl2 sl3 sl4 sl5 sl6 sl7 sl8 sl9 sl10 sl11 sl12 sl13 sl14 sl15 sl16 sl17 sl18 sl19 sl20 sl21 sl22 sl23 sl24 sl25 sl26 sl27 sl28 sl29 sl30 sl31 : Array (Option Value)} {oc0 kV0 dc0 pm0 cd0 ct0 oc1 kV1 dc1 pm1 cd1 ct1 oc2 kV2 dc2 pm2 cd2 ct2 oc3 kV3 dc3 pm3 cd3 ct3 oc4 kV4 dc4 pm4 cd4 ct4 oc5 kV5 dc5 pm5 cd5 ct5 oc6 kV6 dc6 pm6 cd6 ct6 oc7 kV7 dc7 pm7 cd7 ct7 oc8 kV8 dc8 pm8 cd8 ct8 oc9 kV9 dc9 pm9 cd9 ct9 oc10 kV10 dc10 pm10 cd10 ct10 oc11 kV11 dc11 pm11 cd11 ct11 oc12 kV12 dc12 pm12 cd12 ct12 oc13 kV13 dc13 pm13 cd13 ct13 oc14 kV14 dc14 pm14 cd14 ct14 oc15 kV15 dc15 pm15 cd15 ct15 oc16 kV16 dc16 pm16 cd16 ct16 oc17 kV17 dc17 pm17 cd17 ct17 oc18 kV18 dc18 pm18 cd18 ct18 oc19 kV19 dc19 pm19 cd19 ct19 oc20 kV20 dc20 pm20 cd20 ct20 oc21 kV21 dc21 pm21 cd21 ct21 oc22 kV22 dc22 pm22 cd22 ct22 oc23 kV23 dc23 pm23 cd23 ct23 oc24 kV24 dc24 pm24 cd24 ct24 oc25 kV25 dc25 pm25 cd25 ct25 oc26 kV26 dc26 pm26 cd26 ct26 oc27 kV27 dc27 pm27 cd27 ct27 oc28 kV28 dc28 pm28 cd28 ct28 oc29 kV29 dc29 pm29 cd29 ct29 oc30 kV30 dc30 pm30 cd30 ct30 oc31 kV31 dc31 pm31 cd31 ct31 : Value} {CC : Addr} {q_cinit : Addr} {oc_cinit kV_cinit dc_cinit pm_cinit cd_cinit ct_cinit : Value} {od_cinit an_cinit : Option Addr} {sl_cinit : Array (Option Value)} {q_ccode : Addr} {oc_ccode kV_ccode dc_ccode pm_ccode cd_ccode ct_ccode : Value} {od_ccode an_ccode : Option Addr} {sl_ccode : Array (Option Value)} {q_cput : Addr} {oc_cput kV_cput dc_cput pm_cput cd_cput ct_cput : Value} {od_cput an_cput : Option Addr} {sl_cput : Array (Option Value)} {q_cput_leading : Addr} {oc_cput_leading kV_cput_leading dc_cput_leading pm_cput_leading cd_cput_leading ct_cput_leading : Value} {od_cput_leading an_cput_leading : Option Addr} {sl_cput_leading : Array (Option Value)} {q_clead_here : Addr} {oc_clead_here kV_clead_here dc_clead_here pm_clead_here cd_clead_here ct_clead_here : Value} {od_clead_here an_clead_here : Option Addr} {sl_clead_here : Array (Option Value)} {q_cput_into : Addr} {oc_cput_into kV_cput_into dc_cput_into pm_cput_into cd_cput_into ct_cput_into : Value} {od_cput_into an_cput_into : Option Addr} {sl_cput_into : Array (Option Value)} {q_cend_with_none : Addr} {oc_cend_with_none kV_cend_with_none dc_cend_with_none pm_cend_with_none cd_cend_with_none ct_cend_with_none : Value} {od_cend_with_none an_cend_with_none : Option Addr} {sl_cend_with_none : Array (Option Value)} {q_cbody : Addr} {oc_cbody kV_cbody dc_cbody pm_cbody cd_cbody ct_cbody : Value} {od_cbody an_cbody : Option Addr} {sl_cbody : Array (Option Value)} {q_cstatement : Addr} {oc_cstatement kV_cstatement dc_cstatement pm_cstatement cd_cstatement ct_cstatement : Value} {od_cstatement an_cstatement : Option Addr} {sl_cstatement : Array (Option Value)} {q_cloop : Addr} {oc_cloop kV_cloop dc_cloop pm_cloop cd_cloop ct_cloop : Value} {od_cloop an_cloop : Option Addr} {sl_cloop : Array (Option Value)} {q_cchoice : Addr} {oc_cchoice kV_cchoice dc_cchoice pm_cchoice cd_cchoice ct_cchoice : Value} {od_cchoice an_cchoice : Option Addr} {sl_cchoice : Array (Option Value)} {q_cattempt : Addr} {oc_cattempt kV_cattempt dc_cattempt pm_cattempt cd_cattempt ct_cattempt : Value} {od_cattempt an_cattempt : Option Addr} {sl_cattempt : Array (Option Value)} {q_ckept : Addr} {oc_ckept kV_ckept dc_ckept pm_ckept cd_ckept ct_ckept : Value} {od_ckept an_ckept : Option Addr} {sl_ckept : Array (Option Value)} {q_cexpression : Addr} {oc_cexpression kV_cexpression dc_cexpression pm_cexpression cd_cexpression ct_cexpression : Value} {od_cexpression an_cexpression : Option Addr} {sl_cexpression : Array (Option Value)} {q_cexpressions : Addr} {oc_cexpressions kV_cexpressions dc_cexpressions pm_cexpressions cd_cexpressions ct_cexpressions : Value} {od_cexpressions an_cexpressions : Option Addr} {sl_cexpressions : Array (Option Value)} {q_cboth : Addr} {oc_cboth kV_cboth dc_cboth pm_cboth cd_cboth ct_cboth : Value} {od_cboth an_cboth : Option Addr} {sl_cboth : Array (Option Value)} {q_ceither : Addr} {oc_ceither kV_ceither dc_ceither pm_ceither cd_ceither ct_ceither : Value} {od_ceither an_ceither : Option Addr} {sl_ceither : Array (Option Value)} {q_ctruth : Addr} {oc_ctruth kV_ctruth dc_ctruth pm_ctruth cd_ctruth ct_ctruth : Value} {od_ctruth an_ctruth : Option Addr} {sl_ctruth : Array (Option Value)} {q_cblock : Addr} {oc_cblock kV_cblock dc_cblock pm_cblock cd_cblock ct_cblock : Value} {od_cblock an_cblock : Option Addr} {sl_cblock : Array (Option Value)}
    (a0 : PySem.W.nsIn K mainGlobals "place_of" = some (some (.ref f0)))
    (l0 : K.lookup f0 = some ⟨oc0, od0, .func (PySem.W.fnOf "place_of" "place_of" (defArgs s_place_of) (defBody s_place_of) (defScope s_place_of) .none kV0 dc0 pm0 an0 cd0 ct0), sl0⟩)
    (c0 : PySem.W.codeIn K cd0 "place_of" = true)
    (k0 : PySem.W.keepIn K (.ref f0) = true)
    (a1 : PySem.W.nsIn K mainGlobals "compile_method" = some (some (.ref f1)))
    (l1 : K.lookup f1 = some ⟨oc1, od1, .func (PySem.W.fnOf "compile_method" "compile_method" (defArgs s_compile_method) (defBody s_compile_method) (defScope s_compile_method) .none kV1 dc1 pm1 an1 cd1 ct1), sl1⟩)
    (c1 : PySem.W.codeIn K cd1 "compile_method" = true)
    (k1 : PySem.W.keepIn K (.ref f1) = true)
    (a2 : PySem.W.nsIn K mainGlobals "_law_state" = some (some (.ref f2)))
    (l2 : K.lookup f2 = some ⟨oc2, od2, .func (PySem.W.fnOf "_law_state" "_law_state" (defArgs s_law_state) (defBody s_law_state) (defScope s_law_state) .none kV2 dc2 pm2 an2 cd2 ct2), sl2⟩)
    (c2 : PySem.W.codeIn K cd2 "_law_state" = true)
    (k2 : PySem.W.keepIn K (.ref f2) = true)
    (a3 : PySem.W.nsIn K mainGlobals "_law_draw" = some (some (.ref f3)))
    (l3 : K.lookup f3 = some ⟨oc3, od3, .func (PySem.W.fnOf "_law_draw" "_law_draw" (defArgs s_law_draw) (defBody s_law_draw) (defScope s_law_draw) .none kV3 dc3 pm3 an3 cd3 ct3), sl3⟩)
    (c3 : PySem.W.codeIn K cd3 "_law_draw" = true)
    (k3 : PySem.W.keepIn K (.ref f3) = true)
    (a4 : PySem.W.nsIn K mainGlobals "_law_words" = some (some (.ref f4)))
    (l4 : K.lookup f4 = some ⟨oc4, od4, .func (PySem.W.fnOf "_law_words" "_law_words" (defArgs s_law_words) (defBody s_law_words) (defScope s_law_words) .none kV4 dc4 pm4 an4 cd4 ct4), sl4⟩)
    (c4 : PySem.W.codeIn K cd4 "_law_words" = true)
    (k4 : PySem.W.keepIn K (.ref f4) = true)
    (a5 : PySem.W.nsIn K mainGlobals "_law_run" = some (some (.ref f5)))
    (l5 : K.lookup f5 = some ⟨oc5, od5, .func (PySem.W.fnOf "_law_run" "_law_run" (defArgs s_law_run) (defBody s_law_run) (defScope s_law_run) .none kV5 dc5 pm5 an5 cd5 ct5), sl5⟩)
    (c5 : PySem.W.codeIn K cd5 "_law_run" = true)
    (k5 : PySem.W.keepIn K (.ref f5) = true)
    (a6 : PySem.W.nsIn K mainGlobals "_law_name" = some (some (.ref f6)))
    (l6 : K.lookup f6 = some ⟨oc6, od6, .func (PySem.W.fnOf "_law_name" "_law_name" (defArgs s_law_name) (defBody s_law_name) (defScope s_law_name) .none kV6 dc6 pm6 an6 cd6 ct6), sl6⟩)
    (c6 : PySem.W.codeIn K cd6 "_law_name" = true)
    (k6 : PySem.W.keepIn K (.ref f6) = true)
    (a7 : PySem.W.nsIn K mainGlobals "_law_class" = some (some (.ref f7)))
    (l7 : K.lookup f7 = some ⟨oc7, od7, .func (PySem.W.fnOf "_law_class" "_law_class" (defArgs s_law_class) (defBody s_law_class) (defScope s_law_class) .none kV7 dc7 pm7 an7 cd7 ct7), sl7⟩)
    (c7 : PySem.W.codeIn K cd7 "_law_class" = true)
    (k7 : PySem.W.keepIn K (.ref f7) = true)
    (a8 : PySem.W.nsIn K mainGlobals "_law_number" = some (some (.ref f8)))
    (l8 : K.lookup f8 = some ⟨oc8, od8, .func (PySem.W.fnOf "_law_number" "_law_number" (defArgs s_law_number) (defBody s_law_number) (defScope s_law_number) .none kV8 dc8 pm8 an8 cd8 ct8), sl8⟩)
    (c8 : PySem.W.codeIn K cd8 "_law_number" = true)
    (k8 : PySem.W.keepIn K (.ref f8) = true)
    (a9 : PySem.W.nsIn K mainGlobals "_law_characters" = some (some (.ref f9)))
    (l9 : K.lookup f9 = some ⟨oc9, od9, .func (PySem.W.fnOf "_law_characters" "_law_characters" (defArgs s_law_characters) (defBody s_law_characters) (defScope s_law_characters) .none kV9 dc9 pm9 an9 cd9 ct9), sl9⟩)
    (c9 : PySem.W.codeIn K cd9 "_law_characters" = true)
    (k9 : PySem.W.keepIn K (.ref f9) = true)
    (a10 : PySem.W.nsIn K mainGlobals "_law_names" = some (some (.ref f10)))
    (l10 : K.lookup f10 = some ⟨oc10, od10, .func (PySem.W.fnOf "_law_names" "_law_names" (defArgs s_law_names) (defBody s_law_names) (defScope s_law_names) .none kV10 dc10 pm10 an10 cd10 ct10), sl10⟩)
    (c10 : PySem.W.codeIn K cd10 "_law_names" = true)
    (k10 : PySem.W.keepIn K (.ref f10) = true)
    (a11 : PySem.W.nsIn K mainGlobals "_law_commas" = some (some (.ref f11)))
    (l11 : K.lookup f11 = some ⟨oc11, od11, .func (PySem.W.fnOf "_law_commas" "_law_commas" (defArgs s_law_commas) (defBody s_law_commas) (defScope s_law_commas) .none kV11 dc11 pm11 an11 cd11 ct11), sl11⟩)
    (c11 : PySem.W.codeIn K cd11 "_law_commas" = true)
    (k11 : PySem.W.keepIn K (.ref f11) = true)
    (a12 : PySem.W.nsIn K mainGlobals "_law_leaf" = some (some (.ref f12)))
    (l12 : K.lookup f12 = some ⟨oc12, od12, .func (PySem.W.fnOf "_law_leaf" "_law_leaf" (defArgs s_law_leaf) (defBody s_law_leaf) (defScope s_law_leaf) .none kV12 dc12 pm12 an12 cd12 ct12), sl12⟩)
    (c12 : PySem.W.codeIn K cd12 "_law_leaf" = true)
    (k12 : PySem.W.keepIn K (.ref f12) = true)
    (a13 : PySem.W.nsIn K mainGlobals "_law_sides" = some (some (.ref f13)))
    (l13 : K.lookup f13 = some ⟨oc13, od13, .func (PySem.W.fnOf "_law_sides" "_law_sides" (defArgs s_law_sides) (defBody s_law_sides) (defScope s_law_sides) .none kV13 dc13 pm13 an13 cd13 ct13), sl13⟩)
    (c13 : PySem.W.codeIn K cd13 "_law_sides" = true)
    (k13 : PySem.W.keepIn K (.ref f13) = true)
    (a14 : PySem.W.nsIn K mainGlobals "_law_list" = some (some (.ref f14)))
    (l14 : K.lookup f14 = some ⟨oc14, od14, .func (PySem.W.fnOf "_law_list" "_law_list" (defArgs s_law_list) (defBody s_law_list) (defScope s_law_list) .none kV14 dc14 pm14 an14 cd14 ct14), sl14⟩)
    (c14 : PySem.W.codeIn K cd14 "_law_list" = true)
    (k14 : PySem.W.keepIn K (.ref f14) = true)
    (a15 : PySem.W.nsIn K mainGlobals "_law_block" = some (some (.ref f15)))
    (l15 : K.lookup f15 = some ⟨oc15, od15, .func (PySem.W.fnOf "_law_block" "_law_block" (defArgs s_law_block) (defBody s_law_block) (defScope s_law_block) .none kV15 dc15 pm15 an15 cd15 ct15), sl15⟩)
    (c15 : PySem.W.codeIn K cd15 "_law_block" = true)
    (k15 : PySem.W.keepIn K (.ref f15) = true)
    (a16 : PySem.W.nsIn K mainGlobals "_law_compound" = some (some (.ref f16)))
    (l16 : K.lookup f16 = some ⟨oc16, od16, .func (PySem.W.fnOf "_law_compound" "_law_compound" (defArgs s_law_compound) (defBody s_law_compound) (defScope s_law_compound) .none kV16 dc16 pm16 an16 cd16 ct16), sl16⟩)
    (c16 : PySem.W.codeIn K cd16 "_law_compound" = true)
    (k16 : PySem.W.keepIn K (.ref f16) = true)
    (a17 : PySem.W.nsIn K mainGlobals "_law_expression" = some (some (.ref f17)))
    (l17 : K.lookup f17 = some ⟨oc17, od17, .func (PySem.W.fnOf "_law_expression" "_law_expression" (defArgs s_law_expression) (defBody s_law_expression) (defScope s_law_expression) .none kV17 dc17 pm17 an17 cd17 ct17), sl17⟩)
    (c17 : PySem.W.codeIn K cd17 "_law_expression" = true)
    (k17 : PySem.W.keepIn K (.ref f17) = true)
    (a18 : PySem.W.nsIn K mainGlobals "_law_body" = some (some (.ref f18)))
    (l18 : K.lookup f18 = some ⟨oc18, od18, .func (PySem.W.fnOf "_law_body" "_law_body" (defArgs s_law_body) (defBody s_law_body) (defScope s_law_body) .none kV18 dc18 pm18 an18 cd18 ct18), sl18⟩)
    (c18 : PySem.W.codeIn K cd18 "_law_body" = true)
    (k18 : PySem.W.keepIn K (.ref f18) = true)
    (a19 : PySem.W.nsIn K mainGlobals "_law_choice" = some (some (.ref f19)))
    (l19 : K.lookup f19 = some ⟨oc19, od19, .func (PySem.W.fnOf "_law_choice" "_law_choice" (defArgs s_law_choice) (defBody s_law_choice) (defScope s_law_choice) .none kV19 dc19 pm19 an19 cd19 ct19), sl19⟩)
    (c19 : PySem.W.codeIn K cd19 "_law_choice" = true)
    (k19 : PySem.W.keepIn K (.ref f19) = true)
    (a20 : PySem.W.nsIn K mainGlobals "_law_statement" = some (some (.ref f20)))
    (l20 : K.lookup f20 = some ⟨oc20, od20, .func (PySem.W.fnOf "_law_statement" "_law_statement" (defArgs s_law_statement) (defBody s_law_statement) (defScope s_law_statement) .none kV20 dc20 pm20 an20 cd20 ct20), sl20⟩)
    (c20 : PySem.W.codeIn K cd20 "_law_statement" = true)
    (k20 : PySem.W.keepIn K (.ref f20) = true)
    (a21 : PySem.W.nsIn K mainGlobals "_law_method" = some (some (.ref f21)))
    (l21 : K.lookup f21 = some ⟨oc21, od21, .func (PySem.W.fnOf "_law_method" "_law_method" (defArgs s_law_method) (defBody s_law_method) (defScope s_law_method) .none kV21 dc21 pm21 an21 cd21 ct21), sl21⟩)
    (c21 : PySem.W.codeIn K cd21 "_law_method" = true)
    (k21 : PySem.W.keepIn K (.ref f21) = true)
    (a22 : PySem.W.nsIn K mainGlobals "_law_same" = some (some (.ref f22)))
    (l22 : K.lookup f22 = some ⟨oc22, od22, .func (PySem.W.fnOf "_law_same" "_law_same" (defArgs s_law_same) (defBody s_law_same) (defScope s_law_same) .none kV22 dc22 pm22 an22 cd22 ct22), sl22⟩)
    (c22 : PySem.W.codeIn K cd22 "_law_same" = true)
    (k22 : PySem.W.keepIn K (.ref f22) = true)
    (a23 : PySem.W.nsIn K mainGlobals "_law_place" = some (some (.ref f23)))
    (l23 : K.lookup f23 = some ⟨oc23, od23, .func (PySem.W.fnOf "_law_place" "_law_place" (defArgs s_law_place) (defBody s_law_place) (defScope s_law_place) .none kV23 dc23 pm23 an23 cd23 ct23), sl23⟩)
    (c23 : PySem.W.codeIn K cd23 "_law_place" = true)
    (k23 : PySem.W.keepIn K (.ref f23) = true)
    (a24 : PySem.W.nsIn K mainGlobals "_law_all" = some (some (.ref f24)))
    (l24 : K.lookup f24 = some ⟨oc24, od24, .func (PySem.W.fnOf "_law_all" "_law_all" (defArgs s_law_all) (defBody s_law_all) (defScope s_law_all) .none kV24 dc24 pm24 an24 cd24 ct24), sl24⟩)
    (c24 : PySem.W.codeIn K cd24 "_law_all" = true)
    (k24 : PySem.W.keepIn K (.ref f24) = true)
    (a25 : PySem.W.nsIn K mainGlobals "_law_block_rows" = some (some (.ref f25)))
    (l25 : K.lookup f25 = some ⟨oc25, od25, .func (PySem.W.fnOf "_law_block_rows" "_law_block_rows" (defArgs s_law_block_rows) (defBody s_law_block_rows) (defScope s_law_block_rows) .none kV25 dc25 pm25 an25 cd25 ct25), sl25⟩)
    (c25 : PySem.W.codeIn K cd25 "_law_block_rows" = true)
    (k25 : PySem.W.keepIn K (.ref f25) = true)
    (a26 : PySem.W.nsIn K mainGlobals "_law_truth_rows" = some (some (.ref f26)))
    (l26 : K.lookup f26 = some ⟨oc26, od26, .func (PySem.W.fnOf "_law_truth_rows" "_law_truth_rows" (defArgs s_law_truth_rows) (defBody s_law_truth_rows) (defScope s_law_truth_rows) .none kV26 dc26 pm26 an26 cd26 ct26), sl26⟩)
    (c26 : PySem.W.codeIn K cd26 "_law_truth_rows" = true)
    (k26 : PySem.W.keepIn K (.ref f26) = true)
    (a27 : PySem.W.nsIn K mainGlobals "_law_statement_rows" = some (some (.ref f27)))
    (l27 : K.lookup f27 = some ⟨oc27, od27, .func (PySem.W.fnOf "_law_statement_rows" "_law_statement_rows" (defArgs s_law_statement_rows) (defBody s_law_statement_rows) (defScope s_law_statement_rows) .none kV27 dc27 pm27 an27 cd27 ct27), sl27⟩)
    (c27 : PySem.W.codeIn K cd27 "_law_statement_rows" = true)
    (k27 : PySem.W.keepIn K (.ref f27) = true)
    (a28 : PySem.W.nsIn K mainGlobals "_law_try_rows" = some (some (.ref f28)))
    (l28 : K.lookup f28 = some ⟨oc28, od28, .func (PySem.W.fnOf "_law_try_rows" "_law_try_rows" (defArgs s_law_try_rows) (defBody s_law_try_rows) (defScope s_law_try_rows) .none kV28 dc28 pm28 an28 cd28 ct28), sl28⟩)
    (c28 : PySem.W.codeIn K cd28 "_law_try_rows" = true)
    (k28 : PySem.W.keepIn K (.ref f28) = true)
    (a29 : PySem.W.nsIn K mainGlobals "_law_rows" = some (some (.ref f29)))
    (l29 : K.lookup f29 = some ⟨oc29, od29, .func (PySem.W.fnOf "_law_rows" "_law_rows" (defArgs s_law_rows) (defBody s_law_rows) (defScope s_law_rows) .none kV29 dc29 pm29 an29 cd29 ct29), sl29⟩)
    (c29 : PySem.W.codeIn K cd29 "_law_rows" = true)
    (k29 : PySem.W.keepIn K (.ref f29) = true)
    (a30 : PySem.W.nsIn K mainGlobals "_law_flat" = some (some (.ref f30)))
    (l30 : K.lookup f30 = some ⟨oc30, od30, .func (PySem.W.fnOf "_law_flat" "_law_flat" (defArgs s_law_flat) (defBody s_law_flat) (defScope s_law_flat) .none kV30 dc30 pm30 an30 cd30 ct30), sl30⟩)
    (c30 : PySem.W.codeIn K cd30 "_law_flat" = true)
    (k30 : PySem.W.keepIn K (.ref f30) = true)
    (a31 : PySem.W.nsIn K mainGlobals "law" = some (some (.ref f31)))
    (l31 : K.lookup f31 = some ⟨oc31, od31, .func (PySem.W.fnOf "law" "law" (defArgs s_law) (defBody s_law) (defScope s_law) .none kV31 dc31 pm31 an31 cd31 ct31), sl31⟩)
    (c31 : PySem.W.codeIn K cd31 "law" = true)
    (k31 : PySem.W.keepIn K (.ref f31) = true)
    (z_len : PySem.W.nsIn K mainGlobals "len" = some none)
    (z_int : PySem.W.nsIn K mainGlobals "int" = some none)
    (z_list : PySem.W.nsIn K mainGlobals "list" = some none)
    (z_range : PySem.W.nsIn K mainGlobals "range" = some none)
    (z_max : PySem.W.nsIn K mainGlobals "max" = some none)
    (z_str : PySem.W.nsIn K mainGlobals "str" = some none)
    (z_isinstance : PySem.W.nsIn K mainGlobals "isinstance" = some none)
    (z_bool : PySem.W.nsIn K mainGlobals "bool" = some none)
    (z_ord : PySem.W.nsIn K mainGlobals "ord" = some none)
    (z_tuple : PySem.W.nsIn K mainGlobals "tuple" = some none)
    (z_enumerate : PySem.W.nsIn K mainGlobals "enumerate" = some none)
    (z_min : PySem.W.nsIn K mainGlobals "min" = some none)
    (z_abs : PySem.W.nsIn K mainGlobals "abs" = some none)
    (z_all : PySem.W.nsIn K mainGlobals "all" = some none)
    (z_any : PySem.W.nsIn K mainGlobals "any" = some none)
    (z_sorted : PySem.W.nsIn K mainGlobals "sorted" = some none)
    (z_sum : PySem.W.nsIn K mainGlobals "sum" = some none)
    (cC : PySem.W.nsIn K mainGlobals "Coder" = some (some (.ref CC)))
    (cG : PySem.W.plainGet K CC Str.empty = true)
    (cD : PySem.W.hasDictIn K CC = true)
    (cO : PySem.W.plainOver K CC = true)
    (cS : PySem.W.findIn K (.ref CC) "__setattr__" = some (some (.builtin "object.__setattr__")))
    (cM : PySem.W.makesIn K CC = true)
    (cK : PySem.W.keepIn K (.ref CC) = true)
    (cn_scopes : PySem.W.findIn K (.ref CC) "scopes" = some none)
    (cn_owner : PySem.W.findIn K (.ref CC) "owner" = some none)
    (cn_slots : PySem.W.findIn K (.ref CC) "slots" = some none)
    (cn_instructions : PySem.W.findIn K (.ref CC) "instructions" = some none)
    (cn_blocks : PySem.W.findIn K (.ref CC) "blocks" = some none)
    (qi_cinit : PySem.W.findIn K (.ref CC) "__init__" = some (some (.ref q_cinit)))
    (qf_cinit : PySem.W.isFn K (.ref q_cinit) = true)
    (ql_cinit : K.lookup q_cinit = some ⟨oc_cinit, od_cinit, .func (PySem.W.fnOf "__init__" "Coder.__init__" (defArgs s_Coder___init__) (defBody s_Coder___init__) (defScope s_Coder___init__) .none kV_cinit dc_cinit pm_cinit an_cinit cd_cinit ct_cinit), sl_cinit⟩)
    (qc_cinit : PySem.W.codeIn K cd_cinit "Coder.__init__" = true)
    (qk_cinit : PySem.W.keepIn K (.ref q_cinit) = true)
    (qi_ccode : PySem.W.findIn K (.ref CC) "code" = some (some (.ref q_ccode)))
    (qf_ccode : PySem.W.isFn K (.ref q_ccode) = true)
    (ql_ccode : K.lookup q_ccode = some ⟨oc_ccode, od_ccode, .func (PySem.W.fnOf "code" "Coder.code" (defArgs s_Coder_code) (defBody s_Coder_code) (defScope s_Coder_code) .none kV_ccode dc_ccode pm_ccode an_ccode cd_ccode ct_ccode), sl_ccode⟩)
    (qc_ccode : PySem.W.codeIn K cd_ccode "Coder.code" = true)
    (qk_ccode : PySem.W.keepIn K (.ref q_ccode) = true)
    (qi_cput : PySem.W.findIn K (.ref CC) "put" = some (some (.ref q_cput)))
    (qf_cput : PySem.W.isFn K (.ref q_cput) = true)
    (ql_cput : K.lookup q_cput = some ⟨oc_cput, od_cput, .func (PySem.W.fnOf "put" "Coder.put" (defArgs s_Coder_put) (defBody s_Coder_put) (defScope s_Coder_put) .none kV_cput dc_cput pm_cput an_cput cd_cput ct_cput), sl_cput⟩)
    (qc_cput : PySem.W.codeIn K cd_cput "Coder.put" = true)
    (qk_cput : PySem.W.keepIn K (.ref q_cput) = true)
    (qi_cput_leading : PySem.W.findIn K (.ref CC) "put_leading" = some (some (.ref q_cput_leading)))
    (qf_cput_leading : PySem.W.isFn K (.ref q_cput_leading) = true)
    (ql_cput_leading : K.lookup q_cput_leading = some ⟨oc_cput_leading, od_cput_leading, .func (PySem.W.fnOf "put_leading" "Coder.put_leading" (defArgs s_Coder_put_leading) (defBody s_Coder_put_leading) (defScope s_Coder_put_leading) .none kV_cput_leading dc_cput_leading pm_cput_leading an_cput_leading cd_cput_leading ct_cput_leading), sl_cput_leading⟩)
    (qc_cput_leading : PySem.W.codeIn K cd_cput_leading "Coder.put_leading" = true)
    (qk_cput_leading : PySem.W.keepIn K (.ref q_cput_leading) = true)
    (qi_clead_here : PySem.W.findIn K (.ref CC) "lead_here" = some (some (.ref q_clead_here)))
    (qf_clead_here : PySem.W.isFn K (.ref q_clead_here) = true)
    (ql_clead_here : K.lookup q_clead_here = some ⟨oc_clead_here, od_clead_here, .func (PySem.W.fnOf "lead_here" "Coder.lead_here" (defArgs s_Coder_lead_here) (defBody s_Coder_lead_here) (defScope s_Coder_lead_here) .none kV_clead_here dc_clead_here pm_clead_here an_clead_here cd_clead_here ct_clead_here), sl_clead_here⟩)
    (qc_clead_here : PySem.W.codeIn K cd_clead_here "Coder.lead_here" = true)
    (qk_clead_here : PySem.W.keepIn K (.ref q_clead_here) = true)
    (qi_cput_into : PySem.W.findIn K (.ref CC) "put_into" = some (some (.ref q_cput_into)))
    (qf_cput_into : PySem.W.isFn K (.ref q_cput_into) = true)
    (ql_cput_into : K.lookup q_cput_into = some ⟨oc_cput_into, od_cput_into, .func (PySem.W.fnOf "put_into" "Coder.put_into" (defArgs s_Coder_put_into) (defBody s_Coder_put_into) (defScope s_Coder_put_into) .none kV_cput_into dc_cput_into pm_cput_into an_cput_into cd_cput_into ct_cput_into), sl_cput_into⟩)
    (qc_cput_into : PySem.W.codeIn K cd_cput_into "Coder.put_into" = true)
    (qk_cput_into : PySem.W.keepIn K (.ref q_cput_into) = true)
    (qi_cend_with_none : PySem.W.findIn K (.ref CC) "end_with_none" = some (some (.ref q_cend_with_none)))
    (qf_cend_with_none : PySem.W.isFn K (.ref q_cend_with_none) = true)
    (ql_cend_with_none : K.lookup q_cend_with_none = some ⟨oc_cend_with_none, od_cend_with_none, .func (PySem.W.fnOf "end_with_none" "Coder.end_with_none" (defArgs s_Coder_end_with_none) (defBody s_Coder_end_with_none) (defScope s_Coder_end_with_none) .none kV_cend_with_none dc_cend_with_none pm_cend_with_none an_cend_with_none cd_cend_with_none ct_cend_with_none), sl_cend_with_none⟩)
    (qc_cend_with_none : PySem.W.codeIn K cd_cend_with_none "Coder.end_with_none" = true)
    (qk_cend_with_none : PySem.W.keepIn K (.ref q_cend_with_none) = true)
    (qi_cbody : PySem.W.findIn K (.ref CC) "body" = some (some (.ref q_cbody)))
    (qf_cbody : PySem.W.isFn K (.ref q_cbody) = true)
    (ql_cbody : K.lookup q_cbody = some ⟨oc_cbody, od_cbody, .func (PySem.W.fnOf "body" "Coder.body" (defArgs s_Coder_body) (defBody s_Coder_body) (defScope s_Coder_body) .none kV_cbody dc_cbody pm_cbody an_cbody cd_cbody ct_cbody), sl_cbody⟩)
    (qc_cbody : PySem.W.codeIn K cd_cbody "Coder.body" = true)
    (qk_cbody : PySem.W.keepIn K (.ref q_cbody) = true)
    (qi_cstatement : PySem.W.findIn K (.ref CC) "statement" = some (some (.ref q_cstatement)))
    (qf_cstatement : PySem.W.isFn K (.ref q_cstatement) = true)
    (ql_cstatement : K.lookup q_cstatement = some ⟨oc_cstatement, od_cstatement, .func (PySem.W.fnOf "statement" "Coder.statement" (defArgs s_Coder_statement) (defBody s_Coder_statement) (defScope s_Coder_statement) .none kV_cstatement dc_cstatement pm_cstatement an_cstatement cd_cstatement ct_cstatement), sl_cstatement⟩)
    (qc_cstatement : PySem.W.codeIn K cd_cstatement "Coder.statement" = true)
    (qk_cstatement : PySem.W.keepIn K (.ref q_cstatement) = true)
    (qi_cloop : PySem.W.findIn K (.ref CC) "loop" = some (some (.ref q_cloop)))
    (qf_cloop : PySem.W.isFn K (.ref q_cloop) = true)
    (ql_cloop : K.lookup q_cloop = some ⟨oc_cloop, od_cloop, .func (PySem.W.fnOf "loop" "Coder.loop" (defArgs s_Coder_loop) (defBody s_Coder_loop) (defScope s_Coder_loop) .none kV_cloop dc_cloop pm_cloop an_cloop cd_cloop ct_cloop), sl_cloop⟩)
    (qc_cloop : PySem.W.codeIn K cd_cloop "Coder.loop" = true)
    (qk_cloop : PySem.W.keepIn K (.ref q_cloop) = true)
    (qi_cchoice : PySem.W.findIn K (.ref CC) "choice" = some (some (.ref q_cchoice)))
    (qf_cchoice : PySem.W.isFn K (.ref q_cchoice) = true)
    (ql_cchoice : K.lookup q_cchoice = some ⟨oc_cchoice, od_cchoice, .func (PySem.W.fnOf "choice" "Coder.choice" (defArgs s_Coder_choice) (defBody s_Coder_choice) (defScope s_Coder_choice) .none kV_cchoice dc_cchoice pm_cchoice an_cchoice cd_cchoice ct_cchoice), sl_cchoice⟩)
    (qc_cchoice : PySem.W.codeIn K cd_cchoice "Coder.choice" = true)
    (qk_cchoice : PySem.W.keepIn K (.ref q_cchoice) = true)
    (qi_cattempt : PySem.W.findIn K (.ref CC) "attempt" = some (some (.ref q_cattempt)))
    (qf_cattempt : PySem.W.isFn K (.ref q_cattempt) = true)
    (ql_cattempt : K.lookup q_cattempt = some ⟨oc_cattempt, od_cattempt, .func (PySem.W.fnOf "attempt" "Coder.attempt" (defArgs s_Coder_attempt) (defBody s_Coder_attempt) (defScope s_Coder_attempt) .none kV_cattempt dc_cattempt pm_cattempt an_cattempt cd_cattempt ct_cattempt), sl_cattempt⟩)
    (qc_cattempt : PySem.W.codeIn K cd_cattempt "Coder.attempt" = true)
    (qk_cattempt : PySem.W.keepIn K (.ref q_cattempt) = true)
    (qi_ckept : PySem.W.findIn K (.ref CC) "kept" = some (some (.ref q_ckept)))
    (qf_ckept : PySem.W.isFn K (.ref q_ckept) = true)
    (ql_ckept : K.lookup q_ckept = some ⟨oc_ckept, od_ckept, .func (PySem.W.fnOf "kept" "Coder.kept" (defArgs s_Coder_kept) (defBody s_Coder_kept) (defScope s_Coder_kept) .none kV_ckept dc_ckept pm_ckept an_ckept cd_ckept ct_ckept), sl_ckept⟩)
    (qc_ckept : PySem.W.codeIn K cd_ckept "Coder.kept" = true)
    (qk_ckept : PySem.W.keepIn K (.ref q_ckept) = true)
    (qi_cexpression : PySem.W.findIn K (.ref CC) "expression" = some (some (.ref q_cexpression)))
    (qf_cexpression : PySem.W.isFn K (.ref q_cexpression) = true)
    (ql_cexpression : K.lookup q_cexpression = some ⟨oc_cexpression, od_cexpression, .func (PySem.W.fnOf "expression" "Coder.expression" (defArgs s_Coder_expression) (defBody s_Coder_expression) (defScope s_Coder_expression) .none kV_cexpression dc_cexpression pm_cexpression an_cexpression cd_cexpression ct_cexpression), sl_cexpression⟩)
    (qc_cexpression : PySem.W.codeIn K cd_cexpression "Coder.expression" = true)
    (qk_cexpression : PySem.W.keepIn K (.ref q_cexpression) = true)
    (qi_cexpressions : PySem.W.findIn K (.ref CC) "expressions" = some (some (.ref q_cexpressions)))
    (qf_cexpressions : PySem.W.isFn K (.ref q_cexpressions) = true)
    (ql_cexpressions : K.lookup q_cexpressions = some ⟨oc_cexpressions, od_cexpressions, .func (PySem.W.fnOf "expressions" "Coder.expressions" (defArgs s_Coder_expressions) (defBody s_Coder_expressions) (defScope s_Coder_expressions) .none kV_cexpressions dc_cexpressions pm_cexpressions an_cexpressions cd_cexpressions ct_cexpressions), sl_cexpressions⟩)
    (qc_cexpressions : PySem.W.codeIn K cd_cexpressions "Coder.expressions" = true)
    (qk_cexpressions : PySem.W.keepIn K (.ref q_cexpressions) = true)
    (qi_cboth : PySem.W.findIn K (.ref CC) "both" = some (some (.ref q_cboth)))
    (qf_cboth : PySem.W.isFn K (.ref q_cboth) = true)
    (ql_cboth : K.lookup q_cboth = some ⟨oc_cboth, od_cboth, .func (PySem.W.fnOf "both" "Coder.both" (defArgs s_Coder_both) (defBody s_Coder_both) (defScope s_Coder_both) .none kV_cboth dc_cboth pm_cboth an_cboth cd_cboth ct_cboth), sl_cboth⟩)
    (qc_cboth : PySem.W.codeIn K cd_cboth "Coder.both" = true)
    (qk_cboth : PySem.W.keepIn K (.ref q_cboth) = true)
    (qi_ceither : PySem.W.findIn K (.ref CC) "either" = some (some (.ref q_ceither)))
    (qf_ceither : PySem.W.isFn K (.ref q_ceither) = true)
    (ql_ceither : K.lookup q_ceither = some ⟨oc_ceither, od_ceither, .func (PySem.W.fnOf "either" "Coder.either" (defArgs s_Coder_either) (defBody s_Coder_either) (defScope s_Coder_either) .none kV_ceither dc_ceither pm_ceither an_ceither cd_ceither ct_ceither), sl_ceither⟩)
    (qc_ceither : PySem.W.codeIn K cd_ceither "Coder.either" = true)
    (qk_ceither : PySem.W.keepIn K (.ref q_ceither) = true)
    (qi_ctruth : PySem.W.findIn K (.ref CC) "truth" = some (some (.ref q_ctruth)))
    (qf_ctruth : PySem.W.isFn K (.ref q_ctruth) = true)
    (ql_ctruth : K.lookup q_ctruth = some ⟨oc_ctruth, od_ctruth, .func (PySem.W.fnOf "truth" "Coder.truth" (defArgs s_Coder_truth) (defBody s_Coder_truth) (defScope s_Coder_truth) .none kV_ctruth dc_ctruth pm_ctruth an_ctruth cd_ctruth ct_ctruth), sl_ctruth⟩)
    (qc_ctruth : PySem.W.codeIn K cd_ctruth "Coder.truth" = true)
    (qk_ctruth : PySem.W.keepIn K (.ref q_ctruth) = true)
    (qi_cblock : PySem.W.findIn K (.ref CC) "block" = some (some (.ref q_cblock)))
    (qf_cblock : PySem.W.isFn K (.ref q_cblock) = true)
    (ql_cblock : K.lookup q_cblock = some ⟨oc_cblock, od_cblock, .func (PySem.W.fnOf "block" "Coder.block" (defArgs s_Coder_block) (defBody s_Coder_block) (defScope s_Coder_block) .none kV_cblock dc_cblock pm_cblock an_cblock cd_cblock ct_cblock), sl_cblock⟩)
    (qc_cblock : PySem.W.codeIn K cd_cblock "Coder.block" = true)
    (qk_cblock : PySem.W.keepIn K (.ref q_cblock) = true)
    : ∃ fd : FuncData, (∀ (s : Shared) (v : Value), BindsTo s fd ⟨[v], []⟩ [("script", v)]) ∧ ∀ base : Heap, K.In base → base.Ns mainGlobals mg → FnOk P w K mg base CX0 128 fa fd ["script"] (spLaw K) := by
  have e := hfa.symm.trans (PySem.W.mg_of X G a31)
  cases e
  have Y : Bn mg := ⟨PySem.W.mg_none_of X G z_len, PySem.W.mg_none_of X G z_int, PySem.W.mg_none_of X G z_list, PySem.W.mg_none_of X G z_range, PySem.W.mg_none_of X G z_max, PySem.W.mg_none_of X G z_str, PySem.W.mg_none_of X G z_isinstance, PySem.W.mg_none_of X G z_bool, PySem.W.mg_none_of X G z_ord, PySem.W.mg_none_of X G z_tuple, PySem.W.mg_none_of X G z_enumerate, PySem.W.mg_none_of X G z_min, PySem.W.mg_none_of X G z_abs, PySem.W.mg_none_of X G z_all, PySem.W.mg_none_of X G z_any, PySem.W.mg_none_of X G z_sorted, PySem.W.mg_none_of X G z_sum⟩
  have ccl : Cls K CC := ⟨cG, cD, cO, cS⟩
  have M_cinit : Meth K CC "__init__" q_cinit := ⟨qi_cinit, qf_cinit, qk_cinit⟩
  have D_cinit := fun_mk (st := s_Coder___init__) ql_cinit qc_cinit qk_cinit
  have B_cinit := D_cinit.binds (ps := ["self", "scopes", "owner", "slots"]) fun _ _ _ _ _ _ us hl => match us, hl with | [_, _, _, _], _ => rfl
  have M_ccode : Meth K CC "code" q_ccode := ⟨qi_ccode, qf_ccode, qk_ccode⟩
  have D_ccode := fun_mk (st := s_Coder_code) ql_ccode qc_ccode qk_ccode
  have B_ccode := D_ccode.binds (ps := ["self"]) fun _ _ _ _ _ _ us hl => match us, hl with | [_], _ => rfl
  have M_cput : Meth K CC "put" q_cput := ⟨qi_cput, qf_cput, qk_cput⟩
  have D_cput := fun_mk (st := s_Coder_put) ql_cput qc_cput qk_cput
  have B_cput := D_cput.binds (ps := ["self", "instruction"]) fun _ _ _ _ _ _ us hl => match us, hl with | [_, _], _ => rfl
  have M_cput_leading : Meth K CC "put_leading" q_cput_leading := ⟨qi_cput_leading, qf_cput_leading, qk_cput_leading⟩
  have D_cput_leading := fun_mk (st := s_Coder_put_leading) ql_cput_leading qc_cput_leading qk_cput_leading
  have B_cput_leading := D_cput_leading.binds (ps := ["self", "word"]) fun _ _ _ _ _ _ us hl => match us, hl with | [_, _], _ => rfl
  have M_clead_here : Meth K CC "lead_here" q_clead_here := ⟨qi_clead_here, qf_clead_here, qk_clead_here⟩
  have D_clead_here := fun_mk (st := s_Coder_lead_here) ql_clead_here qc_clead_here qk_clead_here
  have B_clead_here := D_clead_here.binds (ps := ["self", "number"]) fun _ _ _ _ _ _ us hl => match us, hl with | [_, _], _ => rfl
  have M_cput_into : Meth K CC "put_into" q_cput_into := ⟨qi_cput_into, qf_cput_into, qk_cput_into⟩
  have D_cput_into := fun_mk (st := s_Coder_put_into) ql_cput_into qc_cput_into qk_cput_into
  have B_cput_into := D_cput_into.binds (ps := ["self", "name"]) fun _ _ _ _ _ _ us hl => match us, hl with | [_, _], _ => rfl
  have M_cend_with_none : Meth K CC "end_with_none" q_cend_with_none := ⟨qi_cend_with_none, qf_cend_with_none, qk_cend_with_none⟩
  have D_cend_with_none := fun_mk (st := s_Coder_end_with_none) ql_cend_with_none qc_cend_with_none qk_cend_with_none
  have B_cend_with_none := D_cend_with_none.binds (ps := ["self"]) fun _ _ _ _ _ _ us hl => match us, hl with | [_], _ => rfl
  have M_cbody : Meth K CC "body" q_cbody := ⟨qi_cbody, qf_cbody, qk_cbody⟩
  have D_cbody := fun_mk (st := s_Coder_body) ql_cbody qc_cbody qk_cbody
  have B_cbody := D_cbody.binds (ps := ["self", "body"]) fun _ _ _ _ _ _ us hl => match us, hl with | [_, _], _ => rfl
  have M_cstatement : Meth K CC "statement" q_cstatement := ⟨qi_cstatement, qf_cstatement, qk_cstatement⟩
  have D_cstatement := fun_mk (st := s_Coder_statement) ql_cstatement qc_cstatement qk_cstatement
  have B_cstatement := D_cstatement.binds (ps := ["self", "tree"]) fun _ _ _ _ _ _ us hl => match us, hl with | [_, _], _ => rfl
  have M_cloop : Meth K CC "loop" q_cloop := ⟨qi_cloop, qf_cloop, qk_cloop⟩
  have D_cloop := fun_mk (st := s_Coder_loop) ql_cloop qc_cloop qk_cloop
  have B_cloop := D_cloop.binds (ps := ["self", "test", "body"]) fun _ _ _ _ _ _ us hl => match us, hl with | [_, _, _], _ => rfl
  have M_cchoice : Meth K CC "choice" q_cchoice := ⟨qi_cchoice, qf_cchoice, qk_cchoice⟩
  have D_cchoice := fun_mk (st := s_Coder_choice) ql_cchoice qc_cchoice qk_cchoice
  have B_cchoice := D_cchoice.binds (ps := ["self", "test", "body", "other"]) fun _ _ _ _ _ _ us hl => match us, hl with | [_, _, _, _], _ => rfl
  have M_cattempt : Meth K CC "attempt" q_cattempt := ⟨qi_cattempt, qf_cattempt, qk_cattempt⟩
  have D_cattempt := fun_mk (st := s_Coder_attempt) ql_cattempt qc_cattempt qk_cattempt
  have B_cattempt := D_cattempt.binds (ps := ["self", "body", "name", "handler"]) fun _ _ _ _ _ _ us hl => match us, hl with | [_, _, _, _], _ => rfl
  have M_ckept : Meth K CC "kept" q_ckept := ⟨qi_ckept, qf_ckept, qk_ckept⟩
  have D_ckept := fun_mk (st := s_Coder_kept) ql_ckept qc_ckept qk_ckept
  have B_ckept := D_ckept.binds (ps := ["self", "body", "last"]) fun _ _ _ _ _ _ us hl => match us, hl with | [_, _, _], _ => rfl
  have M_cexpression : Meth K CC "expression" q_cexpression := ⟨qi_cexpression, qf_cexpression, qk_cexpression⟩
  have D_cexpression := fun_mk (st := s_Coder_expression) ql_cexpression qc_cexpression qk_cexpression
  have B_cexpression := D_cexpression.binds (ps := ["self", "tree"]) fun _ _ _ _ _ _ us hl => match us, hl with | [_, _], _ => rfl
  have M_cexpressions : Meth K CC "expressions" q_cexpressions := ⟨qi_cexpressions, qf_cexpressions, qk_cexpressions⟩
  have D_cexpressions := fun_mk (st := s_Coder_expressions) ql_cexpressions qc_cexpressions qk_cexpressions
  have B_cexpressions := D_cexpressions.binds (ps := ["self", "parts"]) fun _ _ _ _ _ _ us hl => match us, hl with | [_, _], _ => rfl
  have M_cboth : Meth K CC "both" q_cboth := ⟨qi_cboth, qf_cboth, qk_cboth⟩
  have D_cboth := fun_mk (st := s_Coder_both) ql_cboth qc_cboth qk_cboth
  have B_cboth := D_cboth.binds (ps := ["self", "left", "right"]) fun _ _ _ _ _ _ us hl => match us, hl with | [_, _, _], _ => rfl
  have M_ceither : Meth K CC "either" q_ceither := ⟨qi_ceither, qf_ceither, qk_ceither⟩
  have D_ceither := fun_mk (st := s_Coder_either) ql_ceither qc_ceither qk_ceither
  have B_ceither := D_ceither.binds (ps := ["self", "left", "right"]) fun _ _ _ _ _ _ us hl => match us, hl with | [_, _, _], _ => rfl
  have M_ctruth : Meth K CC "truth" q_ctruth := ⟨qi_ctruth, qf_ctruth, qk_ctruth⟩
  have D_ctruth := fun_mk (st := s_Coder_truth) ql_ctruth qc_ctruth qk_ctruth
  have B_ctruth := D_ctruth.binds (ps := ["self", "wrong"]) fun _ _ _ _ _ _ us hl => match us, hl with | [_, _], _ => rfl
  have M_cblock : Meth K CC "block" q_cblock := ⟨qi_cblock, qf_cblock, qk_cblock⟩
  have D_cblock := fun_mk (st := s_Coder_block) ql_cblock qc_cblock qk_cblock
  have B_cblock := D_cblock.binds (ps := ["self", "params", "body"]) fun _ _ _ _ _ _ us hl => match us, hl with | [_, _, _], _ => rfl
  have F0 := fun_mk (st := s_place_of) l0 c0 k0
  have b0 := F0.binds (ps := ["name", "scopes", "slots"]) fun _ _ _ _ _ _ us hl => match us, hl with | [_, _, _], _ => rfl
  have m0 := PySem.W.mg_of X G a0
  have F1 := fun_mk (st := s_compile_method) l1 c1 k1
  have b1 := Fun.kb (ps := ["tree", "owner", "slots"]) (n := 1) (ks := ["owner", "slots"]) F1 fun _ _ _ _ _ _ us ws h1 h2 => match us, ws, h1, h2 with | [_], [_, _], _, _ => rfl
  have m1 := PySem.W.mg_of X G a1
  have F2 := fun_mk (st := s_law_state) l2 c2 k2
  have b2 := F2.binds (ps := ["script", "spare"]) fun _ _ _ _ _ _ us hl => match us, hl with | [_, _], _ => rfl
  have m2 := PySem.W.mg_of X G a2
  have F3 := fun_mk (st := s_law_draw) l3 c3 k3
  have b3 := F3.binds (ps := ["state", "limit"]) fun _ _ _ _ _ _ us hl => match us, hl with | [_, _], _ => rfl
  have m3 := PySem.W.mg_of X G a3
  have F4 := fun_mk (st := s_law_words) l4 c4 k4
  have b4 := F4.binds (ps := []) fun _ _ _ _ _ _ us hl => match us, hl with | [], _ => rfl
  have m4 := PySem.W.mg_of X G a4
  have F5 := fun_mk (st := s_law_run) l5 c5 k5
  have b5 := F5.binds (ps := ["state", "first"]) fun _ _ _ _ _ _ us hl => match us, hl with | [_, _], _ => rfl
  have m5 := PySem.W.mg_of X G a5
  have F6 := fun_mk (st := s_law_name) l6 c6 k6
  have b6 := F6.binds (ps := ["state"]) fun _ _ _ _ _ _ us hl => match us, hl with | [_], _ => rfl
  have m6 := PySem.W.mg_of X G a6
  have F7 := fun_mk (st := s_law_class) l7 c7 k7
  have b7 := F7.binds (ps := ["state"]) fun _ _ _ _ _ _ us hl => match us, hl with | [_], _ => rfl
  have m7 := PySem.W.mg_of X G a7
  have F8 := fun_mk (st := s_law_number) l8 c8 k8
  have b8 := F8.binds (ps := ["state"]) fun _ _ _ _ _ _ us hl => match us, hl with | [_], _ => rfl
  have m8 := PySem.W.mg_of X G a8
  have F9 := fun_mk (st := s_law_characters) l9 c9 k9
  have b9 := F9.binds (ps := ["state"]) fun _ _ _ _ _ _ us hl => match us, hl with | [_], _ => rfl
  have m9 := PySem.W.mg_of X G a9
  have F10 := fun_mk (st := s_law_names) l10 c10 k10
  have b10 := F10.binds (ps := ["state", "count", "taken"]) fun _ _ _ _ _ _ us hl => match us, hl with | [_, _, _], _ => rfl
  have m10 := PySem.W.mg_of X G a10
  have F11 := fun_mk (st := s_law_commas) l11 c11 k11
  have b11 := F11.binds (ps := ["names"]) fun _ _ _ _ _ _ us hl => match us, hl with | [_], _ => rfl
  have m11 := PySem.W.mg_of X G a11
  have F12 := fun_mk (st := s_law_leaf) l12 c12 k12
  have b12 := F12.binds (ps := ["state"]) fun _ _ _ _ _ _ us hl => match us, hl with | [_], _ => rfl
  have m12 := PySem.W.mg_of X G a12
  have F13 := fun_mk (st := s_law_sides) l13 c13 k13
  have b13 := F13.binds (ps := ["state", "kind", "room"]) fun _ _ _ _ _ _ us hl => match us, hl with | [_, _, _], _ => rfl
  have m13 := PySem.W.mg_of X G a13
  have F14 := fun_mk (st := s_law_list) l14 c14 k14
  have b14 := F14.binds (ps := ["state", "room"]) fun _ _ _ _ _ _ us hl => match us, hl with | [_, _], _ => rfl
  have m14 := PySem.W.mg_of X G a14
  have F15 := fun_mk (st := s_law_block) l15 c15 k15
  have b15 := F15.binds (ps := ["state", "room"]) fun _ _ _ _ _ _ us hl => match us, hl with | [_, _], _ => rfl
  have m15 := PySem.W.mg_of X G a15
  have F16 := fun_mk (st := s_law_compound) l16 c16 k16
  have b16 := F16.binds (ps := ["state", "kind", "room"]) fun _ _ _ _ _ _ us hl => match us, hl with | [_, _, _], _ => rfl
  have m16 := PySem.W.mg_of X G a16
  have F17 := fun_mk (st := s_law_expression) l17 c17 k17
  have b17 := F17.binds (ps := ["state", "room", "asked"]) fun _ _ _ _ _ _ us hl => match us, hl with | [_, _, _], _ => rfl
  have m17 := PySem.W.mg_of X G a17
  have F18 := fun_mk (st := s_law_body) l18 c18 k18
  have b18 := F18.binds (ps := ["state", "room", "most"]) fun _ _ _ _ _ _ us hl => match us, hl with | [_, _, _], _ => rfl
  have m18 := PySem.W.mg_of X G a18
  have F19 := fun_mk (st := s_law_choice) l19 c19 k19
  have b19 := F19.binds (ps := ["state", "room"]) fun _ _ _ _ _ _ us hl => match us, hl with | [_, _], _ => rfl
  have m19 := PySem.W.mg_of X G a19
  have F20 := fun_mk (st := s_law_statement) l20 c20 k20
  have b20 := F20.binds (ps := ["state", "room"]) fun _ _ _ _ _ _ us hl => match us, hl with | [_, _], _ => rfl
  have m20 := PySem.W.mg_of X G a20
  have F21 := fun_mk (st := s_law_method) l21 c21 k21
  have b21 := F21.binds (ps := ["state"]) fun _ _ _ _ _ _ us hl => match us, hl with | [_], _ => rfl
  have m21 := PySem.W.mg_of X G a21
  have F22 := fun_mk (st := s_law_same) l22 c22 k22
  have b22 := F22.binds (ps := ["one", "two"]) fun _ _ _ _ _ _ us hl => match us, hl with | [_, _], _ => rfl
  have m22 := PySem.W.mg_of X G a22
  have F23 := fun_mk (st := s_law_place) l23 c23 k23
  have b23 := F23.binds (ps := ["name", "scopes", "fields"]) fun _ _ _ _ _ _ us hl => match us, hl with | [_, _, _], _ => rfl
  have m23 := PySem.W.mg_of X G a23
  have F24 := fun_mk (st := s_law_all) l24 c24 k24
  have b24 := F24.binds (ps := ["trees", "scopes", "fields", "cls"]) fun _ _ _ _ _ _ us hl => match us, hl with | [_, _, _, _], _ => rfl
  have m24 := PySem.W.mg_of X G a24
  have F25 := fun_mk (st := s_law_block_rows) l25 c25 k25
  have b25 := F25.binds (ps := ["tree", "scopes", "fields", "cls"]) fun _ _ _ _ _ _ us hl => match us, hl with | [_, _, _, _], _ => rfl
  have m25 := PySem.W.mg_of X G a25
  have F26 := fun_mk (st := s_law_truth_rows) l26 c26 k26
  have b26 := F26.binds (ps := ["kind", "one", "two"]) fun _ _ _ _ _ _ us hl => match us, hl with | [_, _, _], _ => rfl
  have m26 := PySem.W.mg_of X G a26
  have F27 := fun_mk (st := s_law_statement_rows) l27 c27 k27
  have b27 := F27.binds (ps := ["tree", "scopes", "fields", "cls"]) fun _ _ _ _ _ _ us hl => match us, hl with | [_, _, _, _], _ => rfl
  have m27 := PySem.W.mg_of X G a27
  have F28 := fun_mk (st := s_law_try_rows) l28 c28 k28
  have b28 := F28.binds (ps := ["tree", "scopes", "fields", "cls"]) fun _ _ _ _ _ _ us hl => match us, hl with | [_, _, _, _], _ => rfl
  have m28 := PySem.W.mg_of X G a28
  have F29 := fun_mk (st := s_law_rows) l29 c29 k29
  have b29 := F29.binds (ps := ["tree", "scopes", "fields", "cls"]) fun _ _ _ _ _ _ us hl => match us, hl with | [_, _, _, _], _ => rfl
  have m29 := PySem.W.mg_of X G a29
  have F30 := fun_mk (st := s_law_flat) l30 c30 k30
  have b30 := F30.binds (ps := ["code"]) fun _ _ _ _ _ _ us hl => match us, hl with | [_], _ => rfl
  have m30 := PySem.W.mg_of X G a30
  have F31 := fun_mk (st := s_law) l31 c31 k31
  refine ⟨PySem.W.fnOf "law" "law" (defArgs s_law) (defBody s_law) (defScope s_law) .none kV31 dc31 pm31 an31 cd31 ct31, fun s v => .of_eq rfl, fun base _ _ => ?_⟩
  have cplace_of : Cal P w K mg base 1 "place_of" (spPlace K) [] := ⟨f0, _, _, _, ok_place_of F0 Y, m0, k0, b0, .nil⟩
  have CZ : CdTx K CC := ⟨ccl, cn_scopes, cn_owner, cn_slots, cn_instructions, cn_blocks⟩
  have m_put : C8.Met P w K mg base 1 CC "put" (spCPut K CC) [] := ⟨q_cput, _, _, [], ccl, M_cput, ok_put D_cput CZ, B_cput, .nil⟩
  have m_put_leading : C8.Met P w K mg base 2 CC "put_leading" (spCPl K CC) [] := ⟨q_cput_leading, _, _, [], ccl, M_cput_leading, ok_put_leading D_cput_leading Y CZ m_put, B_cput_leading, .nil⟩
  have m_lead_here : C8.Met P w K mg base 1 CC "lead_here" (spCLed K CC) [] := ⟨q_clead_here, _, _, [], ccl, M_clead_here, ok_lead_here D_clead_here Y CZ, B_clead_here, .nil⟩
  have m_put_into : C8.Met P w K mg base 2 CC "put_into" (spCIn K CC) [] := ⟨q_cput_into, _, _, [], ccl, M_cput_into, ok_put_into D_cput_into Y CZ cplace_of m_put, B_cput_into, .nil⟩
  have m_end_with_none : C8.Met P w K mg base 2 CC "end_with_none" (spCEn K CC) [] := ⟨q_cend_with_none, _, _, [], ccl, M_cend_with_none, ok_end_with_none D_cend_with_none Y CZ m_put, B_cend_with_none, .nil⟩
  have m_code : C8.Met P w K mg base 1 CC "code" (spCCode K CC) [] := ⟨q_ccode, _, _, [], ccl, M_ccode, ok_code D_ccode Y CZ, B_ccode, .nil⟩
  have m_truth : C8.Met P w K mg base 3 CC "truth" (spCTru K CC) [] := ⟨q_ctruth, _, _, [], ccl, M_ctruth, ok_truth D_ctruth CZ m_put m_put_leading m_lead_here, B_ctruth, .nil⟩
  have c_Coder : C8.Mak P w K mg base 1 "Coder" CC (spCIni K CC) [] := ⟨q_cinit, _, _, [], ⟨cM, qi_cinit, qf_cinit, cK⟩, ok_init D_cinit CZ, PySem.W.mg_of X G cC, B_cinit, .nil⟩
  have CM : CdM P w K mg base CC := ⟨Y, CZ, cplace_of, m_put, m_put_leading, m_lead_here, m_put_into, m_end_with_none, m_code, m_truth, c_Coder⟩
  have CD : CdD P w K mg base CC := ⟨CM, ⟨⟨_, _, D_cexpression, ccl, M_cexpression, B_cexpression⟩⟩, ⟨⟨_, _, D_cexpressions, ccl, M_cexpressions, B_cexpressions⟩⟩, ⟨⟨_, _, D_cstatement, ccl, M_cstatement, B_cstatement⟩⟩, ⟨⟨_, _, D_cbody, ccl, M_cbody, B_cbody⟩⟩, ⟨⟨_, _, D_cloop, ccl, M_cloop, B_cloop⟩⟩, ⟨⟨_, _, D_cchoice, ccl, M_cchoice, B_cchoice⟩⟩, ⟨⟨_, _, D_cattempt, ccl, M_cattempt, B_cattempt⟩⟩, ⟨⟨_, _, D_ckept, ccl, M_ckept, B_ckept⟩⟩, ⟨⟨_, _, D_cboth, ccl, M_cboth, B_cboth⟩⟩, ⟨⟨_, _, D_ceither, ccl, M_ceither, B_ceither⟩⟩, ⟨⟨_, _, D_cblock, ccl, M_cblock, B_cblock⟩⟩⟩
  have ccompile_method : CalN P w K mg base 41 "compile_method" 1 ["owner", "slots"] (spComM K) := ⟨_, _, _, ok_compile_method (k := 40) F1 CM (by decide) (CD.bodyM 12), m1, k1, b1⟩
  have c_law_state : Cal P w K mg base 1 "_law_state" (spState K) [] := ⟨f2, _, _, _, ok_law_state F2 Y, m2, k2, b2, .nil⟩
  have c_law_draw : Cal P w K mg base 1 "_law_draw" spDraw [] := ⟨f3, _, _, _, ok_law_draw F3 Y, m3, k3, b3, .nil⟩
  have c_law_words : Cal P w K mg base 1 "_law_words" spWords [] := ⟨f4, _, _, _, ok_law_words F4, m4, k4, b4, .nil⟩
  have c_law_run : Cal P w K mg base 2 "_law_run" spRun [] := ⟨f5, _, _, _, ok_law_run F5 Y c_law_draw, m5, k5, b5, .nil⟩
  have c_law_name : Cal P w K mg base 3 "_law_name" (spTx IsName 21) [] := ⟨f6, _, _, _, ok_law_name F6 Y c_law_draw c_law_run c_law_words, m6, k6, b6, .nil⟩
  have c_law_class : Cal P w K mg base 3 "_law_class" (spTx IsClass 0) [] := ⟨f7, _, _, _, ok_law_class F7 c_law_run, m7, k7, b7, .nil⟩
  have c_law_number : Cal P w K mg base 3 "_law_number" spNum [] := ⟨f8, _, _, _, ok_law_number F8 c_law_draw, m8, k8, b8, .nil⟩
  have c_law_characters : Cal P w K mg base 3 "_law_characters" (spTx IsText 0) [] := ⟨f9, _, _, _, ok_law_characters F9 Y c_law_draw, m9, k9, b9, .nil⟩
  have c_law_names : Cal P w K mg base 4 "_law_names" spGNames [] := ⟨f10, _, _, _, ok_law_names F10 Y c_law_name, m10, k10, b10, .nil⟩
  have c_law_commas : Cal P w K mg base 1 "_law_commas" spCommas [] := ⟨f11, _, _, _, ok_law_commas F11 Y, m11, k11, b11, .nil⟩
  have c_law_leaf : Cal P w K mg base 4 "_law_leaf" (spLeaf K) [] := ⟨f12, _, _, _, ok_law_leaf F12 Y c_law_draw c_law_number c_law_class c_law_characters c_law_name, m12, k12, b12, .nil⟩
  have GC : GenC P w K mg base := ⟨Y, c_law_draw, c_law_name, c_law_names, c_law_commas, c_law_leaf, ⟨⟨_, _, F17, m17, k17, b17⟩⟩, ⟨⟨_, _, F16, m16, k16, b16⟩⟩, ⟨⟨_, _, F13, m13, k13, b13⟩⟩, ⟨⟨_, _, F14, m14, k14, b14⟩⟩, ⟨⟨_, _, F15, m15, k15, b15⟩⟩, ⟨⟨_, _, F18, m18, k18, b18⟩⟩, ⟨⟨_, _, F19, m19, k19, b19⟩⟩, ⟨⟨_, _, F20, m20, k20, b20⟩⟩⟩
  have c_law_method : Cal P w K mg base 127 "_law_method" (spMeth K) [] := ⟨f21, _, _, _, ok_law_method (k := 126) F21 Y (by decide) c_law_draw c_law_name c_law_names c_law_commas (GC.body 12), m21, k21, b21, .nil⟩
  have c_law_same : Cal P w K mg base 31 "_law_same" (spSame K 30) [] := same_all Y ⟨⟨_, _, F22, m22, k22, b22⟩⟩ 30
  have c_law_place : Cal P w K mg base 1 "_law_place" (spLPl K) [] := ⟨f23, _, _, _, ok_law_place F23 Y, m23, k23, b23, .nil⟩
  have c_law_truth_rows : Cal P w K mg base 1 "_law_truth_rows" (spTruR K) [] := ⟨f26, _, _, _, ok_law_truth_rows F26, m26, k26, b26, .nil⟩
  have RC : RwC P w K mg base := ⟨Y, c_law_place, c_law_truth_rows, ⟨⟨_, _, F24, m24, k24, b24⟩⟩, ⟨⟨_, _, F25, m25, k25, b25⟩⟩, ⟨⟨_, _, F27, m27, k27, b27⟩⟩, ⟨⟨_, _, F28, m28, k28, b28⟩⟩, ⟨⟨_, _, F29, m29, k29, b29⟩⟩⟩
  have c_law_flat : Cal P w K mg base 14 "_law_flat" (spFlat K 13) [] := flat_all Y ⟨⟨_, _, F30, m30, k30, b30⟩⟩ 13
  exact ok_law F31 Y c_law_state c_law_draw c_law_names c_law_class c_law_method (RC.allL 12) ccompile_method c_law_flat c_law_same
theorem walk {l : PySem.W.OpenLaw} {q : Program} {loose : List Str} {XP : (Str → Option Value) → Heap → Prop} {YP : World → Heap → Prop} {d : DefRec} {K : Params → PySem.W.Frag} (hn : l.most = some 63) (hdf : d.params.defaults = [])
    (hY : ∀ (w : World) (h : Heap), YP w h → (K w.params).In h)
    (F : ∀ (w : World) (mg : Str → Option Value) (fa : Addr) (h : Heap), (K w.params).In h → h.Ns mainGlobals mg → mg d.name = some (.ref fa) →
      ∃ fd : FuncData, (∀ (s : Shared) (u : Value), BindsTo s fd ⟨[u], []⟩ [("script", u)]) ∧ ∀ base : Heap, (K w.params).In base → base.Ns mainGlobals mg → FnOk l.prog w (K w.params) mg base CX0 128 fa fd ["script"] (spLaw (K w.params))) :
    PySem.W.WalkO q loose XP YP l.row.toRowW d [] (fun f vs => PySem.call f vs) :=
  L2.walk_of (n := 63) (k := 128) (x := "script") (CX := fun _ => CX0) (sp := fun w => spLaw (K w.params)) hn (by decide) hdf ⟨rfl, by decide, by decide⟩ hY F (fun _ _ a ns hl _ hS => ⟨a, ns, rfl, hS, hl, fun _ => rfl⟩) fun _ _ _ _ _ z => z
end
end Lv

open PySem PySem.W PyProof.Rows in
set_option maxRecDepth 100000 in
set_option maxHeartbeats 0 in
theorem PySem.Challenge.cw_livestead_k18_instructions_in_their_orde_holds : PySem.Challenge.rw_livestead_k18_instructions_in_their_orde.Holds := by
  w_on; o_law; k_head; (case hw => w_witness2)
  k_fill
  refine Lv.walk (l := PySem.Challenge.rw_livestead_k18_instructions_in_their_orde) rfl rfl (fun w h Y => PySem.W.kIn_of Y) ?F
  case F =>
    intro w mg fa h KX G hmg
    refine' Lv.all_mk (P := PySem.Challenge.rw_livestead_k18_instructions_in_their_orde.prog) KX G hmg ?a0 ?l0 ?c0 ?k0 ?a1 ?l1 ?c1 ?k1 ?a2 ?l2 ?c2 ?k2 ?a3 ?l3 ?c3 ?k3 ?a4 ?l4 ?c4 ?k4 ?a5 ?l5 ?c5 ?k5 ?a6 ?l6 ?c6 ?k6 ?a7 ?l7 ?c7 ?k7 ?a8 ?l8 ?c8 ?k8 ?a9 ?l9 ?c9 ?k9 ?a10 ?l10 ?c10 ?k10 ?a11 ?l11 ?c11 ?k11 ?a12 ?l12 ?c12 ?k12 ?a13 ?l13 ?c13 ?k13 ?a14 ?l14 ?c14 ?k14 ?a15 ?l15 ?c15 ?k15 ?a16 ?l16 ?c16 ?k16 ?a17 ?l17 ?c17 ?k17 ?a18 ?l18 ?c18 ?k18 ?a19 ?l19 ?c19 ?k19 ?a20 ?l20 ?c20 ?k20 ?a21 ?l21 ?c21 ?k21 ?a22 ?l22 ?c22 ?k22 ?a23 ?l23 ?c23 ?k23 ?a24 ?l24 ?c24 ?k24 ?a25 ?l25 ?c25 ?k25 ?a26 ?l26 ?c26 ?k26 ?a27 ?l27 ?c27 ?k27 ?a28 ?l28 ?c28 ?k28 ?a29 ?l29 ?c29 ?k29 ?a30 ?l30 ?c30 ?k30 ?a31 ?l31 ?c31 ?k31 ?z_len ?z_int ?z_list ?z_range ?z_max ?z_str ?z_isinstance ?z_bool ?z_ord ?z_tuple ?z_enumerate ?z_min ?z_abs ?z_all ?z_any ?z_sorted ?z_sum ?cC ?cG ?cD ?cO ?cS ?cM ?cK ?cn_scopes ?cn_owner ?cn_slots ?cn_instructions ?cn_blocks ?qi_cinit ?qf_cinit ?ql_cinit ?qc_cinit ?qk_cinit ?qi_ccode ?qf_ccode ?ql_ccode ?qc_ccode ?qk_ccode ?qi_cput ?qf_cput ?ql_cput ?qc_cput ?qk_cput ?qi_cput_leading ?qf_cput_leading ?ql_cput_leading ?qc_cput_leading ?qk_cput_leading ?qi_clead_here ?qf_clead_here ?ql_clead_here ?qc_clead_here ?qk_clead_here ?qi_cput_into ?qf_cput_into ?ql_cput_into ?qc_cput_into ?qk_cput_into ?qi_cend_with_none ?qf_cend_with_none ?ql_cend_with_none ?qc_cend_with_none ?qk_cend_with_none ?qi_cbody ?qf_cbody ?ql_cbody ?qc_cbody ?qk_cbody ?qi_cstatement ?qf_cstatement ?ql_cstatement ?qc_cstatement ?qk_cstatement ?qi_cloop ?qf_cloop ?ql_cloop ?qc_cloop ?qk_cloop ?qi_cchoice ?qf_cchoice ?ql_cchoice ?qc_cchoice ?qk_cchoice ?qi_cattempt ?qf_cattempt ?ql_cattempt ?qc_cattempt ?qk_cattempt ?qi_ckept ?qf_ckept ?ql_ckept ?qc_ckept ?qk_ckept ?qi_cexpression ?qf_cexpression ?ql_cexpression ?qc_cexpression ?qk_cexpression ?qi_cexpressions ?qf_cexpressions ?ql_cexpressions ?qc_cexpressions ?qk_cexpressions ?qi_cboth ?qf_cboth ?ql_cboth ?qc_cboth ?qk_cboth ?qi_ceither ?qf_ceither ?ql_ceither ?qc_ceither ?qk_ceither ?qi_ctruth ?qf_ctruth ?ql_ctruth ?qc_ctruth ?qk_ctruth ?qi_cblock ?qf_cblock ?ql_cblock ?qc_cblock ?qk_cblock
    (case a0 => k_is)
    (case l0 => k_is)
    (case c0 => k_is)
    (case k0 => k_is)
    (case a1 => k_is)
    (case l1 => k_is)
    (case c1 => k_is)
    (case k1 => k_is)
    (case a2 => k_is)
    (case l2 => k_is)
    (case c2 => k_is)
    (case k2 => k_is)
    (case a3 => k_is)
    (case l3 => k_is)
    (case c3 => k_is)
    (case k3 => k_is)
    (case a4 => k_is)
    (case l4 => k_is)
    (case c4 => k_is)
    (case k4 => k_is)
    (case a5 => k_is)
    (case l5 => k_is)
    (case c5 => k_is)
    (case k5 => k_is)
    (case a6 => k_is)
    (case l6 => k_is)
    (case c6 => k_is)
    (case k6 => k_is)
    (case a7 => k_is)
    (case l7 => k_is)
    (case c7 => k_is)
    (case k7 => k_is)
    (case a8 => k_is)
    (case l8 => k_is)
    (case c8 => k_is)
    (case k8 => k_is)
    (case a9 => k_is)
    (case l9 => k_is)
    (case c9 => k_is)
    (case k9 => k_is)
    (case a10 => k_is)
    (case l10 => k_is)
    (case c10 => k_is)
    (case k10 => k_is)
    (case a11 => k_is)
    (case l11 => k_is)
    (case c11 => k_is)
    (case k11 => k_is)
    (case a12 => k_is)
    (case l12 => k_is)
    (case c12 => k_is)
    (case k12 => k_is)
    (case a13 => k_is)
    (case l13 => k_is)
    (case c13 => k_is)
    (case k13 => k_is)
    (case a14 => k_is)
    (case l14 => k_is)
    (case c14 => k_is)
    (case k14 => k_is)
    (case a15 => k_is)
    (case l15 => k_is)
    (case c15 => k_is)
    (case k15 => k_is)
    (case a16 => k_is)
    (case l16 => k_is)
    (case c16 => k_is)
    (case k16 => k_is)
    (case a17 => k_is)
    (case l17 => k_is)
    (case c17 => k_is)
    (case k17 => k_is)
    (case a18 => k_is)
    (case l18 => k_is)
    (case c18 => k_is)
    (case k18 => k_is)
    (case a19 => k_is)
    (case l19 => k_is)
    (case c19 => k_is)
    (case k19 => k_is)
    (case a20 => k_is)
    (case l20 => k_is)
    (case c20 => k_is)
    (case k20 => k_is)
    (case a21 => k_is)
    (case l21 => k_is)
    (case c21 => k_is)
    (case k21 => k_is)
    (case a22 => k_is)
    (case l22 => k_is)
    (case c22 => k_is)
    (case k22 => k_is)
    (case a23 => k_is)
    (case l23 => k_is)
    (case c23 => k_is)
    (case k23 => k_is)
    (case a24 => k_is)
    (case l24 => k_is)
    (case c24 => k_is)
    (case k24 => k_is)
    (case a25 => k_is)
    (case l25 => k_is)
    (case c25 => k_is)
    (case k25 => k_is)
    (case a26 => k_is)
    (case l26 => k_is)
    (case c26 => k_is)
    (case k26 => k_is)
    (case a27 => k_is)
    (case l27 => k_is)
    (case c27 => k_is)
    (case k27 => k_is)
    (case a28 => k_is)
    (case l28 => k_is)
    (case c28 => k_is)
    (case k28 => k_is)
    (case a29 => k_is)
    (case l29 => k_is)
    (case c29 => k_is)
    (case k29 => k_is)
    (case a30 => k_is)
    (case l30 => k_is)
    (case c30 => k_is)
    (case k30 => k_is)
    (case a31 => k_is)
    (case l31 => k_is)
    (case c31 => k_is)
    (case k31 => k_is)
    (case z_len => k_is)
    (case z_int => k_is)
    (case z_list => k_is)
    (case z_range => k_is)
    (case z_max => k_is)
    (case z_str => k_is)
    (case z_isinstance => k_is)
    (case z_bool => k_is)
    (case z_ord => k_is)
    (case z_tuple => k_is)
    (case z_enumerate => k_is)
    (case z_min => k_is)
    (case z_abs => k_is)
    (case z_all => k_is)
    (case z_any => k_is)
    (case z_sorted => k_is)
    (case z_sum => k_is)
    (case cC => k_is)
    (case cG => k_is)
    (case cD => k_is)
    (case cO => k_is)
    (case cS => k_is)
    (case cM => k_is)
    (case cK => k_is)
    (case cn_scopes => k_is)
    (case cn_owner => k_is)
    (case cn_slots => k_is)
    (case cn_instructions => k_is)
    (case cn_blocks => k_is)
    (case qi_cinit => k_is)
    (case qf_cinit => k_is)
    (case ql_cinit => k_is)
    (case qc_cinit => k_is)
    (case qk_cinit => k_is)
    (case qi_ccode => k_is)
    (case qf_ccode => k_is)
    (case ql_ccode => k_is)
    (case qc_ccode => k_is)
    (case qk_ccode => k_is)
    (case qi_cput => k_is)
    (case qf_cput => k_is)
    (case ql_cput => k_is)
    (case qc_cput => k_is)
    (case qk_cput => k_is)
    (case qi_cput_leading => k_is)
    (case qf_cput_leading => k_is)
    (case ql_cput_leading => k_is)
    (case qc_cput_leading => k_is)
    (case qk_cput_leading => k_is)
    (case qi_clead_here => k_is)
    (case qf_clead_here => k_is)
    (case ql_clead_here => k_is)
    (case qc_clead_here => k_is)
    (case qk_clead_here => k_is)
    (case qi_cput_into => k_is)
    (case qf_cput_into => k_is)
    (case ql_cput_into => k_is)
    (case qc_cput_into => k_is)
    (case qk_cput_into => k_is)
    (case qi_cend_with_none => k_is)
    (case qf_cend_with_none => k_is)
    (case ql_cend_with_none => k_is)
    (case qc_cend_with_none => k_is)
    (case qk_cend_with_none => k_is)
    (case qi_cbody => k_is)
    (case qf_cbody => k_is)
    (case ql_cbody => k_is)
    (case qc_cbody => k_is)
    (case qk_cbody => k_is)
    (case qi_cstatement => k_is)
    (case qf_cstatement => k_is)
    (case ql_cstatement => k_is)
    (case qc_cstatement => k_is)
    (case qk_cstatement => k_is)
    (case qi_cloop => k_is)
    (case qf_cloop => k_is)
    (case ql_cloop => k_is)
    (case qc_cloop => k_is)
    (case qk_cloop => k_is)
    (case qi_cchoice => k_is)
    (case qf_cchoice => k_is)
    (case ql_cchoice => k_is)
    (case qc_cchoice => k_is)
    (case qk_cchoice => k_is)
    (case qi_cattempt => k_is)
    (case qf_cattempt => k_is)
    (case ql_cattempt => k_is)
    (case qc_cattempt => k_is)
    (case qk_cattempt => k_is)
    (case qi_ckept => k_is)
    (case qf_ckept => k_is)
    (case ql_ckept => k_is)
    (case qc_ckept => k_is)
    (case qk_ckept => k_is)
    (case qi_cexpression => k_is)
    (case qf_cexpression => k_is)
    (case ql_cexpression => k_is)
    (case qc_cexpression => k_is)
    (case qk_cexpression => k_is)
    (case qi_cexpressions => k_is)
    (case qf_cexpressions => k_is)
    (case ql_cexpressions => k_is)
    (case qc_cexpressions => k_is)
    (case qk_cexpressions => k_is)
    (case qi_cboth => k_is)
    (case qf_cboth => k_is)
    (case ql_cboth => k_is)
    (case qc_cboth => k_is)
    (case qk_cboth => k_is)
    (case qi_ceither => k_is)
    (case qf_ceither => k_is)
    (case ql_ceither => k_is)
    (case qc_ceither => k_is)
    (case qk_ceither => k_is)
    (case qi_ctruth => k_is)
    (case qf_ctruth => k_is)
    (case ql_ctruth => k_is)
    (case qc_ctruth => k_is)
    (case qk_ctruth => k_is)
    (case qi_cblock => k_is)
    (case qf_cblock => k_is)
    (case ql_cblock => k_is)
    (case qc_cblock => k_is)
    (case qk_cblock => k_is)
#print axioms PySem.Challenge.cw_livestead_k18_instructions_in_their_orde_holds
