import PyProof.Rows.All
import Wide.All
import OpenK.AllK
import Wide.FinOn
import HandS.ForMost
import HandS.StrMore
import HandS.IsInst
import HandS.Steps
import HandS.Evl
import HandS.Codes
import HandS.ForExc
import KE.KExcSuper
import HandS.Strs
import KE.KExcIs
import HandS.ExcIs
import HandS.FStr
import HandS.Star
import HandS.Defaults
import HandS.Small
import HandS.WordsDict
import KE.SortData
import HandS.SetFor
import HandS.Walk
import HandS.TupAny
import HandS.More
import HandS.SortKw
import HandS.Iter
import HandS.Exc
import HandS.ExcValue
import KE.SortKeyHeap
import HandS.HeadHook3
import HandS.Wide
import PySem.Challenge.RW_livestead_k32_data_as_texts
set_option Elab.async false
set_option linter.all false
set_option maxRecDepth 100000
set_option maxHeartbeats 2000000
/-! Readings step by step: one lemma a construct, texts as lists of codes. -/
namespace Lv
open PySem PySem.Spec PyProof.Rows L2

/-- a text of these codes -/
abbrev T (cs : List Nat) : V := .str ⟨cs.toArray⟩
theorem T_eta (x : Str) : V.str x = T x.cps.toList := by
  show V.str x = V.str ⟨x.cps.toList.toArray⟩
  simp
theorem T_inj {a b : List Nat} (h : T a = T b) : a = b := by
  have h1 : (⟨a.toArray⟩ : Str) = ⟨b.toArray⟩ := V.str.inj h
  have h2 : a.toArray = b.toArray := Str.mk.inj h1
  exact congrArg Array.toList h2
theorem T_iff {a b : List Nat} : T a = T b ↔ a = b := ⟨T_inj, fun h => by rw [h]⟩
theorem len_T (a : List Nat) : (⟨a.toArray⟩ : Str).length = a.length := by
  show a.toArray.size = a.length
  simp

def NewL (xs : List V) (H : Hp) (Q : VK) : Prop := xs.length ≤ sizeLine ∧ ∀ p, H p = none → Q (.ref p) (upd H p (.lst xs))
def NewT (xs : List V) (H : Hp) (Q : VK) : Prop := xs.length ≤ sizeLine ∧ ∀ p, H p = none → Q (.ref p) (upd H p (.tup xs))
section
variable {σ : L2.St} {H : Hp} {Q : VK} {D : Ends} {i : Nat} {v x y : V} {ta tb te : TE} {t u : TS} {g : TG} {r : R2} {K : PySem.W.Frag}
theorem w_var (h : σ[i]? = some (some v)) (k : Q v H) : tVar i σ H Q := ⟨v, h, k⟩
theorem w_c (k : Q v H) : tC v σ H Q := k
theorem w_cT {cs : List Nat} (k : Q (T cs) H) : tC (T cs) σ H Q := k
theorem ex_int {a : Int} {G : Int → Prop} (k : G a) : ∃ i, V.int a = V.int i ∧ G i := ⟨a, rfl, k⟩
theorem ex_bl {a : Bool} {G : Bool → Prop} (k : G a) : ∃ i, V.bl a = V.bl i ∧ G i := ⟨a, rfl, k⟩
theorem w_str {x : Str} (k : Q (T x.cps.toList) H) : tC (.str x) σ H Q := by
  show Q (.str x) H
  rw [T_eta]
  exact k
theorem w_seq (k : t { D with nx := u D } σ H) : tSeq t u D σ H := k
theorem w_next (k : D.nx σ H) : tNext D σ H := k
theorem w_asg (k : te σ H fun x H1 => g x σ H1 D.nx) : tAsg te g D σ H := k
theorem w_gname {G : L2.St → Hp → Prop} (k : G (σ.set i (some v)) H) : gName i v σ H G := k
theorem w_drop (k : te σ H fun _ H1 => D.nx σ H1) : tDrop te D σ H := k
theorem w_ret (k : te σ H D.rt) : tRet te D σ H := k
theorem w_retN (k : D.rt .non H) : tRetN D σ H := k
theorem w_op (k : ta σ H fun x H1 => tb σ H1 fun y H2 => r x y H2 Q) : tOp r ta tb σ H Q := k
theorem w_un {r : V → Hp → VK → Prop} (k : ta σ H fun x H1 => r x H1 Q) : tUn r ta σ H Q := k
theorem w_i0 {f : Int → Int → V} {a b : Int} (k : Q (f a b) H) : rI0 f (.int a) (.int b) H Q := ⟨a, b, rfl, rfl, k⟩
theorem w_i {C : Int → Int → Prop} {f : Int → Int → V} {a b : Int} (c : C a b) (k : Q (f a b) H) : rI C f (.int a) (.int b) H Q := ⟨a, b, rfl, rfl, c, k⟩
theorem w_mulR {f : Int → Int → V} {a b : Int} (c : -(2 ^ 64) < b ∧ b < 2 ^ 64) (k : Q (f a b) H) : rI CMul f (.int a) (.int b) H Q := ⟨a, b, rfl, rfl, .inr c, k⟩
theorem w_mulL {f : Int → Int → V} {a b : Int} (c : -(2 ^ 64) < a ∧ a < 2 ^ 64) (k : Q (f a b) H) : rI CMul f (.int a) (.int b) H Q := ⟨a, b, rfl, rfl, .inl c, k⟩
theorem w_ifS {c : TT} (k : c σ H fun b H1 => if b = true then t D σ H1 else u D σ H1) : tIfS c t u D σ H := k
theorem w_test {G : Bool → Hp → Prop} (k : te σ H fun x H' => ∃ b, x = .bl b ∧ G b H') : tTest te σ H G := k
theorem w_tB {G : Bool → Hp → Prop} (k : te σ H fun x H' => ∃ b, x = .bl b ∧ G b H') : tB te σ H G := k
theorem w_and {t u : TT} {G : Bool → Hp → Prop} (k : t σ H fun c H1 => if c = true then u σ H1 G else G false H1) : tAnd t u σ H G := k
theorem w_or {t u : TT} {G : Bool → Hp → Prop} (k : t σ H fun c H1 => if c = true then G true H1 else u σ H1 G) : tOr t u σ H G := k
theorem w_not {t : TT} {G : Bool → Hp → Prop} (k : t σ H fun c H1 => G (!c) H1) : tNot t σ H G := k
theorem w_andV (k : ta σ H fun x H1 => ∃ c, x = .bl c ∧ if c = true then tb σ H1 Q else Q (.bl false) H1) : tAndV ta tb σ H Q := k
theorem w_orV (k : ta σ H fun x H1 => ∃ c, x = .bl c ∧ if c = true then Q (.bl true) H1 else tb σ H1 Q) : tOrV ta tb σ H Q := k
theorem w_notV (k : ta σ H fun x H1 => ∃ c, x = .bl c ∧ Q (.bl (!c)) H1) : tNotV ta σ H Q := k
theorem w_eq (s : scal x y = true) (k : Q (.bl (decide (x = y))) H) : rEq x y H Q := ⟨s, k⟩
theorem w_ne (s : scal x y = true) (k : Q (.bl (!decide (x = y))) H) : rNe x y H Q := ⟨s, k⟩
theorem w_call {sp : Sp} {dvs : List V} {E : XK} {t : TA} (k : t σ H fun vs H1 => sp (vs ++ dvs) H1 Q E) : tCall sp dvs E t σ H Q := k
theorem w_cb {r : List V → Hp → VK → Prop} {t : TA} (k : t σ H fun vs H1 => r vs H1 Q) : tCB r t σ H Q := k
theorem w_nil {G : List V → Hp → Prop} (k : G [] H) : tNil σ H G := k
theorem w_cons {tr : TA} {G : List V → Hp → Prop} (k : ta σ H fun x H1 => tr σ H1 fun xs H2 => G (x :: xs) H2) : tCons ta tr σ H G := k
theorem w_tup {t : TA} (k : t σ H fun xs H1 => NewT xs H1 Q) : tTup t σ H Q := k
theorem w_lst {t : TA} (k : t σ H fun xs H1 => NewL xs H1 Q) : tLst t σ H Q := k
theorem w_sl {r : V → Option Int → Option Int → Hp → VK → Prop} {tl th : TO} (k : te σ H fun x H1 => tl σ H1 fun l H2 => th σ H2 fun u H3 => r x l u H3 Q) : tSl r te tl th σ H Q := k
theorem w_part {G : Option Int → Hp → Prop} (k : te σ H fun x H1 => ∃ i, x = .int i ∧ G (some i) H1) : tPart te σ H G := k
theorem w_nopart {G : Option Int → Hp → Prop} (k : G none H) : tNoPart σ H G := k
theorem w_gsub {to ti : TE} {t : TSet} {G : L2.St → Hp → Prop} (k : to σ H fun o H1 => ti σ H1 fun i H2 => t o i v H2 fun H3 => G σ H3) : gSub to ti t v σ H G := k
theorem w_bm {Ty : String} {r : V → List V → Hp → VK → Prop} {to : TE} {t : TA} (k : to σ H fun x H1 => tyV K Ty x H1 ∧ t σ H1 fun xs H2 => r x xs H2 Q) : tBM K Ty r to t σ H Q := k
theorem w_bm0 {Ty : String} {r : V → List V → Hp → VK → Prop} {to : TE} (k : to σ H fun x H1 => tyV K Ty x H1 ∧ r x [] H1 Q) : tBM0 K Ty r to σ H Q := k
theorem w_aug {ti : TIp} (h : σ[i]? = some (some x)) (k : te σ H fun y H1 => ti x y H1 fun z H2 => D.nx (σ.set i (some z)) H2) : tAug i te ti D σ H := ⟨x, h, k⟩
theorem w_ifE {c : TT} (k : c σ H fun b H1 => if b = true then ta σ H1 Q else tb σ H1 Q) : tIf c ta tb σ H Q := k

/-! tests -/
theorem w_if {p A B : Prop} [Decidable p] (h1 : p → A) (h2 : ¬ p → B) : if decide p = true then A else B := by
  by_cases h : p
  · rw [if_pos (decide_eq_true h)]; exact h1 h
  · rw [if_neg (by simp [h])]; exact h2 h
theorem w_ifn {p A B : Prop} [Decidable p] (h1 : ¬ p → A) (h2 : p → B) : if (!decide p) = true then A else B := by
  by_cases h : p
  · rw [if_neg (by simp [h])]; exact h2 h
  · rw [if_pos (by simp [h])]; exact h1 h
theorem w_ifI {a b : Int} {A B : Prop} (h1 : a = b → A) (h2 : a ≠ b → B) : if decide (V.int a = V.int b) = true then A else B :=
  w_if (fun h => h1 (V.int.inj h)) fun h => h2 fun e => h (by rw [e])
theorem w_ifT {a b : List Nat} {A B : Prop} (h1 : a = b → A) (h2 : a ≠ b → B) : if decide (T a = T b) = true then A else B :=
  w_if (fun h => h1 (T_inj h)) fun h => h2 fun e => h (by rw [e])
theorem w_ifIn {a b : Int} {A B : Prop} (h1 : a ≠ b → A) (h2 : a = b → B) : if (!decide (V.int a = V.int b)) = true then A else B :=
  w_ifn (fun h => h1 fun e => h (by rw [e])) fun h => h2 (V.int.inj h)
theorem w_ifTn {a b : List Nat} {A B : Prop} (h1 : a ≠ b → A) (h2 : a = b → B) : if (!decide (T a = T b)) = true then A else B :=
  w_ifn (fun h => h1 fun e => h (by rw [e])) fun h => h2 (T_inj h)
theorem w_nt {A B : Prop} (h : B) : if (!true) = true then A else B := by
  show if false = true then A else B
  exact L2.iteF h
theorem w_nf {A B : Prop} (h : A) : if (!false) = true then A else B := by
  show if true = true then A else B
  exact L2.iteT h
theorem w_ifb {b : Bool} {A B : Prop} (h1 : b = true → A) (h2 : b = false → B) : if b = true then A else B := by
  cases b with
  | true => rw [if_pos rfl]; exact h1 rfl
  | false => rw [if_neg Bool.false_ne_true]; exact h2 rfl

/-! texts -/
def rAddS : R2 := fun x y H Q => ∃ i j, x = .str i ∧ y = .str j ∧ i.length + j.length ≤ sizeLine ∧ Q (.str (i ++ j)) H
theorem op_addS {X : Cx} : OpR X (binaryOp .Add) rAddS := op_add_str
theorem w_addS {a b : List Nat} (z : a.length + b.length ≤ 1000000) (k : Q (T (a ++ b)) H) : rAddS (T a) (T b) H Q := by
  refine ⟨_, _, rfl, rfl, ?_, ?_⟩
  · rw [len_T, len_T]
    exact Nat.le_trans z (by decide)
  · have e : (⟨a.toArray⟩ : Str) ++ ⟨b.toArray⟩ = ⟨(a ++ b).toArray⟩ := by
      show (⟨a.toArray ++ b.toArray⟩ : Str) = _
      simp
    rw [e]
    exact k
def rMulS : R2 := fun x y H Q => ∃ z n, x = .str z ∧ y = .int n ∧ -(2 ^ 63) ≤ n ∧ n < 1000000 ∧ z.length * n.toNat ≤ 1000000 ∧ Q (T (List.replicate n.toNat z.cps.toList).flatten) H
theorem foldl_rep (c : Array Nat) : ∀ (n : Nat) (acc : Array Nat), (List.replicate n c).foldl (· ++ ·) acc = acc ++ (List.replicate n c.toList).flatten.toArray
  | 0, acc => by simp
  | n + 1, acc => by
    rw [List.replicate_succ, List.foldl_cons, foldl_rep c n, List.replicate_succ, List.flatten_cons]
    apply Array.ext'
    simp
theorem op_mulS {X : Cx} : OpR X (binaryOp .Mult) rMulS := by
  intro pins s σ H x y v u Q I rx ry h
  obtain ⟨z, n, rfl, rfl, h1, h2, h3, q⟩ := h
  obtain ⟨t, rfl⟩ := rx
  obtain ⟨t', rfl⟩ := ry
  refine P.mul_str ?_ ?_ ?_ ?_
  · rw [decide_eq_false (by omega), decide_eq_false (by omega)]; rfl
  · intro hn _ hc
    have hz : z.length ≤ 1000000 := by
      have : z.length * 1 ≤ z.length * n.toNat := Nat.mul_le_mul_left _ (by omega)
      omega
    have : (2 ^ 63 - 1 : Int) / n ≥ 9000000000000 := by
      refine (Int.le_ediv_iff_mul_le (by omega)).mpr ?_
      omega
    omega
  · intro hn _
    show decide (sizeLine < z.length * n.toNat) = false
    refine decide_eq_false ?_
    rw [sizeLine_eq]
    omega
  · by_cases hn : n < 1
    · rw [if_pos hn]
      have e : (List.replicate n.toNat z.cps.toList).flatten = [] := by
        rw [show n.toNat = 0 by omega]; rfl
      rw [e] at q
      exact ⟨by decide, T [], H, I.tok _, ⟨_, rfl⟩, q⟩
    · rw [if_neg hn]
      by_cases hc : (n == 1 || z.length == 0) = true
      · rw [if_pos hc]
        have e : (List.replicate n.toNat z.cps.toList).flatten = z.cps.toList := by
          rw [Bool.or_eq_true] at hc
          rcases hc with hc | hc
          · have : n = 1 := by simpa using hc
            subst this
            simp
          · have hz : z.cps.size = 0 := (beq_iff_eq.mp hc : z.length = 0)
            have : z.cps.toList = [] := by
              rw [← List.length_eq_zero_iff]; simpa using hz
            rw [this]; simp
        rw [e, ← T_eta] at q
        exact ⟨.str z, H, I, ⟨_, rfl⟩, q⟩
      · rw [if_neg hc]
        have e : (⟨(List.replicate n.toNat z.cps).foldl (· ++ ·) #[]⟩ : Str) = ⟨((List.replicate n.toNat z.cps.toList).flatten).toArray⟩ := by
          rw [foldl_rep]; simp
        rw [e]
        refine ⟨?_, T _, H, I.tok _, ⟨_, rfl⟩, q⟩
        rw [len_T]
        have : (List.replicate n.toNat z.cps.toList).flatten.length = n.toNat * z.cps.size := by simp
        rw [this, Nat.mul_comm]
        exact Nat.le_trans h3 (by rw [sizeLine_eq]; omega)
theorem w_mulS {a : List Nat} {n : Int} (h1 : -(2 ^ 63) ≤ n) (h2 : n < 1000000) (h3 : a.length * n.toNat ≤ 1000000) (k : Q (T (List.replicate n.toNat a).flatten) H) : rMulS (T a) (.int n) H Q :=
  ⟨_, n, rfl, rfl, h1, h2, by rw [len_T]; exact h3, k⟩
theorem w_ixS {a : List Nat} {j : Int} {c : Nat} (z : a.length ≤ 1000000) (h : atI a j = some c) (k : Q (T [c]) H) : rIxS (T a) (.int j) H Q :=
  ⟨_, j, c, rfl, rfl, by rw [len_T]; exact Nat.le_trans z (by decide), h, k⟩
def cut (a : List Nat) (lo hi : Option Int) : List Nat := (a.drop (HT.sIx a.length 0 lo)).take (HT.sIx a.length a.length hi - HT.sIx a.length 0 lo)
theorem w_slS {a : List Nat} {lo hi : Option Int} (z : a.length ≤ 1000000) (k : Q (T (cut a lo hi)) H) : rSlS (T a) lo hi H Q := by
  refine ⟨_, rfl, by rw [len_T]; exact Nat.le_trans z (by decide), ?_⟩
  have e : cutS ⟨a.toArray⟩ lo hi = ⟨(cut a lo hi).toArray⟩ := by
    unfold cutS cut
    rw [len_T]
  rw [e]
  exact k
def rLenS : List V → Hp → VK → Prop := fun xs H Q => ∃ z, xs = [.str z] ∧ z.length ≤ sizeLine ∧ Q (.int z.length) H
theorem call_lenS {X : Cx} : CallR X (.builtin "len") rLenS := call_len_str
theorem w_lenS {a : List Nat} (z : a.length ≤ 1000000) (k : Q (.int (a.length : Int)) H) : rLenS [T a] H Q :=
  ⟨_, rfl, by rw [len_T]; exact Nat.le_trans z (by decide), by rw [len_T]; exact k⟩
def rLenL (K : PySem.W.Frag) : List V → Hp → VK → Prop := fun xs H Q => ∃ p ys, xs = [.ref p] ∧ (SqL K H p ys ∨ SqT K H p ys) ∧ Q (.int ys.length) H
theorem call_lenL {X : Cx} : CallR X (.builtin "len") (rLenL X.K) := call_len_seq
theorem w_lenL {p : Addr} {ys : List V} (h : SqL K H p ys) (k : Q (.int (ys.length : Int)) H) : rLenL K [.ref p] H Q := ⟨p, ys, rfl, .inl h, k⟩
theorem w_lenT {p : Addr} {ys : List V} (h : SqT K H p ys) (k : Q (.int (ys.length : Int)) H) : rLenL K [.ref p] H Q := ⟨p, ys, rfl, .inr h, k⟩
def rInt1 : List V → Hp → VK → Prop := fun xs H Q => (∃ i, xs = [.int i] ∧ Q (.int i) H) ∨ ∃ k, xs = [.bl k] ∧ Q (.int (if k then 1 else 0)) H
theorem call_intI {X : Cx} : CallR X (.type "int") rInt1 := call_int1
theorem w_intI {a : Int} (k : Q (.int a) H) : rInt1 [.int a] H Q := .inl ⟨a, rfl, k⟩
theorem w_intB {b : Bool} (k : Q (.int (if b then 1 else 0)) H) : rInt1 [.bl b] H Q := .inr ⟨b, rfl, k⟩
def rIntS : List V → Hp → VK → Prop := fun xs H Q => ∃ a n, xs = [.str a] ∧ PySem.intText? a = some n ∧ a.length ≤ 640 ∧ Q (.int n) H
theorem call_intS {X : Cx} : CallR X (.type "int") rIntS := call_int_str
theorem w_intS {a : List Nat} {n : Int} (h : PySem.intText? ⟨a.toArray⟩ = some n) (z : a.length ≤ 640) (k : Q (.int n) H) : rIntS [T a] H Q := ⟨_, n, rfl, h, by rw [len_T]; exact z, k⟩
def rMax2 : List V → Hp → VK → Prop := fun xs H Q => ∃ i j, xs = [.int i, .int j] ∧ Q (.int (if j > i then j else i)) H
theorem call_maxI {X : Cx} (hc : X.calm = true) : CallR X (.builtin "max") rMax2 := call_max2 hc
theorem w_max {a b : Int} (k : Q (.int (if b > a then b else a)) H) : rMax2 [.int a, .int b] H Q := ⟨a, b, rfl, k⟩
def rStrI : List V → Hp → VK → Prop := fun xs H Q => ∃ i : Int, xs = [.int i] ∧ i.natAbs.log2 < 1920 ∧ Q (.str (toString i)) H
theorem call_strI {X : Cx} : CallR X (.type "str") rStrI := call_str_int
def rListOf (K : PySem.W.Frag) : List V → Hp → VK → Prop := fun xs H Q => ∃ p ys, xs = [.ref p] ∧ (SqL K H p ys ∨ SqT K H p ys) ∧ ∀ l, H l = none → Q (.ref l) (upd H l (.lst ys))
theorem call_listOf {X : Cx} : CallR X (.type "list") (rListOf X.K) := call_list_of
theorem w_listOf {p : Addr} {ys : List V} (h : SqL K H p ys) (k : ∀ l, H l = none → Q (.ref l) (upd H l (.lst ys))) : rListOf K [.ref p] H Q := ⟨p, ys, rfl, .inl h, k⟩
def rOrd : List V → Hp → VK → Prop := fun xs H Q => ∃ x, xs = [.str x] ∧ x.length = 1 ∧ Q (.int (x.cps.getD 0 0 : Nat)) H
theorem call_ordS {X : Cx} : CallR X (.builtin "ord") rOrd := call_ord
theorem w_ord {c : Nat} (k : Q (.int (c : Int)) H) : rOrd [T [c]] H Q := ⟨_, rfl, rfl, k⟩
/-- a text within a text: one sign -/
def rInC : R2 := fun x y H Q => ∃ (c : Nat) (z : Str), x = .str ⟨#[c]⟩ ∧ y = .str z ∧ Q (.bl (decide (c ∈ z.cps.toList))) H
theorem op_inC {X : Cx} : OpR X (compareOp .In) rInC := op_in_sign
theorem w_inC {c : Nat} {a : List Nat} (k : Q (.bl (decide (c ∈ a))) H) : rInC (T [c]) (T a) H Q := ⟨c, _, rfl, rfl, k⟩
def rNinC : R2 := fun x y H Q => ∃ (c : Nat) (z : Str), x = .str ⟨#[c]⟩ ∧ y = .str z ∧ Q (.bl (!decide (c ∈ z.cps.toList))) H
theorem op_ninC {X : Cx} : OpR X (compareOp .NotIn) rNinC := op_notIn_sign
theorem w_ninC {c : Nat} {a : List Nat} (k : Q (.bl (!decide (c ∈ a))) H) : rNinC (T [c]) (T a) H Q := ⟨c, _, rfl, rfl, k⟩
/-- a text among texts -/
theorem eqV_T (a b : List Nat) : eqV (T a) (T b) = decide (a = b) := by
  show ((⟨a.toArray⟩ : Str) == ⟨b.toArray⟩) = _
  by_cases h : a = b
  · subst h; simp
  · rw [decide_eq_false h]
    exact beq_eq_false_iff_ne.mpr fun e => h (T_inj (congrArg V.str e))
theorem inV_T (a : List Nat) (l : List (List Nat)) : inV (T a) (l.map T) = decide (a ∈ l) := by
  induction l with
  | nil => rfl
  | cons b l ih =>
    unfold inV at *
    rw [List.map_cons, List.any_cons, ih, eqV_T]
    by_cases h : b = a
    · subst h; simp
    · have h2 : ¬ a = b := fun e => h e.symm
      simp [h, h2]
theorem flat_T (l : List (List Nat)) : (l.map T).all flatV = true := by
  induction l with
  | nil => rfl
  | cons b l ih => rw [List.map_cons, List.all_cons, ih]; rfl
theorem w_inL {a : List Nat} {p : Addr} {l : List (List Nat)} (h : SqL K H p (l.map T)) (k : Q (.bl (decide (a ∈ l))) H) : rIn K false (T a) (.ref p) H Q :=
  ⟨p, _, rfl, .inl h, rfl, flat_T l, by rw [if_neg Bool.false_ne_true, inV_T]; exact k⟩
theorem w_inT {a : List Nat} {p : Addr} {l : List (List Nat)} (h : SqT K H p (l.map T)) (k : Q (.bl (decide (a ∈ l))) H) : rIn K false (T a) (.ref p) H Q :=
  ⟨p, _, rfl, .inr h, rfl, flat_T l, by rw [if_neg Bool.false_ne_true, inV_T]; exact k⟩
/-- lists and tuples at places -/
theorem w_ixL {p : Addr} {xs : List V} {j : Int} (h : SqL K H p xs) (e : atI xs j = some v) (k : Q v H) : rIxL K (.ref p) (.int j) H Q := ⟨p, xs, j, v, rfl, rfl, h, e, k⟩
theorem w_ixT {p : Addr} {xs : List V} {j : Int} (h : SqT K H p xs) (e : atI xs j = some v) (k : Q v H) : rIxT K (.ref p) (.int j) H Q := ⟨p, xs, j, v, rfl, rfl, h, e, k⟩
theorem w_setL {p : Addr} {xs : List V} {j : Int} {n : Nat} {G : Hp → Prop} (h : H p = some (.lst xs)) (e : ixN xs.length j = some n) (k : G (upd H p (.lst (xs.set n v)))) : rSetL (.ref p) (.int j) v H G := ⟨p, xs, j, n, rfl, rfl, h, e, k⟩
theorem w_append {p : Addr} {xs : List V} (h : H p = some (.lst xs)) (z : xs.length ≤ 1000000) (k : Q .non (upd H p (.lst (xs ++ [y])))) : rAppend (.ref p) [y] H Q :=
  ⟨p, xs, y, rfl, rfl, h, Nat.lt_of_le_of_lt z (by decide), k⟩
theorem w_cat {p q : Addr} {xs ys : List V} (hp : H p = some (.lst xs)) (hq : H q = some (.lst ys)) (z : xs.length + ys.length ≤ 1000000) (k : ∀ a, H a = none → Q (.ref a) (upd H a (.lst (xs ++ ys)))) : rCat (.ref p) (.ref q) H Q :=
  ⟨p, q, xs, ys, rfl, rfl, hp, hq, Nat.le_trans z (by decide), k⟩
theorem tyL {p : Addr} {xs : List V} (h : SqL K H p xs) : tyV K "list" (.ref p) H := .inl ⟨rfl, xs, h⟩
theorem tyS {a : List Nat} : tyV K "str" (T a) H := rfl
end

/-! new objects, the heap a letter -/
theorem same_new0 {p : Addr} {H : Hp} {o : HO} (h : H p = none) : Same H (upd H p o) := fun b u e => by
  rw [upd_ne (ne_of_none e h)]; exact e
section
variable {H : Hp} {Q : VK} {xs ys : List V} {K : PySem.W.Frag}
theorem w_newL (z : xs.length ≤ 1000000) (k : ∀ p H1, H p = none → Same H H1 → H1 p = some (.lst xs) → Q (.ref p) H1) : NewL xs H Q :=
  ⟨Nat.le_trans z (by decide), fun p hp => k p _ hp (same_new0 hp) upd_same⟩
theorem w_newT (z : xs.length ≤ 1000000) (k : ∀ p H1, H p = none → Same H H1 → H1 p = some (.tup xs) → Q (.ref p) H1) : NewT xs H Q :=
  ⟨Nat.le_trans z (by decide), fun p hp => k p _ hp (same_new0 hp) upd_same⟩
theorem w_cat2 {p q : Addr} (hp : H p = some (.lst xs)) (hq : H q = some (.lst ys)) (z : xs.length + ys.length ≤ 1000000) (k : ∀ a H1, H a = none → Same H H1 → H1 a = some (.lst (xs ++ ys)) → Q (.ref a) H1) : rCat (.ref p) (.ref q) H Q :=
  w_cat hp hq z fun a ha => k a _ ha (same_new0 ha) upd_same
theorem w_list2 {p : Addr} (h : SqL K H p ys) (k : ∀ l H1, H l = none → Same H H1 → H1 l = some (.lst ys) → Q (.ref l) H1) : rListOf K [.ref p] H Q := w_listOf h fun l hl => k l _ hl (same_new0 hl) upd_same
theorem w_app2 {p : Addr} {y : V} (h : H p = some (.lst xs)) (z : xs.length ≤ 1000000) (k : ∀ H1, H1 p = some (.lst (xs ++ [y])) → (∀ b o, b ≠ p → H b = some o → H1 b = some o) → Q .non H1) : rAppend (.ref p) [y] H Q :=
  w_append h z (k _ upd_same fun b o n e => by rw [upd_ne n]; exact e)
end

/-! loops -/
def ForR (g : TG) (tb : TS) (vs : List V) (D : Ends) (σ : L2.St) (H : Hp) : Prop := ∃ j : Int, vs = [.int j] ∧ -(2 ^ 62) ≤ j ∧ j < 2 ^ 62 ∧ ∃ W : Nat → Nat → L2.St → Hp → Prop, (∃ m, W 0 m σ H) ∧ ∀ i m σ H, W i m σ H →
  ((Itr 0 j.toNat).stop i H ∧ D.nx σ H) ∨ ((Itr 0 j.toNat).go i H ∧ ∃ N : L2.St → Hp → Prop, (∀ σ' H', N σ' H' → ∃ m', m' < m ∧ W (i + 1) m' σ' H') ∧ ∀ x H', (Itr 0 j.toNat).yld i H x H' → g x σ H' fun σ2 H2 => tb { D with nx := N, ct := N, bk := D.nx } σ2 H2)
def ForL (K : PySem.W.Frag) (g : TG) (tb : TS) (x : V) (D : Ends) (σ : L2.St) (H : Hp) : Prop := ∃ a, x = .ref a ∧ (∃ xs, SqL K H a xs) ∧ ∃ W : Nat → Nat → L2.St → Hp → Prop, (∃ m, W 0 m σ H) ∧ ∀ i m σ H, W i m σ H →
  ((Itl K a).stop i H ∧ D.nx σ H) ∨ ((Itl K a).go i H ∧ ∃ N : L2.St → Hp → Prop, (∀ σ' H', N σ' H' → ∃ m', m' < m ∧ W (i + 1) m' σ' H') ∧ ∀ x H', (Itl K a).yld i H x H' → g x σ H' fun σ2 H2 => tb { D with nx := N, ct := N, bk := D.nx } σ2 H2)
def ForT (K : PySem.W.Frag) (g : TG) (tb : TS) (x : V) (D : Ends) (σ : L2.St) (H : Hp) : Prop := ∃ a, x = .ref a ∧ (∃ xs, SqT K H a xs) ∧ ∃ W : Nat → Nat → L2.St → Hp → Prop, (∃ m, W 0 m σ H) ∧ ∀ i m σ H, W i m σ H →
  ((Itt K a).stop i H ∧ D.nx σ H) ∨ ((Itt K a).go i H ∧ ∃ N : L2.St → Hp → Prop, (∀ σ' H', N σ' H' → ∃ m', m' < m ∧ W (i + 1) m' σ' H') ∧ ∀ x H', (Itt K a).yld i H x H' → g x σ H' fun σ2 H2 => tb { D with nx := N, ct := N, bk := D.nx } σ2 H2)
def ForS (g : TG) (tb : TS) (x : V) (D : Ends) (σ : L2.St) (H : Hp) : Prop := ∃ z, x = .str z ∧ ∃ W : Nat → Nat → L2.St → Hp → Prop, (∃ m, W 0 m σ H) ∧ ∀ i m σ H, W i m σ H →
  ((Its z).stop i H ∧ D.nx σ H) ∨ ((Its z).go i H ∧ ∃ N : L2.St → Hp → Prop, (∀ σ' H', N σ' H' → ∃ m', m' < m ∧ W (i + 1) m' σ' H') ∧ ∀ x H', (Its z).yld i H x H' → g x σ H' fun σ2 H2 => tb { D with nx := N, ct := N, bk := D.nx } σ2 H2)
section
variable {σ : L2.St} {H : Hp} {D : Ends} {ta : TA} {te : TE} {g : TG} {tb : TS} {K : PySem.W.Frag}
theorem w_forR (k : ta σ H fun vs H1 => ForR g tb vs D σ H1) : tFor (iRng1 ta) g tb D σ H := k
theorem w_forL (k : te σ H fun x H1 => ForL K g tb x D σ H1) : tFor (iList K te) g tb D σ H := k
theorem w_forT (k : te σ H fun x H1 => ForT K g tb x D σ H1) : tFor (iTup K te) g tb D σ H := k
theorem w_forS (k : te σ H fun x H1 => ForS g tb x D σ H1) : tFor (iStr te) g tb D σ H := k
/-- what holds ahead of turn i; a turn; the end -/
theorem for_R {j : Int} (Pv : Nat → L2.St → Hp → Prop) (b0 : 0 ≤ j) (b1 : j < 1000000) (h0 : Pv 0 σ H) (hs : ∀ (i : Nat) σ H, (i : Int) < j → Pv i σ H → g (.int (0 + (i : Int))) σ H fun σ2 H2 => tb { D with nx := Pv (i + 1), ct := Pv (i + 1), bk := D.nx } σ2 H2)
    (hd : ∀ σ H, Pv j.toNat σ H → D.nx σ H) : ForR g tb [.int j] D σ H :=
  ⟨j, rfl, by omega, by omega, for_range (lo := 0) (n := j.toNat) Pv h0 (fun i σ H hi p => hs i σ H (by omega) p) hd⟩
theorem for_L {a : Addr} {xs : List V} (Pv : Nat → L2.St → Hp → Prop) (h0 : Pv 0 σ H) (hl : ∀ i σ H, i ≤ xs.length → Pv i σ H → SqL K H a xs) (hs : ∀ i x σ H, xs[i]? = some x → Pv i σ H → g x σ H fun σ2 H2 => tb { D with nx := Pv (i + 1), ct := Pv (i + 1), bk := D.nx } σ2 H2)
    (hd : ∀ σ H, Pv xs.length σ H → D.nx σ H) : ForL K g tb (.ref a) D σ H :=
  ⟨a, rfl, ⟨xs, hl 0 σ H (Nat.zero_le _) h0⟩, for_list (xs := xs) Pv h0 hl hs hd⟩
theorem for_T {a : Addr} {xs : List V} (Pv : Nat → L2.St → Hp → Prop) (h0 : Pv 0 σ H) (hl : ∀ i σ H, i ≤ xs.length → Pv i σ H → SqT K H a xs) (hs : ∀ i x σ H, xs[i]? = some x → Pv i σ H → g x σ H fun σ2 H2 => tb { D with nx := Pv (i + 1), ct := Pv (i + 1), bk := D.nx } σ2 H2)
    (hd : ∀ σ H, Pv xs.length σ H → D.nx σ H) : ForT K g tb (.ref a) D σ H :=
  ⟨a, rfl, ⟨xs, hl 0 σ H (Nat.zero_le _) h0⟩, for_tup (xs := xs) Pv h0 hl hs hd⟩
theorem for_S {cs : List Nat} (Pv : Nat → L2.St → Hp → Prop) (h0 : Pv 0 σ H) (hs : ∀ i c σ H, cs[i]? = some c → Pv i σ H → g (T [c]) σ H fun σ2 H2 => tb { D with nx := Pv (i + 1), ct := Pv (i + 1), bk := D.nx } σ2 H2)
    (hd : ∀ σ H, Pv cs.length σ H → D.nx σ H) : ForS g tb (T cs) D σ H := by
  refine ⟨⟨cs.toArray⟩, rfl, fun i m σ H => m = cs.length - i ∧ i ≤ cs.length ∧ Pv i σ H, ⟨cs.length, by simp, Nat.zero_le _, h0⟩, ?_⟩
  rintro i m σ H ⟨rfl, hi, p⟩
  by_cases hlt : i < cs.length
  · refine .inr ⟨by show i < cs.toArray.size; simpa using hlt, Pv (i + 1), fun σ' H' p' => ⟨cs.length - (i + 1), by omega, rfl, hlt, p'⟩, fun x H' y => ?_⟩
    obtain ⟨e, c, hc, rfl⟩ := y
    subst e
    have hc' : cs[i]? = some c := by simpa using hc
    exact hs i c σ _ hc' p
  · have e : i = cs.length := by omega
    subst e
    exact .inl ⟨by show cs.toArray.size ≤ cs.length; simp, hd σ H p⟩
/-- while by a word and a measure, the test a letter -/
theorem pe_c0 {X : Cx} {k j : Nat} {x : Str} {sp : Sp} {dvs : List V} {p pos : Pos} (c : C8.Cal X.prog X.w X.K X.mg X.base k x sp dvs) (hr : Room j X.A) (hk : k ≤ j) (hg : Gl X x) (hdb : (x == ("__debug__" : Str)) = false := by decide) :
    PE X (.Call (.Name x p) [] [] pos) (tCall sp dvs L2.E0 tNil) := by
  obtain ⟨f, fd, ps, ds, F, hm, kp, b, d⟩ := c.ex
  exact pe_call0 F (hr.mono hk) hg hm kp b d pass0 hdb
end

/-! heaps: what stands apart from one object -/
/-- all but the object at S is as it was (and more may stand) -/
def Fr (S : Addr) (H H' : Hp) : Prop := ∀ b o, b ≠ S → H b = some o → H' b = some o
theorem Fr.refl (S : Addr) (H : Hp) : Fr S H H := fun _ _ _ h => h
theorem Fr.trans {S : Addr} {H H1 H2 : Hp} (a : Fr S H H1) (b : Fr S H1 H2) : Fr S H H2 := fun c o n h => b c o n (a c o n h)
theorem Fr.new {S p : Addr} {H : Hp} {o : HO} (h : H p = none) : Fr S H (upd H p o) := fun b u _ e => by
  rw [upd_ne (ne_of_none e h)]; exact e
theorem Fr.own {S : Addr} {H : Hp} {o : HO} : Fr S H (upd H S o) := fun b u n e => by
  rw [upd_ne n]; exact e
theorem Fr.to {S : Addr} {H H1 H2 : Hp} (a : Fr S H H1) (b : Same H1 H2) : Fr S H H2 := fun c o n h => b c o (a c o n h)
theorem Same.fr {S : Addr} {H H1 : Hp} (b : Same H H1) : Fr S H H1 := fun c o _ h => b c o h
theorem same_new {p : Addr} {H : Hp} {o : HO} (h : H p = none) : Same H (upd H p o) := fun b u e => by
  rw [upd_ne (ne_of_none e h)]; exact e
theorem Fr.sqL {S a : Addr} {K : PySem.W.Frag} {H H' : Hp} {xs : List V} (f : Fr S H H') (n : a ≠ S) (h : SqL K H a xs) : SqL K H' a xs := by
  rcases h with (h | ⟨o, h⟩) | h
  · exact .inl (.inl (f _ _ n h))
  · exact .inl (.inr ⟨o, f _ _ n h⟩)
  · exact .inr h
theorem Fr.sqT {S a : Addr} {K : PySem.W.Frag} {H H' : Hp} {xs : List V} (f : Fr S H H') (n : a ≠ S) (h : SqT K H a xs) : SqT K H' a xs := by
  rcases h with (h | ⟨o, h⟩) | h
  · exact .inl (.inl (f _ _ n h))
  · exact .inl (.inr ⟨o, f _ _ n h⟩)
  · exact .inr h
theorem Same.sqT {a : Addr} {K : PySem.W.Frag} {H H' : Hp} {xs : List V} (f : Same H H') (h : SqT K H a xs) : SqT K H' a xs := by
  rcases h with (h | ⟨o, h⟩) | h
  · exact .inl (.inl (f _ _ h))
  · exact .inl (.inr ⟨o, f _ _ h⟩)
  · exact .inr h
end Lv
/-! An own error whose __init__ tells its text to its base and keeps one field. -/
namespace PySem
namespace SrcX
open PySem.W PySem.Calls PyProof.Rows PySem.HandSPX
/-! ### the text of __init__: the parameter's name is a letter (at, name) -/
def msg : Str := "the source is wrong at position "
def eA : Arguments := { posonlyargs := [], args := [{ arg := "self", annotation := none, pos := ⟨39, 17, 39, 21⟩ }, { arg := "at", annotation := none, pos := ⟨39, 23, 39, 25⟩ }], vararg := none, kwonlyargs := [], kw_defaults := [], kwarg := none, defaults := [] }
def eB : List Stmt :=
  [.Expr (.Call (.Attribute (.Call (.Name "super" ⟨40, 8, 40, 13⟩) [] [] ⟨40, 8, 40, 15⟩) "__init__" ⟨40, 8, 40, 24⟩) [.JoinedStr [.Constant (.str msg) 0 ⟨40, 27, 40, 59⟩, .FormattedValue (.Name "at" ⟨40, 60, 40, 62⟩) (-1) none ⟨40, 59, 40, 63⟩] ⟨40, 25, 40, 64⟩] [] ⟨40, 8, 40, 65⟩) ⟨40, 8, 40, 65⟩,
   .Assign [.Attribute (.Name "self" ⟨41, 8, 41, 12⟩) "at" ⟨41, 8, 41, 15⟩] (.Name "at" ⟨41, 18, 41, 20⟩) ⟨41, 8, 41, 20⟩]
def eS : Scope := { kind := .function, names := [(PySem.Str.ofString "self", .local), (PySem.Str.ofString "at", .local), (PySem.Str.ofString "__class__", .free), (PySem.Str.ofString "super", .globalImplicit)], isGenerator := false, isCoroutine := false, more := [] }
/-- what the written part says of the class at C, and of its __init__, at fI; x: the field -/
structure SrcTxt (P : Program) (K : Frag) (mg : Str → Option Value) (nm : Str) (C fI : Addr) : Prop where
  gC : mg nm = some (.ref C)
  cls : ∃ nm q N bs bm sn sub ab col dd k0 k1 k2 k3 k5, K.lookup C = some (excClassObj nm q C N bs bm true sn sub ab col dd k0 k1 k2 k3 k5 "ValueError.__new__") ∧ refsVE bm = true
  sa : findIn K (.ref C) "__setattr__" = some (some (.builtin "object.__setattr__"))
  ga : findIn K (.ref C) "__getattribute__" = some (some (.builtin "BaseException.__getattribute__"))
  gg : findIn K (.ref C) "__getattr__" = some none
  noN : findIn K (.ref C) "at" = some none
  iC : findIn K (.ref C) "__init__" = some (some (.ref fI))
  tC : typeIn K (.ref fI) = some (.type "function")
  kC : keepIn K (.ref C) = true
  exC : subIn K (.ref C) (.type "BaseException") = some true
  veC : subIn K (.ref C) (.type "ValueError") = some true
  tyC : typeIn K (.ref C) = some (.type "type")
  hdC : hasDictIn K C = true
  te : exmOne K (.ref C) (.ref C) = some true
  op : nsIn K cStatics "thirdparty.any" = some none
  up : ks_superIn K C C "__init__" = some (some (.builtin "ValueError.__init__"))
  mr : mroIn K C (.ref C) = some true
  su : mg "super" = none
  top : (P.main.scope.names.lookup ("super" : Str)).isSome = false
  fn : ∃ (oc : Value) (od : Option Addr) (doc pm : Value) (an : Option Addr) (cda cc : Addr) (ct : Value) (osl : Array (Option Value)) (qual : Str) (ccl cl : Value) (cdd cld : Option Addr) (ccs csl : Array (Option Value)) (vs : Array Value) (file : Str) (tf : Tok),
    K.lookup fI = some ⟨oc, od, .func (fnX "__init__" qual eA eB eS [("__class__", cc)] .none .none doc pm an (.ref cda) ct), osl⟩ ∧ codeIn K (.ref cda) qual = true ∧
    K.lookup cda = some ⟨ccl, cdd, .fields vs, ccs⟩ ∧ vs[2]? = some (.str file tf) ∧ ((P.main.file : Str) == file) = true ∧ K.lookup cc = some ⟨cl, cld, .cell (some (.ref C)), csl⟩
/-- what __init__ leaves of a fresh exception at x -/
structure InitEnd (h h' : Heap) (e C dx t1 : Addr) (v : Value) : Prop where
  keep : ∀ b o, b ≠ e → h.get? b = some o → h'.get? b = some o
  obj : h'.get? e = some { cls := .ref C, dict := some dx, data := .fields #[.ref t1, .none, .none, .none, .bool false, .none] }
  dbig : h.objs.size ≤ dx
  dne : dx ≠ e
  ns : h'.Ns1 dx (fun y => if y = "at" then some v else none)
structure OwnMade (h h' : Heap) (e C d : Addr) (v : Value) : Prop where
  keep : ∀ b o, h.get? b = some o → h'.get? b = some o
  new : h.objs.size ≤ e
  obj : ∃ oe vs, h'.get? e = some oe ∧ oe.cls = .ref C ∧ oe.dict = some d ∧ oe.data = .fields vs ∧ vs[1]? = some .none
  dbig : h.objs.size ≤ d
  dne : d ≠ e
  ns : h'.Ns1 d (fun y => if y = "at" then some v else none)
theorem one_size (v : Value) : [v].length ≤ sizeLine := by
  rw [sizeLine_eq]
  exact (by decide : 1 ≤ 16777216)
section
variable {prog : Program} {w : World} {A : Around} {E : Value → Shared → Prop} {R : Result → Shared → Prop} {s : Shared} {K : Frag} {mg mb : Str → Option Value} {nm : Str} {C fI : Addr}
/-- the base's __init__, bound, called with one value: the args are laid anew -/
theorem call_mw {h : Heap} {g : Array GenState} {d : Drawn} {t : Nat} {os : OsState} {u e t0 : Addr} {rest : List Value} {Q : Value → Shared → Prop} {nm q : Str} {N : Addr} {bs bm : List Value} {hdct : Bool} {sn : List Str} {sub : List Value} {ab : Bool} {col : Option Bool} {dd : Option Addr} {k0 k1 k2 k3 k5 : Option Value}
    (hC : h.get? C = some (excClassObj nm q C N bs bm hdct sn sub ab col dd k0 k1 k2 k3 k5 "ValueError.__new__")) (he : h.get? e = some (excO C t0)) (hu : h.get? u = some (kxs_mw "ValueError.__init__" e)) (hrest : rest.length ≤ sizeLine)
    (hq : ∀ h' t1, (∀ b o, b ≠ e → h.get? b = some o → h'.get? b = some o) → h'.get? e = some (excO C t1) → Q .none ⟨h', g, d, t, os⟩) :
    wpAny (model prog w) A (call (.ref u) rest) Q E ⟨h, g, d, t, os⟩ := by
  refine wpAny_call (codeAny_of_tree ?_)
  show wpAny _ A.in1 (callAny (.ref u) ⟨rest, []⟩) _ _ _
  simp only [callAny]
  refine wpAny_bind (wpAny_load hu ?_)
  simp only [kxs_mw, show (Value.type "method-wrapper" == Value.type "method" || Value.type "method-wrapper" == Value.type "builtin_function_or_method" || Value.type "method-wrapper" == Value.type "method-wrapper") = true by decide, if_true]
  refine KFB.if_so (by decide) ?_
  refine wpAny_bind (check_bound_init F.excBase_ValueError.toExcCallFacts hC he rfl ?_)
  refine wpAny_bind (wpAny_pure (wpAny_pure ?_))
  refine ⟨plainId_quiet F.excBase_ValueError.init.plain _, codeAny_builtin F.excBase_ValueError.initEntry ?_⟩
  exact exc_init_tree (cls := .ref C) (t0 := t0) (dv := none) (c2 := .none) (c3 := .none) (b4 := .bool false) he hrest fun h' k e' _ => hq h' _ k e'
theorem ldN {M : Model} {env : Env} {m : Str → Option Value} {x : Str} {pos : Pos} {v : Value} {Q : Value → Shared → Prop} (hn : s.heap.Ns env.locals m) (hv : m x = some v) (h : Q v s)
    (hk : env.scope.kind = .function := by rfl) (hl : env.kindOf x = some .local := by rfl) (hd : (x == ("__debug__" : Str)) = false := by decide) :
    wpAny M A (eval (.Name x pos) env) Q E s := wpAny_Name (wpAny_loadName_local hk hl hn hv h) hd
theorem src_init (T : SrcTxt prog K mg nm C fI) {e t0 : Addr} {v : Int} {tv : Tok} (hv : v.natAbs.log2 < 1920) (X : K.In s.heap) (hlim : s.heap.NoLimit) (hg : s.heap.Ns mainGlobals mg) (hb : s.heap.Ns builtinsNs mb) (hmb : mb "super" = some (.type "super"))
    (hx : s.heap.get? e = some (excO C t0)) (hnx : K.lookup e = none) (hroom : A.depth < recursionLimit)
    (hq : ∀ h' tk dx t1, InitEnd s.heap h' e C dx t1 (.int v tv) → R (.ok (.ret .none)) { s with heap := h', toks := tk }) :
    codeAny (model prog w) A (.call (.ref fI) ⟨[.ref e, .int v tv], []⟩) R s := by
  obtain ⟨oc, od, doc, pm, an, cda, cc, ct, osl, qual, ccl, cl, cdd, cld, ccs, csl, vs, file, tf, ho, hcd, hcode, hvs, hfile, hcell⟩ := T.fn
  obtain ⟨nm', q, N, bs, bm, sn, sub, ab, col, dd, k0, k1, k2, k3, k5, hC, hbm⟩ := T.cls
  have hcl : clsIn K C = some { name := nm', bases := bs, mro := .ref C :: bm, ns := N, qualname := q, hasDict := true, slotNames := sn, subclasses := sub, abstract := ab, collection := col, hasDel := false } := by unfold clsIn; rw [hC] <;> rfl
  refine ks_codeAny_call_defAt (binds := [("self", .ref e), ("at", .int v tv)]) hroom (X _ _ ho) rfl hlim (codeRec_of X hcd) rfl (BindsTo.of_eq ?b1) (show ∀ y ∈ eS.names, y.2 ≠ .cell by decide +kernel) (locs rfl) (fun h₁ hns k => ?_) rfl rfl rfl
  case b1 => first | rfl | with_unfolding_all rfl
  have I1 : InstAt s.heap e (excO C t0) C none := ⟨hx, rfl, rfl, trivial⟩
  have hne : e ≠ C := ks_ne X I1 hcl
  obtain ⟨hp, g, d, t, os⟩ := s
  have X₁ : K.In h₁ := X.keeps k
  have hx₁ := k _ _ hx
  -- super().__init__(f'..')
  refine ks_wpAt_execs_cons (ks_wpAt_Expr_any (ks_wpAt_MethodCall ?_ (by with_unfolding_all rfl)))
  have hoH := X₁ _ _ ho
  have hcodeH := X₁ _ _ hcode
  refine' ks_wpAt_super_base (attr := "__init__") (body := eB) (f := fI) (cc := cda) ?a1 ?a2 ?a3 ?a4 ?a5 ?a6 ?a7 ?a8 ?a9 ?a10 hvs hfile T.top ?_
  case a5 => exact hoH
  case a9 => exact hcodeH
  case a1 => rfl
  case a2 => rfl
  case a3 => decide
  case a4 => rfl
  case a6 => rfl
  case a7 => rfl
  case a8 => rfl
  case a10 => rfl
  have hG : h₁.Ns mainGlobals mg := hg.keeps k
  have hB : h₁.Ns builtinsNs mb := hb.keeps k
  refine ks_loadName_global rfl rfl (loadGlobal_builtin hG T.su hB hmb ⟨rfl, ?_⟩)
  refine wpAny_loadName_free rfl rfl rfl ⟨_, X₁ _ _ hcell, rfl⟩ ?_
  refine wpAny_loadName_local rfl rfl hns rfl ?_
  have hCC := X₁ _ _ hC
  refine ks_wpAny_isType_cls hCC rfl ⟨rfl, ?_⟩
  refine ks_wpAny_call_super hCC rfl hx₁ rfl (fun c z => by cases z) (looks_mroIn X₁ T.mr) (fun h₂ hso k₂ => ?_)
  have X₂ : K.In h₂ := X₁.keeps k₂
  have hx₂ := k₂ _ _ hx₁
  have I2 : InstAt h₂ e (excO C t0) C none := ⟨hx₂, rfl, rfl, trivial⟩
  have hI : Looks (model prog w) h₂ (isInstance (.ref e) (.type "ValueError")) true := I2.type.andThen (looks_subIn X₂ T.veC)
  have hup : alongIn K "__init__" (((.ref C :: bm : List Value).dropWhile (· != .ref C)).drop 1) = some (some (.builtin "ValueError.__init__")) := by
    have := T.up
    unfold ks_superIn at this
    rw [hcl] at this
    exact this
  refine kxs_getMethod kxs_ValueError hso (looks_opaque X₂ T.op) (l₀ := .ref C :: bm) ?lk rfl X₂ hup hI hne (by decide) ?_
  case lk => exact fun A Q E s k q => wpAny_bind ((looks_clsIn X₂ hcl) A _ E s k (wpAny_pure q))
  refine kxs_callWith (i := "ValueError.__init__") (x := e) rfl (evalArgs_plain ?_)
  refine Calls.spliced_cons ?_
  -- the text
  have hn₂ : h₂.Ns hp.objs.size _ := hns.keeps k₂
  have hn₃ : (h₂.push (kxs_mw "ValueError.__init__" e)).Ns hp.objs.size _ := hn₂.keeps fun b o z => Heap.get?_push_of_some _ z
  refine wpAny_JoinedStr (pos := ⟨40, 25, 40, 64⟩) ?_
  refine Calls.Constant_str (x := msg) (k := 0) (pos := ⟨40, 27, 40, 59⟩) ?_
  refine ⟨_, _, rfl, by decide +kernel, ?_⟩
  refine wpAny_FormattedValue_plain (value := .Name "at" ⟨40, 60, 40, 62⟩) (pos := ⟨40, 59, 40, 63⟩) (ldN (env := callEnv (fnX "__init__" qual eA eB eS [("__class__", cc)] .none .none doc pm an (.ref cda) ct) hp.objs.size fI) hn₃ rfl (wpAny_formatField_int hv ?_))
  have hsz : ((Str.empty ++ msg) ++ Str.ofString (toString v)).length ≤ sizeLine := by
    rw [strLen_append, PySem.ofString_length, show (Str.empty ++ msg).length = 32 by decide +kernel, sizeLine_eq]
    have := int_text_length_le (k := 1920) (by decide) hv
    omega
  refine ⟨_, _, rfl, hsz, ?_⟩
  refine ⟨hsz, ?_⟩
  refine Calls.spliced_nil ?_
  have hu₃ : (h₂.push (kxs_mw "ValueError.__init__" e)).get? h₂.objs.size = some (kxs_mw "ValueError.__init__" e) := Heap.get?_push_at rfl rfl
  refine ⟨hu₃, ?_⟩
  have k₃ : ∀ b o, h₂.get? b = some o → (h₂.push (kxs_mw "ValueError.__init__" e)).get? b = some o := fun b o z => Heap.get?_push_of_some _ z
  have X₃ : K.In (h₂.push (kxs_mw "ValueError.__init__" e)) := X₂.keeps k₃
  refine call_mw (X₃ _ _ hC) (k₃ _ _ hx₂) hu₃ (one_size _) fun h₄ t1 k₄ hx₄ => ?_
  have X₄ : K.In h₄ := fun a o z => by
    by_cases ha : a = e
    · subst ha
      have := X₃ _ _ z
      have y := k₃ _ _ hx₂
      rw [this] at y
      have nK : K.lookup a = none := hnx
      rw [nK] at z
      cases z
    · exact k₄ _ _ ha (X₃ _ _ z)
  have hn₄ : h₄.Ns hp.objs.size _ := hn₃.at fun o z => k₄ _ _ (Nat.ne_of_gt (Heap.lt_size hx)) z
  -- self.at = at
  refine wpAt_of_wpAny ?_
  refine wpAny_execs_cons (plainObj_wpAny_Assign_Attribute ?_)
  refine ldN (v := .int v tv) hn₄ rfl (ldN (v := .ref e) hn₄ rfl ?_)
  refine set_plain X₄ (ox := excO C t1) (od := none) ⟨hx₄, rfl, rfl, trivial⟩ T.sa ?_
  refine exc_osa X₄ hx₄ hcl (show refsVE (.ref C :: bm) = true from hbm) rfl T.noN (fun h₅ tk₅ dx k₅ dn dne hx₅ hn₅ => ?_)
  refine wpAny_execs_nil ?_
  have keepAll : ∀ b o, b ≠ e → hp.get? b = some o → h₅.get? b = some o := fun b o hb z => k₅ b o hb (k₄ b o hb (k₃ _ _ (k₂ _ _ (k _ _ z))))
  refine hq h₅ tk₅ dx t1 ⟨keepAll, hx₅, ?_, dne, hn₅⟩
  exact Nat.le_trans (Nat.le_of_lt hn₄.lt) dn
theorem src_made (T : SrcTxt prog K mg nm C fI) {v : Int} {tv : Tok} (hv : v.natAbs.log2 < 1920) (X : K.In s.heap) (hlim : s.heap.NoLimit) (hg : s.heap.Ns mainGlobals mg) (hb : s.heap.Ns builtinsNs mb) (hmb : mb "super" = some (.type "super")) (hroom : A.depth + 1 < recursionLimit)
    (hq : ∀ h' tk e d, OwnMade s.heap h' e C d (.int v tv) → R (.ok (.ret (.ref e))) { s with heap := h', toks := tk }) :
    codeAny (model prog w) A (.call (.ref C) ⟨[.int v tv], []⟩) R s := by
  obtain ⟨nm, q, N, bs, bm, sn, sub, ab, col, dd, k0, k1, k2, k3, k5, hC, hbm⟩ := T.cls
  obtain ⟨hp, g, dr, tk, os⟩ := s
  have k : ∀ b o, hp.get? b = some o → ((hp.push (kdv_tup [.int v tv])).push (excO C hp.objs.size)).get? b = some o := fun b o e => Heap.get?_push_of_some _ (Heap.get?_push_of_some _ e)
  have hget : ((hp.push (kdv_tup [.int v tv])).push (excO C hp.objs.size)).get? (hp.objs.size + 1) = some (excO C hp.objs.size) := by heap_get
  have hnx : K.lookup (hp.objs.size + 1) = none := by
    cases e : K.lookup (hp.objs.size + 1) with
    | none => rfl
    | some o =>
      have z : hp.get? (hp.objs.size + 1) = some o := X _ _ e
      exact absurd (Nat.lt_of_succ_lt (Heap.lt_size z)) (Nat.lt_irrefl _)
  refine call_own F.excBase_ValueError (fun X => refsVE_contains X bm hbm) (X _ _ hC) (looks_findIn X T.iC) (fun self => bind_fn X self T.tC) (one_size _) ?_
  refine src_init (s := ⟨(hp.push (kdv_tup [.int v tv])).push (excO C hp.objs.size), g, dr, tk, os⟩) T hv (X.keeps k) (hlim.keeps k) (hg.keeps k) (hb.keeps k) hmb hget hnx ?_ fun h' tk' dx t1 ⟨k', hx, dn, dne, hns⟩ => ?_
  · show A.depth + 1 < recursionLimit
    exact hroom
  · have old : ∀ b o, hp.get? b = some o → h'.get? b = some o := fun b o e => k' b o (Nat.ne_of_lt (Nat.lt_succ_of_lt (Heap.lt_size e))) (k b o e)
    have z : hp.objs.size + 1 + 1 ≤ dx := by
      first
        | (simpa only [Heap.size_push] using dn)
        | exact dn
        | (have q := dn; rw [Heap.size_push, Heap.size_push] at q; exact q)
    exact ⟨rfl, hq h' tk' (hp.objs.size + 1) dx ⟨old, Nat.le_succ _, ⟨_, _, hx, rfl, rfl, rfl, rfl⟩, Nat.le_trans (Nat.le_trans (Nat.le_succ _) (Nat.le_succ _)) z, dne, hns⟩⟩
end
end SrcX
end PySem
namespace L2
open PySem PySem.Spec PyProof.Rows
theorem relO_src {v : V} {v' : Value} (r : RelV v v') (f : Str) : RelO (List.lookup f [(("at" : Str), v)]) (if f = "at" then some v' else none) := by
  by_cases hw : f = "at"
  · subst hw
    rw [if_pos rfl]
    have q : List.lookup ("at" : Str) [(("at" : Str), v)] = some v := by simp [List.lookup]
    rw [q]
    exact r
  · rw [if_neg hw]
    have qw : (f == ("at" : Str)) = false := by simpa using hw
    have q2 : List.lookup f [(("at" : Str), v)] = none := by simp [List.lookup, qw]
    rw [q2]
    trivial
section
variable {X : Cx} {C fI : Addr} {nm : Str}
/-- C(e), e an int -/
def tMkSrc (C : Addr) (ta : TA) : St → Hp → XK → Prop := fun σ H Q => ta σ H fun vs H1 => ∃ v : Int, vs = [.int v] ∧ v.natAbs.log2 < 1920 ∧ ∀ d, H1 d = none → Q (.ref C) (some d) (upd H1 d (.xd [(("at" : Str), .int v)]))
theorem pmk_src {a : Expr} {ta : TA} {p pos : Pos} {k : Nat} (T : PySem.SrcX.SrcTxt X.prog X.K X.mg nm C fI) (hr : Room k X.A) (ha : PA X [a] ta) (hg : Gl X nm := by rfl) (hdb : (nm == ("__debug__" : Str)) = false := by decide)
    (he : starEach (a :: []) X.env = (false, eval a X.env) :: starEach [] X.env := by rfl) (hpl : (backTo pos (starEach [] X.env)).any (·.1) = false := by rfl) :
    PMk X (.Call (.Name nm p) [a] [] pos) (tMkSrc C ta) := by
  intro pins s σ H Q I h
  refine wpAny_Call_Name_kw (ld_glob I hg T.gC ?_ hdb)
  refine PySem.W.callWith_K (h₀ := X.base) I.ok.mod.kin T.kC (thn (ha.run pos pins s σ H _ I h) fun us s1 hh => ?_) he hpl
  obtain ⟨vs, H1, I1, r1, v, ev, hv, q1⟩ := hh
  subst ev
  refine ⟨I1.kIn, ?_⟩
  cases r1 with
  | cons rv rn =>
    rename_i v' us'
    cases rn
    obtain ⟨tv, rfl⟩ := rv
    show wpAny _ _ (call (.ref C) [.int v tv]) _ _ _
    have hlim := I1.nolimit
    obtain ⟨mb, hb, hmb⟩ := I1.mod.blt
    have hb1 := hb.keeps I1.bk
    have hg1 := I1.mod.glob.keeps I1.bk
    have hsup : mb "super" = some (.type "super") := (hmb _ (by decide)).trans (by decide +kernel)
    obtain ⟨hp, g, dr, tk, os⟩ := s1
    refine wpAny_call (PySem.SrcX.src_made T hv I1.kIn hlim hg1 hb1 hsup (by have := hr.dp; omega) fun h' tk' e d M => ?_)
    show MkP X pins σ Q (.ref e) ⟨h', g, dr, tk', os⟩
    obtain ⟨oe, fv, hoe, hc, hd, hdat, h1⟩ := M.obj
    have hns := M.ns
    obtain ⟨G', g1, g2⟩ := restrict h' fun b => decide (b ≠ e)
    have gk : ∀ b, b ≠ e → G'.get? b = h'.get? b := fun b hb => g1 b (decide_eq_true hb)
    have ge : G'.get? e = none := g2 e (by simp)
    have old : ∀ b o, hp.get? b = some o → G'.get? b = some o := fun b o q => (gk b (Nat.ne_of_lt (Nat.lt_of_lt_of_le (Heap.lt_size q) M.new))).trans (M.keep b o q)
    have ob : ObjOk X.prog X.w (upd H1 d (.xd [(("at" : Str), .int v)])) G' d (.xd [(("at" : Str), .int v)]) :=
      ⟨_, hns.at (fun o q => (gk d M.dne).trans q), fun f => relO_src (v := .int v) (v' := .int v tv) ⟨tv, rfl⟩ f⟩
    have J : Inv X pins σ (upd H1 d (.xd [(("at" : Str), .int v)])) ⟨G', g, dr, tk', os⟩ := I1.laid (t' := tk') old M.dbig ob
    refine ⟨e, oe, fv, ⟨G', g, dr, tk', os⟩, _, .ref C, some d, rfl, J, fun b o q => ?_, ge, hoe, ⟨hc, hd⟩, hdat, h1, ?_, rfl, I1.bare, raises_own T.exC T.tyC, q1 d (I1.hok.fresh M.dbig)⟩
    · by_cases hb : b = e
      · have q' : G'.get? b = some o := q
        rw [hb, ge] at q'; cases q'
      · exact (gk b hb).symm.trans q
    · rw [upd_ne (Ne.symm M.dne)]
      exact I1.hok.fresh M.new
/-- raise C(e) -/
def tRaiseSrc (C : Addr) (W : WX) (ta : TA) : TS := fun _ σ H => tMkSrc C ta σ H fun cls d H' => W cls d σ H'
theorem ps_raiseSrc {a : Expr} {ta : TA} {W : WX} {p pos pos2 : Pos} {k : Nat} (hc : X.calm = true) (T : PySem.SrcX.SrcTxt X.prog X.K X.mg nm C fI) (hr : Room k X.A) (tk : Takes X W) (ha : PA X [a] ta) (hg : Gl X nm := by rfl) (hdb : (nm == ("__debug__" : Str)) = false := by decide)
    (he : starEach (a :: []) X.env = (false, eval a X.env) :: starEach [] X.env := by rfl) (hpl : (backTo pos (starEach [] X.env)).any (·.1) = false := by rfl) :
    PS X (.Raise (some (.Call (.Name nm p) [a] [] pos)) none pos2) (tRaiseSrc C W ta) := ps_raise hc tk (pmk_src T hr ha hg hdb he hpl)
/-- err.at, err the exception that the suite holds (at a; its class cls, its dict d) -/
def tBySrc (C : Addr) (a : Addr) (cls : Value) (d : Option Addr) (te : TE) : TE := fun σ H Q => te σ H fun x H1 => x = .ref a ∧ cls = .ref C ∧ ∃ (dd : Addr) (v : V), d = some dd ∧ H1 dd = some (.xd [(("at" : Str), v)]) ∧ Q v H1
theorem pe_bySrc {a : Addr} {oe : Obj} {cls : Value} {d : Option Addr} {pn : List (Addr × Obj)} {e : Expr} {te : TE} {pos : Pos} (T : PySem.SrcX.SrcTxt X.prog X.K X.mg nm C fI) (hz : Zc cls d oe) (hf : ∃ vs, oe.data = .fields vs) (he : PE (X.suite a ((a, oe) :: pn)) e te)
    (hb : attributeBase e "at" X.env (eval e X.env) = eval e X.env := by rfl) :
    PE (X.suite a ((a, oe) :: pn)) (.Attribute e "at" pos) (tBySrc C a cls d te) := by
  refine ⟨fun pins s σ H Q I h => ?_⟩
  refine attr_of hb (thn (he.run pins s σ H _ I h) fun u s1 hh => ?_)
  obtain ⟨x, H1, I1, rx, ex, ec, dd, v, ed, ea, q⟩ := hh
  subst ex
  obtain rfl : u = Value.ref a := rx
  subst ec
  subst ed
  obtain ⟨ha, _⟩ := I1.pin (a, oe) (List.mem_append_left _ List.mem_cons_self)
  obtain ⟨vs, hd⟩ := hf
  have hx : ObjOk X.prog X.w H1 s1.heap dd (.xd [(("at" : Str), v)]) := I1.hok dd _ ea
  obtain ⟨mA, hns, hr⟩ := hx
  obtain ⟨od, ho, hl⟩ := lookIn_ns hns
  have l : List.lookup ("at" : Str) [(("at" : Str), v)] = some v := by simp [List.lookup]
  obtain ⟨u, hu, ru⟩ := RelO.some_of (v := v) (o := mA "at") (by rw [← l]; exact hr "at")
  have J : PySem.W.InstAt s1.heap a oe C (some od) := ⟨ha, hz.1, by unfold PySem.W.notCls; rw [hd] <;> rfl, by rw [hz.2]; exact ho⟩
  exact HandSPX.exc_get I1.kIn J T.ga T.gg T.exC (PySem.W.findObj_own T.hdC T.noN rfl (by rw [hl, hu])) (handed_of ru) ⟨v, H1, I1.tok _, ru, q⟩
end
end L2
/-! Defs that may raise, over the same layer; texts searched. -/
namespace Lv
open PySem PySem.Spec PyProof.Rows L2

section
variable {P : Program} {w : World} {K : PySem.W.Frag} {mg : Str → Option Value} {base : Heap} {N : List Str} {q : Str} {sc : Scope} {f : Addr} {cd : Value} {A : Around} {outer : List Env} {s : Shared} {H : Hp} {E : XK}
theorem tk_of : Takes (cxOf (L2.CX P w) P w K mg base N q sc f cd A outer s H E) (fun cls d _ H => E cls d H) := takes_of rfl rfl rfl rfl
theorem px_of : Passes (L2.CX P w) (cxOf (L2.CX P w) P w K mg base N q sc f cd A outer s H E) E := passes_call tk_of (fun _ _ _ _ h => h)
theorem po_of : PassesOwn (model (cxOf (L2.CX P w) P w K mg base N q sc f cd A outer s H E).prog (cxOf (L2.CX P w) P w K mg base N q sc f cd A outer s H E).w) (cxOf (L2.CX P w) P w K mg base N q sc f cd A outer s H E).A (cxOf (L2.CX P w) P w K mg base N q sc f cd A outer s H E).env (cxOf (L2.CX P w) P w K mg base N q sc f cd A outer s H E).xe := passes_of rfl
end
/-- a def that may raise, by its module's name -/
structure CalX (P : Program) (w : World) (K : PySem.W.Frag) (mg : Str → Option Value) (base : Heap) (k : Nat) (x : Str) (sp : Sp) : Prop where
  ex : ∃ (f : Addr) (fd : FuncData) (ps : List Str), FnOk P w K mg base (L2.CX P w) k f fd ps sp ∧ mg x = some (.ref f) ∧ PySem.W.keepIn K (.ref f) = true ∧ Binds K fd ps []
section
variable {X : Cx} {k j : Nat} {x : Str} {sp : Sp} {E : XK} {p pos : Pos} {e : Expr} {es : List Expr} {t : TA}
theorem pe_cx (c : CalX X.prog X.w X.K X.mg X.base k x sp) (hr : Room j X.A) (hk : k ≤ j) (hg : Gl X x) (hx : Passes (L2.CX X.prog X.w) X E) (ha : PA X (e :: es) t)
    (hdb : (x == ("__debug__" : Str)) = false := by decide) (he : starEach (e :: es) X.env = (false, eval e X.env) :: starEach es X.env := by rfl) (hpl : (backTo pos (starEach es X.env)).any (·.1) = false := by rfl) :
    PE X (.Call (.Name x p) (e :: es) [] pos) (tCall sp [] E t) := by
  obtain ⟨f, fd, ps, F, hm, kp, b⟩ := c.ex
  exact pe_call F (hr.mono hk) hg hm kp b .nil hx ha hdb he hpl
end
/-- the way out with an error of the class at C whose field is i -/
def Err (C : Addr) (E : XK) (H : Hp) (i : Nat) : Prop := ∀ d H', H d = none → Same H H' → H' d = some (.xd [(("at" : Str), .int (i : Int))]) → E (.ref C) (some d) H'
theorem Err.mono {C : Addr} {E : XK} {H H1 : Hp} {i : Nat} (e : Err C E H i) (s : Same H H1) : Err C E H1 i := fun d H' hd s' h => e d H' (s.free hd) (s.trans s') h
section
variable {σ : L2.St} {H : Hp} {D : Ends} {C : Addr} {E : XK} {ta : TA}
def RaiseI (C : Addr) (E : XK) (vs : List V) (H : Hp) : Prop := ∃ v : Int, vs = [.int v] ∧ v.natAbs.log2 < 1920 ∧ ∀ d, H d = none → E (.ref C) (some d) (upd H d (.xd [(("at" : Str), .int v)]))
theorem w_raise (k : ta σ H fun vs H1 => RaiseI C E vs H1) : tRaiseSrc C (fun cls d _ H => E cls d H) ta D σ H := k
theorem raise_I {i : Nat} (hi : i ≤ 1000000) (h : Err C E H i) : RaiseI C E [.int (i : Int)] H := by
  refine ⟨(i : Int), rfl, ?_, fun d hd => h d _ hd (same_new0 hd) upd_same⟩
  rw [Int.natAbs_natCast]
  by_cases h0 : i = 0
  · subst h0; decide
  · exact Nat.lt_trans ((Nat.log2_lt h0).mpr (show i < 2 ^ 31 by omega)) (by decide)
end

/-! ### texts: order, search -/
def rLeS : R2 := fun x y H Q => ∃ i j, x = .str i ∧ y = .str j ∧ Q (.bl (!decide (j.cps.toList < i.cps.toList))) H
theorem op_leS {X : Cx} : OpR X (compareOp .LtE) rLeS := op_le_str
theorem lt_one (a b : Nat) : (([a] : List Nat) < [b]) ↔ a < b := by
  constructor
  · intro h
    cases h with
    | rel h => exact h
    | cons h => cases h
  · intro h
    exact .rel h
theorem w_leC {Q : VK} {H : Hp} {a b : Nat} (k : Q (.bl (decide (a ≤ b))) H) : rLeS (T [a]) (T [b]) H Q := by
  refine ⟨_, _, rfl, rfl, ?_⟩
  have e : (!decide (([b] : List Nat) < [a])) = decide (a ≤ b) := by
    by_cases h : a ≤ b
    · rw [decide_eq_true h, decide_eq_false (fun z => by have := (lt_one b a).mp z; omega)]; rfl
    · rw [decide_eq_false h, decide_eq_true ((lt_one b a).mpr (by omega))]; rfl
  show Q (.bl (!decide (([b] : List Nat) < [a]))) H
  rw [e]
  exact k
def rFind3 : V → List V → Hp → VK → Prop := fun x xs H Q => ∃ (a b : Str) (i : Int), x = .str a ∧ xs = [.str b, .int i] ∧ Q (.int (Txt.find3 a b i)) H
theorem mt_findS {X : Cx} : MtR X "str.find" rFind3 := mt_find3
def rStarts3 : V → List V → Hp → VK → Prop := fun x xs H Q => ∃ (a b : Str) (i : Int), x = .str a ∧ xs = [.str b, .int i] ∧ Q (.bl (Txt.startswith3 a b i)) H
theorem mt_startsS {X : Cx} : MtR X "str.startswith" rStarts3 := mt_startswith3
def rIsdigit : V → List V → Hp → VK → Prop := fun x xs H Q => ∃ a, x = .str a ∧ xs = [] ∧ True ∧ Q (.bl (Txt.isdigit a)) H
theorem mt_isdigitS {X : Cx} : MtR X "str.isdigit" rIsdigit := mt_isdigit
/-- where the first c from i on stands; -1 -/
def findC (cs : List Nat) (c i : Nat) : Int := if i + ((cs.drop i).takeWhile (fun x => x != c)).length < cs.length then ((i + ((cs.drop i).takeWhile (fun x => x != c)).length : Nat) : Int) else -1
theorem tw_get {p : Nat → Bool} : ∀ {l : List Nat} {j : Nat} {x : Nat}, j < (l.takeWhile p).length → l[j]? = some x → p x = true
  | [], _, _, h, _ => by simp at h
  | a :: l, j, x, h, e => by
    rw [List.takeWhile_cons] at h
    by_cases ha : p a = true
    · rw [if_pos ha] at h
      cases j with
      | zero => rw [List.getElem?_cons_zero] at e; cases e; exact ha
      | succ j => exact tw_get (l := l) (j := j) (by simpa using h) (by simpa using e)
    · rw [if_neg ha] at h; simp at h
theorem tw_end {p : Nat → Bool} : ∀ {l : List Nat}, (l.takeWhile p).length < l.length → ∃ x, l[(l.takeWhile p).length]? = some x ∧ p x = false
  | [], h => by simp at h
  | a :: l, h => by
    rw [List.takeWhile_cons] at h ⊢
    by_cases ha : p a = true
    · rw [if_pos ha] at h ⊢
      obtain ⟨x, e, hx⟩ := tw_end (l := l) (by simpa using h)
      exact ⟨x, by simpa using e, hx⟩
    · rw [if_neg ha]
      exact ⟨a, by simp, by simpa using ha⟩
theorem tw_le {p : Nat → Bool} (l : List Nat) : (l.takeWhile p).length ≤ l.length := (List.takeWhile_prefix p).length_le
/-- the first place of a c is told by takeWhile -/
theorem tw_first {c : Nat} {l : List Nat} {k : Nat} (h1 : l[k]? = some c) (h2 : ∀ j, j < k → l[j]? ≠ some c) : (l.takeWhile (fun x => x != c)).length = k := by
  rcases Nat.lt_trichotomy (l.takeWhile (fun x => x != c)).length k with h | h | h
  · obtain ⟨hk, _⟩ := List.getElem?_eq_some_iff.mp h1
    obtain ⟨x, e, hx⟩ := tw_end (p := fun x => x != c) (l := l) (by omega)
    have : x = c := by simpa using hx
    exact absurd (this ▸ e) (h2 _ h)
  · exact h
  · have := tw_get h h1
    simp at this
theorem find_T {cs : List Nat} {c i : Nat} (hi : i ≤ cs.length) : Txt.find3 ⟨cs.toArray⟩ ⟨#[c]⟩ (i : Int) = findC cs c i := by
  have hf : PySem.fromIndex (⟨cs.toArray⟩ : Str).length (i : Int) = i := by
    rw [len_T]
    unfold PySem.fromIndex
    first
      | (simp; omega)
      | (simp; done)
      | omega
  have gd : ∀ v, v < cs.length → (⟨cs.toArray⟩ : Str).cps.getD v 0 = cs.getD v 0 := fun v hv => by simp [Array.getD, hv, List.getD]
  unfold findC
  rcases StrLaws.find3_spec ⟨cs.toArray⟩ c (i : Int) with ⟨e, hn⟩ | ⟨k, e, h1, h2, h3, h4⟩
  · rw [hf] at hn
    rw [len_T] at hn
    rw [e, if_neg]
    intro hlt
    have hl2 : ((cs.drop i).takeWhile (fun x => x != c)).length < (cs.drop i).length := by rw [List.length_drop]; omega
    obtain ⟨x, ex, hx⟩ := tw_end hl2
    have : x = c := by simpa using hx
    subst this
    rw [List.getElem?_drop] at ex
    obtain ⟨hv, ev⟩ := List.getElem?_eq_some_iff.mp ex
    refine hn _ (Nat.le_add_right _ _) hv ?_
    rw [gd _ hv, List.getD_eq_getElem?_getD, ex]
    rfl
  · rw [hf] at h1 h4
    rw [len_T] at h2
    have hk : (cs.drop i)[k - i]? = some c := by
      rw [List.getElem?_drop, show i + (k - i) = k by omega, List.getElem?_eq_getElem h2]
      rw [gd _ h2, List.getD_eq_getElem?_getD, List.getElem?_eq_getElem h2] at h3
      exact congrArg some h3
    have hb : ∀ j, j < k - i → (cs.drop i)[j]? ≠ some c := fun j hj z => by
      rw [List.getElem?_drop] at z
      obtain ⟨hv, ev⟩ := List.getElem?_eq_some_iff.mp z
      refine h4 (i + j) (Nat.le_add_right _ _) (by omega) ?_
      rw [gd _ hv, List.getD_eq_getElem?_getD, z]
      rfl
    have hl := tw_first hk hb
    rw [e, hl, if_pos (by omega)]
    congr 1
    omega
theorem w_find {Q : VK} {H : Hp} {cs : List Nat} {c i : Nat} (hi : i ≤ cs.length) (k : Q (.int (findC cs c i)) H) : rFind3 (T cs) [T [c], .int (i : Int)] H Q :=
  ⟨_, ⟨#[c]⟩, _, rfl, rfl, by rw [find_T hi]; exact k⟩
theorem starts_T {cs b : List Nat} {i : Nat} (hi : i ≤ cs.length) : Txt.startswith3 ⟨cs.toArray⟩ ⟨b.toArray⟩ (i : Int) = b.isPrefixOf (cs.drop i) := by
  have hf : PySem.fromIndex (⟨cs.toArray⟩ : Str).length (i : Int) = i := by
    rw [len_T]
    unfold PySem.fromIndex
    first
      | (simp; omega)
      | (simp; done)
      | omega
  unfold Txt.startswith3
  rw [hf, len_T, len_T]
  have e : Builtin.Str.subAt ⟨cs.toArray⟩ ⟨b.toArray⟩ i = decide ((cs.drop i).take b.length = b) := by
    unfold Builtin.Str.subAt
    rw [len_T]
    have : (⟨cs.toArray⟩ : Str).cps.extract i (i + b.length) = ((cs.drop i).take b.length).toArray := by
      apply Array.ext'
      simp [List.extract_eq_drop_take, List.take_drop]
    rw [this]
    by_cases h : (cs.drop i).take b.length = b
    · rw [decide_eq_true h, h]; simp
    · rw [decide_eq_false h]
      refine beq_eq_false_iff_ne.mpr fun z => h ?_
      have := congrArg Array.toList z
      simpa using this
  rw [e, Bool.eq_iff_iff, List.isPrefixOf_iff_prefix, Bool.and_eq_true, decide_eq_true_iff, decide_eq_true_iff]
  constructor
  · rintro ⟨_, h⟩
    rw [← h]
    exact List.take_prefix _ _
  · intro h
    have hl := h.length_le
    rw [List.length_drop] at hl
    refine ⟨by have : b.length = 0 ∨ 0 < b.length := by omega
               omega, (List.prefix_iff_eq_take.mp h).symm⟩
theorem w_starts {Q : VK} {H : Hp} {cs b : List Nat} {i : Nat} (hi : i ≤ cs.length) (k : Q (.bl (b.isPrefixOf (cs.drop i))) H) : rStarts3 (T cs) [T b, .int (i : Int)] H Q :=
  ⟨_, ⟨b.toArray⟩, _, rfl, rfl, by rw [starts_T hi]; exact k⟩
theorem dig_ascii : ∀ c, c < 128 → Unicode.isDigit c = (decide (48 ≤ c) && decide (c ≤ 57)) := by decide +kernel
theorem w_isdigit {Q : VK} {H : Hp} {cs : List Nat} (hne : cs ≠ []) (ha : ∀ c ∈ cs, c < 128) (k : Q (.bl (cs.all fun c => decide (48 ≤ c) && decide (c ≤ 57))) H) : rIsdigit (T cs) [] H Q := by
  refine ⟨_, rfl, rfl, trivial, ?_⟩
  have e : Txt.isdigit ⟨cs.toArray⟩ = cs.all fun c => decide (48 ≤ c) && decide (c ≤ 57) := by
    unfold Txt.isdigit
    rw [len_T]
    have h0 : 0 < cs.length := by
      cases cs with
      | nil => exact absurd rfl hne
      | cons _ _ => simp
    have h1 : cs.toArray.all Unicode.isDigit = cs.all fun c => decide (48 ≤ c) && decide (c ≤ 57) := by
      rw [List.all_toArray]
      rw [Bool.eq_iff_iff, List.all_eq_true, List.all_eq_true]
      exact ⟨fun h c hc => by rw [← dig_ascii c (ha c hc)]; exact h c hc, fun h c hc => by rw [dig_ascii c (ha c hc)]; exact h c hc⟩
    show (decide (cs.length > 0) && cs.toArray.all Unicode.isDigit) = _
    rw [h1, decide_eq_true h0, Bool.true_and]
  rw [e]
  exact k
end Lv
/-! Trees of tuples, texts, numbers, truths and None; two of one shape are told the same. -/
namespace Lv
open PySem PySem.Spec PyProof.Rows L2
inductive Tr where
  | s (a : List Nat)
  | i (x : Int)
  | b (x : Bool)
  | n
  | t (l : List Tr)
mutual
inductive TrAt (K : PySem.W.Frag) (H : Hp) : V → Tr → Prop
  | s {a : List Nat} : TrAt K H (T a) (.s a)
  | i {x : Int} : TrAt K H (.int x) (.i x)
  | b {x : Bool} : TrAt K H (.bl x) (.b x)
  | n : TrAt K H .non .n
  | t {p : Addr} {vs : List V} {l : List Tr} : SqT K H p vs → TrsAt K H vs l → TrAt K H (.ref p) (.t l)
inductive TrsAt (K : PySem.W.Frag) (H : Hp) : List V → List Tr → Prop
  | nil : TrsAt K H [] []
  | cons {v : V} {t : Tr} {vs : List V} {l : List Tr} : TrAt K H v t → TrsAt K H vs l → TrsAt K H (v :: vs) (t :: l)
end
mutual
theorem TrAt.imp {K : PySem.W.Frag} {H H' : Hp} (f : ∀ p vs, SqT K H p vs → SqT K H' p vs) : ∀ {v : V} {t : Tr}, TrAt K H v t → TrAt K H' v t
  | _, _, .s => .s
  | _, _, .i => .i
  | _, _, .b => .b
  | _, _, .n => .n
  | _, _, .t h r => .t (f _ _ h) (TrsAt.imp f r)
theorem TrsAt.imp {K : PySem.W.Frag} {H H' : Hp} (f : ∀ p vs, SqT K H p vs → SqT K H' p vs) : ∀ {vs : List V} {l : List Tr}, TrsAt K H vs l → TrsAt K H' vs l
  | _, _, .nil => .nil
  | _, _, .cons h r => .cons (TrAt.imp f h) (TrsAt.imp f r)
end
theorem TrAt.same {K : PySem.W.Frag} {H H1 : Hp} {v : V} {t : Tr} (h : TrAt K H v t) (s : Same H H1) : TrAt K H1 v t := h.imp fun p vs q => Same.sqT s q
theorem TrsAt.same {K : PySem.W.Frag} {H H1 : Hp} {vs : List V} {l : List Tr} (h : TrsAt K H vs l) (s : Same H H1) : TrsAt K H1 vs l := h.imp fun p vs q => Same.sqT s q
theorem sqT_but {K : PySem.W.Frag} {D p : Addr} {H H1 : Hp} {xs vs : List V} (q : SqT K H p vs) (hD : H D = some (.lst xs)) (k : ∀ b o, b ≠ D → H b = some o → H1 b = some o) : SqT K H1 p vs := by
  rcases q with (h | ⟨o, h⟩) | h
  · exact .inl (.inl (k _ _ (fun e => by rw [e, hD] at h; cases h) h))
  · exact .inl (.inr ⟨o, k _ _ (fun e => by rw [e, hD] at h; cases h) h⟩)
  · exact .inr h
theorem TrAt.but {K : PySem.W.Frag} {D : Addr} {H H1 : Hp} {xs : List V} {v : V} {t : Tr} (h : TrAt K H v t) (hD : H D = some (.lst xs)) (k : ∀ b o, b ≠ D → H b = some o → H1 b = some o) : TrAt K H1 v t := h.imp fun _ _ q => sqT_but q hD k
theorem TrsAt.but {K : PySem.W.Frag} {D : Addr} {H H1 : Hp} {xs : List V} {vs : List V} {l : List Tr} (h : TrsAt K H vs l) (hD : H D = some (.lst xs)) (k : ∀ b o, b ≠ D → H b = some o → H1 b = some o) : TrsAt K H1 vs l := h.imp fun _ _ q => sqT_but q hD k
theorem TrsAt.snoc {K : PySem.W.Frag} {H : Hp} {v : V} {t : Tr} (h : TrAt K H v t) : ∀ {vs : List V} {l : List Tr}, TrsAt K H vs l → TrsAt K H (vs ++ [v]) (l ++ [t])
  | _, _, .nil => .cons h .nil
  | _, _, .cons a r => .cons a (TrsAt.snoc h r)
theorem TrsAt.length {K : PySem.W.Frag} {H : Hp} : ∀ {vs : List V} {l : List Tr}, TrsAt K H vs l → vs.length = l.length
  | _, _, .nil => rfl
  | _, _, .cons _ r => by rw [List.length_cons, List.length_cons, TrsAt.length r]
theorem TrsAt.get {K : PySem.W.Frag} {H : Hp} : ∀ {vs : List V} {l : List Tr} {i : Nat}, TrsAt K H vs l → i < l.length → ∃ v t, vs[i]? = some v ∧ l[i]? = some t ∧ TrAt K H v t
  | _, _, _, .nil, h => absurd h (Nat.not_lt_zero _)
  | _, _, 0, .cons h _, _ => ⟨_, _, rfl, rfl, h⟩
  | _, _, i + 1, .cons _ r, h => by
    obtain ⟨v, t, h1, h2, h3⟩ := TrsAt.get r (i := i) (by simpa using h)
    exact ⟨v, t, by simpa using h1, by simpa using h2, h3⟩
theorem trs_texts {K : PySem.W.Frag} {H : Hp} : ∀ l : List (List Nat), TrsAt K H (l.map T) (l.map Tr.s)
  | [] => .nil
  | _ :: l => .cons .s (trs_texts l)
/-- no tree is nested deeper than so -/
def TrD : Nat → Tr → Prop
  | 0, _ => False
  | n + 1, .t l => l.length < 1000000 ∧ ∀ t ∈ l, TrD n t
  | _ + 1, _ => True
/-! isinstance -/
section
variable {K : PySem.W.Frag} {H : Hp} {Q : VK}
theorem w_isi {x : V} {a ty : String} {r : Bool} (hx : TyX K H x (.type a)) (k : Q (.bl r) H) (hk : kitB a ty = some r := by decide +kernel) : rIsi K [x, .ty ty] H Q := ⟨_, _, _, _, _, rfl, .ty _, hx, kit_ty hk, k⟩
theorem tyx_tup {p : Addr} {vs : List V} (h : SqT K H p vs) : TyX K H (.ref p) (.type "tuple") := by
  rcases h with (h | ⟨o, h⟩) | ⟨o, its, n, h, e1, e2, _⟩
  · exact .base (.tup h)
  · exact .fTuple h
  · exact .kTuple h e1
theorem tyx_s {a : List Nat} : TyX K H (T a) (.type "str") := .base (.str _)
theorem tyx_i {i : Int} : TyX K H (.int i) (.type "int") := .base (.int _)
theorem tyx_b {b : Bool} : TyX K H (.bl b) (.type "bool") := .base (.bl _)
theorem tyx_n : TyX K H .non (.type "NoneType") := .base .non
theorem isi_s_tuple {a : List Nat} (k : Q (.bl false) H) : rIsi K [T a, .ty "tuple"] H Q := w_isi (r := false) tyx_s k
theorem isi_s_bool {a : List Nat} (k : Q (.bl false) H) : rIsi K [T a, .ty "bool"] H Q := w_isi (r := false) tyx_s k
theorem isi_s_int {a : List Nat} (k : Q (.bl false) H) : rIsi K [T a, .ty "int"] H Q := w_isi (r := false) tyx_s k
theorem isi_s_str {a : List Nat} (k : Q (.bl true) H) : rIsi K [T a, .ty "str"] H Q := w_isi (r := true) tyx_s k
theorem isi_i_tuple {i : Int} (k : Q (.bl false) H) : rIsi K [.int i, .ty "tuple"] H Q := w_isi (r := false) tyx_i k
theorem isi_i_bool {i : Int} (k : Q (.bl false) H) : rIsi K [.int i, .ty "bool"] H Q := w_isi (r := false) tyx_i k
theorem isi_i_int {i : Int} (k : Q (.bl true) H) : rIsi K [.int i, .ty "int"] H Q := w_isi (r := true) tyx_i k
theorem isi_i_str {i : Int} (k : Q (.bl false) H) : rIsi K [.int i, .ty "str"] H Q := w_isi (r := false) tyx_i k
theorem isi_b_tuple {b : Bool} (k : Q (.bl false) H) : rIsi K [.bl b, .ty "tuple"] H Q := w_isi (r := false) tyx_b k
theorem isi_b_bool {b : Bool} (k : Q (.bl true) H) : rIsi K [.bl b, .ty "bool"] H Q := w_isi (r := true) tyx_b k
theorem isi_b_int {b : Bool} (k : Q (.bl true) H) : rIsi K [.bl b, .ty "int"] H Q := w_isi (r := true) tyx_b k
theorem isi_b_str {b : Bool} (k : Q (.bl false) H) : rIsi K [.bl b, .ty "str"] H Q := w_isi (r := false) tyx_b k
theorem isi_n_tuple  (k : Q (.bl false) H) : rIsi K [.non, .ty "tuple"] H Q := w_isi (r := false) tyx_n k
theorem isi_n_bool  (k : Q (.bl false) H) : rIsi K [.non, .ty "bool"] H Q := w_isi (r := false) tyx_n k
theorem isi_n_int  (k : Q (.bl false) H) : rIsi K [.non, .ty "int"] H Q := w_isi (r := false) tyx_n k
theorem isi_n_str  (k : Q (.bl false) H) : rIsi K [.non, .ty "str"] H Q := w_isi (r := false) tyx_n k
theorem isi_t_tuple {p : Addr} (h : ∃ vs, SqT K H p vs) (k : Q (.bl true) H) : rIsi K [.ref p, .ty "tuple"] H Q := w_isi (r := true) (h.elim fun _ h => tyx_tup h) k
theorem isi_t_bool {p : Addr} (h : ∃ vs, SqT K H p vs) (k : Q (.bl false) H) : rIsi K [.ref p, .ty "bool"] H Q := w_isi (r := false) (h.elim fun _ h => tyx_tup h) k
theorem isi_t_int {p : Addr} (h : ∃ vs, SqT K H p vs) (k : Q (.bl false) H) : rIsi K [.ref p, .ty "int"] H Q := w_isi (r := false) (h.elim fun _ h => tyx_tup h) k
theorem isi_t_str {p : Addr} (h : ∃ vs, SqT K H p vs) (k : Q (.bl false) H) : rIsi K [.ref p, .ty "str"] H Q := w_isi (r := false) (h.elim fun _ h => tyx_tup h) k
end

/-! is it None -/
theorem ifN_s {a : List Nat} {A B : Prop} (k : B) : if decide (T a = V.non) = true then A else B := by rw [if_neg (by simp)]; exact k
theorem ifN_i {a : Int} {A B : Prop} (k : B) : if decide (V.int a = V.non) = true then A else B := by rw [if_neg (by simp)]; exact k
theorem ifN_b {a : Bool} {A B : Prop} (k : B) : if decide (V.bl a = V.non) = true then A else B := by rw [if_neg (by simp)]; exact k
theorem ifN_r {a : Addr} {A B : Prop} (k : B) : if decide (V.ref a = V.non) = true then A else B := by rw [if_neg (by simp)]; exact k
theorem ifN_n {A B : Prop} (k : A) : if decide (V.non = V.non) = true then A else B := by rw [if_pos (by simp)]; exact k
theorem ifM_s {a : List Nat} {A B : Prop} (k : A) : if (!decide (T a = V.non)) = true then A else B := by rw [if_pos (by simp)]; exact k
theorem ifM_i {a : Int} {A B : Prop} (k : A) : if (!decide (V.int a = V.non)) = true then A else B := by rw [if_pos (by simp)]; exact k
theorem ifM_b {a : Bool} {A B : Prop} (k : A) : if (!decide (V.bl a = V.non)) = true then A else B := by rw [if_pos (by simp)]; exact k
theorem ifM_r {a : Addr} {A B : Prop} (k : A) : if (!decide (V.ref a = V.non)) = true then A else B := by rw [if_pos (by simp)]; exact k
theorem ifM_n {A B : Prop} (k : B) : if (!decide (V.non = V.non)) = true then A else B := by rw [if_neg (by simp)]; exact k
theorem ifB_tt {A B : Prop} (k : A) : if decide (V.bl true = V.bl true) = true then A else B := by rw [if_pos (by simp)]; exact k
theorem ifB_ff {A B : Prop} (k : A) : if decide (V.bl false = V.bl false) = true then A else B := by rw [if_pos (by simp)]; exact k
theorem ifB_tf {A B : Prop} (k : B) : if decide (V.bl true = V.bl false) = true then A else B := by rw [if_neg (by simp)]; exact k
theorem ifB_ft {A B : Prop} (k : B) : if decide (V.bl false = V.bl true) = true then A else B := by rw [if_neg (by simp)]; exact k
theorem at_self {x : V} {H : Hp} {Q : VK} (k : Q (.bl true) H) : Q (.bl (decide (x = x))) H := by rw [decide_eq_true rfl]; exact k
theorem ifE_self {x : V} {A B : Prop} (k : A) : if decide (x = x) = true then A else B := by rw [if_pos (by simp)]; exact k
theorem ifD_self {x : V} {A B : Prop} (k : B) : if (!decide (x = x)) = true then A else B := by rw [if_neg (by simp)]; exact k
end Lv
/-! More steps: a comprehension over a range or a list, the heap a letter; enumerate over a list; a tuple's index; not in. -/
namespace Lv
open PySem PySem.Spec PyProof.Rows L2
/-- all but the list at D is as it was -/
def But (D : Addr) (H H1 : Hp) : Prop := ∀ b o, b ≠ D → H b = some o → H1 b = some o
theorem same_of_but {D : Addr} {H H1 H2 : Hp} (hD : H D = none) (s : Same H H1) (k : But D H1 H2) : Same H H2 := fun b o h => k b o (fun e => by rw [e, hD] at h; cases h) (s b o h)
section
variable {σ : L2.St} {H : Hp} {Q : VK} {K : PySem.W.Frag}
/-- what a comprehension over a range asks -/
def LcR (g : TG) (tt : TT) (te : TE) (vs : List Nat) (ws : List V) (σ : L2.St) (H : Hp) (Q : VK) : Prop := ∃ j : Int, ws = [.int j] ∧ -(2 ^ 62) ≤ j ∧ j < 2 ^ 62 ∧ ∀ D, H D = none → ∃ W : Nat → Nat → Hp → Prop, (∃ m, W 0 m (upd H D (.lst []))) ∧ ∀ i m H, W i m H →
  ((Itr 0 j.toNat).stop i H ∧ Q (.ref D) H) ∨ ((Itr 0 j.toNat).go i H ∧ ∃ Nx : Hp → Prop, (∀ H', Nx H' → ∃ m', m' < m ∧ W (i + 1) m' H') ∧ ∀ x H', (Itr 0 j.toNat).yld i H x H' → g x (wipe σ vs) H' fun σ2 H2 => wipe σ2 vs = wipe σ vs ∧ tt σ2 H2 fun b H3 =>
    if b = true then te σ2 H3 fun y H4 => ∃ acc, H4 D = some (.lst acc) ∧ acc.length < sizeLine ∧ Nx (upd H4 D (.lst (acc ++ [y]))) else Nx H3)
theorem w_lcR {ta : TA} {g : TG} {tt : TT} {te : TE} {vs : List Nat} (k : ta σ H fun ws H1 => LcR g tt te vs ws σ H1 Q) : tLc (iRng1 ta) g tt te vs σ H Q := k
/-- what holds between two turns: of the list at D, and what is made so far -/
def LcN (Pv : Addr → Nat → List V → Hp → Prop) (D : Addr) (i : Nat) (H1 : Hp) : Prop := ∃ acc, acc.length ≤ i ∧ H1 D = some (.lst acc) ∧ Pv D i acc H1
theorem lc_skip {Pv : Addr → Nat → List V → Hp → Prop} {D : Addr} {i : Nat} {acc : List V} {H1 : Hp} (hl : acc.length ≤ i) (h : H1 D = some (.lst acc)) (p : Pv D (i + 1) acc H1) : LcN Pv D (i + 1) H1 := ⟨acc, by omega, h, p⟩
theorem lc_keep {Pv : Addr → Nat → List V → Hp → Prop} {D : Addr} {i : Nat} {acc : List V} {y : V} {H1 : Hp} (hl : acc.length ≤ i) (hi : i < 1000000) (h : H1 D = some (.lst acc)) (p : ∀ H5, H5 D = some (.lst (acc ++ [y])) → But D H1 H5 → Pv D (i + 1) (acc ++ [y]) H5) :
    ∃ acc, H1 D = some (.lst acc) ∧ acc.length < sizeLine ∧ LcN Pv D (i + 1) (upd H1 D (.lst (acc ++ [y]))) :=
  ⟨acc, h, Nat.lt_of_le_of_lt hl (Nat.lt_trans hi (by decide)), acc ++ [y], by rw [List.length_append]; show acc.length + 1 ≤ i + 1; omega, upd_same, p _ upd_same fun b o n e => by rw [upd_ne n]; exact e⟩
/-- over range(n) -/
theorem lc_R {g : TG} {tt : TT} {te : TE} {vs : List Nat} {j : Int} (Pv : Addr → Nat → List V → Hp → Prop) (hj : 0 ≤ j) (hn : j < 1000000)
    (h0 : ∀ D H1, H D = none → Same H H1 → H1 D = some (.lst []) → Pv D 0 [] H1)
    (hs : ∀ D (i : Nat) acc H1, (i : Int) < j → acc.length ≤ i → H1 D = some (.lst acc) → Pv D i acc H1 → g (.int (0 + (i : Int))) (wipe σ vs) H1 fun σ2 H2 => wipe σ2 vs = wipe σ vs ∧ tt σ2 H2 fun b H3 =>
      if b = true then te σ2 H3 fun y H4 => ∃ acc, H4 D = some (.lst acc) ∧ acc.length < sizeLine ∧ LcN Pv D (i + 1) (upd H4 D (.lst (acc ++ [y]))) else LcN Pv D (i + 1) H3)
    (hd : ∀ D acc H1, acc.length ≤ j.toNat → H1 D = some (.lst acc) → Pv D j.toNat acc H1 → Q (.ref D) H1) : LcR g tt te vs [.int j] σ H Q := by
  refine ⟨j, rfl, by omega, by omega, fun D hD => ?_⟩
  refine ⟨fun i m H1 => m = j.toNat - i ∧ i ≤ j.toNat ∧ LcN Pv D i H1, ⟨j.toNat, by simp, Nat.zero_le _, [], Nat.le_refl _, upd_same, h0 D _ hD (same_new0 hD) upd_same⟩, ?_⟩
  rintro i m H1 ⟨rfl, hi, acc, ha, hD1, p⟩
  by_cases hlt : i < j.toNat
  · refine .inr ⟨hlt, LcN Pv D (i + 1), fun H' p' => ⟨j.toNat - (i + 1), by omega, rfl, hlt, p'⟩, fun x H' y => ?_⟩
    obtain ⟨e, y⟩ := y
    subst e y
    exact hs D i acc _ (by omega) ha hD1 p
  · have e : i = j.toNat := by omega
    subst e
    exact .inl ⟨Nat.le_refl _, hd D acc _ ha hD1 p⟩
/-- over a list -/
def LcL (K : PySem.W.Frag) (g : TG) (tt : TT) (te : TE) (vs : List Nat) (x : V) (σ : L2.St) (H : Hp) (Q : VK) : Prop := ∃ a, x = .ref a ∧ (∃ xs, SqL K H a xs) ∧ ∀ D, H D = none → ∃ W : Nat → Nat → Hp → Prop, (∃ m, W 0 m (upd H D (.lst []))) ∧ ∀ i m H, W i m H →
  ((Itl K a).stop i H ∧ Q (.ref D) H) ∨ ((Itl K a).go i H ∧ ∃ Nx : Hp → Prop, (∀ H', Nx H' → ∃ m', m' < m ∧ W (i + 1) m' H') ∧ ∀ x H', (Itl K a).yld i H x H' → g x (wipe σ vs) H' fun σ2 H2 => wipe σ2 vs = wipe σ vs ∧ tt σ2 H2 fun b H3 =>
    if b = true then te σ2 H3 fun y H4 => ∃ acc, H4 D = some (.lst acc) ∧ acc.length < sizeLine ∧ Nx (upd H4 D (.lst (acc ++ [y]))) else Nx H3)
theorem w_lcL {te0 : TE} {g : TG} {tt : TT} {te : TE} {vs : List Nat} (k : te0 σ H fun x H1 => LcL K g tt te vs x σ H1 Q) : tLc (iList K te0) g tt te vs σ H Q := k
theorem lc_L {g : TG} {tt : TT} {te : TE} {vs : List Nat} {a : Addr} {xs : List V} (Pv : Addr → Nat → List V → Hp → Prop) (ha : SqL K H a xs)
    (h0 : ∀ D H1, H D = none → Same H H1 → H1 D = some (.lst []) → Pv D 0 [] H1)
    (hl : ∀ D i acc H1, i ≤ xs.length → Pv D i acc H1 → SqL K H1 a xs)
    (hs : ∀ D (i : Nat) x acc H1, xs[i]? = some x → acc.length ≤ i → H1 D = some (.lst acc) → Pv D i acc H1 → g x (wipe σ vs) H1 fun σ2 H2 => wipe σ2 vs = wipe σ vs ∧ tt σ2 H2 fun b H3 =>
      if b = true then te σ2 H3 fun y H4 => ∃ acc, H4 D = some (.lst acc) ∧ acc.length < sizeLine ∧ LcN Pv D (i + 1) (upd H4 D (.lst (acc ++ [y]))) else LcN Pv D (i + 1) H3)
    (hd : ∀ D acc H1, acc.length ≤ xs.length → H1 D = some (.lst acc) → Pv D xs.length acc H1 → Q (.ref D) H1) : LcL K g tt te vs (.ref a) σ H Q := by
  refine ⟨a, rfl, ⟨xs, ha⟩, fun D hD => ?_⟩
  refine ⟨fun i m H1 => m = xs.length - i ∧ i ≤ xs.length ∧ LcN Pv D i H1, ⟨xs.length, by simp, Nat.zero_le _, [], Nat.le_refl _, upd_same, h0 D _ hD (same_new0 hD) upd_same⟩, ?_⟩
  rintro i m H1 ⟨rfl, hi, acc, hac, hD1, p⟩
  have q := hl D i acc H1 hi p
  by_cases hlt : i < xs.length
  · refine .inr ⟨⟨xs, xs[i], q, List.getElem?_eq_getElem hlt⟩, LcN Pv D (i + 1), fun H' p' => ⟨xs.length - (i + 1), by omega, rfl, hlt, p'⟩, fun x H' y => ?_⟩
    obtain ⟨e, y⟩ := y
    subst e
    exact hs D i x acc _ (y xs q) hac hD1 p
  · have e : i = xs.length := by omega
    subst e
    exact .inl ⟨⟨xs, q, Nat.le_refl _⟩, hd D acc _ hac hD1 p⟩
/-- a comprehension without a test -/
theorem w_yes {G : Bool → Hp → Prop} (k : G true H) : tYes σ H G := k
/-! truth of a value -/
def rTru (K : PySem.W.Frag) (x : V) (H : Hp) (Q : Bool → Hp → Prop) : Prop := ∃ k, TruV K x H k ∧ Q k H
def tTruV (K : PySem.W.Frag) (ta : TE) : TT := fun σ H Q => ta σ H fun x H' => rTru K x H' Q
theorem pt_tru {X : Cx} {a : Expr} {ta : TE} (ha : PE X a ta) (he : ∀ whole, isTrue a X.env whole = (do let v ← whole; standAt a.pos; holding [v] (truthy v)) := by intro _; rfl) : PT X a (tTruV X.K ta) := pt_truth ha he
theorem w_tru {ta : TE} {G : Bool → Hp → Prop} (k : ta σ H fun x H' => rTru K x H' G) : tTruV K ta σ H G := k
theorem w_truL {p : Addr} {xs : List V} {G : Bool → Hp → Prop} (h : SqL K H p xs) (k1 : xs ≠ [] → G true H) (k2 : xs = [] → G false H) : rTru K (.ref p) H G := by
  refine ⟨!xs.isEmpty, .inl ⟨xs, h, rfl⟩, ?_⟩
  cases xs with
  | nil => exact k2 rfl
  | cons x xs => exact k1 (List.cons_ne_nil _ _)
theorem w_truT {p : Addr} {xs : List V} {G : Bool → Hp → Prop} (h : SqT K H p xs) (k1 : xs ≠ [] → G true H) (k2 : xs = [] → G false H) : rTru K (.ref p) H G := by
  refine ⟨!xs.isEmpty, .inr (.inl ⟨xs, h, rfl⟩), ?_⟩
  cases xs with
  | nil => exact k2 rfl
  | cons x xs => exact k1 (List.cons_ne_nil _ _)
/-! is None -/
def rIsN : R2 := fun x y H Q => y = .non ∧ Q (.bl (decide (x = .non))) H
theorem op_isN {X : Cx} : OpR X (compareOp .Is) rIsN := L2.op_isN
theorem w_isN {x : V} (k : Q (.bl (decide (x = .non))) H) : rIsN x .non H Q := ⟨rfl, k⟩
def rNotN : R2 := fun x y H Q => y = .non ∧ Q (.bl (!decide (x = .non))) H
theorem op_notN {X : Cx} : OpR X (compareOp .IsNot) rNotN := L2.op_notN
theorem w_notN {x : V} (k : Q (.bl (!decide (x = .non))) H) : rNotN x .non H Q := ⟨rfl, k⟩
/-! not in -/
theorem w_ninL {a : List Nat} {p : Addr} {l : List (List Nat)} (h : SqL K H p (l.map T)) (k : Q (.bl (!decide (a ∈ l))) H) : rIn K true (T a) (.ref p) H Q :=
  ⟨p, _, rfl, .inl h, rfl, flat_T l, by rw [if_pos rfl, inV_T]; exact k⟩
theorem w_ninT {a : List Nat} {p : Addr} {l : List (List Nat)} (h : SqT K H p (l.map T)) (k : Q (.bl (!decide (a ∈ l))) H) : rIn K true (T a) (.ref p) H Q :=
  ⟨p, _, rfl, .inr h, rfl, flat_T l, by rw [if_pos rfl, inV_T]; exact k⟩
/-! tuple(list): the new tuple's object is known (it has no dict) -/
def FT (H : Hp) (p : Addr) (xs : List V) : Prop := ∃ o : Obj, o.dict = none ∧ H p = some (.frz o (.tup xs))
theorem FT.sq {p : Addr} {xs : List V} (h : FT H p xs) : SqT K H p xs := by
  obtain ⟨o, _, h⟩ := h
  exact .inl (.inr ⟨o, h⟩)
theorem FT.same {p : Addr} {xs : List V} {H1 : Hp} (h : FT H p xs) (s : Same H H1) : FT H1 p xs := by
  obtain ⟨o, e, h⟩ := h
  exact ⟨o, e, s _ _ h⟩
theorem FT.but {p D : Addr} {xs ys : List V} {H1 : Hp} (h : FT H p xs) (hD : H D = some (.lst ys)) (k : ∀ b o, b ≠ D → H b = some o → H1 b = some o) : FT H1 p xs := by
  obtain ⟨o, e, h⟩ := h
  exact ⟨o, e, k _ _ (fun z => by rw [z, hD] at h; cases h) h⟩
def rTupOf (K : PySem.W.Frag) : List V → Hp → VK → Prop := fun xs H Q => ∃ p ys, xs = [.ref p] ∧ SqL K H p ys ∧ ∀ l o, H l = none → o.dict = none → Q (.ref l) (upd H l (.frz o (.tup ys)))
theorem call_tupleOf {X : Cx} : CallR X (.type "tuple") (rTupOf X.K) := by
  intro pins s σ H xs us Q I r h
  obtain ⟨p, ys, rfl, hq, q⟩ := h
  obtain ⟨u, rfl, rx⟩ := vals1 r
  cases rx
  obtain ⟨its, r', pl, hz⟩ := I.list hq
  have hlen := r'.length
  refine call_tuple_list pl.isList (fun h' kp => ?_) (by simp only [List.size_toArray] <;> omega)
  have I1 : Inv X pins σ H { s with heap := h' } := I.kept (t' := s.toks) kp
  have I2 : Inv X pins σ (upd H h'.objs.size (.frz { cls := .type "tuple", data := .seq its.toArray } (.tup ys))) { s with heap := h'.push { cls := .type "tuple", data := .seq its.toArray } } :=
    I1.laid (t' := s.toks) (fun b o e => Heap.get?_push_of_some _ e) (Nat.le_refl _) (show ObjOk X.prog X.w _ _ _ (.frz _ (.tup ys)) from ⟨Heap.get?_push_size _ rfl, hz, its, r', IsTup.new _ _⟩)
  exact ⟨.ref h'.objs.size, _, I2, rfl, q _ _ (I1.hok.fresh (Nat.le_refl _)) rfl⟩
theorem w_tupOf {p : Addr} {ys : List V} (h : SqL K H p ys) (k : ∀ l H1, H l = none → Same H H1 → FT H1 l ys → Q (.ref l) H1) : rTupOf K [.ref p] H Q :=
  ⟨p, ys, rfl, h, fun l o hl e => k l _ hl (same_new0 hl) ⟨o, e, upd_same⟩⟩
/-! a tuple's own method -/
def tBMT (r : V → List V → Hp → VK → Prop) (to : TE) (t : TA) : TE := fun σ H Q => to σ H fun x H1 => (∃ p xs, x = .ref p ∧ FT H1 p xs) ∧ t σ H1 fun xs H2 => r x xs H2 Q
theorem pe_bmT {X : Cx} {o e : Expr} {es : List Expr} {name : Str} {id : String} {r : V → List V → Hp → VK → Prop} {to : TE} {t : TA} {apos cpos : Pos} (pa : PlainAttrs "tuple") (slot : Slot "tuple" name id) (hty : typeOf (.builtin id) = pure (.type "method_descriptor")) (hm : MtR X id r) (ho : PE X o to) (ha : PA X (e :: es) t)
    (hbase : attributeBase o name X.env (eval o X.env) = eval o X.env := by rfl)
    (hfew : ((backTo cpos (starEach (e :: es) X.env)).all (fun x => !x.1) && (backToKw cpos (keywordEach [] X.env)).all (fun x => x.1.isSome)
      && decide ((e :: es).length + ([] : List Keyword).length + (if ([] : List Keyword).isEmpty then 0 else 1) < 30)) = true := by rfl)
    (hline : (apos.endLine == cpos.line) = true := by rfl) (hs : starEach (e :: es) X.env = (false, eval e X.env) :: starEach es X.env := by rfl) (hplain : (backTo cpos (starEach es X.env)).any (·.1) = false := by rfl) :
    PE X (.Call (.Attribute o name apos) (e :: es) [] cpos) (tBMT r to t) := by
  refine ⟨fun pins s σ H Q I h => ?_⟩
  refine wpAny_Call_method_late hbase hfew hline rfl (thn (ho.run pins s σ H _ I h) fun v s1 ⟨x, H1, I1, r1, ty, q1⟩ => ?_)
  obtain ⟨p, ys, rfl, o, hd, hp⟩ := ty
  cases r1
  obtain ⟨g, hz, its, rv, o2, g2, hc, n, hda⟩ := (show ObjOk X.prog X.w H1 s1.heap p (.frz o (.tup ys)) from I1.hok p _ hp)
  have eo : o2 = o := Option.some.inj (g2.symm.trans g)
  subst eo
  have h1 : s1.TypeIs (.ref p) "tuple" := ⟨o2, g, hc⟩
  have h2 : ∀ a, Value.ref p = .ref a → ∃ ob, s1.heap.get? a = some ob ∧ ob.dict = none := fun a e => by cases e; exact ⟨o2, g, hd⟩
  refine ⟨"tuple", id, pa, slot, hty, h1, h2, ?_⟩
  have hA := ha.run cpos pins s1 σ H1 _ I1 q1
  rw [hs] at hA ⊢
  refine Calls.callWith_builtin (by show (false || (backTo cpos (starEach es X.env)).any (·.1)) = false; rw [hplain] <;> rfl) (Calls.evalArgs_plain ?_)
  exact thn hA fun us s2 ⟨vs, H2, I2, r2, q2⟩ => hm pins s2 σ H2 (V.ref p) vs (.ref p) us Q I2 rfl r2 q2
theorem w_bmT {r : V → List V → Hp → VK → Prop} {to : TE} {t : TA} {σ : L2.St} (k : to σ H fun x H1 => (∃ p xs, x = .ref p ∧ FT H1 p xs) ∧ t σ H1 fun xs H2 => r x xs H2 Q) : tBMT r to t σ H Q := k
/-! t.index(x) -/
def rTupIx (K : PySem.W.Frag) : V → List V → Hp → VK → Prop := fun x xs H Q => ∃ p, ∃ ys : List Str, ∃ z j, x = .ref p ∧ xs = [.str z] ∧ SqT K H p (ys.map V.str) ∧ ys[j]? = some z ∧ (∀ m, m < j → ys[m]? ≠ some z) ∧ Q (.int (j : Nat)) H
theorem mt_tupIx {X : Cx} : MtR X "tuple.index" (rTupIx X.K) := L2.mt_tup_index
def S (a : List Nat) : Str := ⟨a.toArray⟩
theorem S_inj {a b : List Nat} (h : S a = S b) : a = b := T_inj (congrArg V.str h)
theorem map_T_S (l : List (List Nat)) : l.map T = (l.map S).map V.str := by rw [List.map_map]; rfl
theorem w_tupIx {a : List Nat} {p : Addr} {l : List (List Nat)} (h : SqT K H p (l.map T)) (ha : a ∈ l) (k : Q (.int ((l.idxOf a : Nat) : Int)) H) : rTupIx K (.ref p) [T a] H Q := by
  have hlt : l.idxOf a < l.length := List.idxOf_lt_length_of_mem ha
  refine ⟨p, l.map S, S a, l.idxOf a, rfl, rfl, by rw [← map_T_S]; exact h, ?_, fun m hm e => ?_, k⟩
  · rw [List.getElem?_map, List.getElem?_eq_getElem hlt, List.getElem_idxOf hlt]; rfl
  · have hm2 : m < l.length := Nat.lt_trans hm hlt
    rw [List.getElem?_map, List.getElem?_eq_getElem hm2] at e
    have e2 : l[m] = a := S_inj (Option.some.inj e)
    have z := List.not_of_lt_findIdx (p := (· == a)) (xs := l) (i := m) hm
    rw [e2] at z
    simp at z
def rAbs : List V → Hp → VK → Prop := fun xs H Q => ∃ i, xs = [.int i] ∧ Q (.int (if i < 0 then -i else i)) H
theorem call_absI {X : Cx} : CallR X (.builtin "abs") rAbs := L2.call_abs
theorem w_abs {a : Int} (k : Q (.int (if a < 0 then -a else a)) H) : rAbs [.int a] H Q := ⟨a, rfl, k⟩
theorem w_neg {f : Int → V} {a : Int} (k : Q (f a) H) : rU f (.int a) H Q := ⟨a, rfl, k⟩
def rLtS : R2 := fun x y H Q => ∃ i j, x = .str i ∧ y = .str j ∧ Q (.bl (decide (i.cps.toList < j.cps.toList))) H
theorem op_ltS {X : Cx} : OpR X (compareOp .Lt) rLtS := L2.op_lt_str
theorem w_ltS {a b : List Nat} (k : Q (.bl (decide (a < b))) H) : rLtS (T a) (T b) H Q := ⟨_, _, rfl, rfl, k⟩
def rLeT : R2 := fun x y H Q => ∃ i j, x = .str i ∧ y = .str j ∧ Q (.bl (!decide (j.cps.toList < i.cps.toList))) H
theorem op_leT {X : Cx} : OpR X (compareOp .LtE) rLeT := L2.op_le_str
theorem w_leS {a b : List Nat} (k : Q (.bl (!decide (b < a))) H) : rLeT (T a) (T b) H Q := ⟨_, _, rfl, rfl, k⟩
theorem w_all {p : Addr} {bs : List Bool} (h : SqL K H p (bs.map V.bl)) (k : Q (.bl (bs.all id)) H) : L2.rAll K [.ref p] H Q := ⟨p, bs, rfl, h, k⟩
end
/-! for i, x in enumerate(xs), a list -/
section
variable {K : PySem.W.Frag} {ta : TA} {g : TG} {tb : TS} {D : Ends} {σ : L2.St} {H : Hp}
def ForEl (K : PySem.W.Frag) (g : TG) (tb : TS) (vs : List V) (D : Ends) (σ : L2.St) (H : Hp) : Prop := ∃ a xs, vs = [.ref a] ∧ SqL K H a xs ∧ ∃ W : Nat → Nat → L2.St → Hp → Prop, (∃ m, W 0 m σ H) ∧ ∀ i m σ H, W i m σ H →
  ((Ite K a).stop i H ∧ D.nx σ H) ∨ ((Ite K a).go i H ∧ ∃ N : L2.St → Hp → Prop, (∀ σ' H', N σ' H' → ∃ m', m' < m ∧ W (i + 1) m' σ' H') ∧ ∀ x H', (Ite K a).yld i H x H' → g x σ H' fun σ2 H2 => tb { D with nx := N, ct := N, bk := D.nx } σ2 H2)
theorem w_forEl (k : ta σ H fun vs H1 => ForEl K g tb vs D σ H1) : tFor (iEnum K ta) g tb D σ H := k
theorem for_El {a : Addr} {xs : List V} (Pv : Nat → L2.St → Hp → Prop) (h0 : Pv 0 σ H) (hl : ∀ i σ H, i ≤ xs.length → Pv i σ H → SqL K H a xs)
    (hs : ∀ i x σ H p H', xs[i]? = some x → Pv i σ H → H p = none → Same H H' → H' p = some (.tup [.int (i : Int), x]) → g (.ref p) σ H' fun σ2 H2 => tb { D with nx := Pv (i + 1), ct := Pv (i + 1), bk := D.nx } σ2 H2)
    (hd : ∀ σ H, Pv xs.length σ H → D.nx σ H) : ForEl K g tb [.ref a] D σ H := by
  refine ⟨a, xs, rfl, hl 0 σ H (Nat.zero_le _) h0, fun i m σ H => m = xs.length - i ∧ i ≤ xs.length ∧ Pv i σ H, ⟨xs.length, by simp, Nat.zero_le _, h0⟩, ?_⟩
  rintro i m σ H ⟨rfl, hi, p⟩
  by_cases hlt : i < xs.length
  · refine .inr ⟨⟨xs, xs[i], hl i σ H hi p, List.getElem?_eq_getElem hlt⟩, Pv (i + 1), fun σ' H' p' => ⟨xs.length - (i + 1), by omega, rfl, hlt, p'⟩, fun x H' y => ?_⟩
    obtain ⟨q, z, rfl, hq, rfl, hz⟩ := y
    exact hs i z σ H q _ (hz xs (hl i σ H hi p)) p hq (same_new hq) upd_same
  · have e : i = xs.length := by omega
    subst e
    exact .inl ⟨⟨xs, hl _ σ H hi p, Nat.le_refl _⟩, hd σ H p⟩
end
end Lv
/-! isinstance of a caught error that has a dict of its own; a call in a try. -/
namespace L2
open PySem PySem.Spec PyProof.Rows
/-- isinstance(e, c), e the exception that the suite holds, at a, of the class cls, its dict d -/
def rIsG (K : PySem.W.Frag) (a : Addr) (cls : Value) (d : Option Addr) : List V → Hp → VK → Prop := fun xs H Q => ∃ (D dd : Addr) (fs : List (Str × V)) (c : V) (cv : Value) (b : Bool), xs = [.ref a, c] ∧ cls = .ref D ∧ d = some dd ∧ H dd = some (.xd fs) ∧ ExcC K D ∧
  (∀ u, RelV c u → u = cv) ∧ PySem.W.kitOne K (.ref D) cv = some b ∧ Q (.bl b) H
theorem call_isG {X : Cx} {a : Addr} {cls : Value} {d : Option Addr} {oe : Obj} {pn : List (Addr × Obj)} (hz : Zc cls d oe) (hf : ∃ vs, oe.data = .fields vs) : CallR (X.suite a ((a, oe) :: pn)) (.builtin "isinstance") (rIsG X.K a cls d) := by
  intro pins s σ H xs us Q I r h
  obtain ⟨D, dd, fs, c, cv, b, rfl, rfl, rfl, hdd, C, hcv, e, q⟩ := h
  cases r with
  | cons rx rr =>
    cases rr with
    | cons rt rr =>
      cases rr
      cases rx
      have ec := hcv _ rt
      subst ec
      obtain ⟨hget, _⟩ := I.pin (a, oe) (List.mem_append.mpr (.inl List.mem_cons_self))
      obtain ⟨vs, hv⟩ := hf
      have hx : ObjOk X.prog X.w H s.heap dd (.xd fs) := I.hok dd _ hdd
      obtain ⟨mA, hns, _⟩ := hx
      obtain ⟨od, es, ep, hod, _⟩ := hns
      have J : PySem.W.InstAt s.heap a oe D (some od) := by
        obtain ⟨oc, od', oda, osl⟩ := oe
        obtain ⟨h1, h2⟩ := hz
        dsimp only at h1 h2 hv
        subst h1 h2 hv
        exact ⟨hget, rfl, rfl, hod⟩
      have hcl : (PySem.W.clsIn X.K D).isSome = true := by
        obtain ⟨cd, hc, _⟩ := PySem.W.any_some C.hd
        rw [hc]; rfl
      exact PySem.W.kia_one (PySem.W.kitx_exc hcl C.hg C.hk C.hs C.ha C.hn C.ht C.hm) I.kIn J e (fun z => nomatch z) fun tk => ⟨.bl b, H, I.kept (t' := tk) fun _ _ z => z, rfl, q⟩
end L2
namespace Lv
open PySem PySem.Spec PyProof.Rows L2
section
variable {X : Cx} {k j : Nat} {x : Str} {sp : Sp} {W : WX} {p pos : Pos} {e : Expr} {es : List Expr} {t : TA}
theorem pe_cxs (c : CalX X.prog X.w X.K X.mg X.base k x sp) (hr : Room j X.A) (hk : k ≤ j) (hg : Gl X x) (tk : Takes X W) (ha : PA X (e :: es) t)
    (hdb : (x == ("__debug__" : Str)) = false := by decide) (he : starEach (e :: es) X.env = (false, eval e X.env) :: starEach es X.env := by rfl) (hpl : (backTo pos (starEach es X.env)).any (·.1) = false := by rfl) :
    PE X (.Call (.Name x p) (e :: es) [] pos) (tCallS sp (WE W) t) := by
  obtain ⟨f, fd, ps, F, hm, kp, b⟩ := c.ex
  exact pe_callS F (hr.mono hk) hg hm kp b (fun σ => passAt tk σ) ha hdb he hpl
end
end Lv
namespace Lv
open PySem PySem.Spec PyProof.Rows L2
open TL (numL tl_num numL_digits numL_ne numL_val numL_len numL_lt numL_step)
/-! ### codes -/
def cds (s : String) : List Nat := (Str.ofString s).cps.toList
abbrev aJ : List Nat := cds "abcdefghijklmnopqrstuvwxyzABCDEFGHIJKLMNOPQRSTUVWXYZ0123456789"
abbrev aLow : List Nat := cds "abcdefghijklmnopqrstuvwxyz"
abbrev aUp : List Nat := cds "ABCDEFGHIJKLMNOPQRSTUVWXYZ"
abbrev aDig : List Nat := cds "0123456789"
def WL : List (List Nat) := ["method", "var", "end", "give", "fail", "if", "then", "else", "while", "do", "try", "catch", "keep", "always", "none", "true", "false", "self", "super", "new", "not", "and", "or"].map cds
theorem len_aJ : aJ.length = 62 := by decide +kernel
theorem len_aLow : aLow.length = 26 := by decide +kernel
theorem len_aUp : aUp.length = 26 := by decide +kernel
theorem WL_len : ∀ x ∈ WL, x.length ≤ 6 := by decide +kernel
theorem WL_one : ∀ x ∈ WL, ¬ (x ++ [49]) ∈ WL := by decide +kernel
theorem WL_form : ∀ x ∈ WL, ∃ c r, x = c :: r ∧ c ∈ aLow ∧ (∀ d ∈ r, d ∈ aJ) := by
  have h : ∀ x ∈ WL, x.headD 0 ∈ aLow ∧ (∀ d ∈ x.tail, d ∈ aJ) ∧ x ≠ [] := by decide +kernel
  intro x hx
  obtain ⟨h1, h2, h3⟩ := h x hx
  cases x with
  | nil => exact absurd rfl h3
  | cons c r => exact ⟨c, r, rfl, h1, h2⟩
theorem at_mod {l : List Nat} {n : Nat} (hl : l.length = n) (h0 : 0 < n) (x : Int) : ∃ c, c ∈ l ∧ atI l (x.fmod (n : Int)) = some c := by
  have b0 := Int.fmod_nonneg_of_pos x (show (0 : Int) < n by omega)
  have b1 := Int.fmod_lt_of_pos x (show (0 : Int) < n by omega)
  obtain ⟨j, e⟩ : ∃ j : Nat, x.fmod (n : Int) = (j : Int) := ⟨(x.fmod (n : Int)).toNat, by omega⟩
  have hj : j < l.length := by omega
  refine ⟨l[j], List.getElem_mem hj, ?_⟩
  rw [e]
  exact atI_nat (List.getElem?_eq_getElem hj)
theorem at_lt {l : List Nat} {x : Int} (h0 : 0 ≤ x) (h1 : x < l.length) : ∃ c, c ∈ l ∧ atI l x = some c := by
  obtain ⟨j, rfl⟩ : ∃ j : Nat, x = (j : Int) := ⟨x.toNat, by omega⟩
  have hj : j < l.length := by omega
  exact ⟨l[j], List.getElem_mem hj, atI_nat (List.getElem?_eq_getElem hj)⟩
theorem cut_mem {a : List Nat} {lo hi : Option Int} {c : Nat} (h : c ∈ cut a lo hi) : c ∈ a := List.mem_of_mem_drop (List.mem_of_mem_take h)
theorem cut_len (a : List Nat) (lo hi : Option Int) : (cut a lo hi).length ≤ a.length := by
  unfold cut
  rw [List.length_take, List.length_drop]
  omega
theorem cut_to (a : List Nat) (k : Nat) : cut a none (some (k : Int)) = a.take k := by
  unfold cut
  rw [HT.sIx_none, HT.sIx_nat, List.drop_zero, Nat.sub_zero]
  by_cases h : k ≤ a.length
  · rw [Nat.min_eq_left h]
  · rw [Nat.min_eq_right (by omega), List.take_of_length_le (Nat.le_refl _), List.take_of_length_le (by omega)]
theorem cut_mid (a : List Nat) {i j : Nat} (hj : j ≤ a.length) : cut a (some (i : Int)) (some (j : Int)) = (a.drop i).take (j - i) := by
  unfold cut
  rw [HT.sIx_nat, HT.sIx_nat, Nat.min_eq_left hj]
  by_cases h : i ≤ a.length
  · rw [Nat.min_eq_left h]
  · rw [Nat.min_eq_right (by omega)]
    have e1 : j - a.length = 0 := by omega
    have e2 : j - i = 0 := by omega
    rw [e1, e2]; rfl
theorem mem_rep {n : Nat} {a : List Nat} {c : Nat} (h : c ∈ (List.replicate n a).flatten) : c ∈ a := by
  obtain ⟨l, h1, h2⟩ := List.mem_flatten.mp h
  rw [(List.mem_replicate.mp h1).2] at h2
  exact h2
theorem len_rep (n : Nat) (a : List Nat) : (List.replicate n a).flatten.length = n * a.length := by simp
theorem rep_one (n c : Nat) : (List.replicate n [c]).flatten = List.replicate n c := by
  induction n with
  | zero => rfl
  | succ n ih => rw [List.replicate_succ, List.flatten_cons, ih, List.replicate_succ]; rfl

/-! ### the tokens of a text, as a function of its codes -/
def MLs : List (List Nat) := [":=", "<=", "(", ")", "{", "}", ",", ";", ".", "|", "=", "<", "+", "-", "*", "/"].map cds
theorem len_MLs : MLs.length = 16 := by decide +kernel
theorem len_WL : WL.length = 23 := by decide +kernel
def letC (c : Nat) : Bool := decide (c ∈ aJ)
def digC (c : Nat) : Bool := decide (48 ≤ c) && decide (c ≤ 57)
def srcC (c : Nat) : Bool := decide (32 ≤ c) && decide (c ≤ 126) && !decide (c = 37)
theorem aJ_split : aJ = aLow ++ aUp ++ aDig := by decide +kernel
theorem let_or (c : Nat) : letC c = (decide (c ∈ aLow) || (decide (c ∈ aUp) || decide (c ∈ aDig))) := by
  unfold letC
  rw [aJ_split]
  simp only [List.mem_append, Bool.decide_or, Bool.or_assoc]
theorem aJ_ascii : ∀ c ∈ aJ, c < 128 := by decide +kernel
theorem dig_iff (c : Nat) : decide (c ∈ aDig) = digC c := by
  have e : aDig = [48, 49, 50, 51, 52, 53, 54, 55, 56, 57] := by decide +kernel
  unfold digC
  rw [e, Bool.eq_iff_iff, Bool.and_eq_true, decide_eq_true_iff, decide_eq_true_iff, decide_eq_true_iff]
  simp only [List.mem_cons, List.not_mem_nil, or_false]
  omega
theorem dig_let {c : Nat} (h : digC c = true) : letC c = true := by
  rw [let_or, dig_iff, h]; simp
/-- kind, value, length -/
def numRun (a : List Nat) : Option Nat := if (a.all digC && !(decide (a.headD 0 = 48) && decide (1 < a.length)) && decide (a.length ≤ 10) && decide (NumText.digitsVal a ≤ 1000000000)) = true then some (NumText.digitsVal a) else none
def ofRun (a : List Nat) : Option (List Nat × V) :=
  if digC (a.headD 0) = true then (numRun a).map fun n => (cds "number", .int (n : Int))
  else if 20 < a.length then none
  else if a.headD 0 ∈ aUp then some (cds "class", T a)
  else if a ∈ WL then some (cds "word", T a)
  else some (cds "name", T a)
def upQ (r : List Nat) : List Nat := r.takeWhile (fun x => x != 39)
def endTx (r : List Nat) : Option (List Nat) := if (decide ((upQ r).length < r.length) && decide ((upQ r).length ≤ 200) && (upQ r).all srcC) = true then some (upQ r) else none
def one : List Nat → Option (List Nat × V × Nat)
  | [] => none
  | c :: r => if c = 39 then (endTx r).map fun b => (cds "text", T b, b.length + 2)
    else if letC c = true then (ofRun ((c :: r).takeWhile letC)).map fun p => (p.1, p.2, ((c :: r).takeWhile letC).length)
    else (MLs.find? fun m => m.isPrefixOf (c :: r)).map fun m => (cds "mark", T m, m.length)
theorem one_cons (c : Nat) (r : List Nat) : one (c :: r) = if c = 39 then (endTx r).map fun b => (cds "text", T b, b.length + 2)
    else if letC c = true then (ofRun ((c :: r).takeWhile letC)).map fun p => (p.1, p.2, ((c :: r).takeWhile letC).length)
    else (MLs.find? fun m => m.isPrefixOf (c :: r)).map fun m => (cds "mark", T m, m.length) := rfl
abbrev Tk := List Nat × V × Nat
def lex (pos : Nat) : List Nat → List Tk × Option Nat
  | [] => ([], none)
  | c :: r => if c = 32 then lex (pos + 1) r
    else match one (c :: r) with
      | none => ([], some pos)
      | some t => let q := lex (pos + t.2.2) (r.drop (t.2.2 - 1)); ((t.1, t.2.1, pos) :: q.1, q.2)
termination_by l => l.length
decreasing_by
  · simp
  · simp only [List.length_drop, List.length_cons]; omega
theorem lex_nil (pos : Nat) : lex pos [] = ([], none) := by rw [lex]
theorem lex_sp (pos : Nat) (r : List Nat) : lex pos (32 :: r) = lex (pos + 1) r := by rw [lex, if_pos rfl]
theorem lex_wrong {pos c : Nat} {r : List Nat} (h : c ≠ 32) (e : one (c :: r) = none) : lex pos (c :: r) = ([], some pos) := by rw [lex, if_neg h, e]
theorem lex_tok {pos c n : Nat} {r k : List Nat} {v : V} (h : c ≠ 32) (e : one (c :: r) = some (k, v, n)) : lex pos (c :: r) = ((k, v, pos) :: (lex (pos + n) (r.drop (n - 1))).1, (lex (pos + n) (r.drop (n - 1))).2) := by rw [lex, if_neg h, e]
theorem MLs_pos : ∀ m ∈ MLs, 1 ≤ m.length := by decide +kernel
theorem one_pos {l k : List Nat} {v : V} {n : Nat} (h : one l = some (k, v, n)) : 1 ≤ n ∧ n ≤ l.length := by
  cases l with
  | nil => cases h
  | cons c r =>
    rw [one_cons] at h
    by_cases hc : c = 39
    · rw [if_pos hc] at h
      cases e : endTx r with
      | none => rw [e] at h; cases h
      | some b =>
        rw [e] at h
        injection h with h
        injection h with _ h
        injection h with _ h
        unfold endTx at e
        split at e
        · rename_i hb
          cases e
          rw [Bool.and_eq_true, Bool.and_eq_true, decide_eq_true_iff] at hb
          have := hb.1.1
          rw [List.length_cons]
          omega
        · cases e
    · rw [if_neg hc] at h
      by_cases hl : letC c = true
      · rw [if_pos hl] at h
        cases e : ofRun ((c :: r).takeWhile letC) with
        | none => rw [e] at h; cases h
        | some p =>
          rw [e] at h
          injection h with h
          injection h with _ h
          injection h with _ h
          subst h
          refine ⟨?_, tw_le _⟩
          rw [List.takeWhile_cons, if_pos hl]
          simp
      · rw [if_neg hl] at h
        cases e : MLs.find? fun m => m.isPrefixOf (c :: r) with
        | none => rw [e] at h; cases h
        | some m =>
          rw [e] at h
          injection h with h
          injection h with _ h
          injection h with _ h
          subst h
          refine ⟨MLs_pos m (List.mem_of_find?_eq_some e), ?_⟩
          have := List.find?_some e
          exact (List.isPrefixOf_iff_prefix.mp this).length_le
end Lv
/-! The reader as plain functions over its tokens. -/
namespace Lv
open PySem PySem.Spec PyProof.Rows L2
/-! ### what a reader does, as a function -/
/-- done, with what came out and where it stands; or wrong at a place; or nothing is said of it (beyond the end, too long, no turns left) -/
inductive Res (S α : Type) where
  | ok (a : α) (s : S)
  | bad (i : Nat)
  | stuck
def Res.bind {S α β : Type} (x : Res S α) (k : α → S → Res S β) : Res S β := match x with | .ok a s => k a s | .bad i => .bad i | .stuck => .stuck
def Out {S α : Type} (x : Res S α) (A : α → S → Prop) (B : Nat → Prop) : Prop := match x with | .ok a s => A a s | .bad i => B i | .stuck => False
theorem Out.mono {S α : Type} {x : Res S α} {A A' : α → S → Prop} {B B' : Nat → Prop} (h : Out x A B) (f : ∀ a s, A a s → A' a s) (g : ∀ i, B i → B' i) : Out x A' B' := by
  cases x with
  | ok a s => exact f a s h
  | bad i => exact g i h
  | stuck => exact h.elim
theorem Out.bind {S α β : Type} {x : Res S α} {k : α → S → Res S β} {A : β → S → Prop} {B : Nat → Prop} (h : Out (x.bind k) A B) : Out x (fun a s => Out (k a s) A B) B := by
  cases x with
  | ok a s => exact h
  | bad i => exact h
  | stuck => exact h
theorem Res.bind_assoc {S α β γ : Type} (x : Res S α) (k : α → S → Res S β) (l : β → S → Res S γ) : (x.bind k).bind l = x.bind fun a s => (k a s).bind l := by
  cases x <;> rfl
theorem Out.here {S α : Type} {x : Res S α} {A : α → S → Prop} {B : Nat → Prop} (a : α) (s : S) (h : Out x A B) (e : x = .ok a s) : A a s := by rw [e] at h; exact h
theorem Out.there {S α : Type} {x : Res S α} {A : α → S → Prop} {B : Nat → Prop} (i : Nat) (h : Out x A B) (e : x = .bad i) : B i := by rw [e] at h; exact h

/-- a reader's state: the token that stands next, the depths noted, the name that occurs twice -/
structure RS where
  n : Nat
  ds : List Nat
  tw : Option (List Nat)
/-- the text of a word or mark -/
def txtV : V → List Nat
  | .str x => x.cps.toList
  | _ => []
theorem txtV_T (a : List Nat) : txtV (T a) = a := by
  show (⟨a.toArray⟩ : Str).cps.toList = a
  simp
def fixT (t : Tk) : List Nat := if t.1 = cds "word" ∨ t.1 = cds "mark" then txtV t.2.1 else []
def tokN (ts : List Tk) (i : Nat) : Tk := ts.getD i ([], .non, 0)
def posN (ts : List Tk) (i : Nat) : Nat := (tokN ts i).2.2
theorem tokN_get {ts : List Tk} {i : Nat} (h : i < ts.length) : ts[i]? = some (tokN ts i) := by
  unfold tokN
  rw [List.getD_eq_getElem?_getD, List.getElem?_eq_getElem h]
  rfl
/-! the small readings -/
def rFixed (ts : List Tk) (k : Nat) (S : RS) : Res RS (List Nat) := if S.n + k < ts.length then .ok (fixT (tokN ts (S.n + k))) S else .stuck
def rAccept (ts : List Tk) (a : List Nat) (S : RS) : Res RS Bool := (rFixed ts 0 S).bind fun b S => if b = a then .ok true { S with n := S.n + 1 } else .ok false S
def rRefuse {α : Type} (ts : List Tk) (S : RS) : Res RS α := if S.n < ts.length then .bad (posN ts S.n) else .stuck
def rExpect (ts : List Tk) (a : List Nat) (S : RS) : Res RS Unit := (rAccept ts a S).bind fun b S1 => if b = true then .ok () S1 else rRefuse ts S1
def rTake (ts : List Tk) (a : List Nat) (S : RS) : Res RS V := if S.n < ts.length then (if (tokN ts S.n).1 = a then .ok (tokN ts S.n).2.1 { S with n := S.n + 1 } else rRefuse ts S) else .stuck
def rName (ts : List Tk) (S : RS) : Res RS (List Nat) := (rTake ts (cds "name") S).bind fun v S => .ok (txtV v) S
def rNamesGo (ts : List Tk) (most : Nat) : Nat → List (List Nat) → RS → Res RS (List (List Nat))
  | 0, _, _ => .stuck
  | k + 1, l, S => (rAccept ts (cds ",") S).bind fun b S => if b = true then (if l.length = most then rRefuse ts S else (rName ts S).bind fun x S => rNamesGo ts most k (l ++ [x]) S) else .ok l S
def rNames (ts : List Tk) (most : Nat) (S : RS) : Res RS (List (List Nat)) := (rName ts S).bind fun x S => rNamesGo ts most (most + 1) [x] S
def rBegin (ts : List Tk) (d : Nat) (S : RS) : Res RS Unit := if 12 < d then rRefuse ts S else if S.ds.length < 400000 then .ok () { S with ds := S.ds ++ [d] } else .stuck
def maxN : List Nat → Nat
  | [] => 0
  | a :: l => max a (maxN l)
def rDeepen (ts : List Tk) (f : Nat) (S : RS) : Res RS Unit := if S.ds.length ≤ f then .stuck else if 12 < maxN ((S.ds.drop f).map (· + 1)) then rRefuse ts S else .ok () { S with ds := S.ds.take f ++ (S.ds.drop f).map (· + 1) }
/-- whether a name stands next, and one of some marks behind it -/
def rBefore (ts : List Tk) (ms : List (List Nat)) (S : RS) : Res RS Bool := if S.n < ts.length then (if (tokN ts S.n).1 = cds "name" then (rFixed ts 1 S).bind fun b S => .ok (decide (b ∈ ms)) S else .ok false S) else .stuck
/-- the name that is noted behind i names -/
def twGo (l : List (List Nat)) (t : Option (List Nat)) : Nat → Option (List Nat)
  | 0 => t
  | i + 1 => if twGo l t i = none ∧ l.getD i [] ∈ l.take i then some (l.getD i []) else twGo l t i
def rNote (l : List (List Nat)) (S : RS) : Res RS Unit := .ok () { S with tw := twGo l S.tw l.length }
/-! ### the grammar -/
section
variable (ts : List Tk) (ex : Nat → Nat → RS → Res RS Tr) (bo : List (List Nat) → Nat → RS → Res RS (List Tr))
def str (x : String) : Tr := .s (cds x)
def gArgsGo (d : Nat) : Nat → List Tr → RS → Res RS (List Tr)
  | 0, _, _ => .stuck
  | k + 1, l, S => (rAccept ts (cds ",") S).bind fun b S => if b = true then (if l.length = 8 then rRefuse ts S else (ex 1 d S).bind fun t S => gArgsGo d k (l ++ [t]) S) else .ok l S
def gArgs (d : Nat) (S : RS) : Res RS (List Tr) := (rExpect ts (cds "(") S).bind fun _ S => (rAccept ts (cds ")") S).bind fun b S => if b = true then .ok [] S else
  (ex 1 d S).bind fun t S => (gArgsGo ts ex d 9 [t] S).bind fun l S => (rExpect ts (cds ")") S).bind fun _ S => .ok l S
def gBlock (d : Nat) (S : RS) : Res RS Tr := (rExpect ts (cds "{") S).bind fun _ S => (rBefore ts [cds ",", cds "|"] S).bind fun b S =>
  if b = true then (rNames ts 4 S).bind fun ns S => (rExpect ts (cds "|") S).bind fun _ S => (rNote ns S).bind fun _ S => (bo [cds "}"] (d + 1) S).bind fun l S => (rExpect ts (cds "}") S).bind fun _ S => .ok (.t [str "block", .t (ns.map Tr.s), .t l]) S
  else (bo [cds "}"] (d + 1) S).bind fun l S => (rExpect ts (cds "}") S).bind fun _ S => .ok (.t [str "block", .t [], .t l]) S
def gSuper (d : Nat) (S : RS) : Res RS Tr := (rExpect ts (cds "super") S).bind fun _ S => (rExpect ts (cds ".") S).bind fun _ S => (rName ts S).bind fun a S => (gArgs ts ex (d + 1) S).bind fun l S => .ok (.t [str "super", .s a, .t l]) S
end

def plainL : List (List Nat × V) := [(cds "none", .non), (cds "true", .bl true), (cds "false", .bl false)]
def plainTr : V → Tr
  | .int x => .i x
  | .bl b => .b b
  | .str x => .s x.cps.toList
  | _ => .n
section
variable (ts : List Tk) (ex : Nat → Nat → RS → Res RS Tr) (bo : List (List Nat) → Nat → RS → Res RS (List Tr))
def gPrimary (d : Nat) (S : RS) : Res RS Tr := if S.n < ts.length then
    (if (tokN ts S.n).1 = cds "number" ∨ (tokN ts S.n).1 = cds "text" then (rTake ts (tokN ts S.n).1 S).bind fun v S => .ok (.t [str "plain", plainTr v]) S
    else if (tokN ts S.n).1 = cds "name" then (rTake ts (tokN ts S.n).1 S).bind fun v S => .ok (.t [str "name", plainTr v]) S
    else (rFixed ts 0 S).bind fun w S => if w = cds "{" then gBlock ts bo d S else if w = cds "super" then gSuper ts ex d S else
      (rAccept ts (cds "(") S).bind fun b S => if b = true then (ex 1 (d + 1) S).bind fun t S => (rExpect ts (cds ")") S).bind fun _ S => .ok t S else
      (rAccept ts (cds "new") S).bind fun b S => if b = true then (rTake ts (cds "class") S).bind fun v S => .ok (.t [str "new", plainTr v]) S else
      (rAccept ts (cds "self") S).bind fun b S => if b = true then .ok (.t [str "self"]) S else
      match plainL.lookup w with
      | none => rRefuse ts S
      | some v => (rExpect ts w S).bind fun _ S => .ok (.t [str "plain", plainTr v]) S)
  else .stuck
end
def aheadN : List (List Nat × Nat) := [(cds "not", 3), (cds "-", 7)]
def treesN : List (List Nat × List Nat) := [(cds "not", cds "not"), (cds "-", cds "neg")]
section
variable (ts : List Tk) (ex : Nat → Nat → RS → Res RS Tr) (bo : List (List Nat) → Nat → RS → Res RS (List Tr))
def gOpening (p d : Nat) (S : RS) : Res RS (Tr × Nat) := (rFixed ts 0 S).bind fun w S => if (aheadN.lookup w).getD 0 < p then (gPrimary ts ex bo d S).bind fun t S => .ok (t, 9) S else
  (rExpect ts w S).bind fun _ S => match treesN.lookup w with
    | none => .stuck
    | some nm => (ex ((aheadN.lookup w).getD 0) (d + 1) S).bind fun t S => .ok (.t [.s nm, t], (aheadN.lookup w).getD 0) S
end
def behN : List (List Nat × Nat) := [(cds "or", 1), (cds "and", 2), (cds "=", 4), (cds "<", 4), (cds "<=", 4), (cds "+", 5), (cds "-", 5), (cds "*", 6), (cds "/", 6), (cds ".", 8)]
def levB (w : List Nat) : Nat := (behN.lookup w).getD 0
def goOn (w : List Nat) (p lev : Nat) : Bool := decide (p ≤ levB w) && (!decide (levB w = 4) || decide (4 < lev))
section
variable (ts : List Tk) (ex : Nat → Nat → RS → Res RS Tr) (bo : List (List Nat) → Nat → RS → Res RS (List Tr))
/-- what a sign makes of what stands left of it -/
def gSign (w : List Nat) (lv d : Nat) (tr : Tr) (S : RS) : Res RS Tr :=
  if w = cds "." then (rName ts S).bind fun a S => (gArgs ts ex (d + 1) S).bind fun l S => .ok (.t [str "send", tr, .s a, .t l]) S
  else if w = cds "and" ∨ w = cds "or" then (ex (lv + 1) (d + 1) S).bind fun t S => .ok (.t [.s w, tr, t]) S
  else (ex (lv + 1) (d + 1) S).bind fun t S => .ok (.t [str "op", .s w, tr, t]) S
def gExprGo (p d first : Nat) : Nat → Tr → Nat → List Nat → RS → Res RS Tr
  | 0, _, _, _, _ => .stuck
  | k + 1, tr, lev, w, S => if goOn w p lev = true then (rDeepen ts first S).bind fun _ S => (rExpect ts w S).bind fun _ S => match behN.lookup w with
      | none => .stuck
      | some lv => (gSign ts ex w lv d tr S).bind fun tr S => (rFixed ts 0 S).bind fun w' S => gExprGo p d first k tr lv w' S
    else .ok tr S
def gExpr (p d : Nat) (S : RS) : Res RS Tr := (rBegin ts d S).bind fun _ S1 => (gOpening ts ex bo p d S1).bind fun o S2 => (rFixed ts 0 S2).bind fun w S3 => gExprGo ts ex p d S.ds.length (ts.length + 1) o.1 o.2 w S3
end
section
variable (ts : List Tk) (ex : Nat → Nat → RS → Res RS Tr) (bo : List (List Nat) → Nat → RS → Res RS (List Tr)) (st : Nat → RS → Res RS Tr)
def gBodyGo (d : Nat) : Nat → List Tr → RS → Res RS (List Tr)
  | 0, _, _ => .stuck
  | k + 1, l, S => (rAccept ts (cds ";") S).bind fun b S => if b = true then (st d S).bind fun t S => gBodyGo d k (l ++ [t]) S else .ok l S
def gBody (ms : List (List Nat)) (d : Nat) (S : RS) : Res RS (List Tr) := (rFixed ts 0 S).bind fun w S => if w ∈ ms then .ok [] S else (st d S).bind fun t S => gBodyGo ts st d (ts.length + 1) [t] S
def gSet (d : Nat) (S : RS) : Res RS Tr := (rName ts S).bind fun a S => (rExpect ts (cds ":=") S).bind fun _ S => (ex 1 (d + 1) S).bind fun t S => .ok (.t [str "set", .s a, t]) S
def gWhile (d : Nat) (S : RS) : Res RS Tr := (rExpect ts (cds "while") S).bind fun _ S => (ex 1 (d + 1) S).bind fun t S => (rExpect ts (cds "do") S).bind fun _ S => (bo [cds "end"] (d + 1) S).bind fun l S => (rExpect ts (cds "end") S).bind fun _ S => .ok (.t [str "while", t, .t l]) S
end
section
variable (ts : List Tk) (ex : Nat → Nat → RS → Res RS Tr) (bo : List (List Nat) → Nat → RS → Res RS (List Tr))
def gTry (d : Nat) (S : RS) : Res RS Tr := (rExpect ts (cds "try") S).bind fun _ S => (bo [cds "catch"] (d + 1) S).bind fun l S => (rExpect ts (cds "catch") S).bind fun _ S => (rName ts S).bind fun a S => (rExpect ts (cds "then") S).bind fun _ S =>
  (bo [cds "end"] (d + 1) S).bind fun l2 S => (rExpect ts (cds "end") S).bind fun _ S => .ok (.t [str "try", .t l, .s a, .t l2]) S
def gKeep (d : Nat) (S : RS) : Res RS Tr := (rExpect ts (cds "keep") S).bind fun _ S => (bo [cds "always"] (d + 1) S).bind fun l S => (rExpect ts (cds "always") S).bind fun _ S =>
  (bo [cds "end"] (d + 1) S).bind fun l2 S => (rExpect ts (cds "end") S).bind fun _ S => .ok (.t [str "keep", .t l, .t l2]) S
def gIf (d : Nat) (S : RS) : Res RS Tr := (rExpect ts (cds "if") S).bind fun _ S => (ex 1 (d + 1) S).bind fun t S => (rExpect ts (cds "then") S).bind fun _ S => (bo [cds "else", cds "end"] (d + 1) S).bind fun l S => (rAccept ts (cds "else") S).bind fun b S =>
  if b = true then (bo [cds "end"] (d + 1) S).bind fun l2 S => (rExpect ts (cds "end") S).bind fun _ S => .ok (.t [str "if", t, .t l, .t l2]) S else (rExpect ts (cds "end") S).bind fun _ S => .ok (.t [str "if", t, .t l, .t []]) S
end
section
variable (ts : List Tk) (ex : Nat → Nat → RS → Res RS Tr) (bo : List (List Nat) → Nat → RS → Res RS (List Tr))
def gSt (d : Nat) (S : RS) : Res RS Tr := (rBegin ts d S).bind fun _ S => (rFixed ts 0 S).bind fun w S =>
  if w = cds "give" ∨ w = cds "fail" then (rExpect ts w S).bind fun _ S => (ex 1 (d + 1) S).bind fun t S => .ok (.t [.s w, t]) S
  else if w = cds "while" then gWhile ts ex bo d S
  else if w = cds "if" then gIf ts ex bo d S
  else if w = cds "try" then gTry ts bo d S
  else if w = cds "keep" then gKeep ts bo d S
  else (rBefore ts [cds ":="] S).bind fun b S => if b = true then gSet ts ex d S else (ex 1 (d + 1) S).bind fun t S => .ok (.t [str "eval", t]) S
end
/-- expressions and bodies, n deep -/
def exN (ts : List Tk) : Nat → (Nat → Nat → RS → Res RS Tr) × (List (List Nat) → Nat → RS → Res RS (List Tr))
  | 0 => (fun _ _ _ => .stuck, fun _ _ _ => .stuck)
  | n + 1 => (gExpr ts (exN ts n).1 (exN ts n).2, gBody ts (gSt ts (exN ts n).1 (exN ts n).2))
section
variable (ts : List Tk) (bo : List (List Nat) → Nat → RS → Res RS (List Tr))
/-- behind the variables -/
def gMethod3 (a : List Nat) (ps vs : List (List Nat)) (S : RS) : Res RS Tr := (rNote (ps ++ vs) S).bind fun _ S => (bo [cds "end"] 1 S).bind fun l S => (rExpect ts (cds "end") S).bind fun _ S => .ok (.t [str "method", .s a, .t (ps.map Tr.s), .t (vs.map Tr.s), .t l]) S
/-- behind the parameters -/
def gMethod2 (a : List Nat) (ps : List (List Nat)) (S : RS) : Res RS Tr := (rExpect ts (cds ")") S).bind fun _ S => (rAccept ts (cds "var") S).bind fun b S => if b = true then (rNames ts 8 S).bind fun vs S => (rExpect ts (cds ";") S).bind fun _ S => gMethod3 ts bo a ps vs S else gMethod3 ts bo a ps [] S
def gMethod (S : RS) : Res RS Tr := (rExpect ts (cds "method") S).bind fun _ S => (rName ts S).bind fun a S => (rExpect ts (cds "(") S).bind fun _ S => (rFixed ts 0 S).bind fun w S => if w = cds ")" then gMethod2 ts bo a [] S else (rNames ts 8 S).bind fun ps S => gMethod2 ts bo a ps S
end
/-- the tokens and the end of the text -/
def endTks (cs : List Nat) (ts : List Tk) : List Tk := ts ++ [(cds "nothing", T [], cs.length)]
end Lv
/-! Derivations of expressions and statements: their tokens are read back. -/
namespace Lv
open PySem PySem.Spec PyProof.Rows L2
abbrev Ws := List (List Nat)
/-- kind and value of a token's text -/
def tk (a : List Nat) : List Nat × V := match one a with
  | some (k, v, _) => (k, v)
  | none => ([], .non)
def fx (a : List Nat) : List Nat := fixT ((tk a).1, (tk a).2, 0)
def isNm (a : List Nat) : Prop := tk a = (cds "name", T a)
def commas : Ws → Ws
  | [] => []
  | [a] => [a]
  | a :: b :: l => a :: cds "," :: commas (b :: l)
def binT (s : List Nat) (a b : Tr) : Tr := if s = cds "and" ∨ s = cds "or" then .t [.s s, a, b] else .t [str "op", .s s, a, b]
mutual
/-- an expression: its level, a bound of its height, its tree, its tokens, its blocks' parameters -/
inductive Ex : Nat → Nat → Tr → Ws → List Ws → Prop
  | num {h : Nat} {a : List Nat} {x : Int} : tk a = (cds "number", .int x) → Ex 9 (h + 1) (.t [str "plain", .i x]) [a] []
  | text {h : Nat} {a b : List Nat} : tk a = (cds "text", T b) → Ex 9 (h + 1) (.t [str "plain", .s b]) [a] []
  | word {h : Nat} {a : List Nat} {v : V} : plainL.lookup a = some v → Ex 9 (h + 1) (.t [str "plain", plainTr v]) [a] []
  | self {h : Nat} : Ex 9 (h + 1) (.t [str "self"]) [cds "self"] []
  | new {h : Nat} {a : List Nat} : tk a = (cds "class", T a) → Ex 9 (h + 1) (.t [str "new", .s a]) [cds "new", a] []
  | name {h : Nat} {a : List Nat} : isNm a → Ex 9 (h + 1) (.t [str "name", .s a]) [a] []
  | par {lv h : Nat} {t : Tr} {w : Ws} {ns : List Ws} : 1 ≤ lv → Ex lv h t w ns → Ex 9 (h + 1) t (cds "(" :: (w ++ [cds ")"])) ns
  | neg {lv h : Nat} {t : Tr} {w : Ws} {ns : List Ws} : 7 ≤ lv → Ex lv h t w ns → Ex 7 (h + 1) (.t [str "neg", t]) (cds "-" :: w) ns
  | not {lv h : Nat} {t : Tr} {w : Ws} {ns : List Ws} : 3 ≤ lv → Ex lv h t w ns → Ex 3 (h + 1) (.t [str "not", t]) (cds "not" :: w) ns
  | bin {l lv1 lv2 h : Nat} {s : List Nat} {t1 t2 : Tr} {w1 w2 : Ws} {n1 n2 : List Ws} : behN.lookup s = some l → s ≠ cds "." → (if l = 4 then 5 else l) ≤ lv1 → Ex lv1 h t1 w1 n1 → l + 1 ≤ lv2 → Ex lv2 h t2 w2 n2 → Ex l (h + 1) (binT s t1 t2) (w1 ++ s :: w2) (n1 ++ n2)
  | send {lv h : Nat} {t : Tr} {w : Ws} {ns : List Ws} {x : List Nat} {l : List Tr} {w2 : Ws} {n2 : List Ws} : 8 ≤ lv → Ex lv h t w ns → isNm x → Ar h l w2 n2 → Ex 8 (h + 1) (.t [str "send", t, .s x, .t l]) (w ++ cds "." :: x :: cds "(" :: (w2 ++ [cds ")"])) (ns ++ n2)
  | sup {h : Nat} {x : List Nat} {l : List Tr} {w2 : Ws} {n2 : List Ws} : isNm x → Ar h l w2 n2 → Ex 9 (h + 1) (.t [str "super", .s x, .t l]) (cds "super" :: cds "." :: x :: cds "(" :: (w2 ++ [cds ")"])) n2
  | blk0 {h : Nat} {l : List Tr} {w : Ws} {ns : List Ws} : Bd h l w ns → Ex 9 (h + 1) (.t [str "block", .t [], .t l]) (cds "{" :: (w ++ [cds "}"])) ns
  | blk {h : Nat} {ps : Ws} {l : List Tr} {w : Ws} {ns : List Ws} : ps ≠ [] → ps.length ≤ 4 → (∀ x ∈ ps, isNm x) → Bd h l w ns → Ex 9 (h + 1) (.t [str "block", .t (ps.map Tr.s), .t l]) (cds "{" :: (commas ps ++ cds "|" :: (w ++ [cds "}"]))) (ps :: ns)
/-- arguments behind the first -/
inductive Al : Nat → List Tr → Ws → List Ws → Prop
  | nil {h : Nat} : Al h [] [] []
  | cons {lv h : Nat} {t : Tr} {w : Ws} {ns : List Ws} {l : List Tr} {w2 : Ws} {n2 : List Ws} : 1 ≤ lv → Ex lv h t w ns → Al h l w2 n2 → Al h (t :: l) (cds "," :: (w ++ w2)) (ns ++ n2)
inductive Ar : Nat → List Tr → Ws → List Ws → Prop
  | nil {h : Nat} : Ar h [] [] []
  | cons {lv h : Nat} {t : Tr} {w : Ws} {ns : List Ws} {l : List Tr} {w2 : Ws} {n2 : List Ws} : 1 ≤ lv → Ex lv h t w ns → Al h l w2 n2 → l.length ≤ 7 → Ar h (t :: l) (w ++ w2) (ns ++ n2)
inductive St : Nat → Tr → Ws → List Ws → Prop
  | eval {lv h : Nat} {t : Tr} {w : Ws} {ns : List Ws} : 1 ≤ lv → Ex lv h t w ns → St (h + 1) (.t [str "eval", t]) w ns
  | set {lv h : Nat} {t : Tr} {w : Ws} {ns : List Ws} {x : List Nat} : isNm x → 1 ≤ lv → Ex lv h t w ns → St (h + 1) (.t [str "set", .s x, t]) (x :: cds ":=" :: w) ns
  | gf {lv h : Nat} {t : Tr} {w : Ws} {ns : List Ws} {g : List Nat} : g = cds "give" ∨ g = cds "fail" → 1 ≤ lv → Ex lv h t w ns → St (h + 1) (.t [.s g, t]) (g :: w) ns
  | whl {lv h : Nat} {t : Tr} {w : Ws} {ns : List Ws} {l : List Tr} {w2 : Ws} {n2 : List Ws} : 1 ≤ lv → Ex lv h t w ns → Bd h l w2 n2 → St (h + 1) (.t [str "while", t, .t l]) (cds "while" :: (w ++ cds "do" :: (w2 ++ [cds "end"]))) (ns ++ n2)
  | if0 {lv h : Nat} {t : Tr} {w : Ws} {ns : List Ws} {l : List Tr} {w2 : Ws} {n2 : List Ws} : 1 ≤ lv → Ex lv h t w ns → Bd h l w2 n2 → St (h + 1) (.t [str "if", t, .t l, .t []]) (cds "if" :: (w ++ cds "then" :: (w2 ++ [cds "end"]))) (ns ++ n2)
  | if1 {lv h : Nat} {t : Tr} {w : Ws} {ns : List Ws} {l : List Tr} {w2 : Ws} {n2 : List Ws} {l3 : List Tr} {w3 : Ws} {n3 : List Ws} : 1 ≤ lv → Ex lv h t w ns → Bd h l w2 n2 → Bd h l3 w3 n3 → St (h + 1) (.t [str "if", t, .t l, .t l3]) (cds "if" :: (w ++ cds "then" :: (w2 ++ cds "else" :: (w3 ++ [cds "end"])))) (ns ++ (n2 ++ n3))
  | try_ {h : Nat} {l : List Tr} {w : Ws} {ns : List Ws} {x : List Nat} {l2 : List Tr} {w2 : Ws} {n2 : List Ws} : Bd h l w ns → isNm x → Bd h l2 w2 n2 → St (h + 1) (.t [str "try", .t l, .s x, .t l2]) (cds "try" :: (w ++ cds "catch" :: x :: cds "then" :: (w2 ++ [cds "end"]))) (ns ++ n2)
  | keep {h : Nat} {l : List Tr} {w : Ws} {ns : List Ws} {l2 : List Tr} {w2 : Ws} {n2 : List Ws} : Bd h l w ns → Bd h l2 w2 n2 → St (h + 1) (.t [str "keep", .t l, .t l2]) (cds "keep" :: (w ++ cds "always" :: (w2 ++ [cds "end"]))) (ns ++ n2)
inductive Bl : Nat → List Tr → Ws → List Ws → Prop
  | nil {h : Nat} : Bl h [] [] []
  | cons {h : Nat} {t : Tr} {w : Ws} {ns : List Ws} {l : List Tr} {w2 : Ws} {n2 : List Ws} : St h t w ns → Bl h l w2 n2 → Bl h (t :: l) (cds ";" :: (w ++ w2)) (ns ++ n2)
inductive Bd : Nat → List Tr → Ws → List Ws → Prop
  | nil {h : Nat} : Bd h [] [] []
  | cons {h : Nat} {t : Tr} {w : Ws} {ns : List Ws} {l : List Tr} {w2 : Ws} {n2 : List Ws} : St h t w ns → Bl h l w2 n2 → Bd h (t :: l) (w ++ w2) (ns ++ n2)
end
/-- the name noted behind these lists of names -/
def noteAll : List Ws → Option (List Nat) → Option (List Nat)
  | [], t => t
  | l :: ls, t => noteAll ls (twGo l t l.length)
theorem noteAll_append (a b : List Ws) (t : Option (List Nat)) : noteAll (a ++ b) t = noteAll b (noteAll a t) := by
  induction a generalizing t with
  | nil => rfl
  | cons l a ih => exact ih _
/-! ### tokens that stand -/
def Seg (ts : List Tk) : Nat → Ws → Prop
  | _, [] => True
  | i, a :: w => (∃ p, ts[i]? = some ((tk a).1, (tk a).2, p)) ∧ Seg ts (i + 1) w
theorem seg_append {ts : List Tk} : ∀ {u v : Ws} {i : Nat}, Seg ts i (u ++ v) ↔ Seg ts i u ∧ Seg ts (i + u.length) v
  | [], v, i => by show Seg ts i v ↔ True ∧ Seg ts (i + 0) v; simp
  | a :: u, v, i => by
    show (_ ∧ Seg ts (i + 1) (u ++ v)) ↔ (_ ∧ Seg ts (i + 1) u) ∧ Seg ts (i + (u.length + 1)) v
    rw [seg_append (u := u), show i + (u.length + 1) = i + 1 + u.length by omega, and_assoc]
/-- the text of the word or mark that stands at a place -/
def Nx (ts : List Tk) (i : Nat) (z : List Nat) : Prop := ∃ t, ts[i]? = some t ∧ fixT t = z
theorem Seg.nx {ts : List Tk} {i : Nat} {a : List Nat} {w : Ws} (h : Seg ts i (a :: w)) : Nx ts i (fx a) := by
  obtain ⟨⟨p, h⟩, _⟩ := h
  exact ⟨_, h, rfl⟩
section
variable {ts : List Tk} {i : Nat} {ds : List Nat} {tw : Option (List Nat)} {z : List Nat}
theorem ok_bind {S α β : Type} {a : α} {s : S} {k : α → S → Res S β} : (Res.ok a s).bind k = k a s := rfl
theorem tokN_of {t : Tk} (h : ts[i]? = some t) : tokN ts i = t ∧ i < ts.length := by
  obtain ⟨hl, e⟩ := List.getElem?_eq_some_iff.mp h
  refine ⟨?_, hl⟩
  unfold tokN
  rw [List.getD_eq_getElem?_getD, h]
  rfl
theorem fixed0 (h : Nx ts i z) : rFixed ts 0 ⟨i, ds, tw⟩ = .ok z ⟨i, ds, tw⟩ := by
  obtain ⟨t, h, rfl⟩ := h
  obtain ⟨e, hl⟩ := tokN_of h
  show (if i + 0 < ts.length then Res.ok (fixT (tokN ts (i + 0))) _ else _) = _
  rw [Nat.add_zero, if_pos hl, e]
theorem fixed1 (h : Nx ts (i + 1) z) : rFixed ts 1 ⟨i, ds, tw⟩ = .ok z ⟨i, ds, tw⟩ := by
  obtain ⟨t, h, rfl⟩ := h
  obtain ⟨e, hl⟩ := tokN_of h
  show (if i + 1 < ts.length then Res.ok (fixT (tokN ts (i + 1))) _ else _) = _
  rw [if_pos hl, e]
theorem accept_yes (h : Nx ts i z) : rAccept ts z ⟨i, ds, tw⟩ = .ok true ⟨i + 1, ds, tw⟩ := by
  unfold rAccept
  rw [fixed0 h, ok_bind, if_pos rfl]
theorem accept_no {a : List Nat} (h : Nx ts i z) (n : z ≠ a) : rAccept ts a ⟨i, ds, tw⟩ = .ok false ⟨i, ds, tw⟩ := by
  unfold rAccept
  rw [fixed0 h, ok_bind, if_neg n]
theorem expect_ok (h : Nx ts i z) : rExpect ts z ⟨i, ds, tw⟩ = .ok () ⟨i + 1, ds, tw⟩ := by
  unfold rExpect
  rw [accept_yes h, ok_bind, if_pos rfl]
theorem take_ok {k : List Nat} {v : V} {p : Nat} (h : ts[i]? = some (k, v, p)) : rTake ts k ⟨i, ds, tw⟩ = .ok v ⟨i + 1, ds, tw⟩ := by
  obtain ⟨e, hl⟩ := tokN_of h
  unfold rTake
  show (if i < ts.length then (if (tokN ts i).1 = k then Res.ok (tokN ts i).2.1 _ else _) else _) = _
  rw [if_pos hl, e, if_pos rfl]
theorem txtV_T' (a : List Nat) : txtV (T a) = a := by
  show (⟨a.toArray⟩ : Str).cps.toList = a
  simp
theorem name_ok {a : List Nat} {w : Ws} (h : Seg ts i (a :: w)) (n : isNm a) : rName ts ⟨i, ds, tw⟩ = .ok a ⟨i + 1, ds, tw⟩ := by
  obtain ⟨⟨p, h⟩, _⟩ := h
  unfold isNm at n
  rw [n] at h
  unfold rName
  rw [take_ok h, ok_bind, txtV_T']
theorem begin_ok {d : Nat} (h : d ≤ 12) (hl : ds.length < 400000) : rBegin ts d ⟨i, ds, tw⟩ = .ok () ⟨i, ds ++ [d], tw⟩ := by
  unfold rBegin
  rw [if_neg (by omega), if_pos hl]
theorem maxN_le {l : List Nat} {m : Nat} (h : ∀ x ∈ l, x ≤ m) : maxN l ≤ m := by
  induction l with
  | nil => exact Nat.zero_le _
  | cons a l ih =>
    show max a (maxN l) ≤ m
    have h1 := h a List.mem_cons_self
    have h2 := ih fun x hx => h x (List.mem_cons_of_mem _ hx)
    omega
theorem deepen_ok {sg : List Nat} (hs : sg ≠ []) (h : ∀ x ∈ sg, x + 1 ≤ 12) : rDeepen ts ds.length ⟨i, ds ++ sg, tw⟩ = .ok () ⟨i, ds ++ sg.map (· + 1), tw⟩ := by
  have hp : 0 < sg.length := List.length_pos_iff.mpr hs
  unfold rDeepen
  show (if (ds ++ sg).length ≤ ds.length then _ else if 12 < maxN (((ds ++ sg).drop ds.length).map (· + 1)) then _ else Res.ok () _) = _
  rw [if_neg (by rw [List.length_append]; omega), List.drop_left, List.take_left, if_neg]
  have : maxN (sg.map (· + 1)) ≤ 12 := maxN_le fun x hx => by
    obtain ⟨y, hy, rfl⟩ := List.mem_map.mp hx
    exact h y hy
  omega
end
end Lv
namespace Lv
open PySem PySem.Spec PyProof.Rows L2
/-! ### words and marks -/
def WM : Ws := ["method", "var", "end", "give", "fail", "if", "then", "else", "while", "do", "try", "catch", "keep", "always", "none", "true", "false", "self", "super", "new", "not", "and", "or", ":=", "<=", "(", ")", "{", "}", ",", ";", ".", "|", "=", "<", "+", "-", "*", "/"].map cds
theorem wm_fx : ∀ a ∈ WM, fx a = a := by decide +kernel
theorem wm_kind : ∀ a ∈ WM, (tk a).1 ≠ cds "number" ∧ (tk a).1 ≠ cds "text" ∧ (tk a).1 ≠ cds "name" := by decide +kernel
theorem beh_wm {s : List Nat} {l : Nat} (h : behN.lookup s = some l) : s ∈ WM ∧ levB s = l ∧ 1 ≤ l ∧ l ≤ 8 ∧ l ≠ 3 ∧ l ≠ 7 ∧ s ≠ cds ":=" ∧ s ≠ cds "," ∧ s ≠ cds "|" := by
  have key : ∀ p ∈ behN, p.1 ∈ WM ∧ 1 ≤ p.2 ∧ p.2 ≤ 8 ∧ p.2 ≠ 3 ∧ p.2 ≠ 7 ∧ p.1 ≠ cds ":=" ∧ p.1 ≠ cds "," ∧ p.1 ≠ cds "|" := by decide +kernel
  have mem : (s, l) ∈ behN := by
    have : ∀ (m : List (List Nat × Nat)), m.lookup s = some l → (s, l) ∈ m := by
      intro m
      induction m with
      | nil => intro h; cases h
      | cons q m ih =>
        intro h
        obtain ⟨a, b⟩ := q
        rw [List.lookup_cons] at h
        cases e : s == a with
        | true => rw [e] at h; cases h; rw [beq_iff_eq.mp e]; exact List.mem_cons_self
        | false => rw [e] at h; exact List.mem_cons_of_mem _ (ih h)
    exact this behN h
  obtain ⟨h1, h2, h3, h4, h5, h6, h7, h8⟩ := key _ mem
  refine ⟨h1, ?_, h2, h3, h4, h5, h6, h7, h8⟩
  unfold levB
  rw [h]
  rfl
theorem levB_cases (z : List Nat) : levB z = 0 ∨ behN.lookup z = some (levB z) := by
  unfold levB
  cases behN.lookup z with
  | none => exact .inl rfl
  | some l => exact .inr rfl
theorem levB_ne (z : List Nat) : levB z ≠ 3 ∧ levB z ≠ 7 := by
  rcases levB_cases z with h | h
  · rw [h]; decide
  · obtain ⟨_, _, _, _, h3, h7, _⟩ := beh_wm h
    exact ⟨h3, h7⟩
theorem fx_kind {a k : List Nat} {v : V} (h : tk a = (k, v)) (h1 : k ≠ cds "word") (h2 : k ≠ cds "mark") : fx a = [] := by
  unfold fx fixT
  rw [h]
  exact if_neg (fun z => z.elim h1 h2)
theorem nm_fx {a : List Nat} (h : isNm a) : fx a = [] := fx_kind h (by decide +kernel) (by decide +kernel)
theorem plain_cases {a : List Nat} {v : V} (h : plainL.lookup a = some v) : (a = cds "none" ∨ a = cds "true" ∨ a = cds "false") := by
  unfold plainL at h
  simp only [List.lookup] at h
  split at h
  · rename_i e; exact .inl (by simpa using e)
  · split at h
    · rename_i e; exact .inr (.inl (by simpa using e))
    · split at h
      · rename_i e; exact .inr (.inr (by simpa using e))
      · cases h
/-! ### how an expression begins -/
/-- words that begin statements, or end bodies -/
def EN : Ws := ["end", "else", "catch", "always", "}"].map cds
def SW : Ws := ["give", "fail", "while", "if", "try", "keep", "end", "else", "catch", "always", "}", ")"].map cds
def Hd (w : Ws) : Prop := ∃ a r, w = a :: r ∧ fx a ∉ SW ∧ ((tk a).1 = cds "name" → r = [] ∨ ∃ b r', r = b :: r' ∧ ∃ l, behN.lookup b = some l)
theorem Hd.append {w v : Ws} (h : Hd w) (hv : ∃ b r', v = b :: r' ∧ ∃ l, behN.lookup b = some l) : Hd (w ++ v) := by
  obtain ⟨a, r, rfl, h1, h2⟩ := h
  refine ⟨a, r ++ v, rfl, h1, fun n => .inr ?_⟩
  rcases h2 n with rfl | ⟨b, r', rfl, hb⟩
  · exact hv
  · exact ⟨b, r' ++ v, rfl, hb⟩
theorem Hd.one {a : List Nat} {r : Ws} (h : fx a ∉ SW) (n : (tk a).1 ≠ cds "name") : Hd (a :: r) := ⟨a, r, rfl, h, fun z => absurd z n⟩
theorem hd_wm {a : List Nat} {r : Ws} (h : a ∈ WM) (hs : a ∉ SW) : Hd (a :: r) := Hd.one (by rw [wm_fx a h]; exact hs) (wm_kind a h).2.2
theorem beh_dot : behN.lookup (cds ".") = some 8 := by decide +kernel
theorem ex_hd : ∀ {h lv : Nat} {t : Tr} {w : Ws} {ns : List Ws}, Ex lv h t w ns → Hd w := by
  intro h
  induction h with
  | zero => intro lv t w ns e; cases e
  | succ h ih =>
    intro lv t w ns e
    cases e with
    | num e => exact Hd.one (by rw [fx_kind e (by decide +kernel) (by decide +kernel)]; decide +kernel) (by rw [e]; show cds "number" ≠ cds "name"; decide +kernel)
    | text e => exact Hd.one (by rw [fx_kind e (by decide +kernel) (by decide +kernel)]; decide +kernel) (by rw [e]; show cds "text" ≠ cds "name"; decide +kernel)
    | word e =>
      rcases plain_cases e with rfl | rfl | rfl
      · exact hd_wm (by decide +kernel) (by decide +kernel)
      · exact hd_wm (by decide +kernel) (by decide +kernel)
      · exact hd_wm (by decide +kernel) (by decide +kernel)
    | self => exact hd_wm (by decide +kernel) (by decide +kernel)
    | new e => exact hd_wm (by decide +kernel) (by decide +kernel)
    | name e => exact ⟨_, [], rfl, by rw [nm_fx e]; decide +kernel, fun _ => .inl rfl⟩
    | par _ e => exact hd_wm (by decide +kernel) (by decide +kernel)
    | neg _ e => exact hd_wm (by decide +kernel) (by decide +kernel)
    | not _ e => exact hd_wm (by decide +kernel) (by decide +kernel)
    | bin hl _ _ e1 _ e2 => exact (ih e1).append ⟨_, _, rfl, _, hl⟩
    | send _ e _ _ => exact (ih e).append ⟨_, _, rfl, _, beh_dot⟩
    | sup _ _ => exact hd_wm (by decide +kernel) (by decide +kernel)
    | blk0 _ => exact hd_wm (by decide +kernel) (by decide +kernel)
    | blk _ _ _ _ => exact hd_wm (by decide +kernel) (by decide +kernel)
/-- how a statement begins -/
def SHd (w : Ws) : Prop := ∃ a r, w = a :: r ∧ fx a ∉ EN ∧ ((tk a).1 = cds "name" → r = [] ∨ ∃ b r', r = b :: r' ∧ fx b ∉ [cds ",", cds "|"])
theorem shd_wm {a : List Nat} {r : Ws} (h : a ∈ WM) (hs : a ∉ EN) : SHd (a :: r) := ⟨a, r, rfl, by rw [wm_fx a h]; exact hs, fun z => absurd z (wm_kind a h).2.2⟩
theorem en_sw : ∀ a ∈ EN, a ∈ SW := by decide +kernel
theorem st_hd {h : Nat} {t : Tr} {w : Ws} {ns : List Ws} (e : St h t w ns) : SHd w := by
  cases e with
  | eval _ e =>
    obtain ⟨a, r, rfl, h1, h2⟩ := ex_hd e
    refine ⟨a, r, rfl, fun z => h1 (en_sw _ z), fun n => ?_⟩
    rcases h2 n with h | ⟨b, r', h, l, hb⟩
    · exact .inl h
    · obtain ⟨hw, _, _, _, _, _, _, h1, h2⟩ := beh_wm hb
      refine .inr ⟨b, r', h, ?_⟩
      rw [wm_fx b hw]
      intro z
      rcases List.mem_cons.mp z with z | z
      · exact h1 z
      · exact h2 (List.mem_singleton.mp z)
  | set n _ e => exact ⟨_, _, rfl, by rw [nm_fx n]; decide +kernel, fun _ => .inr ⟨_, _, rfl, by rw [wm_fx _ (by decide +kernel)]; decide +kernel⟩⟩
  | gf g _ e => rcases g with rfl | rfl <;> exact shd_wm (by decide +kernel) (by decide +kernel)
  | whl _ _ _ => exact shd_wm (by decide +kernel) (by decide +kernel)
  | if0 _ _ _ => exact shd_wm (by decide +kernel) (by decide +kernel)
  | if1 _ _ _ _ => exact shd_wm (by decide +kernel) (by decide +kernel)
  | try_ _ _ _ => exact shd_wm (by decide +kernel) (by decide +kernel)
  | keep _ _ => exact shd_wm (by decide +kernel) (by decide +kernel)
/-! ### the ends of the loop -/
section
variable {ts : List Tk} {ex : Nat → Nat → RS → Res RS Tr} {bo : List (List Nat) → Nat → RS → Res RS (List Tr)} {i d p : Nat} {ds : List Nat} {tw : Option (List Nat)} {z : List Nat}
theorem goOn_lt {lv : Nat} (h : levB z < p) : goOn z p lv = false := by
  unfold goOn
  rw [decide_eq_false (by omega)]
  rfl
theorem go_end {f k lv : Nat} {t : Tr} {S : RS} (h : goOn z p lv = false) (hk : 1 ≤ k) : gExprGo ts ex p d f k t lv z S = .ok t S := by
  cases k with
  | zero => omega
  | succ k =>
    unfold gExprGo
    rw [h]
    exact if_neg Bool.false_ne_true
theorem of_opening {j lv : Nat} {t : Tr} {sg : List Nat} {tw' : Option (List Nat)} (h : gOpening ts ex bo p d ⟨i, ds ++ [d], tw⟩ = .ok (t, lv) ⟨j, ds ++ sg, tw'⟩) (n : Nx ts j z) (hd : d ≤ 12) (hl : ds.length < 400000) :
    gExpr ts ex bo p d ⟨i, ds, tw⟩ = gExprGo ts ex p d ds.length (ts.length + 1) t lv z ⟨j, ds ++ sg, tw'⟩ := by
  unfold gExpr
  rw [begin_ok hd hl, ok_bind, h, ok_bind, fixed0 n, ok_bind]
theorem opening_prim {t : Tr} {S' : RS} (n : Nx ts i z) (h0 : (aheadN.lookup z).getD 0 < p) (h : gPrimary ts ex bo d ⟨i, ds, tw⟩ = .ok t S') : gOpening ts ex bo p d ⟨i, ds, tw⟩ = .ok (t, 9) S' := by
  unfold gOpening
  rw [fixed0 n, ok_bind, if_pos h0, h, ok_bind]
theorem opening_ahead {t : Tr} {S' : RS} {nm : List Nat} (n : Nx ts i z) (h0 : ¬ (aheadN.lookup z).getD 0 < p) (hn : treesN.lookup z = some nm) (h : ex ((aheadN.lookup z).getD 0) (d + 1) ⟨i + 1, ds, tw⟩ = .ok t S') : gOpening ts ex bo p d ⟨i, ds, tw⟩ = .ok (.t [.s nm, t], (aheadN.lookup z).getD 0) S' := by
  unfold gOpening
  rw [fixed0 n, ok_bind, if_neg h0, expect_ok n, ok_bind, hn]
  show (ex _ _ _).bind _ = _
  rw [h, ok_bind]
theorem prim_plain {k : List Nat} {v : V} {q : Nat} (h : ts[i]? = some (k, v, q)) (hk : k = cds "number" ∨ k = cds "text") : gPrimary ts ex bo d ⟨i, ds, tw⟩ = .ok (.t [str "plain", plainTr v]) ⟨i + 1, ds, tw⟩ := by
  obtain ⟨e, hl⟩ := tokN_of h
  unfold gPrimary
  show (if i < ts.length then (if (tokN ts i).1 = _ ∨ (tokN ts i).1 = _ then (rTake ts (tokN ts i).1 _).bind _ else _) else _) = _
  rw [if_pos hl, e]
  show (if k = _ ∨ k = _ then (rTake ts k _).bind _ else _) = _
  rw [if_pos hk, take_ok h, ok_bind]
theorem prim_name {v : V} {q : Nat} (h : ts[i]? = some (cds "name", v, q)) : gPrimary ts ex bo d ⟨i, ds, tw⟩ = .ok (.t [str "name", plainTr v]) ⟨i + 1, ds, tw⟩ := by
  obtain ⟨e, hl⟩ := tokN_of h
  unfold gPrimary
  show (if i < ts.length then (if (tokN ts i).1 = _ ∨ (tokN ts i).1 = _ then _ else if (tokN ts i).1 = cds "name" then (rTake ts (tokN ts i).1 _).bind _ else _) else _) = _
  rw [if_pos hl, e]
  show (if cds "name" = cds "number" ∨ cds "name" = cds "text" then _ else if cds "name" = cds "name" then (rTake ts (cds "name") _).bind _ else _) = _
  rw [if_neg (by decide +kernel), if_pos rfl, take_ok h, ok_bind]
/-- what stands behind the first word -/
def gRest (ts : List Tk) (ex : Nat → Nat → RS → Res RS Tr) (bo : List (List Nat) → Nat → RS → Res RS (List Tr)) (d : Nat) (w : List Nat) (S : RS) : Res RS Tr :=
  if w = cds "{" then gBlock ts bo d S else if w = cds "super" then gSuper ts ex d S else
      (rAccept ts (cds "(") S).bind fun b S => if b = true then (ex 1 (d + 1) S).bind fun t S => (rExpect ts (cds ")") S).bind fun _ S => .ok t S else
      (rAccept ts (cds "new") S).bind fun b S => if b = true then (rTake ts (cds "class") S).bind fun v S => .ok (.t [str "new", plainTr v]) S else
      (rAccept ts (cds "self") S).bind fun b S => if b = true then .ok (.t [str "self"]) S else
      match plainL.lookup w with
      | none => rRefuse ts S
      | some v => (rExpect ts w S).bind fun _ S => .ok (.t [str "plain", plainTr v]) S
theorem prim_rest {a : List Nat} {w : Ws} (h : Seg ts i (a :: w)) (ha : a ∈ WM) : gPrimary ts ex bo d ⟨i, ds, tw⟩ = gRest ts ex bo d a ⟨i, ds, tw⟩ := by
  have n := h.nx
  rw [wm_fx a ha] at n
  obtain ⟨⟨q, h⟩, _⟩ := h
  obtain ⟨e, hl⟩ := tokN_of h
  obtain ⟨k1, k2, k3⟩ := wm_kind a ha
  unfold gPrimary
  show (if i < ts.length then (if (tokN ts i).1 = _ ∨ (tokN ts i).1 = _ then _ else if (tokN ts i).1 = cds "name" then _ else (rFixed ts 0 ⟨i, ds, tw⟩).bind _) else _) = _
  rw [if_pos hl, e]
  show (if (tk a).1 = _ ∨ (tk a).1 = _ then _ else if (tk a).1 = cds "name" then _ else (rFixed ts 0 ⟨i, ds, tw⟩).bind _) = _
  rw [if_neg (fun z => z.elim k1 k2), if_neg k3, fixed0 n, ok_bind]
  rfl
end
end Lv
namespace Lv
open PySem PySem.Spec PyProof.Rows L2
/-- an expression's tokens, read at a place as loose as it: what the loop over the signs goes on with -/
def EGood (ts : List Tk) (h : Nat) : Prop := ∀ {lv : Nat} {t : Tr} {w : Ws} {ns : List Ws}, Ex lv h t w ns → ∀ {n p d i : Nat} {ds : List Nat} {tw : Option (List Nat)} {z : List Nat}, h ≤ n → 1 ≤ p → p ≤ lv → d + h ≤ 13 → Seg ts i w → Nx ts (i + w.length) z → levB z ≤ lv → ds.length + 2 * w.length ≤ 400001 →
  ∃ (sg : List Nat) (k : Nat), sg ≠ [] ∧ (∀ x ∈ sg, x + 1 ≤ d + h) ∧ sg.length + 1 ≤ 2 * w.length ∧ ts.length + 1 ≤ k + w.length ∧
    gExpr ts (exN ts n).1 (exN ts n).2 p d ⟨i, ds, tw⟩ = gExprGo ts (exN ts n).1 p d ds.length k t lv z ⟨i + w.length, ds ++ sg, noteAll ns tw⟩
/-- .. up to its end -/
def EDone (ts : List Tk) (h : Nat) : Prop := ∀ {lv : Nat} {t : Tr} {w : Ws} {ns : List Ws}, Ex lv h t w ns → ∀ {n p d i : Nat} {ds : List Nat} {tw : Option (List Nat)} {z : List Nat}, h + 1 ≤ n → 1 ≤ p → p ≤ lv → d + h ≤ 13 → Seg ts i w → Nx ts (i + w.length) z → levB z < p → ds.length + 2 * w.length ≤ 400001 →
  ∃ sg : List Nat, sg ≠ [] ∧ (∀ x ∈ sg, x + 1 ≤ d + h) ∧ sg.length + 1 ≤ 2 * w.length ∧ (exN ts n).1 p d ⟨i, ds, tw⟩ = .ok t ⟨i + w.length, ds ++ sg, noteAll ns tw⟩
def SDone (ts : List Tk) (h : Nat) : Prop := ∀ {t : Tr} {w : Ws} {ns : List Ws}, St h t w ns → ∀ {n d i : Nat} {ds : List Nat} {tw : Option (List Nat)} {z : List Nat}, h ≤ n → d + h ≤ 13 → Seg ts i w → Nx ts (i + w.length) z → z ∈ cds ";" :: EN → ds.length + 2 * w.length ≤ 400000 →
  ∃ sg : List Nat, (∀ x ∈ sg, x + 1 ≤ d + h) ∧ sg.length ≤ 2 * w.length ∧ gSt ts (exN ts n).1 (exN ts n).2 d ⟨i, ds, tw⟩ = .ok t ⟨i + w.length, ds ++ sg, noteAll ns tw⟩
def BDone (ts : List Tk) (h : Nat) : Prop := ∀ {l : List Tr} {w : Ws} {ns : List Ws}, Bd h l w ns → ∀ {n d i : Nat} {ms : Ws} {ds : List Nat} {tw : Option (List Nat)} {z : List Nat}, h + 1 ≤ n → (∀ m ∈ ms, m ∈ EN) → z ∈ ms → d + h ≤ 13 → Seg ts i w → Nx ts (i + w.length) z → ds.length + 2 * w.length ≤ 400000 →
  ∃ sg : List Nat, (∀ x ∈ sg, x + 1 ≤ d + h) ∧ sg.length ≤ 2 * w.length ∧ (exN ts n).2 ms d ⟨i, ds, tw⟩ = .ok l ⟨i + w.length, ds ++ sg, noteAll ns tw⟩
theorem seg_len {ts : List Tk} {i : Nat} {w : Ws} {z : List Nat} (h : Nx ts (i + w.length) z) : w.length + 1 ≤ ts.length := by
  obtain ⟨t, h, _⟩ := h
  have := (List.getElem?_eq_some_iff.mp h).1
  omega
theorem EGood.done {ts : List Tk} {h : Nat} (g : EGood ts h) : EDone ts h := by
  intro lv t w ns e n p d i ds tw z hn hp hpl hd hs hx hz hl
  obtain ⟨m, rfl⟩ : ∃ m, n = m + 1 := ⟨n - 1, by omega⟩
  obtain ⟨sg, k, h1, h2, h3, h4, h5⟩ := g e (n := m) (p := p) (d := d) (i := i) (ds := ds) (tw := tw) (z := z) (by omega) hp hpl hd hs hx (by omega) hl
  refine ⟨sg, h1, h2, h3, ?_⟩
  show gExpr ts (exN ts m).1 (exN ts m).2 p d ⟨i, ds, tw⟩ = _
  have := seg_len hx
  rw [h5, go_end (goOn_lt hz) (by omega)]
section
variable {ts : List Tk} {n d i : Nat} {ds : List Nat} {tw : Option (List Nat)} {z : List Nat}
theorem app3 {a b c : List Nat} : a ++ b ++ c = a ++ (b ++ c) := List.append_assoc ..
/-- arguments behind the first -/
theorem al_done {h : Nat} (E : EDone ts h) : ∀ {l : List Tr} {w : Ws} {ns : List Ws}, Al h l w ns → ∀ {l0 : List Tr} {i k : Nat} {ds : List Nat} {tw : Option (List Nat)}, h + 1 ≤ n → d + h ≤ 13 → Seg ts i w → Nx ts (i + w.length) (cds ")") → l0.length + l.length ≤ 8 → l.length + 1 ≤ k → ds.length + 2 * w.length ≤ 400000 →
    ∃ sg : List Nat, (∀ x ∈ sg, x + 1 ≤ d + h) ∧ sg.length ≤ 2 * w.length ∧ gArgsGo ts (exN ts n).1 d k l0 ⟨i, ds, tw⟩ = .ok (l0 ++ l) ⟨i + w.length, ds ++ sg, noteAll ns tw⟩
  | [], w, ns, e, l0, i, k, ds, tw, hn, hd, hs, hx, hc, hk, hl => by
    cases e
    obtain ⟨k, rfl⟩ : ∃ m, k = m + 1 := ⟨k - 1, by omega⟩
    refine ⟨[], fun x hx => absurd hx List.not_mem_nil, Nat.zero_le _, ?_⟩
    unfold gArgsGo
    rw [accept_no (show Nx ts i (cds ")") from hx) (by decide +kernel), ok_bind, if_neg Bool.false_ne_true, List.append_nil, List.append_nil]
    rfl
  | t :: l, w, ns, e, l0, i, k, ds, tw, hn, hd, hs, hx, hc, hk, hl => by
    cases e with
    | @cons lv _ _ w1 n1 _ w2 n2 hlv e1 e2 =>
      obtain ⟨k, rfl⟩ : ∃ m, k = m + 1 := ⟨k - 1, by omega⟩
      rw [List.length_cons] at hc hk hx hl
      rw [List.length_append] at hx hl
      have nc := hs.nx
      rw [wm_fx _ (by decide +kernel)] at nc
      obtain ⟨_, hs2⟩ := hs
      obtain ⟨s1, s2⟩ := seg_append.mp hs2
      have hx1 : Nx ts (i + 1 + w1.length) (if l = [] then cds ")" else cds ",") := by
        cases e2 with
        | nil =>
          have : i + (w1.length + ([] : Ws).length + 1) = i + 1 + w1.length := by show i + (w1.length + 0 + 1) = _; omega
          rw [if_pos rfl, ← this]
          exact hx
        | cons _ _ _ =>
          have q := s2.nx
          rw [wm_fx _ (by decide +kernel)] at q
          rw [if_neg (List.cons_ne_nil _ _)]
          exact q
      have hlev : levB (if l = [] then cds ")" else cds ",") < 1 := by split <;> decide +kernel
      obtain ⟨sg1, g1, g2, g3, g4⟩ := E e1 (n := n) (p := 1) (d := d) (i := i + 1) (ds := ds) (tw := tw) hn (Nat.le_refl _) hlv hd s1 hx1 hlev (by omega)
      obtain ⟨sg2, q1, q2, q3⟩ := al_done E e2 (l0 := l0 ++ [t]) (i := i + 1 + w1.length) (k := k) (ds := ds ++ sg1) (tw := noteAll n1 tw) hn hd s2 (by rw [show i + 1 + w1.length + w2.length = i + (w1.length + w2.length + 1) by omega]; exact hx) (by rw [List.length_append]; show l0.length + 1 + l.length ≤ 8; omega) (by omega) (by rw [List.length_append]; omega)
      refine ⟨sg1 ++ sg2, fun x hx => (List.mem_append.mp hx).elim (g2 x) (q1 x), by rw [List.length_append, List.length_cons, List.length_append]; omega, ?_⟩
      unfold gArgsGo
      rw [accept_yes nc, ok_bind, if_pos rfl, if_neg (by omega), g4, ok_bind, q3, noteAll_append, List.append_assoc, List.append_assoc]
      show Res.ok _ (RS.mk _ _ _) = Res.ok _ (RS.mk _ _ _)
      rw [List.length_cons, List.length_append, show i + 1 + w1.length + w2.length = i + (w1.length + w2.length + 1) by omega]
      rfl
/-- arguments in their brackets -/
theorem ar_done {h : Nat} (E : EDone ts h) {l : List Tr} {w : Ws} {ns : List Ws} (e : Ar h l w ns) (hn : h + 1 ≤ n) (hd : d + h ≤ 13) (hs : Seg ts i (cds "(" :: (w ++ [cds ")"]))) (hl : ds.length + 2 * w.length ≤ 400000) :
    ∃ sg : List Nat, (∀ x ∈ sg, x + 1 ≤ d + h) ∧ sg.length ≤ 2 * w.length ∧ gArgs ts (exN ts n).1 d ⟨i, ds, tw⟩ = .ok l ⟨i + (w.length + 2), ds ++ sg, noteAll ns tw⟩ := by
  have nc := hs.nx
  rw [wm_fx _ (by decide +kernel)] at nc
  obtain ⟨_, hs2⟩ := hs
  obtain ⟨s1, s2⟩ := seg_append.mp hs2
  have nz := s2.nx
  rw [wm_fx _ (by decide +kernel)] at nz
  unfold gArgs
  rw [expect_ok nc, ok_bind]
  cases e with
  | nil =>
    refine ⟨[], fun x hx => absurd hx List.not_mem_nil, Nat.zero_le _, ?_⟩
    rw [accept_yes (show Nx ts (i + 1) (cds ")") from nz), ok_bind, if_pos rfl, List.append_nil]
    rfl
  | @cons lv _ t w1 n1 l w2 n2 hlv e1 e2 hc =>
    rw [List.length_append] at nz hl
    obtain ⟨q1, q2⟩ := seg_append.mp s1
    obtain ⟨a, r, ew, hf, _⟩ := ex_hd e1
    have nf : Nx ts (i + 1) (fx a) := by rw [ew] at q1; exact q1.nx
    have nf2 : fx a ≠ cds ")" := fun z => hf (by rw [z]; decide +kernel)
    rw [accept_no nf nf2, ok_bind, if_neg Bool.false_ne_true]
    have hx1 : Nx ts (i + 1 + w1.length) (if l = [] then cds ")" else cds ",") := by
      cases e2 with
      | nil => rw [if_pos rfl]; exact nz
      | cons _ _ _ =>
        have q := q2.nx
        rw [wm_fx _ (by decide +kernel)] at q
        rw [if_neg (List.cons_ne_nil _ _)]
        exact q
    have hlev : levB (if l = [] then cds ")" else cds ",") < 1 := by split <;> decide +kernel
    obtain ⟨sg1, g1, g2, g3, g4⟩ := E e1 (n := n) (p := 1) (d := d) (i := i + 1) (ds := ds) (tw := tw) hn (Nat.le_refl _) hlv hd q1 hx1 hlev (by omega)
    obtain ⟨sg2, z1, z2, z3⟩ := al_done E e2 (l0 := [t]) (i := i + 1 + w1.length) (k := 9) (ds := ds ++ sg1) (tw := noteAll n1 tw) hn hd q2 (by rw [show i + 1 + w1.length + w2.length = i + 1 + (w1.length + w2.length) by omega]; exact nz) (by show 1 + l.length ≤ 8; omega) (by omega) (by rw [List.length_append]; omega)
    refine ⟨sg1 ++ sg2, fun x hx => (List.mem_append.mp hx).elim (g2 x) (z1 x), by rw [List.length_append, List.length_append]; omega, ?_⟩
    rw [g4, ok_bind, z3, ok_bind, show i + 1 + w1.length + w2.length = i + 1 + (w1.length + w2.length) by omega, expect_ok nz, ok_bind, noteAll_append, List.append_assoc, List.length_append]
    show Res.ok _ (RS.mk _ _ _) = Res.ok _ (RS.mk _ _ _)
    rw [show i + 1 + (w1.length + w2.length) + 1 = i + (w1.length + w2.length + 2) by omega]
    rfl
/-! ### names with commas -/
theorem commas_cons (a : List Nat) : ∀ l : Ws, commas (a :: l) = a :: (l.flatMap fun b => [cds ",", b])
  | [] => rfl
  | b :: l => by
    show a :: cds "," :: commas (b :: l) = _
    rw [commas_cons b l]
    rfl
theorem names_go {most : Nat} : ∀ {l l0 : Ws} {i k : Nat}, (∀ x ∈ l, isNm x) → Seg ts i (l.flatMap fun b => [cds ",", b]) → Nx ts (i + 2 * l.length) z → z ≠ cds "," → l0.length + l.length ≤ most → l.length + 1 ≤ k → rNamesGo ts most k l0 ⟨i, ds, tw⟩ = .ok (l0 ++ l) ⟨i + 2 * l.length, ds, tw⟩
  | [], l0, i, k, hn, hs, hx, hz, hc, hk => by
    obtain ⟨k, rfl⟩ : ∃ m, k = m + 1 := ⟨k - 1, by omega⟩
    unfold rNamesGo
    rw [accept_no (show Nx ts i z from hx) hz, ok_bind, if_neg Bool.false_ne_true, List.append_nil]
    rfl
  | a :: l, l0, i, k, hn, hs, hx, hz, hc, hk => by
    rw [List.length_cons] at hc hk hx
    obtain ⟨k, rfl⟩ : ∃ m, k = m + 1 := ⟨k - 1, by omega⟩
    have hs' : Seg ts i (cds "," :: a :: (l.flatMap fun b => [cds ",", b])) := hs
    have nc := hs'.nx
    rw [wm_fx _ (by decide +kernel)] at nc
    unfold rNamesGo
    rw [accept_yes nc, ok_bind, if_pos rfl, if_neg (by omega), name_ok hs'.2 (hn a List.mem_cons_self), ok_bind,
      names_go (l := l) (l0 := l0 ++ [a]) (i := i + 1 + 1) (k := k) (fun x hx => hn x (List.mem_cons_of_mem _ hx)) hs'.2.2 (by rw [show i + 1 + 1 + 2 * l.length = i + 2 * (l.length + 1) by omega]; exact hx) hz (by rw [List.length_append]; show l0.length + 1 + l.length ≤ most; omega) (by omega), List.append_assoc]
    show Res.ok _ (RS.mk _ _ _) = Res.ok _ (RS.mk _ _ _)
    rw [List.length_cons, show i + 1 + 1 + 2 * l.length = i + 2 * (l.length + 1) by omega]
    rfl
theorem commas_len : ∀ {l : Ws}, l ≠ [] → (commas l).length + 1 = 2 * l.length
  | [], h => absurd rfl h
  | a :: l, _ => by
    rw [commas_cons, List.length_cons, List.length_cons]
    have : ∀ l : Ws, (l.flatMap fun b => [cds ",", b]).length = 2 * l.length := fun l => by
      induction l with
      | nil => rfl
      | cons b l ih => rw [List.flatMap_cons, List.length_append, ih]; simp only [List.length_cons, List.length_nil]; omega
    rw [this]
    omega
theorem names_done {most : Nat} {l : Ws} (h0 : l ≠ []) (hn : ∀ x ∈ l, isNm x) (hs : Seg ts i (commas l)) (hx : Nx ts (i + (commas l).length) z) (hz : z ≠ cds ",") (hc : l.length ≤ most) : rNames ts most ⟨i, ds, tw⟩ = .ok l ⟨i + (commas l).length, ds, tw⟩ := by
  have cl := commas_len h0
  cases l with
  | nil => exact absurd rfl h0
  | cons a l =>
    rw [commas_cons] at hs
    rw [List.length_cons] at cl hc
    have e : i + (commas (a :: l)).length = i + 1 + 2 * l.length := by omega
    rw [e] at hx ⊢
    unfold rNames
    rw [name_ok hs (hn a List.mem_cons_self), ok_bind, names_go (l0 := [a]) (fun x hx => hn x (List.mem_cons_of_mem _ hx)) hs.2 hx hz (by show 1 + l.length ≤ most; omega) (by omega)]
    rfl
theorem before_no {ms : Ws} {a : List Nat} {w : Ws} (hs : Seg ts i (a :: w)) (h : (tk a).1 ≠ cds "name") : rBefore ts ms ⟨i, ds, tw⟩ = .ok false ⟨i, ds, tw⟩ := by
  obtain ⟨⟨q, h1⟩, _⟩ := hs
  obtain ⟨e, hl⟩ := tokN_of h1
  unfold rBefore
  show (if i < ts.length then (if (tokN ts i).1 = _ then _ else Res.ok false _) else _) = _
  rw [if_pos hl, e, if_neg h]
theorem before_is {ms : Ws} {a : List Nat} {w : Ws} (hs : Seg ts i (a :: w)) (h : (tk a).1 = cds "name") (n : Nx ts (i + 1) z) : rBefore ts ms ⟨i, ds, tw⟩ = .ok (decide (z ∈ ms)) ⟨i, ds, tw⟩ := by
  obtain ⟨⟨q, h1⟩, _⟩ := hs
  obtain ⟨e, hl⟩ := tokN_of h1
  unfold rBefore
  show (if i < ts.length then (if (tokN ts i).1 = _ then (rFixed ts 1 ⟨i, ds, tw⟩).bind _ else _) else _) = _
  rw [if_pos hl, e, if_pos h, fixed1 n, ok_bind]
end
end Lv
namespace Lv
open PySem PySem.Spec PyProof.Rows L2
section
variable {ts : List Tk} {n d i : Nat} {ds : List Nat} {tw : Option (List Nat)} {z : List Nat}
theorem en_wm : ∀ a ∈ cds ";" :: EN, a ∈ WM ∧ levB a = 0 ∧ a ≠ cds ":=" ∧ a ≠ cds "," ∧ a ≠ cds "|" := by decide +kernel
/-- statements behind the first -/
theorem bl_done {h : Nat} (E : SDone ts h) : ∀ {l : List Tr} {w : Ws} {ns : List Ws}, Bl h l w ns → ∀ {l0 : List Tr} {i k : Nat} {ds : List Nat} {tw : Option (List Nat)}, h ≤ n → d + h ≤ 13 → Seg ts i w → Nx ts (i + w.length) z → z ∈ EN → l.length + 1 ≤ k → ds.length + 2 * w.length ≤ 400000 →
    ∃ sg : List Nat, (∀ x ∈ sg, x + 1 ≤ d + h) ∧ sg.length ≤ 2 * w.length ∧ gBodyGo ts (gSt ts (exN ts n).1 (exN ts n).2) d k l0 ⟨i, ds, tw⟩ = .ok (l0 ++ l) ⟨i + w.length, ds ++ sg, noteAll ns tw⟩
  | [], w, ns, e, l0, i, k, ds, tw, hn, hd, hs, hx, hz, hk, hl => by
    cases e
    obtain ⟨k, rfl⟩ : ∃ m, k = m + 1 := ⟨k - 1, by omega⟩
    refine ⟨[], fun x hx => absurd hx List.not_mem_nil, Nat.zero_le _, ?_⟩
    have hz2 : z ≠ cds ";" := fun e => by
      have : ∀ a ∈ EN, a ≠ cds ";" := by decide +kernel
      exact this z hz e
    unfold gBodyGo
    rw [accept_no (show Nx ts i z from hx) hz2, ok_bind, if_neg Bool.false_ne_true, List.append_nil, List.append_nil]
    rfl
  | t :: l, w, ns, e, l0, i, k, ds, tw, hn, hd, hs, hx, hz, hk, hl => by
    cases e with
    | @cons _ _ w1 n1 _ w2 n2 e1 e2 =>
      obtain ⟨k, rfl⟩ : ∃ m, k = m + 1 := ⟨k - 1, by omega⟩
      rw [List.length_cons] at hk hx hl
      rw [List.length_append] at hx hl
      have nc := hs.nx
      rw [wm_fx _ (by decide +kernel)] at nc
      obtain ⟨_, hs2⟩ := hs
      obtain ⟨s1, s2⟩ := seg_append.mp hs2
      have hx1 : Nx ts (i + 1 + w1.length) (if l = [] then z else cds ";") := by
        cases e2 with
        | nil =>
          have : i + (w1.length + ([] : Ws).length + 1) = i + 1 + w1.length := by show i + (w1.length + 0 + 1) = _; omega
          rw [if_pos rfl, ← this]
          exact hx
        | cons _ _ =>
          have q := s2.nx
          rw [wm_fx _ (by decide +kernel)] at q
          rw [if_neg (List.cons_ne_nil _ _)]
          exact q
      have hlev : (if l = [] then z else cds ";") ∈ cds ";" :: EN := by split; exact List.mem_cons_of_mem _ hz; exact List.mem_cons_self
      obtain ⟨sg1, g2, g3, g4⟩ := E e1 (n := n) (d := d) (i := i + 1) (ds := ds) (tw := tw) hn hd s1 hx1 hlev (by omega)
      obtain ⟨sg2, q1, q2, q3⟩ := bl_done E e2 (l0 := l0 ++ [t]) (i := i + 1 + w1.length) (k := k) (ds := ds ++ sg1) (tw := noteAll n1 tw) hn hd s2 (by rw [show i + 1 + w1.length + w2.length = i + (w1.length + w2.length + 1) by omega]; exact hx) hz (by omega) (by rw [List.length_append]; omega)
      refine ⟨sg1 ++ sg2, fun x hx => (List.mem_append.mp hx).elim (g2 x) (q1 x), by rw [List.length_append, List.length_cons, List.length_append]; omega, ?_⟩
      unfold gBodyGo
      rw [accept_yes nc, ok_bind, if_pos rfl, g4, ok_bind, q3, noteAll_append, List.append_assoc, List.append_assoc]
      show Res.ok _ (RS.mk _ _ _) = Res.ok _ (RS.mk _ _ _)
      rw [List.length_cons, List.length_append, show i + 1 + w1.length + w2.length = i + (w1.length + w2.length + 1) by omega]
      rfl
theorem bl_len {h : Nat} : ∀ {l : List Tr} {w : Ws} {ns : List Ws}, Bl h l w ns → l.length ≤ w.length
  | [], _, _, _ => Nat.zero_le _
  | t :: l, _, _, .cons _ r => by
    have := bl_len r
    rw [List.length_cons, List.length_cons, List.length_append]
    omega
/-- a body -/
theorem SDone.body {h : Nat} (E : SDone ts h) : BDone ts h := by
  intro l w ns e n d i ms ds tw z hn hms hz hd hs hx hl
  obtain ⟨n, rfl⟩ : ∃ m, n = m + 1 := ⟨n - 1, by omega⟩
  have hlen := seg_len hx
  show ∃ sg : List Nat, _ ∧ _ ∧ gBody ts (gSt ts (exN ts n).1 (exN ts n).2) ms d ⟨i, ds, tw⟩ = _
  unfold gBody
  cases e with
  | nil =>
    refine ⟨[], fun x hx => absurd hx List.not_mem_nil, Nat.zero_le _, ?_⟩
    rw [fixed0 (show Nx ts i z from hx), ok_bind, if_pos hz, List.append_nil]
    rfl
  | @cons _ t w1 n1 l w2 n2 e1 e2 =>
    rw [List.length_append] at hx hl hlen
    obtain ⟨s1, s2⟩ := seg_append.mp hs
    obtain ⟨a, r, ew, hf, _⟩ := st_hd e1
    have nf : Nx ts i (fx a) := by rw [ew] at s1; exact s1.nx
    have hx1 : Nx ts (i + w1.length) (if l = [] then z else cds ";") := by
      cases e2 with
      | nil => rw [if_pos rfl]; exact hx
      | cons _ _ =>
        have q := s2.nx
        rw [wm_fx _ (by decide +kernel)] at q
        rw [if_neg (List.cons_ne_nil _ _)]
        exact q
    have hlev : (if l = [] then z else cds ";") ∈ cds ";" :: EN := by split; exact List.mem_cons_of_mem _ (hms z hz); exact List.mem_cons_self
    obtain ⟨sg1, g2, g3, g4⟩ := E e1 (n := n) (d := d) (i := i) (ds := ds) (tw := tw) (by omega) hd s1 hx1 hlev (by omega)
    have bl := bl_len e2
    obtain ⟨sg2, z1, z2, z3⟩ := bl_done E e2 (l0 := [t]) (i := i + w1.length) (k := ts.length + 1) (ds := ds ++ sg1) (tw := noteAll n1 tw) (n := n) (by omega) hd s2 (by rw [Nat.add_assoc]; exact hx) (hms z hz) (by omega) (by rw [List.length_append]; omega)
    refine ⟨sg1 ++ sg2, fun x hx => (List.mem_append.mp hx).elim (g2 x) (z1 x), by rw [List.length_append, List.length_append]; omega, ?_⟩
    rw [fixed0 nf, ok_bind, if_neg (fun h => hf (hms _ h)), g4, ok_bind, z3, noteAll_append, List.append_assoc, List.length_append, Nat.add_assoc]
    rfl
/-! ### statements -/
theorem st_next {z : List Nat} (h : z ∈ cds ";" :: EN) : levB z < 1 := by rw [(en_wm z h).2.1]; decide
theorem gst_else {w : List Nat} {ex : Nat → Nat → RS → Res RS Tr} {bo : List (List Nat) → Nat → RS → Res RS (List Tr)} (hd : d ≤ 12) (hl : ds.length < 400000) (n0 : Nx ts i w) (h : w ∉ SW) :
    gSt ts ex bo d ⟨i, ds, tw⟩ = (rBefore ts [cds ":="] ⟨i, ds ++ [d], tw⟩).bind fun b S => if b = true then gSet ts ex d S else (ex 1 (d + 1) S).bind fun t S => .ok (.t [str "eval", t]) S := by
  have k : ∀ a ∈ SW, w ≠ a := fun a ha e => h (by rw [e]; exact ha)
  unfold gSt
  rw [begin_ok hd hl, ok_bind, fixed0 n0, ok_bind, if_neg (fun e => e.elim (k _ (by decide +kernel)) (k _ (by decide +kernel))), if_neg (k _ (by decide +kernel)), if_neg (k _ (by decide +kernel)), if_neg (k _ (by decide +kernel)), if_neg (k _ (by decide +kernel))]
theorem sd_step {h : Nat} (E : EDone ts h) (B : BDone ts h) : SDone ts (h + 1) := by
  intro t w ns e n d i ds tw z hn hd hs hx hz hl
  have hz1 := st_next hz
  cases e with
  | @eval lv _ t _ _ hlv e =>
    obtain ⟨a, r, ew, hf, hnm⟩ := ex_hd e
    have hw1 : 1 ≤ w.length := by rw [ew, List.length_cons]; omega
    have nf : Nx ts i (fx a) := by rw [ew] at hs; exact hs.nx
    obtain ⟨sg, g1, g2, g3, g4⟩ := E e (n := n) (p := 1) (d := d + 1) (i := i) (ds := ds ++ [d]) (tw := tw) hn (Nat.le_refl _) hlv (by omega) hs hx hz1 (by rw [List.length_append]; show ds.length + 1 + _ ≤ _; omega)
    refine ⟨d :: sg, fun x hx => ?_, by rw [List.length_cons]; omega, ?_⟩
    · rcases List.mem_cons.mp hx with rfl | hx
      · omega
      · have := g2 x hx; omega
    · rw [gst_else (by omega) (by omega) nf hf]
      have hb : rBefore ts [cds ":="] ⟨i, ds ++ [d], tw⟩ = .ok false ⟨i, ds ++ [d], tw⟩ := by
        by_cases hk : (tk a).1 = cds "name"
        · rcases hnm hk with rfl | ⟨b, r', rfl, l, hb⟩
          · rw [ew] at hx hs
            have e : decide (z ∈ [cds ":="]) = false := decide_eq_false fun m => (en_wm z hz).2.2.1 (List.mem_singleton.mp m)
            rw [before_is hs hk (show Nx ts (i + 1) z from hx), e]
          · rw [ew] at hs
            have q := hs.2.nx
            obtain ⟨bw, _, _, _, _, _, bn, _⟩ := beh_wm hb
            rw [wm_fx b bw] at q
            have e : decide (b ∈ [cds ":="]) = false := decide_eq_false fun m => bn (List.mem_singleton.mp m)
            rw [before_is hs hk q, e]
        · rw [ew] at hs
          exact before_no hs hk
      rw [hb, ok_bind, if_neg Bool.false_ne_true, g4, ok_bind, List.append_assoc]
      rfl
  | @set lv _ t w ns x hx0 hlv e =>
    rw [List.length_cons, List.length_cons] at hx hl
    obtain ⟨sg, g1, g2, g3, g4⟩ := E e (n := n) (p := 1) (d := d + 1) (i := i + 1 + 1) (ds := ds ++ [d]) (tw := tw) hn (Nat.le_refl _) hlv (by omega) hs.2.2 (by rw [show i + 1 + 1 + w.length = i + (w.length + 1 + 1) by omega]; exact hx) hz1 (by rw [List.length_append]; show ds.length + 1 + _ ≤ _; omega)
    refine ⟨d :: sg, fun x hx => ?_, by rw [List.length_cons, List.length_cons, List.length_cons]; omega, ?_⟩
    · rcases List.mem_cons.mp hx with rfl | hx
      · omega
      · have := g2 x hx; omega
    · have nf := hs.nx
      rw [nm_fx hx0] at nf
      have q := hs.2.nx
      rw [wm_fx _ (by decide +kernel)] at q
      have hk : (tk x).1 = cds "name" := by rw [hx0]
      have e : decide (cds ":=" ∈ [cds ":="]) = true := by decide +kernel
      rw [gst_else (by omega) (by omega) nf (by decide +kernel), before_is hs hk q, e, ok_bind, if_pos rfl]
      unfold gSet
      rw [name_ok hs hx0, ok_bind, expect_ok q, ok_bind, g4, ok_bind, List.append_assoc, List.length_cons, List.length_cons, show i + 1 + 1 + w.length = i + (w.length + 1 + 1) by omega]
      rfl
  | @gf lv _ t w ns g hg hlv e =>
    rw [List.length_cons] at hx hl
    have gw : g ∈ WM := by rcases hg with rfl | rfl <;> decide +kernel
    obtain ⟨sg, g1, g2, g3, g4⟩ := E e (n := n) (p := 1) (d := d + 1) (i := i + 1) (ds := ds ++ [d]) (tw := tw) hn (Nat.le_refl _) hlv (by omega) hs.2 (by rw [show i + 1 + w.length = i + (w.length + 1) by omega]; exact hx) hz1 (by rw [List.length_append]; show ds.length + 1 + _ ≤ _; omega)
    refine ⟨d :: sg, fun x hx => ?_, by rw [List.length_cons, List.length_cons]; omega, ?_⟩
    · rcases List.mem_cons.mp hx with rfl | hx
      · omega
      · have := g2 x hx; omega
    · have nf := hs.nx
      rw [wm_fx g gw] at nf
      unfold gSt
      rw [begin_ok (by omega) (by omega), ok_bind, fixed0 nf, ok_bind, if_pos hg, expect_ok nf, ok_bind, g4, ok_bind, List.append_assoc, List.length_cons, show i + 1 + w.length = i + (w.length + 1) by omega]
      rfl
  | @whl lv _ t w ns l w2 n2 hlv e b =>
    simp only [List.length_cons, List.length_append, List.length_nil] at hx hl
    have nf := hs.nx
    rw [wm_fx _ (by decide +kernel)] at nf
    obtain ⟨s1, s2⟩ := seg_append.mp hs.2
    have q := s2.nx
    rw [wm_fx _ (by decide +kernel)] at q
    obtain ⟨s3, s4⟩ := seg_append.mp s2.2
    have r := s4.nx
    rw [wm_fx _ (by decide +kernel)] at r
    obtain ⟨sg, g1, g2, g3, g4⟩ := E e (n := n) (p := 1) (d := d + 1) (i := i + 1) (ds := ds ++ [d]) (tw := tw) hn (Nat.le_refl _) hlv (by omega) s1 q (by decide +kernel) (by rw [List.length_append]; show ds.length + 1 + _ ≤ _; omega)
    obtain ⟨sg2, b2, b3, b4⟩ := B b (n := n) (d := d + 1) (i := i + 1 + w.length + 1) (ms := [cds "end"]) (ds := ds ++ [d] ++ sg) (tw := noteAll ns tw) (z := cds "end") hn (by decide +kernel) (by decide +kernel) (by omega) s3 r (by rw [List.length_append, List.length_append]; show ds.length + 1 + _ + _ ≤ _; omega)
    refine ⟨d :: (sg ++ sg2), fun x hx => ?_, by simp only [List.length_cons, List.length_append, List.length_nil]; omega, ?_⟩
    · rcases List.mem_cons.mp hx with rfl | hx
      · omega
      · rcases List.mem_append.mp hx with hx | hx
        · have := g2 x hx; omega
        · have := b2 x hx; omega
    · unfold gSt
      rw [begin_ok (by omega) (by omega), ok_bind, fixed0 nf, ok_bind, if_neg (by decide +kernel), if_pos rfl]
      unfold gWhile
      rw [expect_ok nf, ok_bind, g4, ok_bind, expect_ok q, ok_bind, b4, ok_bind, expect_ok r, ok_bind, noteAll_append]
      simp only [List.length_cons, List.length_append, List.length_nil, List.append_assoc, List.cons_append, List.nil_append]
      rw [show i + 1 + w.length + 1 + w2.length + 1 = i + (w.length + (w2.length + (0 + 1) + 1) + 1) by omega]
  | @if0 lv _ t w ns l w2 n2 hlv e b =>
    simp only [List.length_cons, List.length_append, List.length_nil] at hx hl
    have nf := hs.nx
    rw [wm_fx _ (by decide +kernel)] at nf
    obtain ⟨s1, s2⟩ := seg_append.mp hs.2
    have q := s2.nx
    rw [wm_fx _ (by decide +kernel)] at q
    obtain ⟨s3, s4⟩ := seg_append.mp s2.2
    have r := s4.nx
    rw [wm_fx _ (by decide +kernel)] at r
    obtain ⟨sg, g1, g2, g3, g4⟩ := E e (n := n) (p := 1) (d := d + 1) (i := i + 1) (ds := ds ++ [d]) (tw := tw) hn (Nat.le_refl _) hlv (by omega) s1 q (by decide +kernel) (by rw [List.length_append]; show ds.length + 1 + _ ≤ _; omega)
    obtain ⟨sg2, b2, b3, b4⟩ := B b (n := n) (d := d + 1) (i := i + 1 + w.length + 1) (ms := [cds "else", cds "end"]) (ds := ds ++ [d] ++ sg) (tw := noteAll ns tw) (z := cds "end") hn (by decide +kernel) (by decide +kernel) (by omega) s3 r (by rw [List.length_append, List.length_append]; show ds.length + 1 + _ + _ ≤ _; omega)
    refine ⟨d :: (sg ++ sg2), fun x hx => ?_, by simp only [List.length_cons, List.length_append, List.length_nil]; omega, ?_⟩
    · rcases List.mem_cons.mp hx with rfl | hx
      · omega
      · rcases List.mem_append.mp hx with hx | hx
        · have := g2 x hx; omega
        · have := b2 x hx; omega
    · unfold gSt
      rw [begin_ok (by omega) (by omega), ok_bind, fixed0 nf, ok_bind, if_neg (by decide +kernel), if_neg (by decide +kernel), if_pos rfl]
      unfold gIf
      rw [expect_ok nf, ok_bind, g4, ok_bind, expect_ok q, ok_bind, b4, ok_bind, accept_no r (by decide +kernel), ok_bind, if_neg Bool.false_ne_true, expect_ok r, ok_bind, noteAll_append]
      simp only [List.length_cons, List.length_append, List.length_nil, List.append_assoc, List.cons_append, List.nil_append]
      rw [show i + 1 + w.length + 1 + w2.length + 1 = i + (w.length + (w2.length + (0 + 1) + 1) + 1) by omega]
  | @if1 lv _ t w ns l w2 n2 l3 w3 n3 hlv e b c =>
    simp only [List.length_cons, List.length_append, List.length_nil] at hx hl
    have nf := hs.nx
    rw [wm_fx _ (by decide +kernel)] at nf
    obtain ⟨s1, s2⟩ := seg_append.mp hs.2
    have q := s2.nx
    rw [wm_fx _ (by decide +kernel)] at q
    obtain ⟨s3, s4⟩ := seg_append.mp s2.2
    have r := s4.nx
    rw [wm_fx _ (by decide +kernel)] at r
    obtain ⟨s5, s6⟩ := seg_append.mp s4.2
    have u := s6.nx
    rw [wm_fx _ (by decide +kernel)] at u
    obtain ⟨sg, g1, g2, g3, g4⟩ := E e (n := n) (p := 1) (d := d + 1) (i := i + 1) (ds := ds ++ [d]) (tw := tw) hn (Nat.le_refl _) hlv (by omega) s1 q (by decide +kernel) (by rw [List.length_append]; show ds.length + 1 + _ ≤ _; omega)
    obtain ⟨sg2, b2, b3, b4⟩ := B b (n := n) (d := d + 1) (i := i + 1 + w.length + 1) (ms := [cds "else", cds "end"]) (ds := ds ++ [d] ++ sg) (tw := noteAll ns tw) (z := cds "else") hn (by decide +kernel) (by decide +kernel) (by omega) s3 r (by rw [List.length_append, List.length_append]; show ds.length + 1 + _ + _ ≤ _; omega)
    obtain ⟨sg3, c2, c3, c4⟩ := B c (n := n) (d := d + 1) (i := i + 1 + w.length + 1 + w2.length + 1) (ms := [cds "end"]) (ds := ds ++ [d] ++ sg ++ sg2) (tw := noteAll n2 (noteAll ns tw)) (z := cds "end") hn (by decide +kernel) (by decide +kernel) (by omega) s5 u (by rw [List.length_append, List.length_append, List.length_append]; show ds.length + 1 + _ + _ + _ ≤ _; omega)
    refine ⟨d :: (sg ++ (sg2 ++ sg3)), fun x hx => ?_, by simp only [List.length_cons, List.length_append, List.length_nil]; omega, ?_⟩
    · rcases List.mem_cons.mp hx with rfl | hx
      · omega
      · rcases List.mem_append.mp hx with hx | hx
        · have := g2 x hx; omega
        · rcases List.mem_append.mp hx with hx | hx
          · have := b2 x hx; omega
          · have := c2 x hx; omega
    · unfold gSt
      rw [begin_ok (by omega) (by omega), ok_bind, fixed0 nf, ok_bind, if_neg (by decide +kernel), if_neg (by decide +kernel), if_pos rfl]
      unfold gIf
      rw [expect_ok nf, ok_bind, g4, ok_bind, expect_ok q, ok_bind, b4, ok_bind, accept_yes r, ok_bind, if_pos rfl, c4, ok_bind, expect_ok u, ok_bind, noteAll_append, noteAll_append]
      simp only [List.length_cons, List.length_append, List.length_nil, List.append_assoc, List.cons_append, List.nil_append]
      rw [show i + 1 + w.length + 1 + w2.length + 1 + w3.length + 1 = i + (w.length + (w2.length + (w3.length + (0 + 1) + 1) + 1) + 1) by omega]
  | @try_ _ l w ns x l2 w2 n2 b hx0 c =>
    simp only [List.length_cons, List.length_append, List.length_nil] at hx hl
    have nf := hs.nx
    rw [wm_fx _ (by decide +kernel)] at nf
    obtain ⟨s1, s2⟩ := seg_append.mp hs.2
    have q := s2.nx
    rw [wm_fx _ (by decide +kernel)] at q
    have qt := s2.2.2.nx
    rw [wm_fx _ (by decide +kernel)] at qt
    obtain ⟨s3, s4⟩ := seg_append.mp s2.2.2.2
    have r := s4.nx
    rw [wm_fx _ (by decide +kernel)] at r
    obtain ⟨sg, g2, g3, g4⟩ := B b (n := n) (d := d + 1) (i := i + 1) (ms := [cds "catch"]) (ds := ds ++ [d]) (tw := tw) (z := cds "catch") hn (by decide +kernel) (by decide +kernel) (by omega) s1 q (by rw [List.length_append]; show ds.length + 1 + _ ≤ _; omega)
    obtain ⟨sg2, b2, b3, b4⟩ := B c (n := n) (d := d + 1) (i := i + 1 + w.length + 1 + 1 + 1) (ms := [cds "end"]) (ds := ds ++ [d] ++ sg) (tw := noteAll ns tw) (z := cds "end") hn (by decide +kernel) (by decide +kernel) (by omega) s3 r (by rw [List.length_append, List.length_append]; show ds.length + 1 + _ + _ ≤ _; omega)
    refine ⟨d :: (sg ++ sg2), fun x hx => ?_, by simp only [List.length_cons, List.length_append, List.length_nil]; omega, ?_⟩
    · rcases List.mem_cons.mp hx with rfl | hx
      · omega
      · rcases List.mem_append.mp hx with hx | hx
        · have := g2 x hx; omega
        · have := b2 x hx; omega
    · unfold gSt
      rw [begin_ok (by omega) (by omega), ok_bind, fixed0 nf, ok_bind, if_neg (by decide +kernel), if_neg (by decide +kernel), if_neg (by decide +kernel), if_pos rfl]
      unfold gTry
      rw [expect_ok nf, ok_bind, g4, ok_bind, expect_ok q, ok_bind, name_ok s2.2 hx0, ok_bind, expect_ok qt, ok_bind, b4, ok_bind, expect_ok r, ok_bind, noteAll_append]
      simp only [List.length_cons, List.length_append, List.length_nil, List.append_assoc, List.cons_append, List.nil_append]
      rw [show i + 1 + w.length + 1 + 1 + 1 + w2.length + 1 = i + (w.length + (w2.length + (0 + 1) + 1 + 1 + 1) + 1) by omega]
  | @keep _ l w ns l2 w2 n2 b c =>
    simp only [List.length_cons, List.length_append, List.length_nil] at hx hl
    have nf := hs.nx
    rw [wm_fx _ (by decide +kernel)] at nf
    obtain ⟨s1, s2⟩ := seg_append.mp hs.2
    have q := s2.nx
    rw [wm_fx _ (by decide +kernel)] at q
    obtain ⟨s3, s4⟩ := seg_append.mp s2.2
    have r := s4.nx
    rw [wm_fx _ (by decide +kernel)] at r
    obtain ⟨sg, g2, g3, g4⟩ := B b (n := n) (d := d + 1) (i := i + 1) (ms := [cds "always"]) (ds := ds ++ [d]) (tw := tw) (z := cds "always") hn (by decide +kernel) (by decide +kernel) (by omega) s1 q (by rw [List.length_append]; show ds.length + 1 + _ ≤ _; omega)
    obtain ⟨sg2, b2, b3, b4⟩ := B c (n := n) (d := d + 1) (i := i + 1 + w.length + 1) (ms := [cds "end"]) (ds := ds ++ [d] ++ sg) (tw := noteAll ns tw) (z := cds "end") hn (by decide +kernel) (by decide +kernel) (by omega) s3 r (by rw [List.length_append, List.length_append]; show ds.length + 1 + _ + _ ≤ _; omega)
    refine ⟨d :: (sg ++ sg2), fun x hx => ?_, by simp only [List.length_cons, List.length_append, List.length_nil]; omega, ?_⟩
    · rcases List.mem_cons.mp hx with rfl | hx
      · omega
      · rcases List.mem_append.mp hx with hx | hx
        · have := g2 x hx; omega
        · have := b2 x hx; omega
    · unfold gSt
      rw [begin_ok (by omega) (by omega), ok_bind, fixed0 nf, ok_bind, if_neg (by decide +kernel), if_neg (by decide +kernel), if_neg (by decide +kernel), if_neg (by decide +kernel), if_pos rfl]
      unfold gKeep
      rw [expect_ok nf, ok_bind, g4, ok_bind, expect_ok q, ok_bind, b4, ok_bind, expect_ok r, ok_bind, noteAll_append]
      simp only [List.length_cons, List.length_append, List.length_nil, List.append_assoc, List.cons_append, List.nil_append]
      rw [show i + 1 + w.length + 1 + w2.length + 1 = i + (w.length + (w2.length + (0 + 1) + 1) + 1) by omega]
end
end Lv
namespace Lv
open PySem PySem.Spec PyProof.Rows L2
section
variable {ts : List Tk} {n d i p : Nat} {ds : List Nat} {tw : Option (List Nat)} {z : List Nat}
/-- what begins with a word or mark and is tight -/
theorem tight {h : Nat} {t : Tr} {w r : Ws} {ns : List Ws} {a : List Nat} {sg : List Nat} (ew : w = a :: r) (ha : a ∈ WM) (h0 : (aheadN.lookup a).getD 0 = 0) (hp : 1 ≤ p) (hd : d + h ≤ 13) (hh : 1 ≤ h) (hs : Seg ts i w) (hx : Nx ts (i + w.length) z) (hl : ds.length < 400000)
    (h1 : ∀ x ∈ sg, x + 1 ≤ d + h) (h2 : sg.length + 2 ≤ 2 * w.length) (g : gRest ts (exN ts n).1 (exN ts n).2 d a ⟨i, ds ++ [d], tw⟩ = .ok t ⟨i + w.length, ds ++ [d] ++ sg, noteAll ns tw⟩) :
    ∃ (sg : List Nat) (k : Nat), sg ≠ [] ∧ (∀ x ∈ sg, x + 1 ≤ d + h) ∧ sg.length + 1 ≤ 2 * w.length ∧ ts.length + 1 ≤ k + w.length ∧
      gExpr ts (exN ts n).1 (exN ts n).2 p d ⟨i, ds, tw⟩ = gExprGo ts (exN ts n).1 p d ds.length k t 9 z ⟨i + w.length, ds ++ sg, noteAll ns tw⟩ := by
  have hs' := hs
  rw [ew] at hs'
  have nf := hs'.nx
  rw [wm_fx a ha] at nf
  refine ⟨d :: sg, ts.length + 1, List.cons_ne_nil _ _, fun x hx => ?_, by rw [List.length_cons]; omega, by omega, ?_⟩
  · rcases List.mem_cons.mp hx with rfl | hx
    · omega
    · exact h1 x hx
  · refine of_opening ?_ hx (by omega) hl
    refine opening_prim nf (by omega) ?_
    rw [prim_rest hs' ha, g, List.append_assoc]
    rfl
/-- one token that is no word or mark -/
theorem leaf {h : Nat} {t : Tr} {a : List Nat} (hp : 1 ≤ p) (hd : d + (h + 1) ≤ 13) (hs : Seg ts i [a]) (hx : Nx ts (i + 1) z) (hl : ds.length < 400000) (hf : fx a = []) (g : ∀ q ds, ts[i]? = some ((tk a).1, (tk a).2, q) → gPrimary ts (exN ts n).1 (exN ts n).2 d ⟨i, ds, tw⟩ = .ok t ⟨i + 1, ds, tw⟩) :
    ∃ (sg : List Nat) (k : Nat), sg ≠ [] ∧ (∀ x ∈ sg, x + 1 ≤ d + (h + 1)) ∧ sg.length + 1 ≤ 2 * [a].length ∧ ts.length + 1 ≤ k + [a].length ∧
      gExpr ts (exN ts n).1 (exN ts n).2 p d ⟨i, ds, tw⟩ = gExprGo ts (exN ts n).1 p d ds.length k t 9 z ⟨i + [a].length, ds ++ sg, noteAll [] tw⟩ := by
  have nf := hs.nx
  rw [hf] at nf
  obtain ⟨⟨q, h1⟩, _⟩ := hs
  refine ⟨[d], ts.length + 1, List.cons_ne_nil _ _, fun x hx => by rw [List.mem_singleton.mp hx]; omega, Nat.le_refl _, by omega, ?_⟩
  exact of_opening (opening_prim nf (show 0 < p by omega) (g q _ h1)) hx (by omega) hl
theorem eg_step {h : Nat} (G : EGood ts h) (E : EDone ts h) (B : BDone ts h) : EGood ts (h + 1) := by
  intro lv t w ns e n p d i ds tw z hn hp hpl hd hs hx hz hl
  cases e with
  | @num _ a x e =>
    exact leaf hp hd hs hx (by simp at hl; omega) (fx_kind e (by decide +kernel) (by decide +kernel)) fun q ds hq => by
      rw [e] at hq
      exact prim_plain hq (.inl rfl)
  | @text _ a b e =>
    exact leaf hp hd hs hx (by simp at hl; omega) (fx_kind e (by decide +kernel) (by decide +kernel)) fun q ds hq => by
      rw [e] at hq
      rw [prim_plain hq (.inr rfl)]
      show Res.ok (Tr.t [str "plain", .s (⟨b.toArray⟩ : Str).cps.toList]) _ = _
      rw [show (⟨b.toArray⟩ : Str).cps.toList = b from txtV_T' b]
  | @name _ a e =>
    exact leaf hp hd hs hx (by simp at hl; omega) (nm_fx e) fun q ds hq => by
      rw [e] at hq
      rw [prim_name hq]
      show Res.ok (Tr.t [str "name", .s (⟨a.toArray⟩ : Str).cps.toList]) _ = _
      rw [show (⟨a.toArray⟩ : Str).cps.toList = a from txtV_T' a]
  | @word _ a v e =>
    have nf := hs.nx
    have key : ∀ b ∈ [cds "none", cds "true", cds "false"], b ∈ WM ∧ (aheadN.lookup b).getD 0 = 0 ∧ b ≠ cds "{" ∧ b ≠ cds "super" ∧ b ≠ cds "(" ∧ b ≠ cds "new" ∧ b ≠ cds "self" := by decide +kernel
    have ha : a ∈ [cds "none", cds "true", cds "false"] := by
      rcases plain_cases e with rfl | rfl | rfl <;> decide +kernel
    obtain ⟨k1, k2, k3, k4, k5, k6, k7⟩ := key a ha
    rw [wm_fx a k1] at nf
    refine tight (sg := []) (h := h + 1) rfl k1 k2 hp hd (by omega) hs hx (by simp at hl; omega) (fun x hx => absurd hx List.not_mem_nil) (by simp) ?_
    unfold gRest
    rw [if_neg k3, if_neg k4, accept_no nf k5, ok_bind, if_neg Bool.false_ne_true, accept_no nf k6, ok_bind, if_neg Bool.false_ne_true, accept_no nf k7, ok_bind, if_neg Bool.false_ne_true, e]
    show (rExpect ts a _).bind _ = _
    rw [expect_ok nf, ok_bind, List.append_nil]
    rfl
  | self =>
    have nf := hs.nx
    rw [wm_fx _ (by decide +kernel)] at nf
    refine tight (sg := []) (h := h + 1) rfl (by decide +kernel) (by decide +kernel) hp hd (by omega) hs hx (by simp at hl; omega) (fun x hx => absurd hx List.not_mem_nil) (by simp) ?_
    unfold gRest
    rw [if_neg (by decide +kernel), if_neg (by decide +kernel), accept_no nf (by decide +kernel), ok_bind, if_neg Bool.false_ne_true, accept_no nf (by decide +kernel), ok_bind, if_neg Bool.false_ne_true, accept_yes nf, ok_bind, if_pos rfl, List.append_nil]
    rfl
  | @new _ a e =>
    have nf := hs.nx
    rw [wm_fx _ (by decide +kernel)] at nf
    obtain ⟨⟨q, hq⟩, _⟩ := hs.2
    rw [e] at hq
    refine tight (sg := []) (h := h + 1) rfl (by decide +kernel) (by decide +kernel) hp hd (by omega) hs hx (by simp at hl; omega) (fun x hx => absurd hx List.not_mem_nil) (by simp) ?_
    unfold gRest
    rw [if_neg (by decide +kernel), if_neg (by decide +kernel), accept_no nf (by decide +kernel), ok_bind, if_neg Bool.false_ne_true, accept_yes nf, ok_bind, if_pos rfl, take_ok hq, ok_bind, List.append_nil]
    show Res.ok (Tr.t [str "new", .s (⟨a.toArray⟩ : Str).cps.toList]) _ = _
    rw [show (⟨a.toArray⟩ : Str).cps.toList = a from txtV_T' a]
    rfl
  | @par lv1 _ t w ns h1 e =>
    simp only [List.length_cons, List.length_append, List.length_nil] at hl
    have nf := hs.nx
    rw [wm_fx _ (by decide +kernel)] at nf
    obtain ⟨s1, s2⟩ := seg_append.mp hs.2
    have q := s2.nx
    rw [wm_fx _ (by decide +kernel)] at q
    obtain ⟨sg, g1, g2, g3, g4⟩ := E e (n := n) (p := 1) (d := d + 1) (i := i + 1) (ds := ds ++ [d]) (tw := tw) hn (Nat.le_refl _) h1 (by omega) s1 q (by decide +kernel) (by rw [List.length_append]; show ds.length + 1 + _ ≤ _; omega)
    refine tight (sg := sg) (h := h + 1) rfl (by decide +kernel) (by decide +kernel) hp hd (by omega) hs hx (by omega) (fun x hx => by have := g2 x hx; omega) (by simp only [List.length_cons, List.length_append, List.length_nil]; omega) ?_
    unfold gRest
    rw [if_neg (by decide +kernel), if_neg (by decide +kernel), accept_yes nf, ok_bind, if_pos rfl, g4, ok_bind, expect_ok q, ok_bind]
    simp only [List.length_cons, List.length_append, List.length_nil]
    rw [show i + 1 + w.length + 1 = i + (w.length + (0 + 1) + 1) by omega]
  | @neg lv1 _ t w ns h1 e =>
    rw [List.length_cons] at hl hx
    have nf := hs.nx
    rw [wm_fx _ (by decide +kernel)] at nf
    have hz7 : levB z < 7 := by have := (levB_ne z).2; omega
    obtain ⟨sg, g1, g2, g3, g4⟩ := E e (n := n) (p := 7) (d := d + 1) (i := i + 1) (ds := ds ++ [d]) (tw := tw) hn (by decide) h1 (by omega) hs.2 (by rw [show i + 1 + w.length = i + (w.length + 1) by omega]; exact hx) hz7 (by rw [List.length_append]; show ds.length + 1 + _ ≤ _; omega)
    refine ⟨d :: sg, ts.length + 1, List.cons_ne_nil _ _, fun x hx => ?_, by rw [List.length_cons, List.length_cons]; omega, by omega, ?_⟩
    · rcases List.mem_cons.mp hx with rfl | hx
      · omega
      · have := g2 x hx; omega
    · have la : (aheadN.lookup (cds "-")).getD 0 = 7 := by decide +kernel
      refine of_opening ?_ hx (by omega) (by omega)
      have := opening_ahead (ts := ts) (ex := (exN ts n).1) (bo := (exN ts n).2) (p := p) (d := d) (i := i) (ds := ds ++ [d]) (tw := tw) (nm := cds "neg") nf (by rw [la]; omega) (by decide +kernel) (by rw [la]; exact g4)
      rw [this, la, List.append_assoc, List.length_cons, show i + 1 + w.length = i + (w.length + 1) by omega]
      rfl
  | @not lv1 _ t w ns h1 e =>
    rw [List.length_cons] at hl hx
    have nf := hs.nx
    rw [wm_fx _ (by decide +kernel)] at nf
    have hz7 : levB z < 3 := by have := (levB_ne z).1; omega
    obtain ⟨sg, g1, g2, g3, g4⟩ := E e (n := n) (p := 3) (d := d + 1) (i := i + 1) (ds := ds ++ [d]) (tw := tw) hn (by decide) h1 (by omega) hs.2 (by rw [show i + 1 + w.length = i + (w.length + 1) by omega]; exact hx) hz7 (by rw [List.length_append]; show ds.length + 1 + _ ≤ _; omega)
    refine ⟨d :: sg, ts.length + 1, List.cons_ne_nil _ _, fun x hx => ?_, by rw [List.length_cons, List.length_cons]; omega, by omega, ?_⟩
    · rcases List.mem_cons.mp hx with rfl | hx
      · omega
      · have := g2 x hx; omega
    · have la : (aheadN.lookup (cds "not")).getD 0 = 3 := by decide +kernel
      refine of_opening ?_ hx (by omega) (by omega)
      have := opening_ahead (ts := ts) (ex := (exN ts n).1) (bo := (exN ts n).2) (p := p) (d := d) (i := i) (ds := ds ++ [d]) (tw := tw) (nm := cds "not") nf (by rw [la]; omega) (by decide +kernel) (by rw [la]; exact g4)
      rw [this, la, List.append_assoc, List.length_cons, show i + 1 + w.length = i + (w.length + 1) by omega]
      rfl
  | @bin l lv1 lv2 _ s t1 t2 w1 w2 n1 n2 hb hdot h1 e1 h2 e2 =>
    simp only [List.length_cons, List.length_append] at hl hx
    obtain ⟨sw, sl, l1, l8, l3, l7, _, _, _⟩ := beh_wm hb
    obtain ⟨s1, s2⟩ := seg_append.mp hs
    have q := s2.nx
    rw [wm_fx s sw] at q
    have hll : lv ≤ lv1 := by split at h1 <;> omega
    obtain ⟨sg, k, g1, g2, g3, g4, g5⟩ := G e1 (n := n) (p := p) (d := d) (i := i) (ds := ds) (tw := tw) (z := s) (by omega) hp (by omega) (by omega) s1 q (by omega) (by omega)
    have hw1 : 1 ≤ w1.length := by
      obtain ⟨a, r, ew, _⟩ := ex_hd e1
      rw [ew, List.length_cons]; omega
    have hx2 : Nx ts (i + w1.length + 1 + w2.length) z := by rw [show i + w1.length + 1 + w2.length = i + (w1.length + (w2.length + 1)) by omega]; exact hx
    obtain ⟨sg2, b1, b2, b3, b4⟩ := E e2 (n := n) (p := lv + 1) (d := d + 1) (i := i + w1.length + 1) (ds := ds ++ sg.map (· + 1)) (tw := noteAll n1 tw) hn (by omega) h2 (by omega) s2.2 hx2 (by omega) (by rw [List.length_append, List.length_map]; omega)
    have hk : 1 ≤ k := by
      have := seg_len (w := w1) (i := i) q
      omega
    obtain ⟨k, rfl⟩ : ∃ m, k = m + 1 := ⟨k - 1, by omega⟩
    refine ⟨sg.map (· + 1) ++ sg2, k, by simp [g1], fun x hx => ?_, by simp only [List.length_append, List.length_map, List.length_cons]; omega, by simp only [List.length_append, List.length_cons]; omega, ?_⟩
    · rcases List.mem_append.mp hx with hx | hx
      · obtain ⟨y, hy, rfl⟩ := List.mem_map.mp hx
        have := g2 y hy; omega
      · have := b2 x hx; omega
    · have hgo : goOn s p lv1 = true := by
        unfold goOn
        rw [sl, decide_eq_true hpl]
        by_cases h4 : lv = 4
        · rw [if_pos h4] at h1
          rw [decide_eq_true (show 4 < lv1 by omega)]
          simp
        · simp [h4]
      have hsign : gSign ts (exN ts n).1 s lv d t1 ⟨i + w1.length + 1, ds ++ sg.map (· + 1), noteAll n1 tw⟩ = .ok (binT s t1 t2) ⟨i + w1.length + 1 + w2.length, ds ++ sg.map (· + 1) ++ sg2, noteAll n2 (noteAll n1 tw)⟩ := by
        unfold gSign binT
        rw [if_neg hdot]
        by_cases ha : s = cds "and" ∨ s = cds "or"
        · rw [if_pos ha, if_pos ha, b4, ok_bind]
        · rw [if_neg ha, if_neg ha, b4, ok_bind]
      rw [g5]
      show (if goOn s p lv1 = true then _ else _) = _
      rw [if_pos hgo, deepen_ok g1 (fun x hx => by have := g2 x hx; omega), ok_bind, expect_ok q, ok_bind, hb]
      show (gSign ts (exN ts n).1 s lv d t1 _).bind _ = _
      rw [hsign, ok_bind, fixed0 hx2, ok_bind, noteAll_append, List.append_assoc]
      simp only [List.length_append, List.length_cons]
      rw [show i + w1.length + 1 + w2.length = i + (w1.length + (w2.length + 1)) by omega]
  | @send lv1 _ t w ns x l w2 n2 h8 e hx0 a =>
    simp only [List.length_cons, List.length_append, List.length_nil] at hl hx
    obtain ⟨s1, s2⟩ := seg_append.mp hs
    have q := s2.nx
    rw [wm_fx _ (by decide +kernel)] at q
    have ld : levB (cds ".") = 8 := by decide +kernel
    obtain ⟨sg, k, g1, g2, g3, g4, g5⟩ := G e (n := n) (p := p) (d := d) (i := i) (ds := ds) (tw := tw) (z := cds ".") (by omega) hp (by omega) (by omega) s1 q (by omega) (by omega)
    have hx2 : Nx ts (i + w.length + 1 + 1 + (w2.length + 2)) z := by rw [show i + w.length + 1 + 1 + (w2.length + 2) = i + (w.length + (w2.length + (0 + 1) + 1 + 1 + 1)) by omega]; exact hx
    obtain ⟨sg2, b2, b3, b4⟩ := ar_done (n := n) (d := d + 1) (i := i + w.length + 1 + 1) (ds := ds ++ sg.map (· + 1)) (tw := noteAll ns tw) E a hn (by omega) s2.2.2 (by rw [List.length_append, List.length_map]; omega)
    have hk : 1 ≤ k := by
      have := seg_len (w := w) (i := i) q
      omega
    obtain ⟨k, rfl⟩ : ∃ m, k = m + 1 := ⟨k - 1, by omega⟩
    refine ⟨sg.map (· + 1) ++ sg2, k, by simp [g1], fun x hx => ?_, by simp only [List.length_append, List.length_map, List.length_cons, List.length_nil]; omega, by simp only [List.length_append, List.length_cons, List.length_nil]; omega, ?_⟩
    · rcases List.mem_append.mp hx with hx | hx
      · obtain ⟨y, hy, rfl⟩ := List.mem_map.mp hx
        have := g2 y hy; omega
      · have := b2 x hx; omega
    · have hgo : goOn (cds ".") p lv1 = true := by
        unfold goOn
        rw [ld, decide_eq_true hpl]
        simp
      have hsign : gSign ts (exN ts n).1 (cds ".") 8 d t ⟨i + w.length + 1, ds ++ sg.map (· + 1), noteAll ns tw⟩ = .ok (.t [str "send", t, .s x, .t l]) ⟨i + w.length + 1 + 1 + (w2.length + 2), ds ++ sg.map (· + 1) ++ sg2, noteAll n2 (noteAll ns tw)⟩ := by
        unfold gSign
        rw [if_pos rfl, name_ok s2.2 hx0, ok_bind, b4, ok_bind]
      rw [g5]
      show (if goOn (cds ".") p lv1 = true then _ else _) = _
      rw [if_pos hgo, deepen_ok g1 (fun x hx => by have := g2 x hx; omega), ok_bind, expect_ok q, ok_bind, beh_dot]
      show (gSign ts (exN ts n).1 (cds ".") 8 d t _).bind _ = _
      rw [hsign, ok_bind, fixed0 hx2, ok_bind, noteAll_append, List.append_assoc]
      simp only [List.length_append, List.length_cons, List.length_nil]
      rw [show i + w.length + 1 + 1 + (w2.length + 2) = i + (w.length + (w2.length + (0 + 1) + 1 + 1 + 1)) by omega]
  | @sup _ x l w2 n2 hx0 a =>
    simp only [List.length_cons, List.length_append, List.length_nil] at hl
    have nf := hs.nx
    rw [wm_fx _ (by decide +kernel)] at nf
    have q := hs.2.nx
    rw [wm_fx _ (by decide +kernel)] at q
    obtain ⟨sg2, b2, b3, b4⟩ := ar_done (n := n) (d := d + 1) (i := i + 1 + 1 + 1) (ds := ds ++ [d]) (tw := tw) E a hn (by omega) hs.2.2.2 (by rw [List.length_append]; show ds.length + 1 + _ ≤ _; omega)
    refine tight (sg := sg2) (h := h + 1) rfl (by decide +kernel) (by decide +kernel) hp hd (by omega) hs hx (by omega) (fun x hx => by have := b2 x hx; omega) (by simp only [List.length_cons, List.length_append, List.length_nil]; omega) ?_
    unfold gRest
    rw [if_neg (by decide +kernel), if_pos rfl]
    unfold gSuper
    rw [expect_ok nf, ok_bind, expect_ok q, ok_bind, name_ok hs.2.2 hx0, ok_bind, b4, ok_bind]
    simp only [List.length_cons, List.length_append, List.length_nil]
    rw [show i + 1 + 1 + 1 + (w2.length + 2) = i + (w2.length + (0 + 1) + 1 + 1 + 1 + 1) by omega]
  | @blk0 _ l w ns b =>
    simp only [List.length_cons, List.length_append, List.length_nil] at hl
    have nf := hs.nx
    rw [wm_fx _ (by decide +kernel)] at nf
    obtain ⟨s1, s2⟩ := seg_append.mp hs.2
    have q := s2.nx
    rw [wm_fx _ (by decide +kernel)] at q
    obtain ⟨sg, b2, b3, b4⟩ := B b (n := n) (d := d + 1) (i := i + 1) (ms := [cds "}"]) (ds := ds ++ [d]) (tw := tw) (z := cds "}") hn (by decide +kernel) (by decide +kernel) (by omega) s1 q (by rw [List.length_append]; show ds.length + 1 + _ ≤ _; omega)
    have hbef : rBefore ts [cds ",", cds "|"] ⟨i + 1, ds ++ [d], tw⟩ = .ok false ⟨i + 1, ds ++ [d], tw⟩ := by
      cases b with
      | nil => exact before_no hs.2 (wm_kind _ (by decide +kernel)).2.2
      | @cons _ t w1 n1 l w2 n2 e1 e2 =>
        obtain ⟨a, r, ew, hf, hnm⟩ := st_hd e1
        by_cases hk : (tk a).1 = cds "name"
        · have s1' := s1
          rw [ew] at s1'
          rcases hnm hk with rfl | ⟨b, r', rfl, hb⟩
          · have n2x : Nx ts (i + 1 + 1) (if l = [] then cds "}" else cds ";") := by
              cases e2 with
              | nil =>
                rw [if_pos rfl]
                rw [ew] at q
                exact q
              | cons _ _ =>
                rw [if_neg (List.cons_ne_nil _ _)]
                have := s1'.2.nx
                rw [wm_fx _ (by decide +kernel)] at this
                exact this
            rw [before_is s1' hk n2x]
            have : decide ((if l = [] then cds "}" else cds ";") ∈ [cds ",", cds "|"]) = false := by split <;> decide +kernel
            rw [this]
          · rw [before_is s1' hk s1'.2.nx, decide_eq_false hb]
        · rw [ew] at s1
          exact before_no s1 hk
    refine tight (sg := sg) (h := h + 1) rfl (by decide +kernel) (by decide +kernel) hp hd (by omega) hs hx (by omega) (fun x hx => by have := b2 x hx; omega) (by simp only [List.length_cons, List.length_append, List.length_nil]; omega) ?_
    unfold gRest
    rw [if_pos rfl]
    unfold gBlock
    rw [expect_ok nf, ok_bind, hbef, ok_bind, if_neg Bool.false_ne_true, b4, ok_bind, expect_ok q, ok_bind]
    simp only [List.length_cons, List.length_append, List.length_nil]
    rw [show i + 1 + w.length + 1 = i + (w.length + (0 + 1) + 1) by omega]
  | @blk _ ps l w ns hps h4 hnm b =>
    simp only [List.length_cons, List.length_append, List.length_nil] at hl
    have nf := hs.nx
    rw [wm_fx _ (by decide +kernel)] at nf
    obtain ⟨s1, s2⟩ := seg_append.mp hs.2
    have q := s2.nx
    rw [wm_fx _ (by decide +kernel)] at q
    obtain ⟨s3, s4⟩ := seg_append.mp s2.2
    have r := s4.nx
    rw [wm_fx _ (by decide +kernel)] at r
    have cl := commas_len hps
    obtain ⟨sg, b2, b3, b4⟩ := B b (n := n) (d := d + 1) (i := i + 1 + (commas ps).length + 1) (ms := [cds "}"]) (ds := ds ++ [d]) (tw := twGo ps tw ps.length) (z := cds "}") hn (by decide +kernel) (by decide +kernel) (by omega) s3 r (by rw [List.length_append]; show ds.length + 1 + _ ≤ _; omega)
    have hbef : rBefore ts [cds ",", cds "|"] ⟨i + 1, ds ++ [d], tw⟩ = .ok true ⟨i + 1, ds ++ [d], tw⟩ := by
      cases ps with
      | nil => exact absurd rfl hps
      | cons a ps =>
        have hk : (tk a).1 = cds "name" := by rw [hnm a List.mem_cons_self]
        cases ps with
        | nil =>
          have e : decide (cds "|" ∈ [cds ",", cds "|"]) = true := by decide +kernel
          rw [before_is s1 hk (show Nx ts (i + 1 + 1) (cds "|") from q), e]
        | cons c ps =>
          have e : decide (cds "," ∈ [cds ",", cds "|"]) = true := by decide +kernel
          have s1' : Seg ts (i + 1) (a :: cds "," :: commas (c :: ps)) := s1
          have q2 := s1'.2.nx
          rw [wm_fx _ (by decide +kernel)] at q2
          rw [before_is s1' hk q2, e]
    refine tight (sg := sg) (h := h + 1) rfl (by decide +kernel) (by decide +kernel) hp hd (by omega) hs hx (by omega) (fun x hx => by have := b2 x hx; omega) (by simp only [List.length_cons, List.length_append, List.length_nil]; omega) ?_
    unfold gRest
    rw [if_pos rfl]
    unfold gBlock
    rw [expect_ok nf, ok_bind, hbef, ok_bind, if_pos rfl, names_done hps hnm s1 q (by decide +kernel) h4, ok_bind, expect_ok q, ok_bind]
    show (rNote ps _).bind _ = _
    unfold rNote
    rw [ok_bind, b4, ok_bind, expect_ok r, ok_bind]
    simp only [List.length_cons, List.length_append, List.length_nil]
    rw [show i + 1 + (commas ps).length + 1 + w.length + 1 = i + ((commas ps).length + (w.length + (0 + 1) + 1) + 1) by omega]
    rfl
theorem all_good (ts : List Tk) : ∀ h, EGood ts h ∧ SDone ts h
  | 0 => by
    refine ⟨?_, ?_⟩
    · intro lv t w ns e; cases e
    · intro t w ns e; cases e
  | h + 1 => by
    obtain ⟨g, s⟩ := all_good ts h
    exact ⟨eg_step g g.done s.body, sd_step g.done s.body⟩
end
end Lv
/-! Tokens as they are written, and their reading. -/
namespace Lv
open PySem PySem.Spec PyProof.Rows L2
open TL (numL tl_num numL_digits numL_ne numL_val numL_len numL_lt numL_step)
/-- first letter of these, then letters and digits, 20 signs at most -/
def RunOf (fs a : List Nat) : Prop := ∃ c r, a = c :: r ∧ c ∈ fs ∧ (∀ d ∈ r, d ∈ aJ) ∧ r.length ≤ 19
/-- a name, a class name -/
def IsName (a : List Nat) : Prop := RunOf aLow a ∧ a ∉ WL
def IsClass (a : List Nat) : Prop := RunOf aUp a
/-- the signs of a text between quotes -/
abbrev aTxt : List Nat := cds " !\"#$&()*+,-./0123456789:;<=>?@ABCDEFGHIJKLMNOPQRSTUVWXYZ[\\]^_`abcdefghijklmnopqrstuvwxyz{|}~"
theorem len_aTxt : aTxt.length = 93 := by decide +kernel
def IsText (a : List Nat) : Prop := (∀ d ∈ a, d ∈ aTxt) ∧ a.length ≤ 200
theorem word_name {a : List Nat} (h : a ∈ WL) : IsName (a ++ [49]) := by
  refine ⟨?_, WL_one a h⟩
  obtain ⟨c, r, rfl, hc, hr⟩ := WL_form a h
  refine ⟨c, r ++ [49], rfl, hc, fun d hd => ?_, ?_⟩
  · rcases List.mem_append.mp hd with hd | hd
    · exact hr d hd
    · rw [List.mem_singleton.mp hd]
      decide +kernel
  · have := WL_len _ h
    rw [List.length_cons] at this
    rw [List.length_append]
    simp
    omega
theorem RunOf.len {fs a : List Nat} (h : RunOf fs a) : a.length ≤ 20 := by
  obtain ⟨c, r, rfl, _, _, h⟩ := h
  rw [List.length_cons]
  omega

/-- two tokens that would be read as one -/
def touch (b t : List Nat) : Bool := if b = [] then false else if b = [60] then decide (t.head? = some 61) else (match b.getLast?, t.head? with | some c, some d => decide (c ∈ aJ) && decide (d ∈ aJ) | _, _ => false)
theorem at_zero {c : Nat} {r : List Nat} : atI (c :: r) 0 = some c := atI_nat (xs := c :: r) (j := 0) rfl

inductive Drawn : List Nat → V → List Nat → Prop
  | mark {m : List Nat} : m ∈ MLs → Drawn (cds "mark") (T m) m
  | number {n : Nat} : n ≤ 1000000000 → Drawn (cds "number") (.int n) (numL n)
  | word {a : List Nat} : a ∈ WL → Drawn (cds "word") (T a) a
  | cls {a : List Nat} : IsClass a → Drawn (cds "class") (T a) a
  | text {a : List Nat} : IsText a → Drawn (cds "text") (T a) (39 :: (a ++ [39]))
  | name {a : List Nat} : IsName a → Drawn (cds "name") (T a) a
theorem endTx_some' {r : List Nat} (h1 : (upQ r).length < r.length) (h2 : (upQ r).length ≤ 200) (h3 : (upQ r).all srcC = true) : endTx r = some (upQ r) := by
  unfold endTx
  rw [if_pos]
  rw [Bool.and_eq_true, Bool.and_eq_true, decide_eq_true_iff, decide_eq_true_iff]
  exact ⟨⟨h1, h2⟩, h3⟩

/-! ### a drawn token is read as itself -/
theorem MLs_eq : MLs = [[58, 61], [60, 61], [40], [41], [123], [125], [44], [59], [46], [124], [61], [60], [43], [45], [42], [47]] := by decide +kernel
/-- where the token may end -/
def Apart (t rest : List Nat) : Prop := rest = [] ∨ touch t rest = false
theorem touch_head (b : List Nat) (d : Nat) (r r' : List Nat) : touch b (d :: r) = touch b (d :: r') := by
  unfold touch
  rfl
theorem touch_space (b r : List Nat) : touch b (32 :: r) = false := by
  unfold touch
  by_cases h : b = []
  · rw [if_pos h]
  · rw [if_neg h]
    by_cases h2 : b = [60]
    · rw [if_pos h2]; exact (by decide : decide (some (32 : Nat) = some 61) = false)
    · rw [if_neg h2, List.head?_cons]
      cases hb : b.getLast? with
      | none => rfl
      | some c =>
        have : decide (32 ∈ aJ) = false := by decide +kernel
        show (decide (c ∈ aJ) && decide (32 ∈ aJ)) = false
        rw [this, Bool.and_false]
/-- letters and digits, nothing of them behind -/
theorem tw_run {t rest : List Nat} (hne : t ≠ []) (hJ : ∀ c ∈ t, c ∈ aJ) (h : Apart t rest) : (t ++ rest).takeWhile letC = t := by
  have hall : ∀ c ∈ t, letC c = true := fun c hc => decide_eq_true (hJ c hc)
  rw [List.takeWhile_append_of_pos hall]
  have : rest.takeWhile letC = [] := by
    cases rest with
    | nil => rfl
    | cons d r =>
      rcases h with h | h
      · cases h
      · rw [List.takeWhile_cons, if_neg]
        intro hd
        unfold touch at h
        rw [if_neg hne] at h
        have h60 : ¬ t = [60] := fun e => by
          have := hJ 60 (by rw [e]; simp)
          exact absurd this (by decide +kernel)
        rw [if_neg h60, List.head?_cons, List.getLast?_eq_some_getLast hne] at h
        have h1 : decide (t.getLast hne ∈ aJ) = true := decide_eq_true (hJ _ (List.getLast_mem hne))
        have h2 : (decide (t.getLast hne ∈ aJ) && decide (d ∈ aJ)) = false := h
        rw [h1, Bool.true_and] at h2
        have h3 : decide (d ∈ aJ) = true := hd
        rw [h2] at h3; cases h3
  rw [this, List.append_nil]
theorem low_facts : ∀ c ∈ aLow, digC c = false ∧ c ∉ aUp ∧ c ∈ aJ ∧ c ≠ 39 ∧ c ≠ 32 := by decide +kernel
theorem up_facts : ∀ c ∈ aUp, digC c = false ∧ c ∈ aJ ∧ c ≠ 39 ∧ c ≠ 32 := by decide +kernel
theorem txt_facts : ∀ c ∈ aTxt, srcC c = true ∧ c ≠ 39 := by decide +kernel
theorem numL_head {n : Nat} (h : 0 < n) : (numL n).headD 0 ≠ 48 := by
  induction n using Nat.strongRecOn with
  | _ n ih =>
    by_cases hn : n < 10
    · rw [numL_lt hn]
      show 48 + n ≠ 48
      omega
    · rw [numL_step (by omega)]
      have := ih (n / 10) (by omega) (by omega)
      cases e : numL (n / 10) with
      | nil => exact absurd e (numL_ne _)
      | cons c r =>
        rw [e] at this
        exact this
theorem numRun_num {n : Nat} (h : n ≤ 1000000000) : numRun (numL n) = some n := by
  unfold numRun
  rw [numL_val, if_pos]
  have hd : (numL n).all digC = true := List.all_eq_true.mpr fun c hc => by
    have := numL_digits n c hc
    unfold digC
    rw [Bool.and_eq_true, decide_eq_true_iff, decide_eq_true_iff]
    exact this
  have hlen : (numL n).length ≤ 10 := numL_len (by decide) (by omega)
  rw [Bool.and_eq_true, Bool.and_eq_true, Bool.and_eq_true, decide_eq_true_iff, decide_eq_true_iff]
  refine ⟨⟨⟨hd, ?_⟩, hlen⟩, h⟩
  by_cases h0 : 0 < n
  · rw [decide_eq_false (numL_head h0)]; rfl
  · have : n = 0 := by omega
    subst this
    rw [numL_lt (by decide)]; rfl
theorem runOne {t rest : List Nat} {k : List Nat} {v : V} (hne : t ≠ []) (hJ : ∀ c ∈ t, c ∈ aJ) (h : Apart t rest) (e : ofRun t = some (k, v)) (h39 : t.headD 0 ≠ 39) : one (t ++ rest) = some (k, v, t.length) := by
  obtain ⟨c, r, rfl⟩ : ∃ c r, t = c :: r := by
    cases t with
    | nil => exact absurd rfl hne
    | cons c r => exact ⟨c, r, rfl⟩
  have htw := tw_run hne hJ h
  rw [List.cons_append] at htw ⊢
  have hc : letC c = true := decide_eq_true (hJ c (List.mem_cons_self))
  rw [one_cons, if_neg (show ¬ c = 39 from h39), if_pos hc, htw, e]
  rfl
theorem drawn_one {k t rest : List Nat} {v : V} (d : Drawn k v t) (h : Apart t rest) : one (t ++ rest) = some (k, v, t.length) ∧ ∃ c r, t = c :: r ∧ c ≠ 32 := by
  cases d with
  | mark hm =>
    have two : ∀ c : Nat, c ≠ 39 → letC c = false → ∀ r m, (MLs.find? fun m => m.isPrefixOf (c :: r)) = some m → one (c :: r) = some (cds "mark", T m, m.length) := fun c h1 h2 r m h3 => by
      rw [one_cons, if_neg h1, if_neg (by rw [h2]; exact Bool.false_ne_true), h3]
      rfl
    have hL : ∀ c ∈ [58, 60, 40, 41, 123, 125, 44, 59, 46, 124, 61, 43, 45, 42, 47], c ≠ 39 ∧ letC c = false ∧ c ≠ 32 := by decide +kernel
    rw [MLs_eq] at hm
    simp only [List.mem_cons, List.not_mem_nil, or_false] at hm
    rcases hm with rfl | rfl | rfl | rfl | rfl | rfl | rfl | rfl | rfl | rfl | rfl | rfl | rfl | rfl | rfl | rfl
    all_goals
      refine ⟨?_, _, _, rfl, by decide⟩
      refine two _ (by decide) (by decide +kernel) _ _ ?_
      rw [MLs_eq]
    case inr.inr.inr.inr.inr.inr.inr.inr.inr.inr.inr.inl =>
      cases rest with
      | nil => simp [List.find?, List.isPrefixOf]
      | cons d r =>
        have : ¬ d = 61 := fun e => by
          rcases h with h | h
          · cases h
          · rw [e] at h
            unfold touch at h
            rw [if_neg (by simp), if_pos rfl] at h
            simp at h
        have h2 : ((61 : Nat) == d) = false := by
          refine beq_eq_false_iff_ne.mpr fun e => this e.symm
        simp [List.find?, List.isPrefixOf, h2]
    all_goals simp [List.find?, List.isPrefixOf]
  | @number n hn =>
    have hJ : ∀ c ∈ numL n, c ∈ aJ := fun c hc => by
      have := numL_digits n c hc
      have hd : digC c = true := by unfold digC; rw [Bool.and_eq_true, decide_eq_true_iff, decide_eq_true_iff]; exact this
      exact of_decide_eq_true (dig_let hd)
    obtain ⟨c, r, e⟩ : ∃ c r, numL n = c :: r := by
      cases e : numL n with
      | nil => exact absurd e (numL_ne n)
      | cons c r => exact ⟨c, r, rfl⟩
    have hc := numL_digits n c (by rw [e]; exact List.mem_cons_self)
    refine ⟨runOne (numL_ne n) hJ h ?_ (by rw [e]; show c ≠ 39; omega), c, r, e, by omega⟩
    unfold ofRun
    rw [if_pos (by rw [e]; show digC c = true; unfold digC; rw [Bool.and_eq_true, decide_eq_true_iff, decide_eq_true_iff]; exact hc), numRun_num hn]
    rfl
  | word ha =>
    obtain ⟨c, r, rfl, hc, hr⟩ := WL_form _ ha
    obtain ⟨f1, f2, f3, f4, f5⟩ := low_facts c hc
    refine ⟨runOne (List.cons_ne_nil _ _) (fun d hd => by rcases List.mem_cons.mp hd with rfl | hd; exact f3; exact hr d hd) h ?_ f4, c, r, rfl, f5⟩
    have := WL_len _ ha
    unfold ofRun
    rw [List.headD_cons, if_neg (by rw [f1]; exact Bool.false_ne_true), if_neg (by omega), if_neg f2, if_pos ha]
  | cls ha =>
    have hl := RunOf.len ha
    obtain ⟨c, r, rfl, hc, hr, _⟩ := ha
    obtain ⟨f1, f3, f4, f5⟩ := up_facts c hc
    refine ⟨runOne (List.cons_ne_nil _ _) (fun d hd => by rcases List.mem_cons.mp hd with rfl | hd; exact f3; exact hr d hd) h ?_ f4, c, r, rfl, f5⟩
    unfold ofRun
    rw [List.headD_cons, if_neg (by rw [f1]; exact Bool.false_ne_true), if_neg (by omega), if_pos hc]
  | name ha =>
    have hl := RunOf.len ha.1
    have hw := ha.2
    obtain ⟨c, r, rfl, hc, hr, _⟩ := ha.1
    obtain ⟨f1, f2, f3, f4, f5⟩ := low_facts c hc
    refine ⟨runOne (List.cons_ne_nil _ _) (fun d hd => by rcases List.mem_cons.mp hd with rfl | hd; exact f3; exact hr d hd) h ?_ f4, c, r, rfl, f5⟩
    unfold ofRun
    rw [List.headD_cons, if_neg (by rw [f1]; exact Bool.false_ne_true), if_neg (by omega), if_neg f2, if_neg hw]
  | @text a ha =>
    refine ⟨?_, 39, a ++ [39], rfl, by decide⟩
    have hu : upQ (a ++ 39 :: rest) = a := by
      unfold upQ
      rw [List.takeWhile_append_of_pos (fun c hc => by have := (txt_facts c (ha.1 c hc)).2; simpa using this)]
      simp
    have e1 : 39 :: (a ++ [39]) ++ rest = 39 :: (a ++ 39 :: rest) := by simp
    rw [e1, one_cons, if_pos rfl, endTx_some' (by rw [hu]; simp) (by rw [hu]; exact ha.2) (by rw [hu]; exact List.all_eq_true.mpr fun c hc => (txt_facts c (ha.1 c hc)).1), hu]
    simp

/-! ### the text as it grows -/
def Grown (cs : List Nat) (due : List Tk) (b : List Nat) : Prop := ∀ rest, Apart b rest → lex 0 (cs ++ rest) = (due ++ (lex cs.length rest).1, (lex cs.length rest).2)
theorem lex_spaces : ∀ (n pos : Nat) (r : List Nat), lex pos (List.replicate n 32 ++ r) = lex (pos + n) r
  | 0, _, _ => rfl
  | n + 1, pos, r => by
    rw [List.replicate_succ, List.cons_append, lex_sp, lex_spaces n (pos + 1) r]
    congr 1
    omega
theorem grown_start (n : Nat) : Grown (List.replicate n 32) [] [] := fun rest _ => by
  rw [lex_spaces, List.length_replicate, Nat.zero_add]
  rfl
theorem apart_gap {b t rest : List Nat} {n : Nat} {c : Nat} {r : List Nat} (ht : t = c :: r) (hg : touch b t = true → 1 ≤ n) : Apart b (List.replicate n 32 ++ t ++ rest) := by
  subst ht
  cases n with
  | zero =>
    refine .inr ?_
    show touch b (c :: (r ++ rest)) = false
    rw [touch_head b c _ r]
    cases h : touch b (c :: r) with
    | false => rfl
    | true => exact absurd (hg h) (by decide)
  | succ n => exact .inr (touch_space _ _)
theorem grown_step {cs : List Nat} {due : List Tk} {b k t : List Nat} {v : V} {n : Nat} (g : Grown cs due b) (d : Drawn k v t) (hg : touch b t = true → 1 ≤ n) :
    Grown (cs ++ List.replicate n 32 ++ t) (due ++ [(k, v, cs.length + n)]) t := fun rest hr => by
  obtain ⟨e1, c, r, ht, hc⟩ := drawn_one d hr
  have ha : Apart b (List.replicate n 32 ++ t ++ rest) := apart_gap ht hg
  have e2 := g _ ha
  have e3 : cs ++ List.replicate n 32 ++ t ++ rest = cs ++ (List.replicate n 32 ++ t ++ rest) := by simp
  rw [e3, e2, List.append_assoc (List.replicate n 32), lex_spaces]
  subst ht
  rw [List.cons_append] at e1 ⊢
  rw [lex_tok hc e1]
  have e4 : (r ++ rest).drop ((c :: r).length - 1) = rest := by
    rw [List.length_cons, Nat.add_sub_cancel, List.drop_left]
  have e5 : (cs ++ List.replicate n 32 ++ c :: r).length = cs.length + n + (c :: r).length := by
    rw [List.length_append, List.length_append, List.length_replicate]
  rw [e4, e5, List.append_assoc]
  rfl
theorem grown_end {cs : List Nat} {due : List Tk} {b : List Nat} (g : Grown cs due b) (n : Nat) : lex 0 (cs ++ List.replicate n 32) = (due, none) := by
  have ha : Apart b (List.replicate n 32) := by
    cases n with
    | zero => exact .inl rfl
    | succ n => exact .inr (touch_space _ _)
  have := lex_spaces n cs.length []
  rw [List.append_nil, lex_nil] at this
  rw [g _ ha, this, List.append_nil]
theorem Drawn.len {k t : List Nat} {v : V} (d : Drawn k v t) : t.length ≤ 202 ∧ k.length ≤ 10 ∧ ((∃ a : List Nat, v = T a ∧ (∀ c ∈ a, c < 128)) ∨ ∃ i : Int, v = .int i) ∧ (∀ c ∈ k, c < 128) := by
  cases d with
  | mark hm =>
    have h1 : ∀ m ∈ MLs, m.length ≤ 2 ∧ ∀ c ∈ m, c < 128 := by decide +kernel
    have := h1 _ hm
    exact ⟨by omega, by decide +kernel, .inl ⟨_, rfl, this.2⟩, by decide +kernel⟩
  | @number n hn =>
    have hlen : (numL n).length ≤ 10 := numL_len (by decide) (by omega)
    exact ⟨by omega, by decide +kernel, .inr ⟨_, rfl⟩, by decide +kernel⟩
  | word ha =>
    have := WL_len _ ha
    have h1 : ∀ m ∈ WL, ∀ c ∈ m, c < 128 := by decide +kernel
    exact ⟨by omega, by decide +kernel, .inl ⟨_, rfl, h1 _ ha⟩, by decide +kernel⟩
  | cls ha =>
    have := RunOf.len ha
    obtain ⟨c, r, rfl, hc, hr, _⟩ := ha
    refine ⟨by omega, by decide +kernel, .inl ⟨_, rfl, fun d hd => aJ_ascii d ?_⟩, by decide +kernel⟩
    rcases List.mem_cons.mp hd with rfl | hd
    · exact (up_facts _ hc).2.1
    · exact hr d hd
  | name ha =>
    have := RunOf.len ha.1
    obtain ⟨c, r, rfl, hc, hr, _⟩ := ha.1
    refine ⟨by omega, by decide +kernel, .inl ⟨_, rfl, fun d hd => aJ_ascii d ?_⟩, by decide +kernel⟩
    rcases List.mem_cons.mp hd with rfl | hd
    · exact (low_facts _ hc).2.2.1
    · exact hr d hd
  | text ha =>
    have := ha.2
    have h1 : ∀ c ∈ aTxt, c < 128 := by decide +kernel
    refine ⟨?_, by decide +kernel, .inl ⟨_, rfl, fun d hd => h1 d (ha.1 d hd)⟩, by decide +kernel⟩
    rw [List.length_cons, List.length_append]
    simp
    omega
end Lv

/-! Written rows of tokens, and their reading. -/
namespace Lv
open PySem PySem.Spec PyProof.Rows L2
open TL (numL tl_num numL_digits numL_ne numL_val numL_len numL_lt numL_step)
theorem drawn_tk {k a : List Nat} {v : V} (d : Drawn k v a) : tk a = (k, v) := by
  have h := (drawn_one (rest := []) d (.inl rfl)).1
  rw [List.append_nil] at h
  unfold tk
  rw [h]
/-- a token as it is written -/
def Tok (a : List Nat) : Prop := ∃ k v, Drawn k v a
theorem Tok.ne {a : List Nat} (h : Tok a) : a ≠ [] ∧ a.length ≤ 202 := by
  obtain ⟨k, v, d⟩ := h
  obtain ⟨_, c, r, e, _⟩ := drawn_one (rest := []) d (.inl rfl)
  exact ⟨by rw [e]; exact List.cons_ne_nil _ _, d.len.1⟩
theorem name_nm {a : List Nat} (h : IsName a) : isNm a := drawn_tk (.name h)
theorem name_tok {a : List Nat} (h : IsName a) : Tok a := ⟨_, _, .name h⟩
theorem wm_tok : ∀ a ∈ WM, Tok a := by
  have key : ∀ a ∈ WM, a ∈ WL ∨ a ∈ MLs := by decide +kernel
  intro a ha
  rcases key a ha with h | h
  · exact ⟨_, _, .word h⟩
  · exact ⟨_, _, .mark h⟩
/-- what is written of a row: three signs more for each token -/
def wt : Ws → Nat
  | [] => 0
  | a :: w => a.length + 3 + wt w
theorem wt_append : ∀ u v : Ws, wt (u ++ v) = wt u + wt v
  | [], v => by rw [List.nil_append]; show _ = 0 + _; omega
  | a :: u, v => by show a.length + 3 + wt (u ++ v) = a.length + 3 + wt u + wt v; rw [wt_append u v]; omega
theorem wt_len : ∀ w : Ws, 3 * w.length ≤ wt w
  | [] => Nat.le_refl _
  | a :: w => by have := wt_len w; rw [List.length_cons]; show _ ≤ a.length + 3 + wt w; omega
def dueOf (w : Ws) (ps : List Nat) : List Tk := List.zipWith (fun a p => ((tk a).1, (tk a).2, p)) w ps
theorem due_len {w : Ws} {ps : List Nat} (h : ps.length = w.length) : (dueOf w ps).length = w.length := by
  unfold dueOf
  rw [List.length_zipWith, h, Nat.min_self]
theorem seg_due : ∀ {w : Ws} {ps : List Nat} {pre post : List Tk}, ps.length = w.length → Seg (pre ++ dueOf w ps ++ post) pre.length w
  | [], _, _, _, _ => True.intro
  | a :: w, [], _, _, h => by cases h
  | a :: w, p :: ps, pre, post, h => by
    refine ⟨⟨p, ?_⟩, ?_⟩
    · rw [List.append_assoc, List.getElem?_append_right (Nat.le_refl _), Nat.sub_self]
      rfl
    · have := seg_due (w := w) (ps := ps) (pre := pre ++ [((tk a).1, (tk a).2, p)]) (post := post) (Nat.succ.inj h)
      rw [List.length_append] at this
      have e : pre ++ [((tk a).1, (tk a).2, p)] ++ dueOf w ps ++ post = pre ++ dueOf (a :: w) (p :: ps) ++ post := by
        rw [List.append_assoc pre]
        rfl
      rw [e] at this
      exact this
theorem seg_end {w : Ws} {ps : List Nat} {cs : List Nat} (h : ps.length = w.length) : Seg (endTks cs (dueOf w ps)) 0 w := by
  have := seg_due (w := w) (ps := ps) (pre := []) (post := [(cds "nothing", T [], cs.length)]) h
  exact this
theorem nx_end {w : Ws} {ps : List Nat} {cs : List Nat} (h : ps.length = w.length) : (endTks cs (dueOf w ps))[w.length]? = some (cds "nothing", T [], cs.length) := by
  unfold endTks
  rw [List.getElem?_append_right (by rw [due_len h]; exact Nat.le_refl _), due_len h, Nat.sub_self]
  rfl
theorem nx_end' {w : Ws} {ps : List Nat} {cs : List Nat} (h : ps.length = w.length) : Nx (endTks cs (dueOf w ps)) (0 + w.length) [] := by
  refine ⟨_, by rw [Nat.zero_add]; exact nx_end h, ?_⟩
  unfold fixT
  exact if_neg (show ¬ (cds "nothing" = cds "word" ∨ cds "nothing" = cds "mark") by decide +kernel)
/-- the whole text is an expression -/
theorem read_ex {lv : Nat} {t : Tr} {w : Ws} {ns : List Ws} {ps cs : List Nat} (e : Ex lv 11 t w ns) (hlv : 1 ≤ lv) (hp : ps.length = w.length) (hw : w.length ≤ 100000) :
    ∃ ds, ((exN (endTks cs (dueOf w ps)) 14).1 1 2 ⟨0, [], none⟩).bind (fun t S => (rTake (endTks cs (dueOf w ps)) (cds "nothing") S).bind fun _ S => .ok t S) = .ok t ⟨w.length + 1, ds, noteAll ns none⟩ := by
  obtain ⟨sg, _, _, _, h⟩ := EGood.done (all_good (endTks cs (dueOf w ps)) 11).1 e (n := 14) (p := 1) (d := 2) (i := 0) (ds := []) (tw := none) (z := []) (by decide) (Nat.le_refl _) hlv (by decide) (seg_end hp) (nx_end' hp) (by decide) (by show 0 + _ ≤ _; omega)
  refine ⟨[] ++ sg, ?_⟩
  have q := nx_end (cs := cs) hp
  rw [h, ok_bind, Nat.zero_add, take_ok q, ok_bind]
theorem note_nodup {l : Ws} (h : l.Nodup) : ∀ {t : Option (List Nat)} {i : Nat}, i ≤ l.length → twGo l t i = t
  | t, 0, _ => rfl
  | t, i + 1, hi => by
    show (if twGo l t i = none ∧ l.getD i [] ∈ l.take i then some (l.getD i []) else twGo l t i) = t
    rw [note_nodup h (t := t) (i := i) (by omega), if_neg]
    intro z
    have hlt : i < l.length := by omega
    have e : l.getD i [] = l[i] := by rw [List.getD_eq_getElem?_getD, List.getElem?_eq_getElem hlt]; rfl
    rw [e] at z
    obtain ⟨j, hj, ej⟩ := List.getElem_of_mem z.2
    rw [List.length_take] at hj
    rw [List.getElem_take] at ej
    have e1 := h.idxOf_getElem j (by omega)
    have e2 := h.idxOf_getElem i hlt
    rw [ej, e2] at e1
    omega
theorem noteAll_nodup : ∀ {ns : List Ws} {t : Option (List Nat)}, (∀ l ∈ ns, l.Nodup) → noteAll ns t = t
  | [], _, _ => rfl
  | l :: ns, t, h => by
    show noteAll ns (twGo l t l.length) = t
    rw [note_nodup (h l List.mem_cons_self) (Nat.le_refl _), noteAll_nodup fun x hx => h x (List.mem_cons_of_mem _ hx)]
end Lv
/-! Texts of tokens with spaces ahead of each: their reading. -/
namespace Lv
open PySem PySem.Spec PyProof.Rows L2
open TL (numL tl_num numL_digits numL_ne numL_val numL_len numL_lt numL_step)
/-- tokens, each with the spaces ahead of it -/
abbrev Ly := List (Nat × List Nat)
def lay : Ly → List Nat
  | [] => []
  | (n, t) :: l => List.replicate n 32 ++ t ++ lay l
def lws (l : Ly) : Ws := l.map Prod.snd
def lps : Nat → Ly → List Nat
  | _, [] => []
  | p, (n, t) :: l => (p + n) :: lps (p + n + t.length) l
/-- tokens, none of which would be read as one with what stands behind it -/
def LOk : List Nat → Ly → Prop
  | _, [] => True
  | b, (n, t) :: l => Tok t ∧ (touch b t = true → 1 ≤ n) ∧ LOk t l
def lend : List Nat → Ly → List Nat
  | b, [] => b
  | _, (_, t) :: l => lend t l
theorem lay_append : ∀ a b : Ly, lay (a ++ b) = lay a ++ lay b
  | [], b => rfl
  | (n, t) :: a, b => by
    show List.replicate n 32 ++ t ++ lay (a ++ b) = List.replicate n 32 ++ t ++ lay a ++ lay b
    rw [lay_append a b, List.append_assoc, List.append_assoc, List.append_assoc]
theorem lws_append (a b : Ly) : lws (a ++ b) = lws a ++ lws b := List.map_append
theorem lps_append : ∀ (p : Nat) (a b : Ly), lps p (a ++ b) = lps p a ++ lps (p + (lay a).length) b
  | p, [], b => rfl
  | p, (n, t) :: a, b => by
    show (p + n) :: lps (p + n + t.length) (a ++ b) = (p + n) :: (lps (p + n + t.length) a ++ lps (p + (List.replicate n 32 ++ t ++ lay a).length) b)
    rw [lps_append, List.length_append, List.length_append, List.length_replicate, show p + (n + t.length + (lay a).length) = p + n + t.length + (lay a).length by omega]
theorem lps_len : ∀ (p : Nat) (l : Ly), (lps p l).length = (lws l).length
  | _, [] => rfl
  | p, (n, t) :: l => by
    show (lps (p + n + t.length) l).length + 1 = (lws l).length + 1
    rw [lps_len]
theorem lend_append : ∀ (c : List Nat) (a b : Ly), lend c (a ++ b) = lend (lend c a) b
  | _, [], _ => rfl
  | _, (_, t) :: a, b => lend_append t a b
theorem lok_append : ∀ {c : List Nat} {a b : Ly}, LOk c (a ++ b) ↔ LOk c a ∧ LOk (lend c a) b
  | c, [], b => ⟨fun h => ⟨True.intro, h⟩, fun h => h.2⟩
  | c, (n, t) :: a, b => by
    show (Tok t ∧ _ ∧ LOk t (a ++ b)) ↔ (Tok t ∧ _ ∧ LOk t a) ∧ LOk (lend t a) b
    rw [lok_append (c := t) (a := a) (b := b)]
    exact ⟨fun ⟨h1, h2, h3, h4⟩ => ⟨⟨h1, h2, h3⟩, h4⟩, fun ⟨⟨h1, h2, h3⟩, h4⟩ => ⟨h1, h2, h3, h4⟩⟩
theorem lay_grown : ∀ {l : Ly} {cs : List Nat} {due : List Tk} {b : List Nat}, Grown cs due b → LOk b l → Grown (cs ++ lay l) (due ++ dueOf (lws l) (lps cs.length l)) (lend b l)
  | [], cs, due, b, g, _ => by
    show Grown (cs ++ []) (due ++ []) b
    rw [List.append_nil, List.append_nil]
    exact g
  | (n, t) :: l, cs, due, b, g, ⟨⟨k, v, d⟩, h2, h3⟩ => by
    have g2 := lay_grown (grown_step g d h2) h3
    have e1 : cs ++ lay ((n, t) :: l) = cs ++ List.replicate n 32 ++ t ++ lay l := by
      show cs ++ (List.replicate n 32 ++ t ++ lay l) = _
      rw [List.append_assoc, List.append_assoc, List.append_assoc]
    have e2 : due ++ dueOf (lws ((n, t) :: l)) (lps cs.length ((n, t) :: l)) = due ++ [(k, v, cs.length + n)] ++ dueOf (lws l) (lps (cs ++ List.replicate n 32 ++ t).length l) := by
      show due ++ (((tk t).1, (tk t).2, cs.length + n) :: dueOf (lws l) (lps (cs.length + n + t.length) l)) = _
      rw [drawn_tk d, List.length_append, List.length_append, List.length_replicate, List.append_assoc]
      rfl
    rw [e1, e2]
    exact g2
/-- the tokens of such a text -/
theorem lay_lex {l : Ly} (h : LOk [] l) (n : Nat) : lex 0 (lay l ++ List.replicate n 32) = (dueOf (lws l) (lps 0 l), none) := by
  have g := lay_grown (grown_start 0) h
  exact grown_end g n
theorem lay_lex0 {l : Ly} (h : LOk [] l) : lex 0 (lay l) = (dueOf (lws l) (lps 0 l), none) := by
  have := lay_lex h 0
  rw [show lay l ++ List.replicate 0 32 = lay l from List.append_nil _] at this
  exact this
/-! which tokens touch -/
theorem touch_gap {b t : List Nat} {n : Nat} (h : 1 ≤ n) : touch b t = true → 1 ≤ n := fun _ => h
theorem touch_no {b t : List Nat} {n : Nat} (h : touch b t = false) : touch b t = true → 1 ≤ n := fun z => by rw [h] at z; cases z
theorem mark_head : ∀ m ∈ MLs, ∃ c r, m = c :: r ∧ c ∉ aJ := by
  have k : ∀ m ∈ MLs, m ≠ [] ∧ m.headD 0 ∉ aJ := by decide +kernel
  intro m hm
  obtain ⟨h1, h2⟩ := k m hm
  cases m with
  | nil => exact absurd rfl h1
  | cons c r => exact ⟨c, r, rfl, h2⟩
theorem mark_last : ∀ m ∈ MLs, ∀ c, m.getLast? = some c → c ∉ aJ := by
  have k : ∀ m ∈ MLs, (m.getLast?).getD 0 ∉ aJ := by decide +kernel
  intro m hm c e
  have := k m hm
  rw [e] at this
  exact this
theorem touch_nil (t : List Nat) : touch [] t = false := rfl
/-- a mark behind something other than < -/
theorem touch_mr {b m : List Nat} (h : b ≠ [60]) (hm : m ∈ MLs) : touch b m = false := by
  unfold touch
  by_cases h0 : b = []
  · rw [if_pos h0]
  · rw [if_neg h0, if_neg h]
    obtain ⟨c, r, rfl, hc⟩ := mark_head m hm
    rw [List.head?_cons]
    cases b.getLast? with
    | none => rfl
    | some d =>
      show (decide (d ∈ aJ) && decide (c ∈ aJ)) = false
      rw [decide_eq_false hc, Bool.and_false]
/-- a mark other than < ahead of something -/
theorem touch_ml {m t : List Nat} (h : m ≠ [60]) (hm : m ∈ MLs) : touch m t = false := by
  unfold touch
  obtain ⟨c, r, e, _⟩ := mark_head m hm
  rw [if_neg (by rw [e]; exact List.cons_ne_nil _ _), if_neg h]
  cases el : m.getLast? with
  | none => rfl
  | some d =>
    cases t.head? with
    | none => rfl
    | some x =>
      show (decide (d ∈ aJ) && decide (x ∈ aJ)) = false
      rw [decide_eq_false (mark_last m hm d el), Bool.false_and]
theorem name_ne {a : List Nat} (h : IsName a) : a ≠ [60] := fun e => by
  obtain ⟨c, r, rfl, hc, _⟩ := h.1
  cases e
  exact absurd hc (by decide +kernel)
theorem num_ne {n : Nat} : numL n ≠ [60] := fun e => by
  have := numL_digits n 60 (by rw [e]; exact List.mem_singleton.mpr rfl)
  omega
theorem num_tok {n : Nat} (h : n ≤ 1000000000) : Tok (numL n) := ⟨_, _, .number h⟩
theorem word_ne : ∀ a ∈ WM, a ≠ cds "<" → a ≠ [60] := by decide +kernel
/-! rows of names with commas -/
def cly (g : Nat) : Ws → Ly
  | [] => []
  | a :: l => (g, a) :: l.flatMap fun b => [(0, cds ","), (1, b)]
theorem cly_ws : ∀ (g : Nat) (l : Ws), lws (cly g l) = commas l
  | _, [] => rfl
  | g, a :: l => by
    show a :: lws (l.flatMap fun b => [(0, cds ","), (1, b)]) = _
    have : ∀ l : Ws, lws (l.flatMap fun b => [(0, cds ","), (1, b)]) = l.flatMap fun b => [cds ",", b] := fun l => by
      induction l with
      | nil => rfl
      | cons b l ih =>
        rw [List.flatMap_cons, lws_append, ih, List.flatMap_cons]
        rfl
    rw [this, commas_cons]
/-- names behind one another, with a comma and a space between -/
def jn : Ws → List Nat
  | [] => []
  | a :: l => a ++ l.flatMap fun b => cds ", " ++ b
theorem cly_lay : ∀ {g : Nat} {l : Ws}, l ≠ [] → lay (cly g l) = List.replicate g 32 ++ jn l
  | g, [], h => absurd rfl h
  | g, a :: l, _ => by
    show List.replicate g 32 ++ a ++ lay (l.flatMap fun b => [(0, cds ","), (1, b)]) = _
    have e : cds ", " = cds "," ++ [32] := by decide +kernel
    have : ∀ l : Ws, lay (l.flatMap fun b => [(0, cds ","), (1, b)]) = l.flatMap fun b => cds ", " ++ b := fun l => by
      induction l with
      | nil => rfl
      | cons b l ih =>
        rw [List.flatMap_cons, lay_append, ih, List.flatMap_cons, e]
        show ([] ++ cds "," ++ ([32] ++ b ++ [])) ++ _ = _
        simp only [List.nil_append, List.append_nil, List.append_assoc]
    rw [this, List.append_assoc]
    rfl
theorem cly_ok {c : List Nat} {g : Nat} {l : Ws} (h : ∀ x ∈ l, IsName x) (ht : ∀ a r, l = a :: r → touch c a = true → 1 ≤ g) : LOk c (cly g l) := by
  cases l with
  | nil => exact True.intro
  | cons a l =>
    refine ⟨name_tok (h a List.mem_cons_self), ht a l rfl, ?_⟩
    have : ∀ (l : Ws) (a : List Nat), IsName a → (∀ x ∈ l, IsName x) → LOk a (l.flatMap fun b => [(0, cds ","), (1, b)]) := fun l => by
      induction l with
      | nil => exact fun _ _ _ => True.intro
      | cons b l ih =>
        intro a ha hl
        rw [List.flatMap_cons]
        exact ⟨wm_tok _ (by decide +kernel), touch_no (touch_mr (name_ne ha) (by decide +kernel)), name_tok (hl b List.mem_cons_self), fun _ => Nat.le_refl _, ih b (hl b List.mem_cons_self) fun x hx => hl x (List.mem_cons_of_mem _ hx)⟩
    exact this l a (h a List.mem_cons_self) fun x hx => h x (List.mem_cons_of_mem _ hx)
theorem cly_end {c : List Nat} {g : Nat} : ∀ {l : Ws}, l ≠ [] → lend c (cly g l) ∈ l
  | [], h => absurd rfl h
  | a :: l, _ => by
    show lend a (l.flatMap fun b => [(0, cds ","), (1, b)]) ∈ a :: l
    have : ∀ (l : Ws) (a : List Nat), lend a (l.flatMap fun b => [(0, cds ","), (1, b)]) ∈ a :: l := fun l => by
      induction l with
      | nil => exact fun a => List.mem_singleton.mpr rfl
      | cons b l ih =>
        intro a
        rw [List.flatMap_cons]
        exact List.mem_cons_of_mem _ (ih b)
    exact this l a
theorem jn_len {l : Ws} (h : ∀ x ∈ l, x.length ≤ 20) : (jn l).length ≤ 22 * l.length := by
  cases l with
  | nil => exact Nat.zero_le _
  | cons a l =>
    have : ∀ l : Ws, (∀ x ∈ l, x.length ≤ 20) → (l.flatMap fun b => cds ", " ++ b).length ≤ 22 * l.length := fun l => by
      induction l with
      | nil => exact fun _ => Nat.zero_le _
      | cons b l ih =>
        intro hl
        have h1 := hl b List.mem_cons_self
        have h2 := ih fun x hx => hl x (List.mem_cons_of_mem _ hx)
        rw [List.flatMap_cons, List.length_append, List.length_append, List.length_cons]
        have : (cds ", ").length = 2 := by decide +kernel
        omega
    have h1 := h a List.mem_cons_self
    have h2 := this l fun x hx => h x (List.mem_cons_of_mem _ hx)
    show (a ++ _).length ≤ _
    rw [List.length_append, List.length_cons]
    omega
end Lv
/-! What reading a text comes to; join. -/
namespace Lv
open PySem PySem.Spec PyProof.Rows L2
inductive To where
  | tree (t : Tr)
  | wrong (i : Nat)
  | twice (a : List Nat)
def toTr : To → Tr
  | .tree t => .t [.s (cds "tree"), t]
  | .wrong i => .t [.s (cds "wrong"), .i (i : Int)]
  | .twice a => .t [.s (cds "twice"), .s a]
/-- a reader over tokens, up to the end of the text -/
def whole (g : List Tk → RS → Res RS Tr) (cs : List Nat) (ts : List Tk) : Res RS Tr := (g (endTks cs ts) ⟨0, [], none⟩).bind fun t S => (rTake (endTks cs ts) (cds "nothing") S).bind fun _ S => .ok t S
def Comes (g : List Tk → RS → Res RS Tr) (cs : List Nat) : To → Prop
  | .tree t => ∃ ts n ds, lex 0 cs = (ts, none) ∧ whole g cs ts = .ok t ⟨n, ds, none⟩
  | .wrong i => ∃ ts, lex 0 cs = (ts, none) ∧ whole g cs ts = .bad i
  | .twice a => a.length ≤ 100000 ∧ ∃ ts t n ds, lex 0 cs = (ts, none) ∧ whole g cs ts = .ok t ⟨n, ds, some a⟩
theorem w_callS {sp : Sp} {E : L2.St → XK} {t : TA} {σ : L2.St} {H : Hp} {Q : VK} (k : t σ H fun vs H1 => sp vs H1 Q (E σ)) : tCallS sp E t σ H Q := k
/-! ', '.join(names) -/
def rJoin (K : PySem.W.Frag) : V → List V → Hp → VK → Prop := fun x xs H Q => ∃ a p, ∃ ys : List Str, x = .str a ∧ xs = [.ref p] ∧ (SqL K H p (ys.map V.str) ∨ SqT K H p (ys.map V.str)) ∧ (ys.map (·.length)).sum + ys.length * a.length ≤ 16777216 ∧ Q (.str (Txt.join a ys)) H
theorem mt_joinS {X : Cx} : MtR X "str.join" (rJoin X.K) := L2.mt_join
theorem S_app (a b : List Nat) : S a ++ S b = S (a ++ b) := by
  show (⟨a.toArray ++ b.toArray⟩ : Str) = ⟨(a ++ b).toArray⟩
  simp
theorem join_S : ∀ l : Ws, Str.join (S (cds ", ")) (l.map S) = S (jn l)
  | [] => rfl
  | [a] => by
    show S a = S (a ++ [])
    rw [List.append_nil]
  | a :: b :: l => by
    show S a ++ S (cds ", ") ++ Str.join (S (cds ", ")) ((b :: l).map S) = _
    rw [join_S (b :: l), S_app, S_app]
    congr 1
    show a ++ cds ", " ++ (b ++ l.flatMap fun b => cds ", " ++ b) = a ++ (b :: l).flatMap fun b => cds ", " ++ b
    rw [List.flatMap_cons]
    simp only [List.append_assoc]
theorem sum_le {l : Ws} {n : Nat} (h : ∀ x ∈ l, x.length ≤ n) : ((l.map S).map (·.length)).sum ≤ n * l.length := by
  induction l with
  | nil => exact Nat.zero_le _
  | cons a l ih =>
    have h1 := h a List.mem_cons_self
    have h2 := ih fun x hx => h x (List.mem_cons_of_mem _ hx)
    rw [List.map_cons, List.map_cons, List.sum_cons, List.length_cons]
    have : (S a).length = a.length := len_T a
    rw [this, Nat.mul_succ]
    omega
theorem w_join {K : PySem.W.Frag} {H : Hp} {Q : VK} {p : Addr} {l : Ws} (h : SqL K H p (l.map T)) (hl : l.length ≤ 1000) (h2 : ∀ x ∈ l, x.length ≤ 1000) (k : Q (T (jn l)) H) : rJoin K (T (cds ", ")) [.ref p] H Q := by
  refine ⟨S (cds ", "), p, l.map S, rfl, rfl, .inl (by rw [← map_T_S]; exact h), ?_, ?_⟩
  · have := sum_le h2
    rw [List.length_map]
    have e : (S (cds ", ")).length = 2 := by decide +kernel
    rw [e]
    omega
  · have e : Txt.join (S (cds ", ")) (l.map S) = Str.join (S (cds ", ")) (l.map S) := StrLaws.glued_eq_join _ _
    rw [e, join_S]
    exact k
end Lv
namespace Lv
open PySem PySem.Spec PyProof.Rows L2
mutual
theorem trd_mono : ∀ {t : Tr} {n m : Nat}, TrD n t → n ≤ m → TrD m t
  | .t l, n + 1, m, h, hm => by
    obtain ⟨m, rfl⟩ : ∃ k, m = k + 1 := ⟨m - 1, by omega⟩
    exact ⟨h.1, trds_mono h.2 (by omega)⟩
  | .t _, 0, _, h, _ => False.elim h
  | .s _, n, m, h, hm => by
    cases m with
    | zero => cases n with
      | zero => exact h
      | succ n => omega
    | succ m => exact True.intro
  | .i _, n, m, h, hm => by
    cases m with
    | zero => cases n with
      | zero => exact h
      | succ n => omega
    | succ m => exact True.intro
  | .b _, n, m, h, hm => by
    cases m with
    | zero => cases n with
      | zero => exact h
      | succ n => omega
    | succ m => exact True.intro
  | .n, n, m, h, hm => by
    cases m with
    | zero => cases n with
      | zero => exact h
      | succ n => omega
    | succ m => exact True.intro
theorem trds_mono : ∀ {l : List Tr} {n m : Nat}, (∀ t ∈ l, TrD n t) → n ≤ m → ∀ t ∈ l, TrD m t
  | [], _, _, _, _ => fun t ht => absurd ht List.not_mem_nil
  | x :: l, n, m, h, hm => fun t ht => by
    rcases List.mem_cons.mp ht with e | ht
    · rw [e]; exact trd_mono (h x List.mem_cons_self) hm
    · exact trds_mono (fun t ht => h t (List.mem_cons_of_mem _ ht)) hm t ht
end
/-- a tuple of few -/
theorem trd_t {n : Nat} {l : List Tr} (hl : l.length < 1000000) (h : ∀ t ∈ l, TrD n t) : TrD (n + 1) (.t l) := ⟨hl, h⟩
theorem trd_cons {n : Nat} {x : Tr} {l : List Tr} (h : TrD n x) (r : ∀ t ∈ l, TrD n t) : ∀ t ∈ x :: l, TrD n t := fun t ht => by
  rcases List.mem_cons.mp ht with e | ht
  · rw [e]; exact h
  · exact r t ht
theorem trd_nil {n : Nat} : ∀ t ∈ ([] : List Tr), TrD n t := fun t ht => absurd ht List.not_mem_nil
theorem trd_s {n : Nat} {a : List Nat} : TrD (n + 1) (.s a) := True.intro
theorem trd_plain {n : Nat} (v : V) : TrD (n + 1) (plainTr v) := by cases v <;> exact True.intro
theorem trd_names {n : Nat} {ps : Ws} (h : ps.length ≤ 900000) : TrD (n + 2) (.t (ps.map Tr.s)) := ⟨by rw [List.length_map]; omega, fun t ht => by
  obtain ⟨a, _, rfl⟩ := List.mem_map.mp ht
  exact True.intro⟩
def EDp (h : Nat) : Prop := ∀ {lv : Nat} {t : Tr} {w : Ws} {ns : List Ws}, Ex lv h t w ns → w.length ≤ 900000 → TrD (2 * h + 1) t
def SDp (h : Nat) : Prop := ∀ {t : Tr} {w : Ws} {ns : List Ws}, St h t w ns → w.length ≤ 900000 → TrD (2 * h + 1) t
theorem al_dep {h : Nat} (E : EDp h) : ∀ {l : List Tr} {w : Ws} {ns : List Ws}, Al h l w ns → w.length ≤ 900000 → ∀ t ∈ l, TrD (2 * h + 1) t
  | _, _, _, .nil, _ => trd_nil
  | _, _, _, .cons _ e r, hw => by
    rw [List.length_cons, List.length_append] at hw
    exact trd_cons (E e (by omega)) (al_dep E r (by omega))
theorem ar_dep {h : Nat} (E : EDp h) {l : List Tr} {w : Ws} {ns : List Ws} (a : Ar h l w ns) (hw : w.length ≤ 900000) : TrD (2 * h + 2) (.t l) := by
  cases a with
  | nil => exact trd_t (by show 0 < 1000000; decide) trd_nil
  | cons _ e r h7 =>
    rw [List.length_append] at hw
    exact trd_t (by rw [List.length_cons]; omega) (trd_cons (E e (by omega)) (al_dep E r (by omega)))
theorem bl_dep {h : Nat} (S : SDp h) : ∀ {l : List Tr} {w : Ws} {ns : List Ws}, Bl h l w ns → w.length ≤ 900000 → ∀ t ∈ l, TrD (2 * h + 1) t
  | _, _, _, .nil, _ => trd_nil
  | _, _, _, .cons e r, hw => by
    rw [List.length_cons, List.length_append] at hw
    exact trd_cons (S e (by omega)) (bl_dep S r (by omega))
theorem bd_dep {h : Nat} (S : SDp h) {l : List Tr} {w : Ws} {ns : List Ws} (a : Bd h l w ns) (hw : w.length ≤ 900000) : TrD (2 * h + 2) (.t l) := by
  cases a with
  | nil => exact trd_t (by show 0 < 1000000; decide) trd_nil
  | cons e r =>
    have := bl_len r
    rw [List.length_append] at hw
    exact trd_t (by rw [List.length_cons]; omega) (trd_cons (S e (by omega)) (bl_dep S r (by omega)))
theorem dep_step {h : Nat} (E : EDp h) (S : SDp h) : EDp (h + 1) ∧ SDp (h + 1) := by
  have two : 2 * (h + 1) + 1 = 2 * h + 2 + 1 := by omega
  refine ⟨?_, ?_⟩
  · intro lv t w ns e hw
    rw [two]
    cases e with
    | num _ => exact trd_t (by show 2 < 1000000; decide) (trd_cons trd_s (trd_cons True.intro trd_nil))
    | text _ => exact trd_t (by show 2 < 1000000; decide) (trd_cons trd_s (trd_cons True.intro trd_nil))
    | word _ => exact trd_t (by show 2 < 1000000; decide) (trd_cons trd_s (trd_cons (trd_plain _) trd_nil))
    | self => exact trd_t (by show 1 < 1000000; decide) (trd_cons trd_s trd_nil)
    | new _ => exact trd_t (by show 2 < 1000000; decide) (trd_cons trd_s (trd_cons True.intro trd_nil))
    | name _ => exact trd_t (by show 2 < 1000000; decide) (trd_cons trd_s (trd_cons True.intro trd_nil))
    | par _ e =>
      simp only [List.length_cons, List.length_append, List.length_nil] at hw
      exact trd_mono (E e (by omega)) (by omega)
    | neg _ e =>
      simp only [List.length_cons] at hw
      exact trd_t (by show 2 < 1000000; decide) (trd_cons trd_s (trd_cons (trd_mono (E e (by omega)) (by omega)) trd_nil))
    | not _ e =>
      simp only [List.length_cons] at hw
      exact trd_t (by show 2 < 1000000; decide) (trd_cons trd_s (trd_cons (trd_mono (E e (by omega)) (by omega)) trd_nil))
    | bin _ _ _ e1 _ e2 =>
      simp only [List.length_cons, List.length_append] at hw
      have d1 := trd_mono (E e1 (by omega)) (show 2 * h + 1 ≤ 2 * h + 2 by omega)
      have d2 := trd_mono (E e2 (by omega)) (show 2 * h + 1 ≤ 2 * h + 2 by omega)
      unfold binT
      split
      · exact trd_t (by show 3 < 1000000; decide) (trd_cons trd_s (trd_cons d1 (trd_cons d2 trd_nil)))
      · exact trd_t (by show 4 < 1000000; decide) (trd_cons trd_s (trd_cons trd_s (trd_cons d1 (trd_cons d2 trd_nil))))
    | send _ e _ a =>
      simp only [List.length_cons, List.length_append, List.length_nil] at hw
      exact trd_t (by show 4 < 1000000; decide) (trd_cons trd_s (trd_cons (trd_mono (E e (by omega)) (by omega)) (trd_cons trd_s (trd_cons (ar_dep E a (by omega)) trd_nil))))
    | sup _ a =>
      simp only [List.length_cons, List.length_append, List.length_nil] at hw
      exact trd_t (by show 3 < 1000000; decide) (trd_cons trd_s (trd_cons trd_s (trd_cons (ar_dep E a (by omega)) trd_nil)))
    | blk0 b =>
      simp only [List.length_cons, List.length_append, List.length_nil] at hw
      exact trd_t (by show 3 < 1000000; decide) (trd_cons trd_s (trd_cons (trd_mono (n := 1) (trd_t (by show 0 < 1000000; decide) trd_nil) (by omega)) (trd_cons (bd_dep S b (by omega)) trd_nil)))
    | blk _ h4 _ b =>
      simp only [List.length_cons, List.length_append, List.length_nil] at hw
      exact trd_t (by show 3 < 1000000; decide) (trd_cons trd_s (trd_cons (trd_mono (n := 2) (trd_names (n := 0) (by omega)) (by omega)) (trd_cons (bd_dep S b (by omega)) trd_nil)))
  · intro t w ns e hw
    rw [two]
    cases e with
    | eval _ e => exact trd_t (by show 2 < 1000000; decide) (trd_cons trd_s (trd_cons (trd_mono (E e hw) (by omega)) trd_nil))
    | set _ _ e =>
      simp only [List.length_cons] at hw
      exact trd_t (by show 3 < 1000000; decide) (trd_cons trd_s (trd_cons trd_s (trd_cons (trd_mono (E e (by omega)) (by omega)) trd_nil)))
    | gf _ _ e =>
      simp only [List.length_cons] at hw
      exact trd_t (by show 2 < 1000000; decide) (trd_cons trd_s (trd_cons (trd_mono (E e (by omega)) (by omega)) trd_nil))
    | whl _ e b =>
      simp only [List.length_cons, List.length_append, List.length_nil] at hw
      exact trd_t (by show 3 < 1000000; decide) (trd_cons trd_s (trd_cons (trd_mono (E e (by omega)) (by omega)) (trd_cons (bd_dep S b (by omega)) trd_nil)))
    | if0 _ e b =>
      simp only [List.length_cons, List.length_append, List.length_nil] at hw
      exact trd_t (by show 4 < 1000000; decide) (trd_cons trd_s (trd_cons (trd_mono (E e (by omega)) (by omega)) (trd_cons (bd_dep S b (by omega)) (trd_cons (trd_mono (n := 1) (trd_t (by show 0 < 1000000; decide) trd_nil) (by omega)) trd_nil))))
    | if1 _ e b c =>
      simp only [List.length_cons, List.length_append, List.length_nil] at hw
      exact trd_t (by show 4 < 1000000; decide) (trd_cons trd_s (trd_cons (trd_mono (E e (by omega)) (by omega)) (trd_cons (bd_dep S b (by omega)) (trd_cons (bd_dep S c (by omega)) trd_nil))))
    | try_ b _ c =>
      simp only [List.length_cons, List.length_append, List.length_nil] at hw
      exact trd_t (by show 4 < 1000000; decide) (trd_cons trd_s (trd_cons (bd_dep S b (by omega)) (trd_cons trd_s (trd_cons (bd_dep S c (by omega)) trd_nil))))
    | keep b c =>
      simp only [List.length_cons, List.length_append, List.length_nil] at hw
      exact trd_t (by show 3 < 1000000; decide) (trd_cons trd_s (trd_cons (bd_dep S b (by omega)) (trd_cons (bd_dep S c (by omega)) trd_nil)))
theorem all_dep : ∀ h, EDp h ∧ SDp h
  | 0 => by
    refine ⟨?_, ?_⟩
    · intro lv t w ns e _
      cases e
    · intro t w ns e _
      cases e
  | h + 1 => dep_step (all_dep h).1 (all_dep h).2
end Lv
namespace Lv
open PySem PySem.Spec PyProof.Rows L2
/-- no expression and no statement begins with the word var -/
def NV (w : Ws) : Prop := ∃ a r, w = a :: r ∧ fx a ≠ cds "var"
theorem NV.append {w v : Ws} (h : NV w) : NV (w ++ v) := by
  obtain ⟨a, r, rfl, h⟩ := h
  exact ⟨a, r ++ v, rfl, h⟩
theorem nv_wm {a : List Nat} {r : Ws} (h : a ∈ WM) (n : a ≠ cds "var") : NV (a :: r) := ⟨a, r, rfl, by rw [wm_fx a h]; exact n⟩
theorem nv_e {a : List Nat} {r : Ws} (h : fx a = []) : NV (a :: r) := ⟨a, r, rfl, by rw [h]; decide +kernel⟩
theorem ex_nv : ∀ {h lv : Nat} {t : Tr} {w : Ws} {ns : List Ws}, Ex lv h t w ns → NV w := by
  intro h
  induction h with
  | zero => intro lv t w ns e; cases e
  | succ h ih =>
    intro lv t w ns e
    cases e with
    | num q => exact nv_e (fx_kind q (by decide +kernel) (by decide +kernel))
    | text q => exact nv_e (fx_kind q (by decide +kernel) (by decide +kernel))
    | word q => rcases plain_cases q with rfl | rfl | rfl <;> exact nv_wm (by decide +kernel) (by decide +kernel)
    | self => exact nv_wm (by decide +kernel) (by decide +kernel)
    | new _ => exact nv_wm (by decide +kernel) (by decide +kernel)
    | name n => exact nv_e (nm_fx n)
    | par _ _ => exact nv_wm (by decide +kernel) (by decide +kernel)
    | neg _ _ => exact nv_wm (by decide +kernel) (by decide +kernel)
    | not _ _ => exact nv_wm (by decide +kernel) (by decide +kernel)
    | bin _ _ _ e1 _ _ => exact (ih e1).append
    | send _ e1 _ _ => exact (ih e1).append
    | sup _ _ => exact nv_wm (by decide +kernel) (by decide +kernel)
    | blk0 _ => exact nv_wm (by decide +kernel) (by decide +kernel)
    | blk _ _ _ _ => exact nv_wm (by decide +kernel) (by decide +kernel)
theorem st_nv {h : Nat} {t : Tr} {w : Ws} {ns : List Ws} (e : St h t w ns) : NV w := by
  cases e with
  | eval _ e => exact ex_nv e
  | set n _ e => exact nv_e (nm_fx n)
  | gf g _ e => rcases g with rfl | rfl <;> exact nv_wm (by decide +kernel) (by decide +kernel)
  | whl _ _ _ => exact nv_wm (by decide +kernel) (by decide +kernel)
  | if0 _ _ _ => exact nv_wm (by decide +kernel) (by decide +kernel)
  | if1 _ _ _ _ => exact nv_wm (by decide +kernel) (by decide +kernel)
  | try_ _ _ _ => exact nv_wm (by decide +kernel) (by decide +kernel)
  | keep _ _ => exact nv_wm (by decide +kernel) (by decide +kernel)
theorem bd_nv {h : Nat} {l : List Tr} {w : Ws} {ns : List Ws} (b : Bd h l w ns) : NV (w ++ [cds "end"]) := by
  cases b with
  | nil => exact nv_wm (by decide +kernel) (by decide +kernel)
  | cons e _ => exact (st_nv e).append.append
/-- a method's tokens and tree -/
def vWs (v : Ws) : Ws := if v = [] then [] else cds "var" :: (commas v ++ [cds ";"])
def mWs (a : List Nat) (p v w : Ws) : Ws := cds "method" :: a :: cds "(" :: (commas p ++ cds ")" :: (vWs v ++ (w ++ [cds "end"])))
def mTr (a : List Nat) (p v : Ws) (l : List Tr) : Tr := .t [str "method", .s a, .t (p.map Tr.s), .t (v.map Tr.s), .t l]
theorem meth3 {ts : List Tk} {a : List Nat} {p v w : Ws} {l : List Tr} {ns : List Ws} {i : Nat} {tw : Option (List Nat)} (b : Bd 12 l w ns) (hs : Seg ts i (w ++ [cds "end"])) (hl : w.length ≤ 199000) :
    ∃ sg, gMethod3 ts (exN ts 14).2 a p v ⟨i, [], tw⟩ = .ok (mTr a p v l) ⟨i + w.length + 1, sg, noteAll ((p ++ v) :: ns) tw⟩ := by
  obtain ⟨s1, s2⟩ := seg_append.mp hs
  have q := s2.nx
  rw [wm_fx _ (by decide +kernel)] at q
  obtain ⟨sg, _, _, h⟩ := SDone.body (all_good ts 12).2 b (n := 14) (d := 1) (i := i) (ms := [cds "end"]) (ds := []) (tw := twGo (p ++ v) tw (p ++ v).length) (z := cds "end") (by decide) (by decide +kernel) (by decide +kernel) (by decide) s1 q (by show 0 + _ ≤ _; omega)
  refine ⟨[] ++ sg, ?_⟩
  unfold gMethod3
  show (rNote (p ++ v) _).bind _ = _
  unfold rNote
  rw [ok_bind, h, ok_bind, expect_ok q, ok_bind]
  rfl
theorem meth2 {ts : List Tk} {a : List Nat} {p v w : Ws} {l : List Tr} {ns : List Ws} {i : Nat} {tw : Option (List Nat)} (hv : ∀ x ∈ v, isNm x) (hv8 : v.length ≤ 8) (b : Bd 12 l w ns) (hs : Seg ts i (cds ")" :: (vWs v ++ (w ++ [cds "end"])))) (hl : w.length ≤ 199000) :
    ∃ sg, gMethod2 ts (exN ts 14).2 a p ⟨i, [], tw⟩ = .ok (mTr a p v l) ⟨i + 1 + (vWs v).length + w.length + 1, sg, noteAll ((p ++ v) :: ns) tw⟩ := by
  have q := hs.nx
  rw [wm_fx _ (by decide +kernel)] at q
  unfold gMethod2
  rw [expect_ok q, ok_bind]
  have s := hs.2
  by_cases h0 : v = []
  · subst h0
    have s' : Seg ts (i + 1) (w ++ [cds "end"]) := s
    obtain ⟨c, r, ec, hc⟩ := bd_nv b
    have n0 : Nx ts (i + 1) (fx c) := by
      rw [ec] at s'
      exact s'.nx
    obtain ⟨sg, h⟩ := meth3 (a := a) (p := p) (v := []) (tw := tw) b s' hl
    refine ⟨sg, ?_⟩
    rw [accept_no n0 hc, ok_bind, if_neg Bool.false_ne_true, h]
    rfl
  · have ev : vWs v = cds "var" :: (commas v ++ [cds ";"]) := if_neg h0
    rw [ev] at s ⊢
    rw [show (cds "var" :: (commas v ++ [cds ";"])) ++ (w ++ [cds "end"]) = cds "var" :: (commas v ++ (cds ";" :: (w ++ [cds "end"]))) by rw [List.cons_append, List.append_assoc]; rfl] at s
    have q2 := s.nx
    rw [wm_fx _ (by decide +kernel)] at q2
    obtain ⟨s1, s2⟩ := seg_append.mp s.2
    have q3 := s2.nx
    rw [wm_fx _ (by decide +kernel)] at q3
    obtain ⟨sg, h⟩ := meth3 (a := a) (p := p) (v := v) (tw := tw) b s2.2 hl
    refine ⟨sg, ?_⟩
    rw [accept_yes q2, ok_bind, if_pos rfl, names_done h0 hv s1 q3 (by decide +kernel) hv8, ok_bind, expect_ok q3, ok_bind, h]
    simp only [List.length_cons, List.length_append, List.length_nil]
    rw [show i + 1 + 1 + (commas v).length + 1 + w.length + 1 = i + 1 + ((commas v).length + (0 + 1) + 1) + w.length + 1 by omega]
theorem meth_done {ts : List Tk} {a : List Nat} {p v w : Ws} {l : List Tr} {ns : List Ws} {tw : Option (List Nat)} (na : isNm a) (hp : ∀ x ∈ p, isNm x) (hp8 : p.length ≤ 8) (hv : ∀ x ∈ v, isNm x) (hv8 : v.length ≤ 8) (b : Bd 12 l w ns) (hs : Seg ts 0 (mWs a p v w)) (hl : w.length ≤ 199000) :
    ∃ sg, gMethod ts (exN ts 14).2 ⟨0, [], tw⟩ = .ok (mTr a p v l) ⟨(mWs a p v w).length, sg, noteAll ((p ++ v) :: ns) tw⟩ := by
  unfold mWs at hs
  have q1 := hs.nx
  rw [wm_fx _ (by decide +kernel)] at q1
  have q2 := hs.2.2.nx
  rw [wm_fx _ (by decide +kernel)] at q2
  obtain ⟨s1, s2⟩ := seg_append.mp hs.2.2.2
  have q3 := s2.nx
  rw [wm_fx _ (by decide +kernel)] at q3
  obtain ⟨sg, h⟩ := meth2 (a := a) (p := p) (tw := tw) hv hv8 b s2 hl
  refine ⟨sg, ?_⟩
  unfold gMethod
  rw [expect_ok q1, ok_bind, name_ok hs.2 na, ok_bind, expect_ok q2, ok_bind]
  have elen : 0 + 1 + 1 + 1 + (commas p).length + 1 + (vWs v).length + w.length + 1 = (mWs a p v w).length := by
    unfold mWs
    simp only [List.length_cons, List.length_append, List.length_nil]
    omega
  cases p with
  | nil =>
    have q4 : Nx ts (0 + 1 + 1 + 1) (cds ")") := q3
    rw [fixed0 q4, ok_bind, if_pos rfl, ← elen]
    exact h
  | cons c p =>
    have q4 : Nx ts (0 + 1 + 1 + 1) (fx c) := by
      rw [commas_cons] at s1
      exact s1.nx
    rw [nm_fx (hp c List.mem_cons_self)] at q4
    rw [fixed0 q4, ok_bind, if_neg (by decide +kernel), names_done (List.cons_ne_nil _ _) hp s1 q3 (by decide +kernel) hp8, ok_bind, h, elen]
/-- the whole text is a method -/
theorem read_meth {a : List Nat} {p v w : Ws} {l : List Tr} {ns : List Ws} {ps cs : List Nat} (na : isNm a) (hp : ∀ x ∈ p, isNm x) (hp8 : p.length ≤ 8) (hv : ∀ x ∈ v, isNm x) (hv8 : v.length ≤ 8) (b : Bd 12 l w ns) (hpl : ps.length = (mWs a p v w).length) (hl : w.length ≤ 199000) :
    ∃ ds, (gMethod (endTks cs (dueOf (mWs a p v w) ps)) (exN (endTks cs (dueOf (mWs a p v w) ps)) 14).2 ⟨0, [], none⟩).bind (fun t S => (rTake (endTks cs (dueOf (mWs a p v w) ps)) (cds "nothing") S).bind fun _ S => .ok t S) = .ok (mTr a p v l) ⟨(mWs a p v w).length + 1, ds, noteAll ((p ++ v) :: ns) none⟩ := by
  obtain ⟨sg, h⟩ := meth_done (ts := endTks cs (dueOf (mWs a p v w) ps)) (tw := none) na hp hp8 hv hv8 b (seg_end hpl) hl
  refine ⟨sg, ?_⟩
  have q := nx_end (cs := cs) hpl
  rw [h, ok_bind, take_ok q, ok_bind]
theorem meth_dep {a : List Nat} {p v w : Ws} {l : List Tr} {ns : List Ws} (hp8 : p.length ≤ 8) (hv8 : v.length ≤ 8) (b : Bd 12 l w ns) (hl : w.length ≤ 199000) : TrD 30 (mTr a p v l) := by
  have := bd_dep (all_dep 12).2 b (by omega)
  exact trd_mono (n := 27) (trd_t (by show 5 < 1000000; decide) (trd_cons trd_s (trd_cons trd_s (trd_cons (trd_mono (n := 2) (trd_names (n := 0) (by omega)) (by omega)) (trd_cons (trd_mono (n := 2) (trd_names (n := 0) (by omega)) (by omega)) (trd_cons this trd_nil)))))) (by decide)
end Lv
namespace Lv
open PySem PySem.Spec PyProof.Rows L2
/-- texts with a text between them -/
def jnS (s : List Nat) : Ws → List Nat
  | [] => []
  | a :: l => a ++ l.flatMap fun b => s ++ b
theorem jnS_jn (l : Ws) : jnS (cds ", ") l = jn l := by cases l <;> rfl
end Lv
/-! Printed forms: derivations without a needless bracket, and their texts. -/
namespace Lv
open PySem PySem.Spec PyProof.Rows L2
open TL (numL tl_num numL_digits numL_ne numL_val numL_len numL_lt numL_step)
/-- those of the words that have signs, a space between them -/
def spd (l : Ws) : List Nat := jnS [32] (l.filter fun a => decide (a ≠ []))
def brk (x : List Nat) : List Nat := cds "(" ++ x ++ cds ")"
mutual
/-- an expression in its printed form: level, height, tree, tokens, lists of names, text -/
inductive Pe : Nat → Nat → Tr → Ws → List Ws → List Nat → Prop
  | num {h n : Nat} : n ≤ 1000000000 → Pe 9 (h + 1) (.t [str "plain", .i (n : Int)]) [numL n] [] (numL n)
  | text {h : Nat} {b : List Nat} : IsText b → Pe 9 (h + 1) (.t [str "plain", .s b]) [39 :: (b ++ [39])] [] (cds "'" ++ b ++ cds "'")
  | word {h : Nat} {a : List Nat} {v : V} : plainL.lookup a = some v → Pe 9 (h + 1) (.t [str "plain", plainTr v]) [a] [] a
  | self {h : Nat} : Pe 9 (h + 1) (.t [str "self"]) [cds "self"] [] (cds "self")
  | new {h : Nat} {a : List Nat} : IsClass a → Pe 9 (h + 1) (.t [str "new", .s a]) [cds "new", a] [] (cds "new " ++ a)
  | name {h : Nat} {a : List Nat} : IsName a → Pe 9 (h + 1) (.t [str "name", .s a]) [a] [] a
  | neg {h : Nat} {t : Tr} {w : Ws} {ns : List Ws} {x : List Nat} : Pp 7 h t w ns x → Pe 7 (h + 1) (.t [str "neg", t]) (cds "-" :: w) ns (cds "-" ++ x)
  | not {h : Nat} {t : Tr} {w : Ws} {ns : List Ws} {x : List Nat} : Pp 3 h t w ns x → Pe 3 (h + 1) (.t [str "not", t]) (cds "not" :: w) ns (cds "not " ++ x)
  | bin {l h : Nat} {s : List Nat} {t1 t2 : Tr} {w1 w2 : Ws} {n1 n2 : List Ws} {x1 x2 : List Nat} : behN.lookup s = some l → s ≠ cds "." → Pp (if l = 4 then 5 else l) h t1 w1 n1 x1 → Pp (l + 1) h t2 w2 n2 x2 → Pe l (h + 1) (binT s t1 t2) (w1 ++ s :: w2) (n1 ++ n2) (x1 ++ cds " " ++ s ++ cds " " ++ x2)
  | send {h : Nat} {t : Tr} {w : Ws} {ns : List Ws} {x : List Nat} {a : List Nat} {l : List Tr} {w2 : Ws} {n2 : List Ws} {ys : Ws} : Pp 8 h t w ns x → IsName a → Pa h l w2 n2 ys → Pe 8 (h + 1) (.t [str "send", t, .s a, .t l]) (w ++ cds "." :: a :: cds "(" :: (w2 ++ [cds ")"])) (ns ++ n2) (x ++ cds "." ++ a ++ brk (jn ys))
  | sup {h : Nat} {a : List Nat} {l : List Tr} {w2 : Ws} {n2 : List Ws} {ys : Ws} : IsName a → Pa h l w2 n2 ys → Pe 9 (h + 1) (.t [str "super", .s a, .t l]) (cds "super" :: cds "." :: a :: cds "(" :: (w2 ++ [cds ")"])) n2 (cds "super" ++ cds "." ++ a ++ brk (jn ys))
  | blk0 {h : Nat} {l : List Tr} {w : Ws} {ns : List Ws} {ys : Ws} : Pb h l w ns ys → Pe 9 (h + 1) (.t [str "block", .t [], .t l]) (cds "{" :: (w ++ [cds "}"])) ns (cds "{" ++ [] ++ jnS (cds "; ") ys ++ cds "}")
  | blk {h : Nat} {ps : Ws} {l : List Tr} {w : Ws} {ns : List Ws} {ys : Ws} : ps ≠ [] → ps.length ≤ 4 → (∀ x ∈ ps, IsName x) → Pb h l w ns ys → Pe 9 (h + 1) (.t [str "block", .t (ps.map Tr.s), .t l]) (cds "{" :: (commas ps ++ cds "|" :: (w ++ [cds "}"]))) (ps :: ns) (cds "{" ++ (jn ps ++ cds " | ") ++ jnS (cds "; ") ys ++ cds "}")
/-- in a place that asks for a level -/
inductive Pp : Nat → Nat → Tr → Ws → List Ws → List Nat → Prop
  | go {a lv h : Nat} {t : Tr} {w : Ws} {ns : List Ws} {x : List Nat} : a ≤ lv → Pe lv h t w ns x → Pp a h t w ns x
  | br {a lv h : Nat} {t : Tr} {w : Ws} {ns : List Ws} {x : List Nat} : lv < a → Pe lv h t w ns x → Pp a (h + 1) t (cds "(" :: (w ++ [cds ")"])) ns (brk x)
/-- arguments behind the first -/
inductive Pl : Nat → List Tr → Ws → List Ws → Ws → Prop
  | nil {h : Nat} : Pl h [] [] [] []
  | cons {lv h : Nat} {t : Tr} {w : Ws} {ns : List Ws} {x : List Nat} {l : List Tr} {w2 : Ws} {n2 : List Ws} {ys : Ws} : Pe lv h t w ns x → Pl h l w2 n2 ys → Pl h (t :: l) (cds "," :: (w ++ w2)) (ns ++ n2) (x :: ys)
inductive Pa : Nat → List Tr → Ws → List Ws → Ws → Prop
  | nil {h : Nat} : Pa h [] [] [] []
  | cons {lv h : Nat} {t : Tr} {w : Ws} {ns : List Ws} {x : List Nat} {l : List Tr} {w2 : Ws} {n2 : List Ws} {ys : Ws} : Pe lv h t w ns x → Pl h l w2 n2 ys → l.length ≤ 7 → Pa h (t :: l) (w ++ w2) (ns ++ n2) (x :: ys)
inductive Ps : Nat → Tr → Ws → List Ws → List Nat → Prop
  | eval {lv h : Nat} {t : Tr} {w : Ws} {ns : List Ws} {x : List Nat} : Pe lv h t w ns x → Ps (h + 1) (.t [str "eval", t]) w ns x
  | set {lv h : Nat} {t : Tr} {w : Ws} {ns : List Ws} {x a : List Nat} : IsName a → Pe lv h t w ns x → Ps (h + 1) (.t [str "set", .s a, t]) (a :: cds ":=" :: w) ns (a ++ cds " := " ++ x)
  | gf {lv h : Nat} {t : Tr} {w : Ws} {ns : List Ws} {x g : List Nat} : g = cds "give" ∨ g = cds "fail" → Pe lv h t w ns x → Ps (h + 1) (.t [.s g, t]) (g :: w) ns (g ++ cds " " ++ x)
  | whl {lv h : Nat} {t : Tr} {w : Ws} {ns : List Ws} {x : List Nat} {l : List Tr} {w2 : Ws} {n2 : List Ws} {ys : Ws} : Pe lv h t w ns x → Pb h l w2 n2 ys → Ps (h + 1) (.t [str "while", t, .t l]) (cds "while" :: (w ++ cds "do" :: (w2 ++ [cds "end"]))) (ns ++ n2) (spd [cds "while", x, cds "do", jnS (cds "; ") ys, cds "end"])
  | if0 {lv h : Nat} {t : Tr} {w : Ws} {ns : List Ws} {x : List Nat} {l : List Tr} {w2 : Ws} {n2 : List Ws} {ys : Ws} : Pe lv h t w ns x → Pb h l w2 n2 ys → Ps (h + 1) (.t [str "if", t, .t l, .t []]) (cds "if" :: (w ++ cds "then" :: (w2 ++ [cds "end"]))) (ns ++ n2) (spd [cds "if", x, cds "then", jnS (cds "; ") ys, cds "end"])
  | if1 {lv h : Nat} {t : Tr} {w : Ws} {ns : List Ws} {x : List Nat} {l : List Tr} {w2 : Ws} {n2 : List Ws} {ys : Ws} {l3 : List Tr} {w3 : Ws} {n3 : List Ws} {zs : Ws} : Pe lv h t w ns x → Pb h l w2 n2 ys → l3 ≠ [] → Pb h l3 w3 n3 zs → Ps (h + 1) (.t [str "if", t, .t l, .t l3]) (cds "if" :: (w ++ cds "then" :: (w2 ++ cds "else" :: (w3 ++ [cds "end"])))) (ns ++ (n2 ++ n3)) (spd [cds "if", x, cds "then", jnS (cds "; ") ys, cds "else", jnS (cds "; ") zs, cds "end"])
  | try_ {h : Nat} {l : List Tr} {w : Ws} {ns : List Ws} {ys : Ws} {a : List Nat} {l2 : List Tr} {w2 : Ws} {n2 : List Ws} {zs : Ws} : Pb h l w ns ys → IsName a → Pb h l2 w2 n2 zs → Ps (h + 1) (.t [str "try", .t l, .s a, .t l2]) (cds "try" :: (w ++ cds "catch" :: a :: cds "then" :: (w2 ++ [cds "end"]))) (ns ++ n2) (spd [cds "try", jnS (cds "; ") ys, cds "catch", a, cds "then", jnS (cds "; ") zs, cds "end"])
  | keep {h : Nat} {l : List Tr} {w : Ws} {ns : List Ws} {ys : Ws} {l2 : List Tr} {w2 : Ws} {n2 : List Ws} {zs : Ws} : Pb h l w ns ys → Pb h l2 w2 n2 zs → Ps (h + 1) (.t [str "keep", .t l, .t l2]) (cds "keep" :: (w ++ cds "always" :: (w2 ++ [cds "end"]))) (ns ++ n2) (spd [cds "keep", jnS (cds "; ") ys, cds "always", jnS (cds "; ") zs, cds "end"])
inductive Pq : Nat → List Tr → Ws → List Ws → Ws → Prop
  | nil {h : Nat} : Pq h [] [] [] []
  | cons {h : Nat} {t : Tr} {w : Ws} {ns : List Ws} {x : List Nat} {l : List Tr} {w2 : Ws} {n2 : List Ws} {ys : Ws} : Ps h t w ns x → Pq h l w2 n2 ys → Pq h (t :: l) (cds ";" :: (w ++ w2)) (ns ++ n2) (x :: ys)
inductive Pb : Nat → List Tr → Ws → List Ws → Ws → Prop
  | nil {h : Nat} : Pb h [] [] [] []
  | cons {h : Nat} {t : Tr} {w : Ws} {ns : List Ws} {x : List Nat} {l : List Tr} {w2 : Ws} {n2 : List Ws} {ys : Ws} : Ps h t w ns x → Pq h l w2 n2 ys → Pb h (t :: l) (w ++ w2) (ns ++ n2) (x :: ys)
end
/-! ### higher -/
mutual
theorem Pe.up : ∀ {lv h : Nat} {t : Tr} {w : Ws} {ns : List Ws} {x : List Nat}, Pe lv h t w ns x → Pe lv (h + 1) t w ns x
  | _, _, _, _, _, _, .num n => .num n
  | _, _, _, _, _, _, .text n => .text n
  | _, _, _, _, _, _, .word n => .word n
  | _, _, _, _, _, _, .self => .self
  | _, _, _, _, _, _, .new n => .new n
  | _, _, _, _, _, _, .name n => .name n
  | _, _, _, _, _, _, .neg p => .neg (Pp.up p)
  | _, _, _, _, _, _, .not p => .not (Pp.up p)
  | _, _, _, _, _, _, .bin a b p q => .bin a b (Pp.up p) (Pp.up q)
  | _, _, _, _, _, _, .send p n a => .send (Pp.up p) n (Pa.up a)
  | _, _, _, _, _, _, .sup n a => .sup n (Pa.up a)
  | _, _, _, _, _, _, .blk0 b => .blk0 (Pb.up b)
  | _, _, _, _, _, _, .blk a c d b => .blk a c d (Pb.up b)
theorem Pp.up : ∀ {a h : Nat} {t : Tr} {w : Ws} {ns : List Ws} {x : List Nat}, Pp a h t w ns x → Pp a (h + 1) t w ns x
  | _, _, _, _, _, _, .go l p => .go l (Pe.up p)
  | _, _, _, _, _, _, .br l p => .br l (Pe.up p)
theorem Pl.up : ∀ {h : Nat} {l : List Tr} {w : Ws} {ns : List Ws} {ys : Ws}, Pl h l w ns ys → Pl (h + 1) l w ns ys
  | _, _, _, _, _, .nil => .nil
  | _, _, _, _, _, .cons p q => .cons (Pe.up p) (Pl.up q)
theorem Pa.up : ∀ {h : Nat} {l : List Tr} {w : Ws} {ns : List Ws} {ys : Ws}, Pa h l w ns ys → Pa (h + 1) l w ns ys
  | _, _, _, _, _, .nil => .nil
  | _, _, _, _, _, .cons p q n => .cons (Pe.up p) (Pl.up q) n
theorem Ps.up : ∀ {h : Nat} {t : Tr} {w : Ws} {ns : List Ws} {x : List Nat}, Ps h t w ns x → Ps (h + 1) t w ns x
  | _, _, _, _, _, .eval p => .eval (Pe.up p)
  | _, _, _, _, _, .set n p => .set n (Pe.up p)
  | _, _, _, _, _, .gf n p => .gf n (Pe.up p)
  | _, _, _, _, _, .whl p q => .whl (Pe.up p) (Pb.up q)
  | _, _, _, _, _, .if0 p q => .if0 (Pe.up p) (Pb.up q)
  | _, _, _, _, _, .if1 p q n r => .if1 (Pe.up p) (Pb.up q) n (Pb.up r)
  | _, _, _, _, _, .try_ p n q => .try_ (Pb.up p) n (Pb.up q)
  | _, _, _, _, _, .keep p q => .keep (Pb.up p) (Pb.up q)
theorem Pq.up : ∀ {h : Nat} {l : List Tr} {w : Ws} {ns : List Ws} {ys : Ws}, Pq h l w ns ys → Pq (h + 1) l w ns ys
  | _, _, _, _, _, .nil => .nil
  | _, _, _, _, _, .cons p q => .cons (Ps.up p) (Pq.up q)
theorem Pb.up : ∀ {h : Nat} {l : List Tr} {w : Ws} {ns : List Ws} {ys : Ws}, Pb h l w ns ys → Pb (h + 1) l w ns ys
  | _, _, _, _, _, .nil => .nil
  | _, _, _, _, _, .cons p q => .cons (Ps.up p) (Pq.up q)
end
theorem Pe.mono {lv h m : Nat} {t : Tr} {w : Ws} {ns : List Ws} {x : List Nat} (p : Pe lv h t w ns x) (l : h ≤ m) : Pe lv m t w ns x := by
  induction l with
  | refl => exact p
  | step _ ih => exact ih.up
/-! ### levels -/
theorem behN_le {s : List Nat} {l : Nat} (h : behN.lookup s = some l) (n : s ≠ cds ".") : 1 ≤ l ∧ l ≤ 6 := by
  unfold behN at h
  simp only [List.lookup] at h
  repeat' split at h
  all_goals (first | (cases h; done) | (cases h; exact ⟨by decide, by decide⟩) | (rename_i e; exact absurd (eq_of_beq e) n))
theorem Pe.lv {lv h : Nat} {t : Tr} {w : Ws} {ns : List Ws} {x : List Nat} (p : Pe lv h t w ns x) : 1 ≤ lv ∧ lv ≤ 9 := by
  cases p <;> first | exact ⟨by decide, by decide⟩ | skip
  rename_i a b _ _
  have := behN_le b a
  omega
end Lv
/-! Each derivation has a printed form. -/
namespace Lv
open PySem PySem.Spec PyProof.Rows L2
open TL (numL tl_num numL_digits numL_ne numL_val numL_len numL_lt numL_step)
theorem k_ne : cds "number" ≠ cds "mark" ∧ cds "number" ≠ cds "word" ∧ cds "number" ≠ cds "class" ∧ cds "number" ≠ cds "text" ∧ cds "number" ≠ cds "name" ∧ cds "name" ≠ cds "mark" ∧ cds "name" ≠ cds "word" ∧ cds "name" ≠ cds "class" ∧ cds "name" ≠ cds "text" ∧ cds "class" ≠ cds "mark" ∧ cds "class" ≠ cds "word" ∧ cds "class" ≠ cds "text" ∧ cds "text" ≠ cds "mark" ∧ cds "text" ≠ cds "word" := by decide +kernel
theorem tok_num {a : List Nat} {x : Int} (h : tk a = (cds "number", .int x)) (g : Tok a) : ∃ n : Nat, n ≤ 1000000000 ∧ a = numL n ∧ x = (n : Int) := by
  obtain ⟨n1, n2, n3, n4, n5, _⟩ := k_ne
  obtain ⟨k, v, d⟩ := g
  have e := drawn_tk d
  rw [h] at e
  obtain ⟨e1, e2⟩ := Prod.mk.inj e
  cases d with
  | number hn => exact ⟨_, hn, rfl, V.int.inj e2⟩
  | mark _ => exact absurd e1 n1
  | word _ => exact absurd e1 n2
  | cls _ => exact absurd e1 n3
  | text _ => exact absurd e1 n4
  | name _ => exact absurd e1 n5
theorem tok_name {a : List Nat} (h : isNm a) (g : Tok a) : IsName a := by
  obtain ⟨n1, n2, n3, n4, n5, n6, n7, n8, n9, _⟩ := k_ne
  obtain ⟨k, v, d⟩ := g
  have e := drawn_tk d
  unfold isNm at h
  rw [h] at e
  obtain ⟨e1, e2⟩ := Prod.mk.inj e
  cases d with
  | number hn => exact absurd e1.symm n5
  | mark _ => exact absurd e1 n6
  | word _ => exact absurd e1 n7
  | cls _ => exact absurd e1 n8
  | text _ => exact absurd e1 n9
  | name h => exact h
theorem tok_class {a : List Nat} (h : tk a = (cds "class", T a)) (g : Tok a) : IsClass a := by
  obtain ⟨n1, n2, n3, n4, n5, n6, n7, n8, n9, n10, n11, n12, _⟩ := k_ne
  obtain ⟨k, v, d⟩ := g
  have e := drawn_tk d
  rw [h] at e
  obtain ⟨e1, e2⟩ := Prod.mk.inj e
  cases d with
  | number hn => exact absurd e1.symm n3
  | mark _ => exact absurd e1 n10
  | word _ => exact absurd e1 n11
  | cls h => exact h
  | text _ => exact absurd e1 n12
  | name _ => exact absurd e1.symm n8
theorem tok_text {a b : List Nat} (h : tk a = (cds "text", T b)) (g : Tok a) : IsText b ∧ a = 39 :: (b ++ [39]) := by
  obtain ⟨n1, n2, n3, n4, n5, n6, n7, n8, n9, n10, n11, n12, n13, n14⟩ := k_ne
  obtain ⟨k, v, d⟩ := g
  have e := drawn_tk d
  rw [h] at e
  obtain ⟨e1, e2⟩ := Prod.mk.inj e
  cases d with
  | number hn => exact absurd e1.symm n4
  | mark _ => exact absurd e1 n13
  | word _ => exact absurd e1 n14
  | cls _ => exact absurd e1.symm n12
  | text ht => have := T_inj e2; subst this; exact ⟨ht, rfl⟩
  | name _ => exact absurd e1.symm n9
abbrev Tks (w : Ws) : Prop := ∀ a ∈ w, Tok a
theorem Tks.l {u v : Ws} (h : Tks (u ++ v)) : Tks u := fun a ha => h a (List.mem_append_left _ ha)
theorem Tks.r {u v : Ws} (h : Tks (u ++ v)) : Tks v := fun a ha => h a (List.mem_append_right _ ha)
theorem Tks.hd {a : List Nat} {v : Ws} (h : Tks (a :: v)) : Tok a := h a List.mem_cons_self
theorem Tks.tl {a : List Nat} {v : Ws} (h : Tks (a :: v)) : Tks v := fun b hb => h b (List.mem_cons_of_mem _ hb)
theorem wt_cons' (a : List Nat) (w : Ws) : wt (a :: w) = a.length + 3 + wt w := rfl
/-- in a place that asks for less -/
theorem Pp.le {a b h : Nat} {t : Tr} {w : Ws} {ns : List Ws} {x : List Nat} (p : Pp b h t w ns x) (l : a ≤ b) : ∃ w' x', Pp a h t w' ns x' ∧ wt w' ≤ wt w := by
  cases p with
  | go q p => exact ⟨_, _, .go (Nat.le_trans l q) p, Nat.le_refl _⟩
  | br q p =>
    rename_i lv h w x
    by_cases c : a ≤ lv
    · exact ⟨_, _, .go c p.up, by rw [wt_cons', wt_append]; omega⟩
    · exact ⟨_, _, .br (by omega) p, Nat.le_refl _⟩
theorem Pp.any {a h : Nat} {t : Tr} {w : Ws} {ns : List Ws} {x : List Nat} (p : Pp a h t w ns x) : ∃ lv w' x', Pe lv h t w' ns x' ∧ wt w' ≤ wt w := by
  cases p with
  | go q p => exact ⟨_, _, _, p, Nat.le_refl _⟩
  | br q p => exact ⟨_, _, _, p.up, by rw [wt_cons', wt_append]; omega⟩
def EP (h : Nat) : Prop := ∀ {lv : Nat} {t : Tr} {w : Ws} {ns : List Ws}, Ex lv h t w ns → Tks w → ∃ w' x, Pp lv h t w' ns x ∧ wt w' ≤ wt w
def SP (h : Nat) : Prop := ∀ {t : Tr} {w : Ws} {ns : List Ws}, St h t w ns → Tks w → ∃ w' x, Ps h t w' ns x ∧ wt w' ≤ wt w
theorem EP.pe {h lv : Nat} {t : Tr} {w : Ws} {ns : List Ws} (E : EP h) (e : Ex lv h t w ns) (k : Tks w) : ∃ lv' w' x, Pe lv' h t w' ns x ∧ wt w' ≤ wt w := by
  obtain ⟨w1, x1, p1, l1⟩ := E e k
  obtain ⟨lv2, w2, x2, p2, l2⟩ := p1.any
  exact ⟨lv2, w2, x2, p2, Nat.le_trans l2 l1⟩
theorem al_pr {h : Nat} (E : EP h) : ∀ {l : List Tr} {w : Ws} {ns : List Ws}, Al h l w ns → Tks w → ∃ w' ys, Pl h l w' ns ys ∧ wt w' ≤ wt w
  | _, _, _, .nil, _ => ⟨_, _, .nil, Nat.le_refl _⟩
  | _, _, _, .cons _ e r, k => by
    obtain ⟨lv, w1, x1, p1, l1⟩ := E.pe e k.tl.l
    obtain ⟨w2, y2, p2, l2⟩ := al_pr E r k.tl.r
    exact ⟨_, _, .cons p1 p2, by rw [wt_cons', wt_cons', wt_append, wt_append]; omega⟩
theorem ar_pr {h : Nat} (E : EP h) {l : List Tr} {w : Ws} {ns : List Ws} (a : Ar h l w ns) (k : Tks w) : ∃ w' ys, Pa h l w' ns ys ∧ wt w' ≤ wt w := by
  cases a with
  | nil => exact ⟨_, _, .nil, Nat.le_refl _⟩
  | cons _ e r n =>
    obtain ⟨lv, w1, x1, p1, l1⟩ := E.pe e k.l
    obtain ⟨w2, y2, p2, l2⟩ := al_pr E r k.r
    exact ⟨_, _, .cons p1 p2 n, by rw [wt_append, wt_append]; omega⟩
theorem bl_pr {h : Nat} (S : SP h) : ∀ {l : List Tr} {w : Ws} {ns : List Ws}, Bl h l w ns → Tks w → ∃ w' ys, Pq h l w' ns ys ∧ wt w' ≤ wt w
  | _, _, _, .nil, _ => ⟨_, _, .nil, Nat.le_refl _⟩
  | _, _, _, .cons e r, k => by
    obtain ⟨w1, x1, p1, l1⟩ := S e k.tl.l
    obtain ⟨w2, y2, p2, l2⟩ := bl_pr S r k.tl.r
    exact ⟨_, _, .cons p1 p2, by rw [wt_cons', wt_cons', wt_append, wt_append]; omega⟩
theorem bd_pr {h : Nat} (S : SP h) {l : List Tr} {w : Ws} {ns : List Ws} (a : Bd h l w ns) (k : Tks w) : ∃ w' ys, Pb h l w' ns ys ∧ wt w' ≤ wt w := by
  cases a with
  | nil => exact ⟨_, _, .nil, Nat.le_refl _⟩
  | cons e r =>
    obtain ⟨w1, x1, p1, l1⟩ := S e k.l
    obtain ⟨w2, y2, p2, l2⟩ := bl_pr S r k.r
    exact ⟨_, _, .cons p1 p2, by rw [wt_append, wt_append]; omega⟩
theorem mem_commas {a : List Nat} : ∀ {l : Ws}, a ∈ l → a ∈ commas l
  | b :: l, h => by
    rw [commas_cons]
    rcases List.mem_cons.mp h with rfl | h
    · exact List.mem_cons_self
    · exact List.mem_cons_of_mem _ (List.mem_flatMap.mpr ⟨a, h, List.mem_cons_of_mem _ List.mem_cons_self⟩)
theorem pr_step {h : Nat} (E : EP h) (S : SP h) : EP (h + 1) ∧ SP (h + 1) := by
  constructor
  · intro lv t w ns e k
    cases e with
    | num e => obtain ⟨n, hn, rfl, rfl⟩ := tok_num e k.hd; exact ⟨_, _, .go (Nat.le_refl _) (.num hn), Nat.le_refl _⟩
    | text e => obtain ⟨ht, rfl⟩ := tok_text e k.hd; exact ⟨_, _, .go (Nat.le_refl _) (.text ht), Nat.le_refl _⟩
    | word e => exact ⟨_, _, .go (Nat.le_refl _) (.word e), Nat.le_refl _⟩
    | self => exact ⟨_, _, .go (Nat.le_refl _) .self, Nat.le_refl _⟩
    | new e => exact ⟨_, _, .go (Nat.le_refl _) (.new (tok_class e k.tl.hd)), Nat.le_refl _⟩
    | name e => exact ⟨_, _, .go (Nat.le_refl _) (.name (tok_name e k.hd)), Nat.le_refl _⟩
    | par l e =>
      obtain ⟨w1, x1, p1, l1⟩ := E e k.tl.l
      cases p1 with
      | go q p =>
        rename_i lv0
        by_cases c : 9 ≤ lv0
        · exact ⟨_, _, .go c p.up, by rw [wt_cons', wt_append]; omega⟩
        · exact ⟨_, _, .br (by omega) p, by rw [wt_cons', wt_cons', wt_append, wt_append]; omega⟩
      | br q p =>
        have := p.lv
        rename_i lv0 h w1 x1
        by_cases c : 9 ≤ lv0
        · exact ⟨_, _, .go c p.up.up, by rw [wt_cons', wt_append] at l1 ⊢; omega⟩
        · exact ⟨_, _, .br (by omega) p.up, by simp only [wt_append, wt_cons'] at l1 ⊢; omega⟩
    | neg l e =>
      obtain ⟨w1, x1, p1, l1⟩ := E e k.tl
      obtain ⟨w2, x2, p2, l2⟩ := p1.le l
      exact ⟨_, _, .go (Nat.le_refl _) (.neg p2), by rw [wt_cons', wt_cons']; omega⟩
    | not l e =>
      obtain ⟨w1, x1, p1, l1⟩ := E e k.tl
      obtain ⟨w2, x2, p2, l2⟩ := p1.le l
      exact ⟨_, _, .go (Nat.le_refl _) (.not p2), by rw [wt_cons', wt_cons']; omega⟩
    | bin a b l e l' e' =>
      obtain ⟨w1, x1, p1, l1⟩ := E e k.l
      obtain ⟨w2, x2, p2, l2⟩ := p1.le l
      obtain ⟨w3, x3, p3, l3⟩ := E e' k.r.tl
      obtain ⟨w4, x4, p4, l4⟩ := p3.le l'
      exact ⟨_, _, .go (Nat.le_refl _) (.bin a b p2 p4), by rw [wt_append, wt_append, wt_cons', wt_cons']; omega⟩
    | send l e n a =>
      obtain ⟨w1, x1, p1, l1⟩ := E e k.l
      obtain ⟨w2, x2, p2, l2⟩ := p1.le l
      obtain ⟨w3, ys, p3, l3⟩ := ar_pr E a k.r.tl.tl.tl.l
      exact ⟨_, _, .go (Nat.le_refl _) (.send p2 (tok_name n k.r.tl.hd) p3), by simp only [wt_append, wt_cons']; omega⟩
    | sup n a =>
      obtain ⟨w3, ys, p3, l3⟩ := ar_pr E a k.tl.tl.tl.tl.l
      exact ⟨_, _, .go (Nat.le_refl _) (.sup (tok_name n k.tl.tl.hd) p3), by simp only [wt_append, wt_cons']; omega⟩
    | blk0 b =>
      obtain ⟨w3, ys, p3, l3⟩ := bd_pr S b k.tl.l
      exact ⟨_, _, .go (Nat.le_refl _) (.blk0 p3), by simp only [wt_append, wt_cons']; omega⟩
    | blk h0 h4 hn b =>
      obtain ⟨w3, ys, p3, l3⟩ := bd_pr S b k.tl.r.tl.l
      refine ⟨_, _, .go (Nat.le_refl _) (.blk h0 h4 (fun x hx => tok_name (hn x hx) (k.tl.l x ?_)) p3), by simp only [wt_append, wt_cons']; omega⟩
      exact mem_commas hx
  · intro t w ns e k
    cases e with
    | eval _ e => obtain ⟨lv, w1, x1, p1, l1⟩ := E.pe e k; exact ⟨_, _, .eval p1, l1⟩
    | set n _ e => obtain ⟨lv, w1, x1, p1, l1⟩ := E.pe e k.tl.tl; exact ⟨_, _, .set (tok_name n k.hd) p1, by simp only [wt_cons']; omega⟩
    | gf g _ e => obtain ⟨lv, w1, x1, p1, l1⟩ := E.pe e k.tl; exact ⟨_, _, .gf g p1, by simp only [wt_cons']; omega⟩
    | whl _ e b =>
      obtain ⟨lv, w1, x1, p1, l1⟩ := E.pe e k.tl.l
      obtain ⟨w3, ys, p3, l3⟩ := bd_pr S b k.tl.r.tl.l
      exact ⟨_, _, .whl p1 p3, by simp only [wt_append, wt_cons']; omega⟩
    | if0 _ e b =>
      obtain ⟨lv, w1, x1, p1, l1⟩ := E.pe e k.tl.l
      obtain ⟨w3, ys, p3, l3⟩ := bd_pr S b k.tl.r.tl.l
      exact ⟨_, _, .if0 p1 p3, by simp only [wt_append, wt_cons']; omega⟩
    | if1 _ e b c =>
      obtain ⟨lv, w1, x1, p1, l1⟩ := E.pe e k.tl.l
      obtain ⟨w3, ys, p3, l3⟩ := bd_pr S b k.tl.r.tl.l
      cases c with
      | nil => exact ⟨_, _, by rw [List.append_nil]; exact .if0 p1 p3, by simp only [wt_append, wt_cons']; omega⟩
      | cons s r =>
        obtain ⟨w4, zs, p4, l4⟩ := bd_pr S (.cons s r) k.tl.r.tl.r.tl.l
        exact ⟨_, _, .if1 p1 p3 (List.cons_ne_nil _ _) p4, by simp only [wt_append, wt_cons'] at l4 ⊢; omega⟩
    | try_ b n c =>
      obtain ⟨w3, ys, p3, l3⟩ := bd_pr S b k.tl.l
      obtain ⟨w4, zs, p4, l4⟩ := bd_pr S c k.tl.r.tl.tl.tl.l
      exact ⟨_, _, .try_ p3 (tok_name n k.tl.r.tl.hd) p4, by simp only [wt_append, wt_cons'] at l4 ⊢; omega⟩
    | keep b c =>
      obtain ⟨w3, ys, p3, l3⟩ := bd_pr S b k.tl.l
      obtain ⟨w4, zs, p4, l4⟩ := bd_pr S c k.tl.r.tl.l
      exact ⟨_, _, .keep p3 p4, by simp only [wt_append, wt_cons'] at l4 ⊢; omega⟩
theorem ex_zero {lv : Nat} {t : Tr} {w : Ws} {ns : List Ws} : ¬ Ex lv 0 t w ns := fun e => nomatch e
theorem all_pr : ∀ h, EP h ∧ SP h
  | 0 => by
    constructor
    · intro _ _ _ _ e _; cases e
    · intro _ _ _ e _; cases e
  | h + 1 => pr_step (all_pr h).1 (all_pr h).2
end Lv
/-! A printed text is no longer than what is written of its tokens. -/
namespace Lv
open PySem PySem.Spec PyProof.Rows L2
open TL (numL tl_num numL_digits numL_ne numL_val numL_len numL_lt numL_step)
/-- all signs of these texts -/
def tot (l : Ws) : Nat := (l.map List.length).sum
theorem tot_cons (a : List Nat) (l : Ws) : tot (a :: l) = a.length + tot l := rfl
theorem tot_nil : tot [] = 0 := rfl
theorem wt_nil : wt [] = 0 := rfl
theorem jnS_len {s : List Nat} : ∀ {l : Ws}, (jnS s l).length + (if l = [] then 0 else s.length) = tot l + l.length * s.length
  | [] => by show (0 : Nat) + 0 = 0 + 0 * s.length; omega
  | a :: l => by
    have key : ∀ l : Ws, (l.flatMap fun b => s ++ b).length = tot l + l.length * s.length := fun l => by
      induction l with
      | nil => show 0 = 0 + 0 * s.length; omega
      | cons b l ih => rw [List.flatMap_cons, List.length_append, List.length_append, ih, tot_cons, List.length_cons, Nat.succ_mul]; omega
    show (a ++ l.flatMap fun b => s ++ b).length + _ = _
    rw [List.length_append, key, tot_cons, List.length_cons, Nat.succ_mul, if_neg (List.cons_ne_nil _ _)]
    omega
theorem jn_le2 (s : List Nat) (l : Ws) : (jnS s l).length ≤ tot l + l.length * s.length := by have := jnS_len (s := s) (l := l); omega
theorem jn_le1 {s : List Nat} {l : Ws} {m : Nat} (h : tot l + l.length * s.length ≤ m + s.length) : (jnS s l).length ≤ m := by
  have := jnS_len (s := s) (l := l)
  by_cases c : l = []
  · subst c; show 0 ≤ m; omega
  · rw [if_neg c] at this; omega
theorem tot_filter (p : List Nat → Bool) : ∀ l : Ws, tot (l.filter p) + (l.filter p).length ≤ tot l + l.length
  | [] => Nat.le_refl _
  | a :: l => by
    have := tot_filter p l
    rw [List.filter_cons]
    split
    · rw [tot_cons, tot_cons, List.length_cons, List.length_cons]; omega
    · rw [tot_cons, List.length_cons]; omega
theorem spd_len (l : Ws) : (spd l).length ≤ tot l + l.length := by
  have h1 := jn_le2 [32] (l.filter fun a => decide (a ≠ []))
  have h2 := tot_filter (fun a => decide (a ≠ [])) l
  unfold spd
  have e : ([32] : List Nat).length = 1 := rfl
  rw [e] at h1
  omega
theorem ln_0 : (cds "(").length = 1 := by decide +kernel
theorem ln_1 : (cds ")").length = 1 := by decide +kernel
theorem ln_2 : (cds "{").length = 1 := by decide +kernel
theorem ln_3 : (cds "}").length = 1 := by decide +kernel
theorem ln_4 : (cds "|").length = 1 := by decide +kernel
theorem ln_5 : (cds ",").length = 1 := by decide +kernel
theorem ln_6 : (cds ";").length = 1 := by decide +kernel
theorem ln_7 : (cds ".").length = 1 := by decide +kernel
theorem ln_8 : (cds "-").length = 1 := by decide +kernel
theorem ln_9 : (cds "not").length = 3 := by decide +kernel
theorem ln_10 : (cds "not ").length = 4 := by decide +kernel
theorem ln_11 : (cds "new").length = 3 := by decide +kernel
theorem ln_12 : (cds "new ").length = 4 := by decide +kernel
theorem ln_13 : (cds "self").length = 4 := by decide +kernel
theorem ln_14 : (cds "super").length = 5 := by decide +kernel
theorem ln_15 : (cds "'").length = 1 := by decide +kernel
theorem ln_16 : (cds " ").length = 1 := by decide +kernel
theorem ln_17 : (cds " | ").length = 3 := by decide +kernel
theorem ln_18 : (cds "; ").length = 2 := by decide +kernel
theorem ln_19 : (cds ", ").length = 2 := by decide +kernel
theorem ln_20 : (cds " := ").length = 4 := by decide +kernel
theorem ln_21 : (cds ":=").length = 2 := by decide +kernel
theorem ln_22 : (cds "while").length = 5 := by decide +kernel
theorem ln_23 : (cds "do").length = 2 := by decide +kernel
theorem ln_24 : (cds "end").length = 3 := by decide +kernel
theorem ln_25 : (cds "if").length = 2 := by decide +kernel
theorem ln_26 : (cds "then").length = 4 := by decide +kernel
theorem ln_27 : (cds "else").length = 4 := by decide +kernel
theorem ln_28 : (cds "try").length = 3 := by decide +kernel
theorem ln_29 : (cds "catch").length = 5 := by decide +kernel
theorem ln_30 : (cds "keep").length = 4 := by decide +kernel
theorem ln_31 : (cds "always").length = 6 := by decide +kernel
theorem ln_32 : (cds "give").length = 4 := by decide +kernel
theorem ln_33 : (cds "fail").length = 4 := by decide +kernel
theorem ln_34 : (cds "method").length = 6 := by decide +kernel
theorem ln_35 : (cds "var").length = 3 := by decide +kernel
local macro_rules | `(tactic| walk_at "ln") => `(tactic| (simp only [wt_append, wt_cons', wt_nil, tot_cons, tot_nil, List.length_append, List.length_cons, List.length_nil, brk, ln_0, ln_1, ln_2, ln_3, ln_4, ln_5, ln_6, ln_7, ln_8, ln_9, ln_10, ln_11, ln_12, ln_13, ln_14, ln_15, ln_16, ln_17, ln_18, ln_19, ln_20, ln_21, ln_22, ln_23, ln_24, ln_25, ln_26, ln_27, ln_28, ln_29, ln_30, ln_31, ln_32, ln_33, ln_34, ln_35] at * <;> omega))
theorem wt_commas_le : ∀ ps : Ws, (jn ps).length ≤ wt (commas ps)
  | [] => Nat.zero_le _
  | [a] => by show (a ++ []).length ≤ a.length + 3 + 0; rw [List.append_nil]; omega
  | a :: b :: l => by
    have h := wt_commas_le (b :: l)
    show (a ++ (b :: l).flatMap fun b => cds ", " ++ b).length ≤ a.length + 3 + ((cds ",").length + 3 + wt (commas (b :: l)))
    have e : (a ++ (b :: l).flatMap fun b => cds ", " ++ b) = a ++ (cds ", " ++ jn (b :: l)) := by
      rw [List.flatMap_cons, List.append_assoc]; rfl
    rw [e]
    walk_at "ln"
mutual
theorem Pe.len : ∀ {lv h : Nat} {t : Tr} {w : Ws} {ns : List Ws} {x : List Nat}, Pe lv h t w ns x → x.length + 3 ≤ wt w
  | _, _, _, _, _, _, .num n => by walk_at "ln"
  | _, _, _, _, _, _, .text n => by walk_at "ln"
  | _, _, _, _, _, _, .word n => by walk_at "ln"
  | _, _, _, _, _, _, .self => by walk_at "ln"
  | _, _, _, _, _, _, .new n => by walk_at "ln"
  | _, _, _, _, _, _, .name n => by walk_at "ln"
  | _, _, _, _, _, _, .neg p => by have h := Pp.len p; walk_at "ln"
  | _, _, _, _, _, _, .not p => by have h := Pp.len p; walk_at "ln"
  | _, _, _, _, _, _, .bin a b p q => by have h := Pp.len p; have h2 := Pp.len q; clear a b p q; walk_at "ln"
  | _, _, _, _, _, _, .send (ys := ys) p n a => by have h := Pp.len p; have h2 := Pa.len a; have h3 := jn_le1 (s := cds ", ") (l := ys) (m := wt _) (by rw [show (cds ", ").length = 2 from by decide +kernel]; omega); rw [jnS_jn] at h3; clear h2 p n a; walk_at "ln"
  | _, _, _, _, _, _, .sup (ys := ys) n a => by have h2 := Pa.len a; have h3 := jn_le1 (s := cds ", ") (l := ys) (m := wt _) (by rw [show (cds ", ").length = 2 from by decide +kernel]; omega); rw [jnS_jn] at h3; clear h2 n a; walk_at "ln"
  | _, _, _, _, _, _, .blk0 (ys := ys) b => by have h2 := Pb.len b; have h3 := jn_le1 (s := cds "; ") (l := ys) (m := wt _) (by rw [show (cds "; ").length = 2 from by decide +kernel]; omega); clear h2 b; walk_at "ln"
  | _, _, _, _, _, _, .blk (ps := ps) (ys := ys) a c d b => by have h2 := Pb.len b; have h4 := wt_commas_le ps; have h3 := jn_le1 (s := cds "; ") (l := ys) (m := wt _) (by rw [show (cds "; ").length = 2 from by decide +kernel]; omega); clear h2 a b c d; walk_at "ln"
theorem Pp.len : ∀ {a h : Nat} {t : Tr} {w : Ws} {ns : List Ws} {x : List Nat}, Pp a h t w ns x → x.length + 3 ≤ wt w
  | _, _, _, _, _, _, .go l p => Pe.len p
  | _, _, _, _, _, _, .br l p => by have h := Pe.len p; clear p; walk_at "ln"
theorem Pl.len : ∀ {h : Nat} {l : List Tr} {w : Ws} {ns : List Ws} {ys : Ws}, Pl h l w ns ys → tot ys + ys.length * 2 ≤ wt w
  | _, _, _, _, _, .nil => Nat.le_refl _
  | _, _, _, _, _, .cons p q => by have h := Pe.len p; have h2 := Pl.len q; clear p q; walk_at "ln"
theorem Pa.len : ∀ {h : Nat} {l : List Tr} {w : Ws} {ns : List Ws} {ys : Ws}, Pa h l w ns ys → tot ys + ys.length * 2 ≤ wt w + 2
  | _, _, _, _, _, .nil => by walk_at "ln"
  | _, _, _, _, _, .cons p q n => by have h := Pe.len p; have h2 := Pl.len q; clear p q; walk_at "ln"
theorem Ps.len : ∀ {h : Nat} {t : Tr} {w : Ws} {ns : List Ws} {x : List Nat}, Ps h t w ns x → x.length + 3 ≤ wt w
  | _, _, _, _, _, .eval p => Pe.len p
  | _, _, _, _, _, .set n p => by have h := Pe.len p; clear p n; walk_at "ln"
  | _, _, _, _, _, .gf n p => by have h := Pe.len p; clear p; rcases n with rfl | rfl <;> walk_at "ln"
  | _, _, _, _, _, .whl (x := x) (ys := ys) p q => by
    have h := Pe.len p; have h2 := Pb.len q; have h3 := jn_le1 (s := cds "; ") (l := ys) (m := wt _) (by rw [show (cds "; ").length = 2 from by decide +kernel]; omega)
    have h4 := spd_len [cds "while", x, cds "do", jnS (cds "; ") ys, cds "end"]; clear h2 p q; walk_at "ln"
  | _, _, _, _, _, .if0 (x := x) (ys := ys) p q => by
    have h := Pe.len p; have h2 := Pb.len q; have h3 := jn_le1 (s := cds "; ") (l := ys) (m := wt _) (by rw [show (cds "; ").length = 2 from by decide +kernel]; omega)
    have h4 := spd_len [cds "if", x, cds "then", jnS (cds "; ") ys, cds "end"]; clear h2 p q; walk_at "ln"
  | _, _, _, _, _, .if1 (x := x) (ys := ys) (zs := zs) p q n r => by
    have h := Pe.len p; have h2 := Pb.len q; have h3 := jn_le1 (s := cds "; ") (l := ys) (m := wt _) (by rw [show (cds "; ").length = 2 from by decide +kernel]; omega)
    have h5 := Pb.len r; have h6 := jn_le1 (s := cds "; ") (l := zs) (m := wt _) (by rw [show (cds "; ").length = 2 from by decide +kernel]; omega)
    have h4 := spd_len [cds "if", x, cds "then", jnS (cds "; ") ys, cds "else", jnS (cds "; ") zs, cds "end"]; clear h2 h5 p q r n; walk_at "ln"
  | _, _, _, _, _, .try_ (ys := ys) (a := a) (zs := zs) p n q => by
    have h2 := Pb.len p; have h3 := jn_le1 (s := cds "; ") (l := ys) (m := wt _) (by rw [show (cds "; ").length = 2 from by decide +kernel]; omega)
    have h5 := Pb.len q; have h6 := jn_le1 (s := cds "; ") (l := zs) (m := wt _) (by rw [show (cds "; ").length = 2 from by decide +kernel]; omega)
    have h4 := spd_len [cds "try", jnS (cds "; ") ys, cds "catch", a, cds "then", jnS (cds "; ") zs, cds "end"]; clear h2 h5 p n q; walk_at "ln"
  | _, _, _, _, _, .keep (ys := ys) (zs := zs) p q => by
    have h2 := Pb.len p; have h3 := jn_le1 (s := cds "; ") (l := ys) (m := wt _) (by rw [show (cds "; ").length = 2 from by decide +kernel]; omega)
    have h5 := Pb.len q; have h6 := jn_le1 (s := cds "; ") (l := zs) (m := wt _) (by rw [show (cds "; ").length = 2 from by decide +kernel]; omega)
    have h4 := spd_len [cds "keep", jnS (cds "; ") ys, cds "always", jnS (cds "; ") zs, cds "end"]; clear h2 h5 p q; walk_at "ln"
theorem Pq.len : ∀ {h : Nat} {l : List Tr} {w : Ws} {ns : List Ws} {ys : Ws}, Pq h l w ns ys → tot ys + ys.length * 2 ≤ wt w
  | _, _, _, _, _, .nil => Nat.le_refl _
  | _, _, _, _, _, .cons p q => by have h := Ps.len p; have h2 := Pq.len q; clear p q; walk_at "ln"
theorem Pb.len : ∀ {h : Nat} {l : List Tr} {w : Ws} {ns : List Ws} {ys : Ws}, Pb h l w ns ys → tot ys + ys.length * 2 ≤ wt w + 2
  | _, _, _, _, _, .nil => by walk_at "ln"
  | _, _, _, _, _, .cons p q => by have h := Ps.len p; have h2 := Pq.len q; clear p q; walk_at "ln"
end
theorem Pa.txt {h : Nat} {l : List Tr} {w : Ws} {ns : List Ws} {ys : Ws} (p : Pa h l w ns ys) : (jn ys).length ≤ wt w := by
  have h2 := p.len
  rw [← jnS_jn]
  exact jn_le1 (by rw [show (cds ", ").length = 2 from by decide +kernel]; omega)
theorem Pb.txt {h : Nat} {l : List Tr} {w : Ws} {ns : List Ws} {ys : Ws} (p : Pb h l w ns ys) : (jnS (cds "; ") ys).length ≤ wt w := by
  have h2 := p.len
  exact jn_le1 (by rw [show (cds "; ").length = 2 from by decide +kernel]; omega)
end Lv
/-! Steps of printing: f-strings, joins of any texts, is True, [*xs, y], xs.extend, a comprehension over a tuple. -/
namespace Lv
open PySem PySem.Spec PyProof.Rows L2
open StX (tStar)
/-! f-strings -/
def tFs (ts : List TE) : TE := fun σ H Q => tJs ts Str.empty σ H fun out H1 => Q (.str out) H1
theorem pe_fs {X : Cx} {v1 v2 : Expr} {rest : List Expr} {ts : List TE} {pos : Pos} (h : PJ X (v1 :: v2 :: rest) ts) : PE X (.JoinedStr (v1 :: v2 :: rest) pos) (tFs ts) := pe_joined h
def FsN (ts : List TE) (acc : List Nat) (σ : L2.St) (H : Hp) (Q : VK) : Prop := tJs ts (S acc) σ H fun out H1 => Q (.str out) H1
def FsK (ts : List TE) (acc : List Nat) (σ : L2.St) (x : V) (H : Hp) (Q : VK) : Prop := ∃ y : Str, x = .str y ∧ (S acc ++ y).length ≤ sizeLine ∧ tJs ts (S acc ++ y) σ H fun out H1 => Q (.str out) H1
def FmtK (x : V) (H : Hp) (Q : VK) : Prop := (∃ y : Str, x = .str y ∧ y.length ≤ sizeLine ∧ Q (.str y) H) ∨ ∃ i : Int, x = .int i ∧ i.natAbs.log2 < 1920 ∧ Q (.str (toString i)) H
section
variable {σ : L2.St} {H : Hp} {Q : VK} {K : PySem.W.Frag} {ts : List TE} {t : TE} {acc a : List Nat}
theorem w_fs (k : FsN ts [] σ H Q) : tFs ts σ H Q := k
theorem w_fs1 (k : t σ H fun x H1 => FsK ts acc σ x H1 Q) : FsN (t :: ts) acc σ H Q := k
theorem fs_T (z : acc.length + a.length ≤ 1000000) (k : FsN ts (acc ++ a) σ H Q) : FsK ts acc σ (T a) H Q := by
  refine ⟨S a, rfl, ?_, ?_⟩
  · rw [S_app]
    have : (S (acc ++ a)).length = (acc ++ a).length := len_T _
    rw [this, List.length_append]
    exact Nat.le_trans z (by decide)
  · rw [S_app]; exact k
theorem fs_end (k : Q (T acc) H) : FsN [] acc σ H Q := k
theorem w_fmt (k : t σ H fun x H1 => FmtK x H1 Q) : tFmt t σ H Q := k
theorem fmt_T (z : a.length ≤ 1000000) (k : Q (T a) H) : FmtK (T a) H Q := .inl ⟨_, rfl, by rw [len_T]; exact Nat.le_trans z (by decide), k⟩
/-! joins -/
theorem join_Ss (s : List Nat) : ∀ l : Ws, Str.join (S s) (l.map S) = S (jnS s l)
  | [] => rfl
  | [a] => by
    show S a = S (a ++ [])
    rw [List.append_nil]
  | a :: b :: l => by
    show S a ++ S s ++ Str.join (S s) ((b :: l).map S) = _
    rw [join_Ss s (b :: l), S_app, S_app]
    congr 1
    show a ++ s ++ (b ++ l.flatMap fun b => s ++ b) = a ++ (b :: l).flatMap fun b => s ++ b
    rw [List.flatMap_cons]
    simp only [List.append_assoc]
theorem tot_S (l : Ws) : ((l.map S).map (·.length)).sum = tot l := by
  induction l with
  | nil => rfl
  | cons a l ih =>
    rw [List.map_cons, List.map_cons, List.sum_cons, ih, tot_cons]
    have : (S a).length = a.length := len_T a
    rw [this]
theorem w_joinS {p : Addr} {s : List Nat} {l : Ws} (h : SqL K H p (l.map T) ∨ SqT K H p (l.map T)) (z : tot l + l.length * s.length ≤ 1000000) (k : Q (T (jnS s l)) H) : rJoin K (T s) [.ref p] H Q := by
  refine ⟨S s, p, l.map S, rfl, rfl, by rw [← map_T_S]; exact h, ?_, ?_⟩
  · rw [tot_S, List.length_map]
    have e : (S s).length = s.length := len_T s
    rw [e]
    exact Nat.le_trans z (by decide)
  · have e : Txt.join (S s) (l.map S) = Str.join (S s) (l.map S) := StrLaws.glued_eq_join _ _
    rw [e, join_Ss]
    exact k
/-! is True, is False -/
def flat1 : V → Prop
  | .non | .bl _ | .int _ | .str _ => True
  | _ => False
def rIsC : R2 := fun x y H Q => ∃ b : Bool, y = .bl b ∧ flat1 x ∧ Q (.bl (decide (x = .bl b))) H
theorem op_isC {X : Cx} : OpR X (compareOp .Is) rIsC := by
  intro pins s σ H x y v u Q I rx ry h
  obtain ⟨b, rfl, f, q⟩ := h
  cases (show u = Value.bool b from ry)
  cases x with
  | non =>
    cases (show v = Value.none from rx)
    exact wpAny_is_other rfl (fun z => by cases z) ⟨.bl false, H, I, rfl, by simpa using q⟩
  | bl a =>
    cases (show v = Value.bool a from rx)
    by_cases e : a = b
    · subst e
      exact wpAny_is_self rfl ⟨.bl true, H, I, rfl, by simpa using q⟩
    · exact wpAny_is_other rfl (fun z => e (Value.bool.inj z)) ⟨.bl false, H, I, rfl, by simpa [e] using q⟩
  | int i =>
    obtain ⟨t, rfl⟩ := rx
    exact wpAny_is_other rfl (fun z => by cases z) ⟨.bl false, H, I, rfl, by simpa using q⟩
  | str i =>
    obtain ⟨t, rfl⟩ := rx
    exact wpAny_is_other rfl (fun z => by cases z) ⟨.bl false, H, I, rfl, by simpa using q⟩
  | _ => exact f.elim
theorem isC_n {b : Bool} (k : Q (.bl false) H) : rIsC .non (.bl b) H Q := ⟨b, rfl, True.intro, by simpa using k⟩
theorem isC_i {b : Bool} {i : Int} (k : Q (.bl false) H) : rIsC (.int i) (.bl b) H Q := ⟨b, rfl, True.intro, by simpa using k⟩
theorem isC_s {b : Bool} (k : Q (.bl false) H) : rIsC (T a) (.bl b) H Q := ⟨b, rfl, True.intro, by simpa using k⟩
theorem isC_tt (k : Q (.bl true) H) : rIsC (.bl true) (.bl true) H Q := ⟨true, rfl, True.intro, by simpa using k⟩
theorem isC_ft (k : Q (.bl false) H) : rIsC (.bl false) (.bl true) H Q := ⟨true, rfl, True.intro, by simpa using k⟩
theorem isC_ff (k : Q (.bl true) H) : rIsC (.bl false) (.bl false) H Q := ⟨false, rfl, True.intro, by simpa using k⟩
theorem isC_tf (k : Q (.bl false) H) : rIsC (.bl true) (.bl false) H Q := ⟨false, rfl, True.intro, by simpa using k⟩
/-! [*xs, y], xs.extend(ys) -/
def StarN (K : PySem.W.Frag) (t : TA) (σ : L2.St) (x : V) (H : Hp) (G : List V → Hp → Prop) : Prop := ∃ p xs, x = V.ref p ∧ (SqT K H p xs ∨ SqL K H p xs) ∧ t σ H fun ys H2 => G (xs ++ ys) H2
theorem w_star {te : TE} {t : TA} {G : List V → Hp → Prop} (k : te σ H fun x H1 => StarN K t σ x H1 G) : tStar K te t σ H G := k
theorem star_L {p : Addr} {xs : List V} {t : TA} {G : List V → Hp → Prop} (h : SqL K H p xs) (k : t σ H fun ys H2 => G (xs ++ ys) H2) : StarN K t σ (.ref p) H G := ⟨p, xs, rfl, .inr h, k⟩
def rExt : V → List V → Hp → VK → Prop := fun x vs H Q => ∃ l b xs zs, x = .ref l ∧ vs = [.ref b] ∧ H l = some (.lst xs) ∧ H b = some (.lst zs) ∧ xs.length + zs.length ≤ sizeLine ∧ Q .non (upd H l (.lst (xs ++ zs)))
theorem mt_ext {X : Cx} : MtR X "list.extend" rExt := mt_extend
theorem w_ext {p b : Addr} {xs zs : List V} (h : H p = some (.lst xs)) (hb : H b = some (.lst zs)) (z : xs.length + zs.length ≤ 1000000) (k : ∀ H1, H1 p = some (.lst (xs ++ zs)) → (∀ b o, b ≠ p → H b = some o → H1 b = some o) → Q .non H1) : rExt (.ref p) [.ref b] H Q :=
  ⟨p, b, xs, zs, rfl, rfl, h, hb, Nat.le_trans z (by decide), k _ upd_same fun b o n e => by rw [upd_ne n]; exact e⟩
/-! a comprehension over a tuple -/
def LcT (K : PySem.W.Frag) (g : TG) (tt : TT) (te : TE) (vs : List Nat) (x : V) (σ : L2.St) (H : Hp) (Q : VK) : Prop := ∃ a, x = .ref a ∧ (∃ xs, SqT K H a xs) ∧ ∀ D, H D = none → ∃ W : Nat → Nat → Hp → Prop, (∃ m, W 0 m (upd H D (.lst []))) ∧ ∀ i m H, W i m H →
  ((Itt K a).stop i H ∧ Q (.ref D) H) ∨ ((Itt K a).go i H ∧ ∃ Nx : Hp → Prop, (∀ H', Nx H' → ∃ m', m' < m ∧ W (i + 1) m' H') ∧ ∀ x H', (Itt K a).yld i H x H' → g x (wipe σ vs) H' fun σ2 H2 => wipe σ2 vs = wipe σ vs ∧ tt σ2 H2 fun b H3 =>
    if b = true then te σ2 H3 fun y H4 => ∃ acc, H4 D = some (.lst acc) ∧ acc.length < sizeLine ∧ Nx (upd H4 D (.lst (acc ++ [y]))) else Nx H3)
theorem w_lcT {te0 : TE} {g : TG} {tt : TT} {te : TE} {vs : List Nat} (k : te0 σ H fun x H1 => LcT K g tt te vs x σ H1 Q) : tLc (iTup K te0) g tt te vs σ H Q := k
theorem lc_T {g : TG} {tt : TT} {te : TE} {vs : List Nat} {a : Addr} {xs : List V} (Pv : Addr → Nat → List V → Hp → Prop) (ha : SqT K H a xs)
    (h0 : ∀ D H1, H D = none → Same H H1 → H1 D = some (.lst []) → Pv D 0 [] H1)
    (hl : ∀ D i acc H1, i ≤ xs.length → Pv D i acc H1 → SqT K H1 a xs)
    (hs : ∀ D (i : Nat) x acc H1, xs[i]? = some x → acc.length ≤ i → H1 D = some (.lst acc) → Pv D i acc H1 → g x (wipe σ vs) H1 fun σ2 H2 => wipe σ2 vs = wipe σ vs ∧ tt σ2 H2 fun b H3 =>
      if b = true then te σ2 H3 fun y H4 => ∃ acc, H4 D = some (.lst acc) ∧ acc.length < sizeLine ∧ LcN Pv D (i + 1) (upd H4 D (.lst (acc ++ [y]))) else LcN Pv D (i + 1) H3)
    (hd : ∀ D acc H1, acc.length ≤ xs.length → H1 D = some (.lst acc) → Pv D xs.length acc H1 → Q (.ref D) H1) : LcT K g tt te vs (.ref a) σ H Q := by
  refine ⟨a, rfl, ⟨xs, ha⟩, fun D hD => ?_⟩
  refine ⟨fun i m H1 => m = xs.length - i ∧ i ≤ xs.length ∧ LcN Pv D i H1, ⟨xs.length, by simp, Nat.zero_le _, [], Nat.le_refl _, upd_same, h0 D _ hD (same_new0 hD) upd_same⟩, ?_⟩
  rintro i m H1 ⟨rfl, hi, acc, hac, hD1, p⟩
  have q := hl D i acc H1 hi p
  by_cases hlt : i < xs.length
  · refine .inr ⟨⟨xs, xs[i], q, List.getElem?_eq_getElem hlt⟩, LcN Pv D (i + 1), fun H' p' => ⟨xs.length - (i + 1), by omega, rfl, hlt, p'⟩, fun x H' y => ?_⟩
    obtain ⟨e, y⟩ := y
    subst e
    exact hs D i x acc _ (y xs q) hac hD1 p
  · have e : i = xs.length := by omega
    subst e
    exact .inl ⟨⟨xs, q, Nat.le_refl _⟩, hd D acc _ hac hD1 p⟩
end
end Lv
namespace Lv
open PySem PySem.Spec PyProof.Rows L2
/-- the tokens of a row and its end -/
def lts (cs : List Nat) (l : Ly) : List Tk := endTks cs (dueOf (lws l) (lps 0 l))
theorem due_append {a b : Ws} {p q : List Nat} (h : a.length = p.length) : dueOf (a ++ b) (p ++ q) = dueOf a p ++ dueOf b q := by
  unfold dueOf
  exact List.zipWith_append h
theorem seg_lts {cs : List Nat} {a b : Ly} : Seg (lts cs (a ++ b)) 0 (lws a) := by
  have h := seg_end (w := lws (a ++ b)) (ps := lps 0 (a ++ b)) (cs := cs) (lps_len _ _)
  rw [lws_append] at h
  have h2 := (seg_append.mp h).1
  rw [← lws_append] at h2
  exact h2
theorem seg_lts0 {cs : List Nat} {a : Ly} : Seg (lts cs a) 0 (lws a) := seg_end (lps_len _ _)
theorem tok_lts {cs : List Nat} {a b : Ly} {n : Nat} {t : List Nat} : (lts cs (a ++ (n, t) :: b))[(lws a).length]? = some ((tk t).1, (tk t).2, (lay a).length + n) := by
  unfold lts endTks
  rw [lws_append, lps_append, due_append (lps_len _ _).symm, List.append_assoc, List.getElem?_append_right (by rw [due_len (lps_len _ _)]; exact Nat.le_refl _), due_len (lps_len _ _), Nat.sub_self]
  show some ((tk t).1, (tk t).2, 0 + (lay a).length + n) = _
  rw [Nat.zero_add]
theorem end_lts {cs : List Nat} {a : Ly} : (lts cs a)[(lws a).length]? = some (cds "nothing", T [], cs.length) := nx_end (lps_len _ _)
theorem lws_len (l : Ly) : (lws l).length = l.length := List.length_map ..
/-- all tokens are read -/
theorem whole_done {g : List Tk → RS → Res RS Tr} {l : Ly} {cs : List Nat} {t : Tr} {sg : List Nat} {tw : Option (List Nat)} (h : g (lts cs l) ⟨0, [], none⟩ = .ok t ⟨(lws l).length, sg, tw⟩) : whole g cs (dueOf (lws l) (lps 0 l)) = .ok t ⟨(lws l).length + 1, sg, tw⟩ := by
  unfold whole
  show (g (lts cs l) _).bind _ = _
  rw [h, ok_bind]
  show (rTake (lts cs l) _ _).bind _ = _
  rw [take_ok end_lts, ok_bind]
/-- another token stands behind -/
theorem whole_over {g : List Tk → RS → Res RS Tr} {a b : Ly} {n : Nat} {x : List Nat} {cs : List Nat} {t : Tr} {sg : List Nat} {tw : Option (List Nat)} (h : g (lts cs (a ++ (n, x) :: b)) ⟨0, [], none⟩ = .ok t ⟨(lws a).length, sg, tw⟩) (hx : (tk x).1 ≠ cds "nothing") : whole g cs (dueOf (lws (a ++ (n, x) :: b)) (lps 0 (a ++ (n, x) :: b))) = .bad ((lay a).length + n) := by
  unfold whole
  show (g (lts cs (a ++ (n, x) :: b)) _).bind _ = _
  rw [h, ok_bind]
  obtain ⟨e, hl⟩ := tokN_of (tok_lts (cs := cs) (a := a) (b := b) (n := n) (t := x))
  have : rTake (lts cs (a ++ (n, x) :: b)) (cds "nothing") ⟨(lws a).length, sg, tw⟩ = .bad ((lay a).length + n) := by
    unfold rTake
    show (if (lws a).length < _ then (if (tokN _ (lws a).length).1 = _ then _ else rRefuse _ _) else _) = _
    rw [if_pos hl, e, if_neg hx]
    unfold rRefuse posN
    show (if (lws a).length < _ then Res.bad (tokN _ (lws a).length).2.2 else _) = _
    rw [if_pos hl, e]
  show (rTake (lts cs (a ++ (n, x) :: b)) (cds "nothing") ⟨(lws a).length, sg, tw⟩).bind _ = _
  rw [this]
  rfl
theorem comes_tree {g : List Tk → RS → Res RS Tr} {l : Ly} {t : Tr} {sg : List Nat} {cs : List Nat} (ok : LOk [] l) (e : lay l = cs) (h : g (lts cs l) ⟨0, [], none⟩ = .ok t ⟨(lws l).length, sg, none⟩) : Comes g cs (.tree t) :=
  ⟨_, _, _, by rw [← e]; exact lay_lex0 ok, by rw [whole_done h]⟩
theorem comes_twice {g : List Tk → RS → Res RS Tr} {l : Ly} {t : Tr} {sg : List Nat} {cs a : List Nat} (ha : a.length ≤ 100000) (ok : LOk [] l) (e : lay l = cs) (h : g (lts cs l) ⟨0, [], none⟩ = .ok t ⟨(lws l).length, sg, some a⟩) : Comes g cs (.twice a) :=
  ⟨ha, _, _, _, _, by rw [← e]; exact lay_lex0 ok, by rw [whole_done h]⟩
theorem comes_over {g : List Tk → RS → Res RS Tr} {a b : Ly} {n : Nat} {x : List Nat} {cs : List Nat} {t : Tr} {sg : List Nat} {tw : Option (List Nat)} (ok : LOk [] (a ++ (n, x) :: b)) (e : lay (a ++ (n, x) :: b) = cs) (h : g (lts cs (a ++ (n, x) :: b)) ⟨0, [], none⟩ = .ok t ⟨(lws a).length, sg, tw⟩) (hx : (tk x).1 ≠ cds "nothing") : Comes g cs (.wrong ((lay a).length + n)) :=
  ⟨_, by rw [← e]; exact lay_lex0 ok, whole_over h hx⟩
theorem comes_bad {g : List Tk → RS → Res RS Tr} {l : Ly} {cs : List Nat} {i : Nat} (ok : LOk [] l) (e : lay l = cs) (h : g (lts cs l) ⟨0, [], none⟩ = .bad i) : Comes g cs (.wrong i) := by
  refine ⟨_, by rw [← e]; exact lay_lex0 ok, ?_⟩
  unfold whole
  show (g (lts cs l) _).bind _ = _
  rw [h]
  rfl
abbrev gM : List Tk → RS → Res RS Tr := fun ts => gMethod ts (exN ts 14).2
abbrev gE : List Tk → RS → Res RS Tr := fun ts => (exN ts 14).1 1 2
/-! blocks with or without parameters -/
def pW (ps : Ws) : Ws := if ps = [] then [] else commas ps ++ [cds "|"]
def nW (ps : Ws) (ns : List Ws) : List Ws := if ps = [] then ns else ps :: ns
theorem ex_blk {h : Nat} {ps : Ws} {l : List Tr} {w : Ws} {ns : List Ws} (hl : ps.length ≤ 4) (hn : ∀ x ∈ ps, isNm x) (b : Bd h l w ns) : Ex 9 (h + 1) (.t [str "block", .t (ps.map Tr.s), .t l]) (cds "{" :: (pW ps ++ (w ++ [cds "}"]))) (nW ps ns) := by
  unfold pW nW
  by_cases h0 : ps = []
  · rw [if_pos h0, if_pos h0, h0]
    exact .blk0 b
  · rw [if_neg h0, if_neg h0, List.append_assoc]
    exact .blk h0 hl hn b
theorem note_nW {ps : Ws} {ns : List Ws} {t : Option (List Nat)} : noteAll (nW ps ns) t = noteAll (ps :: ns) t := by
  unfold nW
  by_cases h0 : ps = []
  · rw [if_pos h0, h0]
    rfl
  · rw [if_neg h0]
/-- a block's begin as it is written -/
def blL (g : Nat) (ps : Ws) : Ly := (g, cds "{") :: (if ps = [] then [] else cly 0 ps ++ [(1, cds "|")])
def blG (ps : Ws) : Nat := if ps = [] then 0 else 1
def opn (ps : Ws) : List Nat := if ps = [] then cds "{" else cds "{" ++ jn ps ++ cds " | "
theorem blL_ws (g : Nat) (ps : Ws) : lws (blL g ps) = cds "{" :: pW ps := by
  unfold blL pW
  by_cases h0 : ps = []
  · rw [if_pos h0, if_pos h0]; rfl
  · rw [if_neg h0, if_neg h0]
    show cds "{" :: lws (cly 0 ps ++ [(1, cds "|")]) = _
    rw [lws_append, cly_ws]
    rfl
theorem cly_lay0 (ps : Ws) : lay (cly 0 ps) = jn ps := by
  cases ps with
  | nil => rfl
  | cons a l => rw [cly_lay (List.cons_ne_nil _ _)]; rfl
theorem blL_lay (g : Nat) (ps : Ws) (t : List Nat) (l : Ly) : lay (blL g ps ++ (blG ps, t) :: l) = List.replicate g 32 ++ opn ps ++ t ++ lay l := by
  rw [lay_append]
  unfold blL blG opn
  by_cases h0 : ps = []
  · rw [if_pos h0, if_pos h0, if_pos h0]
    show (List.replicate g 32 ++ cds "{" ++ []) ++ ([] ++ t ++ lay l) = _
    simp only [List.append_nil, List.nil_append, List.append_assoc]
  · rw [if_neg h0, if_neg h0, if_neg h0]
    show (List.replicate g 32 ++ cds "{" ++ lay (cly 0 ps ++ [(1, cds "|")])) ++ ([32] ++ t ++ lay l) = _
    rw [lay_append, cly_lay0]
    have e : cds " | " = [32] ++ cds "|" ++ [32] := by decide +kernel
    rw [e]
    show (List.replicate g 32 ++ cds "{" ++ (jn ps ++ ([32] ++ cds "|" ++ []))) ++ ([32] ++ t ++ lay l) = _
    simp only [List.append_nil, List.append_assoc]
theorem blL_end {c : List Nat} {g : Nat} {ps : Ws} : lend c (blL g ps) = if ps = [] then cds "{" else cds "|" := by
  unfold blL
  by_cases h0 : ps = []
  · rw [if_pos h0, if_pos h0]; rfl
  · rw [if_neg h0, if_neg h0]
    show lend (cds "{") (cly 0 ps ++ [(1, cds "|")]) = _
    rw [lend_append]
    rfl
theorem blL_ok {c : List Nat} {g : Nat} {ps : Ws} (hg : touch c (cds "{") = true → 1 ≤ g) (hn : ∀ x ∈ ps, IsName x) : LOk c (blL g ps) := by
  refine ⟨wm_tok _ (by decide +kernel), hg, ?_⟩
  by_cases h0 : ps = []
  · rw [if_pos h0]; exact True.intro
  · rw [if_neg h0]
    refine lok_append.mpr ⟨cly_ok hn fun a r _ => touch_no (touch_ml (by decide +kernel) (by decide +kernel)), wm_tok _ (by decide +kernel), fun _ => Nat.le_refl _, True.intro⟩
theorem blL_next {ps : Ws} {t : List Nat} {l : Ly} {c : List Nat} {g : Nat} (ht : t ∈ MLs) (h : LOk t l) : LOk (lend c (blL g ps)) ((blG ps, t) :: l) := by
  refine ⟨wm_tok _ ?_, ?_, h⟩
  · have : ∀ m ∈ MLs, m ∈ WM := by decide +kernel
    exact this t ht
  · rw [blL_end]
    refine touch_no (touch_mr ?_ ht)
    split <;> decide +kernel
end Lv
namespace Lv
open PySem PySem.Spec PyProof.Rows L2
theorem lay_cons (n : Nat) (t : List Nat) (l : Ly) : lay ((n, t) :: l) = List.replicate n 32 ++ t ++ lay l := rfl
theorem lay_nil : lay [] = [] := rfl
theorem lws_cons (n : Nat) (t : List Nat) (l : Ly) : lws ((n, t) :: l) = t :: lws l := rfl
theorem lws_nil : lws [] = [] := rfl
/-- a block's begin without the space behind it -/
def opn0 (ps : Ws) : List Nat := if ps = [] then cds "{" else cds "{" ++ jn ps ++ cds " |"
theorem opn_eq (ps : Ws) : opn ps = opn0 ps ++ List.replicate (blG ps) 32 := by
  unfold opn opn0 blG
  split
  · rfl
  · have e : cds " | " = cds " |" ++ [32] := by decide +kernel
    rw [e]
    simp only [List.append_assoc]
    rfl
theorem blL_lay' (g : Nat) (ps : Ws) : lay (blL g ps) = List.replicate g 32 ++ opn0 ps := by
  unfold blL opn0
  split
  · show List.replicate g 32 ++ cds "{" ++ [] = _
    rw [List.append_nil]
  · show List.replicate g 32 ++ cds "{" ++ lay (cly 0 ps ++ [(1, cds "|")]) = _
    rw [lay_append, cly_lay0]
    have e : cds " |" = [32] ++ cds "|" := by decide +kernel
    rw [e]
    show List.replicate g 32 ++ cds "{" ++ (jn ps ++ ([32] ++ cds "|" ++ [])) = _
    simp only [List.append_nil, List.append_assoc]
theorem cly_lend_ne {c : List Nat} {g : Nat} {l : Ws} (hc : c ≠ [60]) (h : ∀ x ∈ l, IsName x) : lend c (cly g l) ≠ [60] := by
  by_cases h0 : l = []
  · subst h0; exact hc
  · exact name_ne (h _ (cly_end h0))
def vL (two : Ws) : Ly := if two = [] then [] else (1, cds "var") :: (cly 1 two ++ [(0, cds ";")])
theorem vL_ok {c : List Nat} {two : Ws} (h : ∀ x ∈ two, IsName x) : LOk c (vL two) := by
  unfold vL
  split
  · exact True.intro
  · exact ⟨wm_tok _ (by decide +kernel), fun _ => Nat.le_refl _, lok_append.mpr ⟨cly_ok h fun _ _ _ _ => Nat.le_refl _, wm_tok _ (by decide +kernel), touch_no (touch_mr (cly_lend_ne (by decide +kernel) h) (by decide +kernel)), True.intro⟩⟩
theorem vL_ws (two : Ws) : lws (vL two) = vWs two := by
  unfold vL vWs
  split
  · rfl
  · show cds "var" :: lws (cly 1 two ++ [(0, cds ";")]) = _
    rw [lws_append, cly_ws]
    rfl
def vT (two : Ws) : List Nat := if two = [] then [] else cds " var " ++ jn two ++ cds ";"
theorem vL_lay (two : Ws) : lay (vL two) = vT two := by
  unfold vL vT
  split
  · rfl
  · rename_i h0
    show [32] ++ cds "var" ++ lay (cly 1 two ++ [(0, cds ";")]) = _
    rw [lay_append, cly_lay h0]
    have e : cds " var " = [32] ++ cds "var" ++ [32] := by decide +kernel
    rw [e]
    show [32] ++ cds "var" ++ ([32] ++ jn two ++ ([] ++ cds ";" ++ [])) = _
    simp only [List.append_nil, List.nil_append, List.append_assoc]
def ly10 (n : List Nat) (one two three four five : Ws) : Ly :=
  (0, cds "method") :: (1, n) :: (0, cds "(") :: (cly 0 one ++ (0, cds ")") :: (vL two ++ (1, cds "x") :: (1, cds ":=") :: (blL 1 three ++ (blL (blG three) four ++ (blG four, cds "}") :: (0, cds "}") :: (0, cds ";") :: (blL 1 five ++ [(blG five, cds "}"), (1, cds "end")])))))
def tx10a (n : List Nat) (one : Ws) : List Nat := cds "method " ++ n ++ cds "(" ++ jn one ++ cds ")"
def tx10 (t : List Nat) (three four five : Ws) : List Nat := t ++ cds " x := " ++ opn three ++ opn four ++ cds "}}; " ++ opn five ++ cds "} end"
theorem ly10_lay (n : List Nat) (one two three four five : Ws) : lay (ly10 n one two three four five) = tx10 (tx10a n one ++ vT two) three four five := by
  unfold ly10 tx10 tx10a
  have e1 : cds "method " = cds "method" ++ [32] := by decide +kernel
  have e2 : cds " x := " = [32] ++ cds "x" ++ [32] ++ cds ":=" ++ [32] := by decide +kernel
  have e3 : cds "}}; " = cds "}" ++ cds "}" ++ cds ";" ++ [32] := by decide +kernel
  have e4 : cds "} end" = cds "}" ++ [32] ++ cds "end" := by decide +kernel
  have r0 : List.replicate 0 32 = ([] : List Nat) := rfl
  have r1 : List.replicate 1 32 = ([32] : List Nat) := rfl
  simp only [lay_cons, lay_append, lay_nil, blL_lay', cly_lay0, vL_lay, opn_eq, e1, e2, e3, e4, r0, r1, List.append_assoc, List.nil_append, List.append_nil]
def W10 (three four five : Ws) : Ws := (cds "x" :: cds ":=" :: (cds "{" :: (pW three ++ ((cds "{" :: (pW four ++ ([] ++ [cds "}"])) ++ []) ++ [cds "}"])))) ++ (cds ";" :: ((cds "{" :: (pW five ++ ([] ++ [cds "}"]))) ++ []))
theorem ly10_ws (n : List Nat) (one two three four five : Ws) : lws (ly10 n one two three four five) = mWs n one two (W10 three four five) := by
  unfold ly10 mWs W10
  simp only [lws_cons, lws_append, lws_nil, blL_ws, cly_ws, vL_ws, List.append_assoc, List.cons_append, List.nil_append, List.append_nil]
theorem x_name : IsName (cds "x") := ⟨⟨120, [], by decide +kernel, by decide +kernel, (fun d hd => absurd hd List.not_mem_nil), by decide⟩, by decide +kernel⟩
theorem ly10_ok {n : List Nat} {one two three four five : Ws} (hn : IsName n) (h1 : ∀ x ∈ one, IsName x) (h2 : ∀ x ∈ two, IsName x) (h3 : ∀ x ∈ three, IsName x) (h4 : ∀ x ∈ four, IsName x) (h5 : ∀ x ∈ five, IsName x) : LOk [] (ly10 n one two three four five) := by
  unfold ly10
  refine ⟨wm_tok _ (by decide +kernel), touch_no (touch_nil _), name_tok hn, fun _ => Nat.le_refl _, wm_tok _ (by decide +kernel), touch_no (touch_mr (name_ne hn) (by decide +kernel)), ?_⟩
  refine lok_append.mpr ⟨cly_ok h1 fun _ _ _ => touch_no (touch_ml (by decide +kernel) (by decide +kernel)), wm_tok _ (by decide +kernel), touch_no (touch_mr (cly_lend_ne (by decide +kernel) h1) (by decide +kernel)), ?_⟩
  refine lok_append.mpr ⟨vL_ok h2, name_tok x_name, fun _ => Nat.le_refl _, wm_tok _ (by decide +kernel), fun _ => Nat.le_refl _, ?_⟩
  refine lok_append.mpr ⟨blL_ok (fun _ => Nat.le_refl _) h3, ?_⟩
  have q : LOk (lend (cds ":=") (blL 1 three)) (blL (blG three) four) := by
    refine blL_ok ?_ h4
    rw [blL_end]
    refine touch_no (touch_mr ?_ (by decide +kernel))
    split <;> decide +kernel
  refine lok_append.mpr ⟨q, ?_⟩
  refine blL_next (by decide +kernel) ⟨wm_tok _ (by decide +kernel), touch_no (touch_mr (by decide +kernel) (by decide +kernel)), wm_tok _ (by decide +kernel), touch_no (touch_mr (by decide +kernel) (by decide +kernel)), ?_⟩
  refine lok_append.mpr ⟨blL_ok (fun _ => Nat.le_refl _) h5, ?_⟩
  exact blL_next (by decide +kernel) ⟨wm_tok _ (by decide +kernel), fun _ => Nat.le_refl _, True.intro⟩
/-- a block without statements -/
def bkT (ps : Ws) (l : List Tr) : Tr := .t [str "block", .t (ps.map Tr.s), .t l]
def bd10 (three four five : Ws) : List Tr := [.t [str "set", .s (cds "x"), bkT three [.t [str "eval", bkT four []]]], .t [str "eval", bkT five []]]
theorem bd10_bd {three four five : Ws} (h3 : ∀ x ∈ three, IsName x) (h4 : ∀ x ∈ four, IsName x) (h5 : ∀ x ∈ five, IsName x) (l3 : three.length ≤ 4) (l4 : four.length ≤ 4) (l5 : five.length ≤ 4) :
    Bd 12 (bd10 three four five) (W10 three four five) ((nW three ((nW four []) ++ [])) ++ ((nW five []) ++ [])) := by
  have b0 : ∀ h, Bd h [] [] [] := fun _ => .nil
  have c4 := ex_blk (h := 8) l4 (fun x hx => name_nm (h4 x hx)) (b0 8)
  have c3 := ex_blk (h := 10) l3 (fun x hx => name_nm (h3 x hx)) (.cons (.eval (by decide) c4) .nil)
  have c5 := ex_blk (h := 10) l5 (fun x hx => name_nm (h5 x hx)) (b0 10)
  exact .cons (.set (name_nm x_name) (by decide) c3) (.cons (.eval (by decide) c5) .nil)
theorem pW_len {ps : Ws} : (pW ps).length ≤ 2 * ps.length := by
  unfold pW
  split
  · exact Nat.zero_le _
  · rename_i h
    have := commas_len h
    rw [List.length_append]
    show _ + 1 ≤ _
    omega
theorem trd_i {n : Nat} {x : Int} : TrD (n + 1) (.i x) := True.intro
theorem meth_dep2 {a : List Nat} {p v w : Ws} {l : List Tr} {ns : List Ws} (hp8 : p.length ≤ 8) (hv8 : v.length ≤ 8) (b : Bd 12 l w ns) (hl : w.length ≤ 199000) : TrD 29 (mTr a p v l) := by
  have := bd_dep (all_dep 12).2 b (by omega)
  exact trd_mono (n := 27) (trd_t (by show 5 < 1000000; decide) (trd_cons trd_s (trd_cons trd_s (trd_cons (trd_mono (n := 2) (trd_names (n := 0) (by omega)) (by omega)) (trd_cons (trd_mono (n := 2) (trd_names (n := 0) (by omega)) (by omega)) (trd_cons this trd_nil)))))) (by decide)
theorem W10_len {three four five : Ws} (l3 : three.length ≤ 4) (l4 : four.length ≤ 4) (l5 : five.length ≤ 4) : (W10 three four five).length ≤ 199000 := by
  have q3 := pW_len (ps := three)
  have q4 := pW_len (ps := four)
  have q5 := pW_len (ps := five)
  unfold W10
  simp only [List.length_cons, List.length_append, List.length_nil]
  omega
theorem note10 {three four five : Ws} {t : Option (List Nat)} : noteAll ((nW three ((nW four []) ++ [])) ++ ((nW five []) ++ [])) t = noteAll [three, four, five] t := by
  rw [List.append_nil, List.append_nil, noteAll_append, note_nW, note_nW]
  show noteAll [five] (noteAll (nW four []) (twGo three t three.length)) = _
  rw [note_nW]
  rfl
/-- the reading of such a text -/
theorem read10 {n : List Nat} {one two three four five : Ws} {ts : List Tk} (hn : IsName n) (h1 : ∀ x ∈ one, IsName x) (h2 : ∀ x ∈ two, IsName x) (h3 : ∀ x ∈ three, IsName x) (h4 : ∀ x ∈ four, IsName x) (h5 : ∀ x ∈ five, IsName x)
    (l1 : one.length ≤ 8) (l2 : two.length ≤ 8) (l3 : three.length ≤ 4) (l4 : four.length ≤ 4) (l5 : five.length ≤ 4) (hs : Seg ts 0 (lws (ly10 n one two three four five))) :
    ∃ sg, gM ts ⟨0, [], none⟩ = .ok (mTr n one two (bd10 three four five)) ⟨(lws (ly10 n one two three four five)).length, sg, noteAll [one ++ two, three, four, five] none⟩ := by
  rw [ly10_ws] at hs ⊢
  have hw : (W10 three four five).length ≤ 199000 := by
    have q3 := pW_len (ps := three)
    have q4 := pW_len (ps := four)
    have q5 := pW_len (ps := five)
    unfold W10
    simp only [List.length_cons, List.length_append, List.length_nil]
    omega
  obtain ⟨sg, h⟩ := meth_done (ts := ts) (tw := none) (name_nm hn) (fun x hx => name_nm (h1 x hx)) l1 (fun x hx => name_nm (h2 x hx)) l2 (bd10_bd h3 h4 h5 l3 l4 l5) hs hw
  refine ⟨sg, ?_⟩
  show gMethod ts (exN ts 14).2 ⟨0, [], none⟩ = _
  rw [h]
  show Res.ok _ (RS.mk _ _ (noteAll _ (twGo (one ++ two) none (one ++ two).length))) = _
  rw [note10]
  rfl
theorem nm_len {a : List Nat} (h : IsName a) : a.length ≤ 20 := h.1.len
theorem opn_len {ps : Ws} (h : ∀ x ∈ ps, IsName x) (l : ps.length ≤ 4) : (opn ps).length ≤ 100 := by
  have := jn_len fun x hx => nm_len (h x hx)
  unfold opn
  split
  · decide +kernel
  · have e1 : (cds "{").length = 1 := by decide +kernel
    have e2 : (cds " | ").length = 3 := by decide +kernel
    rw [List.length_append, List.length_append, e1, e2]
    omega
theorem len10 {n : List Nat} {one two three four five : Ws} (hn : IsName n) (h1 : ∀ x ∈ one, IsName x) (h2 : ∀ x ∈ two, IsName x) (h3 : ∀ x ∈ three, IsName x) (h4 : ∀ x ∈ four, IsName x) (h5 : ∀ x ∈ five, IsName x)
    (l1 : one.length ≤ 8) (l2 : two.length ≤ 8) (l3 : three.length ≤ 4) (l4 : four.length ≤ 4) (l5 : five.length ≤ 4) : (jn one).length ≤ 176 ∧ (jn two).length ≤ 176 ∧ (tx10a n one).length ≤ 300 ∧ (vT two).length ≤ 200 ∧ (opn three).length ≤ 100 ∧ (opn four).length ≤ 100 ∧ (opn five).length ≤ 100 := by
  have q1 := jn_len fun x hx => nm_len (h1 x hx)
  have q2 := jn_len fun x hx => nm_len (h2 x hx)
  have q0 := nm_len hn
  refine ⟨by omega, by omega, ?_, ?_, opn_len h3 l3, opn_len h4 l4, opn_len h5 l5⟩
  · unfold tx10a
    have e1 : (cds "method ").length = 7 := by decide +kernel
    have e2 : (cds "(").length = 1 := by decide +kernel
    have e3 : (cds ")").length = 1 := by decide +kernel
    simp only [List.length_append, e1, e2, e3]
    omega
  · unfold vT
    split
    · exact Nat.zero_le _
    · have e1 : (cds " var ").length = 5 := by decide +kernel
      have e2 : (cds ";").length = 1 := by decide +kernel
      simp only [List.length_append, e1, e2]
      omega
/-! the name that occurs twice first -/
theorem twGo_some {l : Ws} {a : List Nat} : ∀ i, twGo l (some a) i = some a
  | 0 => rfl
  | i + 1 => by
    show (if twGo l (some a) i = none ∧ _ then _ else twGo l (some a) i) = _
    rw [twGo_some i, if_neg (fun h => by cases h.1)]
theorem twGo_keep {l : Ws} {a : List Nat} {i : Nat} (h : twGo l none i = some a) : ∀ j, twGo l none (i + j) = some a
  | 0 => h
  | j + 1 => by
    show (if twGo l none (i + j) = none ∧ _ then _ else twGo l none (i + j)) = _
    have k := twGo_keep h j
    rw [if_neg (fun z => by rw [k] at z; cases z.1)]
    exact k
theorem noteAll_some {a : List Nat} : ∀ ls : List Ws, noteAll ls (some a) = some a
  | [] => rfl
  | l :: ls => by
    show noteAll ls (twGo l (some a) l.length) = _
    rw [twGo_some, noteAll_some ls]
theorem twGo_mem {l : Ws} {a : List Nat} : ∀ {i : Nat}, i ≤ l.length → twGo l none i = some a → a ∈ l
  | 0, _, h => by cases h
  | i + 1, hi, h => by
    have h' : (if twGo l none i = none ∧ l.getD i [] ∈ l.take i then some (l.getD i []) else twGo l none i) = some a := h
    split at h'
    · cases h'
      rw [List.getD_eq_getElem?_getD, List.getElem?_eq_getElem (by omega)]
      exact List.getElem_mem _
    · exact twGo_mem (by omega) h'
theorem noteAll_mem {a : List Nat} : ∀ {ls : List Ws}, noteAll ls none = some a → ∃ l ∈ ls, a ∈ l
  | [], h => by cases h
  | l :: ls, h => by
    have h' : noteAll ls (twGo l none l.length) = some a := h
    cases e : twGo l none l.length with
    | none =>
      rw [e] at h'
      obtain ⟨k, h1, h2⟩ := noteAll_mem h'
      exact ⟨k, List.mem_cons_of_mem _ h1, h2⟩
    | some b =>
      rw [e, noteAll_some] at h'
      cases h'
      exact ⟨l, List.mem_cons_self, twGo_mem (Nat.le_refl _) e⟩
end Lv
namespace Lv
open PySem PySem.Spec PyProof.Rows L2
/-- the list of texts that stands at q -/
def Tl (H : Hp) (q : Addr) (w : Ws) : Prop := H q = some (.lst (w.map T))
theorem Tl.fr {H H1 : Hp} {S q : Addr} {w : Ws} (f : Fr S H H1) (n : q ≠ S) (a : Tl H q w) : Tl H1 q w := f _ _ n a
theorem Tl.same {H H1 : Hp} {q : Addr} {w : Ws} (h : Tl H q w) (s : Same H H1) : Tl H1 q w := s _ _ h
theorem Tl.ne {H : Hp} {q D : Addr} {w : Ws} (h : Tl H q w) (hD : H D = none) : q ≠ D := fun e => by
  unfold Tl at h
  rw [e, hD] at h
  cases h
theorem tl_cat {H : Hp} {Q : VK} {p q : Addr} {u v : Ws} (hp : Tl H p u) (hq : Tl H q v) (z : u.length + v.length ≤ 1000000) (k : ∀ a H1, H a = none → Same H H1 → Tl H1 a (u ++ v) → Q (.ref a) H1) : rCat (.ref p) (.ref q) H Q :=
  w_cat2 hp hq (by rw [List.length_map, List.length_map]; exact z) fun a H1 h0 s h1 => k a H1 h0 s (by unfold Tl; rw [h1, List.map_append])
theorem tl_new {H : Hp} {Q : VK} {u : Ws} {xs : List V} (e : xs = u.map T) (z : xs.length ≤ 1000000) (k : ∀ p H1, H p = none → Same H H1 → Tl H1 p u → Q (.ref p) H1) : NewL xs H Q :=
  w_newL z fun p H1 h0 s h1 => k p H1 h0 s (by unfold Tl; rw [h1, e])
theorem cut_take (xs : List V) (n : Nat) : cutV xs none (some (n : Int)) = xs.take n := by
  unfold cutV
  rw [HT.sIx_none, HT.sIx_nat, List.drop_zero, Nat.sub_zero]
  exact List.take_eq_take_iff.mpr (by omega)
theorem tl_to {K : PySem.W.Frag} {H : Hp} {Q : VK} {q : Addr} {w : Ws} {n : Nat} (h : Tl H q w) (k : ∀ p H1, H p = none → Same H H1 → Tl H1 p (w.take n) → Q (.ref p) H1) : rSlL K (.ref q) none (some (n : Int)) H Q :=
  ⟨q, _, rfl, SqL.of h, fun p hp => k p _ hp (same_new hp) (by unfold Tl; rw [upd_same, cut_take, List.map_take])⟩
theorem tl_at {K : PySem.W.Frag} {H : Hp} {Q : VK} {q : Addr} {w : Ws} {n : Nat} (h : Tl H q w) (hn : n < w.length) (k : Q (T w[n]) H) : rIxL K (.ref q) (.int (n : Int)) H Q :=
  w_ixL (SqL.of h) (atI_nat (by rw [List.getElem?_map, List.getElem?_eq_getElem hn]; rfl)) k
theorem tl_in {K : PySem.W.Frag} {H : Hp} {Q : VK} {q : Addr} {w : Ws} {a : List Nat} (h : Tl H q w) (k : Q (.bl (decide (a ∈ w))) H) : rIn K false (T a) (.ref q) H Q := w_inL (SqL.of h) k
theorem tl_nin {K : PySem.W.Frag} {H : Hp} {Q : VK} {q : Addr} {w : Ws} {a : List Nat} (h : Tl H q w) (k : Q (.bl (!decide (a ∈ w))) H) : rIn K true (T a) (.ref q) H Q := w_ninL (SqL.of h) k
theorem map_ne {w : Ws} (h : w.map T ≠ []) : w ≠ [] := fun e => h (by rw [e]; rfl)
theorem map_nil {w : Ws} (h : w.map T = []) : w = [] := List.map_eq_nil_iff.mp h
end Lv
namespace Lv
open PySem PySem.Spec PyProof.Rows L2
open TL (numL tl_num numL_digits numL_ne numL_val numL_len numL_lt numL_step)
theorem w_strN {H : Hp} {Q : VK} {n : Nat} (hn : n ≤ 1000000000000) (k : Q (T (numL n)) H) : rStrI [.int (n : Int)] H Q := by
  refine ⟨(n : Int), rfl, ?_, ?_⟩
  · rw [Int.natAbs_natCast]
    by_cases h0 : n = 0
    · subst h0; decide
    · exact Nat.lt_trans ((Nat.log2_lt h0).mpr (show n < 2 ^ 41 by omega)) (by decide)
  · have e : V.str (toString (n : Int)) = T (numL n) := by rw [T_eta]; exact congrArg T (tl_num n)
    rw [e]
    exact k
theorem w_intN {H : Hp} {Q : VK} {n : Nat} (hn : n ≤ 1000000000) (k : Q (.int (n : Int)) H) : rIntS [T (numL n)] H Q := by
  have hl : (numL n).length ≤ 10 := numL_len (by decide) (by omega)
  refine w_intS (n := (n : Int)) ?_ (by omega) k
  have h := PySem.intText_digits (x := ⟨(numL n).toArray⟩) (fun d hd => numL_digits n d hd) (numL_ne n) (by rw [len_T]; omega)
  rw [h]
  show some ((NumText.digitsVal (numL n) : Nat) : Int) = some (n : Int)
  rw [numL_val]
def rMin2 : List V → Hp → VK → Prop := fun xs H Q => ∃ i j, xs = [.int i, .int j] ∧ Q (.int (if j < i then j else i)) H
theorem call_minI {X : Cx} (hc : X.calm = true) : CallR X (.builtin "min") rMin2 := call_min2 hc
theorem w_min {H : Hp} {Q : VK} {a b : Int} (k : Q (.int (if b < a then b else a)) H) : rMin2 [.int a, .int b] H Q := ⟨a, b, rfl, k⟩
/-- a place, or None -/
def optV : Option Nat → V
  | none => .non
  | some i => .int (i : Int)
end Lv
/-! An own error whose __init__ tells its text to its base and keeps one field. -/
namespace PySem
namespace ChgX
open PySem.W PySem.Calls PyProof.Rows PySem.HandSPX
/-! ### the text of __init__: the parameter's name is a letter (at, name) -/
def msg : Str := "refused at change "
def eA : Arguments := { posonlyargs := [], args := [{ arg := "self", annotation := none, pos := ⟨49, 17, 49, 21⟩ }, { arg := "at", annotation := none, pos := ⟨49, 23, 49, 25⟩ }], vararg := none, kwonlyargs := [], kw_defaults := [], kwarg := none, defaults := [] }
def eB : List Stmt :=
  [.Expr (.Call (.Attribute (.Call (.Name "super" ⟨50, 8, 50, 13⟩) [] [] ⟨50, 8, 50, 15⟩) "__init__" ⟨50, 8, 50, 24⟩) [.JoinedStr [.Constant (.str msg) 0 ⟨50, 27, 50, 45⟩, .FormattedValue (.Name "at" ⟨50, 46, 50, 48⟩) (-1) none ⟨50, 45, 50, 49⟩] ⟨50, 25, 50, 50⟩] [] ⟨50, 8, 50, 51⟩) ⟨50, 8, 50, 51⟩,
   .Assign [.Attribute (.Name "self" ⟨51, 8, 51, 12⟩) "at" ⟨51, 8, 51, 15⟩] (.Name "at" ⟨51, 18, 51, 20⟩) ⟨51, 8, 51, 20⟩]
def eS : Scope := { kind := .function, names := [(PySem.Str.ofString "self", .local), (PySem.Str.ofString "at", .local), (PySem.Str.ofString "__class__", .free), (PySem.Str.ofString "super", .globalImplicit)], isGenerator := false, isCoroutine := false, more := [] }
/-- what the written part says of the class at C, and of its __init__, at fI; x: the field -/
structure ChgTxt (P : Program) (K : Frag) (mg : Str → Option Value) (nm : Str) (C fI : Addr) : Prop where
  gC : mg nm = some (.ref C)
  cls : ∃ nm q N bs bm sn sub ab col dd k0 k1 k2 k3 k5, K.lookup C = some (excClassObj nm q C N bs bm true sn sub ab col dd k0 k1 k2 k3 k5 "ValueError.__new__") ∧ refsVE bm = true
  sa : findIn K (.ref C) "__setattr__" = some (some (.builtin "object.__setattr__"))
  ga : findIn K (.ref C) "__getattribute__" = some (some (.builtin "BaseException.__getattribute__"))
  gg : findIn K (.ref C) "__getattr__" = some none
  noN : findIn K (.ref C) "at" = some none
  iC : findIn K (.ref C) "__init__" = some (some (.ref fI))
  tC : typeIn K (.ref fI) = some (.type "function")
  kC : keepIn K (.ref C) = true
  exC : subIn K (.ref C) (.type "BaseException") = some true
  veC : subIn K (.ref C) (.type "ValueError") = some true
  tyC : typeIn K (.ref C) = some (.type "type")
  hdC : hasDictIn K C = true
  te : exmOne K (.ref C) (.ref C) = some true
  op : nsIn K cStatics "thirdparty.any" = some none
  up : ks_superIn K C C "__init__" = some (some (.builtin "ValueError.__init__"))
  mr : mroIn K C (.ref C) = some true
  su : mg "super" = none
  top : (P.main.scope.names.lookup ("super" : Str)).isSome = false
  fn : ∃ (oc : Value) (od : Option Addr) (doc pm : Value) (an : Option Addr) (cda cc : Addr) (ct : Value) (osl : Array (Option Value)) (qual : Str) (ccl cl : Value) (cdd cld : Option Addr) (ccs csl : Array (Option Value)) (vs : Array Value) (file : Str) (tf : Tok),
    K.lookup fI = some ⟨oc, od, .func (fnX "__init__" qual eA eB eS [("__class__", cc)] .none .none doc pm an (.ref cda) ct), osl⟩ ∧ codeIn K (.ref cda) qual = true ∧
    K.lookup cda = some ⟨ccl, cdd, .fields vs, ccs⟩ ∧ vs[2]? = some (.str file tf) ∧ ((P.main.file : Str) == file) = true ∧ K.lookup cc = some ⟨cl, cld, .cell (some (.ref C)), csl⟩
/-- what __init__ leaves of a fresh exception at x -/
structure InitEnd (h h' : Heap) (e C dx t1 : Addr) (v : Value) : Prop where
  keep : ∀ b o, b ≠ e → h.get? b = some o → h'.get? b = some o
  obj : h'.get? e = some { cls := .ref C, dict := some dx, data := .fields #[.ref t1, .none, .none, .none, .bool false, .none] }
  dbig : h.objs.size ≤ dx
  dne : dx ≠ e
  ns : h'.Ns1 dx (fun y => if y = "at" then some v else none)
structure OwnMade (h h' : Heap) (e C d : Addr) (v : Value) : Prop where
  keep : ∀ b o, h.get? b = some o → h'.get? b = some o
  new : h.objs.size ≤ e
  obj : ∃ oe vs, h'.get? e = some oe ∧ oe.cls = .ref C ∧ oe.dict = some d ∧ oe.data = .fields vs ∧ vs[1]? = some .none
  dbig : h.objs.size ≤ d
  dne : d ≠ e
  ns : h'.Ns1 d (fun y => if y = "at" then some v else none)
theorem one_size (v : Value) : [v].length ≤ sizeLine := by
  rw [sizeLine_eq]
  exact (by decide : 1 ≤ 16777216)
section
variable {prog : Program} {w : World} {A : Around} {E : Value → Shared → Prop} {R : Result → Shared → Prop} {s : Shared} {K : Frag} {mg mb : Str → Option Value} {nm : Str} {C fI : Addr}
/-- the base's __init__, bound, called with one value: the args are laid anew -/
theorem call_mw {h : Heap} {g : Array GenState} {d : Drawn} {t : Nat} {os : OsState} {u e t0 : Addr} {rest : List Value} {Q : Value → Shared → Prop} {nm q : Str} {N : Addr} {bs bm : List Value} {hdct : Bool} {sn : List Str} {sub : List Value} {ab : Bool} {col : Option Bool} {dd : Option Addr} {k0 k1 k2 k3 k5 : Option Value}
    (hC : h.get? C = some (excClassObj nm q C N bs bm hdct sn sub ab col dd k0 k1 k2 k3 k5 "ValueError.__new__")) (he : h.get? e = some (excO C t0)) (hu : h.get? u = some (kxs_mw "ValueError.__init__" e)) (hrest : rest.length ≤ sizeLine)
    (hq : ∀ h' t1, (∀ b o, b ≠ e → h.get? b = some o → h'.get? b = some o) → h'.get? e = some (excO C t1) → Q .none ⟨h', g, d, t, os⟩) :
    wpAny (model prog w) A (call (.ref u) rest) Q E ⟨h, g, d, t, os⟩ := by
  refine wpAny_call (codeAny_of_tree ?_)
  show wpAny _ A.in1 (callAny (.ref u) ⟨rest, []⟩) _ _ _
  simp only [callAny]
  refine wpAny_bind (wpAny_load hu ?_)
  simp only [kxs_mw, show (Value.type "method-wrapper" == Value.type "method" || Value.type "method-wrapper" == Value.type "builtin_function_or_method" || Value.type "method-wrapper" == Value.type "method-wrapper") = true by decide, if_true]
  refine KFB.if_so (by decide) ?_
  refine wpAny_bind (check_bound_init F.excBase_ValueError.toExcCallFacts hC he rfl ?_)
  refine wpAny_bind (wpAny_pure (wpAny_pure ?_))
  refine ⟨plainId_quiet F.excBase_ValueError.init.plain _, codeAny_builtin F.excBase_ValueError.initEntry ?_⟩
  exact exc_init_tree (cls := .ref C) (t0 := t0) (dv := none) (c2 := .none) (c3 := .none) (b4 := .bool false) he hrest fun h' k e' _ => hq h' _ k e'
theorem ldN {M : Model} {env : Env} {m : Str → Option Value} {x : Str} {pos : Pos} {v : Value} {Q : Value → Shared → Prop} (hn : s.heap.Ns env.locals m) (hv : m x = some v) (h : Q v s)
    (hk : env.scope.kind = .function := by rfl) (hl : env.kindOf x = some .local := by rfl) (hd : (x == ("__debug__" : Str)) = false := by decide) :
    wpAny M A (eval (.Name x pos) env) Q E s := wpAny_Name (wpAny_loadName_local hk hl hn hv h) hd
theorem src_init (T : ChgTxt prog K mg nm C fI) {e t0 : Addr} {v : Int} {tv : Tok} (hv : v.natAbs.log2 < 1920) (X : K.In s.heap) (hlim : s.heap.NoLimit) (hg : s.heap.Ns mainGlobals mg) (hb : s.heap.Ns builtinsNs mb) (hmb : mb "super" = some (.type "super"))
    (hx : s.heap.get? e = some (excO C t0)) (hnx : K.lookup e = none) (hroom : A.depth < recursionLimit)
    (hq : ∀ h' tk dx t1, InitEnd s.heap h' e C dx t1 (.int v tv) → R (.ok (.ret .none)) { s with heap := h', toks := tk }) :
    codeAny (model prog w) A (.call (.ref fI) ⟨[.ref e, .int v tv], []⟩) R s := by
  obtain ⟨oc, od, doc, pm, an, cda, cc, ct, osl, qual, ccl, cl, cdd, cld, ccs, csl, vs, file, tf, ho, hcd, hcode, hvs, hfile, hcell⟩ := T.fn
  obtain ⟨nm', q, N, bs, bm, sn, sub, ab, col, dd, k0, k1, k2, k3, k5, hC, hbm⟩ := T.cls
  have hcl : clsIn K C = some { name := nm', bases := bs, mro := .ref C :: bm, ns := N, qualname := q, hasDict := true, slotNames := sn, subclasses := sub, abstract := ab, collection := col, hasDel := false } := by unfold clsIn; rw [hC] <;> rfl
  refine ks_codeAny_call_defAt (binds := [("self", .ref e), ("at", .int v tv)]) hroom (X _ _ ho) rfl hlim (codeRec_of X hcd) rfl (BindsTo.of_eq ?b1) (show ∀ y ∈ eS.names, y.2 ≠ .cell by decide +kernel) (locs rfl) (fun h₁ hns k => ?_) rfl rfl rfl
  case b1 => first | rfl | with_unfolding_all rfl
  have I1 : InstAt s.heap e (excO C t0) C none := ⟨hx, rfl, rfl, trivial⟩
  have hne : e ≠ C := ks_ne X I1 hcl
  obtain ⟨hp, g, d, t, os⟩ := s
  have X₁ : K.In h₁ := X.keeps k
  have hx₁ := k _ _ hx
  -- super().__init__(f'..')
  refine ks_wpAt_execs_cons (ks_wpAt_Expr_any (ks_wpAt_MethodCall ?_ (by with_unfolding_all rfl)))
  have hoH := X₁ _ _ ho
  have hcodeH := X₁ _ _ hcode
  refine' ks_wpAt_super_base (attr := "__init__") (body := eB) (f := fI) (cc := cda) ?a1 ?a2 ?a3 ?a4 ?a5 ?a6 ?a7 ?a8 ?a9 ?a10 hvs hfile T.top ?_
  case a5 => exact hoH
  case a9 => exact hcodeH
  case a1 => rfl
  case a2 => rfl
  case a3 => decide
  case a4 => rfl
  case a6 => rfl
  case a7 => rfl
  case a8 => rfl
  case a10 => rfl
  have hG : h₁.Ns mainGlobals mg := hg.keeps k
  have hB : h₁.Ns builtinsNs mb := hb.keeps k
  refine ks_loadName_global rfl rfl (loadGlobal_builtin hG T.su hB hmb ⟨rfl, ?_⟩)
  refine wpAny_loadName_free rfl rfl rfl ⟨_, X₁ _ _ hcell, rfl⟩ ?_
  refine wpAny_loadName_local rfl rfl hns rfl ?_
  have hCC := X₁ _ _ hC
  refine ks_wpAny_isType_cls hCC rfl ⟨rfl, ?_⟩
  refine ks_wpAny_call_super hCC rfl hx₁ rfl (fun c z => by cases z) (looks_mroIn X₁ T.mr) (fun h₂ hso k₂ => ?_)
  have X₂ : K.In h₂ := X₁.keeps k₂
  have hx₂ := k₂ _ _ hx₁
  have I2 : InstAt h₂ e (excO C t0) C none := ⟨hx₂, rfl, rfl, trivial⟩
  have hI : Looks (model prog w) h₂ (isInstance (.ref e) (.type "ValueError")) true := I2.type.andThen (looks_subIn X₂ T.veC)
  have hup : alongIn K "__init__" (((.ref C :: bm : List Value).dropWhile (· != .ref C)).drop 1) = some (some (.builtin "ValueError.__init__")) := by
    have := T.up
    unfold ks_superIn at this
    rw [hcl] at this
    exact this
  refine kxs_getMethod kxs_ValueError hso (looks_opaque X₂ T.op) (l₀ := .ref C :: bm) ?lk rfl X₂ hup hI hne (by decide) ?_
  case lk => exact fun A Q E s k q => wpAny_bind ((looks_clsIn X₂ hcl) A _ E s k (wpAny_pure q))
  refine kxs_callWith (i := "ValueError.__init__") (x := e) rfl (evalArgs_plain ?_)
  refine Calls.spliced_cons ?_
  -- the text
  have hn₂ : h₂.Ns hp.objs.size _ := hns.keeps k₂
  have hn₃ : (h₂.push (kxs_mw "ValueError.__init__" e)).Ns hp.objs.size _ := hn₂.keeps fun b o z => Heap.get?_push_of_some _ z
  refine wpAny_JoinedStr (pos := ⟨50, 25, 50, 50⟩) ?_
  refine Calls.Constant_str (x := msg) (k := 0) (pos := ⟨50, 27, 50, 45⟩) ?_
  refine ⟨_, _, rfl, by decide +kernel, ?_⟩
  refine wpAny_FormattedValue_plain (value := .Name "at" ⟨50, 46, 50, 48⟩) (pos := ⟨50, 45, 50, 49⟩) (ldN (env := callEnv (fnX "__init__" qual eA eB eS [("__class__", cc)] .none .none doc pm an (.ref cda) ct) hp.objs.size fI) hn₃ rfl (wpAny_formatField_int hv ?_))
  have hsz : ((Str.empty ++ msg) ++ Str.ofString (toString v)).length ≤ sizeLine := by
    rw [strLen_append, PySem.ofString_length, show (Str.empty ++ msg).length = 18 by decide +kernel, sizeLine_eq]
    have := int_text_length_le (k := 1920) (by decide) hv
    omega
  refine ⟨_, _, rfl, hsz, ?_⟩
  refine ⟨hsz, ?_⟩
  refine Calls.spliced_nil ?_
  have hu₃ : (h₂.push (kxs_mw "ValueError.__init__" e)).get? h₂.objs.size = some (kxs_mw "ValueError.__init__" e) := Heap.get?_push_at rfl rfl
  refine ⟨hu₃, ?_⟩
  have k₃ : ∀ b o, h₂.get? b = some o → (h₂.push (kxs_mw "ValueError.__init__" e)).get? b = some o := fun b o z => Heap.get?_push_of_some _ z
  have X₃ : K.In (h₂.push (kxs_mw "ValueError.__init__" e)) := X₂.keeps k₃
  refine call_mw (X₃ _ _ hC) (k₃ _ _ hx₂) hu₃ (one_size _) fun h₄ t1 k₄ hx₄ => ?_
  have X₄ : K.In h₄ := fun a o z => by
    by_cases ha : a = e
    · subst ha
      have := X₃ _ _ z
      have y := k₃ _ _ hx₂
      rw [this] at y
      have nK : K.lookup a = none := hnx
      rw [nK] at z
      cases z
    · exact k₄ _ _ ha (X₃ _ _ z)
  have hn₄ : h₄.Ns hp.objs.size _ := hn₃.at fun o z => k₄ _ _ (Nat.ne_of_gt (Heap.lt_size hx)) z
  -- self.at = at
  refine wpAt_of_wpAny ?_
  refine wpAny_execs_cons (plainObj_wpAny_Assign_Attribute ?_)
  refine ldN (v := .int v tv) hn₄ rfl (ldN (v := .ref e) hn₄ rfl ?_)
  refine set_plain X₄ (ox := excO C t1) (od := none) ⟨hx₄, rfl, rfl, trivial⟩ T.sa ?_
  refine exc_osa X₄ hx₄ hcl (show refsVE (.ref C :: bm) = true from hbm) rfl T.noN (fun h₅ tk₅ dx k₅ dn dne hx₅ hn₅ => ?_)
  refine wpAny_execs_nil ?_
  have keepAll : ∀ b o, b ≠ e → hp.get? b = some o → h₅.get? b = some o := fun b o hb z => k₅ b o hb (k₄ b o hb (k₃ _ _ (k₂ _ _ (k _ _ z))))
  refine hq h₅ tk₅ dx t1 ⟨keepAll, hx₅, ?_, dne, hn₅⟩
  exact Nat.le_trans (Nat.le_of_lt hn₄.lt) dn
theorem src_made (T : ChgTxt prog K mg nm C fI) {v : Int} {tv : Tok} (hv : v.natAbs.log2 < 1920) (X : K.In s.heap) (hlim : s.heap.NoLimit) (hg : s.heap.Ns mainGlobals mg) (hb : s.heap.Ns builtinsNs mb) (hmb : mb "super" = some (.type "super")) (hroom : A.depth + 1 < recursionLimit)
    (hq : ∀ h' tk e d, OwnMade s.heap h' e C d (.int v tv) → R (.ok (.ret (.ref e))) { s with heap := h', toks := tk }) :
    codeAny (model prog w) A (.call (.ref C) ⟨[.int v tv], []⟩) R s := by
  obtain ⟨nm, q, N, bs, bm, sn, sub, ab, col, dd, k0, k1, k2, k3, k5, hC, hbm⟩ := T.cls
  obtain ⟨hp, g, dr, tk, os⟩ := s
  have k : ∀ b o, hp.get? b = some o → ((hp.push (kdv_tup [.int v tv])).push (excO C hp.objs.size)).get? b = some o := fun b o e => Heap.get?_push_of_some _ (Heap.get?_push_of_some _ e)
  have hget : ((hp.push (kdv_tup [.int v tv])).push (excO C hp.objs.size)).get? (hp.objs.size + 1) = some (excO C hp.objs.size) := by heap_get
  have hnx : K.lookup (hp.objs.size + 1) = none := by
    cases e : K.lookup (hp.objs.size + 1) with
    | none => rfl
    | some o =>
      have z : hp.get? (hp.objs.size + 1) = some o := X _ _ e
      exact absurd (Nat.lt_of_succ_lt (Heap.lt_size z)) (Nat.lt_irrefl _)
  refine call_own F.excBase_ValueError (fun X => refsVE_contains X bm hbm) (X _ _ hC) (looks_findIn X T.iC) (fun self => bind_fn X self T.tC) (one_size _) ?_
  refine src_init (s := ⟨(hp.push (kdv_tup [.int v tv])).push (excO C hp.objs.size), g, dr, tk, os⟩) T hv (X.keeps k) (hlim.keeps k) (hg.keeps k) (hb.keeps k) hmb hget hnx ?_ fun h' tk' dx t1 ⟨k', hx, dn, dne, hns⟩ => ?_
  · show A.depth + 1 < recursionLimit
    exact hroom
  · have old : ∀ b o, hp.get? b = some o → h'.get? b = some o := fun b o e => k' b o (Nat.ne_of_lt (Nat.lt_succ_of_lt (Heap.lt_size e))) (k b o e)
    have z : hp.objs.size + 1 + 1 ≤ dx := by
      first
        | (simpa only [Heap.size_push] using dn)
        | exact dn
        | (have q := dn; rw [Heap.size_push, Heap.size_push] at q; exact q)
    exact ⟨rfl, hq h' tk' (hp.objs.size + 1) dx ⟨old, Nat.le_succ _, ⟨_, _, hx, rfl, rfl, rfl, rfl⟩, Nat.le_trans (Nat.le_trans (Nat.le_succ _) (Nat.le_succ _)) z, dne, hns⟩⟩
end
end ChgX
end PySem
namespace L2
open PySem PySem.Spec PyProof.Rows
theorem relO_chg {v : V} {v' : Value} (r : RelV v v') (f : Str) : RelO (List.lookup f [(("at" : Str), v)]) (if f = "at" then some v' else none) := by
  by_cases hw : f = "at"
  · subst hw
    rw [if_pos rfl]
    have q : List.lookup ("at" : Str) [(("at" : Str), v)] = some v := by simp [List.lookup]
    rw [q]
    exact r
  · rw [if_neg hw]
    have qw : (f == ("at" : Str)) = false := by simpa using hw
    have q2 : List.lookup f [(("at" : Str), v)] = none := by simp [List.lookup, qw]
    rw [q2]
    trivial
section
variable {X : Cx} {C fI : Addr} {nm : Str}
/-- C(e), e an int -/
def tMkChg (C : Addr) (ta : TA) : St → Hp → XK → Prop := fun σ H Q => ta σ H fun vs H1 => ∃ v : Int, vs = [.int v] ∧ v.natAbs.log2 < 1920 ∧ ∀ d, H1 d = none → Q (.ref C) (some d) (upd H1 d (.xd [(("at" : Str), .int v)]))
theorem pmk_chg {a : Expr} {ta : TA} {p pos : Pos} {k : Nat} (T : PySem.ChgX.ChgTxt X.prog X.K X.mg nm C fI) (hr : Room k X.A) (ha : PA X [a] ta) (hg : Gl X nm := by rfl) (hdb : (nm == ("__debug__" : Str)) = false := by decide)
    (he : starEach (a :: []) X.env = (false, eval a X.env) :: starEach [] X.env := by rfl) (hpl : (backTo pos (starEach [] X.env)).any (·.1) = false := by rfl) :
    PMk X (.Call (.Name nm p) [a] [] pos) (tMkChg C ta) := by
  intro pins s σ H Q I h
  refine wpAny_Call_Name_kw (ld_glob I hg T.gC ?_ hdb)
  refine PySem.W.callWith_K (h₀ := X.base) I.ok.mod.kin T.kC (thn (ha.run pos pins s σ H _ I h) fun us s1 hh => ?_) he hpl
  obtain ⟨vs, H1, I1, r1, v, ev, hv, q1⟩ := hh
  subst ev
  refine ⟨I1.kIn, ?_⟩
  cases r1 with
  | cons rv rn =>
    rename_i v' us'
    cases rn
    obtain ⟨tv, rfl⟩ := rv
    show wpAny _ _ (call (.ref C) [.int v tv]) _ _ _
    have hlim := I1.nolimit
    obtain ⟨mb, hb, hmb⟩ := I1.mod.blt
    have hb1 := hb.keeps I1.bk
    have hg1 := I1.mod.glob.keeps I1.bk
    have hsup : mb "super" = some (.type "super") := (hmb _ (by decide)).trans (by decide +kernel)
    obtain ⟨hp, g, dr, tk, os⟩ := s1
    refine wpAny_call (PySem.ChgX.src_made T hv I1.kIn hlim hg1 hb1 hsup (by have := hr.dp; omega) fun h' tk' e d M => ?_)
    show MkP X pins σ Q (.ref e) ⟨h', g, dr, tk', os⟩
    obtain ⟨oe, fv, hoe, hc, hd, hdat, h1⟩ := M.obj
    have hns := M.ns
    obtain ⟨G', g1, g2⟩ := restrict h' fun b => decide (b ≠ e)
    have gk : ∀ b, b ≠ e → G'.get? b = h'.get? b := fun b hb => g1 b (decide_eq_true hb)
    have ge : G'.get? e = none := g2 e (by simp)
    have old : ∀ b o, hp.get? b = some o → G'.get? b = some o := fun b o q => (gk b (Nat.ne_of_lt (Nat.lt_of_lt_of_le (Heap.lt_size q) M.new))).trans (M.keep b o q)
    have ob : ObjOk X.prog X.w (upd H1 d (.xd [(("at" : Str), .int v)])) G' d (.xd [(("at" : Str), .int v)]) :=
      ⟨_, hns.at (fun o q => (gk d M.dne).trans q), fun f => relO_chg (v := .int v) (v' := .int v tv) ⟨tv, rfl⟩ f⟩
    have J : Inv X pins σ (upd H1 d (.xd [(("at" : Str), .int v)])) ⟨G', g, dr, tk', os⟩ := I1.laid (t' := tk') old M.dbig ob
    refine ⟨e, oe, fv, ⟨G', g, dr, tk', os⟩, _, .ref C, some d, rfl, J, fun b o q => ?_, ge, hoe, ⟨hc, hd⟩, hdat, h1, ?_, rfl, I1.bare, raises_own T.exC T.tyC, q1 d (I1.hok.fresh M.dbig)⟩
    · by_cases hb : b = e
      · have q' : G'.get? b = some o := q
        rw [hb, ge] at q'; cases q'
      · exact (gk b hb).symm.trans q
    · rw [upd_ne (Ne.symm M.dne)]
      exact I1.hok.fresh M.new
/-- raise C(e) -/
def tRaiseChg (C : Addr) (W : WX) (ta : TA) : TS := fun _ σ H => tMkChg C ta σ H fun cls d H' => W cls d σ H'
theorem ps_raiseChg {a : Expr} {ta : TA} {W : WX} {p pos pos2 : Pos} {k : Nat} (hc : X.calm = true) (T : PySem.ChgX.ChgTxt X.prog X.K X.mg nm C fI) (hr : Room k X.A) (tk : Takes X W) (ha : PA X [a] ta) (hg : Gl X nm := by rfl) (hdb : (nm == ("__debug__" : Str)) = false := by decide)
    (he : starEach (a :: []) X.env = (false, eval a X.env) :: starEach [] X.env := by rfl) (hpl : (backTo pos (starEach [] X.env)).any (·.1) = false := by rfl) :
    PS X (.Raise (some (.Call (.Name nm p) [a] [] pos)) none pos2) (tRaiseChg C W ta) := ps_raise hc tk (pmk_chg T hr ha hg hdb he hpl)
/-- err.at, err the exception that the suite holds (at a; its class cls, its dict d) -/
def tByChg (C : Addr) (a : Addr) (cls : Value) (d : Option Addr) (te : TE) : TE := fun σ H Q => te σ H fun x H1 => x = .ref a ∧ cls = .ref C ∧ ∃ (dd : Addr) (v : V), d = some dd ∧ H1 dd = some (.xd [(("at" : Str), v)]) ∧ Q v H1
theorem pe_byChg {a : Addr} {oe : Obj} {cls : Value} {d : Option Addr} {pn : List (Addr × Obj)} {e : Expr} {te : TE} {pos : Pos} (T : PySem.ChgX.ChgTxt X.prog X.K X.mg nm C fI) (hz : Zc cls d oe) (hf : ∃ vs, oe.data = .fields vs) (he : PE (X.suite a ((a, oe) :: pn)) e te)
    (hb : attributeBase e "at" X.env (eval e X.env) = eval e X.env := by rfl) :
    PE (X.suite a ((a, oe) :: pn)) (.Attribute e "at" pos) (tByChg C a cls d te) := by
  refine ⟨fun pins s σ H Q I h => ?_⟩
  refine attr_of hb (thn (he.run pins s σ H _ I h) fun u s1 hh => ?_)
  obtain ⟨x, H1, I1, rx, ex, ec, dd, v, ed, ea, q⟩ := hh
  subst ex
  obtain rfl : u = Value.ref a := rx
  subst ec
  subst ed
  obtain ⟨ha, _⟩ := I1.pin (a, oe) (List.mem_append_left _ List.mem_cons_self)
  obtain ⟨vs, hd⟩ := hf
  have hx : ObjOk X.prog X.w H1 s1.heap dd (.xd [(("at" : Str), v)]) := I1.hok dd _ ea
  obtain ⟨mA, hns, hr⟩ := hx
  obtain ⟨od, ho, hl⟩ := lookIn_ns hns
  have l : List.lookup ("at" : Str) [(("at" : Str), v)] = some v := by simp [List.lookup]
  obtain ⟨u, hu, ru⟩ := RelO.some_of (v := v) (o := mA "at") (by rw [← l]; exact hr "at")
  have J : PySem.W.InstAt s1.heap a oe C (some od) := ⟨ha, hz.1, by unfold PySem.W.notCls; rw [hd] <;> rfl, by rw [hz.2]; exact ho⟩
  exact HandSPX.exc_get I1.kIn J T.ga T.gg T.exC (PySem.W.findObj_own T.hdC T.noN rfl (by rw [hl, hu])) (handed_of ru) ⟨v, H1, I1.tok _, ru, q⟩
end
end L2
/-! Objects of the program's own classes, where nothing is raised: fields, methods, new ones. -/
namespace Lv
open PySem PySem.Spec PyProof.Rows L2
open C8 (Cal Met Mak cal0 pe_c pe_gc pss_cut tCut)
def OFld (K : PySem.W.Frag) (f : Str) (x : V) (H : Hp) (Q : VK) : Prop := ∃ a C dx fs v, x = .ref a ∧ H a = some (.ins C dx fs) ∧ Cls K C ∧ NoAttr K C f ∧ fs.lookup f = some v ∧ Q v H
def OMeth (C : Addr) (m : Str) (sp : Sp) (dvs : List V) (E : XK) (t : TA) (σ : L2.St) (x : V) (H : Hp) (Q : VK) : Prop := ∃ a dx fs, x = .ref a ∧ H a = some (.ins C dx fs) ∧ fs.lookup m = none ∧ t σ H fun vs H2 => sp (x :: (vs ++ dvs)) H2 Q E
def OSet (K : PySem.W.Frag) (f : Str) (y x : V) (H : Hp) (G : Hp → Prop) : Prop := ∃ a C dx fs, x = .ref a ∧ H a = some (.ins C dx fs) ∧ Cls K C ∧ NoAttr K C f ∧ fs.length < 1000 ∧ G (upd H a (.ins C dx (putF f y fs)))
def OMake (C : Addr) (sp : Sp) (dvs : List V) (E : XK) (vs : List V) (H1 : Hp) (Q : VK) : Prop := ∀ x dx, H1 x = none → H1 dx = none → dx ≠ x → sp (.ref x :: (vs ++ dvs)) (upd (upd H1 dx (.own x)) x (.ins C dx [])) (fun v H2 => v = .non ∧ Q (.ref x) H2) E
section
variable {σ : L2.St} {H : Hp} {Q : VK} {D : Ends} {v x y : V} {ta tv : TE} {t : TA} {K : PySem.W.Frag} {f m : Str} {C r dx : Addr} {fs : List (Str × V)} {sp : Sp} {dvs : List V} {E : XK} {rd : V → V → Hp → VK → Prop} {G : Hp → Prop}
theorem o_fld (k : ta σ H fun x H1 => OFld K f x H1 Q) : tFld K ta f σ H Q := k
theorem o_meth (k : ta σ H fun x H1 => OMeth C m sp dvs E t σ x H1 Q) : tMeth C m sp dvs E ta t σ H Q := k
theorem o_fldS (k : tv σ H fun y H1 => ta σ H1 fun x H2 => OSet K f y x H2 fun H3 => D.nx σ H3) : sFld K ta tv f D σ H := k
theorem o_make (k : t σ H fun vs H1 => OMake C sp dvs E vs H1 Q) : tMake C sp dvs E t σ H Q := k
theorem o_fat (h : H r = some (.ins C dx fs)) (c : Cls K C) (n : NoAttr K C f) (l : fs.lookup f = some v) (k : Q v H) : OFld K f (.ref r) H Q := ⟨r, C, dx, fs, v, rfl, h, c, n, l, k⟩
theorem o_mat (h : H r = some (.ins C dx fs)) (l : fs.lookup m = none) (k : t σ H fun vs H2 => sp (.ref r :: (vs ++ dvs)) H2 Q E) : OMeth C m sp dvs E t σ (.ref r) H Q := ⟨r, dx, fs, rfl, h, l, k⟩
theorem o_set (h : H r = some (.ins C dx fs)) (c : Cls K C) (n : NoAttr K C f) (l : fs.length < 1000) (k : ∀ H3, H3 r = some (.ins C dx (putF f y fs)) → (∀ b o, b ≠ r → H b = some o → H3 b = some o) → (∀ b, H3 b = none → H b = none) → G H3) : OSet K f y (.ref r) H G :=
  ⟨r, C, dx, fs, rfl, h, c, n, l, k _ upd_same (fun b o n e => by rw [upd_ne n]; exact e) fun b e => by
    by_cases z : b = r
    · rw [z, upd_same] at e; cases e
    · rw [upd_ne z] at e; exact e⟩
end
/-- all but two objects is as it was -/
def Fq (il bl : Addr) (H H' : Hp) : Prop := (∀ b o, b ≠ il → b ≠ bl → H b = some o → H' b = some o) ∧ ∀ b, H' b = none → H b = none
section
variable {il bl : Addr} {H H1 H2 : Hp}
theorem Fq.refl : Fq il bl H H := ⟨fun _ _ _ _ h => h, fun _ h => h⟩
theorem Fq.trans (a : Fq il bl H H1) (b : Fq il bl H1 H2) : Fq il bl H H2 := ⟨fun c o n m h => b.1 c o n m (a.1 c o n m h), fun c h => a.2 c (b.2 c h)⟩
theorem Fq.same (s : Same H H1) : Fq il bl H H1 := ⟨fun b o _ _ h => s b o h, fun b h => s.free h⟩
theorem Fq.l (h : H il = some (.lst xs)) (h1 : H1 il = some o) (k : ∀ b o, b ≠ il → H b = some o → H1 b = some o) : Fq il bl H H1 := ⟨fun b o n _ e => k b o n e, fun b e => by
  by_cases z : b = il
  · rw [z, h1] at e; cases e
  · cases q : H b with
    | none => rfl
    | some o => rw [k b o z q] at e; cases e⟩
theorem Fq.r (h1 : H1 bl = some o) (k : ∀ b o, b ≠ bl → H b = some o → H1 b = some o) : Fq il bl H H1 := ⟨fun b o _ n e => k b o n e, fun b e => by
  by_cases z : b = bl
  · rw [z, h1] at e; cases e
  · cases q : H b with
    | none => rfl
    | some o => rw [k b o z q] at e; cases e⟩
end
end Lv
/-! Definitions of classes, in plain Lean. -/
namespace Lv
/-- a class: its name, the one above it, its own slots, its own methods (selector, text) -/
structure Cl where
  nm : List Nat
  base : Option (List Nat)
  slots : List (List Nat)
  texts : List (List Nat × List Nat)
def thing : Cl := ⟨cds "Thing", none, [], []⟩
def nms (ds : List Cl) : List (List Nat) := ds.map (·.nm)
/-- newest first: each class stands above (behind) a class that is there -/
inductive Dv : List Cl → Prop
  | top : Dv [thing]
  | more {c : Cl} {r : List Cl} {b : List Nat} : Dv r → c.base = some b → b ∈ nms r → c.nm ∉ nms r → Dv (c :: r)
def upL (f : List Nat → List (List Nat)) : Option (List Nat) → List (List Nat)
  | none => []
  | some b => f b
/-- the names of a class and of all above it -/
def lineR : List Cl → List Nat → List (List Nat)
  | [], _ => []
  | c :: r, n => if c.nm = n then n :: upL (lineR r) c.base else lineR r n
def lineD (ds : List Cl) (n : List Nat) : List (List Nat) := lineR ds.reverse n
def DsOk (ds : List Cl) : Prop := Dv ds.reverse
def getC (ds : List Cl) (n : List Nat) : Option Cl := ds.find? fun c => decide (c.nm = n)
def slotsD (ds : List Cl) (n : List Nat) : List (List Nat) := match getC ds n with
  | some c => c.slots
  | none => []
def textsD (ds : List Cl) (n : List Nat) : List (List Nat × List Nat) := match getC ds n with
  | some c => c.texts
  | none => []
def allS (ds : List Cl) (n : List Nat) : List (List Nat) := (lineD ds n).foldl (fun a m => slotsD ds m ++ a) []
def hasS (ds : List Cl) (n s : List Nat) : Bool := decide (n ∈ nms ds) && decide (s ∈ allS ds n)
/-- a change as the definitions take it -/
inductive Ch where
  | cls (n b : List Nat) (ss : List (List Nat))
  | nocls (n : List Nat)
  | slot (n s : List Nat)
  | noslot (n s : List Nat)
  | meth (n sel txt : List Nat)
  | nometh (n sel : List Nat)
def Ch.nm : Ch → List Nat
  | .cls n _ _ => n
  | .nocls n => n
  | .slot n _ => n
  | .noslot n _ => n
  | .meth n _ _ => n
  | .nometh n _ => n
/-- as an entry -/
def Ch.tr : Ch → Tr
  | .cls n b ss => .t [.s (cds "class"), .s n, .s b, .t (ss.map .s)]
  | .nocls n => .t [.s (cds "no class"), .s n]
  | .slot n s => .t [.s (cds "slot"), .s n, .s s]
  | .noslot n s => .t [.s (cds "no slot"), .s n, .s s]
  | .meth n sel txt => .t [.s (cds "method"), .s n, .s sel, .s txt]
  | .nometh n sel => .t [.s (cds "no method"), .s n, .s sel]
/-- as a change -/
def Ch.ch : Ch → Tr
  | .meth n _ txt => .t [.s (cds "method"), .s n, .s txt]
  | c => c.tr
def below (ds : List Cl) (n : List Nat) : List Cl := ds.filter fun c => decide (n ∈ lineD ds c.nm)
def slotBelow (ds : List Cl) (n s : List Nat) : Bool := (below ds n).any fun c => decide (s ∈ c.slots)
def clsBelow (ds : List Cl) (n : List Nat) : Bool := ds.any fun c => decide (c.base = some n)
def refC (ds : List Cl) (n b : List Nat) (ss : List (List Nat)) : Bool :=
  if n ∈ nms ds ∨ b ∉ nms ds then true else if ds.length = 20 ∨ 8 < ss.length then true else !decide ss.Nodup || ss.any (hasS ds b)
def refS (ds : List Cl) (n s : List Nat) : Bool :=
  if n = cds "Thing" ∨ (slotsD ds n).length = 8 then true else hasS ds n s || slotBelow ds n s
/-- whether a change is refused -/
def refM (ds : List Cl) : Ch → Bool
  | .cls n b ss => refC ds n b ss
  | .nocls n => if n ∉ nms ds then true else decide (n = cds "Thing") || clsBelow ds n
  | .slot n s => if n ∉ nms ds then true else refS ds n s
  | .noslot n s => if n ∉ nms ds then true else decide (s ∉ slotsD ds n)
  | .meth n _ _ => if n ∉ nms ds then true else decide (n = cds "Thing")
  | .nometh n sel => if n ∉ nms ds then true else decide (sel ∉ (textsD ds n).map (·.1))
def onC (n : List Nat) (f : Cl → Cl) (ds : List Cl) : List Cl := ds.map fun c => if c.nm = n then f c else c
def putT (l : List (List Nat × List Nat)) (k v : List Nat) : List (List Nat × List Nat) := if k ∈ l.map (·.1) then l.map fun p => if p.1 = k then (p.1, v) else p else l ++ [(k, v)]
def dropT (l : List (List Nat × List Nat)) (k : List Nat) : List (List Nat × List Nat) := l.filter fun p => decide (p.1 ≠ k)
/-- what a change that is not refused makes -/
def carM (ds : List Cl) : Ch → List Cl
  | .cls n b ss => ds ++ [⟨n, some b, ss, []⟩]
  | .nocls n => ds.filter fun c => decide (c.nm ≠ n)
  | .slot n s => onC n (fun c => { c with slots := c.slots ++ [s] }) ds
  | .noslot n s => onC n (fun c => { c with slots := c.slots.erase s }) ds
  | .meth n sel txt => onC n (fun c => { c with texts := putT c.texts sel txt }) ds
  | .nometh n sel => onC n (fun c => { c with texts := dropT c.texts sel }) ds
/-! ### facts -/
theorem nms_app (a b : List Cl) : nms (a ++ b) = nms a ++ nms b := List.map_append
theorem nms_rev (a : List Cl) : nms a.reverse = (nms a).reverse := List.map_reverse
theorem Dv.nd : ∀ {r : List Cl}, Dv r → (nms r).Nodup
  | _, .top => by simp [nms]
  | _, .more h _ _ hn => List.nodup_cons.mpr ⟨hn, h.nd⟩
theorem Dv.pos : ∀ {r : List Cl}, Dv r → thing ∈ r
  | _, .top => List.mem_singleton.mpr rfl
  | _, .more h _ _ _ => List.mem_cons_of_mem _ h.pos
theorem DsOk.nd {ds : List Cl} (h : DsOk ds) : (nms ds).Nodup := by
  have := Dv.nd h
  rw [nms_rev] at this
  exact (List.reverse_perm _).nodup_iff.mp this
theorem DsOk.top {ds : List Cl} (h : DsOk ds) : thing ∈ ds := List.mem_reverse.mp (Dv.pos h)
theorem DsOk.new : DsOk [thing] := Dv.top
/-- one step up -/
theorem line_go : ∀ {q : List Cl} {n : List Nat}, Dv q → n ∈ nms q → ∃ c q', c ∈ q ∧ c.nm = n ∧ q' <:+ q ∧ q'.length < q.length ∧ lineR q n = n :: upL (lineR q') c.base ∧ ∀ b, c.base = some b → b ∈ nms q' ∧ Dv q'
  | _, n, .top, hn => by
    have hn : n = cds "Thing" := by simpa [nms, thing] using hn
    subst hn
    refine ⟨thing, [], List.mem_singleton.mpr rfl, rfl, List.nil_suffix, by decide, ?_, fun b hb => by cases hb⟩
    unfold lineR
    exact if_pos (show thing.nm = cds "Thing" from rfl)
  | c :: r, n, .more h hb hm hn', hn => by
    by_cases e : c.nm = n
    · refine ⟨c, r, List.mem_cons_self, e, List.suffix_cons c r, by simp, ?_, fun b h2 => ?_⟩
      · conv => lhs; unfold lineR
        rw [if_pos e]
      · rw [hb] at h2; cases h2; exact ⟨hm, h⟩
    · have hn2 : n ∈ nms r := by
        have : n ∈ c.nm :: nms r := hn
        rcases List.mem_cons.mp this with k | k
        · exact absurd k.symm e
        · exact k
      obtain ⟨c', q', h1, h2, h3, h4, h5, h6⟩ := line_go h hn2
      refine ⟨c', q', List.mem_cons_of_mem _ h1, h2, h3.trans (List.suffix_cons c r), by simp; omega, ?_, h6⟩
      conv => lhs; unfold lineR
      rw [if_neg e]
      exact h5
theorem lineR_mem : ∀ {q : List Cl} {n m : List Nat}, m ∈ lineR q n → m ∈ nms q
  | [], _, _, h => by simp [lineR] at h
  | c :: r, n, m, h => by
    unfold lineR at h
    by_cases e : c.nm = n
    · rw [if_pos e] at h
      rcases List.mem_cons.mp h with k | k
      · rw [k, ← e]; exact List.mem_cons_self
      · cases hb : c.base with
        | none => rw [hb] at k; simp [upL] at k
        | some b => rw [hb] at k; exact List.mem_cons_of_mem _ (lineR_mem k)
    · rw [if_neg e] at h
      exact List.mem_cons_of_mem _ (lineR_mem h)
theorem lineR_len : ∀ (q : List Cl) (n : List Nat), (lineR q n).length ≤ q.length
  | [], _ => Nat.zero_le _
  | c :: r, n => by
    unfold lineR
    by_cases e : c.nm = n
    · rw [if_pos e]
      cases hb : c.base with
      | none => simp [upL]
      | some b => have := lineR_len r b; simp [upL]; omega
    · rw [if_neg e]
      have := lineR_len r n
      simp; omega
theorem line_mem {ds : List Cl} {n m : List Nat} (h : m ∈ lineD ds n) : m ∈ nms ds := by
  have := lineR_mem h
  rw [nms_rev] at this
  exact List.mem_reverse.mp this
theorem line_len (ds : List Cl) (n : List Nat) : (lineD ds n).length ≤ ds.length := by
  have := lineR_len ds.reverse n
  rw [List.length_reverse] at this
  exact this
theorem getC_mem {ds : List Cl} {n : List Nat} (h : n ∈ nms ds) : ∃ c, c ∈ ds ∧ c.nm = n ∧ getC ds n = some c := by
  cases e : getC ds n with
  | some c =>
    have h1 := List.find?_some e
    exact ⟨c, List.mem_of_find?_eq_some e, of_decide_eq_true h1, rfl⟩
  | none =>
    obtain ⟨c, hc, e2⟩ := List.mem_map.mp h
    have := List.find?_eq_none.mp e c hc
    exact absurd (decide_eq_true e2) this
theorem getC_of {ds : List Cl} (hnd : (nms ds).Nodup) {c : Cl} (h : c ∈ ds) : getC ds c.nm = some c := by
  obtain ⟨c', h1, h2, h3⟩ := getC_mem (List.mem_map.mpr ⟨c, h, rfl⟩ : c.nm ∈ nms ds)
  have : c' = c := by
    induction ds with
    | nil => simp at h
    | cons x r ih =>
      have hnd2 := List.nodup_cons.mp (show (x.nm :: nms r).Nodup from hnd)
      rcases List.mem_cons.mp h with k | k
      · rcases List.mem_cons.mp h1 with k1 | k1
        · rw [k, k1]
        · exact absurd (List.mem_map.mpr ⟨c', k1, by rw [h2, k]⟩) hnd2.1
      · rcases List.mem_cons.mp h1 with k1 | k1
        · exact absurd (List.mem_map.mpr ⟨c, k, by rw [← h2, k1]⟩) hnd2.1
        · refine ih hnd2.2 k k1 ?_
          unfold getC at h3 ⊢
          rw [List.find?_cons] at h3
          by_cases e : x.nm = c.nm
          · exact absurd (List.mem_map.mpr ⟨c, k, e.symm⟩) hnd2.1
          · simpa [e] using h3
  rw [h3, this]
/-! ### what changes keep -/
theorem Dv.filter {n : List Nat} (hn : n ≠ cds "Thing") : ∀ {r : List Cl}, Dv r → (∀ c ∈ r, c.base ≠ some n) → Dv (r.filter fun c => decide (c.nm ≠ n))
  | _, .top, _ => by
    have e : [thing].filter (fun c => decide (c.nm ≠ n)) = [thing] := by
      have : ¬ thing.nm = n := fun e => hn e.symm
      simp [this]
    rw [e]
    exact .top
  | c :: r, .more h hb hm hn', hc => by
    have ih := h.filter hn fun c' h' => hc c' (List.mem_cons_of_mem _ h')
    by_cases e : c.nm = n
    · rw [show (c :: r).filter (fun c => decide (c.nm ≠ n)) = r.filter (fun c => decide (c.nm ≠ n)) by simp [e]]
      exact ih
    · rw [show (c :: r).filter (fun c => decide (c.nm ≠ n)) = c :: r.filter (fun c => decide (c.nm ≠ n)) by simp [e]]
      refine .more ih hb ?_ fun z => hn' ?_
      · obtain ⟨x, hx, ex⟩ := List.mem_map.mp hm
        refine List.mem_map.mpr ⟨x, List.mem_filter.mpr ⟨hx, decide_eq_true fun e2 => ?_⟩, ex⟩
        refine hc c List.mem_cons_self ?_
        rw [hb, ← ex, e2]
      · obtain ⟨x, hx, ex⟩ := List.mem_map.mp z
        exact List.mem_map.mpr ⟨x, (List.mem_filter.mp hx).1, ex⟩
theorem nms_onC {n : List Nat} {f : Cl → Cl} (hf : ∀ c, (f c).nm = c.nm) (ds : List Cl) : nms (onC n f ds) = nms ds := by
  unfold nms onC
  rw [List.map_map]
  refine List.map_congr_left fun c _ => ?_
  show (if c.nm = n then f c else c).nm = c.nm
  split
  · exact hf c
  · rfl
theorem Dv.onC {n : List Nat} {f : Cl → Cl} (hn : n ≠ cds "Thing") (hf : ∀ c, (f c).nm = c.nm) (hb : ∀ c, (f c).base = c.base) : ∀ {r : List Cl}, Dv r → Dv (onC n f r)
  | _, .top => by
    show Dv [if thing.nm = n then f thing else thing]
    rw [if_neg (fun e => hn (show n = cds "Thing" from e.symm))]
    exact .top
  | c :: r, .more h h1 h2 h3 => by
    have e1 : (if c.nm = n then f c else c).base = c.base := by split; exact hb c; rfl
    have e2 : (if c.nm = n then f c else c).nm = c.nm := by split; exact hf c; rfl
    have e3 := nms_onC (n := n) hf r
    exact Dv.more (h.onC hn hf hb) (e1.trans h1) (e3.symm ▸ h2 : _ ∈ nms (Lv.onC n f r)) (show (if c.nm = n then f c else c).nm ∉ nms (Lv.onC n f r) by rw [e3, e2]; exact h3)
theorem onC_rev (n : List Nat) (f : Cl → Cl) (ds : List Cl) : (Lv.onC n f ds).reverse = Lv.onC n f ds.reverse := by
  unfold Lv.onC
  rw [List.map_reverse]
/-- a change that is not refused keeps the order -/
theorem DsOk.car {ds : List Cl} (h : DsOk ds) {c : Ch} (r : refM ds c = false) : DsOk (carM ds c) := by
  cases c with
  | cls n b ss =>
    have r : refC ds n b ss = false := r
    unfold refC at r
    by_cases k : n ∈ nms ds ∨ b ∉ nms ds
    · rw [if_pos k] at r; cases r
    · unfold DsOk carM
      rw [List.reverse_append]
      have h1 : b ∈ nms ds.reverse := by rw [nms_rev]; exact List.mem_reverse.mpr (Classical.byContradiction fun z => k (.inr z))
      have h2 : n ∉ nms ds.reverse := by rw [nms_rev]; exact fun z => k (.inl (List.mem_reverse.mp z))
      exact Dv.more (c := ⟨n, some b, ss, []⟩) h rfl h1 h2
  | nocls n =>
    have r : (if n ∉ nms ds then true else decide (n = cds "Thing") || clsBelow ds n) = false := r
    by_cases k : n ∉ nms ds
    · rw [if_pos k] at r; cases r
    · rw [if_neg k, Bool.or_eq_false_iff, decide_eq_false_iff_not] at r
      show Dv (ds.filter _).reverse
      rw [← List.filter_reverse]
      refine Dv.filter r.1 h fun c hc e => ?_
      have := r.2
      unfold clsBelow at this
      rw [List.any_eq_false] at this
      exact this c (List.mem_reverse.mp hc) (decide_eq_true e)
  | slot n s =>
    have r : (if n ∉ nms ds then true else refS ds n s) = false := r
    by_cases k : n ∉ nms ds
    · rw [if_pos k] at r; cases r
    · rw [if_neg k] at r
      unfold refS at r
      by_cases k2 : n = cds "Thing" ∨ (slotsD ds n).length = 8
      · rw [if_pos k2] at r; cases r
      · unfold DsOk carM
        rw [onC_rev]
        refine Dv.onC (fun e => k2 (.inl e)) (fun c => ?_) (fun c => ?_) h
        · rfl
        · rfl
  | noslot n s =>
    have r : (if n ∉ nms ds then true else decide (s ∉ slotsD ds n)) = false := r
    by_cases k : n ∉ nms ds
    · rw [if_pos k] at r; cases r
    · rw [if_neg k, decide_eq_false_iff_not, Classical.not_not] at r
      show Dv (onC _ _ ds).reverse
      rw [onC_rev]
      refine Dv.onC (fun e => ?_) (fun c => by rfl) (fun c => by rfl) h
      have g := getC_of h.nd h.top
      unfold slotsD at r
      rw [e, show cds "Thing" = thing.nm from rfl, g] at r
      cases r
  | meth n sel txt =>
    have r : (if n ∉ nms ds then true else decide (n = cds "Thing")) = false := r
    by_cases k : n ∉ nms ds
    · rw [if_pos k] at r; cases r
    · rw [if_neg k, decide_eq_false_iff_not] at r
      show Dv (onC _ _ ds).reverse
      rw [onC_rev]
      refine Dv.onC r (fun c => by rfl) (fun c => by rfl) h
  | nometh n sel =>
    have r : (if n ∉ nms ds then true else decide (sel ∉ (textsD ds n).map (·.1))) = false := r
    by_cases k : n ∉ nms ds
    · rw [if_pos k] at r; cases r
    · rw [if_neg k, decide_eq_false_iff_not, Classical.not_not] at r
      show Dv (onC _ _ ds).reverse
      rw [onC_rev]
      refine Dv.onC (fun e => ?_) (fun c => by rfl) (fun c => by rfl) h
      have g := getC_of h.nd h.top
      unfold textsD at r
      rw [e, show cds "Thing" = thing.nm from rfl, g] at r
      cases r
end Lv
/-! The compiler as a plain function: instructions and codes of blocks, as trees. -/
namespace Lv
open PySem PySem.Spec PyProof.Rows L2
/-- instructions, blocks -/
abbrev CS := List Tr × List Tr
def cput (i : Tr) (S : CS) : CS := (S.1 ++ [i], S.2)
/-- an instruction that leads to the next one -/
def cled (k : Nat) (S : CS) : CS := (S.1.set k (match S.1[k]? with | some (.t (w :: _)) => .t [w, .i (S.1.length : Int)] | _ => .n), S.2)
def cpl (w : String) (S : CS) : CS := cput (.t [str w, .n]) S
/-- a place of a name: number of the scope and in it, a slot, a global name -/
def plcT (a : List Nat) (sl : Ws) : Nat → List Ws → Tr
  | _, [] => if a ∈ sl then .t [str "slot", .s a] else .t [str "global", .s a]
  | up, s :: ss => if a ∈ s then .t [str "local", .i (up : Int), .i ((s.idxOf a : Nat) : Int)] else plcT a sl (up + 1) ss
def nmsT (l : List Tr) : Ws := l.map fun | .s a => a | _ => []
theorem nmsT_map (ps : Ws) : nmsT (ps.map Tr.s) = ps := by
  unfold nmsT
  rw [List.map_map]
  exact List.map_id' _
def isEval : Tr → Bool
  | .t (.s k :: _) => decide (k = cds "eval")
  | _ => false
def cfold (c : Tr → CS → CS) : List Tr → CS → CS
  | [], S => S
  | t :: l, S => cfold c l (c t S)
theorem cfold_append (c : Tr → CS → CS) : ∀ (a b : List Tr) (S : CS), cfold c (a ++ b) S = cfold c b (cfold c a S)
  | [], _, _ => rfl
  | t :: a, b, S => cfold_append c a b (c t S)
def cend (S : CS) : CS := cput (.t [str "end"]) (cput (.t [str "push", .n]) S)
/-- what a block's body comes to -/
def cblk (c : Tr → CS → CS) (l : List Tr) : CS :=
  let S := cfold c l ([], [])
  match l.getLast? with
  | some t => if isEval t = true then (S.1.set (S.1.length - 1) (.t [str "end"]), S.2) else cend S
  | none => cend S
def ctruth (wrong : List Nat) (S : CS) : CS :=
  let S1 := cput (.t [str "push", .b true]) S
  let leave := S1.1.length
  let S2 := cpl "jump" S1
  let S3 := wrong.foldl (fun S k => cled k S) S2
  cled leave (cput (.t [str "push", .b false]) S3)
section
variable (c : List Ws → Tr → CS → CS) (sl : Ws) (sc : List Ws)
def cAnd (a b : Tr) (S : CS) : CS :=
  let S1 := c sc a S
  let S2 := c sc b (cpl "unless" S1)
  ctruth [S1.1.length, S2.1.length] (cpl "unless" S2)
def cOr (a b : Tr) (S : CS) : CS :=
  let S1 := c sc a S
  let S2 := cput (.t [str "push", .b true]) (cpl "unless" S1)
  let S3 := cled S1.1.length (cpl "jump" S2)
  let S4 := c sc b S3
  cled S2.1.length (ctruth [S4.1.length] (cpl "unless" S4))
def cBlk (ps l : List Tr) (S : CS) : CS :=
  let B := cblk (c (nmsT ps :: sc)) l
  ((cput (.t [str "block", .i (S.2.length : Int)]) S).1, S.2 ++ [.t [str "code", .i (ps.length : Int), .t B.1, .t B.2]])
def cWhl (t : Tr) (l : List Tr) (S : CS) : CS :=
  let S1 := c sc t S
  let S2 := cfold (c sc) l (cpl "unless" S1)
  cled S1.1.length (cput (.t [str "jump", .i (S.1.length : Int)]) S2)
def cIf0 (t : Tr) (l : List Tr) (S : CS) : CS :=
  let S1 := c sc t S
  cled S1.1.length (cfold (c sc) l (cpl "unless" S1))
def cIf1 (t : Tr) (l m : List Tr) (S : CS) : CS :=
  let S1 := c sc t S
  let S2 := cfold (c sc) l (cpl "unless" S1)
  let S3 := cled S1.1.length (cpl "jump" S2)
  cled S2.1.length (cfold (c sc) m S3)
def cTry (l : List Tr) (a : List Nat) (m : List Tr) (S : CS) : CS :=
  let S2 := cput (.t [str "done"]) (cfold (c sc) l (cpl "try" S))
  let S3 := cled S.1.length (cpl "jump" S2)
  let S4 := cput (.t [str "set", plcT a sl 0 sc]) S3
  cled S2.1.length (cfold (c sc) m S4)
def cKeep (l m : List Tr) (S : CS) : CS :=
  let S2 := cput (.t [str "always"]) (cfold (c sc) l (cpl "keep" S))
  cput (.t [str "resume"]) (cfold (c sc) m (cled S.1.length S2))
/-- one part, its kind told; c compiles its parts -/
def cKd (ow : List Nat) (k : List Nat) (r : List Tr) (S : CS) : CS :=
  if k = cds "plain" then (match r with | [v] => cput (.t [str "push", v]) S | _ => S)
  else if k = cds "name" then (match r with | [.s a] => cput (plcT a sl 0 sc) S | _ => S)
  else if k = cds "neg" ∨ k = cds "not" then (match r with | [t] => cput (.t [.s k]) (c sc t S) | _ => S)
  else if k = cds "op" then (match r with | [s, a, b] => cput (.t [str "op", s]) (c sc b (c sc a S)) | _ => S)
  else if k = cds "and" then (match r with | [a, b] => cAnd c sc a b S | _ => S)
  else if k = cds "or" then (match r with | [a, b] => cOr c sc a b S | _ => S)
  else if k = cds "send" then (match r with | [t, a, .t l] => cput (.t [str "send", a, .i (l.length : Int)]) (cfold (c sc) l (c sc t S)) | _ => S)
  else if k = cds "super" then (match r with | [a, .t l] => cput (.t [str "super", .s ow, a, .i (l.length : Int)]) (cfold (c sc) l S) | _ => S)
  else if k = cds "block" then (match r with | [.t ps, .t l] => cBlk c sc ps l S | _ => S)
  else if k = cds "while" then (match r with | [t, .t l] => cWhl c sc t l S | _ => S)
  else if k = cds "if" then (match r with | [t, .t l, .t m] => (if m.isEmpty = true then cIf0 c sc t l S else cIf1 c sc t l m S) | _ => S)
  else if k = cds "try" then (match r with | [.t l, .s a, .t m] => cTry c sl sc l a m S | _ => S)
  else if k = cds "keep" then (match r with | [.t l, .t m] => cKeep c sc l m S | _ => S)
  else if k = cds "set" then (match r with | [.s a, t] => cput (.t [str "set", plcT a sl 0 sc]) (c sc t S) | _ => S)
  else if k = cds "eval" then (match r with | [t] => cput (.t [str "pop"]) (c sc t S) | _ => S)
  else if k = cds "give" ∨ k = cds "fail" then (match r with | [t] => cput (.t [.s k]) (c sc t S) | _ => S)
  else cput (.t (.s k :: r)) S
end
/-- a part of a method, compiled -/
def cX (sl : Ws) (ow : List Nat) : Nat → List Ws → Tr → CS → CS
  | 0, _, _, S => S
  | f + 1, sc, .t (.s k :: r), S => cKd (cX sl ow f) sl sc ow k r S
  | _ + 1, _, _, S => S
local macro_rules | `(tactic| walk_at "cd") => `(tactic| (unfold cKd; repeat (first | rw [if_pos (by decide +kernel)] | rw [if_neg (by decide +kernel)])))
section
variable (c : List Ws → Tr → CS → CS) (sl : Ws) (ow : List Nat) (sc : List Ws) (S : CS)
theorem cd_plain (v : Tr) : cKd c sl sc ow (cds "plain") [v] S = cput (.t [str "push", v]) S := by walk_at "cd"
theorem cd_name (a : List Nat) : cKd c sl sc ow (cds "name") [.s a] S = cput (plcT a sl 0 sc) S := by walk_at "cd"
theorem cd_neg (t : Tr) : cKd c sl sc ow (cds "neg") [t] S = cput (.t [str "neg"]) (c sc t S) := by walk_at "cd"; rfl
theorem cd_not (t : Tr) : cKd c sl sc ow (cds "not") [t] S = cput (.t [str "not"]) (c sc t S) := by walk_at "cd"; rfl
theorem cd_op (s a b : Tr) : cKd c sl sc ow (cds "op") [s, a, b] S = cput (.t [str "op", s]) (c sc b (c sc a S)) := by walk_at "cd"
theorem cd_send (t a : Tr) (l : List Tr) : cKd c sl sc ow (cds "send") [t, a, .t l] S = cput (.t [str "send", a, .i (l.length : Int)]) (cfold (c sc) l (c sc t S)) := by walk_at "cd"
theorem cd_super (a : Tr) (l : List Tr) : cKd c sl sc ow (cds "super") [a, .t l] S = cput (.t [str "super", .s ow, a, .i (l.length : Int)]) (cfold (c sc) l S) := by walk_at "cd"
theorem cd_set (a : List Nat) (t : Tr) : cKd c sl sc ow (cds "set") [.s a, t] S = cput (.t [str "set", plcT a sl 0 sc]) (c sc t S) := by walk_at "cd"
theorem cd_eval (t : Tr) : cKd c sl sc ow (cds "eval") [t] S = cput (.t [str "pop"]) (c sc t S) := by walk_at "cd"
theorem cd_give (t : Tr) : cKd c sl sc ow (cds "give") [t] S = cput (.t [str "give"]) (c sc t S) := by walk_at "cd"; rfl
theorem cd_fail (t : Tr) : cKd c sl sc ow (cds "fail") [t] S = cput (.t [str "fail"]) (c sc t S) := by walk_at "cd"; rfl
theorem cd_self : cKd c sl sc ow (cds "self") [] S = cput (.t [str "self"]) S := by walk_at "cd"; rfl
theorem cd_new (a : Tr) : cKd c sl sc ow (cds "new") [a] S = cput (.t [str "new", a]) S := by walk_at "cd"; rfl
theorem cd_and (a b : Tr) : cKd c sl sc ow (cds "and") [a, b] S = cAnd c sc a b S := by walk_at "cd"
theorem cd_or (a b : Tr) : cKd c sl sc ow (cds "or") [a, b] S = cOr c sc a b S := by walk_at "cd"
theorem cd_block (ps l : List Tr) : cKd c sl sc ow (cds "block") [.t ps, .t l] S = cBlk c sc ps l S := by walk_at "cd"
theorem cd_while (t : Tr) (l : List Tr) : cKd c sl sc ow (cds "while") [t, .t l] S = cWhl c sc t l S := by walk_at "cd"
theorem cd_if0 (t : Tr) (l : List Tr) : cKd c sl sc ow (cds "if") [t, .t l, .t []] S = cIf0 c sc t l S := by walk_at "cd"; rfl
theorem cd_if1 (t : Tr) (l m : List Tr) (h : m ≠ []) : cKd c sl sc ow (cds "if") [t, .t l, .t m] S = cIf1 c sc t l m S := by
  have e : m.isEmpty = false := by cases m with
    | nil => exact absurd rfl h
    | cons a m => rfl
  walk_at "cd"
  show (if m.isEmpty = true then _ else _) = _
  rw [e]; rfl
theorem cd_try (l : List Tr) (a : List Nat) (m : List Tr) : cKd c sl sc ow (cds "try") [.t l, .s a, .t m] S = cTry c sl sc l a m S := by walk_at "cd"
theorem cd_keep (l m : List Tr) : cKd c sl sc ow (cds "keep") [.t l, .t m] S = cKeep c sc l m S := by walk_at "cd"
end
end Lv
/-! Bodies without blocks and sends: what they come to, statement by statement. -/
namespace Lv
open PySem PySem.Spec PyProof.Rows L2
inductive Va where
  | n
  | b (x : Bool)
  | i (x : Int)
  | s (a : List Nat)
  deriving DecidableEq
def Va.v : Va → V
  | .n => .non
  | .b x => .bl x
  | .i x => .int x
  | .s a => T a
def Va.t : Va → Tr
  | .n => .n
  | .b x => .b x
  | .i x => .i x
  | .s a => .s a
/-- within the bounds of values -/
def Va.ok : Va → Prop
  | .i x => -1000000000 ≤ x ∧ x ≤ 1000000000
  | .s a => a.length ≤ 200
  | _ => True
theorem Va.at {K : PySem.W.Frag} {H : Hp} : ∀ v : Va, TrAt K H v.v v.t
  | .n => .n
  | .b _ => .b
  | .i _ => .i
  | .s _ => .s
theorem Va.v_inj : ∀ {a b : Va}, a.v = b.v → a = b
  | .n, .n, _ => rfl
  | .b _, .b _, h => by cases h; rfl
  | .i _, .i _, h => by cases h; rfl
  | .s _, .s _, h => by rw [T_inj h]
  | .n, .b _, h => by cases h
  | .n, .i _, h => by cases h
  | .n, .s _, h => by cases h
  | .b _, .n, h => by cases h
  | .b _, .i _, h => by cases h
  | .b _, .s _, h => by cases h
  | .i _, .n, h => by cases h
  | .i _, .b _, h => by cases h
  | .i _, .s _, h => by cases h
  | .s _, .n, h => by cases h
  | .s _, .b _, h => by cases h
  | .s _, .i _, h => by cases h
/-- what a part comes to -/
inductive Oc where
  | val (v : Va)
  | fl (v : Va)
  | gv (v : Va)
  | well
  | long
  deriving DecidableEq
def Oc.tag : Oc → List Nat
  | .val _ => cds "value"
  | .fl _ => cds "failure"
  | .gv _ => cds "giving"
  | .well => cds "well"
  | .long => cds "long"
def Oc.v : Oc → Va
  | .val v => v
  | .fl v => v
  | .gv v => v
  | _ => .n
def Oc.ok (o : Oc) : Prop := o.v.ok
abbrev ftx (x : String) : Oc := .fl (.s (cds x))
/-! operators -/
def rRes : Va → Oc
  | .s a => if 200 < a.length then ftx "too large" else .val (.s a)
  | .i x => if 1000000000 < x ∨ x < -1000000000 then ftx "too large" else .val (.i x)
  | v => .val v
/-- minus, or not -/
def oAlone : Bool → Va → Oc
  | true, .i x => .val (.i (0 - x))
  | true, _ => ftx "wrong kind"
  | false, .b x => .val (.b (!x))
  | false, _ => ftx "not a truth"
def oNum (s : List Nat) (a b : Int) : Oc :=
  if s = cds "+" then rRes (.i (a + b)) else if s = cds "<" then .val (.b (decide (a < b))) else if s = cds "<=" then .val (.b (decide (a ≤ b)))
  else if s = cds "-" then rRes (.i (a - b)) else if s = cds "*" then rRes (.i (a * b)) else if b = 0 then ftx "by nothing" else rRes (.i (a.fdiv b))
def oTxt (s : List Nat) (a b : List Nat) : Oc :=
  if s = cds "+" then rRes (.s (a ++ b)) else if s = cds "<" then .val (.b (decide (a < b))) else if s = cds "<=" then .val (.b (!decide (b < a))) else ftx "wrong kind"
def oOp (s : List Nat) (x y : Va) : Oc :=
  if s = cds "=" then .val (.b (decide (x = y)))
  else match x, y with
    | .i a, .i b => oNum s a b
    | .s a, .s b => oTxt s a b
    | _, _ => ftx "wrong kind"
theorem ftx_ok {x : String} (h : (cds x).length ≤ 200 := by decide +kernel) : (ftx x).ok := h
theorem rRes_ok (v : Va) : (rRes v).ok := by
  cases v with
  | s a =>
    show (if 200 < a.length then ftx "too large" else .val (.s a)).ok
    by_cases h : 200 < a.length
    · rw [if_pos h]; exact ftx_ok
    · rw [if_neg h]; exact Nat.le_of_not_lt h
  | i x =>
    show (if 1000000000 < x ∨ x < -1000000000 then ftx "too large" else .val (.i x)).ok
    by_cases h : 1000000000 < x ∨ x < -1000000000
    · rw [if_pos h]; exact ftx_ok
    · rw [if_neg h]; show _ ∧ _; omega
  | n => exact True.intro
  | b x => exact True.intro
theorem oAlone_ok (g : Bool) (v : Va) (h : v.ok) : (oAlone g v).ok := by
  cases g <;> cases v <;> first | exact ftx_ok | exact True.intro | skip
  have h : _ ∧ _ := h
  show _ ∧ _
  omega
theorem oOp_ok (s : List Nat) (x y : Va) : (oOp s x y).ok := by
  unfold oOp
  split
  · exact True.intro
  · split
    · unfold oNum
      repeat' split
      all_goals first | exact rRes_ok _ | exact ftx_ok | exact True.intro
    · unfold oTxt
      repeat' split
      all_goals first | exact rRes_ok _ | exact ftx_ok | exact True.intro
    · exact ftx_ok
/-! tables of names -/
abbrev Sto := List (List Nat × Va)
def sget (a : List Nat) : Sto → Option Va
  | [] => none
  | (b, v) :: l => if b = a then some v else sget a l
def shas (a : List Nat) (l : Sto) : Bool := l.any fun p => decide (p.1 = a)
def sput (a : List Nat) (v : Va) (l : Sto) : Sto := if shas a l = true then l.map (fun p => if p.1 = a then (p.1, v) else p) else l ++ [(a, v)]
theorem shas_iff {a : List Nat} : ∀ {l : Sto}, shas a l = (sget a l).isSome
  | [] => rfl
  | (b, v) :: l => by
    have ih := shas_iff (a := a) (l := l)
    show (decide (b = a) || shas a l) = (if b = a then some v else sget a l).isSome
    rw [ih]
    by_cases h : b = a
    · rw [if_pos h, decide_eq_true h]; rfl
    · rw [if_neg h, decide_eq_false h]; rfl
theorem shas_mem {a : List Nat} {l : Sto} : shas a l = true ↔ a ∈ l.map (·.1) := by
  unfold shas
  rw [List.any_eq_true, List.mem_map]
  exact ⟨fun ⟨p, h1, h2⟩ => ⟨p, h1, of_decide_eq_true h2⟩, fun ⟨p, h1, h2⟩ => ⟨p, h1, decide_eq_true h2⟩⟩
theorem sget_app {a : List Nat} : ∀ {l m : Sto}, sget a (l ++ m) = (sget a l).or (sget a m)
  | [], m => rfl
  | (b, v) :: l, m => by
    show (if b = a then some v else sget a (l ++ m)) = (if b = a then some v else sget a l).or _
    by_cases h : b = a
    · rw [if_pos h, if_pos h]; rfl
    · rw [if_neg h, if_neg h, sget_app]
theorem sget_map {a b : List Nat} {v : Va} : ∀ {l : Sto}, sget b (l.map fun p => if p.1 = a then (p.1, v) else p) = if b = a ∧ (sget a l).isSome = true then some v else sget b l
  | [] => by
    show none = _
    rw [if_neg (fun h => by cases h.2)]; rfl
  | (c, w) :: l => by
    rw [List.map_cons]
    by_cases h : c = a
    · subst h
      rw [if_pos rfl]
      show (if c = b then some v else _) = _
      by_cases e : c = b
      · subst e
        rw [if_pos rfl, if_pos ⟨rfl, by unfold sget; rw [if_pos rfl]; rfl⟩]
      · rw [if_neg e, sget_map, if_neg (fun q => e q.1.symm), if_neg (fun q => e q.1.symm)]
        unfold sget
        rw [if_neg e]
        cases l <;> rfl
    · rw [if_neg h]
      show (if c = b then some w else _) = _
      by_cases e : c = b
      · subst e
        rw [if_pos rfl, if_neg (fun q => h q.1)]
        unfold sget
        rw [if_pos rfl]
      · rw [if_neg e, sget_map]
        have e1 : sget a ((c, w) :: l) = sget a l := by
          show (if c = a then _ else _) = _
          rw [if_neg h]
        have e2 : sget b ((c, w) :: l) = sget b l := by
          show (if c = b then _ else _) = _
          rw [if_neg e]
        rw [e1, e2]
theorem sget_sput {a b : List Nat} {v : Va} {l : Sto} : sget b (sput a v l) = if b = a then some v else sget b l := by
  unfold sput
  by_cases h : shas a l = true
  · rw [if_pos h, sget_map, ← shas_iff]
    by_cases e : b = a
    · rw [if_pos ⟨e, h⟩, if_pos e]
    · rw [if_neg (fun q => e q.1), if_neg e]
  · rw [if_neg h, sget_app]
    have h0 : sget a l = none := by
      rw [shas_iff] at h
      cases e : sget a l with
      | none => rfl
      | some x => rw [e] at h; exact absurd rfl h
    show (sget b l).or (if a = b then some v else none) = _
    by_cases e : b = a
    · subst e
      rw [if_pos rfl, if_pos rfl, h0]; rfl
    · rw [if_neg (fun q => e q.symm), if_neg e]
      cases sget b l <;> rfl
theorem sput_keys {a : List Nat} {v : Va} {l : Sto} : (sput a v l).map (·.1) = if shas a l = true then l.map (·.1) else l.map (·.1) ++ [a] := by
  unfold sput
  by_cases h : shas a l = true
  · rw [if_pos h, if_pos h, List.map_map]
    refine List.map_congr_left fun p _ => ?_
    show (if p.1 = a then (p.1, v) else p).1 = p.1
    split <;> rfl
  · rw [if_neg h, if_neg h, List.map_append]; rfl
theorem sput_nodup {a : List Nat} {v : Va} {l : Sto} (h : (l.map (·.1)).Nodup) : ((sput a v l).map (·.1)).Nodup := by
  rw [sput_keys]
  by_cases e : shas a l = true
  · rw [if_pos e]; exact h
  · rw [if_neg e]
    rw [shas_mem] at e
    rw [List.nodup_append]
    refine ⟨h, by simp, fun x hx y hy => ?_⟩
    rw [List.mem_singleton.mp hy]
    exact fun z => e (z ▸ hx)
theorem sput_len {a : List Nat} {v : Va} {l : Sto} : (sput a v l).length ≤ l.length + 1 := by
  have h := congrArg List.length (sput_keys (a := a) (v := v) (l := l))
  rw [List.length_map] at h
  rw [h]
  split
  · rw [List.length_map]; omega
  · rw [List.length_append, List.length_map]; exact Nat.le_refl _
def Sok (l : Sto) : Prop := ∀ p ∈ l, p.2.ok
theorem sput_ok {a : List Nat} {v : Va} {l : Sto} (h : Sok l) (hv : v.ok) : Sok (sput a v l) := by
  intro p hp
  unfold sput at hp
  split at hp
  · obtain ⟨q, hq, e⟩ := List.mem_map.mp hp
    split at e
    · rw [← e]; exact hv
    · rw [← e]; exact h q hq
  · rcases List.mem_append.mp hp with hp | hp
    · exact h p hp
    · rw [List.mem_singleton.mp hp]; exact hv
theorem sget_ok {a : List Nat} {v : Va} : ∀ {l : Sto}, Sok l → sget a l = some v → v.ok
  | (b, w) :: l, h, e => by
    unfold sget at e
    by_cases q : b = a
    · rw [if_pos q] at e
      cases e
      exact h _ List.mem_cons_self
    · rw [if_neg q] at e
      exact sget_ok (fun p hp => h p (List.mem_cons_of_mem _ hp)) e
/-- as a dict -/
def DS (l : Sto) : List (Key × V) := l.map fun p => (Sum.inr (⟨p.1.toArray⟩ : Str), p.2.v)
theorem key_iff {a b : List Nat} : (Sum.inr (⟨a.toArray⟩ : Str) : Key) = Sum.inr (⟨b.toArray⟩ : Str) ↔ a = b :=
  ⟨fun h => by
    have h1 : (⟨a.toArray⟩ : Str) = ⟨b.toArray⟩ := Sum.inr.inj h
    have h2 : a.toArray = b.toArray := Str.mk.inj h1
    exact congrArg Array.toList h2, fun h => by rw [h]⟩
theorem DS_get {a : List Nat} : ∀ {l : Sto}, valV (DS l) (Sum.inr (⟨a.toArray⟩ : Str)) = (sget a l).map Va.v
  | [] => rfl
  | (b, v) :: l => by
    show valV ((Sum.inr (⟨b.toArray⟩ : Str), v.v) :: DS l) _ = (if b = a then some v else sget a l).map _
    by_cases h : b = a
    · rw [valV_pos (key_iff.mpr h), if_pos h]; rfl
    · rw [valV_neg (fun e => h (key_iff.mp e)), if_neg h, DS_get]
theorem DS_any {a : List Nat} : ∀ {l : Sto}, ((DS l).any fun kv => decide (kv.1 = (Sum.inr (⟨a.toArray⟩ : Str) : Key))) = shas a l
  | [] => rfl
  | (b, v) :: l => by
    have ih := DS_any (a := a) (l := l)
    show (decide ((Sum.inr (⟨b.toArray⟩ : Str) : Key) = _) || ((DS l).any fun kv => decide (kv.1 = (Sum.inr (⟨a.toArray⟩ : Str) : Key)))) = (decide (b = a) || shas a l)
    rw [ih]
    by_cases h : b = a
    · rw [decide_eq_true (key_iff.mpr h), decide_eq_true h]
    · rw [decide_eq_false (fun e => h (key_iff.mp e)), decide_eq_false h]
theorem DS_put {a : List Nat} {v : Va} {l : Sto} : putK (DS l) (Sum.inr (⟨a.toArray⟩ : Str)) v.v = DS (sput a v l) := by
  unfold putK sput
  rw [DS_any]
  by_cases h : shas a l = true
  · rw [if_pos h, if_pos h]
    unfold DS
    rw [List.map_map, List.map_map]
    refine List.map_congr_left fun p _ => ?_
    show (if (Sum.inr (⟨p.1.toArray⟩ : Str) : Key) = Sum.inr (⟨a.toArray⟩ : Str) then ((Sum.inr (⟨p.1.toArray⟩ : Str) : Key), v.v) else _) = (fun q : List Nat × Va => ((Sum.inr (⟨q.1.toArray⟩ : Str) : Key), q.2.v)) (if p.1 = a then (p.1, v) else p)
    by_cases e : p.1 = a
    · rw [if_pos (key_iff.mpr e), if_pos e]
    · rw [if_neg (fun q => e (key_iff.mp q)), if_neg e]
  · rw [if_neg h, if_neg h]
    unfold DS
    rw [List.map_append]; rfl
theorem DS_len {l : Sto} : (DS l).length = l.length := List.length_map _
/-! trees -/
inductive Ee where
  | pl (v : Va)
  | self
  | nm (a : List Nat)
  | un (g : Bool) (e : Ee)
  | lg (o : Bool) (a b : Ee)
  | op (s : List Nat) (a b : Ee)
mutual
inductive Se where
  | set (a : List Nat) (e : Ee)
  | ev (e : Ee)
  | gv (e : Ee)
  | fl (e : Ee)
  | if_ (e : Ee) (l m : Sl)
  | wh (e : Ee) (l : Sl)
  | ty (l : Sl) (a : List Nat) (m : Sl)
  | kp (l m : Sl)
inductive Sl where
  | nil
  | cons (s : Se) (l : Sl)
end
def unW (g : Bool) : String := if g then "neg" else "not"
def lgW (o : Bool) : String := if o then "or" else "and"
def Ee.tr : Ee → Tr
  | .pl v => .t [str "plain", v.t]
  | .self => .t [str "self"]
  | .nm a => .t [str "name", .s a]
  | .un g e => .t [str (unW g), e.tr]
  | .lg o a b => .t [str (lgW o), a.tr, b.tr]
  | .op s a b => .t [str "op", .s s, a.tr, b.tr]
mutual
def Se.tr : Se → Tr
  | .set a e => .t [str "set", .s a, e.tr]
  | .ev e => .t [str "eval", e.tr]
  | .gv e => .t [str "give", e.tr]
  | .fl e => .t [str "fail", e.tr]
  | .if_ e l m => .t [str "if", e.tr, .t l.tr, .t m.tr]
  | .wh e l => .t [str "while", e.tr, .t l.tr]
  | .ty l a m => .t [str "try", .t l.tr, .s a, .t m.tr]
  | .kp l m => .t [str "keep", .t l.tr, .t m.tr]
def Sl.tr : Sl → List Tr
  | .nil => []
  | .cons s l => s.tr :: l.tr
end
/-! what they come to -/
def tkE (n : Nat) (f : Nat → Oc × Nat) : Oc × Nat := match n with
  | 0 => (.long, 0)
  | n + 1 => f n
def mE : Ee → Sto → Nat → Oc × Nat
  | .pl v, _, n => tkE n fun n => (.val v, n)
  | .self, _, n => tkE n fun n => (.val .n, n)
  | .nm a, st, n => tkE n fun n => (match sget a st with | some v => .val v | none => ftx "no global", n)
  | .un g e, st, n => tkE n fun n => match mE e st n with
    | (.val v, n) => (oAlone g v, n)
    | r => r
  | .lg o a b, st, n => tkE n fun n => match mE a st n with
    | (.val (.b x), n) => if x = o then (.val (.b x), n) else match mE b st n with
      | (.val (.b y), n) => (.val (.b y), n)
      | (.val _, n) => (ftx "not a truth", n)
      | r => r
    | (.val _, n) => (ftx "not a truth", n)
    | r => r
  | .op s a b, st, n => tkE n fun n => match mE a st n with
    | (.val x, n) => (match mE b st n with
      | (.val y, n) => (oOp s x y, n)
      | r => r)
    | r => r
def mT (e : Ee) (st : Sto) (n : Nat) : Oc × Nat := match mE e st n with
  | (.val (.b x), n) => (.val (.b x), n)
  | (.val _, n) => (ftx "not a truth", n)
  | r => r
abbrev Rs := Oc × Sto × Nat
def tk3 (st : Sto) (n : Nat) (f : Nat → Rs) : Rs := match n with
  | 0 => (.long, st, 0)
  | n + 1 => f n
def mLoop (t : Sto → Nat → Oc × Nat) (b : Sto → Nat → Rs) : Nat → Sto → Nat → Rs
  | 0, st, n => (.long, st, n)
  | k + 1, st, n => match t st n with
    | (.val (.b false), n) => (.well, st, n)
    | (.val _, n) => (match b st n with
      | (.well, st, n) => mLoop t b k st n
      | r => r)
    | (o, n) => (o, st, n)
mutual
def mS : Se → Sto → Nat → Rs
  | .set a e, st, n => tk3 st n fun n => match mE e st n with
    | (.val v, n) => (.well, sput a v st, n)
    | (o, n) => (o, st, n)
  | .ev e, st, n => tk3 st n fun n => match mE e st n with
    | (.val _, n) => (.well, st, n)
    | (o, n) => (o, st, n)
  | .gv e, st, n => tk3 st n fun n => match mE e st n with
    | (.val v, n) => (.gv v, st, n)
    | (o, n) => (o, st, n)
  | .fl e, st, n => tk3 st n fun n => match mE e st n with
    | (.val v, n) => (.fl v, st, n)
    | (o, n) => (o, st, n)
  | .if_ e l m, st, n => tk3 st n fun n => match mT e st n with
    | (.val (.b true), n) => mB l st n
    | (.val _, n) => mB m st n
    | (o, n) => (o, st, n)
  | .wh e l, st, n => tk3 st n fun n => mLoop (mT e) (mB l) 1000 st n
  | .ty l a m, st, n => tk3 st n fun n => match mB l st n with
    | (.fl v, st, n) => mB m (sput a v st) n
    | r => r
  | .kp l m, st, n => tk3 st n fun n => match mB l st n with
    | (.long, st, n) => (.long, st, n)
    | (o, st, n) => match mB m st n with
      | (.well, st, n) => (o, st, n)
      | r => r
def mB : Sl → Sto → Nat → Rs
  | .nil, st, n => (.well, st, n)
  | .cons s l, st, n => match mS s st n with
    | (.well, st, n) => mB l st n
    | r => r
end
end Lv
/-! Dicts with texts as keys: read, asked, written, walked; a store into a list or a dict; range of two; pop. -/
namespace Lv
open PySem PySem.Spec PyProof.Rows L2
def rDGet : R2 := fun x y H Q => ∃ a v, x = .ref a ∧ DGet H a y (some v) ∧ Q v H
def rDIn : R2 := fun y x H Q => ∃ a o, x = .ref a ∧ DGet H a y o ∧ Q (.bl o.isSome) H
def rDNin : R2 := fun y x H Q => ∃ a o, x = .ref a ∧ DGet H a y o ∧ Q (.bl (!o.isSome)) H
def rLenDk : List V → Hp → VK → Prop := fun xs H Q => ∃ a kvs, xs = [V.ref a] ∧ H a = some (.dK kvs) ∧ Q (.int kvs.length) H
theorem call_lenDk {X : Cx} : CallR X (.builtin "len") rLenDk := call_lenD
def rDPut (x y v : V) (H : Hp) (G : Hp → Prop) : Prop := ∃ a H4, x = .ref a ∧ DPut H a y v H4 ∧ G H4
section
variable {σ : L2.St} {H : Hp} {Q : VK} {D : Ends} {td ty tv : TE} {K : PySem.W.Frag} {d : Addr} {a : List Nat} {st : Sto} {v : Va}
theorem w_dget (k : td σ H fun x H1 => ty σ H1 fun y H2 => rDGet x y H2 Q) : tDGet td ty σ H Q := k
theorem w_din (k : ty σ H fun y H1 => td σ H1 fun x H2 => rDIn y x H2 Q) : tDIn ty td σ H Q := k
theorem w_dnin (k : ty σ H fun y H1 => td σ H1 fun x H2 => rDNin y x H2 Q) : tDNotIn ty td σ H Q := k
theorem w_dput (k : tv σ H fun v H1 => td σ H1 fun x H2 => ty σ H2 fun y H3 => rDPut x y v H3 fun H4 => D.nx σ H4) : sDPut td ty tv D σ H := k
theorem w_dnew (k : ∀ p H1, H p = none → Same H H1 → H1 p = some (.dK (DS [])) → Q (.ref p) H1) : tDNewK σ H Q := fun p hp => k p _ hp (same_new0 hp) upd_same
theorem d_get (h : H d = some (.dK (DS st))) (e : sget a st = some v) (k : Q v.v H) : rDGet (.ref d) (T a) H Q :=
  ⟨d, v.v, rfl, by
    have g := DGet.k (k := Sum.inr (⟨a.toArray⟩ : Str)) h
    rw [DS_get, e] at g
    exact g, k⟩
theorem d_in (h : H d = some (.dK (DS st))) (k : Q (.bl (sget a st).isSome) H) : rDIn (T a) (.ref d) H Q :=
  ⟨d, _, rfl, DGet.k (k := Sum.inr (⟨a.toArray⟩ : Str)) h, by
    rw [DS_get, Option.isSome_map]; exact k⟩
theorem d_nin (h : H d = some (.dK (DS st))) (k : Q (.bl (!(sget a st).isSome)) H) : rDNin (T a) (.ref d) H Q :=
  ⟨d, _, rfl, DGet.k (k := Sum.inr (⟨a.toArray⟩ : Str)) h, by
    rw [DS_get, Option.isSome_map]; exact k⟩
theorem d_put {G : Hp → Prop} (h : H d = some (.dK (DS st))) (z : st.length ≤ 1000000) (k : ∀ H1, H1 d = some (.dK (DS (sput a v st))) → (∀ b o, b ≠ d → H b = some o → H1 b = some o) → G H1) : rDPut (.ref d) (T a) v.v H G := by
  refine ⟨d, _, rfl, DPut.k (k := Sum.inr (⟨a.toArray⟩ : Str)) h (by rw [DS_len]; exact Nat.lt_of_le_of_lt z (by decide)), k _ ?_ fun b o n e => by rw [upd_ne n]; exact e⟩
  rw [DS_put]; exact upd_same
theorem w_lenD (h : H d = some (.dK (DS st))) (k : Q (.int (st.length : Int)) H) : rLenDk [.ref d] H Q := ⟨d, _, rfl, h, by rw [DS_len]; exact k⟩
/-! a store into either -/
def rSetA : TSet := fun o i v H G => rSetL o i v H G ∨ rSetD o i v H G
theorem set_any {X : Cx} (hu : X.A.units + 1 < cLine) : PSet X rSetA := by
  intro pins s σ H o i v ov iv u Q I ro ri rv h
  rcases h with h | h
  · exact set_list pins s σ H o i v ov iv u Q I ro ri rv h
  · exact set_dict hu pins s σ H o i v ov iv u Q I ro ri rv h
theorem sa_put {G : Hp → Prop} (h : H d = some (.dK (DS st))) (z : st.length ≤ 1000000) (k : ∀ H1, H1 d = some (.dK (DS (sput a v st))) → (∀ b o, b ≠ d → H b = some o → H1 b = some o) → G H1) : rSetA (.ref d) (T a) v.v H G := .inr (d_put h z k)
theorem sa_set {G : Hp → Prop} {xs : List V} {j : Int} {n : Nat} {x : V} (h : H d = some (.lst xs)) (e : ixN xs.length j = some n) (k : ∀ H1, H1 d = some (.lst (xs.set n x)) → (∀ b o, b ≠ d → H b = some o → H1 b = some o) → G H1) : rSetA (.ref d) (.int j) x H G :=
  .inl (w_setL h e (k _ upd_same fun b o n e => by rw [upd_ne n]; exact e))
theorem w_gsubA {to ti : TE} {v : V} {G : L2.St → Hp → Prop} (k : to σ H fun o H1 => ti σ H1 fun i H2 => rSetA o i v H2 fun H3 => G σ H3) : gSub to ti rSetA v σ H G := k
/-! for k in d -/
theorem for_keys {te : TE} {g : TG} {tb : TS} {kvs : List (Key × V)} {σ : L2.St} {H : Hp} {D : Ends} (Pv : Nat → L2.St → Hp → Prop) (hd : H d = some (.dK kvs)) (ht : ∀ o Q, Q (.ref d) (upd H d (.frz o (.dK kvs))) → te σ (upd H d (.frz o (.dK kvs))) Q)
    (h0 : ∀ H1, (∃ o, H1 d = some (.frz o (.dK kvs))) → (∀ b, b ≠ d → H1 b = H b) → Pv 0 σ H1)
    (hl : ∀ i σ H1, Pv i σ H1 → True)
    (hs : ∀ o D2 i k v σ H1, kvs[i]? = some (k, v) → H1 d = some (.frz o (.dK kvs)) → Pv i σ H1 → (∀ σ2 H2, H2 d = some (.frz o (.dK kvs)) → Pv (i + 1) σ2 H2 → D2.nx σ2 H2) → (∀ v H2, H2 d = some (.frz o (.dK kvs)) → D.rt v (upd H2 d (.dK kvs)) → D2.rt v H2) → g (kV k) σ H1 fun σ2 H2 => tb D2 σ2 H2)
    (he : ∀ o σ H1, H1 d = some (.frz o (.dK kvs)) → Pv kvs.length σ H1 → D.nx σ (upd H1 d (.dK kvs))) : tLock (tFor (iKeys te) g tb) D σ H := by
  refine ⟨d, .dK kvs, hd, True.intro, fun od => ht od _ ⟨d, od, rfl, .inl ⟨kvs, upd_same, ?_⟩⟩⟩
  refine ⟨fun i m σ H1 => m = kvs.length - i ∧ i ≤ kvs.length ∧ H1 d = some (.frz od (.dK kvs)) ∧ Pv i σ H1, ⟨kvs.length, by simp, Nat.zero_le _, upd_same, h0 _ ⟨od, upd_same⟩ fun b n => upd_ne n⟩, ?_⟩
  rintro i m σ H1 ⟨rfl, hi, hd1, p⟩
  by_cases hlt : i < kvs.length
  · refine .inr ⟨⟨hd1, hlt⟩, fun σ' H' => H' d = some (.frz od (.dK kvs)) ∧ Pv (i + 1) σ' H', fun σ' H' p' => ⟨kvs.length - (i + 1), by omega, rfl, hlt, p'⟩, fun x H' y => ?_⟩
    obtain ⟨rfl, k, v, hk, rfl⟩ := y
    exact hs od _ i k v σ _ hk hd1 p (fun σ2 H2 h1 h2 => ⟨h1, h2⟩) fun v H2 h1 h2 => ⟨h1, h2⟩
  · have e : i = kvs.length := by omega
    subst e
    exact .inl ⟨⟨hd1, Nat.le_refl _⟩, hd1, he od σ H1 hd1 p⟩
/-! range(a, b) -/
def ForR2 (g : TG) (tb : TS) (vs : List V) (D : Ends) (σ : L2.St) (H : Hp) : Prop := ∃ i j : Int, vs = [.int i, .int j] ∧ (-(2 ^ 62) ≤ i ∧ i < 2 ^ 62 ∧ -(2 ^ 62) ≤ j ∧ j < 2 ^ 62) ∧ ∃ W : Nat → Nat → L2.St → Hp → Prop, (∃ m, W 0 m σ H) ∧ ∀ k m σ H, W k m σ H →
  ((Itr i (j - i).toNat).stop k H ∧ D.nx σ H) ∨ ((Itr i (j - i).toNat).go k H ∧ ∃ N : L2.St → Hp → Prop, (∀ σ' H', N σ' H' → ∃ m', m' < m ∧ W (k + 1) m' σ' H') ∧ ∀ x H', (Itr i (j - i).toNat).yld k H x H' → g x σ H' fun σ2 H2 => tb { D with nx := N, ct := N, bk := D.nx } σ2 H2)
theorem w_forR2 {ta : TA} {g : TG} {tb : TS} (k : ta σ H fun vs H1 => ForR2 g tb vs D σ H1) : tFor (iRng2 ta) g tb D σ H := k
theorem for_R2 {g : TG} {tb : TS} {lo hi : Nat} (Pv : Nat → L2.St → Hp → Prop) (b : hi < 1000000) (b2 : lo < 1000000) (h0 : Pv 0 σ H) (hs : ∀ (i : Nat) σ H, lo + i < hi → Pv i σ H → g (.int ((lo + i : Nat) : Int)) σ H fun σ2 H2 => tb { D with nx := Pv (i + 1), ct := Pv (i + 1), bk := D.nx } σ2 H2)
    (hd : ∀ σ H, Pv (hi - lo) σ H → D.nx σ H) : ForR2 g tb [.int (lo : Int), .int (hi : Int)] D σ H := by
  refine ⟨lo, hi, rfl, by omega, ?_⟩
  have e : ((hi : Int) - (lo : Int)).toNat = hi - lo := by omega
  rw [e]
  exact for_range (lo := (lo : Int)) (n := hi - lo) Pv h0 (fun i σ H hi p => by
    have := hs i σ H (by omega) p
    rw [show ((lo + i : Nat) : Int) = (lo : Int) + (i : Int) by omega] at this
    exact this) hd
/-! a < b < c -/
theorem w_chain {r r' : R2} {ta tb tc : TE} (k : ta σ H fun x H1 => tb σ H1 fun y H2 => r x y H2 fun z H3 => ∃ k, z = .bl k ∧ if k = true then tc σ H3 fun w' H4 => r' y w' H4 Q else Q (.bl false) H3) : tChain r r' ta tb tc σ H Q := k
theorem d_getF {o : Obj} (h : H d = some (.frz o (.dK (DS st)))) (e : sget a st = some v) (k : Q v.v H) : rDGet (.ref d) (T a) H Q :=
  ⟨d, v.v, rfl, .inl ⟨DS st, Sum.inr (⟨a.toArray⟩ : Str), .inr ⟨o, h⟩, rfl, by rw [DS_get, e]; rfl⟩, k⟩
theorem sget_at {a : List Nat} {v : Va} : ∀ {l : Sto} {i : Nat}, (l.map (·.1)).Nodup → l[i]? = some (a, v) → sget a l = some v
  | (b, w) :: l, 0, h, e => by
    cases e
    show (if a = a then some v else _) = _
    rw [if_pos rfl]
  | (b, w) :: l, i + 1, h, e => by
    rw [List.map_cons, List.nodup_cons] at h
    have e : l[i]? = some (a, v) := by simpa using e
    show (if b = a then some w else sget a l) = _
    have hm : a ∈ l.map (·.1) := List.mem_map_of_mem (f := Prod.fst) (List.mem_of_getElem? e)
    rw [if_neg (fun q => h.1 (by rw [show ((b, w) : List Nat × Va).1 = a from q]; exact hm))]
    exact sget_at h.2 e
theorem DS_at {l : Sto} {i : Nat} {k : Key} {x : V} (h : (DS l)[i]? = some (k, x)) : ∃ a v, l[i]? = some (a, v) ∧ kV k = T a ∧ x = v.v := by
  unfold DS at h
  rw [List.getElem?_map] at h
  cases e : l[i]? with
  | none => rw [e] at h; cases h
  | some p => rw [e] at h; cases h; exact ⟨p.1, p.2, rfl, rfl, rfl⟩
/-! pop -/
def rPopL : V → List V → Hp → VK → Prop := fun x vs H Q => ∃ l xs y, x = .ref l ∧ vs = [] ∧ H l = some (.lst xs) ∧ xs[xs.length - 1]? = some y ∧ Q y (upd H l (.lst xs.dropLast))
theorem mt_popL {X : Cx} : MtR X "list.pop" rPopL := mt_pop
theorem w_pop {p : Addr} {xs : List V} {y : V} (h : H p = some (.lst (xs ++ [y]))) (k : ∀ H1, H1 p = some (.lst xs) → (∀ b o, b ≠ p → H b = some o → H1 b = some o) → Q y H1) : rPopL (.ref p) [] H Q := by
  refine ⟨p, xs ++ [y], y, rfl, rfl, h, by simp, k _ ?_ fun b o n e => by rw [upd_ne n]; exact e⟩
  rw [List.dropLast_concat]; exact upd_same
/-! xs[:n], xs[a:b] -/
theorem cut_to' (xs : List V) (n : Nat) : cutV xs none (some (n : Int)) = xs.take n := by
  unfold cutV
  have e1 : HT.sIx xs.length 0 none = 0 := rfl
  have e2 : HT.sIx xs.length xs.length (some (n : Int)) = min n xs.length := by
    show (if (n : Int) < 0 then ((n : Int) + (xs.length : Int)).toNat else min (n : Int).toNat xs.length) = _
    rw [if_neg (by omega), Int.toNat_natCast]
  rw [e1, e2]
  simp
theorem cut_ab (xs : List V) (m n : Nat) : cutV xs (some (m : Int)) (some (n : Int)) = (xs.take n).drop m := by
  unfold cutV
  have e1 : HT.sIx xs.length 0 (some (m : Int)) = min m xs.length := by
    show (if (m : Int) < 0 then ((m : Int) + (xs.length : Int)).toNat else min (m : Int).toNat xs.length) = _
    rw [if_neg (by omega), Int.toNat_natCast]
  have e2 : HT.sIx xs.length xs.length (some (n : Int)) = min n xs.length := by
    show (if (n : Int) < 0 then ((n : Int) + (xs.length : Int)).toNat else min (n : Int).toNat xs.length) = _
    rw [if_neg (by omega), Int.toNat_natCast]
  rw [e1, e2]
  apply List.ext_getElem?
  intro i
  simp only [List.getElem?_take, List.getElem?_drop]
  by_cases h : m ≤ xs.length
  · rw [show min m xs.length = m by omega]
    by_cases h2 : m + i < n
    · rw [if_pos h2]
      by_cases h3 : i < min n xs.length - m
      · rw [if_pos h3]
      · rw [if_neg h3]
        exact (List.getElem?_eq_none (by omega)).symm
    · rw [if_neg h2, if_neg (by omega)]
  · rw [show min m xs.length = xs.length by omega, if_neg (by omega)]
    by_cases h2 : m + i < n
    · rw [if_pos h2]; exact (List.getElem?_eq_none (by omega)).symm
    · rw [if_neg h2]
theorem w_slTo {p : Addr} {xs : List V} {n : Nat} (h : SqL K H p xs) (k : ∀ q H1, H q = none → Same H H1 → H1 q = some (.lst (xs.take n)) → Q (.ref q) H1) : rSlL K (.ref p) none (some (n : Int)) H Q :=
  ⟨p, xs, rfl, h, fun q hq => k q _ hq (same_new0 hq) (by rw [upd_same, cut_to'])⟩
theorem w_slAb {p : Addr} {xs : List V} {m n : Nat} (h : SqL K H p xs) (k : ∀ q H1, H q = none → Same H H1 → H1 q = some (.lst ((xs.take n).drop m)) → Q (.ref q) H1) : rSlL K (.ref p) (some (m : Int)) (some (n : Int)) H Q :=
  ⟨p, xs, rfl, h, fun q hq => k q _ hq (same_new0 hq) (by rw [upd_same, cut_ab])⟩
end
end Lv
/-! Definitions as they stand in memory. -/
namespace Lv
open PySem PySem.Spec PyProof.Rows L2
def kT (a : List Nat) : Key := .inr ⟨a.toArray⟩
theorem kV_kT (a : List Nat) : kV (kT a) = T a := rfl
theorem kT_inj {a b : List Nat} (h : kT a = kT b) : a = b := T_inj (congrArg V.str (Sum.inr.inj h))
theorem kT_iff {a b : List Nat} : kT a = kT b ↔ a = b := ⟨kT_inj, fun h => by rw [h]⟩
def optN : Option (List Nat) → V
  | none => .non
  | some a => T a
/-- where a class stands: its object, its slots, its texts -/
structure CA where
  c : Addr
  sl : Addr
  tx : Addr
abbrev Row := Cl × CA
def entD (p : Row) : Key × V := (kT p.1.nm, .ref p.2.c)
def entX (p : List Nat × List Nat) : Key × V := (kT p.1, T p.2)
abbrev fldsD (b : Option (List Nat)) (sl tx : Addr) : List (Str × V) := [("base", optN b), ("slots", .ref sl), ("texts", .ref tx)]
def ClAt (CD : Addr) (H : Hp) (p : Row) : Prop := ∃ dx, H p.2.c = some (.ins CD dx (fldsD p.1.base p.2.sl p.2.tx)) ∧ H p.2.sl = some (.lst (p.1.slots.map T)) ∧ H p.2.tx = some (.dK (p.1.texts.map entX))
def cells (p : Row) : List Addr := [p.2.c, p.2.sl, p.2.tx]
def dsOf (R : List Row) : List Cl := R.map (·.1)
/-- what can be read: the definitions at D, their dict at d -/
structure DfR (CS CD D d : Addr) (R : List Row) (H : Hp) : Prop where
  obj : ∃ dx, H D = some (.ins CS dx [("known", .ref d)])
  tab : Rd H d (.dK (R.map entD))
  row : ∀ p ∈ R, ClAt CD H p
/-- the definitions, their footprint -/
def foot (D d : Addr) (R : List Row) : List Addr := D :: d :: R.flatMap cells
structure DfW (CS CD D d : Addr) (R : List Row) (H : Hp) : Prop where
  obj : ∃ dx, H D = some (.ins CS dx [("known", .ref d)])
  tab : H d = some (.dK (R.map entD))
  row : ∀ p ∈ R, ClAt CD H p
  nd : (foot D d R).Nodup
theorem DfW.r {CS CD D d : Addr} {R : List Row} {H : Hp} (h : DfW CS CD D d R H) : DfR CS CD D d R H := ⟨h.obj, .inl h.tab, h.row⟩
theorem DfR.same {CS CD D d : Addr} {R : List Row} {H H1 : Hp} (h : DfR CS CD D d R H) (s : Same H H1) : DfR CS CD D d R H1 := by
  obtain ⟨⟨dx, ho⟩, ht, hr⟩ := h
  refine ⟨⟨dx, s _ _ ho⟩, ht.elim (fun q => .inl (s _ _ q)) fun ⟨o, q⟩ => .inr ⟨o, s _ _ q⟩, fun p hp => ?_⟩
  obtain ⟨dx, h1, h2, h3⟩ := hr p hp
  exact ⟨dx, s _ _ h1, s _ _ h2, s _ _ h3⟩
theorem DfW.keep {CS CD D d : Addr} {R : List Row} {H H1 : Hp} (h : DfW CS CD D d R H) (s : ∀ b ∈ foot D d R, ∀ o, H b = some o → H1 b = some o) : DfW CS CD D d R H1 := by
  obtain ⟨⟨dx, ho⟩, ht, hr, nd⟩ := h
  have m : ∀ p ∈ R, ∀ x ∈ cells p, x ∈ foot D d R := fun p hp x hx => List.mem_cons_of_mem _ (List.mem_cons_of_mem _ (List.mem_flatMap.mpr ⟨p, hp, hx⟩))
  refine ⟨⟨dx, s _ List.mem_cons_self _ ho⟩, s _ (List.mem_cons_of_mem _ List.mem_cons_self) _ ht, fun p hp => ?_, nd⟩
  obtain ⟨dx, h1, h2, h3⟩ := hr p hp
  exact ⟨dx, s _ (m p hp _ (by simp [cells])) _ h1, s _ (m p hp _ (by simp [cells])) _ h2, s _ (m p hp _ (by simp [cells])) _ h3⟩
/-- the footprint is taken, by things that are no tuples -/
def NoTup (H : Hp) (b : Addr) : Prop := ∃ o, H b = some o ∧ (∀ xs, o ≠ .tup xs) ∧ ∀ q u, o ≠ .frz q u
theorem nt_ins {H : Hp} {b C dx : Addr} {fs : List (Str × V)} (h : H b = some (.ins C dx fs)) : NoTup H b := ⟨_, h, (fun _ e => nomatch e), (fun _ _ e => nomatch e)⟩
theorem nt_lst {H : Hp} {b : Addr} {xs : List V} (h : H b = some (.lst xs)) : NoTup H b := ⟨_, h, (fun _ e => nomatch e), (fun _ _ e => nomatch e)⟩
theorem nt_dK {H : Hp} {b : Addr} {xs : List (Key × V)} (h : H b = some (.dK xs)) : NoTup H b := ⟨_, h, (fun _ e => nomatch e), (fun _ _ e => nomatch e)⟩
theorem DfW.no {CS CD D d : Addr} {R : List Row} {H : Hp} (h : DfW CS CD D d R H) : ∀ b ∈ foot D d R, NoTup H b := by
  obtain ⟨⟨dx, ho⟩, ht, hr, nd⟩ := h
  intro b hb
  rcases List.mem_cons.mp hb with rfl | hb
  · exact nt_ins ho
  rcases List.mem_cons.mp hb with rfl | hb
  · exact nt_dK ht
  obtain ⟨p, hp, hb⟩ := List.mem_flatMap.mp hb
  obtain ⟨dx, h1, h2, h3⟩ := hr p hp
  have hb : b ∈ [p.2.c, p.2.sl, p.2.tx] := hb
  rcases List.mem_cons.mp hb with rfl | hb
  · exact nt_ins h1
  rcases List.mem_cons.mp hb with rfl | hb
  · exact nt_lst h2
  · rw [List.mem_singleton.mp hb]
    exact nt_dK h3
/-! ### frames -/
def FrL (F : List Addr) (H H' : Hp) : Prop := (∀ b o, b ∉ F → H b = some o → H' b = some o) ∧ ∀ b, H' b = none → H b = none
theorem FrL.refl {F : List Addr} {H : Hp} : FrL F H H := ⟨fun _ _ _ h => h, fun _ h => h⟩
theorem FrL.same {F : List Addr} {H H1 : Hp} (s : Same H H1) : FrL F H H1 := ⟨fun b o _ h => s b o h, fun b h => s.free h⟩
theorem FrL.trans {F : List Addr} {H H1 H2 : Hp} (a : FrL F H H1) (b : FrL F H1 H2) : FrL F H H2 := ⟨fun c o n h => b.1 c o n (a.1 c o n h), fun c h => a.2 c (b.2 c h)⟩
theorem FrL.mono {F G : List Addr} {H H1 : Hp} (a : FrL F H H1) (s : ∀ x ∈ F, x ∈ G) : FrL G H H1 := ⟨fun c o n h => a.1 c o (fun z => n (s c z)) h, a.2⟩
/-- from a footprint to the next one -/
structure Go (F F' : List Addr) (H H' : Hp) : Prop where
  fr : FrL F H H'
  nw : ∀ b ∈ F', b ∈ F ∨ H b = none
theorem Go.refl {F : List Addr} {H : Hp} : Go F F H H := ⟨.refl, fun _ h => .inl h⟩
theorem Go.same {F : List Addr} {H H1 : Hp} (s : Same H H1) : Go F F H H1 := ⟨.same s, fun _ h => .inl h⟩
theorem Go.trans {F F1 F2 : List Addr} {H H1 H2 : Hp} (a : Go F F1 H H1) (b : Go F1 F2 H1 H2) : Go F F2 H H2 := by
  refine ⟨⟨fun c o n h => b.fr.1 c o (fun z => (a.nw c z).elim n fun e => by rw [e] at h; cases h) (a.fr.1 c o n h), fun c h => a.fr.2 c (b.fr.2 c h)⟩, fun c h => ?_⟩
  rcases b.nw c h with k | k
  · exact a.nw c k
  · exact .inr (a.fr.2 c k)
theorem sqT_frL {K : PySem.W.Frag} {F : List Addr} {H H1 : Hp} (f : FrL F H H1) (nt : ∀ b ∈ F, NoTup H b) {p : Addr} {vs : List V} (q : SqT K H p vs) : SqT K H1 p vs := by
  have ne : ∀ o, H p = some o → ((∃ xs, o = .tup xs) ∨ ∃ q u, o = .frz q u) → p ∉ F := fun o e z m => by
    obtain ⟨o', e', n1, n2⟩ := nt p m
    rw [e] at e'; cases e'
    rcases z with ⟨xs, z⟩ | ⟨q, u, z⟩
    · exact n1 _ z
    · exact n2 _ _ z
  rcases q with (h | ⟨o, h⟩) | h
  · exact .inl (.inl (f.1 _ _ (ne _ h (.inl ⟨_, rfl⟩)) h))
  · exact .inl (.inr ⟨o, f.1 _ _ (ne _ h (.inr ⟨_, _, rfl⟩)) h⟩)
  · exact .inr h
theorem TrAt.frL {K : PySem.W.Frag} {F : List Addr} {H H1 : Hp} {v : V} {t : Tr} (h : TrAt K H v t) (f : FrL F H H1) (nt : ∀ b ∈ F, NoTup H b) : TrAt K H1 v t := h.imp fun _ _ q => sqT_frL f nt q
theorem TrsAt.frL {K : PySem.W.Frag} {F : List Addr} {H H1 : Hp} {v : List V} {t : List Tr} (h : TrsAt K H v t) (f : FrL F H H1) (nt : ∀ b ∈ F, NoTup H b) : TrsAt K H1 v t := h.imp fun _ _ q => sqT_frL f nt q
theorem sqT_ins {K : PySem.W.Frag} {x C dx p : Addr} {fs : List (Str × V)} {H H1 : Hp} {vs : List V} (q : SqT K H p vs) (hx : H x = some (.ins C dx fs)) (k : ∀ b o, b ≠ x → H b = some o → H1 b = some o) : SqT K H1 p vs := by
  rcases q with (h | ⟨o, h⟩) | h
  · exact .inl (.inl (k _ _ (fun e => by rw [e, hx] at h; cases h) h))
  · exact .inl (.inr ⟨o, k _ _ (fun e => by rw [e, hx] at h; cases h) h⟩)
  · exact .inr h
/-! ### the dict of classes -/
theorem val_row : ∀ {R : List Row} {n : List Nat}, valV (R.map entD) (kT n) = (R.find? fun p => decide (p.1.nm = n)).map fun p => V.ref p.2.c
  | [], n => rfl
  | p :: r, n => by
    rw [List.map_cons, List.find?_cons]
    by_cases e : p.1.nm = n
    · rw [decide_eq_true e, valV_pos (show (entD p).1 = kT n by rw [← e]; rfl)]
      rfl
    · rw [decide_eq_false e, valV_neg (fun z => e (kT_inj z))]
      exact val_row
theorem get_row : ∀ {R : List Row} {n : List Nat}, getC (dsOf R) n = (R.find? fun p => decide (p.1.nm = n)).map (·.1)
  | [], n => rfl
  | p :: r, n => by
    unfold getC dsOf
    rw [List.map_cons, List.find?_cons, List.find?_cons]
    by_cases e : p.1.nm = n
    · rw [decide_eq_true e]; rfl
    · rw [decide_eq_false e]; exact get_row
theorem row_of {R : List Row} {n : List Nat} (h : n ∈ nms (dsOf R)) : ∃ p ∈ R, p.1.nm = n ∧ valV (R.map entD) (kT n) = some (.ref p.2.c) ∧ getC (dsOf R) n = some p.1 ∧ R.find? (fun p => decide (p.1.nm = n)) = some p := by
  obtain ⟨c, h1, h2, h3⟩ := getC_mem h
  rw [get_row] at h3
  cases e : R.find? fun p => decide (p.1.nm = n) with
  | none => rw [e] at h3; cases h3
  | some p =>
    have h4 := List.find?_some e
    exact ⟨p, List.mem_of_find?_eq_some e, of_decide_eq_true h4, by rw [val_row, e]; rfl, by rw [get_row, e]; rfl, rfl⟩
theorem val_some {R : List Row} {n : List Nat} : (valV (R.map entD) (kT n)).isSome = decide (n ∈ nms (dsOf R)) := by
  by_cases h : n ∈ nms (dsOf R)
  · obtain ⟨p, _, _, e, _⟩ := row_of h
    rw [e, decide_eq_true h]; rfl
  · rw [decide_eq_false h, val_row]
    cases e : R.find? fun p => decide (p.1.nm = n) with
    | none => rfl
    | some p =>
      have h4 := List.find?_some e
      exact absurd (List.mem_map.mpr ⟨p.1, List.mem_map.mpr ⟨p, List.mem_of_find?_eq_some e, rfl⟩, of_decide_eq_true h4⟩) h
section
variable {CS CD D d : Addr} {R : List Row} {H : Hp} {Q : VK} {n : List Nat}
theorem k_get (h : DfR CS CD D d R H) (hn : n ∈ nms (dsOf R)) (k : ∀ p ∈ R, p.1.nm = n → getC (dsOf R) n = some p.1 → ClAt CD H p → Q (.ref p.2.c) H) : rDGet (.ref d) (T n) H Q := by
  obtain ⟨p, hp, e1, e2, e3, _⟩ := row_of hn
  exact ⟨d, _, rfl, .inl ⟨_, kT n, h.tab, rfl, e2.symm⟩, k p hp e1 e3 (h.row p hp)⟩
theorem k_in (h : DfR CS CD D d R H) (k : Q (.bl (decide (n ∈ nms (dsOf R)))) H) : rDIn (T n) (.ref d) H Q :=
  ⟨d, _, rfl, .inl ⟨_, kT n, h.tab, rfl, rfl⟩, by rw [val_some]; exact k⟩
theorem k_nin (h : DfR CS CD D d R H) (k : Q (.bl (!decide (n ∈ nms (dsOf R)))) H) : rDNin (T n) (.ref d) H Q :=
  ⟨d, _, rfl, .inl ⟨_, kT n, h.tab, rfl, rfl⟩, by rw [val_some]; exact k⟩
end
/-! ### the dict of texts -/
theorem val_tx : ∀ {l : List (List Nat × List Nat)} {n : List Nat}, valV (l.map entX) (kT n) = (l.find? fun p => decide (p.1 = n)).map fun p => T p.2
  | [], n => rfl
  | p :: r, n => by
    rw [List.map_cons, List.find?_cons]
    by_cases e : p.1 = n
    · rw [decide_eq_true e, valV_pos (show (entX p).1 = kT n by rw [← e]; rfl)]
      rfl
    · rw [decide_eq_false e, valV_neg (fun z => e (kT_inj z))]
      exact val_tx
theorem some_tx {l : List (List Nat × List Nat)} {n : List Nat} : (valV (l.map entX) (kT n)).isSome = decide (n ∈ l.map (·.1)) := by
  rw [val_tx, Option.isSome_map]
  by_cases h : n ∈ l.map (·.1)
  · rw [decide_eq_true h, List.find?_isSome]
    obtain ⟨p, hp, e⟩ := List.mem_map.mp h
    exact ⟨p, hp, decide_eq_true e⟩
  · rw [decide_eq_false h, Option.isSome_eq_false_iff, Option.isNone_iff_eq_none, List.find?_eq_none]
    intro p hp e
    exact h (List.mem_map.mpr ⟨p, hp, of_decide_eq_true e⟩)
theorem put_tx {l : List (List Nat × List Nat)} {k v : List Nat} : putK (l.map entX) (kT k) (T v) = (putT l k v).map entX := by
  have e : ((l.map entX).any fun kv => decide (kv.1 = kT k)) = decide (k ∈ l.map (·.1)) := by rw [valV_any, some_tx]
  unfold putK putT
  rw [e]
  by_cases h : k ∈ l.map (·.1)
  · rw [if_pos (decide_eq_true h), if_pos h, List.map_map, List.map_map]
    refine List.map_congr_left fun p _ => ?_
    show (if kT p.1 = kT k then (kT p.1, T v) else entX p) = entX (if p.1 = k then (p.1, v) else p)
    by_cases z : p.1 = k
    · rw [if_pos (by rw [z]), if_pos z]; rfl
    · rw [if_neg (fun y => z (kT_inj y)), if_neg z]
  · rw [if_neg (by simp [h]), if_neg h, List.map_append]
    rfl
theorem drop_tx {l : List (List Nat × List Nat)} {k : List Nat} : dropK (l.map entX) (kT k) = (dropT l k).map entX := by
  unfold dropK dropT
  rw [List.filter_map]
  congr 1
  refine List.filter_congr fun p _ => ?_
  show decide (kT p.1 ≠ kT k) = decide (p.1 ≠ k)
  refine decide_eq_decide.mpr ?_
  rw [Ne, Ne, kT_iff]
/-! ### rows changed -/
theorem cells_apart : ∀ {R : List Row}, (R.flatMap cells).Nodup → ∀ p ∈ R, ∀ q ∈ R, p.1.nm ≠ q.1.nm → ∀ x ∈ cells p, ∀ y ∈ cells q, x ≠ y
  | [], _, p, hp, _, _, _, _, _, _, _ => by cases hp
  | a :: r, nd, p, hp, q, hq, ne, x, hx, y, hy => by
    rw [List.flatMap_cons] at nd
    obtain ⟨_, n2, n3⟩ := List.nodup_append.mp nd
    rcases List.mem_cons.mp hp with rfl | hp'
    · rcases List.mem_cons.mp hq with rfl | hq'
      · exact absurd rfl ne
      · exact n3 x hx y (List.mem_flatMap.mpr ⟨q, hq', hy⟩)
    · rcases List.mem_cons.mp hq with rfl | hq'
      · exact fun e => n3 y hy x (List.mem_flatMap.mpr ⟨p, hp', hx⟩) e.symm
      · exact cells_apart n2 p hp' q hq' ne x hx y hy
/-- one row with another content at the same places -/
def onR (n : List Nat) (f : Cl → Cl) (R : List Row) : List Row := R.map fun p => if p.1.nm = n then (f p.1, p.2) else p
theorem onR_ds (n : List Nat) (f : Cl → Cl) (R : List Row) : dsOf (onR n f R) = onC n f (dsOf R) := by
  unfold dsOf onR onC
  rw [List.map_map, List.map_map]
  refine List.map_congr_left fun p _ => ?_
  show (if p.1.nm = n then (f p.1, p.2) else p).1 = if p.1.nm = n then f p.1 else p.1
  split <;> rfl
theorem onR_foot {n : List Nat} {f : Cl → Cl} {D d : Addr} : ∀ {R : List Row}, foot D d (onR n f R) = foot D d R := by
  intro R
  unfold foot onR
  congr 2
  rw [List.flatMap_map]
  congr 1
  funext p
  show cells (if p.1.nm = n then (f p.1, p.2) else p) = cells p
  split <;> rfl
theorem onR_ent {n : List Nat} {f : Cl → Cl} (hf : ∀ c, (f c).nm = c.nm) {R : List Row} : (onR n f R).map entD = R.map entD := by
  unfold onR
  rw [List.map_map]
  refine List.map_congr_left fun p _ => ?_
  show entD (if p.1.nm = n then (f p.1, p.2) else p) = entD p
  split
  · show (kT (f p.1).nm, V.ref p.2.c) = (kT p.1.nm, V.ref p.2.c)
    rw [hf]
  · rfl
/-- a store into one cell of the class n -/
theorem DfW.put {CS CD D d : Addr} {R : List Row} {H H1 : Hp} {n : List Nat} {f : Cl → Cl} {x : Addr} {p : Row} (h : DfW CS CD D d R H) (nd : (nms (dsOf R)).Nodup) (hp : p ∈ R) (hn : p.1.nm = n) (hx : x ∈ cells p) (hf : ∀ c, (f c).nm = c.nm)
    (k : ∀ b o, b ≠ x → H b = some o → H1 b = some o) (new : ClAt CD H1 (f p.1, p.2)) : DfW CS CD D d (onR n f R) H1 := by
  obtain ⟨⟨dx, ho⟩, ht, hr, hnd⟩ := h
  have hxf : x ∈ R.flatMap cells := List.mem_flatMap.mpr ⟨p, hp, hx⟩
  have nd' : (D :: d :: R.flatMap cells).Nodup := hnd
  obtain ⟨n1, n2⟩ := List.nodup_cons.mp nd'
  obtain ⟨n3, n4⟩ := List.nodup_cons.mp n2
  have one : ∀ q ∈ R, q.1.nm = n → q = p := fun q hq e => by
    have : ∀ {R : List Row}, (nms (dsOf R)).Nodup → p ∈ R → q ∈ R → q = p := by
      intro R
      induction R with
      | nil => intro _ h; cases h
      | cons a r ih =>
        intro z hp hq
        obtain ⟨z1, z2⟩ := List.nodup_cons.mp (show (a.1.nm :: nms (dsOf r)).Nodup from z)
        rcases List.mem_cons.mp hp with e1 | hp'
        · rcases List.mem_cons.mp hq with e2 | hq'
          · rw [e1, e2]
          · exact absurd (List.mem_map.mpr ⟨q.1, List.mem_map.mpr ⟨q, hq', rfl⟩, by rw [e, ← hn, e1]⟩) z1
        · rcases List.mem_cons.mp hq with e2 | hq'
          · exact absurd (List.mem_map.mpr ⟨p.1, List.mem_map.mpr ⟨p, hp', rfl⟩, by rw [hn, ← e, e2]⟩) z1
          · exact ih z2 hp' hq'
    exact this nd hp hq
  refine ⟨⟨dx, k _ _ (fun e => n1 (by rw [e]; exact List.mem_cons_of_mem _ hxf)) ho⟩, ?_, fun q hq => ?_, by rw [onR_foot]; exact hnd⟩
  · rw [onR_ent hf]
    exact k _ _ (fun e => n3 (by rw [e]; exact hxf)) ht
  · obtain ⟨q0, hq0, rfl⟩ := List.mem_map.mp hq
    by_cases e : q0.1.nm = n
    · rw [if_pos e, one q0 hq0 e]
      exact new
    · rw [if_neg e]
      obtain ⟨dx, h1, h2, h3⟩ := hr q0 hq0
      have ap := fun y hy => cells_apart n4 q0 hq0 p hp (fun z => e (z.trans hn)) y hy x hx
      exact ⟨dx, k _ _ (ap _ (by simp [cells])) h1, k _ _ (ap _ (by simp [cells])) h2, k _ _ (ap _ (by simp [cells])) h3⟩
/-- a class more -/
theorem put_new {R : List Row} {n : List Nat} {c : Addr} (h : n ∉ nms (dsOf R)) : putK (R.map entD) (kT n) (.ref c) = R.map entD ++ [(kT n, .ref c)] := by
  refine putK_new _ ?_
  have := val_some (R := R) (n := n)
  rw [decide_eq_false h, Option.isSome_eq_false_iff, Option.isNone_iff_eq_none] at this
  exact this
theorem drop_row {R : List Row} {n : List Nat} : dropK (R.map entD) (kT n) = (R.filter fun p => decide (p.1.nm ≠ n)).map entD := by
  unfold dropK
  rw [List.filter_map]
  congr 1
  refine List.filter_congr fun p _ => ?_
  show decide (kT p.1.nm ≠ kT n) = decide (p.1.nm ≠ n)
  refine decide_eq_decide.mpr ?_
  rw [Ne, Ne, kT_iff]
theorem ds_filter (R : List Row) (n : List Nat) : dsOf (R.filter fun p => decide (p.1.nm ≠ n)) = (dsOf R).filter fun c => decide (c.nm ≠ n) := by
  unfold dsOf
  rw [List.filter_map]
  rfl
end Lv
/-! Methods that may raise; the error of a refused change. -/
namespace Lv
open PySem PySem.Spec PyProof.Rows L2
structure MetX (P : Program) (w : World) (K : PySem.W.Frag) (mg : Str → Option Value) (base : Heap) (k : Nat) (C : Addr) (m : Str) (sp : Sp) (dvs : List V) : Prop where
  ex : ∃ (f : Addr) (fd : FuncData) (ps : List Str) (ds : List Value), Cls K C ∧ Meth K C m f ∧ FnOk P w K mg base (L2.CX P w) k f fd ps sp ∧ Binds K fd ps ds ∧ Vals dvs ds
section
variable {X : Cx} {k j : Nat} {C : Addr} {m : Str} {sp : Sp} {dvs : List V} {E : XK} {o e : Expr} {es : List Expr} {ta : TE} {t : TA} {apos pos : Pos}
theorem pe_mx {pl : Sem Bool} (c : MetX X.prog X.w X.K X.mg X.base k C m sp dvs) (hr : Room j X.A) (hk : k ≤ j) (hx : Passes (L2.CX X.prog X.w) X E) (he : PE X o ta) (ha : PA X (e :: es) t)
    (h1 : starEach (e :: es) X.env = (false, eval e X.env) :: starEach es X.env := by rfl) (h2 : (backTo pos (starEach es X.env)).any (·.1) = false := by rfl)
    (h3 : eval (.Call (.Attribute o m apos) (e :: es) [] pos) X.env = (do
      let z ← eval o X.env
      standAt apos.atName
      let (f, first) ← holding [z] (getMethod z m pl)
      callWith pos f first (backTo pos (starEach (e :: es) X.env)) (backToKw pos (keywordEach [] X.env))) := by rfl) :
    PE X (.Call (.Attribute o m apos) (e :: es) [] pos) (tMeth C m sp dvs E ta t) := by
  obtain ⟨f, fd, ps, ds, hc, hm, F, b, d⟩ := c.ex
  exact pe_meth (pl := pl) he hc hm F (hr.mono hk) b d hx ha h1 h2 h3
theorem pe_mx0 {pl : Sem Bool} (c : MetX X.prog X.w X.K X.mg X.base k C m sp dvs) (hr : Room j X.A) (hk : k ≤ j) (hx : Passes (L2.CX X.prog X.w) X E) (he : PE X o ta)
    (h3 : eval (.Call (.Attribute o m apos) [] [] pos) X.env = (do
      let z ← eval o X.env
      standAt apos.atName
      let (f, first) ← holding [z] (getMethod z m pl)
      callWith pos f first (backTo pos (starEach [] X.env)) (backToKw pos (keywordEach [] X.env))) := by rfl) :
    PE X (.Call (.Attribute o m apos) [] [] pos) (tMeth C m sp dvs E ta tNil) := by
  obtain ⟨f, fd, ps, ds, hc, hm, F, b, d⟩ := c.ex
  exact pe_meth0 (pl := pl) he hc hm F (hr.mono hk) b d hx h3
end
/-- the way out by the error of the class at C, its field v -/
def ErrZ (C : Addr) (E : XK) (H : Hp) (v : Int) : Prop := ∀ d H', H d = none → Same H H' → H' d = some (.xd [(("at" : Str), .int v)]) → E (.ref C) (some d) H'
theorem ErrZ.mono {C : Addr} {E : XK} {H H1 : Hp} {v : Int} (e : ErrZ C E H v) (s : Same H H1) : ErrZ C E H1 v := fun d H' hd s' h => e d H' (s.free hd) (s.trans s') h
section
variable {ta : TA} {D : Ends} {σ : L2.St} {H : Hp} {E : XK} {C : Addr} {v : Int}
def RaiseZ (C : Addr) (E : XK) (vs : List V) (H : Hp) : Prop := ∃ v : Int, vs = [.int v] ∧ v.natAbs.log2 < 1920 ∧ ∀ d, H d = none → E (.ref C) (some d) (upd H d (.xd [(("at" : Str), .int v)]))
theorem w_raiseC (k : ta σ H fun vs H1 => RaiseZ C E vs H1) : tRaiseChg C (fun cls d _ H => E cls d H) ta D σ H := k
theorem raise_Z (hi : v.natAbs ≤ 1000000) (h : ErrZ C E H v) : RaiseZ C E [.int v] H := by
  refine ⟨v, rfl, ?_, fun d hd => h d _ hd (same_new0 hd) upd_same⟩
  by_cases z : v.natAbs = 0
  · rw [z]; decide
  · exact Nat.lt_trans ((Nat.log2_lt z).mpr (show v.natAbs < 2 ^ 31 by omega)) (by decide)
end
/-- done, or refused at a number -/
def OutZ {α : Type} (x : Sum Nat α) (A : α → Prop) (B : Nat → Prop) : Prop := match x with
  | .inr a => A a
  | .inl i => B i
theorem OutZ.r {α : Type} {x : Sum Nat α} {A : α → Prop} {B : Nat → Prop} {a : α} (h : OutZ x A B) (e : x = .inr a) : A a := by rw [e] at h; exact h
theorem OutZ.l {α : Type} {x : Sum Nat α} {A : α → Prop} {B : Nat → Prop} {i : Nat} (h : OutZ x A B) (e : x = .inl i) : B i := by rw [e] at h; exact h
theorem Go.sameOf {F F' : List Addr} {H0 H H' : Hp} (g : Go F F' H H') (s : Same H0 H) (n : ∀ b ∈ F, H0 b = none) : Same H0 H' := fun b o e => g.fr.1 b o (fun z => by rw [n b z] at e; cases e) (s b o e)
end Lv
/-! Data as texts, in plain Lean; data in memory. -/
namespace Lv
open PySem PySem.Spec PyProof.Rows L2
open TL (numL tl_num numL_digits numL_ne numL_val numL_len numL_lt numL_step numL_free numL_inj)
abbrev Ky := Sum Int (List Nat)
inductive Dt where
  | n
  | b (x : Bool)
  | i (x : Int)
  | s (a : List Nat)
  | l (xs : List Dt)
  | t (xs : List Dt)
  | d (ks : List Ky) (vs : List Dt)
/-- a number as a text -/
def intL (x : Int) : List Nat := if x < 0 then 45 :: numL x.natAbs else numL x.natAbs
theorem intL_nat (n : Nat) : intL (n : Int) = numL n := by unfold intL; rw [if_neg (by omega), Int.natAbs_natCast]
theorem int_str (x : Int) : V.str (Str.ofString (toString x)) = T (intL x) := by
  rw [T_eta]
  congr 1
  cases x with
  | ofNat n => rw [show Int.ofNat n = (n : Int) from rfl, intL_nat]; exact tl_num n
  | negSucc n =>
    have e0 : intL (Int.negSucc n) = 45 :: numL (n + 1) := by unfold intL; rw [if_pos (Int.negSucc_lt_zero n)]; rfl
    have e1 : toString (Int.negSucc n) = "-" ++ toString (((n + 1 : Nat) : Int)) := rfl
    rw [e0, e1, ← tl_num (n + 1)]
    rw [Str.ofString_eq_toList, Str.ofString_eq_toList]
    simp
def kyT : Ky → List Nat
  | .inl x => 35 :: (intL x ++ [59])
  | .inr a => 34 :: (numL a.length ++ 58 :: a)
def sortR (rs : List (List Nat × List Nat)) : List (List Nat × List Nat) := rs.mergeSort fun p q => decide (p.1 ≤ q.1)
def flatR (rs : List (List Nat × List Nat)) : List Nat := ((sortR rs).map fun p => p.1 ++ p.2).flatten
mutual
/-- the text of a datum -/
def wr : Dt → List Nat
  | .n => [78]
  | .b x => if x = true then [84] else [70]
  | .i x => kyT (.inl x)
  | .s a => kyT (.inr a)
  | .l xs => 91 :: ((wrs xs).flatten ++ [93])
  | .t xs => 40 :: ((wrs xs).flatten ++ [41])
  | .d ks vs => 123 :: (flatR ((ks.map kyT).zip (wrs vs)) ++ [125])
def wrs : List Dt → List (List Nat)
  | [] => []
  | x :: r => wr x :: wrs r
end
theorem wrs_map : ∀ l : List Dt, wrs l = l.map wr
  | [] => by unfold wrs; rfl
  | x :: r => by unfold wrs; rw [wrs_map r]; rfl
theorem wr_n : wr .n = [78] := by unfold wr; rfl
theorem wr_b (x : Bool) : wr (.b x) = if x = true then [84] else [70] := by unfold wr; rfl
theorem wr_i (x : Int) : wr (.i x) = kyT (.inl x) := by unfold wr; rfl
theorem wr_s (a : List Nat) : wr (.s a) = kyT (.inr a) := by unfold wr; rfl
theorem wr_l (xs : List Dt) : wr (.l xs) = 91 :: ((xs.map wr).flatten ++ [93]) := by unfold wr; rw [wrs_map]
theorem wr_t (xs : List Dt) : wr (.t xs) = 40 :: ((xs.map wr).flatten ++ [41]) := by unfold wr; rw [wrs_map]
theorem wr_d (ks : List Ky) (vs : List Dt) : wr (.d ks vs) = 123 :: (flatR ((ks.map kyT).zip (vs.map wr)) ++ [125]) := by unfold wr; rw [wrs_map]
/-! ### bounds -/
mutual
/-- lists, tuples and dicts within one another -/
def nest : Dt → Nat
  | .l xs => nests xs + 1
  | .t xs => nests xs + 1
  | .d _ vs => nests vs + 1
  | _ => 0
def nests : List Dt → Nat
  | [] => 0
  | x :: r => max (nest x) (nests r)
end
theorem nest_l (xs : List Dt) : nest (.l xs) = nests xs + 1 := by unfold nest; rfl
theorem nest_t (xs : List Dt) : nest (.t xs) = nests xs + 1 := by unfold nest; rfl
theorem nest_d (ks : List Ky) (xs : List Dt) : nest (.d ks xs) = nests xs + 1 := by unfold nest; rfl
theorem nests_mem : ∀ {l : List Dt} {x : Dt}, x ∈ l → nest x ≤ nests l
  | y :: r, x, h => by
    unfold nests
    rcases List.mem_cons.mp h with rfl | h
    · omega
    · have := nests_mem h; omega
theorem nests_le {n : Nat} : ∀ {l : List Dt}, (∀ x ∈ l, nest x ≤ n) → nests l ≤ n
  | [], _ => by unfold nests; omega
  | y :: r, h => by
    unfold nests
    have h1 := h y List.mem_cons_self
    have h2 := nests_le (l := r) fun x hx => h x (List.mem_cons_of_mem _ hx)
    omega
def KyOk : Ky → Prop
  | .inl x => x.natAbs < 10 ^ 20
  | .inr a => a.length ≤ 100 ∧ ∀ c ∈ a, c < 128 ∧ c ≠ 10
mutual
def Okd : Dt → Prop
  | .i x => KyOk (.inl x)
  | .s a => KyOk (.inr a)
  | .l xs => xs.length ≤ 3 ∧ Okds xs
  | .t xs => xs.length ≤ 3 ∧ Okds xs
  | .d ks vs => ks.length = vs.length ∧ ks.length ≤ 3 ∧ ks.Nodup ∧ (∀ k ∈ ks, KyOk k) ∧ Okds vs
  | _ => True
def Okds : List Dt → Prop
  | [] => True
  | x :: r => Okd x ∧ Okds r
end
theorem okds_iff : ∀ {l : List Dt}, Okds l ↔ ∀ x ∈ l, Okd x
  | [] => by unfold Okds; simp
  | y :: r => by unfold Okds; rw [okds_iff (l := r)]; simp
theorem ok_l {xs : List Dt} : Okd (.l xs) ↔ xs.length ≤ 3 ∧ ∀ x ∈ xs, Okd x := by
  rw [show Okd (.l xs) = (xs.length ≤ 3 ∧ Okds xs) by unfold Okd; rfl, okds_iff]
theorem ok_t {xs : List Dt} : Okd (.t xs) ↔ xs.length ≤ 3 ∧ ∀ x ∈ xs, Okd x := by
  rw [show Okd (.t xs) = (xs.length ≤ 3 ∧ Okds xs) by unfold Okd; rfl, okds_iff]
theorem ok_d {ks : List Ky} {vs : List Dt} : Okd (.d ks vs) ↔ ks.length = vs.length ∧ ks.length ≤ 3 ∧ ks.Nodup ∧ (∀ k ∈ ks, KyOk k) ∧ ∀ x ∈ vs, Okd x := by
  rw [show Okd (.d ks vs) = (ks.length = vs.length ∧ ks.length ≤ 3 ∧ ks.Nodup ∧ (∀ k ∈ ks, KyOk k) ∧ Okds vs) by unfold Okd; rfl, okds_iff]
theorem ok_i {x : Int} : Okd (.i x) ↔ x.natAbs < 10 ^ 20 := by unfold Okd; rfl
theorem ok_s {a : List Nat} : Okd (.s a) ↔ (a.length ≤ 100 ∧ ∀ c ∈ a, c < 128 ∧ c ≠ 10) := by unfold Okd; rfl
theorem intL_len {x : Int} (h : x.natAbs < 10 ^ 20) : (intL x).length ≤ 21 := by
  have := numL_len (n := x.natAbs) (k := 20) (by decide) h
  unfold intL
  split
  · rw [List.length_cons]; omega
  · omega
theorem kyT_len {k : Ky} (h : KyOk k) : (kyT k).length ≤ 120 := by
  cases k with
  | inl x => have := intL_len h; unfold kyT; simp; omega
  | inr a =>
    have h1 := h.1
    have := numL_len (n := a.length) (k := 3) (by decide) (by omega)
    unfold kyT; simp; omega
/-! ### texts of keys are unlike -/
theorem intL_inj {x y : Int} (h : intL x = intL y) : x = y := by
  have h45 : ∀ n, (numL n).head? ≠ some 45 := fun n e => by
    have : 45 ∈ numL n := List.mem_of_mem_head? e
    exact numL_free (s := 45) (by omega) this
  unfold intL at h
  by_cases hx : x < 0
  · by_cases hy : y < 0
    · rw [if_pos hx, if_pos hy] at h
      have := numL_inj (List.cons.inj h).2
      omega
    · rw [if_pos hx, if_neg hy] at h
      exact absurd (by rw [← h]; rfl) (h45 y.natAbs)
  · by_cases hy : y < 0
    · rw [if_neg hx, if_pos hy] at h
      exact absurd (by rw [h]; rfl) (h45 x.natAbs)
    · rw [if_neg hx, if_neg hy] at h
      have := numL_inj h
      omega
theorem span_inj {c : Nat} : ∀ {u v a b : List Nat}, c ∉ u → c ∉ v → u ++ c :: a = v ++ c :: b → u = v ∧ a = b
  | [], [], a, b, _, _, h => ⟨rfl, (List.cons.inj h).2⟩
  | [], y :: v, a, b, _, hv, h => by
    have := (List.cons.inj h).1
    exact absurd (by rw [this]; exact List.mem_cons_self) hv
  | x :: u, [], a, b, hu, _, h => by
    have := (List.cons.inj h).1
    exact absurd (by rw [← this]; exact List.mem_cons_self) hu
  | x :: u, y :: v, a, b, hu, hv, h => by
    obtain ⟨h1, h2⟩ := List.cons.inj h
    obtain ⟨e1, e2⟩ := span_inj (u := u) (v := v) (fun z => hu (List.mem_cons_of_mem _ z)) (fun z => hv (List.mem_cons_of_mem _ z)) h2
    exact ⟨by rw [h1, e1], e2⟩
theorem kyT_inj {k j : Ky} (h : kyT k = kyT j) : k = j := by
  cases k with
  | inl x =>
    cases j with
    | inl y =>
      have h := (List.cons.inj h).2
      rw [intL_inj (List.append_cancel_right h)]
    | inr b => exact absurd (List.cons.inj h).1 (by decide)
  | inr a =>
    cases j with
    | inl y => exact absurd (List.cons.inj h).1 (by decide)
    | inr b =>
      have h := (List.cons.inj h).2
      rw [(span_inj (numL_free (s := 58) (by omega)) (numL_free (s := 58) (by omega)) h).2]
theorem kyT_nodup {ks : List Ky} (h : ks.Nodup) : (ks.map kyT).Nodup := List.Pairwise.map _ (fun a b hab => fun e => hab (kyT_inj e)) h
/-! ### sorted rows -/
theorem sortR_perm (rs : List (List Nat × List Nat)) : (sortR rs).Perm rs := List.mergeSort_perm ..
theorem sortR_pw (rs : List (List Nat × List Nat)) : (sortR rs).Pairwise fun p q => p.1 ≤ q.1 := by
  have := List.pairwise_mergeSort (le := fun p q : List Nat × List Nat => decide (p.1 ≤ q.1)) (fun a b c h1 h2 => decide_eq_true (List.le_trans (of_decide_eq_true h1) (of_decide_eq_true h2))) (fun a b => by
    rcases List.le_total a.1 b.1 with h | h
    · simp [h]
    · simp [h]) rs
  exact this.imp fun h => of_decide_eq_true h
theorem pair_of_key {rs : List (List Nat × List Nat)} (h : (rs.map (·.1)).Nodup) {p q : List Nat × List Nat} (hp : p ∈ rs) (hq : q ∈ rs) (e : p.1 = q.1) : p = q := by
  induction rs with
  | nil => cases hp
  | cons r rs ih =>
    rw [List.map_cons, List.nodup_cons] at h
    rcases List.mem_cons.mp hp with rfl | hp'
    · rcases List.mem_cons.mp hq with rfl | hq'
      · rfl
      · exact absurd (List.mem_map.mpr ⟨q, hq', e.symm⟩) h.1
    · rcases List.mem_cons.mp hq with rfl | hq'
      · exact absurd (List.mem_map.mpr ⟨p, hp', e⟩) h.1
      · exact ih h.2 hp' hq'
/-- one sorted order of rows whose keys are unlike -/
theorem sortR_one {rs ss : List (List Nat × List Nat)} (hn : (rs.map (·.1)).Nodup) (hp : ss.Perm rs) (hs : ss.Pairwise fun p q => p.1 ≤ q.1) : ss = sortR rs := by
  refine List.Perm.eq_of_pairwise (le := fun p q : List Nat × List Nat => p.1 ≤ q.1) (fun a b ha hb x y => ?_) hs (sortR_pw rs) (hp.trans (sortR_perm rs).symm)
  exact pair_of_key hn (hp.mem_iff.mp ha) ((sortR_perm rs).mem_iff.mp hb) (List.le_antisymm x y)
theorem sortR_lt {rs : List (List Nat × List Nat)} (hn : (rs.map (·.1)).Nodup) : (sortR rs).Pairwise fun p q => p.1 < q.1 := by
  have h1 := sortR_pw rs
  have h2 : ((sortR rs).map (·.1)).Nodup := ((sortR_perm rs).map _).nodup_iff.mpr hn
  have h3 : (sortR rs).Pairwise fun p q => p.1 ≠ q.1 := List.pairwise_map.mp h2
  exact (h1.and h3).imp fun ⟨a, b⟩ => List.not_le.mp fun z => b (List.le_antisymm a z)
theorem sortR_idem {rs : List (List Nat × List Nat)} (hn : (rs.map (·.1)).Nodup) : sortR (sortR rs) = sortR rs :=
  (sortR_one (rs := sortR rs) (ss := sortR rs) (((sortR_perm rs).map _).nodup_iff.mpr hn) (List.Perm.refl _) (sortR_pw rs)).symm
end Lv
/-! list.remove of a text. -/
namespace Lv
open PySem PySem.Spec PyProof.Rows L2
/-- is it the text -/
def eqs (k : Str) (v : Value) : Bool := match v with
  | .str x _ => x.cps.toList == k.cps.toList
  | _ => false
theorem vals_str : ∀ {l : List (List Nat)} {us : List Value}, Vals (l.map T) us → ∀ (i : Nat) (a : List Nat), l[i]? = some a → ∃ t, us[i]? = some (.str ⟨a.toArray⟩ t) := fun {l us} h i a e => by
  obtain ⟨u, hu, r⟩ := h.get (i := i) (x := T a) (by rw [List.getElem?_map, e]; rfl)
  obtain ⟨t, rfl⟩ := r
  exact ⟨t, hu⟩
theorem erase_mapT : ∀ (l : List (List Nat)) (j : Nat), (l.map T).eraseIdx j = (l.eraseIdx j).map T
  | [], j => by simp
  | a :: r, 0 => by simp
  | a :: r, j + 1 => by
    have ih := erase_mapT r j
    simp [ih]
section
variable {X : Cx}
def rRemS : V → List V → Hp → VK → Prop := fun x xs H Q => ∃ (l : Addr) (ns : List (List Nat)) (k : List Nat) (j : Nat), x = .ref l ∧ xs = [T k] ∧ H l = some (.lst (ns.map T)) ∧ ns[j]? = some k ∧ (∀ m : Nat, m < j → ns[m]? ≠ some k) ∧ Q .non (upd H l (.lst ((ns.eraseIdx j).map T)))
theorem mt_removeS : MtM X "list.remove" rRemS := by
  intro pins s σ H x xs v us Q I rx rxs h
  obtain ⟨l, ns, k, j, rfl, rfl, hH, hj, hno, q⟩ := h
  cases rx
  obtain ⟨u, rfl, ru⟩ := rxs.one
  obtain ⟨t, rfl⟩ := ru
  obtain ⟨z, its, n, r, hl, e⟩ := I.lstM hH
  rw [List.length_map] at hl z
  have hjn : j < ns.length := (List.getElem?_eq_some_iff.mp hj).1
  have hjl : j < its.toArray.size := by rw [List.size_toArray]; omega
  have row : ∀ m : Nat, m < its.length → ∃ a t, ns[m]? = some a ∧ its[m]? = some (.str ⟨a.toArray⟩ t) := fun m hm => by
    have e1 : ns[m]? = some (ns[m]'(by omega)) := List.getElem?_eq_getElem _
    obtain ⟨t, ht⟩ := vals_str r m _ e1
    exact ⟨_, t, e1, ht⟩
  have giv : ∀ y ∈ its, MeetsSeq.EqGives y (.str ⟨k.toArray⟩ t) (eqs ⟨k.toArray⟩ y) := fun y hy => by
    obtain ⟨i, hi⟩ := List.mem_iff_getElem?.mp hy
    obtain ⟨a, t2, _, h2⟩ := row i (List.getElem?_eq_some_iff.mp hi).1
    rw [hi] at h2
    cases h2
    exact SeqRoads2.EqGives.str _ _ t2 t
  refine call_meets PySem.F.slot_list_remove ⟨_, e, rfl⟩ PySem.F.entry_list_remove (PySem.F.args_list_remove_2 _ _)
    (MeetsSeq.list_remove l its.toArray n (.str ⟨k.toArray⟩ t) (eqs ⟨k.toArray⟩) (fun y hy => giv y (by simpa using hy)) j hjl ?_ ?_ (by rw [List.size_toArray]; omega)) ⟨e, ?_⟩
  · obtain ⟨tj, hjt⟩ := vals_str r j k hj
    obtain ⟨h1, h2⟩ := List.getElem?_eq_some_iff.mp hjt
    have e1 : its.toArray[j] = .str ⟨k.toArray⟩ tj := by simpa using h2
    rw [e1]
    exact beq_self_eq_true _
  · intro m hm hmj
    obtain ⟨a, tm, h0, hmt⟩ := row m (by simpa using hm)
    obtain ⟨h1, h2⟩ := List.getElem?_eq_some_iff.mp hmt
    have e1 : its.toArray[m] = .str ⟨a.toArray⟩ tm := by simpa using h2
    rw [e1]
    refine beq_eq_false_iff_ne.mpr fun e2 => hno m hmj ?_
    have e2 : a = k := e2
    rw [h0, e2]
  · have rr := r.eraseIdx j
    rw [erase_mapT] at rr
    refine ⟨.non, _, I.lset (its' := its.eraseIdx j) (t' := s.toks) hH e ?_ rr ?_, rfl, q⟩
    · show its.toArray.eraseIdxIfInBounds j = (its.eraseIdx j).toArray
      rw [List.eraseIdxIfInBounds_toArray]
    · have z2 : (ns.eraseIdx j).length ≤ ns.length := List.length_eraseIdx_le ..
      rw [List.length_map]
      omega
end
end Lv
/-! Comprehensions over any walk; dicts locked, sorted, deleted from; len of a set. -/
namespace Lv
open PySem PySem.Spec PyProof.Rows L2
section
variable {σ : L2.St} {H : Hp} {Q : VK} {D : Ends} {K : PySem.W.Frag} {J : It} {n : Nat} {G : Hp → Prop} {Y : Nat → Hp → V → Hp → Prop} {g : TG} {tt : TT} {te : TE} {vs : List Nat} {td ty : TE}
/-- what a comprehension asks, its walk J at hand -/
def LcJ (J : It) (g : TG) (tt : TT) (te : TE) (vs : List Nat) (σ : L2.St) (H : Hp) (Q : VK) : Prop := ∀ D, H D = none → ∃ W : Nat → Nat → Hp → Prop, (∃ m, W 0 m (upd H D (.lst []))) ∧ ∀ i m H, W i m H →
  (J.stop i H ∧ Q (.ref D) H) ∨ (J.go i H ∧ ∃ Nx : Hp → Prop, (∀ H', Nx H' → ∃ m', m' < m ∧ W (i + 1) m' H') ∧ ∀ x H', J.yld i H x H' → g x (wipe σ vs) H' fun σ2 H2 => wipe σ2 vs = wipe σ vs ∧ tt σ2 H2 fun b H3 =>
    if b = true then te σ2 H3 fun y H4 => ∃ acc, H4 D = some (.lst acc) ∧ acc.length < sizeLine ∧ Nx (upd H4 D (.lst (acc ++ [y]))) else Nx H3)
theorem lc_W (wk : Walk J n G Y) (Pv : Addr → Nat → List V → Hp → Prop) (h0 : ∀ D H1, H D = none → Same H H1 → H1 D = some (.lst []) → Pv D 0 [] H1) (hl : ∀ D i acc H1, i ≤ n → Pv D i acc H1 → G H1)
    (hs : ∀ D (i : Nat) x acc H1 H2, i < n → acc.length ≤ i → H1 D = some (.lst acc) → Pv D i acc H1 → Y i H1 x H2 → g x (wipe σ vs) H2 fun σ2 H3 => wipe σ2 vs = wipe σ vs ∧ tt σ2 H3 fun b H4 =>
      if b = true then te σ2 H4 fun y H5 => ∃ acc, H5 D = some (.lst acc) ∧ acc.length < sizeLine ∧ LcN Pv D (i + 1) (upd H5 D (.lst (acc ++ [y]))) else LcN Pv D (i + 1) H4)
    (hd : ∀ D acc H1, acc.length ≤ n → H1 D = some (.lst acc) → Pv D n acc H1 → Q (.ref D) H1) : LcJ J g tt te vs σ H Q := fun D hD =>
  lc_it wk (fun i H1 => LcN Pv D i H1) ⟨[], Nat.le_refl _, upd_same, h0 D _ hD (same_new0 hD) upd_same⟩ (fun i H1 hi ⟨acc, _, _, p⟩ => hl D i acc H1 hi p)
    (fun i x H1 H2 hi ⟨acc, h1, h2, p⟩ y => hs D i x acc H1 H2 hi h1 h2 p y) fun H1 ⟨acc, h1, h2, p⟩ => hd D acc H1 h1 h2 p
theorem w_ddel (k : td σ H fun x H1 => ty σ H1 fun y H2 => ∃ a kvs k, x = .ref a ∧ H2 a = some (.dK kvs) ∧ y = kV k ∧ (valV kvs k).isSome = true ∧ D.nx σ (upd H2 a (.dK (dropK kvs k)))) : sDDel td ty D σ H := k
theorem w_lock {t : TE} {d : Addr} {kvs : List (Key × V)} (h : H d = some (.dK kvs)) (k : ∀ od, t σ (upd H d (.frz od (.dK kvs))) fun v H' => H' d = some (.frz od (.dK kvs)) ∧ Q v (upd H' d (.dK kvs))) : tLockE t σ H Q := ⟨d, _, h, True.intro, k⟩
theorem w_lockS {t : TS} {d : Addr} {kvs : List (Key × V)} (h : H d = some (.dK kvs)) (k : ∀ od, t ⟨fun σ' H' => H' d = some (.frz od (.dK kvs)) ∧ D.nx σ' (upd H' d (.dK kvs)), fun v H' => H' d = some (.frz od (.dK kvs)) ∧ D.rt v (upd H' d (.dK kvs)), fun σ' H' => H' d = some (.frz od (.dK kvs)) ∧ D.bk σ' (upd H' d (.dK kvs)), fun σ' H' => H' d = some (.frz od (.dK kvs)) ∧ D.ct σ' (upd H' d (.dK kvs))⟩ σ (upd H d (.frz od (.dK kvs)))) : tLock t D σ H := ⟨d, _, h, True.intro, k⟩
/-- sorted(d) -/
def rSortD : List V → Hp → VK → Prop := fun xs H Q => ∃ (a : Addr) (kvs : List (Key × V)) (ks : List Str), xs = [.ref a] ∧ Rd H a (.dK kvs) ∧ kvs.map (·.1) = ks.map Sum.inr ∧ ks.length < 64 ∧ ∀ ys p, ys.Perm ks → sortedS ys = true → H p = none → Q (.ref p) (upd H p (.lst (ys.map V.str)))
theorem call_sortedDS {X : Cx} (hc : X.calm = true) : CallR X (.builtin "sorted") rSortD := call_sortedD hc
theorem w_listT {p : Addr} {ys : List V} (h : SqT K H p ys) (k : ∀ l H1, H l = none → Same H H1 → H1 l = some (.lst ys) → Q (.ref l) H1) : rListOf K [.ref p] H Q := ⟨p, ys, rfl, .inr h, fun l hl => k l _ hl (same_new0 hl) upd_same⟩
theorem w_rem {p : Addr} {ns : List (List Nat)} {a : List Nat} (h : H p = some (.lst (ns.map T))) (ha : a ∈ ns) (k : ∀ H1, H1 p = some (.lst ((ns.erase a).map T)) → (∀ b o, b ≠ p → H b = some o → H1 b = some o) → Q .non H1) : rRemS (.ref p) [T a] H Q := by
  have hlt := List.idxOf_lt_length_of_mem ha
  have he : ns.eraseIdx (ns.idxOf a) = ns.erase a := by rw [List.erase_eq_eraseIdx_of_idxOf rfl]
  refine ⟨p, ns, a, ns.idxOf a, rfl, rfl, h, ?_, fun m hm e => ?_, ?_⟩
  · rw [List.getElem?_eq_getElem hlt, List.getElem_idxOf hlt]
  · obtain ⟨h2, h3⟩ := List.getElem?_eq_some_iff.mp e
    have h1 := List.not_of_lt_findIdx (p := (· == a)) (xs := ns) (i := m) hm
    have h4 : (ns[m] == a) = true := by rw [h3]; exact beq_self_eq_true a
    rw [h4] at h1
    cases h1
  · rw [he]
    exact k _ upd_same fun b o n e => by rw [upd_ne n]; exact e
theorem w_lcV (k : td σ H fun x H1 => ∃ d o kvs, x = .ref d ∧ H1 d = some (.frz o (.dK kvs)) ∧ LcJ (Itd d o kvs) g tt te vs σ H1 Q) : tLc (iVals td) g tt te vs σ H Q := k
theorem w_lcKk (k : td σ H fun x H1 => ∃ d o, x = .ref d ∧ ((∃ kvs, H1 d = some (.frz o (.dK kvs)) ∧ LcJ (Itk d o kvs) g tt te vs σ H1 Q) ∨ ∃ kvs, H1 d = some (.frz o (.dT kvs)) ∧ LcJ (Itkt d o kvs) g tt te vs σ H1 Q)) : tLc (iKeys td) g tt te vs σ H Q := k
theorem w_lcZ {ta : TA} (k : ta σ H fun us H1 => ∃ a b xs ys, us = [.ref a, .ref b] ∧ SqL K H1 a xs ∧ SqL K H1 b ys ∧ LcJ (Itz K a b) g tt te vs σ H1 Q) : tLc (iZip K ta) g tt te vs σ H Q := k
theorem w_lcE {ta : TA} (k : ta σ H fun us H1 => ∃ a xs, us = [.ref a] ∧ SqL K H1 a xs ∧ LcJ (Ite K a) g tt te vs σ H1 Q) : tLc (iEnum K ta) g tt te vs σ H Q := k
theorem w_lcTt {te0 : TE} (k : te0 σ H fun x H1 => ∃ a, x = .ref a ∧ (∃ xs, SqT K H1 a xs) ∧ LcJ (Itt K a) g tt te vs σ H1 Q) : tLc (iTup K te0) g tt te vs σ H Q := k
theorem cTe {a b : List Nat} {A B : Prop} (e : a = b) (k : A) : if decide (T a = T b) = true then A else B := by
  rw [if_pos (decide_eq_true (by rw [e]))]; exact k
theorem cTn {a b : List Nat} {A B : Prop} (e : a ≠ b) (k : B) : if decide (T a = T b) = true then A else B := by
  rw [if_neg (by rw [decide_eq_false (fun z => e (T_inj z))]; exact Bool.false_ne_true)]; exact k
theorem cNe {a b : List Nat} {A B : Prop} (e : a = b) (k : B) : if (!decide (T a = T b)) = true then A else B := by
  rw [if_neg (by rw [decide_eq_true (by rw [e])]; exact Bool.false_ne_true)]; exact k
theorem cNn {a b : List Nat} {A B : Prop} (e : a ≠ b) (k : A) : if (!decide (T a = T b)) = true then A else B := by
  rw [if_pos (by rw [decide_eq_false (fun z => e (T_inj z))]; rfl)]; exact k
theorem w_par {i j : Nat} {ta : TA} (k : ta σ H fun us H1 => ∃ v x, us = [v, x] ∧ D.nx ((σ.set i (some v)).set j (some x)) H1) : tPar i j ta D σ H := k
theorem w_any {p : Addr} {bs : List Bool} (h : SqL K H p (bs.map V.bl)) (k : Q (.bl (bs.any id)) H) : L2.rAny K [.ref p] H Q := ⟨p, bs, rfl, h, k⟩
theorem same_unlock {d : Addr} {u x : HO} {H1 : Hp} (h : H d = some u) (s : Same (upd H d x) H1) : Same H (upd H1 d u) := fun b o e => by
  by_cases z : b = d
  · rw [z, h] at e; cases e; rw [z, upd_same]
  · rw [upd_ne z]; exact s b o (by rw [upd_ne z]; exact e)
theorem catA_new {a b : Addr} {xs ys : List V} (ha : SqT K H a xs) (hb : SqT K H b ys) (z : xs.length + ys.length ≤ 1000000) (k : ∀ p H1, Same H H1 → SqT K H1 p (xs ++ ys) → Q (.ref p) H1) : rCatA K (.ref a) (.ref b) H Q :=
  ⟨a, b, xs, ys, rfl, rfl, ha, hb, Nat.le_trans z (by decide), fun e => k b H (fun _ _ h => h) (by rw [e]; exact hb), fun _ e => k a H (fun _ _ h => h) (by rw [e, List.append_nil]; exact ha), fun _ _ p hp => k p _ (same_new0 hp) (.inl (.inl upd_same))⟩
end
section
open C8 (Mak)
variable {X : Cx} {k j : Nat} {x : Str} {C : Addr} {sp : Sp} {dvs : List V} {p pos : Pos}
theorem pe_mk0 (c : Mak X.prog X.w X.K X.mg X.base k x C sp dvs) (hr : Room j X.A) (hk : k + 1 ≤ j) (hg : Gl X x) (hdb : (x == ("__debug__" : Str)) = false := by decide) :
    PE X (.Call (.Name x p) [] [] pos) (tMake C sp dvs C8.E0 tNil) := by
  obtain ⟨f, fd, ps, ds, M, F, hm, b, d⟩ := c.ex
  exact pe_make0 M F (hr.mono hk) hg hm b d pass0 hdb
end
end Lv
/-! sorted(d, key=f): d a dict, f a def of the program that gives a text for each key and tracks nothing new. -/
namespace L2
open PySem PySem.Spec PyProof.Rows PySem.W
section
variable {X : Cx} {pins : List (Addr × Obj)} {σ : St} {H : Hp} {s : Shared}
theorem Inv.pinKeys (I : Inv X pins σ H s) {ps : List (Addr × Obj)} (hp : ∀ p ∈ ps, s.heap.get? p.1 = some p.2 ∧ H p.1 = none ∧ p.1 ≠ X.env.locals ∧ p.1 ∉ X.fs ∧ ∀ v, p.2.data ≠ .cell v) : Inv X (pins ++ ps) σ H s :=
  ⟨I.ok, I.os, I.bare, I.base, I.loc, I.cell, I.free, I.freeC, fun p hp' => by
    rw [← List.append_assoc] at hp'
    exact (List.mem_append.mp hp').elim (I.pin p) (hp p), I.hok, I.len⟩
theorem Inv.unpinKeys {ps : List (Addr × Obj)} (I : Inv X (pins ++ ps) σ H s) : Inv X pins σ H s :=
  ⟨I.ok, I.os, I.bare, I.base, I.loc, I.cell, I.free, I.freeC, fun p hp => I.pin p (by rw [← List.append_assoc]; exact List.mem_append_left _ hp), I.hok, I.len⟩
/-- an object that stands, untracked, is tracked -/
theorem Inv.track {a : Addr} {o : HO} (I : Inv X pins σ H s) (hf : FpOk X pins H a) (new : ObjOk X.prog X.w (upd H a o) s.heap a o) : Inv X pins σ (upd H a o) s := by
  have hn := hf.1
  have I' := I.step (H' := upd H a o) (h' := s.heap) (g' := s.gens) (d' := s.drawn) (t' := s.toks) (ch := [a]) (fun b hb => by
      rw [List.mem_singleton.mp hb]; exact ⟨hf.2.2.2.1, hf.2.1, hf.2.2.2.2.1, hf.2.2.2.2.2⟩) (fun b o _ _ _ e _ => e) (fun b o _ _ _ e _ => ⟨o.slots, e⟩)
    (fun b o hb _ n => by rw [upd_ne (fun z => hb (by rw [z]; exact List.mem_singleton.mpr rfl))]; exact n) (fun b o _ e => ⟨o, e⟩) (fun b xs e => by rw [upd_ne (ne_of_none e hn)]; exact e) (fun b o u e => by rw [upd_ne (ne_of_none e hn)]; exact e)
    (fun b ps e => ⟨#[], by rw [upd_ne (ne_of_none e hn), e]; simp⟩) (fun m hm => hm) (HOk.laidN I.hok (fun _ _ e => e) hn new) I.bare
  exact I'
/-- what a def used as a key gives: for the value v the text kt v, and nothing tracked anew -/
def spKey (kt : V → Option Str) : Sp := fun vs H Q _ => ∃ v z, vs = [v] ∧ kt v = some z ∧ Q (.str z) H
def KeyOk (P : Program) (w : World) (K : PySem.W.Frag) (mg : Str → Option Value) (base : Heap) (k : Nat) (f : Addr) (kt : V → Option Str) : Prop :=
  ∃ (fd : FuncData) (ps : List Str), FnOk P w K mg base CX0 k f fd ps (spKey kt) ∧ Binds K fd ps []
theorem alike_str {ds : List Str} : AllAlike (ds.map PyData.str) := AllAlike.of (enc := PyData.str) fun b b' => rfl
theorem sortable_str {ds : List Str} : Sortable (ds.map PyData.str) := Sortable.others (enc := PyData.str) fun b => ⟨(fun z => nomatch z), fun xs z => nomatch z⟩
/-- the keys are told one by one -/
theorem key_rest {A : Around} {kt : V → Option Str} {f kS a : Addr} {e1 : Nat} {k : Nat} {us : List Value} {vs : List V} {zs : List Str} {R : PySem.Fin → Shared → Prop} {E : Value → Shared → Prop} (F : KeyOk X.prog X.w X.K X.mg X.base k f kt) (hA : A = X.A.in1.in1) (hr : Room k A)
    (I : Inv X pins σ H s) (r : Vals vs us) (hz : vs.map kt = zs.map some) (hZ : us.length ≤ sizeLine) (hkS : FpOk X pins H kS) (ha : FpOk X pins H a) (hka : kS ≠ a) (nk : s.heap.get? kS = some (seqObj "list" #[] 0)) (na : s.heap.get? a = some (seqObj "list" #[] e1))
    (h : ∀ h' g' d' t' out c, Inv X pins σ H { s with heap := h', gens := g', drawn := d', toks := t' } → h'.get? a = some (seqObj "list" (List.toArray out) c) → (∃ B : List (V × Str), B.map (·.1) = vs ∧ B.map (·.2) = zs ∧ EachIs (fun u (b : V × Str) => RelV b.1 u) out (B.mergeSort (dataLe false fun b => .str b.2))) → R (.done (.ret .none)) { s with heap := h', gens := g', drawn := d', toks := t' }) :
    wpAny (model X.prog X.w) A (ksk_rest a (.ref f) false us.toArray e1 (.ref kS)) R E s := by
  subst hA
  have hlv := r.length
  have hlz : vs.length = zs.length := by have := congrArg List.length hz; simpa using this
  have cellS : ∀ (xs : Array Value) (n : Nat) v, (seqObj "list" xs n).data ≠ .cell v := fun xs n v z => by cases z
  unfold ksk_rest
  refine wpAny_bind (wpAny_rule ?_)
  first
    | rw [List.forIn_toArray]
    | (rw [← Array.forIn_toList]; simp only [List.toList_toArray])
    | rw [← Array.forIn_toList]
  have nofs : ∀ {b : Addr}, FpOk X pins H b → b ∉ X.fs := fun hb => hb.2.2.1
  refine wpAny_bind (ksk_fold (fun i s' => ∃ h' g' d' t' kA e, s' = { s with heap := h', gens := g', drawn := d', toks := t' } ∧ Inv X pins σ H s' ∧ h'.get? kS = some (seqObj "list" kA e) ∧ h'.get? a = some (seqObj "list" #[] e1) ∧ EachIs (fun v (z : Str) => ∃ t, v = Value.str z t) kA.toList (zs.take i)) us 0 s
    ⟨s.heap, s.gens, s.drawn, s.toks, #[], 0, rfl, I, nk, na, by rw [List.take_zero]; exact EachIs.nil⟩ ?step ?done)
  case step =>
    rintro j x s' hx ⟨h', g', d', t', kA, e, rfl, I', nk', na', hk⟩
    simp only [Nat.zero_add] at hk ⊢
    have hj : j < us.length := (List.getElem?_eq_some_iff.mp hx).1
    obtain ⟨z, hzj⟩ : ∃ z, zs[j]? = some z := ⟨_, List.getElem?_eq_getElem (by omega)⟩
    obtain ⟨v, hv, rv⟩ : ∃ v, vs[j]? = some v ∧ RelV v x := by
      obtain ⟨u, hu, ru⟩ := r.get (i := j) (x := vs[j]'(by omega)) (List.getElem?_eq_getElem (by omega))
      rw [hx] at hu; cases hu
      exact ⟨_, List.getElem?_eq_getElem (by omega), ru⟩
    have hkt : kt v = some z := by
      have := congrArg (fun l => l[j]?) hz
      simp only [List.getElem?_map, hv, hzj, Option.map_some] at this
      exact Option.some.inj this
    have hzk : kA.size ≤ us.length := by
      have h1 := hk.length
      rw [Array.length_toList, List.length_take] at h1
      omega
    have IP := I'.pinKeys (ps := [(kS, seqObj "list" kA e), (a, seqObj "list" #[] e1)]) (fun p hp => by
      rcases List.mem_cons.mp hp with rfl | hp
      · exact ⟨nk', hkS.1, hkS.2.1, hkS.2.2.1, cellS _ _⟩
      · rw [List.mem_singleton.mp hp]; exact ⟨na', ha.1, ha.2.1, ha.2.2.1, cellS _ _⟩)
    obtain ⟨fd, ps, Fn, hb⟩ := F
    have hsp : spKey kt ([v] ++ []) H (fun v' H' => v' = .str z ∧ H' = H) (fun _ _ _ => False) := ⟨v, z, rfl, hkt, rfl, rfl⟩
    have e0 := (IP.env0.in1).in1
    have hl : ([x] : List Value).length = ps.length := by
      have := Fn.len _ _ _ _ hsp
      simpa using this
    refine wpAny_bind (wpAny_attempt (wpAny_call (codeAny_mono (Fn.run X.A.in1.in1 X.stack _ H ⟨[x], []⟩ ([x] ++ []) ([v] ++ []) _ _ hr e0 (hb _ [x] IP.kIn (by simpa using hl)) (.cons rv .nil) hsp) fun rr s2 hq => ?_)))
    cases rr with
    | error er => exact False.elim hq
    | ok fl =>
      cases fl with
      | next => exact False.elim hq
      | brk => exact False.elim hq
      | cont => exact False.elim hq
      | ret u =>
        obtain ⟨v2, H2, I2, rv2, hv2, hH2⟩ := IP.after hq
        have hH2 := hH2.symm
        subst hv2 hH2
        obtain ⟨tk, rfl⟩ := rv2
        have pk := I2.pin (kS, seqObj "list" kA e) (by simp)
        have pa := I2.pin (a, seqObj "list" #[] e1) (by simp)
        have I3 := I2.unpinKeys
        have nk2 := pk.1
        have na2 := pa.1
        have os2 : s2.os = s.os := I2.os.trans I'.os.symm
        obtain ⟨hh, gg, dd, tt, oo⟩ := s2
        have os2 : oo = s.os := os2
        subst os2
        have s1 := Heap.SameBut.update hh kS (Obj.mapSeq (·.push (Value.str z tk)))
        obtain ⟨c2, hc2⟩ : ∃ c2, (hh.update kS (Obj.mapSeq (·.push (Value.str z tk)))).get? kS = some (seqObj "list" (kA.push (Value.str z tk)) c2) := ⟨_, get?_update_seq nk2 (·.push (Value.str z tk))⟩
        have ek : zs.take (j + 1) = zs.take j ++ [z] := by rw [List.take_add_one, hzj]; simp
        have ea : (kA.push (Value.str z tk)).toList = kA.toList ++ [Value.str z tk] := by simp
        try dsimp only
        refine wpAny_bind (listUpdate_at nk2 rfl ?_ (Nat.le_trans hzk hZ) (Nat.le_trans (Nat.le_of_eq (Array.size_push ..)) (Nat.succ_le_succ (Nat.le_trans hzk hZ))))
        have I4 : Inv X pins σ H { s with heap := hh.update kS (Obj.mapSeq (·.push (Value.str z tk))), gens := gg, drawn := dd, toks := tt } :=
          I3.turned (t' := tt) (it := kS) (fun b o hb e => (s1.2 b hb).trans e) hkS.1 hkS.2.1 hkS.2.2.2.1 hkS.2.2.2.2.1 hkS.2.2.2.2.2
        refine wpAny_pure ⟨rfl, _, gg, dd, tt, kA.push (Value.str z tk), c2, rfl, I4, hc2, (s1.2 a hka.symm).trans na2, ?_⟩
        rw [ea, ek]
        exact each_snoc ⟨tk, rfl⟩ hk
  case done =>
    rintro s' ⟨h', g', d', t', kA, e, rfl, I', nk', na', hk⟩
    have hk' : EachIs (fun v (z : Str) => ∃ t, v = Value.str z t) kA.toList zs := by
      have e3 : zs.take (0 + us.length) = zs := List.take_of_length_le (by omega)
      rwa [e3] at hk
    have hsz : kA.size = us.length := by
      have h1 := hk'.length
      rw [Array.length_toList] at h1
      omega
    try dsimp only
    refine wpAny_bind (listItems_at nk' rfl ?_)
    obtain ⟨G, g1, g2⟩ := restrict h' fun b => decide (b ≠ kS)
    have kp : KeepsBut a G h' := fun b o hb q => by
      by_cases hbk : b = kS
      · rw [g2 b (by simp [hbk])] at q; cases q
      · rw [← g1 b (by simp [hbk])]; exact q
    have hRd : EachIs (fun v d => ∃ as, Reads h' v d as) kA.toList (zs.map PyData.str) := each_map (R := fun v d => ∃ as, Reads h' v d as) PyData.str (hk'.mono fun v z ⟨t, ev⟩ => ⟨[], by rw [ev]; exact .str z t⟩)
    refine keyH_end (κ := dataKind h' (zs.map PyData.str)) (h₁ := G) (b := false) (vs := us) (s := { s with heap := h', gens := g', drawn := d', toks := t' }) kp (g2 kS (by simp)) nk' na' hka
      (SortsAt.data (s := { s with heap := h', gens := g', drawn := d', toks := t' }) hRd alike_str sortable_str fun d hd => ?_) hsz hZ fun h3 tk3 c k3 n3 => ?_
    · obtain ⟨z, _, rfl⟩ := List.mem_map.mp hd
      show X.A.in1.in1.units + 0 < cLine
      have := hr.un
      omega
    · have I5 : Inv X pins σ H { s with heap := h3, gens := g', drawn := d', toks := tk3 } := I'.turnedL (t' := tk3) (ch := [kS, a]) (fun b o hb q => k3 b o (fun z => hb (by simp [z])) (by
        rw [g1 b (by simp; exact fun z => hb (by simp [z]))]; exact q)) (fun b hb => by
        rcases List.mem_cons.mp hb with rfl | hb
        · exact hkS
        · rw [List.mem_singleton.mp hb]; exact ha)
      refine h h3 g' d' tk3 _ c I5 n3 ⟨vs.zip zs, ?_, ?_, ?_⟩
      · exact List.map_fst_zip (by omega)
      · exact List.map_snd_zip (by omega)
      · have hB : (vs.zip zs).map (fun b => PyData.str b.2) = zs.map PyData.str := by
          rw [show (fun b : V × Str => PyData.str b.2) = PyData.str ∘ Prod.snd from rfl, ← List.map_map, List.map_snd_zip (by omega)]
        have hR : EachIs (fun u (b : V × Str) => RelV b.1 u) us (vs.zip zs) := by
          have : ∀ {vs : List V} {us : List Value} {zs : List Str}, Vals vs us → vs.length = zs.length → EachIs (fun u (b : V × Str) => RelV b.1 u) us (vs.zip zs) := by
            intro vs us zs r
            induction r generalizing zs with
            | nil => intro _; exact .nil
            | cons h _ ih =>
              intro hl
              cases zs with
              | nil => simp at hl
              | cons z zs => exact .cons h (ih (by simpa using hl))
          exact this r hlz
        have ko : KeyedOut false ((vs.zip zs).map fun b => PyData.str b.2) us (sortVals (dataKind h' (zs.map PyData.str)) false kA.toList us) := ⟨h', kA.toList, by rw [hB]; exact alike_str, by rw [hB], by rw [hB]; exact hRd⟩
        exact keyedOut_each (fun b : V × Str => PyData.str b.2) ko hR
theorem vals_each : ∀ {us : List Value} {B : List (V × Str)}, EachIs (fun u (b : V × Str) => RelV b.1 u) us B → Vals (B.map (·.1)) us := fun {us B} h => by
  induction h with
  | nil => exact .nil
  | cons h _ ih => exact .cons h ih
/-- the dict's keys, sorted by what the def tells of them -/
def rSortKD (P : Program) (w : World) (K : PySem.W.Frag) (mg : Str → Option Value) (base : Heap) (k : Nat) : List V → List V → Hp → VK → Prop := fun vs zs H Q => ∃ (a f : Addr) (kvs : List (Key × V)) (kt : V → Option Str) (zt : List Str), vs = [.ref a] ∧ zs = [.ref f] ∧ Rd H a (.dK kvs) ∧ KeyOk P w K mg base k f kt ∧
  (kvs.map fun p => kt (kV p.1)) = zt.map some ∧ kvs.length ≤ 1000 ∧ ∀ (p : Addr) (B : List (V × Str)), B.map (·.1) = kvs.map (fun p => kV p.1) → B.map (·.2) = zt → H p = none → Q (.ref p) (upd H p (.lst ((B.mergeSort (dataLe false fun b => .str b.2)).map (·.1))))
theorem cr_sortKD {k : Nat} (hcalm : X.calm = true) (hr : Room (k + 1) X.A) : CallRK X (.builtin "sorted") [Str.ofString "key"] (rSortKD X.prog X.w X.K X.mg X.base k) := by
  intro pins s σ H xs zs us ws Q I r rz ⟨a, f, kvs, kt, zt, e1, e2, hd, F, hzt, hl, q⟩
  subst e1 e2
  obtain rfl := Vals.ref1 r
  obtain ⟨w1, rfl, e1⟩ := vals1 rz
  obtain rfl : w1 = Value.ref f := e1
  obtain ⟨z, lo, vs, rel, dd⟩ := dk_rd I.hok hd
  obtain ⟨ep, hat⟩ := dd.dictAt
  have hkeys : vs.map (·.1) = kvs.map (·.1) := rel.keys.symm
  have hlv : vs.length = kvs.length := rel.length.symm
  have h16 : vs.length ≤ sizeLine := by rw [hlv, sizeLine_eq]; omega
  refine call_function_entry_kw kind_sorted plain_sorted entry_sorted (ksk_s1 _ _) ?_
  unfold Builtin.«sorted»
  refine wpAny_bind (m := checkCount "sorted" 1 1 _) (wpAny_pure ?_)
  refine wpAny_bind (PySem.W.kdu_collect (A := X.A.in1) (PySem.W.kdl_dict (knd := mixKind X.prog X.w) (kvs := vs) (ep := ep) lo) (I.ok.hd hcalm) hat h16 fun h' tk acc hk hacc => ?_)
  have hal : acc.toList.length = kvs.length := by rw [Array.length_toList, hacc.1, hlv]
  have I1 : Inv X pins σ H { s with heap := h', toks := tk } := I.kept hk
  have hV : Vals (kvs.map fun p => kV p.1) acc.toList := by
    have : ∀ {ks : List Key} {us : List Value}, us.length = ks.length → (∀ (j : Nat) (v : Value), us[j]? = some v → ∃ k, ks[j]? = some k ∧ RelV (kV k) v) → Vals (ks.map kV) us := by
      intro ks
      induction ks with
      | nil => intro us hl _; rw [List.length_eq_zero_iff.mp hl]; exact .nil
      | cons k ks ih =>
        intro us hl hj
        cases us with
        | nil => simp at hl
        | cons u us =>
          obtain ⟨k', hk', rk⟩ := hj 0 u rfl
          cases (show some k = some k' from hk')
          exact .cons rk (ih (by simpa using hl) fun j v hv => hj (j + 1) v hv)
    rw [show (fun p : Key × V => kV p.1) = kV ∘ Prod.fst from rfl, ← List.map_map]
    refine this (by rw [hal, List.length_map]) fun j v e => ?_
    obtain ⟨k, x, e1, e2⟩ := hacc.2 j v (by rw [← Array.getElem?_toList]; exact e)
    refine ⟨k, by rw [← hkeys, List.getElem?_map, e1]; rfl, ?_⟩
    rcases keyIs_shape e2 with ⟨i, t, ek, ev⟩ | ⟨y, t, ek, ev⟩
    · subst ek; exact ⟨t, ev⟩
    · subst ek; exact ⟨t, ev⟩
  have hna : acc.toList.length ≤ sizeLine := by rw [hal, sizeLine_eq]; omega
  refine wpAny_bind (wpAny_newList ?_ hna)
  have hoL : (h'.push (seqObj "list" acc.toList.toArray 0)).get? h'.objs.size = some (seqObj "list" acc.toList.toArray 0) := Heap.get?_push_size _ rfl
  show wpAny _ _ _ _ _ { s with heap := h'.push (seqObj "list" acc.toList.toArray 0), toks := tk }
  refine wpAny_bind (wpAny_holding (wpAny_call_entry_kw slot_list_sort ⟨_, hoL, rfl⟩ entry_list_sort ?body (ksk_l1 _ _)))
  case body =>
    show wpAny _ X.A.in1.in1 (Builtin.«list.sort» ⟨[.ref h'.objs.size], [(Str.ofString "key", .ref f)]⟩) _ _ _
    rw [ksk_t1]
    unfold ksk_tree
    have ha : h'.objs.size < (h'.push (seqObj "list" acc.toList.toArray 0)).objs.size := Heap.lt_size hoL
    obtain ⟨e1, ho1⟩ : ∃ e1, ((h'.push (seqObj "list" acc.toList.toArray 0)).update h'.objs.size (Obj.mapSeq fun _ => (#[] : Array Value))).get? h'.objs.size = some (seqObj "list" #[] e1) := ⟨_, get?_update_seq hoL fun _ => #[]⟩
    have hsz : (((h'.push (seqObj "list" acc.toList.toArray 0)).update h'.objs.size (Obj.mapSeq fun _ => (#[] : Array Value))).push (seqObj "tuple" acc.toList.toArray 0)).objs.size = h'.objs.size + 2 := by rw [size_push', Heap.size_update, size_push']
    have sb := Heap.SameBut.update (h'.push (seqObj "list" acc.toList.toArray 0)) h'.objs.size (Obj.mapSeq fun _ => (#[] : Array Value))
    refine wpAny_bind (listItems_at hoL rfl ?_)
    refine wpAny_bind (listUpdate_at hoL rfl ?_ (by rw [List.size_toArray]; exact hna) (Nat.zero_le _))
    refine wpAny_bind (seqEpoch_at ho1 rfl ?_)
    refine wpAny_bind (wpAny_newTuple ?_ (by show acc.toList.length ≤ _; exact hna))
    refine wpAny_bind (wpAny_newList ?_ (Nat.zero_le _))
    refine wpAny_holding ?_
    have kp : ∀ b u, h'.get? b = some u → ((((h'.push (seqObj "list" acc.toList.toArray 0)).update h'.objs.size (Obj.mapSeq fun _ => (#[] : Array Value))).push (seqObj "tuple" acc.toList.toArray 0)).push (seqObj "list" #[] 0)).get? b = some u := fun b u e =>
      Heap.get?_push_of_some _ (Heap.get?_push_of_some _ ((sb.2 b (Nat.ne_of_lt (Heap.lt_size e))).trans (Heap.get?_push_of_some _ e)))
    have I2 : Inv X pins σ H { s with heap := (((h'.push (seqObj "list" acc.toList.toArray 0)).update h'.objs.size (Obj.mapSeq fun _ => (#[] : Array Value))).push (seqObj "tuple" acc.toList.toArray 0)).push (seqObj "list" #[] 0), toks := tk } := I1.kept kp
    have fa : FpOk X pins H h'.objs.size := I1.fpOk (Nat.le_refl _) (I1.hok.fresh (Nat.le_refl _))
    have fk : FpOk X pins H (h'.objs.size + 2) := I1.fpOk (show h'.objs.size ≤ h'.objs.size + 2 by omega) (I1.hok.fresh (show h'.objs.size ≤ h'.objs.size + 2 by omega))
    have hr2 : Room k X.A.in1.in1 := ⟨hr.hd, by have := hr.dp; show X.A.depth + 3 * k + 5 < _; omega, by have := hr.un; show X.A.units + 1 + 1 + 16 * k + 200 < _; omega⟩
    show wpAny _ X.A.in1.in1 (ksk_rest h'.objs.size (.ref f) false acc.toList.toArray.toList.toArray e1 (.ref (((h'.push (seqObj "list" acc.toList.toArray 0)).update h'.objs.size (Obj.mapSeq fun _ => (#[] : Array Value))).push (seqObj "tuple" acc.toList.toArray 0)).objs.size)) _ _ _
    rw [hsz]
    refine key_rest (k := k) (kt := kt) (zs := zt) (us := acc.toList) (vs := kvs.map fun p => kV p.1) F rfl hr2 I2 hV ?_ hna fk fa (show h'.objs.size + 2 ≠ h'.objs.size by omega) ?_ ?_ fun h3 g3 d3 t3 out c I3 n3 ⟨B, b1, b2, b3⟩ => ?_
    · rw [List.map_map]; exact hzt
    · have := Heap.get?_push_size (((h'.push (seqObj "list" acc.toList.toArray 0)).update h'.objs.size (Obj.mapSeq fun _ => (#[] : Array Value))).push (seqObj "tuple" acc.toList.toArray 0)) (o := seqObj "list" #[] 0) rfl
      rwa [hsz] at this
    · exact Heap.get?_push_of_some _ (Heap.get?_push_of_some _ ho1)
    · refine ⟨_, rfl, wpAny_pure ⟨_, rfl, .ref h'.objs.size, upd H h'.objs.size (.lst ((B.mergeSort (dataLe false fun b => .str b.2)).map (·.1))), ?_, rfl, q _ B b1 b2 (I1.hok.fresh (Nat.le_refl _))⟩⟩
      have hlen : ((B.mergeSort (dataLe false fun b => .str b.2)).map (·.1)).length ≤ sizeLine := by
        have : B.length = kvs.length := by have := congrArg List.length b1; simpa using this
        rw [List.length_map, List.length_mergeSort, this, sizeLine_eq]; omega
      exact I3.track fa ⟨hlen, out, c, vals_each b3, n3⟩
end
end L2
/-! sorted(xs): xs a list of pairs of texts. -/
namespace L2
open PySem PySem.Spec PyProof.Rows PySem.W
abbrev PrT := Addr × Str × Str
def encPT (b : PrT) : PyData := .tuple [.str b.2.1, .str b.2.2]
theorem alike_pt {bs : List PrT} : AllAlike (bs.map encPT) := AllAlike.of fun b b' => rfl
theorem sortable_pt {bs : List PrT} : Sortable (bs.map encPT) := Sortable.tuples fun b => ⟨_, _, rfl⟩
/-- the order of the pairs tells the order of what stands first in them -/
theorem le_pt {p q : PrT} (h : dataLe false encPT p q = true) : p.2.1.cps.toList ≤ q.2.1.cps.toList := by
  rw [dataLe_eq] at h
  have h : (!dataLt (encPT q) (encPT p)) = true := h
  unfold encPT at h
  rw [dataLt_pair rfl rfl] at h
  by_cases e : PyData.eqv (.str q.2.1) (.str p.2.1) = true
  · have : q.2.1 = p.2.1 := by simpa [PyData.eqv] using e
    rw [this]; exact List.le_refl _
  · rw [if_neg e] at h
    have h2 := dataLe_str (β := PrT) (fun b => b.2.1)
    have h3 : dataLe false (fun b : PrT => PyData.str b.2.1) p q = true := by
      rw [dataLe_eq]; exact h
    rw [h2] at h3
    exact of_decide_eq_true h3
def rSortPT (K : PySem.W.Frag) : List V → Hp → VK → Prop := fun vs H Q => ∃ (a : Addr) (B : List PrT), vs = [.ref a] ∧ SqL K H a (B.map fun b => V.ref b.1) ∧ (∀ b ∈ B, H b.1 = some (.tup [.str b.2.1, .str b.2.2])) ∧
  ∀ p, H p = none → Q (.ref p) (upd H p (.lst ((B.mergeSort (dataLe false encPT)).map fun b => V.ref b.1)))
section
variable {X : Cx}
theorem cr_sortPT (hu : X.A.units + 10 < cLine) : CallR X (.builtin "sorted") (rSortPT X.K) := by
  intro pins s σ H xs us Q I r ⟨a, B, ex, hs, hB, q⟩
  subst ex
  obtain rfl := Vals.ref1 r
  obtain ⟨its, rv, hl, hz⟩ := I.list hs
  have hits : its = B.map fun b => Value.ref b.1 := by
    have : ∀ {B : List PrT} {us : List Value}, Vals (B.map fun b => V.ref b.1) us → us = B.map fun b => Value.ref b.1 := by
      intro B
      induction B with
      | nil => intro us r; cases r; rfl
      | cons b B ih =>
        intro us r
        cases r with
        | cons h t =>
          have h : _ = Value.ref b.1 := h
          rw [h, ih t]; rfl
    exact this rv
  subst hits
  have hLB : B.length ≤ sizeLine := by simpa using hz
  have e : EachIs (fun v (b : PrT) => v = Value.ref b.1) (B.map fun b => Value.ref b.1) B := by
    clear hs hB q rv hl hz hLB
    induction B with
    | nil => exact .nil
    | cons b B ih => exact .cons rfl ih
  have er : EachIs (fun v (b : PrT) => ∃ as, Reads s.heap v (encPT b) as) (B.map fun b => Value.ref b.1) B := by
    have : ∀ {B : List PrT}, (∀ b ∈ B, H b.1 = some (.tup [.str b.2.1, .str b.2.2])) → EachIs (fun v (b : PrT) => ∃ as, Reads s.heap v (encPT b) as) (B.map fun b => Value.ref b.1) B := by
      intro B
      induction B with
      | nil => intro _; exact .nil
      | cons b B ih =>
        intro hB
        refine .cons ?_ (ih fun b hb => hB b (List.mem_cons_of_mem _ hb))
        obtain ⟨_, items, rr, o, h1, h2, n, h3⟩ := (show ObjOk X.prog X.w H s.heap b.1 (.tup [.str b.2.1, .str b.2.2]) from I.hok b.1 _ (hB b List.mem_cons_self))
        cases rr with
        | cons r1 r2 => cases r2 with
        | cons r2 r3 =>
        cases r3
        obtain ⟨t1, rfl⟩ := r1
        obtain ⟨t2, rfl⟩ := r2
        refine ⟨[], .tuple (as := []) h1 h2 h3 ?_⟩
        exact .cons (as := []) (bs := []) (.str _ _) (.cons (as := []) (bs := []) (.str _ _) .nil)
    exact this hB
  refine sorted_data (enc := encPT) (R := fun v (b : PrT) => v = Value.ref b.1) hl.isList e er alike_pt sortable_pt hLB (fun b _ => by show X.A.units + 2 + 1 < cLine; omega) fun out ho he => ?_
  obtain ⟨ep, he'⟩ := PyProof.Rows.sortedAll_at s.heap (B.map fun b => Value.ref b.1) (List.toArray out)
  have hlen : ((B.mergeSort (dataLe false encPT)).map fun b => V.ref b.1).length ≤ sizeLine := by rw [List.length_map, List.length_mergeSort]; exact hLB
  refine ⟨.ref _, upd H (s.heap.objs.size + 1) (.lst ((B.mergeSort (dataLe false encPT)).map fun b => V.ref b.1)), I.laid (t' := s.toks) (fun _ _ => PyProof.Rows.sortedAll_old) (Nat.le_succ _) ⟨hlen, out, ep, ?_, he'⟩, rfl, q _ (I.hok.fresh (Nat.le_succ _))⟩
  have : ∀ {us : List Value} {B : List PrT}, EachIs (fun v (b : PrT) => v = Value.ref b.1) us B → Vals (B.map fun b => V.ref b.1) us := fun {us B} h => by
    induction h with
    | nil => exact .nil
    | cons h _ ih => exact .cons h ih
  exact this he
end
end L2
/-! An own error whose __init__ tells its text to its base and keeps one field. -/
namespace PySem
namespace FilX
open PySem.W PySem.Calls PyProof.Rows PySem.HandSPX
/-! ### the text of __init__: the parameter's name is a letter (at, name) -/
def msg : Str := "the file is wrong, kind "
def eA : Arguments := { posonlyargs := [], args := [{ arg := "self", annotation := none, pos := ⟨6, 17, 6, 21⟩ }, { arg := "at", annotation := none, pos := ⟨6, 23, 6, 25⟩ }], vararg := none, kwonlyargs := [], kw_defaults := [], kwarg := none, defaults := [] }
def eB : List Stmt :=
  [.Expr (.Call (.Attribute (.Call (.Name "super" ⟨7, 8, 7, 13⟩) [] [] ⟨7, 8, 7, 15⟩) "__init__" ⟨7, 8, 7, 24⟩) [.JoinedStr [.Constant (.str msg) 0 ⟨7, 27, 7, 51⟩, .FormattedValue (.Name "at" ⟨7, 52, 7, 54⟩) (-1) none ⟨7, 51, 7, 55⟩] ⟨7, 25, 7, 56⟩] [] ⟨7, 8, 7, 57⟩) ⟨7, 8, 7, 57⟩,
   .Assign [.Attribute (.Name "self" ⟨8, 8, 8, 12⟩) "at" ⟨8, 8, 8, 15⟩] (.Name "at" ⟨8, 18, 8, 20⟩) ⟨8, 8, 8, 20⟩]
def eS : Scope := { kind := .function, names := [(PySem.Str.ofString "self", .local), (PySem.Str.ofString "at", .local), (PySem.Str.ofString "__class__", .free), (PySem.Str.ofString "super", .globalImplicit)], isGenerator := false, isCoroutine := false, more := [] }
/-- what the written part says of the class at C, and of its __init__, at fI; x: the field -/
structure FilTxt (P : Program) (K : Frag) (mg : Str → Option Value) (nm : Str) (C fI : Addr) : Prop where
  gC : mg nm = some (.ref C)
  cls : ∃ nm q N bs bm sn sub ab col dd k0 k1 k2 k3 k5, K.lookup C = some (excClassObj nm q C N bs bm true sn sub ab col dd k0 k1 k2 k3 k5 "ValueError.__new__") ∧ refsVE bm = true
  sa : findIn K (.ref C) "__setattr__" = some (some (.builtin "object.__setattr__"))
  ga : findIn K (.ref C) "__getattribute__" = some (some (.builtin "BaseException.__getattribute__"))
  gg : findIn K (.ref C) "__getattr__" = some none
  noN : findIn K (.ref C) "at" = some none
  iC : findIn K (.ref C) "__init__" = some (some (.ref fI))
  tC : typeIn K (.ref fI) = some (.type "function")
  kC : keepIn K (.ref C) = true
  exC : subIn K (.ref C) (.type "BaseException") = some true
  veC : subIn K (.ref C) (.type "ValueError") = some true
  tyC : typeIn K (.ref C) = some (.type "type")
  hdC : hasDictIn K C = true
  te : exmOne K (.ref C) (.ref C) = some true
  op : nsIn K cStatics "thirdparty.any" = some none
  up : ks_superIn K C C "__init__" = some (some (.builtin "ValueError.__init__"))
  mr : mroIn K C (.ref C) = some true
  su : mg "super" = none
  top : (P.main.scope.names.lookup ("super" : Str)).isSome = false
  fn : ∃ (oc : Value) (od : Option Addr) (doc pm : Value) (an : Option Addr) (cda cc : Addr) (ct : Value) (osl : Array (Option Value)) (qual : Str) (ccl cl : Value) (cdd cld : Option Addr) (ccs csl : Array (Option Value)) (vs : Array Value) (file : Str) (tf : Tok),
    K.lookup fI = some ⟨oc, od, .func (fnX "__init__" qual eA eB eS [("__class__", cc)] .none .none doc pm an (.ref cda) ct), osl⟩ ∧ codeIn K (.ref cda) qual = true ∧
    K.lookup cda = some ⟨ccl, cdd, .fields vs, ccs⟩ ∧ vs[2]? = some (.str file tf) ∧ ((P.main.file : Str) == file) = true ∧ K.lookup cc = some ⟨cl, cld, .cell (some (.ref C)), csl⟩
/-- what __init__ leaves of a fresh exception at x -/
structure InitEnd (h h' : Heap) (e C dx t1 : Addr) (v : Value) : Prop where
  keep : ∀ b o, b ≠ e → h.get? b = some o → h'.get? b = some o
  obj : h'.get? e = some { cls := .ref C, dict := some dx, data := .fields #[.ref t1, .none, .none, .none, .bool false, .none] }
  dbig : h.objs.size ≤ dx
  dne : dx ≠ e
  ns : h'.Ns1 dx (fun y => if y = "at" then some v else none)
structure OwnMade (h h' : Heap) (e C d : Addr) (v : Value) : Prop where
  keep : ∀ b o, h.get? b = some o → h'.get? b = some o
  new : h.objs.size ≤ e
  obj : ∃ oe vs, h'.get? e = some oe ∧ oe.cls = .ref C ∧ oe.dict = some d ∧ oe.data = .fields vs ∧ vs[1]? = some .none
  dbig : h.objs.size ≤ d
  dne : d ≠ e
  ns : h'.Ns1 d (fun y => if y = "at" then some v else none)
theorem one_size (v : Value) : [v].length ≤ sizeLine := by
  rw [sizeLine_eq]
  exact (by decide : 1 ≤ 16777216)
section
variable {prog : Program} {w : World} {A : Around} {E : Value → Shared → Prop} {R : Result → Shared → Prop} {s : Shared} {K : Frag} {mg mb : Str → Option Value} {nm : Str} {C fI : Addr}
/-- the base's __init__, bound, called with one value: the args are laid anew -/
theorem call_mw {h : Heap} {g : Array GenState} {d : Drawn} {t : Nat} {os : OsState} {u e t0 : Addr} {rest : List Value} {Q : Value → Shared → Prop} {nm q : Str} {N : Addr} {bs bm : List Value} {hdct : Bool} {sn : List Str} {sub : List Value} {ab : Bool} {col : Option Bool} {dd : Option Addr} {k0 k1 k2 k3 k5 : Option Value}
    (hC : h.get? C = some (excClassObj nm q C N bs bm hdct sn sub ab col dd k0 k1 k2 k3 k5 "ValueError.__new__")) (he : h.get? e = some (excO C t0)) (hu : h.get? u = some (kxs_mw "ValueError.__init__" e)) (hrest : rest.length ≤ sizeLine)
    (hq : ∀ h' t1, (∀ b o, b ≠ e → h.get? b = some o → h'.get? b = some o) → h'.get? e = some (excO C t1) → Q .none ⟨h', g, d, t, os⟩) :
    wpAny (model prog w) A (call (.ref u) rest) Q E ⟨h, g, d, t, os⟩ := by
  refine wpAny_call (codeAny_of_tree ?_)
  show wpAny _ A.in1 (callAny (.ref u) ⟨rest, []⟩) _ _ _
  simp only [callAny]
  refine wpAny_bind (wpAny_load hu ?_)
  simp only [kxs_mw, show (Value.type "method-wrapper" == Value.type "method" || Value.type "method-wrapper" == Value.type "builtin_function_or_method" || Value.type "method-wrapper" == Value.type "method-wrapper") = true by decide, if_true]
  refine KFB.if_so (by decide) ?_
  refine wpAny_bind (check_bound_init F.excBase_ValueError.toExcCallFacts hC he rfl ?_)
  refine wpAny_bind (wpAny_pure (wpAny_pure ?_))
  refine ⟨plainId_quiet F.excBase_ValueError.init.plain _, codeAny_builtin F.excBase_ValueError.initEntry ?_⟩
  exact exc_init_tree (cls := .ref C) (t0 := t0) (dv := none) (c2 := .none) (c3 := .none) (b4 := .bool false) he hrest fun h' k e' _ => hq h' _ k e'
theorem ldN {M : Model} {env : Env} {m : Str → Option Value} {x : Str} {pos : Pos} {v : Value} {Q : Value → Shared → Prop} (hn : s.heap.Ns env.locals m) (hv : m x = some v) (h : Q v s)
    (hk : env.scope.kind = .function := by rfl) (hl : env.kindOf x = some .local := by rfl) (hd : (x == ("__debug__" : Str)) = false := by decide) :
    wpAny M A (eval (.Name x pos) env) Q E s := wpAny_Name (wpAny_loadName_local hk hl hn hv h) hd
theorem src_init (T : FilTxt prog K mg nm C fI) {e t0 : Addr} {v : Int} {tv : Tok} (hv : v.natAbs.log2 < 1920) (X : K.In s.heap) (hlim : s.heap.NoLimit) (hg : s.heap.Ns mainGlobals mg) (hb : s.heap.Ns builtinsNs mb) (hmb : mb "super" = some (.type "super"))
    (hx : s.heap.get? e = some (excO C t0)) (hnx : K.lookup e = none) (hroom : A.depth < recursionLimit)
    (hq : ∀ h' tk dx t1, InitEnd s.heap h' e C dx t1 (.int v tv) → R (.ok (.ret .none)) { s with heap := h', toks := tk }) :
    codeAny (model prog w) A (.call (.ref fI) ⟨[.ref e, .int v tv], []⟩) R s := by
  obtain ⟨oc, od, doc, pm, an, cda, cc, ct, osl, qual, ccl, cl, cdd, cld, ccs, csl, vs, file, tf, ho, hcd, hcode, hvs, hfile, hcell⟩ := T.fn
  obtain ⟨nm', q, N, bs, bm, sn, sub, ab, col, dd, k0, k1, k2, k3, k5, hC, hbm⟩ := T.cls
  have hcl : clsIn K C = some { name := nm', bases := bs, mro := .ref C :: bm, ns := N, qualname := q, hasDict := true, slotNames := sn, subclasses := sub, abstract := ab, collection := col, hasDel := false } := by unfold clsIn; rw [hC] <;> rfl
  refine ks_codeAny_call_defAt (binds := [("self", .ref e), ("at", .int v tv)]) hroom (X _ _ ho) rfl hlim (codeRec_of X hcd) rfl (BindsTo.of_eq ?b1) (show ∀ y ∈ eS.names, y.2 ≠ .cell by decide +kernel) (locs rfl) (fun h₁ hns k => ?_) rfl rfl rfl
  case b1 => first | rfl | with_unfolding_all rfl
  have I1 : InstAt s.heap e (excO C t0) C none := ⟨hx, rfl, rfl, trivial⟩
  have hne : e ≠ C := ks_ne X I1 hcl
  obtain ⟨hp, g, d, t, os⟩ := s
  have X₁ : K.In h₁ := X.keeps k
  have hx₁ := k _ _ hx
  -- super().__init__(f'..')
  refine ks_wpAt_execs_cons (ks_wpAt_Expr_any (ks_wpAt_MethodCall ?_ (by with_unfolding_all rfl)))
  have hoH := X₁ _ _ ho
  have hcodeH := X₁ _ _ hcode
  refine' ks_wpAt_super_base (attr := "__init__") (body := eB) (f := fI) (cc := cda) ?a1 ?a2 ?a3 ?a4 ?a5 ?a6 ?a7 ?a8 ?a9 ?a10 hvs hfile T.top ?_
  case a5 => exact hoH
  case a9 => exact hcodeH
  case a1 => rfl
  case a2 => rfl
  case a3 => decide
  case a4 => rfl
  case a6 => rfl
  case a7 => rfl
  case a8 => rfl
  case a10 => rfl
  have hG : h₁.Ns mainGlobals mg := hg.keeps k
  have hB : h₁.Ns builtinsNs mb := hb.keeps k
  refine ks_loadName_global rfl rfl (loadGlobal_builtin hG T.su hB hmb ⟨rfl, ?_⟩)
  refine wpAny_loadName_free rfl rfl rfl ⟨_, X₁ _ _ hcell, rfl⟩ ?_
  refine wpAny_loadName_local rfl rfl hns rfl ?_
  have hCC := X₁ _ _ hC
  refine ks_wpAny_isType_cls hCC rfl ⟨rfl, ?_⟩
  refine ks_wpAny_call_super hCC rfl hx₁ rfl (fun c z => by cases z) (looks_mroIn X₁ T.mr) (fun h₂ hso k₂ => ?_)
  have X₂ : K.In h₂ := X₁.keeps k₂
  have hx₂ := k₂ _ _ hx₁
  have I2 : InstAt h₂ e (excO C t0) C none := ⟨hx₂, rfl, rfl, trivial⟩
  have hI : Looks (model prog w) h₂ (isInstance (.ref e) (.type "ValueError")) true := I2.type.andThen (looks_subIn X₂ T.veC)
  have hup : alongIn K "__init__" (((.ref C :: bm : List Value).dropWhile (· != .ref C)).drop 1) = some (some (.builtin "ValueError.__init__")) := by
    have := T.up
    unfold ks_superIn at this
    rw [hcl] at this
    exact this
  refine kxs_getMethod kxs_ValueError hso (looks_opaque X₂ T.op) (l₀ := .ref C :: bm) ?lk rfl X₂ hup hI hne (by decide) ?_
  case lk => exact fun A Q E s k q => wpAny_bind ((looks_clsIn X₂ hcl) A _ E s k (wpAny_pure q))
  refine kxs_callWith (i := "ValueError.__init__") (x := e) rfl (evalArgs_plain ?_)
  refine Calls.spliced_cons ?_
  -- the text
  have hn₂ : h₂.Ns hp.objs.size _ := hns.keeps k₂
  have hn₃ : (h₂.push (kxs_mw "ValueError.__init__" e)).Ns hp.objs.size _ := hn₂.keeps fun b o z => Heap.get?_push_of_some _ z
  refine wpAny_JoinedStr (pos := ⟨7, 25, 7, 56⟩) ?_
  refine Calls.Constant_str (x := msg) (k := 0) (pos := ⟨7, 27, 7, 51⟩) ?_
  refine ⟨_, _, rfl, by decide +kernel, ?_⟩
  refine wpAny_FormattedValue_plain (value := .Name "at" ⟨7, 52, 7, 54⟩) (pos := ⟨7, 51, 7, 55⟩) (ldN (env := callEnv (fnX "__init__" qual eA eB eS [("__class__", cc)] .none .none doc pm an (.ref cda) ct) hp.objs.size fI) hn₃ rfl (wpAny_formatField_int hv ?_))
  have hsz : ((Str.empty ++ msg) ++ Str.ofString (toString v)).length ≤ sizeLine := by
    rw [strLen_append, PySem.ofString_length, show (Str.empty ++ msg).length = 24 by decide +kernel, sizeLine_eq]
    have := int_text_length_le (k := 1920) (by decide) hv
    omega
  refine ⟨_, _, rfl, hsz, ?_⟩
  refine ⟨hsz, ?_⟩
  refine Calls.spliced_nil ?_
  have hu₃ : (h₂.push (kxs_mw "ValueError.__init__" e)).get? h₂.objs.size = some (kxs_mw "ValueError.__init__" e) := Heap.get?_push_at rfl rfl
  refine ⟨hu₃, ?_⟩
  have k₃ : ∀ b o, h₂.get? b = some o → (h₂.push (kxs_mw "ValueError.__init__" e)).get? b = some o := fun b o z => Heap.get?_push_of_some _ z
  have X₃ : K.In (h₂.push (kxs_mw "ValueError.__init__" e)) := X₂.keeps k₃
  refine call_mw (X₃ _ _ hC) (k₃ _ _ hx₂) hu₃ (one_size _) fun h₄ t1 k₄ hx₄ => ?_
  have X₄ : K.In h₄ := fun a o z => by
    by_cases ha : a = e
    · subst ha
      have := X₃ _ _ z
      have y := k₃ _ _ hx₂
      rw [this] at y
      have nK : K.lookup a = none := hnx
      rw [nK] at z
      cases z
    · exact k₄ _ _ ha (X₃ _ _ z)
  have hn₄ : h₄.Ns hp.objs.size _ := hn₃.at fun o z => k₄ _ _ (Nat.ne_of_gt (Heap.lt_size hx)) z
  -- self.at = at
  refine wpAt_of_wpAny ?_
  refine wpAny_execs_cons (plainObj_wpAny_Assign_Attribute ?_)
  refine ldN (v := .int v tv) hn₄ rfl (ldN (v := .ref e) hn₄ rfl ?_)
  refine set_plain X₄ (ox := excO C t1) (od := none) ⟨hx₄, rfl, rfl, trivial⟩ T.sa ?_
  refine exc_osa X₄ hx₄ hcl (show refsVE (.ref C :: bm) = true from hbm) rfl T.noN (fun h₅ tk₅ dx k₅ dn dne hx₅ hn₅ => ?_)
  refine wpAny_execs_nil ?_
  have keepAll : ∀ b o, b ≠ e → hp.get? b = some o → h₅.get? b = some o := fun b o hb z => k₅ b o hb (k₄ b o hb (k₃ _ _ (k₂ _ _ (k _ _ z))))
  refine hq h₅ tk₅ dx t1 ⟨keepAll, hx₅, ?_, dne, hn₅⟩
  exact Nat.le_trans (Nat.le_of_lt hn₄.lt) dn
theorem src_made (T : FilTxt prog K mg nm C fI) {v : Int} {tv : Tok} (hv : v.natAbs.log2 < 1920) (X : K.In s.heap) (hlim : s.heap.NoLimit) (hg : s.heap.Ns mainGlobals mg) (hb : s.heap.Ns builtinsNs mb) (hmb : mb "super" = some (.type "super")) (hroom : A.depth + 1 < recursionLimit)
    (hq : ∀ h' tk e d, OwnMade s.heap h' e C d (.int v tv) → R (.ok (.ret (.ref e))) { s with heap := h', toks := tk }) :
    codeAny (model prog w) A (.call (.ref C) ⟨[.int v tv], []⟩) R s := by
  obtain ⟨nm, q, N, bs, bm, sn, sub, ab, col, dd, k0, k1, k2, k3, k5, hC, hbm⟩ := T.cls
  obtain ⟨hp, g, dr, tk, os⟩ := s
  have k : ∀ b o, hp.get? b = some o → ((hp.push (kdv_tup [.int v tv])).push (excO C hp.objs.size)).get? b = some o := fun b o e => Heap.get?_push_of_some _ (Heap.get?_push_of_some _ e)
  have hget : ((hp.push (kdv_tup [.int v tv])).push (excO C hp.objs.size)).get? (hp.objs.size + 1) = some (excO C hp.objs.size) := by heap_get
  have hnx : K.lookup (hp.objs.size + 1) = none := by
    cases e : K.lookup (hp.objs.size + 1) with
    | none => rfl
    | some o =>
      have z : hp.get? (hp.objs.size + 1) = some o := X _ _ e
      exact absurd (Nat.lt_of_succ_lt (Heap.lt_size z)) (Nat.lt_irrefl _)
  refine call_own F.excBase_ValueError (fun X => refsVE_contains X bm hbm) (X _ _ hC) (looks_findIn X T.iC) (fun self => bind_fn X self T.tC) (one_size _) ?_
  refine src_init (s := ⟨(hp.push (kdv_tup [.int v tv])).push (excO C hp.objs.size), g, dr, tk, os⟩) T hv (X.keeps k) (hlim.keeps k) (hg.keeps k) (hb.keeps k) hmb hget hnx ?_ fun h' tk' dx t1 ⟨k', hx, dn, dne, hns⟩ => ?_
  · show A.depth + 1 < recursionLimit
    exact hroom
  · have old : ∀ b o, hp.get? b = some o → h'.get? b = some o := fun b o e => k' b o (Nat.ne_of_lt (Nat.lt_succ_of_lt (Heap.lt_size e))) (k b o e)
    have z : hp.objs.size + 1 + 1 ≤ dx := by
      first
        | (simpa only [Heap.size_push] using dn)
        | exact dn
        | (have q := dn; rw [Heap.size_push, Heap.size_push] at q; exact q)
    exact ⟨rfl, hq h' tk' (hp.objs.size + 1) dx ⟨old, Nat.le_succ _, ⟨_, _, hx, rfl, rfl, rfl, rfl⟩, Nat.le_trans (Nat.le_trans (Nat.le_succ _) (Nat.le_succ _)) z, dne, hns⟩⟩
end
end FilX
end PySem
namespace L2
open PySem PySem.Spec PyProof.Rows
theorem relO_fil {v : V} {v' : Value} (r : RelV v v') (f : Str) : RelO (List.lookup f [(("at" : Str), v)]) (if f = "at" then some v' else none) := by
  by_cases hw : f = "at"
  · subst hw
    rw [if_pos rfl]
    have q : List.lookup ("at" : Str) [(("at" : Str), v)] = some v := by simp [List.lookup]
    rw [q]
    exact r
  · rw [if_neg hw]
    have qw : (f == ("at" : Str)) = false := by simpa using hw
    have q2 : List.lookup f [(("at" : Str), v)] = none := by simp [List.lookup, qw]
    rw [q2]
    trivial
section
variable {X : Cx} {C fI : Addr} {nm : Str}
/-- C(e), e an int -/
def tMkFil (C : Addr) (ta : TA) : St → Hp → XK → Prop := fun σ H Q => ta σ H fun vs H1 => ∃ v : Int, vs = [.int v] ∧ v.natAbs.log2 < 1920 ∧ ∀ d, H1 d = none → Q (.ref C) (some d) (upd H1 d (.xd [(("at" : Str), .int v)]))
theorem pmk_fil {a : Expr} {ta : TA} {p pos : Pos} {k : Nat} (T : PySem.FilX.FilTxt X.prog X.K X.mg nm C fI) (hr : Room k X.A) (ha : PA X [a] ta) (hg : Gl X nm := by rfl) (hdb : (nm == ("__debug__" : Str)) = false := by decide)
    (he : starEach (a :: []) X.env = (false, eval a X.env) :: starEach [] X.env := by rfl) (hpl : (backTo pos (starEach [] X.env)).any (·.1) = false := by rfl) :
    PMk X (.Call (.Name nm p) [a] [] pos) (tMkFil C ta) := by
  intro pins s σ H Q I h
  refine wpAny_Call_Name_kw (ld_glob I hg T.gC ?_ hdb)
  refine PySem.W.callWith_K (h₀ := X.base) I.ok.mod.kin T.kC (thn (ha.run pos pins s σ H _ I h) fun us s1 hh => ?_) he hpl
  obtain ⟨vs, H1, I1, r1, v, ev, hv, q1⟩ := hh
  subst ev
  refine ⟨I1.kIn, ?_⟩
  cases r1 with
  | cons rv rn =>
    rename_i v' us'
    cases rn
    obtain ⟨tv, rfl⟩ := rv
    show wpAny _ _ (call (.ref C) [.int v tv]) _ _ _
    have hlim := I1.nolimit
    obtain ⟨mb, hb, hmb⟩ := I1.mod.blt
    have hb1 := hb.keeps I1.bk
    have hg1 := I1.mod.glob.keeps I1.bk
    have hsup : mb "super" = some (.type "super") := (hmb _ (by decide)).trans (by decide +kernel)
    obtain ⟨hp, g, dr, tk, os⟩ := s1
    refine wpAny_call (PySem.FilX.src_made T hv I1.kIn hlim hg1 hb1 hsup (by have := hr.dp; omega) fun h' tk' e d M => ?_)
    show MkP X pins σ Q (.ref e) ⟨h', g, dr, tk', os⟩
    obtain ⟨oe, fv, hoe, hc, hd, hdat, h1⟩ := M.obj
    have hns := M.ns
    obtain ⟨G', g1, g2⟩ := restrict h' fun b => decide (b ≠ e)
    have gk : ∀ b, b ≠ e → G'.get? b = h'.get? b := fun b hb => g1 b (decide_eq_true hb)
    have ge : G'.get? e = none := g2 e (by simp)
    have old : ∀ b o, hp.get? b = some o → G'.get? b = some o := fun b o q => (gk b (Nat.ne_of_lt (Nat.lt_of_lt_of_le (Heap.lt_size q) M.new))).trans (M.keep b o q)
    have ob : ObjOk X.prog X.w (upd H1 d (.xd [(("at" : Str), .int v)])) G' d (.xd [(("at" : Str), .int v)]) :=
      ⟨_, hns.at (fun o q => (gk d M.dne).trans q), fun f => relO_fil (v := .int v) (v' := .int v tv) ⟨tv, rfl⟩ f⟩
    have J : Inv X pins σ (upd H1 d (.xd [(("at" : Str), .int v)])) ⟨G', g, dr, tk', os⟩ := I1.laid (t' := tk') old M.dbig ob
    refine ⟨e, oe, fv, ⟨G', g, dr, tk', os⟩, _, .ref C, some d, rfl, J, fun b o q => ?_, ge, hoe, ⟨hc, hd⟩, hdat, h1, ?_, rfl, I1.bare, raises_own T.exC T.tyC, q1 d (I1.hok.fresh M.dbig)⟩
    · by_cases hb : b = e
      · have q' : G'.get? b = some o := q
        rw [hb, ge] at q'; cases q'
      · exact (gk b hb).symm.trans q
    · rw [upd_ne (Ne.symm M.dne)]
      exact I1.hok.fresh M.new
/-- raise C(e) -/
def tRaiseFil (C : Addr) (W : WX) (ta : TA) : TS := fun _ σ H => tMkFil C ta σ H fun cls d H' => W cls d σ H'
theorem ps_raiseFil {a : Expr} {ta : TA} {W : WX} {p pos pos2 : Pos} {k : Nat} (hc : X.calm = true) (T : PySem.FilX.FilTxt X.prog X.K X.mg nm C fI) (hr : Room k X.A) (tk : Takes X W) (ha : PA X [a] ta) (hg : Gl X nm := by rfl) (hdb : (nm == ("__debug__" : Str)) = false := by decide)
    (he : starEach (a :: []) X.env = (false, eval a X.env) :: starEach [] X.env := by rfl) (hpl : (backTo pos (starEach [] X.env)).any (·.1) = false := by rfl) :
    PS X (.Raise (some (.Call (.Name nm p) [a] [] pos)) none pos2) (tRaiseFil C W ta) := ps_raise hc tk (pmk_fil T hr ha hg hdb he hpl)
/-- err.at, err the exception that the suite holds (at a; its class cls, its dict d) -/
def tByFil (C : Addr) (a : Addr) (cls : Value) (d : Option Addr) (te : TE) : TE := fun σ H Q => te σ H fun x H1 => x = .ref a ∧ cls = .ref C ∧ ∃ (dd : Addr) (v : V), d = some dd ∧ H1 dd = some (.xd [(("at" : Str), v)]) ∧ Q v H1
theorem pe_byFil {a : Addr} {oe : Obj} {cls : Value} {d : Option Addr} {pn : List (Addr × Obj)} {e : Expr} {te : TE} {pos : Pos} (T : PySem.FilX.FilTxt X.prog X.K X.mg nm C fI) (hz : Zc cls d oe) (hf : ∃ vs, oe.data = .fields vs) (he : PE (X.suite a ((a, oe) :: pn)) e te)
    (hb : attributeBase e "at" X.env (eval e X.env) = eval e X.env := by rfl) :
    PE (X.suite a ((a, oe) :: pn)) (.Attribute e "at" pos) (tByFil C a cls d te) := by
  refine ⟨fun pins s σ H Q I h => ?_⟩
  refine attr_of hb (thn (he.run pins s σ H _ I h) fun u s1 hh => ?_)
  obtain ⟨x, H1, I1, rx, ex, ec, dd, v, ed, ea, q⟩ := hh
  subst ex
  obtain rfl : u = Value.ref a := rx
  subst ec
  subst ed
  obtain ⟨ha, _⟩ := I1.pin (a, oe) (List.mem_append_left _ List.mem_cons_self)
  obtain ⟨vs, hd⟩ := hf
  have hx : ObjOk X.prog X.w H1 s1.heap dd (.xd [(("at" : Str), v)]) := I1.hok dd _ ea
  obtain ⟨mA, hns, hr⟩ := hx
  obtain ⟨od, ho, hl⟩ := lookIn_ns hns
  have l : List.lookup ("at" : Str) [(("at" : Str), v)] = some v := by simp [List.lookup]
  obtain ⟨u, hu, ru⟩ := RelO.some_of (v := v) (o := mA "at") (by rw [← l]; exact hr "at")
  have J : PySem.W.InstAt s1.heap a oe C (some od) := ⟨ha, hz.1, by unfold PySem.W.notCls; rw [hd] <;> rfl, by rw [hz.2]; exact ho⟩
  exact HandSPX.exc_get I1.kIn J T.ga T.gg T.exC (PySem.W.findObj_own T.hdC T.noN rfl (by rw [hl, hu])) (handed_of ru) ⟨v, H1, I1.tok _, ru, q⟩
end
end L2
/-! Data in memory; texts of data in parts. -/
namespace Lv
open PySem PySem.Spec PyProof.Rows L2
open TL (numL tl_num numL_digits numL_ne numL_val numL_len numL_lt numL_step numL_free numL_inj)
def kyK : Ky → Key
  | .inl x => .inl x
  | .inr a => kT a
theorem kyK_inj {a b : Ky} (h : kyK a = kyK b) : a = b := by
  cases a with
  | inl x => cases b with
    | inl y => cases h; rfl
    | inr y => cases h
  | inr x => cases b with
    | inl y => cases h
    | inr y => rw [kT_inj h]
def kyV : Ky → V
  | .inl x => .int x
  | .inr a => T a
theorem kyV_K (k : Ky) : kV (kyK k) = kyV k := by cases k <;> rfl
def kvs (ks : List Ky) (us : List V) : List (Key × V) := (ks.map kyK).zip us
mutual
/-- a datum that stands at v; A: what lists and dicts of it stand at; a dict is none of its own parts -/
inductive DtAt (K : PySem.W.Frag) : (Addr → Prop) → Hp → V → Dt → Prop where
  | n {A : Addr → Prop} {H : Hp} : DtAt K A H .non .n
  | b {A : Addr → Prop} {H : Hp} {x : Bool} : DtAt K A H (.bl x) (.b x)
  | i {A : Addr → Prop} {H : Hp} {x : Int} : DtAt K A H (.int x) (.i x)
  | s {A : Addr → Prop} {H : Hp} {a : List Nat} : DtAt K A H (T a) (.s a)
  | l {A : Addr → Prop} {H : Hp} {p : Addr} {us : List V} {xs : List Dt} : A p → H p = some (.lst us) → DtsAt K A H us xs → DtAt K A H (.ref p) (.l xs)
  | t {A : Addr → Prop} {H : Hp} {p : Addr} {us : List V} {xs : List Dt} : SqT K H p us → DtsAt K A H us xs → DtAt K A H (.ref p) (.t xs)
  | d {A : Addr → Prop} {H : Hp} {p : Addr} {ks : List Ky} {us : List V} {xs : List Dt} : A p → H p = some (.dK (kvs ks us)) → ks.length = us.length → DtsAt K (fun q => A q ∧ q ≠ p) H us xs → DtAt K A H (.ref p) (.d ks xs)
inductive DtsAt (K : PySem.W.Frag) : (Addr → Prop) → Hp → List V → List Dt → Prop where
  | nil {A : Addr → Prop} {H : Hp} : DtsAt K A H [] []
  | cons {A : Addr → Prop} {H : Hp} {v : V} {vs : List V} {x : Dt} {xs : List Dt} : DtAt K A H v x → DtsAt K A H vs xs → DtsAt K A H (v :: vs) (x :: xs)
end
section
variable {K : PySem.W.Frag} {A B : Addr → Prop} {H H1 : Hp}
mutual
theorem DtAt.impA {H H1 : Hp} (ht : ∀ p us, SqT K H p us → SqT K H1 p us) : ∀ {A B : Addr → Prop} {v : V} {d : Dt}, (∀ p, A p → B p) → (∀ p us, A p → H p = some (.lst us) → H1 p = some (.lst us)) → (∀ p u, A p → H p = some (.dK u) → H1 p = some (.dK u)) → DtAt K A H v d → DtAt K B H1 v d
  | _, _, _, _, _, _, _, .n => .n
  | _, _, _, _, _, _, _, .b => .b
  | _, _, _, _, _, _, _, .i => .i
  | _, _, _, _, _, _, _, .s => .s
  | _, _, _, _, ha, hl, hd, .l h1 h2 h3 => .l (ha _ h1) (hl _ _ h1 h2) (DtsAt.impA ht ha hl hd h3)
  | _, _, _, _, ha, hl, hd, .t h2 h3 => .t (ht _ _ h2) (DtsAt.impA ht ha hl hd h3)
  | _, _, _, _, ha, hl, hd, .d h1 h2 h3 h4 => .d (ha _ h1) (hd _ _ h1 h2) h3 (DtsAt.impA ht (fun q hq => ⟨ha q hq.1, hq.2⟩) (fun p us a q => hl p us a.1 q) (fun p u a q => hd p u a.1 q) h4)
theorem DtsAt.impA {H H1 : Hp} (ht : ∀ p us, SqT K H p us → SqT K H1 p us) : ∀ {A B : Addr → Prop} {v : List V} {d : List Dt}, (∀ p, A p → B p) → (∀ p us, A p → H p = some (.lst us) → H1 p = some (.lst us)) → (∀ p u, A p → H p = some (.dK u) → H1 p = some (.dK u)) → DtsAt K A H v d → DtsAt K B H1 v d
  | _, _, _, _, _, _, _, .nil => .nil
  | _, _, _, _, ha, hl, hd, .cons h1 h2 => .cons (DtAt.impA ht ha hl hd h1) (DtsAt.impA ht ha hl hd h2)
end
theorem DtAt.imp {v : V} {d : Dt} (ha : ∀ p, A p → B p) (hl : ∀ p us, A p → H p = some (.lst us) → H1 p = some (.lst us)) (ht : ∀ p us, SqT K H p us → SqT K H1 p us) (hd : ∀ p u, A p → H p = some (.dK u) → H1 p = some (.dK u)) (h : DtAt K A H v d) : DtAt K B H1 v d := DtAt.impA ht ha hl hd h
theorem DtsAt.imp {v : List V} {d : List Dt} (ha : ∀ p, A p → B p) (hl : ∀ p us, A p → H p = some (.lst us) → H1 p = some (.lst us)) (ht : ∀ p us, SqT K H p us → SqT K H1 p us) (hd : ∀ p u, A p → H p = some (.dK u) → H1 p = some (.dK u)) (h : DtsAt K A H v d) : DtsAt K B H1 v d := DtsAt.impA ht ha hl hd h
mutual
/-- what it stands at is there -/
theorem DtAt.al : ∀ {A : Addr → Prop} {H : Hp} {v : V} {d : Dt}, DtAt K A H v d → DtAt K (fun q => A q ∧ H q ≠ none) H v d
  | _, _, _, _, .n => .n
  | _, _, _, _, .b => .b
  | _, _, _, _, .i => .i
  | _, _, _, _, .s => .s
  | _, _, _, _, .l h1 h2 h3 => .l ⟨h1, fun z => by rw [h2] at z; cases z⟩ h2 (DtsAt.al h3)
  | _, _, _, _, .t h2 h3 => .t h2 (DtsAt.al h3)
  | _, _, _, _, .d h1 h2 h3 h4 => .d ⟨h1, fun z => by rw [h2] at z; cases z⟩ h2 h3 ((DtsAt.al h4).imp (fun q hq => ⟨⟨hq.1.1, hq.2⟩, hq.1.2⟩) (fun _ _ _ q => q) (fun _ _ q => q) fun _ _ _ q => q)
theorem DtsAt.al : ∀ {A : Addr → Prop} {H : Hp} {v : List V} {d : List Dt}, DtsAt K A H v d → DtsAt K (fun q => A q ∧ H q ≠ none) H v d
  | _, _, _, _, .nil => .nil
  | _, _, _, _, .cons h1 h2 => .cons (DtAt.al h1) (DtsAt.al h2)
end
theorem Rd.same {p : Addr} {u : HO} (s : Same H H1) (h : Rd H p u) : Rd H1 p u := h.elim (fun q => .inl (s _ _ q)) fun ⟨o, q⟩ => .inr ⟨o, s _ _ q⟩
theorem DtAt.same {v : V} {d : Dt} (h : DtAt K A H v d) (s : Same H H1) : DtAt K A H1 v d := h.imp (fun _ q => q) (fun _ _ _ q => s _ _ q) (fun _ _ q => Same.sqT s q) fun _ _ _ q => s _ _ q
theorem DtsAt.same {v : List V} {d : List Dt} (h : DtsAt K A H v d) (s : Same H H1) : DtsAt K A H1 v d := h.imp (fun _ q => q) (fun _ _ _ q => s _ _ q) (fun _ _ q => Same.sqT s q) fun _ _ _ q => s _ _ q
theorem DtAt.mono {v : V} {d : Dt} (h : DtAt K A H v d) (m : ∀ p, A p → B p) : DtAt K B H v d := h.imp m (fun _ _ _ q => q) (fun _ _ q => q) fun _ _ _ q => q
theorem DtsAt.mono {v : List V} {d : List Dt} (h : DtsAt K A H v d) (m : ∀ p, A p → B p) : DtsAt K B H v d := h.imp m (fun _ _ _ q => q) (fun _ _ q => q) fun _ _ _ q => q
/-- all but an object at x, that is no tuple and none of the datum's own -/
theorem Rd.but {x p : Addr} {u : HO} (n : p ≠ x) (k : ∀ b o, b ≠ x → H b = some o → H1 b = some o) (h : Rd H p u) : Rd H1 p u := h.elim (fun q => .inl (k _ _ n q)) fun ⟨o, q⟩ => .inr ⟨o, k _ _ n q⟩
theorem sqT_no {x p : Addr} {us : List V} (nt : NoTup H x) (k : ∀ b o, b ≠ x → H b = some o → H1 b = some o) (q : SqT K H p us) : SqT K H1 p us := by
  obtain ⟨ob, e, n1, n2⟩ := nt
  rcases q with (h | ⟨o, h⟩) | h
  · exact .inl (.inl (k _ _ (fun z => by rw [z, e] at h; cases h; exact n1 _ rfl) h))
  · exact .inl (.inr ⟨o, k _ _ (fun z => by rw [z, e] at h; cases h; exact n2 _ _ rfl) h⟩)
  · exact .inr h
theorem DtAt.but {x : Addr} {v : V} {d : Dt} (h : DtAt K A H v d) (n : ∀ p, A p → p ≠ x) (nt : NoTup H x) (k : ∀ b o, b ≠ x → H b = some o → H1 b = some o) : DtAt K A H1 v d :=
  h.imp (fun _ q => q) (fun p _ a q => k _ _ (n p a) q) (fun _ _ q => sqT_no nt k q) fun p _ a q => k _ _ (n p a) q
theorem DtsAt.but {x : Addr} {v : List V} {d : List Dt} (h : DtsAt K A H v d) (n : ∀ p, A p → p ≠ x) (nt : NoTup H x) (k : ∀ b o, b ≠ x → H b = some o → H1 b = some o) : DtsAt K A H1 v d :=
  h.imp (fun _ q => q) (fun p _ a q => k _ _ (n p a) q) (fun _ _ q => sqT_no nt k q) fun p _ a q => k _ _ (n p a) q
theorem DtsAt.length : ∀ {v : List V} {d : List Dt}, DtsAt K A H v d → v.length = d.length
  | _, _, .nil => rfl
  | _, _, .cons _ h => by rw [List.length_cons, List.length_cons, DtsAt.length h]
theorem DtsAt.get : ∀ {v : List V} {d : List Dt} {i : Nat}, DtsAt K A H v d → i < d.length → ∃ u x, v[i]? = some u ∧ d[i]? = some x ∧ DtAt K A H u x
  | _, _, _, .nil, h => absurd h (Nat.not_lt_zero _)
  | _, _, 0, .cons h _, _ => ⟨_, _, rfl, rfl, h⟩
  | _, _, i + 1, .cons _ r, h => DtsAt.get (i := i) r (by simpa using h)
theorem DtsAt.snoc : ∀ {v : List V} {d : List Dt} {u : V} {x : Dt}, DtsAt K A H v d → DtAt K A H u x → DtsAt K A H (v ++ [u]) (d ++ [x])
  | _, _, _, _, .nil, h => .cons h .nil
  | _, _, _, _, .cons h r, g => .cons h (DtsAt.snoc r g)
end
/-! ### texts in parts -/
theorem wr_head (d : Dt) : ∃ c r, wr d = c :: r ∧ c ∈ [78, 84, 70, 35, 34, 91, 40, 123] := by
  cases d with
  | n => exact ⟨78, [], wr_n, by decide⟩
  | b x => rw [wr_b]; cases x
           · exact ⟨70, [], rfl, by decide⟩
           · exact ⟨84, [], rfl, by decide⟩
  | i x => exact ⟨35, _, wr_i x, by decide⟩
  | s a => exact ⟨34, _, wr_s a, by decide⟩
  | l xs => exact ⟨91, _, wr_l xs, by decide⟩
  | t xs => exact ⟨40, _, wr_t xs, by decide⟩
  | d ks vs => exact ⟨123, _, wr_d ks vs, by decide⟩
theorem flat_len {ws : List (List Nat)} {m : Nat} (h : ∀ w ∈ ws, w.length ≤ m) : ws.flatten.length ≤ ws.length * m := by
  induction ws with
  | nil => simp
  | cons w ws ih =>
    rw [List.flatten_cons, List.length_append, List.length_cons, Nat.succ_mul]
    have h1 := h w List.mem_cons_self
    have h2 := ih fun x hx => h x (List.mem_cons_of_mem _ hx)
    omega
theorem flatR_len {rs : List (List Nat × List Nat)} {m : Nat} (h : ∀ p ∈ rs, p.1.length + p.2.length ≤ m) : (flatR rs).length ≤ rs.length * m := by
  have := flat_len (ws := (sortR rs).map fun p => p.1 ++ p.2) (m := m) fun w hw => by
    obtain ⟨p, hp, rfl⟩ := List.mem_map.mp hw
    rw [List.length_append]
    exact h p ((sortR_perm rs).mem_iff.mp hp)
  rwa [List.length_map, (sortR_perm rs).length_eq] at this
theorem wr_len : ∀ (n : Nat) (d : Dt), nest d ≤ n → Okd d → (wr d).length ≤ 400 * 4 ^ n := by
  intro n
  induction n with
  | zero =>
    intro d hn hok
    cases d with
    | n => rw [wr_n]; simp
    | b x => rw [wr_b]; cases x <;> simp
    | i x => rw [wr_i]; have := kyT_len (k := .inl x) (ok_i.mp hok); omega
    | s a => rw [wr_s]; have := kyT_len (k := .inr a) (ok_s.mp hok); omega
    | l xs => rw [nest_l] at hn; omega
    | t xs => rw [nest_t] at hn; omega
    | d ks xs => rw [nest_d] at hn; omega
  | succ n ih =>
    intro d hn hok
    have hp : 0 < 4 ^ n := Nat.pos_of_ne_zero (by simp)
    rw [Nat.pow_succ]
    cases d with
    | n => rw [wr_n]; simp; omega
    | b x => rw [wr_b]; cases x <;> simp <;> omega
    | i x => rw [wr_i]; have := kyT_len (k := .inl x) (ok_i.mp hok); omega
    | s a => rw [wr_s]; have := kyT_len (k := .inr a) (ok_s.mp hok); omega
    | l xs =>
      rw [nest_l] at hn
      obtain ⟨h1, h2⟩ := ok_l.mp hok
      have := flat_len (ws := xs.map wr) (m := 400 * 4 ^ n) fun w hw => by
        obtain ⟨x, hx, rfl⟩ := List.mem_map.mp hw
        exact ih x (by have := nests_mem hx; omega) (h2 x hx)
      rw [List.length_map] at this
      have h3 : xs.length * (400 * 4 ^ n) ≤ 3 * (400 * 4 ^ n) := Nat.mul_le_mul_right _ h1
      rw [wr_l, List.length_cons, List.length_append, List.length_singleton]
      omega
    | t xs =>
      rw [nest_t] at hn
      obtain ⟨h1, h2⟩ := ok_t.mp hok
      have := flat_len (ws := xs.map wr) (m := 400 * 4 ^ n) fun w hw => by
        obtain ⟨x, hx, rfl⟩ := List.mem_map.mp hw
        exact ih x (by have := nests_mem hx; omega) (h2 x hx)
      rw [List.length_map] at this
      have h3 : xs.length * (400 * 4 ^ n) ≤ 3 * (400 * 4 ^ n) := Nat.mul_le_mul_right _ h1
      rw [wr_t, List.length_cons, List.length_append, List.length_singleton]
      omega
    | d ks xs =>
      rw [nest_d] at hn
      obtain ⟨h0, h1, hnd, h2, h3⟩ := ok_d.mp hok
      have := flatR_len (rs := (ks.map kyT).zip (xs.map wr)) (m := 120 + 400 * 4 ^ n) fun p hp => by
        have a := List.of_mem_zip (a := p.1) (b := p.2) hp
        obtain ⟨k, hk, ek⟩ := List.mem_map.mp a.1
        obtain ⟨x, hx, ex⟩ := List.mem_map.mp a.2
        have b1 := kyT_len (h2 k hk)
        have b2 := ih x (by have := nests_mem hx; omega) (h3 x hx)
        rw [← ek, ← ex]
        omega
      rw [List.length_zip, List.length_map, List.length_map, ← h0, Nat.min_self] at this
      have h4 : ks.length * (120 + 400 * 4 ^ n) ≤ 3 * (120 + 400 * 4 ^ n) := Nat.mul_le_mul_right _ h1
      rw [wr_d, List.length_cons, List.length_append, List.length_singleton]
      omega
theorem wr_len5 {d : Dt} (h : nest d ≤ 5) (hok : Okd d) : (wr d).length ≤ 500000 := Nat.le_trans (wr_len 5 d h hok) (by decide)
end Lv
/-! Rows of a dict, sorted. -/
namespace Lv
open PySem PySem.Spec PyProof.Rows L2
instance (priority := 2000) kyBEq : BEq Ky := instBEqOfDecidableEq
theorem valV_atK : ∀ {kvs : List (Key × V)} {i : Nat} {k : Key} {v : V}, (kvs.map (·.1)).Nodup → kvs[i]? = some (k, v) → valV kvs k = some v
  | [], i, k, v, _, h => by simp at h
  | p :: r, 0, k, v, _, h => by
    have h : some p = some (k, v) := h
    cases h
    exact valV_pos rfl
  | p :: r, i + 1, k, v, nd, h => by
    have h : r[i]? = some (k, v) := by simpa using h
    have nd' := List.nodup_cons.mp (show (p.1 :: r.map (·.1)).Nodup from nd)
    rw [valV_neg fun e => nd'.1 (by rw [e]; exact List.mem_map.mpr ⟨_, List.mem_of_getElem? h, rfl⟩)]
    exact valV_atK nd'.2 h
def kyLe (k j : Ky) : Bool := decide (kyT k ≤ kyT j)
def srtK (ks : List Ky) : List Ky := ks.mergeSort kyLe
theorem srtK_perm (ks : List Ky) : (srtK ks).Perm ks := List.mergeSort_perm ..
theorem srtK_pw (ks : List Ky) : (srtK ks).Pairwise fun k j => kyT k ≤ kyT j := by
  have := List.pairwise_mergeSort (le := kyLe) (fun a b c h1 h2 => decide_eq_true (List.le_trans (of_decide_eq_true h1) (of_decide_eq_true h2))) (fun a b => by
    unfold kyLe
    rcases List.le_total (kyT a) (kyT b) with h | h
    · simp [h]
    · simp [h]) ks
  exact this.imp fun h => of_decide_eq_true h
theorem srtK_lt {ks : List Ky} (hn : ks.Nodup) : (srtK ks).Pairwise fun k j => kyT k < kyT j := by
  have h2 : (srtK ks).Nodup := (srtK_perm ks).nodup_iff.mpr hn
  exact ((srtK_pw ks).and h2).imp fun ⟨a, b⟩ => List.not_le.mp fun z => b (kyT_inj (List.le_antisymm a z))
/-- what stands under a key -/
def lk (ks : List Ky) (vs : List Dt) (k : Ky) : Dt := (vs[ks.idxOf k]?).getD .n
theorem idx_at {ks : List Ky} (hn : ks.Nodup) {i : Nat} (hi : i < ks.length) : ks.idxOf ks[i] = i := by
  have h := List.idxOf_lt_length_of_mem (List.getElem_mem hi)
  have e := List.getElem_idxOf h
  exact (List.getElem_inj hn).mp e
theorem rows_lk {ks : List Ky} {vs : List Dt} (hn : ks.Nodup) (hl : ks.length = vs.length) : ks.map (fun k => (kyT k, wr (lk ks vs k))) = (ks.map kyT).zip (vs.map wr) := by
  refine List.ext_getElem (by simp [hl]) fun i h1 h2 => ?_
  rw [List.length_map] at h1
  rw [List.getElem_map, List.getElem_zip, List.getElem_map, List.getElem_map]
  unfold lk
  rw [idx_at hn h1, List.getElem?_eq_getElem (by omega)]
  rfl
theorem sortR_lk {ks : List Ky} {vs : List Dt} (hn : ks.Nodup) (hl : ks.length = vs.length) : (srtK ks).map (fun k => (kyT k, wr (lk ks vs k))) = sortR ((ks.map kyT).zip (vs.map wr)) := by
  refine sortR_one ?_ ?_ ?_
  · rw [List.map_fst_zip (by simp [hl])]; exact kyT_nodup hn
  · rw [← rows_lk hn hl]; exact (srtK_perm ks).map _
  · rw [List.pairwise_map]; exact srtK_pw ks
theorem flatR_lk {ks : List Ky} {vs : List Dt} (hn : ks.Nodup) (hl : ks.length = vs.length) : flatR ((ks.map kyT).zip (vs.map wr)) = ((srtK ks).map fun k => kyT k ++ wr (lk ks vs k)).flatten := by
  unfold flatR
  rw [← sortR_lk hn hl, List.map_map]
  rfl
theorem lk_mem {ks : List Ky} {vs : List Dt} (hl : ks.length = vs.length) {k : Ky} (hk : k ∈ ks) : lk ks vs k ∈ vs := by
  have h := List.idxOf_lt_length_of_mem hk
  unfold lk
  rw [List.getElem?_eq_getElem (by omega)]
  exact List.getElem_mem _
/-- the pairs that sorted is told of -/
theorem pairs_of {ks : List Ky} {B : List (V × Str)} (h1 : B.map (·.1) = ks.map kyV) (h2 : B.map (·.2) = ks.map fun k => S (kyT k)) : B = ks.map fun k => (kyV k, S (kyT k)) := by
  induction ks generalizing B with
  | nil => exact List.map_eq_nil_iff.mp h1
  | cons k ks ih =>
    cases B with
    | nil => cases h1
    | cons b B =>
      obtain ⟨a1, a2⟩ := List.cons.inj h1
      obtain ⟨b1, b2⟩ := List.cons.inj h2
      rw [List.map_cons, ← ih a2 b2]
      congr 1
      exact Prod.ext a1 b1
theorem sorted_ky {ks : List Ky} {B : List (V × Str)} (h1 : B.map (·.1) = ks.map kyV) (h2 : B.map (·.2) = ks.map fun k => S (kyT k)) : (B.mergeSort (PySem.W.dataLe false fun b => PyData.str b.2)).map (·.1) = (srtK ks).map kyV := by
  rw [pairs_of h1 h2]
  have e := List.map_mergeSort (r := kyLe) (s := PySem.W.dataLe false fun b : V × Str => PyData.str b.2) (f := fun k => (kyV k, S (kyT k))) (l := ks) (fun a _ b _ => by
    rw [PySem.W.dataLe_str]
    show decide (kyT a ≤ kyT b) = decide ((S (kyT a)).cps.toList ≤ (S (kyT b)).cps.toList)
    rfl)
  rw [← e, List.map_map]
  rfl
/-- a dict's value for a key -/
theorem val_kvs {K : PySem.W.Frag} {A : Addr → Prop} {H : Hp} {ks : List Ky} {us : List V} {vs : List Dt} (hn : ks.Nodup) (hu : ks.length = us.length) (hl : ks.length = vs.length) (h : DtsAt K A H us vs) {k : Ky} (hk : k ∈ ks) :
    ∃ u, valV (kvs ks us) (kyK k) = some u ∧ DtAt K A H u (lk ks vs k) := by
  have hi := List.idxOf_lt_length_of_mem hk
  obtain ⟨u, x, h1, h2, h3⟩ := h.get (i := ks.idxOf k) (by omega)
  refine ⟨u, ?_, ?_⟩
  · have hnd : ((kvs ks us).map (·.1)).Nodup := by
      unfold kvs
      rw [List.map_fst_zip (by simp [hu])]
      exact List.Pairwise.map _ (fun a b hab => fun e => hab (kyK_inj e)) hn
    refine valV_atK hnd (i := ks.idxOf k) ?_
    unfold kvs
    rw [List.getElem?_zip_eq_some]
    refine ⟨?_, h1⟩
    rw [List.getElem?_map, List.getElem?_eq_getElem hi, List.getElem_idxOf hi]
    rfl
  · unfold lk
    rw [h2]
    exact h3
end Lv
/-! Written dicts read by a text; a walk over either of two. -/
namespace Lv
open PySem PySem.Spec PyProof.Rows L2
section
variable {X : Cx} {d : Addr} {es : Array DictEntry} {n : Nat}
def rKIn (K : PySem.W.Frag) (d : Addr) : R2 := fun x y H Q => ∃ (z : Str) (r : Option Value), x = .str z ∧ y = .ref d ∧ PySem.W.nsIn K d z = some r ∧ Q (.bl r.isSome) H
def rKIx (K : PySem.W.Frag) (d : Addr) : R2 := fun x y H Q => ∃ (z : Str) (u0 : Value) (v0 : V), x = .ref d ∧ y = .str z ∧ PySem.W.nsIn K d z = some (some u0) ∧ RelV v0 u0 ∧ Q v0 H
theorem op_in_kdn (D : KDict X.K X.w d es n) : OpR X (compareOp .In) (rKIn X.K d) := op_in_kd D
theorem ix_kdn (D : KDict X.K X.w d es n) : IxR X (rKIx X.K d) := by
  intro value slice pins s σ H x y v u Q I rx ry h hs
  obtain ⟨z, u0, v0, rfl, rfl, e, r, q⟩ := h
  cases rx
  obtain ⟨t, rfl⟩ := ry
  exact tail_any (kd_type D I) PySem.F.slot_dict_getitem.lookup (wpAny_getItem_of (PySem.strKind_is X.prog X.w z t) (PySem.W.mapOf_K (prog := X.prog) I.kIn D.at_ D.lit) (PySem.W.find_K D.at_ e) ⟨v0, H, I.tok _, r, q⟩) hs
end
/-- what a dict of the module gives for a text -/
def KGives (K : PySem.W.Frag) (d : Addr) (kvs : List (List Nat × V)) : Prop := ∀ a : List Nat, match kvs.lookup a with
  | some v => ∃ u, PySem.W.nsIn K d ⟨a.toArray⟩ = some (some u) ∧ RelV v u
  | none => PySem.W.nsIn K d ⟨a.toArray⟩ = some none
structure DictK (K : PySem.W.Frag) (w : World) (mg : Str → Option Value) (x : Str) (kvs : List (List Nat × V)) : Prop where
  ex : ∃ (d : Addr) (es : Array DictEntry) (n : Nat), (∃ u, mg x = some u ∧ RelV (.ref d) u) ∧ KDict K w d es n ∧ KGives K d kvs
theorem kd_in {K : PySem.W.Frag} {d : Addr} {kvs : List (List Nat × V)} {a : List Nat} {H : Hp} {Q : VK} (h : KGives K d kvs) (k : Q (.bl (kvs.lookup a).isSome) H) : rKIn K d (T a) (.ref d) H Q := by
  have g := h a
  cases e : kvs.lookup a with
  | none => rw [e] at g k; exact ⟨_, none, rfl, rfl, g, k⟩
  | some v =>
    rw [e] at g k
    obtain ⟨u, h1, _⟩ := g
    exact ⟨_, some u, rfl, rfl, h1, k⟩
theorem kd_ix {K : PySem.W.Frag} {d : Addr} {kvs : List (List Nat × V)} {a : List Nat} {v : V} {H : Hp} {Q : VK} (h : KGives K d kvs) (e : kvs.lookup a = some v) (k : Q v H) : rKIx K d (.ref d) (T a) H Q := by
  have g := h a
  rw [e] at g
  obtain ⟨u, h1, h2⟩ := g
  exact ⟨_, u, v, rfl, rfl, h1, h2, k⟩
/-- a walk of either kind -/
theorem pi_alt {X : Cx} {tg iter : Expr} {w1 w2 : TI} (h1 : PI X tg iter w1) (h2 : PI X tg iter w2) : PI X tg iter fun σ H R => w1 σ H R ∨ w2 σ H R :=
  ⟨fun pins s σ H R I h => h.elim (h1.run pins s σ H R I) (h2.run pins s σ H R I)⟩
end Lv
/-! A sign found between two places; a number read. -/
namespace PySem
namespace StrLaws
open Builtin Builtin.Str
theorem occ_head_in (x y : Str) (lo hi limit : Nat) (hl : 1 ≤ limit) :
    (occurrences x y lo hi limit = [] ∧ ∀ i, lo ≤ i → ¬ At x y hi i) ∨
    ∃ i r, occurrences x y lo hi limit = i :: r ∧ lo ≤ i ∧ At x y hi i ∧ ∀ k, lo ≤ k → k < i → ¬ At x y hi k := by
  rw [occ_eq]
  rcases occ_first x y hi limit hl (List.range' lo (hi + 1 - lo)) lo (fun i hi => by have := List.mem_range'_1.mp hi; omega) with ⟨h0, hn⟩ | ⟨pre, a, post, e, h0, ha, hn⟩
  · refine .inl ⟨by rw [h0], fun i hlo hi => ?_⟩
    exact hn i (by have := hi.1; rw [List.mem_range'_1]; omega) hi
  · have hs := range'_split_from e
    refine .inr ⟨a, ((forIn (List.range' lo (hi + 1 - lo)) ((#[] : Array Nat), lo) (occBody x y hi limit)).run.fst.toList).tail, ?_, hs.1, ha, fun k hk0 hk => hn k (hs.2 k hk0 hk)⟩
    generalize (forIn (List.range' lo (hi + 1 - lo)) ((#[] : Array Nat), lo) (occBody x y hi limit)).run.fst = arr at h0
    have h1 : arr.toList[0]? = some a := by simpa using h0
    cases hL : arr.toList with
    | nil => rw [hL] at h1; cases h1
    | cons b t => rw [hL] at h1; simp at h1; rw [h1]; rfl
theorem at_one (x : Str) (c hi v : Nat) (hh : hi ≤ x.length) : At x ⟨#[c]⟩ hi v ↔ v < hi ∧ x.cps.toList[v]? = some c := by
  have e : (⟨#[c]⟩ : Str).length = 1 := rfl
  constructor
  · intro h
    have h1 := h.1
    exact ⟨by omega, (subAt_one x c v).mp ⟨by omega, h.2⟩⟩
  · rintro ⟨h1, h2⟩
    exact ⟨by omega, ((subAt_one x c v).mpr h2).2⟩
end StrLaws
end PySem
namespace Lv
open PySem PySem.Spec PyProof.Rows L2
open TL (numL tl_num numL_digits numL_ne numL_val numL_len numL_lt numL_step numL_free numL_inj)
theorem from_nat {n i : Nat} (hi : i ≤ n) : PySem.fromIndex n (i : Int) = i := by
  unfold PySem.fromIndex
  first
    | (simp; omega)
    | (simp; done)
    | omega
theorem to_nat {n j : Nat} : PySem.toIndexW n (j : Int) = min j n := by
  unfold PySem.toIndexW
  first
    | (simp; omega)
    | (simp; done)
    | omega
def rFind4 : V → List V → Hp → VK → Prop := fun x xs H Q => ∃ (a b : Str) (i j : Int), x = .str a ∧ xs = [.str b, .int i, .int j] ∧ Q (.int (Txt.findIn a b i j)) H
theorem mt_findB {X : Cx} : MtR X "str.find" rFind4 := mt_find4
theorem find4_at {cs : List Nat} {c i j k : Nat} (hi : i ≤ k) (hj : k < j) (hk : cs[k]? = some c) (hn : ∀ m, i ≤ m → m < k → cs[m]? ≠ some c) : Txt.findIn ⟨cs.toArray⟩ ⟨#[c]⟩ (i : Int) (j : Int) = (k : Int) := by
  have hkl := (List.getElem?_eq_some_iff.mp hk).1
  unfold Txt.findIn
  rw [len_T, from_nat (by omega), to_nat]
  rcases StrLaws.occ_head_in ⟨cs.toArray⟩ ⟨#[c]⟩ i (min j cs.length) 1 (Nat.le_refl 1) with ⟨h0, h1⟩ | ⟨a, r, h0, h1, h2, h3⟩
  · exact absurd ((StrLaws.at_one _ _ _ _ (by rw [len_T]; omega)).mpr ⟨by omega, by simpa using hk⟩) (h1 k hi)
  · rw [h0]
    obtain ⟨g1, g2⟩ := (StrLaws.at_one _ _ _ _ (by rw [len_T]; omega)).mp h2
    have g2 : cs[a]? = some c := by simpa using g2
    rcases Nat.lt_trichotomy a k with h | h | h
    · exact absurd g2 (hn a h1 h)
    · rw [h]
    · exact absurd ((StrLaws.at_one _ _ _ _ (by rw [len_T]; omega)).mpr ⟨by omega, by simpa using hk⟩) (h3 k hi h)
theorem find4_no {cs : List Nat} {c i j : Nat} (hi : i ≤ cs.length) (hn : ∀ m, i ≤ m → m < j → cs[m]? ≠ some c) : Txt.findIn ⟨cs.toArray⟩ ⟨#[c]⟩ (i : Int) (j : Int) = -1 := by
  unfold Txt.findIn
  rw [len_T, from_nat hi, to_nat]
  rcases StrLaws.occ_head_in ⟨cs.toArray⟩ ⟨#[c]⟩ i (min j cs.length) 1 (Nat.le_refl 1) with ⟨h0, h1⟩ | ⟨a, r, h0, h1, h2, h3⟩
  · rw [h0]
  · obtain ⟨g1, g2⟩ := (StrLaws.at_one _ _ _ _ (by rw [len_T]; omega)).mp h2
    exact absurd (by simpa using g2) (hn a h1 (by omega))
section
variable {Q : VK} {H : Hp} {cs : List Nat} {c i j k : Nat}
theorem w_find4 (hi : i ≤ k) (hj : k < j) (hk : cs[k]? = some c) (hn : ∀ m, i ≤ m → m < k → cs[m]? ≠ some c) (q : Q (.int (k : Int)) H) : rFind4 (T cs) [T [c], .int (i : Int), .int (j : Int)] H Q :=
  ⟨_, ⟨#[c]⟩, _, _, rfl, rfl, by rw [find4_at hi hj hk hn]; exact q⟩
theorem w_find4n (hi : i ≤ cs.length) (hn : ∀ m, i ≤ m → m < j → cs[m]? ≠ some c) (q : Q (.int (-1)) H) : rFind4 (T cs) [T [c], .int (i : Int), .int (j : Int)] H Q :=
  ⟨_, ⟨#[c]⟩, _, _, rfl, rfl, by rw [find4_no hi hn]; exact q⟩
theorem w_intD {n : Nat} (hn : n < 10 ^ 20) (q : Q (.int (n : Int)) H) : rIntS [T (numL n)] H Q := by
  have hl : (numL n).length ≤ 20 := numL_len (by decide) hn
  refine w_intS (n := (n : Int)) ?_ (by omega) q
  have h := PySem.intText_digits (x := ⟨(numL n).toArray⟩) (fun d hd => numL_digits n d hd) (numL_ne n) (by rw [len_T]; omega)
  rw [h]
  show some ((NumText.digitsVal (numL n) : Nat) : Int) = some (n : Int)
  rw [numL_val]
end
/-- no needless nought in front -/
theorem numL_head1 {n : Nat} : numL n = [48] ∨ (numL n).head? ≠ some 48 := by
  by_cases h : n = 0
  · subst h; exact .inl (numL_lt (by decide))
  · refine .inr ?_
    have key : ∀ m, 0 < m → (numL m).head? ≠ some 48 := by
      intro m
      induction m using Nat.strongRecOn with
      | ind m ih =>
        intro hm
        by_cases h10 : m < 10
        · rw [numL_lt h10]; intro z; have : 48 + m = 48 := Option.some.inj z; omega
        · rw [numL_step (by omega)]
          have hne := numL_ne (m / 10)
          cases e : numL (m / 10) with
          | nil => exact absurd e hne
          | cons a l =>
            have := ih (m / 10) (by omega) (by omega)
            rw [e] at this
            exact this
    exact key n (by omega)
/-! cuts of texts -/
theorem cut_nat (a : List Nat) {i j : Nat} (hi : i ≤ j) (hj : j ≤ a.length) : cut a (some (i : Int)) (some (j : Int)) = (a.drop i).take (j - i) := by
  have e : ∀ k n m : Nat, k ≤ n → HT.sIx n m (some (k : Int)) = k := fun k n m h => by
    unfold HT.sIx
    simp
    rw [if_neg (by omega)]
    omega
  unfold cut
  rw [e i _ _ (by omega), e j _ _ hj]
theorem cut_one (a : List Nat) (i : Nat) : cut a (some (i : Int)) (some ((i : Int) + 1)) = (a.drop i).take 1 := by
  have e : ∀ k n m : Nat, HT.sIx n m (some (k : Int)) = min k n := fun k n m => by
    unfold HT.sIx
    simp
    intro hk
    omega
  unfold cut
  rw [show (i : Int) + 1 = ((i + 1 : Nat) : Int) from rfl, e i, e (i + 1)]
  by_cases h : i + 1 ≤ a.length
  · rw [show min i a.length = i by omega, show min (i + 1) a.length - i = 1 by omega]
  · rw [List.drop_of_length_le (show a.length ≤ i by omega), show min i a.length = a.length by omega]
    simp
end Lv
/-! Pairs of texts, sorted. -/
namespace Lv
open PySem PySem.Spec PyProof.Rows L2 PySem.W
def fs (b : PrT) : List Nat := b.2.1.cps.toList
def sn (b : PrT) : List Nat := b.2.2.cps.toList
theorem str_ext {x y : Str} (h : x.cps.toList = y.cps.toList) : x = y := by
  cases x; cases y
  congr 1
  exact Array.toList_inj.mp h
theorem lt_st (x y : Str) : (!dataLt (.str y) (.str x)) = decide (x.cps.toList ≤ y.cps.toList) := by
  have h := congrFun (congrFun (dataLe_str (β := Str) (fun b => b)) x) y
  rw [dataLe_eq] at h
  exact h
theorem le_pt_iff (p q : PrT) : dataLe false encPT p q = true ↔ (fs p ≤ fs q ∧ (fs p = fs q → sn p ≤ sn q)) := by
  rw [dataLe_eq]
  show (!dataLt (encPT q) (encPT p)) = true ↔ _
  unfold encPT
  rw [dataLt_pair rfl rfl]
  by_cases e : PyData.eqv (.str q.2.1) (.str p.2.1) = true
  · rw [if_pos e]
    have e1 : q.2.1 = p.2.1 := by simpa [PyData.eqv] using e
    have ef : fs p = fs q := by unfold fs; rw [e1]
    by_cases e' : PyData.eqv (.str q.2.2) (.str p.2.2) = true
    · rw [if_pos e']
      have e2 : q.2.2 = p.2.2 := by simpa [PyData.eqv] using e'
      exact ⟨fun _ => ⟨by rw [ef]; exact List.le_refl _, fun _ => by unfold sn; rw [e2]; exact List.le_refl _⟩, fun _ => rfl⟩
    · rw [if_neg e', lt_st]
      exact ⟨fun h => ⟨by rw [ef]; exact List.le_refl _, fun _ => of_decide_eq_true h⟩, fun h => decide_eq_true (h.2 ef)⟩
  · rw [if_neg e, lt_st]
    have ef : fs p ≠ fs q := fun z => e (by have := str_ext z; rw [this]; simp [PyData.eqv])
    exact ⟨fun h => ⟨of_decide_eq_true h, fun z => absurd z ef⟩, fun h => decide_eq_true h.1⟩
theorem pw_pt (B : List PrT) : (B.mergeSort (dataLe false encPT)).Pairwise fun p q => fs p ≤ fs q := by
  have := List.pairwise_mergeSort (le := dataLe false encPT) (fun a b c h1 h2 => by
    have h1 := (le_pt_iff a b).mp h1
    have h2 := (le_pt_iff b c).mp h2
    refine (le_pt_iff a c).mpr ⟨List.le_trans h1.1 h2.1, fun z => ?_⟩
    have e : fs a = fs b := List.le_antisymm h1.1 (by rw [z]; exact h2.1)
    exact List.le_trans (h1.2 e) (h2.2 (e.symm.trans z))) (fun a b => by
    rw [Bool.or_eq_true, le_pt_iff, le_pt_iff]
    by_cases z : fs a = fs b
    · rcases List.le_total (sn a) (sn b) with h | h
      · exact .inl ⟨by rw [z]; exact List.le_refl _, fun _ => h⟩
      · exact .inr ⟨by rw [z]; exact List.le_refl _, fun _ => h⟩
    · rcases List.le_total (fs a) (fs b) with h | h
      · exact .inl ⟨h, fun q => absurd q z⟩
      · exact .inr ⟨h, fun q => absurd q.symm z⟩) B
  exact this.imp fun h => ((le_pt_iff _ _).mp h).1
theorem sorted_pt {rs : List (List Nat × List Nat)} (hn : (rs.map (·.1)).Nodup) {B : List PrT} (hB : B.map (fun b => (fs b, sn b)) = rs) : (B.mergeSort (dataLe false encPT)).map (fun b => (fs b, sn b)) = sortR rs := by
  refine sortR_one hn ?_ ?_
  · rw [← hB]; exact (List.mergeSort_perm _ _).map _
  · rw [List.pairwise_map]; exact pw_pt B
end Lv
namespace Lv
open PySem PySem.Spec PyProof.Rows L2
/-- the entries of a written dict are these -/
def entB : List DictEntry → List (List Nat × V) → Bool
  | [], [] => true
  | e :: r, p :: q => (match e.key with
    | .str x _ => decide (x = ⟨p.1.toArray⟩)
    | _ => false) && (He.relB p.2 e.val && entB r q)
  | _, _ => false
theorem ent_any : ∀ {l : List DictEntry} {kvs : List (List Nat × V)}, entB l kvs = true → l.any (·.refKey) = false
  | [], [], _ => rfl
  | [], _ :: _, h => by cases h
  | _ :: _, [], h => by cases h
  | e :: r, p :: q, h => by
    obtain ⟨hs, k, v⟩ := e
    unfold entB at h
    rw [Bool.and_eq_true, Bool.and_eq_true] at h
    obtain ⟨h1, _, h3⟩ := h
    rw [List.any_cons, ent_any h3, Bool.or_false]
    cases k with
    | str x t => rfl
    | _ => cases h1
theorem ent_find : ∀ {l : List DictEntry} {kvs : List (List Nat × V)}, entB l kvs = true → ∀ a : List Nat, match kvs.lookup a with
    | some v => ∃ e, l.find? (·.key.isStr ⟨a.toArray⟩) = some e ∧ RelV v e.val
    | none => l.find? (·.key.isStr ⟨a.toArray⟩) = none
  | [], [], _, a => rfl
  | [], _ :: _, h, _ => by cases h
  | _ :: _, [], h, _ => by cases h
  | e :: r, p :: q, h, a => by
    obtain ⟨hs, k, v⟩ := e
    obtain ⟨pk, pv⟩ := p
    unfold entB at h
    rw [Bool.and_eq_true, Bool.and_eq_true] at h
    obtain ⟨h1, h2, h3⟩ := h
    have ih := ent_find h3 a
    cases k with
    | str x t =>
      have ex : x = ⟨pk.toArray⟩ := of_decide_eq_true h1
      subst ex
      by_cases ha : a = pk
      · subst ha
        have e1 : (a == a) = true := by simp
        rw [List.lookup_cons, e1]
        refine ⟨⟨hs, .str ⟨a.toArray⟩ t, v⟩, ?_, He.relB_ok h2⟩
        rw [List.find?_cons]
        have : (Value.str ⟨a.toArray⟩ t).isStr ⟨a.toArray⟩ = true := by simp [Value.isStr]
        rw [this]
      · have e1 : (a == pk) = false := by simp [ha]
        rw [List.lookup_cons, e1]
        have : (Value.str ⟨pk.toArray⟩ t).isStr ⟨a.toArray⟩ = false := by
          have hne : (⟨pk.toArray⟩ : Str) ≠ ⟨a.toArray⟩ := fun h => ha (by
            have h4 : pk.toArray = a.toArray := congrArg Str.cps h
            have h5 := congrArg Array.toList h4
            exact h5.symm)
          simp [Value.isStr, hne]
        rw [List.find?_cons, this]
        exact ih
    | _ => cases h1
theorem nsIn_ent {K : PySem.W.Frag} {d : Addr} {c : Value} {o : Option Addr} {es : Array DictEntry} {n : Nat} {sl : Array (Option Value)} {kvs : List (List Nat × V)} (l : K.lookup d = some ⟨c, o, .dict es n, sl⟩) (h : entB es.toList kvs = true) (a : List Nat) : match kvs.lookup a with
  | some v => ∃ u, PySem.W.nsIn K d ⟨a.toArray⟩ = some (some u) ∧ RelV v u
  | none => PySem.W.nsIn K d ⟨a.toArray⟩ = some none := by
  have g := ent_find h a
  have g2 := ent_any h
  have e0 : PySem.W.nsIn K d ⟨a.toArray⟩ = (match es.toList.find? (·.key.isStr ⟨a.toArray⟩) with
      | some e => some (some e.val)
      | none => if es.toList.any (·.refKey) then none else some none) := by
    unfold PySem.W.nsIn
    rw [l]
    rfl
  rw [e0]
  cases q : kvs.lookup a with
  | some v =>
    rw [q] at g
    obtain ⟨e, h1, h2⟩ := g
    rw [h1]
    exact ⟨e.val, rfl, h2⟩
  | none =>
    rw [q] at g
    have g3 : es.toList.find? (·.key.isStr ⟨a.toArray⟩) = none := g
    rw [g3, g2]
    rfl
theorem kd_mk {K : PySem.W.Frag} {w : World} {d : Addr} {es : Array DictEntry} {n : Nat} {ks : List Str} (l : K.lookup d = some ⟨.type "dict", none, .dict es n, #[]⟩) (h : es.toList.map He.keyOf = He.keysIn w.params ks) (lo : (d == sysModules) = false) : KDict K w d es n := ⟨l, He.keysLit_of h, lo⟩
end Lv
namespace Lv
open PySem PySem.Spec PyProof.Rows L2
theorem ite_g {c : Prop} [Decidable c] {a b : Prop} (h : if c then a else b) : if c then a else b := h
section
open PySem PySem.Spec PyProof.Rows L2
def topS (i : Nat) : Stmt := PySem.Challenge.pw_livestead_k32_data_as_texts.main.body.getD i (.Pass ⟨0, 0, 0, 0⟩)
structure Bn (mg : Str → Option Value) : Prop where
  n_len : mg "len" = none
  n_int : mg "int" = none
  n_list : mg "list" = none
  n_range : mg "range" = none
  n_max : mg "max" = none
  n_str : mg "str" = none
  n_isinstance : mg "isinstance" = none
  n_bool : mg "bool" = none
  n_ord : mg "ord" = none
  n_tuple : mg "tuple" = none
  n_enumerate : mg "enumerate" = none
  n_min : mg "min" = none
  n_abs : mg "abs" = none
  n_all : mg "all" = none
  n_any : mg "any" = none
  n_sorted : mg "sorted" = none
  n_sum : mg "sum" = none

end
section
open PySem PySem.Spec PyProof.Rows L2
open C8 (Cal cal0 pe_c pe_gc pss_cut tCut)

end
local macro_rules | `(tactic| walk_at "r1y") => `(tactic| first
  | with_reducible refine w_seq ?_
  | with_reducible refine w_next ?_
  | with_reducible refine w_var (by with_unfolding_all exact rfl) ?_
  | with_reducible refine w_asg ?_
  | with_reducible refine w_gname ?_
  | with_reducible refine w_ifS ?_
  | with_reducible refine w_test ?_
  | with_reducible refine w_tB ?_
  | with_reducible refine w_op ?_
  | with_reducible refine w_un ?_
  | with_reducible refine w_var (by with_unfolding_all exact rfl) ?_
  | with_reducible refine w_cT ?_
  | with_reducible refine w_str ?_
  | with_reducible refine w_c ?_
  | with_reducible refine w_i0 ?_
  | with_reducible refine w_intI ?_
  | with_reducible refine w_intB ?_
  | with_reducible refine w_cb ?_
  | with_reducible refine w_cons ?_
  | with_reducible refine w_nil ?_
  | with_reducible refine w_call ?_
  | with_reducible refine w_ret ?_
  | with_reducible refine w_retN ?_
  | with_reducible refine w_drop ?_
  | with_reducible refine w_gsub ?_
  | with_reducible refine w_sl ?_
  | with_reducible refine w_part ?_
  | with_reducible refine w_nopart ?_
  | with_reducible refine w_lst ?_
  | with_reducible refine w_tup ?_
  | with_reducible refine w_bm ?_
  | with_reducible refine w_bm0 ?_
  | with_reducible refine w_bmT ?_
  | with_reducible refine w_and ?_
  | with_reducible refine w_or ?_
  | with_reducible refine w_not ?_
  | with_reducible refine w_andV ?_
  | with_reducible refine w_orV ?_
  | with_reducible refine w_notV ?_
  | with_reducible refine w_inC ?_
  | with_reducible refine w_ninC ?_
  | with_reducible refine w_ord ?_
  | with_reducible refine w_max ?_
  | with_reducible refine w_ifE ?_
  | with_reducible refine w_forR ?_
  | with_reducible refine w_forL ?_
  | with_reducible refine w_forT ?_
  | with_reducible refine w_forS ?_
  | with_reducible refine w_forEl ?_
  | with_reducible refine w_lcR ?_
  | with_reducible refine w_lcL ?_
  | with_reducible refine w_yes ?_
  | with_reducible refine w_tru ?_
  | with_reducible refine w_isN ?_
  | with_reducible refine w_notN ?_
  | ((with_reducible show rLenL _ [V.ref _] _ _); first | refine w_lenL (SqL.of (by assumption)) ?_ | refine w_lenL (by assumption) ?_ | refine w_lenT (by assumption) ?_)
  | ((with_reducible show rIxL _ (V.ref _) (V.int _) _ _); refine w_ixL (SqL.of (by assumption)) (by with_unfolding_all exact rfl) ?_)
  | ((with_reducible show rIxT _ (V.ref _) (V.int _) _ _); refine w_ixT (by assumption) (by with_unfolding_all exact rfl) ?_)
  | with_reducible refine w_abs ?_
  | with_reducible refine w_neg ?_
  | with_reducible refine w_ltS ?_
  | with_reducible refine w_leS ?_
  | with_reducible refine w_eq (by with_unfolding_all exact rfl) ?_
  | with_reducible refine w_ne (by with_unfolding_all exact rfl) ?_
  | with_reducible refine ex_int ?_
  | with_reducible refine ex_bl ?_
  | ((with_reducible show rIsi _ _ _ _); first | with_reducible refine isi_s_tuple ?_ | with_reducible refine isi_s_bool ?_ | with_reducible refine isi_s_int ?_ | with_reducible refine isi_s_str ?_ | with_reducible refine isi_i_tuple ?_ | with_reducible refine isi_i_bool ?_ | with_reducible refine isi_i_int ?_ | with_reducible refine isi_i_str ?_ | with_reducible refine isi_b_tuple ?_ | with_reducible refine isi_b_bool ?_ | with_reducible refine isi_b_int ?_ | with_reducible refine isi_b_str ?_ | with_reducible refine isi_n_tuple ?_ | with_reducible refine isi_n_bool ?_ | with_reducible refine isi_n_int ?_ | with_reducible refine isi_n_str ?_ | ((with_reducible refine isi_t_tuple ?hSq ?_); (case hSq => exact ⟨_, by assumption⟩)) | ((with_reducible refine isi_t_bool ?hSq ?_); (case hSq => exact ⟨_, by assumption⟩)) | ((with_reducible refine isi_t_int ?hSq ?_); (case hSq => exact ⟨_, by assumption⟩)) | ((with_reducible refine isi_t_str ?hSq ?_); (case hSq => exact ⟨_, by assumption⟩)))
  | ((with_reducible refine @ite_g _ _ _ _ ?_); first | with_reducible refine ifB_tt ?_ | with_reducible refine ifB_ff ?_ | with_reducible refine ifB_tf ?_ | with_reducible refine ifB_ft ?_ | with_reducible refine ifN_s ?_ | with_reducible refine ifN_i ?_ | with_reducible refine ifN_b ?_ | with_reducible refine ifN_r ?_ | with_reducible refine ifN_n ?_ | with_reducible refine ifM_s ?_ | with_reducible refine ifM_i ?_ | with_reducible refine ifM_b ?_ | with_reducible refine ifM_r ?_ | with_reducible refine ifM_n ?_ | with_reducible refine L2.iteF ?_ | with_reducible refine L2.iteT ?_ | with_reducible refine w_nt ?_ | with_reducible refine w_nf ?_))
local macro_rules | `(tactic| walk_at "rdy") => `(tactic| repeat walk_at "r1y")
local macro_rules | `(tactic| walk_at "upy") => `(tactic| (refine ⟨_, _, rfl, .inl (.inl (by assumption)), (by rfl), ?_⟩; refine ⟨_, _, rfl, ?_⟩; walk_at "rdy"; refine ⟨_, _, rfl, ?_⟩; walk_at "rdy"; refine ⟨rfl, ?_⟩; walk_at "rdy"))
section
open PySem PySem.Spec PyProof.Rows L2
open C8 (Cal cal0 pe_c pe_gc pss_cut tCut)

/-- what draws are made from: the cell, what is mixed in, its place, a number that stays -/
def Src (H : Hp) (S : Addr) : Prop := ∃ c d k e : Int, H S = some (.lst [.int c, .int d, .int k, .int e])
theorem Src.mono {H H' : Hp} {S : Addr} (h : Src H S) (f : Same H H') : Src H' S := by
  obtain ⟨c, d, k, e, h⟩ := h
  exact ⟨c, d, k, e, f _ _ h⟩
theorem Src.new {H : Hp} {S D : Addr} (h : Src H S) (hD : H D = none) : D ≠ S := by
  obtain ⟨c, d, k, e, h⟩ := h
  exact fun z => by rw [z, h] at hD; cases hD
theorem Src.grow {H H1 : Hp} {S D : Addr} (h : Src H S) (n : D ≠ S) (k : ∀ b o, b ≠ D → H b = some o → H1 b = some o) : Src H1 S := by
  obtain ⟨c, d, i, e, h⟩ := h
  exact ⟨c, d, i, e, k _ _ n.symm h⟩
theorem Src.tr {K : PySem.W.Frag} {H H1 : Hp} {S : Addr} {v : V} {t : Tr} (h : Src H S) (f : Fr S H H1) (a : TrAt K H v t) : TrAt K H1 v t := by
  obtain ⟨c, d, i, e, h⟩ := h
  exact a.but h f
section
variable {P : Program} {w : World} {K : PySem.W.Frag} {mg : Str → Option Value} {base : Heap}
abbrev s_law_draw : Stmt := topS 14
abbrev N_law_draw : List Str := ["src", "many", "value"]
theorem sc_law_draw : FnScope N_law_draw ["src", "many"] (defScope s_law_draw) := ⟨rfl, rfl, rfl, by decide +kernel, rfl, by decide +kernel, by decide +kernel⟩
def spDrawB : Sp := fun vs H Q _ => ∃ (S : Addr) (m : Int), vs = [.ref S, .int m] ∧ Src H S ∧ 0 < m ∧ m < 2 ^ 60 ∧ ∀ r H', 0 ≤ r → r < m → Src H' S → Fr S H H' → Q (.int r) H'
theorem use_drawB {S : Addr} {m : Int} {H : Hp} {Q : VK} {E : XK} (h : Src H S) (h0 : 0 < m) (h1 : m < 2 ^ 60) (k : ∀ r H', 0 ≤ r → r < m → Src H' S → Fr S H H' → Q (.int r) H') : spDrawB ([.ref S, .int m] ++ []) H Q E :=
  ⟨S, m, rfl, h, h0, h1, k⟩
theorem w_set4 {H : Hp} {S : Addr} {xs : List V} {j : Int} {n : Nat} {v : V} {G : Hp → Prop} (hS : H S = some (.lst xs)) (e : ixN xs.length j = some n)
    (k : ∀ H2, H2 S = some (.lst (xs.set n v)) → Fr S H H2 → G H2) : rSetL (.ref S) (.int j) v H G := w_setL hS e (k _ upd_same Fr.own)
theorem ok_law_draw {f : Addr} {fd : FuncData} (F : Fun K "_law_draw" "_law_draw" s_law_draw f fd) (Y : Bn mg) : FnOk P w K mg base CX0 1 f fd ["src", "many"] spDrawB := by
  refine F.ok sc_law_draw (fun vs H Q E h => ?_) (fun cdv A outer s H vs Q E hr h => ?_)
  · obtain ⟨S, m, rfl, _⟩ := h
    rfl
  · obtain ⟨S, m, rfl, ⟨c, d, i, e, hS⟩, hm, hm2, kQ⟩ := h
    have nd := sc_law_draw.nd
    refine ⟨_, (pss_cut (ps_if (pt_cmpR op_lt (pe_ix ix_list (pv 0) pe_int (fun _ _ => rfl)) (pv 1) (nomark _)) (pss_cons (ps_asg (pe_op op_modN (pe_callTy call_intI (by rfl) Y.n_int (by decide +kernel) (pa_cons (pe_op op_add (pe_op op_add (pe_op op_mul (pe_ix ix_list (pv 0) pe_int (fun _ _ => rfl)) pe_int) pe_int) (pe_ix ix_list (pv 0) pe_int (fun _ _ => rfl))) pa_nil)) pe_int) (pg_sub (pv 0) pe_int set_list))
      (pss_one (ps_asg (pe_op op_add (pe_ix ix_list (pv 0) pe_int (fun _ _ => rfl)) (pe_op op_mul (pe_ix ix_list (pv 0) pe_int (fun _ _ => rfl)) pe_int)) (pg_sub (pv 0) pe_int set_list)))) pss_nil)
      (pss_cons (ps_set (i := 2) nd rfl (Or.inl rfl) (pe_op op_modN (pe_callTy call_intI (by rfl) Y.n_int (by decide +kernel) (pa_cons (pe_ix ix_list (pv 0) pe_int (fun _ _ => rfl)) pa_nil)) (pv 1)))
      (pss_cons (ps_asg (pe_op op_fdivW (pe_ix ix_list (pv 0) pe_int (fun _ _ => rfl)) (pv 1)) (pg_sub (pv 0) pe_int set_list))
      (pss_one (ps_ret (pv 2)))))), ?_⟩
    rw [show L2.start N_law_draw [.ref S, .int m] = [some (.ref S), some (.int m), none] from rfl]
    refine ⟨fun σ' H' => σ' = [some (.ref S), some (.int m), none] ∧ (∃ c d i e : Int, H' S = some (.lst [.int c, .int d, .int i, .int e])) ∧ Fr S H H', ?_, ?_⟩
    · walk_at "rdy"
      refine w_if (fun hk => ?_) (fun hk => ?_)
      · walk_at "rdy"
        refine w_mulR (by decide) ?_
        walk_at "rdy"
        refine w_i (by decide) ?_
        walk_at "rdy"
        refine w_set4 hS rfl fun H1 hS1 f1 => ?_
        walk_at "rdy"
        refine w_mulR (by decide) ?_
        walk_at "rdy"
        refine w_set4 hS1 rfl fun H2 hS2 f2 => ?_
        exact ⟨rfl, ⟨_, _, _, _, hS2⟩, f1.trans f2⟩
      · exact ⟨rfl, ⟨_, _, _, _, hS⟩, Fr.refl S H⟩
    · rintro σ' H0 ⟨rfl, ⟨c, d, i, e, hS⟩, fr⟩
      walk_at "rdy"
      refine w_i (by omega) ?_
      walk_at "rdy"
      refine w_i ?_ ?_
      · exact wide_div hm (b := 60) (by omega) (by decide) (by decide)
      walk_at "rdy"
      refine w_set4 hS rfl fun H1 hS1 f1 => ?_
      walk_at "rdy"
      exact kQ _ H1 (Int.fmod_nonneg_of_pos _ hm) (Int.fmod_lt_of_pos _ hm) ⟨_, _, _, _, hS1⟩ (fr.trans f1)
abbrev s_law_source : Stmt := topS 15
abbrev N_law_source : List Str := ["script", "k", "cell"]
theorem sc_law_source : FnScope N_law_source ["script", "k"] (defScope s_law_source) := ⟨rfl, rfl, rfl, by decide +kernel, rfl, by decide +kernel, by decide +kernel⟩
def spSource (K : PySem.W.Frag) : Sp := fun vs H Q _ => ∃ (a : Addr) (ns : List Int) (k : Nat), vs = [.ref a, .int (k : Int)] ∧ SqL K H a (ns.map V.int) ∧ k < 100000 ∧ ∀ S H', Src H' S → Same H H' → H S = none → Q (.ref S) H'
theorem ok_law_source {f : Addr} {fd : FuncData} (F : Fun K "_law_source" "_law_source" s_law_source f fd) (Y : Bn mg) : FnOk P w K mg base CX0 1 f fd ["script", "k"] (spSource K) := by
  refine F.ok sc_law_source (fun vs H Q E h => ?_) (fun cdv A outer s H vs Q E hr h => ?_)
  · obtain ⟨a, ns, k, rfl, _⟩ := h
    rfl
  · obtain ⟨a, ns, k, rfl, hA, hk, kQ⟩ := h
    have nd := sc_law_source.nd
    refine ⟨_, (pss_cons (ps_set (i := 2) nd rfl (Or.inl rfl) pe_int)
      (pss_cut (ps_if (pt_cmpR op_lt (pv 1) (pe_callB call_lenL (by rfl) Y.n_len (by decide +kernel) (pa_cons (pv 0) pa_nil)) (nomark _)) (pss_one (ps_set (i := 2) nd rfl (Or.inl rfl) (pe_ix ix_list (pv 0) (pv 1) (fun _ _ => rfl)))) pss_nil)
      (pss_cut (ps_if (pt_cmpR op_lt (pv 2) pe_int (nomark _)) (pss_one (ps_set (i := 2) nd rfl (Or.inl rfl) (pe_op op_add (pe_op op_mul (pe_un un_neg pe_int) (pv 2)) pe_int))) pss_nil)
      (pss_one (ps_ret (pe_lst (pa_cons (pv 2) (pa_cons (pe_op op_add (pe_op op_modN (pe_callTy call_intI (by rfl) Y.n_int (by decide +kernel) (pa_cons (pv 2) pa_nil)) pe_int) (pe_op op_mul pe_int (pv 1))) (pa_cons (pv 1) (pa_cons pe_int pa_nil)))))))))), ?_⟩
    rw [show L2.start N_law_source [.ref a, .int (k : Int)] = [some (.ref a), some (.int (k : Int)), none] from rfl]
    walk_at "rdy"
    refine ⟨fun σ' H' => H' = H ∧ ∃ c : Int, σ' = [some (.ref a), some (.int (k : Int)), some (.int c)], ?_, ?_⟩
    · walk_at "rdy"
      refine w_if (fun hk => ?_) (fun hk => ?_)
      · walk_at "rdy"
        rw [List.length_map] at hk
        have hk2 : k < ns.length := by omega
        refine w_ixL hA (atI_nat (by rw [List.getElem?_map, List.getElem?_eq_getElem hk2]; rfl)) ?_
        walk_at "rdy"
        exact ⟨rfl, _, rfl⟩
      · exact ⟨rfl, 0, rfl⟩
    · rintro σ' H0 ⟨rfl, c, rfl⟩
      walk_at "rdy"
      refine ⟨fun σ' H' => H' = H0 ∧ ∃ c : Int, σ' = [some (.ref a), some (.int (k : Int)), some (.int c)], ?_, ?_⟩
      · walk_at "rdy"
        refine w_if (fun hk => ?_) (fun hk => ?_)
        · walk_at "rdy"
          refine w_mulL (by decide) ?_
          walk_at "rdy"
          exact ⟨rfl, _, rfl⟩
        · exact ⟨rfl, _, rfl⟩
      · rintro σ' H1 ⟨rfl, c2, rfl⟩
        walk_at "rdy"
        refine w_i (by decide) ?_
        walk_at "rdy"
        refine w_mulL (by decide) ?_
        walk_at "rdy"
        refine w_newL (by show 4 ≤ 1000000; decide) fun S H2 hS s2 h2 => ?_
        exact kQ S H2 ⟨_, _, _, _, h2⟩ s2 hS
abbrev s_law_choice : Stmt := topS 16
abbrev N_law_choice : List Str := ["src", "options"]
theorem sc_law_choice : FnScope N_law_choice ["src", "options"] (defScope s_law_choice) := ⟨rfl, rfl, rfl, by decide +kernel, rfl, by decide +kernel, by decide +kernel⟩
def spChoice : Sp := fun vs H Q _ => ∃ (S N : Addr) (xs : List V), vs = [.ref S, .ref N] ∧ Src H S ∧ H N = some (.lst xs) ∧ N ≠ S ∧ 0 < xs.length ∧ xs.length ≤ 1000000 ∧ ∀ x ∈ xs, ∀ H', Src H' S → Fr S H H' → Q x H'
theorem ok_law_choice {f : Addr} {fd : FuncData} (F : Fun K "_law_choice" "_law_choice" s_law_choice f fd) (Y : Bn mg) (c_law_draw : Cal P w K mg base 1 "_law_draw" spDrawB []) : FnOk P w K mg base CX0 2 f fd ["src", "options"] spChoice := by
  refine F.ok sc_law_choice (fun vs H Q E h => ?_) (fun cdv A outer s H vs Q E hr h => ?_)
  · obtain ⟨S, N, xs, rfl, _⟩ := h
    rfl
  · obtain ⟨S, N, xs, rfl, hS, hN, nN, n0, n1, kQ⟩ := h
    have nd := sc_law_choice.nd
    refine ⟨_, (pss_one (ps_ret (pe_ix ix_list (pv 1) (pe_c c_law_draw hr (by decide) rfl (pa_cons (pv 0) (pa_cons (pe_callB call_lenL (by rfl) Y.n_len (by decide +kernel) (pa_cons (pv 1) pa_nil)) pa_nil))) (fun _ _ => rfl)))), ?_⟩
    rw [show L2.start N_law_choice [.ref S, .ref N] = [some (.ref S), some (.ref N)] from rfl]
    walk_at "rdy"
    refine use_drawB hS (by omega) (by omega) fun r H1 r0 r1 hS1 f1 => ?_
    have hr2 : r.toNat < xs.length := by omega
    obtain ⟨q, rfl⟩ : ∃ q : Nat, r = (q : Int) := ⟨r.toNat, by omega⟩
    rw [Int.toNat_natCast] at hr2
    refine w_ixL (SqL.of (f1 _ _ nN hN)) (atI_nat (List.getElem?_eq_getElem hr2)) ?_
    exact kQ _ (List.getElem_mem hr2) H1 hS1 f1
end
end
section
/-! Data written. -/
open PySem PySem.Spec PyProof.Rows L2
open C8 (Cal Met Mak cal0 pe_c pe_gc pss_cut tCut pe_mt pe_mt0 pe_mk)
open TL (numL tl_num numL_digits numL_ne numL_val numL_len numL_lt numL_step numL_free numL_inj)

end
local macro_rules | `(tactic| walk_at "r1c") => `(tactic| first
  | with_reducible refine w_seq ?_
  | with_reducible refine w_next ?_
  | with_reducible refine w_var (by with_unfolding_all exact rfl) ?_
  | with_reducible refine w_asg ?_
  | with_reducible refine w_gname ?_
  | with_reducible refine w_ifS ?_
  | with_reducible refine w_test ?_
  | with_reducible refine w_tB ?_
  | with_reducible refine w_op ?_
  | with_reducible refine w_un ?_
  | with_reducible refine w_var (by with_unfolding_all exact rfl) ?_
  | with_reducible refine w_cT ?_
  | with_reducible refine w_str ?_
  | with_reducible refine w_c ?_
  | with_reducible refine w_i0 ?_
  | with_reducible refine w_intI ?_
  | with_reducible refine w_intB ?_
  | with_reducible refine w_cb ?_
  | with_reducible refine w_cons ?_
  | with_reducible refine w_nil ?_
  | with_reducible refine o_fld ?_
  | with_reducible refine o_meth ?_
  | with_reducible refine o_fldS ?_
  | with_reducible refine o_make ?_
  | with_reducible refine w_call ?_
  | with_reducible refine w_ret ?_
  | with_reducible refine w_retN ?_
  | with_reducible refine w_drop ?_
  | with_reducible refine w_gsub ?_
  | with_reducible refine w_sl ?_
  | with_reducible refine w_part ?_
  | with_reducible refine w_nopart ?_
  | with_reducible refine w_lst ?_
  | with_reducible refine w_tup ?_
  | with_reducible refine w_bm ?_
  | with_reducible refine w_bm0 ?_
  | with_reducible refine w_bmT ?_
  | with_reducible refine w_and ?_
  | with_reducible refine w_or ?_
  | with_reducible refine w_not ?_
  | with_reducible refine w_andV ?_
  | with_reducible refine w_orV ?_
  | with_reducible refine w_notV ?_
  | with_reducible refine w_inC ?_
  | with_reducible refine w_ninC ?_
  | with_reducible refine w_ord ?_
  | with_reducible refine w_max ?_
  | with_reducible refine w_ifE ?_
  | with_reducible refine w_forR ?_
  | with_reducible refine w_forL ?_
  | with_reducible refine w_forT ?_
  | with_reducible refine w_forS ?_
  | with_reducible refine w_forEl ?_
  | with_reducible refine w_lcR ?_
  | with_reducible refine w_lcL ?_
  | with_reducible refine w_yes ?_
  | with_reducible refine w_tru ?_
  | with_reducible refine w_isN ?_
  | with_reducible refine w_notN ?_
  | ((with_reducible show rLenL _ [V.ref _] _ _); first | refine w_lenL (SqL.of (by assumption)) ?_ | refine w_lenL (by assumption) ?_ | refine w_lenT (by assumption) ?_)
  | ((with_reducible show rIxL _ (V.ref _) (V.int _) _ _); refine w_ixL (SqL.of (by assumption)) (by with_unfolding_all exact rfl) ?_)
  | ((with_reducible show rIxT _ (V.ref _) (V.int _) _ _); refine w_ixT (by assumption) (by with_unfolding_all exact rfl) ?_)
  | with_reducible refine w_abs ?_
  | with_reducible refine w_neg ?_
  | with_reducible refine w_ltS ?_
  | with_reducible refine w_leS ?_
  | with_reducible refine w_eq (by with_unfolding_all exact rfl) ?_
  | with_reducible refine w_ne (by with_unfolding_all exact rfl) ?_
  | with_reducible refine ex_int ?_
  | with_reducible refine ex_bl ?_
  | ((with_reducible show rIsi _ _ _ _); first | with_reducible refine isi_s_tuple ?_ | with_reducible refine isi_s_bool ?_ | with_reducible refine isi_s_int ?_ | with_reducible refine isi_s_str ?_ | with_reducible refine isi_i_tuple ?_ | with_reducible refine isi_i_bool ?_ | with_reducible refine isi_i_int ?_ | with_reducible refine isi_i_str ?_ | with_reducible refine isi_b_tuple ?_ | with_reducible refine isi_b_bool ?_ | with_reducible refine isi_b_int ?_ | with_reducible refine isi_b_str ?_ | with_reducible refine isi_n_tuple ?_ | with_reducible refine isi_n_bool ?_ | with_reducible refine isi_n_int ?_ | with_reducible refine isi_n_str ?_ | ((with_reducible refine isi_t_tuple ?hSq ?_); (case hSq => exact ⟨_, by assumption⟩)) | ((with_reducible refine isi_t_bool ?hSq ?_); (case hSq => exact ⟨_, by assumption⟩)) | ((with_reducible refine isi_t_int ?hSq ?_); (case hSq => exact ⟨_, by assumption⟩)) | ((with_reducible refine isi_t_str ?hSq ?_); (case hSq => exact ⟨_, by assumption⟩)))
  | ((with_reducible refine @ite_g _ _ _ _ ?_); first | with_reducible refine ifB_tt ?_ | with_reducible refine ifB_ff ?_ | with_reducible refine ifB_tf ?_ | with_reducible refine ifB_ft ?_ | with_reducible refine ifN_s ?_ | with_reducible refine ifN_i ?_ | with_reducible refine ifN_b ?_ | with_reducible refine ifN_r ?_ | with_reducible refine ifN_n ?_ | with_reducible refine ifM_s ?_ | with_reducible refine ifM_i ?_ | with_reducible refine ifM_b ?_ | with_reducible refine ifM_r ?_ | with_reducible refine ifM_n ?_ | with_reducible refine L2.iteF ?_ | with_reducible refine L2.iteT ?_ | with_reducible refine w_nt ?_ | with_reducible refine w_nf ?_))
local macro_rules | `(tactic| walk_at "rdc") => `(tactic| repeat walk_at "r1c")
local macro_rules | `(tactic| walk_at "upc") => `(tactic| (refine ⟨_, _, rfl, .inl (.inl (by assumption)), (by rfl), ?_⟩; refine ⟨_, _, rfl, ?_⟩; walk_at "rdc"; refine ⟨_, _, rfl, ?_⟩; walk_at "rdc"; refine ⟨rfl, ?_⟩; walk_at "rdc"))
section
open PySem PySem.Spec PyProof.Rows L2
open C8 (Cal Met Mak cal0 pe_c pe_gc pss_cut tCut pe_mt pe_mt0 pe_mk)
open TL (numL tl_num numL_digits numL_ne numL_val numL_len numL_lt numL_step numL_free numL_inj)

local macro_rules | `(tactic| walk_at "dd") => `(tactic| repeat (first
  | walk_at "r1c"
  | with_reducible refine w_dget ?_
  | with_reducible refine w_din ?_
  | with_reducible refine w_dnin ?_
  | with_reducible refine w_dput ?_
  | with_reducible refine w_ddel ?_
  | with_reducible refine w_lenSet ?_
  | with_reducible refine w_lcTt ?_
  | with_reducible refine cTe (by with_unfolding_all decide +kernel) ?_
  | with_reducible refine cTn (by with_unfolding_all decide +kernel) ?_
  | with_reducible refine cNe (by with_unfolding_all decide +kernel) ?_
  | with_reducible refine cNn (by with_unfolding_all decide +kernel) ?_
  | with_reducible refine w_par ?_
  | with_reducible refine w_raiseC ?_
  | with_reducible refine w_lcV ?_
  | with_reducible refine w_lcKk ?_
  | with_reducible refine w_lcZ ?_
  | with_reducible refine w_lcE ?_))

structure BnK (mg : Str → Option Value) : Prop extends Bn mg where
  n_dict : mg "dict" = none
section
variable {σ : L2.St} {H : Hp} {Q : VK} {K : PySem.W.Frag} {ts : List TE} {acc : List Nat}
theorem fmt_I {x : Int} (h : x.natAbs < 10 ^ 20) (k : Q (T (intL x)) H) : FmtK (.int x) H Q := by
  refine .inr ⟨x, rfl, ?_, ?_⟩
  · by_cases h0 : x.natAbs = 0
    · rw [h0]; decide
    · exact Nat.lt_trans ((Nat.log2_lt h0).mpr (show x.natAbs < 2 ^ 67 from Nat.lt_trans h (by decide))) (by decide)
  · rw [int_str]; exact k
end
/-- the text of a key -/
def ktV : V → Option Str
  | .int x => if x.natAbs < 10 ^ 20 then some (S (kyT (.inl x))) else none
  | .str a => if a.cps.toList.length ≤ 100 then some (S (kyT (.inr a.cps.toList))) else none
  | _ => none
theorem ktV_i {x : Int} : ktV (.int x) = if x.natAbs < 10 ^ 20 then some (S (kyT (.inl x))) else none := rfl
theorem ktV_s {a : Str} : ktV (.str a) = if a.cps.toList.length ≤ 100 then some (S (kyT (.inr a.cps.toList))) else none := rfl
theorem ktV_k {k : Ky} (h : KyOk k) : ktV (kyV k) = some (S (kyT k)) := by
  cases k with
  | inl x => exact if_pos h
  | inr a => exact if_pos h.1
section
variable {P : Program} {w : World} {K : PySem.W.Frag} {mg : Str → Option Value} {base : Heap} {k : Nat}
abbrev s_write_datum : Stmt := topS 9
abbrev N_write_datum : List Str := ["datum", "key", "pairs", "part", "parts"]
theorem sc_write_datum : FnScope N_write_datum ["datum"] (defScope s_write_datum) := ⟨rfl, rfl, rfl, by decide +kernel, rfl, by decide +kernel, by decide +kernel⟩
/-- a key written: nothing is made anew -/
theorem ok_write_key {spW : Sp} {f : Addr} {fd : FuncData} (F : Fun K "write_datum" "write_datum" s_write_datum f fd) (Y : BnK mg) (gWr : ∃ u, mg "write_datum" = some u ∧ RelV (.ref f) u) (cwrite_datum : Cal P w K mg base 1 "write_datum" spW []) :
    FnOk P w K mg base CX0 3 f fd ["datum"] (spKey ktV) := by
  refine F.ok sc_write_datum (fun vs H Q E h => ?_) (fun cdv A outer s H vs Q E hr h => ?_)
  · obtain ⟨v, z, rfl, _⟩ := h
    rfl
  · obtain ⟨v, z, rfl, hz, kQ⟩ := h
    have nd := sc_write_datum.nd
    have hrK : Room (1 + 1) (cxOf CX0 P w K mg base N_write_datum "write_datum" (defScope s_write_datum) f cdv A outer s H E).nox.A := hr
    refine ⟨_, (pss_cons (ps_if (pt_cmpR op_isN (pv 0) pe_non (nomark _)) (pss_one (ps_ret pe_str)) pss_nil)
      (pss_cons (ps_if (pt_val (pe_callB call_isi (by rfl) Y.n_isinstance (by decide +kernel) (pa_cons (pv 0) (pa_cons (pe_bltn (v := .ty "bool") (by rfl) Y.n_bool (by decide +kernel) rfl) pa_nil)))) (pss_one (ps_ret (pe_ifExp (pt_val (pv 0)) pe_str pe_str))) pss_nil)
      (pss_cons (ps_if (pt_val (pe_callB call_isi (by rfl) Y.n_isinstance (by decide +kernel) (pa_cons (pv 0) (pa_cons (pe_bltn (v := .ty "int") (by rfl) Y.n_int (by decide +kernel) rfl) pa_nil)))) (pss_one (ps_ret (pe_fs (.cons pe_str (.cons (pe_fmt (pv 0)) (.cons pe_str .nil)))))) pss_nil)
      (pss_cons (ps_if (pt_val (pe_callB call_isi (by rfl) Y.n_isinstance (by decide +kernel) (pa_cons (pv 0) (pa_cons (pe_bltn (v := .ty "str") (by rfl) Y.n_str (by decide +kernel) rfl) pa_nil)))) (pss_one (ps_ret (pe_fs (.cons pe_str (.cons (pe_fmt (pe_callB call_lenS (by rfl) Y.n_len (by decide +kernel) (pa_cons (pv 0) pa_nil))) (.cons pe_str (.cons (pe_fmt (pv 0)) .nil))))))) pss_nil)
      (pss_cons (ps_if (pt_val (pe_callB call_isi (by rfl) Y.n_isinstance (by decide +kernel) (pa_cons (pv 0) (pa_cons (pe_bltn (v := .ty "dict") (by rfl) Y.n_dict (by decide +kernel) rfl) pa_nil)))) (pss_cons (ps_setLc (i := 2) (own := [("key", 1)]) (g := gName 1) (tt := tYes) (te := tOp rAddS (tCall spW [] C8.E0 (tCons (tVar 1) tNil)) (tCall spW [] C8.E0 (tCons (tDGet (tVar 0) (tVar 1)) tNil))) rfl nd rfl rfl (sw_true rfl rfl rfl (by decide +kernel)) (pi_list (pe_callBK (cr_sortKD rfl hrK) (by rfl) Y.n_sorted (by decide +kernel) (pa_cons (pv 0) pa_nil) (pk_cons (pe_gc rfl gWr) pk_nil))) (blkOk_by (own := [("key", 1)]) (N := N_write_datum) (sc := defScope s_write_datum) (by decide +kernel)) (fun _ _ _ _ _ => pg_name (i := 1) nd rfl (Or.inl rfl)) (fun _ _ _ _ _ => pts_nil) (fun _ _ _ _ _ => (pe_op op_addS (pe_c cwrite_datum hr (by omega) rfl (pa_cons (pv 1) pa_nil)) (pe_c cwrite_datum hr (by omega) rfl (pa_cons (pe_dget (hu_of hr) (pv 0) (pv 1) (fun _ _ => rfl)) pa_nil)))))
      (pss_one (ps_ret (pe_op op_addS (pe_op op_addS pe_str (pe_bm PySem.F.plainAttrs_str PySem.F.slot_str_join PySem.F.type_str_join mt_joinS pe_str (pa_cons (pv 2) pa_nil))) pe_str)))) pss_nil)
      (pss_cons (ps_set (i := 4) nd rfl (Or.inl rfl) (pe_bm PySem.F.plainAttrs_str PySem.F.slot_str_join PySem.F.type_str_join mt_joinS pe_str (pa_cons (pe_lc (own := [("part", 3)]) (g := gName 3) (tt := tYes) (te := (tCall spW [] C8.E0 (tCons (tVar 3) tNil))) rfl nd (pi_alt (pi_list (pv 0)) (pi_tup (pv 0))) (blkOk_by (own := [("part", 3)]) (N := N_write_datum) (sc := defScope s_write_datum) (by decide +kernel)) (fun _ _ _ _ _ => pg_name (i := 3) nd rfl (Or.inl rfl)) (fun _ _ _ _ _ => pts_nil) (fun _ _ _ _ _ => (pe_c cwrite_datum hr (by omega) rfl (pa_cons (pv 3) pa_nil)))) pa_nil)))
      (pss_cons (ps_if (pt_val (pe_callB call_isi (by rfl) Y.n_isinstance (by decide +kernel) (pa_cons (pv 0) (pa_cons (pe_bltn (v := .ty "tuple") (by rfl) Y.n_tuple (by decide +kernel) rfl) pa_nil)))) (pss_one (ps_ret (pe_fs (.cons pe_str (.cons (pe_fmt (pv 4)) (.cons pe_str .nil)))))) pss_nil)
      (pss_one (ps_ret (pe_fs (.cons pe_str (.cons (pe_fmt (pv 4)) (.cons pe_str .nil))))))))))))), ?_⟩
    rw [show L2.start N_write_datum [v] = [some v, none, none, none, none] from rfl]
    cases v with
    | int x =>
      rw [ktV_i] at hz
      by_cases hx : x.natAbs < 10 ^ 20
      · rw [if_pos hx] at hz
        cases hz
        walk_at "dd"
        refine w_fs ?_
        refine w_fs1 ?_
        walk_at "dd"
        refine fs_T (a := [35]) (by decide) ?_
        refine w_fs1 ?_
        refine w_fmt ?_
        walk_at "dd"
        refine fmt_I hx ?_
        have hl := intL_len hx
        refine fs_T (by show 1 + _ ≤ _; omega) ?_
        refine w_fs1 ?_
        walk_at "dd"
        refine fs_T (a := [59]) (by rw [List.length_append]; show 1 + _ + 1 ≤ _; omega) ?_
        refine fs_end ?_
        exact kQ
      · rw [if_neg hx] at hz; cases hz
    | str a =>
      rw [ktV_s] at hz
      by_cases hx : a.cps.toList.length ≤ 100
      · rw [if_pos hx] at hz
        cases hz
        rw [T_eta a]
        generalize a.cps.toList = a at hx kQ ⊢
        walk_at "dd"
        refine w_fs ?_
        refine w_fs1 ?_
        walk_at "dd"
        refine fs_T (a := [34]) (by decide) ?_
        refine w_fs1 ?_
        refine w_fmt ?_
        walk_at "dd"
        refine w_lenS (by omega) ?_
        refine fmt_I (by rw [Int.natAbs_natCast]; omega) ?_
        rw [intL_nat]
        have hl := numL_len (n := a.length) (k := 3) (by decide) (by omega)
        refine fs_T (by show 1 + _ ≤ _; omega) ?_
        refine w_fs1 ?_
        walk_at "dd"
        refine fs_T (a := [58]) (by rw [List.length_append]; show 1 + _ + 1 ≤ _; omega) ?_
        refine w_fs1 ?_
        refine w_fmt ?_
        walk_at "dd"
        refine fmt_T (by omega) ?_
        refine fs_T (by simp; omega) ?_
        refine fs_end ?_
        have e : (([] ++ [34]) ++ numL a.length ++ [58]) ++ a = kyT (.inr a) := by unfold kyT; simp
        first
          | (rw [e]; exact kQ)
          | (rw [show _ = kyT (.inr a) from e]; exact kQ)
      · rw [if_neg hx] at hz; cases hz
    | _ => unfold ktV at hz; cases hz
theorem w_ckw {r : List V → List V → Hp → VK → Prop} {t tk : TA} {σ : L2.St} {H : Hp} {Q : VK} (k : t σ H fun vs H1 => tk σ H1 fun zs H2 => r vs zs H2 Q) : tCKw r t tk σ H Q := k
theorem isi_l {K : PySem.W.Frag} {H : Hp} {Q : VK} {p : Addr} {us : List V} {ty : String} {r : Bool} (h : H p = some (.lst us)) (k : Q (.bl r) H) (hk : kitB "list" ty = some r := by decide +kernel) : rIsi K [.ref p, .ty ty] H Q := w_isi (a := "list") (.base (.lst h)) k hk
theorem isi_t {K : PySem.W.Frag} {H : Hp} {Q : VK} {p : Addr} {us : List V} {ty : String} {r : Bool} (h : SqT K H p us) (k : Q (.bl r) H) (hk : kitB "tuple" ty = some r := by decide +kernel) : rIsi K [.ref p, .ty ty] H Q := w_isi (a := "tuple") (tyx_tup h) k hk
theorem isi_d {K : PySem.W.Frag} {H : Hp} {Q : VK} {p : Addr} {u : List (Key × V)} {ty : String} {r : Bool} (h : Rd H p (.dK u)) (k : Q (.bl r) H) (hk : kitB "dict" ty = some r := by decide +kernel) : rIsi K [.ref p, .ty ty] H Q :=
  w_isi (a := "dict") (h.elim (fun q => .base (.dK q)) fun ⟨_, q⟩ => .fDict q) k hk
section
variable {σ : L2.St} {H : Hp} {Q : VK} {K : PySem.W.Frag} {J : It} {n : Nat} {G : Hp → Prop} {Y : Nat → Hp → V → Hp → Prop} {g : TG} {tt : TT} {te : TE} {vs : List Nat}
theorem w_lcA1 {w1 w2 : TI} (k : tLc w1 g tt te vs σ H Q) : tLc (fun σ H R => w1 σ H R ∨ w2 σ H R) g tt te vs σ H Q := Or.inl k
theorem w_lcA2 {w1 w2 : TI} (k : tLc w2 g tt te vs σ H Q) : tLc (fun σ H R => w1 σ H R ∨ w2 σ H R) g tt te vs σ H Q := Or.inr k
theorem lcL_of {a : Addr} {xs : List V} (h : H a = some (.lst xs)) (k : LcJ (Itl K a) g tt te vs σ H Q) : LcL K g tt te vs (.ref a) σ H Q := ⟨a, rfl, ⟨xs, .inl (.inl h)⟩, k⟩
/-- a walk that makes a text at each turn, and changes nothing that stands -/
theorem lc_texts (wk : Walk J n G Y) {zs : List (List Nat)} (hz : zs.length = n) (hb : zs.length ≤ 1000) (hG : ∀ H1, Same H H1 → G H1)
    (hs : ∀ i z x H1 H2 (Qs : VK), Same H H1 → zs[i]? = some z → Y i H1 x H2 → (∀ H3, Same H1 H3 → Qs (T z) H3) → g x (wipe σ vs) H2 fun σ2 H3 => wipe σ2 vs = wipe σ vs ∧ te σ2 H3 Qs)
    (hd : ∀ D H1, H D = none → Same H H1 → H1 D = some (.lst (zs.map T)) → Q (.ref D) H1) : LcJ J g tYes te vs σ H Q := by
  refine lc_W wk (fun D i acc H1 => H D = none ∧ Same H H1 ∧ acc = (zs.take i).map T) (fun D H1 hD s _ => ⟨hD, s, rfl⟩) (fun D i acc H1 _ p => hG H1 p.2.1) (fun D i x acc H1 H2 hi hl hD ⟨hD0, s, ea⟩ y => ?_) fun D acc H1 _ hD1 ⟨hD0, s, ea⟩ => ?_
  · have hi' : i < zs.length := by omega
    have e : zs[i]? = some zs[i] := List.getElem?_eq_getElem hi'
    refine hs i zs[i] x H1 H2 _ s e y fun H3 s3 => ?_
    refine lc_keep (by rw [ea, List.length_map, List.length_take]; omega) (by omega) (s3 _ _ hD) fun H5 h5 b5 => ⟨hD0, same_of_but hD0 (Same.trans s s3) b5, ?_⟩
    rw [ea, List.take_succ, e, List.map_append]
    rfl
  · refine hd D H1 hD0 s ?_
    rw [hD1, ea, List.take_of_length_le (by omega)]
end
theorem tot_map (ws : Ws) : tot ws = ws.flatten.length := by
  induction ws with
  | nil => rfl
  | cons a l ih => rw [tot_cons, ih, List.flatten_cons, List.length_append]
theorem jn_flat (ws : Ws) : jnS [] ws = ws.flatten := by
  cases ws with
  | nil => rfl
  | cons a l =>
    show a ++ l.flatMap (fun b => [] ++ b) = (a :: l).flatten
    rw [List.flatten_cons, List.flatMap_def]
    simp
theorem w_join0 {K : PySem.W.Frag} {H : Hp} {Q : VK} {p : Addr} {l : Ws} (h : SqL K H p (l.map T)) (z : l.flatten.length ≤ 1000000) (k : Q (T l.flatten) H) : rJoin K (T (Str.ofString "").1.toList) [.ref p] H Q :=
  w_joinS (s := []) (.inl h) (by rw [tot_map]; exact z) (by rw [jn_flat]; exact k)
def spWr (K : PySem.W.Frag) (n : Nat) : Sp := fun vs H Q _ => ∃ (v : V) (d : Dt), vs = [v] ∧ DtAt K (fun _ => True) H v d ∧ nest d ≤ n ∧ Okd d ∧ ∀ H', Same H H' → Q (T (wr d)) H'
theorem ok_write_datum {spW : Sp} {n j : Nat} {f : Addr} {fd : FuncData} (F : Fun K "write_datum" "write_datum" s_write_datum f fd) (Y : BnK mg) (gWr : ∃ u, mg "write_datum" = some u ∧ RelV (.ref f) u) (hK : KeyOk P w K mg base 3 f ktV) (hn5 : n ≤ 5) (hj : j ≤ k) (hk : 4 ≤ k)
    (cwrite_datum : Cal P w K mg base j "write_datum" spW []) (hW : ∀ m, n = m + 1 → spW = spWr K m) : FnOk P w K mg base CX0 (k + 1) f fd ["datum"] (spWr K n) := by
  refine F.ok sc_write_datum (fun vs H Q E h => ?_) (fun cdv A outer s H vs Q E hr h => ?_)
  · obtain ⟨v, d, rfl, _⟩ := h
    rfl
  · obtain ⟨v, d, rfl, hv, hn, hok, kQ⟩ := h
    have nd := sc_write_datum.nd
    have hrK : Room (3 + 1) (cxOf CX0 P w K mg base N_write_datum "write_datum" (defScope s_write_datum) f cdv A outer s H E).nox.A := hr.mono hk
    have hlen := wr_len5 (Nat.le_trans hn hn5) hok
    refine ⟨_, (pss_cons (ps_if (pt_cmpR op_isN (pv 0) pe_non (nomark _)) (pss_one (ps_ret pe_str)) pss_nil)
      (pss_cons (ps_if (pt_val (pe_callB call_isi (by rfl) Y.n_isinstance (by decide +kernel) (pa_cons (pv 0) (pa_cons (pe_bltn (v := .ty "bool") (by rfl) Y.n_bool (by decide +kernel) rfl) pa_nil)))) (pss_one (ps_ret (pe_ifExp (pt_val (pv 0)) pe_str pe_str))) pss_nil)
      (pss_cons (ps_if (pt_val (pe_callB call_isi (by rfl) Y.n_isinstance (by decide +kernel) (pa_cons (pv 0) (pa_cons (pe_bltn (v := .ty "int") (by rfl) Y.n_int (by decide +kernel) rfl) pa_nil)))) (pss_one (ps_ret (pe_fs (.cons pe_str (.cons (pe_fmt (pv 0)) (.cons pe_str .nil)))))) pss_nil)
      (pss_cons (ps_if (pt_val (pe_callB call_isi (by rfl) Y.n_isinstance (by decide +kernel) (pa_cons (pv 0) (pa_cons (pe_bltn (v := .ty "str") (by rfl) Y.n_str (by decide +kernel) rfl) pa_nil)))) (pss_one (ps_ret (pe_fs (.cons pe_str (.cons (pe_fmt (pe_callB call_lenS (by rfl) Y.n_len (by decide +kernel) (pa_cons (pv 0) pa_nil))) (.cons pe_str (.cons (pe_fmt (pv 0)) .nil))))))) pss_nil)
      (pss_cons (ps_if (pt_val (pe_callB call_isi (by rfl) Y.n_isinstance (by decide +kernel) (pa_cons (pv 0) (pa_cons (pe_bltn (v := .ty "dict") (by rfl) Y.n_dict (by decide +kernel) rfl) pa_nil)))) (pss_cons (ps_setLc (i := 2) (own := [("key", 1)]) (g := gName 1) (tt := tYes) (te := tOp rAddS (tCall spW [] C8.E0 (tCons (tVar 1) tNil)) (tCall spW [] C8.E0 (tCons (tDGet (tVar 0) (tVar 1)) tNil))) rfl nd rfl rfl (sw_true rfl rfl rfl (by decide +kernel)) (pi_list (pe_callBK (cr_sortKD rfl hrK) (by rfl) Y.n_sorted (by decide +kernel) (pa_cons (pv 0) pa_nil) (pk_cons (pe_gc rfl gWr) pk_nil))) (blkOk_by (own := [("key", 1)]) (N := N_write_datum) (sc := defScope s_write_datum) (by decide +kernel)) (fun _ _ _ _ _ => pg_name (i := 1) nd rfl (Or.inl rfl)) (fun _ _ _ _ _ => pts_nil) (fun _ _ _ _ _ => (pe_op op_addS (pe_c cwrite_datum hr (by omega) rfl (pa_cons (pv 1) pa_nil)) (pe_c cwrite_datum hr (by omega) rfl (pa_cons (pe_dget (hu_of hr) (pv 0) (pv 1) (fun _ _ => rfl)) pa_nil)))))
      (pss_one (ps_ret (pe_op op_addS (pe_op op_addS pe_str (pe_bm PySem.F.plainAttrs_str PySem.F.slot_str_join PySem.F.type_str_join mt_joinS pe_str (pa_cons (pv 2) pa_nil))) pe_str)))) pss_nil)
      (pss_cons (ps_set (i := 4) nd rfl (Or.inl rfl) (pe_bm PySem.F.plainAttrs_str PySem.F.slot_str_join PySem.F.type_str_join mt_joinS pe_str (pa_cons (pe_lc (own := [("part", 3)]) (g := gName 3) (tt := tYes) (te := (tCall spW [] C8.E0 (tCons (tVar 3) tNil))) rfl nd (pi_alt (pi_list (pv 0)) (pi_tup (pv 0))) (blkOk_by (own := [("part", 3)]) (N := N_write_datum) (sc := defScope s_write_datum) (by decide +kernel)) (fun _ _ _ _ _ => pg_name (i := 3) nd rfl (Or.inl rfl)) (fun _ _ _ _ _ => pts_nil) (fun _ _ _ _ _ => (pe_c cwrite_datum hr (by omega) rfl (pa_cons (pv 3) pa_nil)))) pa_nil)))
      (pss_cons (ps_if (pt_val (pe_callB call_isi (by rfl) Y.n_isinstance (by decide +kernel) (pa_cons (pv 0) (pa_cons (pe_bltn (v := .ty "tuple") (by rfl) Y.n_tuple (by decide +kernel) rfl) pa_nil)))) (pss_one (ps_ret (pe_fs (.cons pe_str (.cons (pe_fmt (pv 4)) (.cons pe_str .nil)))))) pss_nil)
      (pss_one (ps_ret (pe_fs (.cons pe_str (.cons (pe_fmt (pv 4)) (.cons pe_str .nil))))))))))))), ?_⟩
    rw [show L2.start N_write_datum [v] = [some v, none, none, none, none] from rfl]
    cases hv with
    | n =>
      rw [wr_n] at kQ
      walk_at "dd"
      exact kQ _ fun _ _ h => h
    | @b _ _ x =>
      rw [wr_b] at kQ
      walk_at "dd"
      cases x with
      | true =>
        walk_at "dd"
        exact kQ _ fun _ _ h => h
      | false =>
        walk_at "dd"
        exact kQ _ fun _ _ h => h
    | @i _ _ x =>
      rw [wr_i] at kQ
      have hx := ok_i.mp hok
      walk_at "dd"
      refine w_fs ?_
      refine w_fs1 ?_
      walk_at "dd"
      refine fs_T (a := [35]) (by decide) ?_
      refine w_fs1 ?_
      refine w_fmt ?_
      walk_at "dd"
      refine fmt_I hx ?_
      have hl := intL_len hx
      refine fs_T (by show 1 + _ ≤ _; omega) ?_
      refine w_fs1 ?_
      walk_at "dd"
      refine fs_T (a := [59]) (by rw [List.length_append]; show 1 + _ + 1 ≤ _; omega) ?_
      refine fs_end ?_
      exact kQ _ fun _ _ h => h
    | @s _ _ a =>
      rw [wr_s] at kQ
      have hx := (ok_s.mp hok).1
      walk_at "dd"
      refine w_fs ?_
      refine w_fs1 ?_
      walk_at "dd"
      refine fs_T (a := [34]) (by decide) ?_
      refine w_fs1 ?_
      refine w_fmt ?_
      walk_at "dd"
      refine w_lenS (by omega) ?_
      refine fmt_I (by rw [Int.natAbs_natCast]; omega) ?_
      rw [intL_nat]
      have hl := numL_len (n := a.length) (k := 3) (by decide) (by omega)
      refine fs_T (by show 1 + _ ≤ _; omega) ?_
      refine w_fs1 ?_
      walk_at "dd"
      refine fs_T (a := [58]) (by rw [List.length_append]; show 1 + _ + 1 ≤ _; omega) ?_
      refine w_fs1 ?_
      refine w_fmt ?_
      walk_at "dd"
      refine fmt_T (by omega) ?_
      refine fs_T (by simp; omega) ?_
      refine fs_end ?_
      have e : (([] ++ [34]) ++ numL a.length ++ [58]) ++ a = kyT (.inr a) := by unfold kyT; simp
      rw [show ([] ++ [34] : List Nat) ++ numL a.length ++ [58] ++ a = kyT (.inr a) from e]
      exact kQ _ fun _ _ h => h
    | @l _ _ p us xs _ hp hus =>
      rw [nest_l] at hn
      obtain ⟨m, rfl⟩ : ∃ m, n = m + 1 := ⟨n - 1, by omega⟩
      obtain ⟨h1, h2⟩ := ok_l.mp hok
      have eW := hW m rfl
      have hul := hus.length
      rw [wr_l, List.length_cons, List.length_append, List.length_singleton] at hlen
      rw [wr_l] at kQ
      have hfl : (xs.map wr).flatten.length ≤ 1000000 := by omega
      walk_at "dd"
      iterate 4
        refine isi_l (r := false) hp ?_
        walk_at "dd"
      refine ⟨rfl, ?_⟩
      walk_at "dd"
      refine w_lcA1 (w_lcL ?_)
      walk_at "dd"
      refine lcL_of hp ?_
      refine lc_texts (walk_list) (zs := xs.map wr) (by rw [List.length_map]; omega) (by rw [List.length_map]; omega) (fun H1 s => .inl (.inl (s _ _ hp))) (fun i z x H1 H2 Qs s1 hz y kz => ?_) fun D H1 hD s1 hD1 => ?_
      · obtain ⟨rfl, hx⟩ := y
        rw [List.getElem?_map] at hz
        obtain ⟨u, e, h3, h4, h5⟩ := hus.get (i := i) (by rw [← hul]; exact (List.getElem?_eq_some_iff.mp hx).1)
        rw [h3] at hx; cases hx
        rw [h4] at hz; cases hz
        have hm := List.mem_of_getElem? h4
        refine ⟨rfl, ?_⟩
        walk_at "dd"
        subst eW
        exact ⟨_, e, rfl, (h5.same s1).mono (fun _ _ => True.intro), by have := nests_mem hm; omega, h2 _ hm, kz⟩
      · walk_at "dd"
        refine w_join0 (.inl (.inl hD1)) hfl ?_
        walk_at "dd"
        refine isi_l (r := false) (s1 _ _ hp) ?_
        walk_at "dd"
        refine w_fs ?_
        refine w_fs1 ?_
        walk_at "dd"
        refine fs_T (a := [91]) (by decide) ?_
        refine w_fs1 ?_
        refine w_fmt ?_
        walk_at "dd"
        refine fmt_T (by omega) ?_
        refine fs_T (by show 1 + _ ≤ _; omega) ?_
        refine w_fs1 ?_
        walk_at "dd"
        refine fs_T (a := [93]) (by rw [List.length_append]; show 1 + _ + 1 ≤ _; omega) ?_
        refine fs_end ?_
        exact kQ _ s1
    | @t _ _ p us xs hp hus =>
      rw [nest_t] at hn
      obtain ⟨m, rfl⟩ : ∃ m, n = m + 1 := ⟨n - 1, by omega⟩
      obtain ⟨h1, h2⟩ := ok_t.mp hok
      have eW := hW m rfl
      have hul := hus.length
      rw [wr_t, List.length_cons, List.length_append, List.length_singleton] at hlen
      rw [wr_t] at kQ
      have hfl : (xs.map wr).flatten.length ≤ 1000000 := by omega
      walk_at "dd"
      repeat
        apply isi_t (r := false) hp
        walk_at "dd"
      refine ⟨rfl, ?_⟩
      walk_at "dd"
      refine w_lcA2 (w_lcTt ?_)
      walk_at "dd"
      refine ⟨p, rfl, ⟨us, hp⟩, ?_⟩
      refine lc_texts (walk_tup) (zs := xs.map wr) (by rw [List.length_map]; omega) (by rw [List.length_map]; omega) (fun H1 s => Same.sqT s hp) (fun i z x H1 H2 Qs s1 hz y kz => ?_) fun D H1 hD s1 hD1 => ?_
      · obtain ⟨rfl, hx⟩ := y
        rw [List.getElem?_map] at hz
        obtain ⟨u, e, h3, h4, h5⟩ := hus.get (i := i) (by rw [← hul]; exact (List.getElem?_eq_some_iff.mp hx).1)
        rw [h3] at hx; cases hx
        rw [h4] at hz; cases hz
        have hm := List.mem_of_getElem? h4
        refine ⟨rfl, ?_⟩
        walk_at "dd"
        subst eW
        exact ⟨_, e, rfl, (h5.same s1).mono (fun _ _ => True.intro), by have := nests_mem hm; omega, h2 _ hm, kz⟩
      · walk_at "dd"
        refine w_join0 (.inl (.inl hD1)) hfl ?_
        walk_at "dd"
        refine isi_t (r := true) (Same.sqT s1 hp) ?_
        walk_at "dd"
        refine w_fs ?_
        refine w_fs1 ?_
        walk_at "dd"
        refine fs_T (a := [40]) (by decide) ?_
        refine w_fs1 ?_
        refine w_fmt ?_
        walk_at "dd"
        refine fmt_T (by omega) ?_
        refine fs_T (by show 1 + _ ≤ _; omega) ?_
        refine w_fs1 ?_
        walk_at "dd"
        refine fs_T (a := [41]) (by rw [List.length_append]; show 1 + _ + 1 ≤ _; omega) ?_
        refine fs_end ?_
        exact kQ _ s1
    | @d _ _ p ks us xs _ hdp hl hus =>
      have hd : Rd H p (.dK (kvs ks us)) := .inl hdp
      rw [nest_d] at hn
      obtain ⟨m, rfl⟩ : ∃ m, n = m + 1 := ⟨n - 1, by omega⟩
      obtain ⟨h0, h1, hnd, h2, h3⟩ := ok_d.mp hok
      have eW := hW m rfl
      rw [wr_d, List.length_cons, List.length_append, List.length_singleton] at hlen
      rw [wr_d] at kQ
      rw [flatR_lk hnd h0] at hlen kQ
      have hfl : ((srtK ks).map fun k => kyT k ++ wr (lk ks xs k)).flatten.length ≤ 1000000 := by omega
      have hkl : (kvs ks us).map (fun p => kV p.1) = ks.map kyV := by
        rw [show (fun p : Key × V => kV p.1) = kV ∘ Prod.fst from rfl, ← List.map_map]
        unfold kvs
        rw [List.map_fst_zip (by simp [hl]), List.map_map]
        exact List.map_congr_left fun k _ => kyV_K k
      have hkt : ((kvs ks us).map fun p => ktV (kV p.1)) = (ks.map fun k => S (kyT k)).map some := by
        rw [show (fun p : Key × V => ktV (kV p.1)) = ktV ∘ (fun p => kV p.1) from rfl, ← List.map_map, hkl, List.map_map, List.map_map]
        exact List.map_congr_left fun k hk => ktV_k (h2 k hk)
      have hsl : (srtK ks).length = ks.length := (srtK_perm ks).length_eq
      walk_at "dd"
      iterate 3
        refine isi_d (r := false) hd ?_
        walk_at "dd"
      refine isi_d (r := true) hd ?_
      walk_at "dd"
      refine w_ckw ?_
      walk_at "dd"
      refine ⟨p, f, kvs ks us, ktV, ks.map fun k => S (kyT k), rfl, rfl, hd, hK, hkt, ?_, fun p2 B e1 e2 hp2 => ?_⟩
      · unfold kvs; rw [List.length_zip, List.length_map, ← hl]; omega
      rw [hkl] at e1
      rw [sorted_ky e1 e2]
      have s0 : Same H (upd H p2 (.lst ((srtK ks).map kyV))) := same_new0 hp2
      refine lcL_of upd_same ?_
      refine lc_texts walk_list (zs := (srtK ks).map fun k => kyT k ++ wr (lk ks xs k)) (by rw [List.length_map, List.length_map]) (by rw [List.length_map]; omega) (fun H1 s => .inl (.inl (s _ _ upd_same))) (fun i z x H1 H2 Qs s1 hz y kz => ?_) fun D H1 hD s1 hD1 => ?_
      · obtain ⟨rfl, hx⟩ := y
        rw [List.getElem?_map] at hz hx
        obtain ⟨k, hk⟩ : ∃ k, (srtK ks)[i]? = some k := by
          cases e : (srtK ks)[i]? with
          | none => rw [e] at hz; cases hz
          | some k => exact ⟨k, rfl⟩
        rw [hk] at hx hz
        cases hx; cases hz
        have hm : k ∈ ks := (srtK_perm ks).mem_iff.mp (List.mem_of_getElem? hk)
        have hm2 := lk_mem h0 hm
        obtain ⟨u, e3, h5⟩ := val_kvs hnd hl h0 hus hm
        have hs2 := Same.trans s0 s1
        refine ⟨rfl, ?_⟩
        walk_at "dd"
        subst eW
        obtain ⟨dk, hdk, hdw, hdn, hdo⟩ : ∃ dk, DtAt K (fun _ => True) H2 (kyV k) dk ∧ wr dk = kyT k ∧ nest dk = 0 ∧ Okd dk := by
          cases k with
          | inl x => exact ⟨.i x, .i, wr_i x, by unfold nest; rfl, ok_i.mpr (h2 _ hm)⟩
          | inr a => exact ⟨.s a, .s, wr_s a, by unfold nest; rfl, ok_s.mpr (h2 _ hm)⟩
        refine ⟨_, dk, rfl, hdk, by omega, hdo, fun H3 s3 => ?_⟩
        rw [hdw]
        refine w_dget ?_
        walk_at "dd"
        have hs3 := Same.trans hs2 s3
        refine ⟨p, u, rfl, .inl ⟨kvs ks us, kyK k, Rd.same hs3 hd, (kyV_K k).symm, e3.symm⟩, ?_⟩
        refine ⟨u, lk ks xs k, rfl, (h5.same hs3).mono (fun _ _ => True.intro), by have := nests_mem hm2; omega, h3 _ hm2, fun H4 s4 => ?_⟩
        have b1 := kyT_len (h2 k hm)
        have b2 := wr_len5 (d := lk ks xs k) (by have := nests_mem hm2; omega) (h3 _ hm2)
        refine w_addS (by omega) ?_
        exact kz _ (Same.trans s3 s4)
      · walk_at "dd"
        refine ⟨rfl, ?_⟩
        walk_at "dd"
        refine w_join0 (.inl (.inl hD1)) hfl ?_
        refine w_addS (a := [123]) (by show 1 + _ ≤ _; omega) ?_
        walk_at "dd"
        refine w_addS (b := [125]) (by rw [List.length_append]; show 1 + _ + 1 ≤ _; omega) ?_
        exact kQ _ (Same.trans s0 s1)
end
end
section
/-! The reader of data: its small methods. -/
open PySem PySem.Spec PyProof.Rows L2
open C8 (Cal Met Mak cal0 pe_c pe_gc pss_cut tCut pe_mt pe_mt0 pe_mk)
open TL (numL tl_num numL_digits numL_ne numL_val numL_len numL_lt numL_step numL_free numL_inj)

local macro_rules | `(tactic| walk_at "dd") => `(tactic| repeat (first
  | walk_at "r1c"
  | with_reducible refine w_dget ?_
  | with_reducible refine w_din ?_
  | with_reducible refine w_dnin ?_
  | with_reducible refine w_dput ?_
  | with_reducible refine w_ddel ?_
  | with_reducible refine w_lenSet ?_
  | with_reducible refine w_lcTt ?_
  | with_reducible refine cTe (by with_unfolding_all decide +kernel) ?_
  | with_reducible refine cTn (by with_unfolding_all decide +kernel) ?_
  | with_reducible refine cNe (by with_unfolding_all decide +kernel) ?_
  | with_reducible refine cNn (by with_unfolding_all decide +kernel) ?_
  | with_reducible refine w_par ?_
  | with_reducible refine w_raiseC ?_
  | with_reducible refine w_lcV ?_
  | with_reducible refine w_lcKk ?_
  | with_reducible refine w_lcZ ?_
  | with_reducible refine w_lcE ?_))

/-! ### one more object than R stands as it was -/
def Fz (R : Addr) (H H' : Hp) : Prop := Fr R H H' ∧ ∀ b, H' b = none → H b = none
theorem Fz.refl {R : Addr} {H : Hp} : Fz R H H := ⟨Fr.refl R H, fun _ h => h⟩
theorem Fz.trans {R : Addr} {H H1 H2 : Hp} (a : Fz R H H1) (b : Fz R H1 H2) : Fz R H H2 := ⟨a.1.trans b.1, fun x h => a.2 x (b.2 x h)⟩
theorem Fz.same {R : Addr} {H H1 : Hp} (s : Same H H1) : Fz R H H1 := ⟨Same.fr s, fun x h => Same.free s h⟩
/-- what the way out by the error asks -/
def ErrR (C : Addr) (E : XK) (R : Addr) (H : Hp) : Prop := ∀ H1, Fz R H H1 → ErrZ C E H1 2
theorem ErrR.mono {C R : Addr} {E : XK} {H H1 : Hp} (h : ErrR C E R H) (f : Fz R H H1) : ErrR C E R H1 := fun H2 g => h H2 (f.trans g)
section
variable {σ : L2.St} {H : Hp} {Q : VK} {D : Ends} {v x y : V} {ta tv : TE} {t : TA} {K : PySem.W.Frag} {f m : Str} {C r dx : Addr} {fs : List (Str × V)} {rd : V → V → Hp → VK → Prop} {G : Hp → Prop}
def OAug (K : PySem.W.Frag) (tv : TE) (rd : V → V → Hp → VK → Prop) (f : Str) (σ : L2.St) (x : V) (H : Hp) (G : Hp → Prop) : Prop := ∃ a C dx fs v, x = .ref a ∧ H a = some (.ins C dx fs) ∧ Cls K C ∧ NoAttr K C f ∧ fs.lookup f = some v ∧
  tv σ H fun y H2 => rd v y H2 fun z H3 => ∃ dx' fs', H3 a = some (.ins C dx' fs') ∧ fs'.length < 1000 ∧ G (upd H3 a (.ins C dx' (putF f z fs')))
theorem o_fldA (k : ta σ H fun x H1 => OAug K tv rd f σ x H1 fun H3 => D.nx σ H3) : sFldAug K ta tv rd f D σ H := k
theorem o_aug (h : H r = some (.ins C dx fs)) (c : Cls K C) (n : NoAttr K C f) (l : fs.lookup f = some v) (k : tv σ H fun y H2 => rd v y H2 fun z H3 => ∃ dx' fs', H3 r = some (.ins C dx' fs') ∧ fs'.length < 1000 ∧ G (upd H3 r (.ins C dx' (putF f z fs')))) : OAug K tv rd f σ (.ref r) H G := ⟨r, C, dx, fs, v, rfl, h, c, n, l, k⟩
theorem o_augE {a b : Int} (h : H r = some (.ins C dx fs)) (l : fs.length < 1000) (k : ∀ H3, H3 r = some (.ins C dx (putF f (.int (a + b)) fs)) → Fz r H H3 → G H3) :
    rAdd (.int a) (.int b) H fun z H3 => ∃ dx' fs', H3 r = some (.ins C dx' fs') ∧ fs'.length < 1000 ∧ G (upd H3 r (.ins C dx' (putF f z fs'))) :=
  ⟨a, b, rfl, rfl, dx, fs, h, l, k _ upd_same ⟨Fr.own, fun b e => by
    by_cases z : b = r
    · rw [z, upd_same] at e; cases e
    · rw [upd_ne z] at e; exact e⟩⟩
theorem o_setZ (h : H r = some (.ins C dx fs)) (c : Cls K C) (n : NoAttr K C f) (l : fs.length < 1000) (k : ∀ H3, H3 r = some (.ins C dx (putF f y fs)) → Fz r H H3 → G H3) : OSet K f y (.ref r) H G :=
  o_set h c n l fun H3 h1 h2 h3 => k H3 h1 ⟨fun b o nb e => h2 b o nb e, h3⟩
theorem w_raiseFil {C : Addr} {E : XK} {ta : TA} (k : ta σ H fun vs H1 => RaiseZ C E vs H1) : tRaiseFil C (fun cls d _ H => E cls d H) ta D σ H := k
/-- a comprehension over a text -/
theorem w_lcSt {te0 : TE} {g : TG} {tt : TT} {te : TE} {vs : List Nat} (k : te0 σ H fun x H1 => ∃ z, x = .str z ∧ LcJ (Its z) g tt te vs σ H1 Q) : tLc (iStr te0) g tt te vs σ H Q := k
theorem lc_vals {J : It} {n : Nat} {G : Hp → Prop} {Y : Nat → Hp → V → Hp → Prop} {g : TG} {te : TE} {vs : List Nat} (wk : Walk J n G Y) {zs : List V} (hz : zs.length = n) (hb : zs.length ≤ 1000) (hG : ∀ H1, Same H H1 → G H1)
    (hs : ∀ i z x H1 H2 (Qs : VK), Same H H1 → zs[i]? = some z → Y i H1 x H2 → (∀ H3, Same H1 H3 → Qs z H3) → g x (wipe σ vs) H2 fun σ2 H3 => wipe σ2 vs = wipe σ vs ∧ te σ2 H3 Qs)
    (hd : ∀ D H1, H D = none → Same H H1 → H1 D = some (.lst zs) → Q (.ref D) H1) : LcJ J g tYes te vs σ H Q := by
  refine lc_W wk (fun D i acc H1 => H D = none ∧ Same H H1 ∧ acc = zs.take i) (fun D H1 hD s _ => ⟨hD, s, rfl⟩) (fun D i acc H1 _ p => hG H1 p.2.1) (fun D i x acc H1 H2 hi hl hD ⟨hD0, s, ea⟩ y => ?_) fun D acc H1 _ hD1 ⟨hD0, s, ea⟩ => ?_
  · have hi' : i < zs.length := by omega
    have e : zs[i]? = some zs[i] := List.getElem?_eq_getElem hi'
    refine hs i zs[i] x H1 H2 _ s e y fun H3 s3 => ?_
    refine lc_keep (by rw [ea, List.length_take]; omega) (by omega) (s3 _ _ hD) fun H5 h5 b5 => ⟨hD0, same_of_but hD0 (Same.trans s s3) b5, ?_⟩
    rw [ea, List.take_succ, e]
    rfl
  · refine hd D H1 hD0 s ?_
    rw [hD1, ea, List.take_of_length_le (by omega)]
end
structure DrTx (K : PySem.W.Frag) (mg : Str → Option Value) (CR : Addr) : Prop where
  cr : Cls K CR
  n_text : NoAttr K CR "text"
  n_at : NoAttr K CR "at"
  c_NO_DATUM : ∃ u, mg "NO_DATUM" = some u ∧ RelV (.int 2) u
  c_MOST_DIGITS : ∃ u, mg "MOST_DIGITS" = some u ∧ RelV (.int 20) u
  c_DEEPEST : ∃ u, mg "DEEPEST" = some u ∧ RelV (.int 40) u
  c_DIGITS : ∃ u, mg "DIGITS" = some u ∧ RelV (T (cds "0123456789")) u
/-- a reader at the place p of a text -/
def Ra (CR dx R : Addr) (tx : List Nat) (p : Nat) (H : Hp) : Prop := H R = some (.ins CR dx [("text", T tx), ("at", .int (p : Int))])
section
variable {P : Program} {w : World} {K : PySem.W.Frag} {mg : Str → Option Value} {base : Heap} {C fI CR : Addr}
abbrev s_are_digits : Stmt := topS 11
abbrev N_are_digits : List Str := ["text", "character"]
theorem sc_are_digits : FnScope N_are_digits ["text"] (defScope s_are_digits) := ⟨rfl, rfl, rfl, by decide +kernel, rfl, by decide +kernel, by decide +kernel⟩
def spAreD : Sp := fun vs H Q _ => ∃ n : Nat, vs = [T (numL n)] ∧ n < 10 ^ 20 ∧ ∀ H', Same H H' → Q (.bl true) H'
theorem ok_are_digits {f : Addr} {fd : FuncData} (F : Fun K "_are_digits" "_are_digits" s_are_digits f fd) (Y : BnK mg) (Z : DrTx K mg CR) : FnOk P w K mg base CX0 1 f fd ["text"] spAreD := by
  refine F.ok sc_are_digits (fun vs H Q E h => ?_) (fun cdv A outer s H vs Q E hr h => ?_)
  · obtain ⟨n, rfl, _⟩ := h
    rfl
  · obtain ⟨n, rfl, hn, kQ⟩ := h
    have nd := sc_are_digits.nd
    have hl := numL_len (n := n) (k := 20) (by decide) hn
    refine ⟨_, (pss_cons (ps_if (PW.pt (pw_or (pt_cmpR op_eq (pv 0) pe_str (nomark _)) (pw_or1 (pt_not (pt_val (pe_callB (cr_all rfl) (by rfl) Y.n_all (by decide +kernel) (pa_cons (pe_lc (own := [("character", 1)]) (g := gName 1) (tt := tYes) rfl nd (pi_str (pv 0)) (blkOk_by (own := [("character", 1)]) (N := N_are_digits) (sc := defScope s_are_digits) (by decide +kernel)) (fun _ _ _ _ _ => pg_name (i := 1) nd rfl (Or.inl rfl)) (fun _ _ _ _ _ => pts_nil) (fun _ _ _ _ _ => (pe_cmpR op_inC (pv 1) (pe_gc rfl Z.c_DIGITS) (by rfl)))) pa_nil))))))) (pss_one (ps_ret pe_bl)) pss_nil)
      (pss_one (ps_ret (pe_or (pe_cmpR op_eq (pv 0) pe_str (nomark _)) (pe_one (pe_cmpR op_ne (pe_ix ix_str (pv 0) pe_int (fun _ _ => rfl)) pe_str (nomark _))))))), ?_⟩
    rw [show L2.start N_are_digits [T (numL n)] = [some (T (numL n)), none] from rfl]
    walk_at "dd"
    refine cTn (b := []) (numL_ne n) ?_
    walk_at "dd"
    refine w_lcSt ?_
    walk_at "dd"
    refine ⟨_, rfl, ?_⟩
    refine lc_vals walk_str (zs := List.replicate (numL n).length (.bl true)) (by rw [List.length_replicate]; simp) (by rw [List.length_replicate]; omega) (fun _ _ => True.intro) (fun i z x H1 H2 Qs s1 hz y kz => ?_) fun D H1 hD s1 hD1 => ?_
    · obtain ⟨rfl, c, hc, rfl⟩ := y
      rw [List.getElem?_replicate] at hz
      have hz : z = .bl true := by
        split at hz
        · exact (Option.some.inj hz).symm
        · cases hz
      subst hz
      have hc : (numL n)[i]? = some c := by simpa using hc
      have hm := List.mem_of_getElem? hc
      refine ⟨rfl, ?_⟩
      walk_at "dd"
      have hd := numL_digits n c hm
      have : c ∈ cds "0123456789" := by
        have h2 : 48 ≤ c ∧ c ≤ 57 := by
          first
            | exact hd
            | (simpa [NumText.isDigit] using hd)
        have e : cds "0123456789" = [48, 49, 50, 51, 52, 53, 54, 55, 56, 57] := by with_unfolding_all decide +kernel
        rw [e]
        simp
        omega
      rw [decide_eq_true this]
      exact kz _ fun _ _ h => h
    · refine ⟨D, List.replicate (numL n).length true, rfl, .inl (.inl (by rw [List.map_replicate]; exact hD1)), ?_⟩
      rw [show (List.replicate (numL n).length true).all id = true by simp]
      walk_at "dd"
      rcases numL_head1 (n := n) with e | e
      · refine cTe e ?_
        exact kQ _ s1
      · refine cTn (b := [48]) (fun z => e (by rw [z]; rfl)) ?_
        walk_at "dd"
        obtain ⟨c, l, ec⟩ : ∃ c l, numL n = c :: l := by
          cases hh : numL n with
          | nil => exact absurd hh (numL_ne n)
          | cons c l => exact ⟨c, l, rfl⟩
        refine w_ixS (c := c) (by omega) (by rw [ec]; exact atI_nat (j := 0) (xs := c :: l) rfl) ?_
        refine w_ne (by with_unfolding_all exact rfl) ?_
        rw [show (!decide (T [c] = V.str (Str.ofString "0"))) = true by
          rw [decide_eq_false (fun z => e (by rw [ec]; have z2 : T [c] = T [48] := z; have := T_inj z2; cases this; rfl))]; rfl]
        exact kQ _ s1
abbrev s_DatumReader___init__ : Stmt := inClass (topS 12) 0
abbrev N_DatumReader___init__ : List Str := ["self", "text"]
theorem sc_DatumReader___init__ : FnScope N_DatumReader___init__ ["self", "text"] (defScope s_DatumReader___init__) := ⟨rfl, rfl, rfl, by decide +kernel, rfl, by decide +kernel, by decide +kernel⟩
def spRinit (CR : Addr) : Sp := fun vs H Q E => ∃ R dx tx, vs = [.ref R, T tx] ∧ H R = some (.ins CR dx []) ∧ ∀ H', Ra CR dx R tx 0 H' → Fz R H H' → Q .non H'
theorem ok_init {f : Addr} {fd : FuncData} (F : Fun K "__init__" "DatumReader.__init__" s_DatumReader___init__ f fd) (Z : DrTx K mg CR) : FnOk P w K mg base CX0 1 f fd ["self", "text"] (spRinit CR) := by
  refine F.ok sc_DatumReader___init__ (fun vs H Q E h => ?_) (fun cdv A outer s H vs Q E hr h => ?_)
  · obtain ⟨R, dx, tx, rfl, _⟩ := h
    rfl
  · obtain ⟨R, dx, tx, rfl, hR, kQ⟩ := h
    have nd := sc_DatumReader___init__.nd
    refine ⟨_, (pss_cons (ps_fld (pv 0) (pv 1) rfl)
      (pss_one (ps_fld (pv 0) pe_int rfl))), ?_⟩
    rw [show L2.start N_DatumReader___init__ [.ref R, T tx] = [some (.ref R), some (T tx)] from rfl]
    walk_at "dd"
    refine o_setZ hR Z.cr Z.n_text (show (0 : Nat) < 1000 from by decide) fun H1 h1 f1 => ?_
    walk_at "dd"
    refine o_setZ h1 Z.cr Z.n_at (show (1 : Nat) < 1000 from by decide) fun H2 h2 f2 => ?_
    exact kQ _ h2 (f1.trans f2)
abbrev s_DatumReader_refuse : Stmt := inClass (topS 12) 1
abbrev N_DatumReader_refuse : List Str := ["self"]
theorem sc_DatumReader_refuse : FnScope N_DatumReader_refuse ["self"] (defScope s_DatumReader_refuse) := ⟨rfl, rfl, rfl, by decide +kernel, rfl, by decide +kernel, by decide +kernel⟩
def spRefu (C CR : Addr) : Sp := fun vs H Q E => ∃ R, vs = [.ref R] ∧ ErrR C E R H
theorem ok_refuse {f : Addr} {fd : FuncData} (F : Fun K "refuse" "DatumReader.refuse" s_DatumReader_refuse f fd) (Z : DrTx K mg CR) (T : PySem.FilX.FilTxt P K mg "FileError" C fI) : FnOk P w K mg base (L2.CX P w) 1 f fd ["self"] (spRefu C CR) := by
  refine F.okX sc_DatumReader_refuse (fun vs H Q E h => ?_) (fun cdv A outer s H vs Q E hr h => ?_)
  · obtain ⟨R, rfl, _⟩ := h
    rfl
  · obtain ⟨R, rfl, hE⟩ := h
    have nd := sc_DatumReader_refuse.nd
    refine ⟨_, (pss_one (ps_raiseFil rfl T hr tk_of (pa_cons (pe_gc rfl Z.c_NO_DATUM) pa_nil))), ?_⟩
    rw [show L2.start N_DatumReader_refuse [.ref R] = [some (.ref R)] from rfl]
    walk_at "dd"
    refine w_raiseFil ?_
    walk_at "dd"
    exact raise_Z (by decide) (hE H Fz.refl)
abbrev s_DatumReader_sign : Stmt := inClass (topS 12) 2
abbrev N_DatumReader_sign : List Str := ["self"]
theorem sc_DatumReader_sign : FnScope N_DatumReader_sign ["self"] (defScope s_DatumReader_sign) := ⟨rfl, rfl, rfl, by decide +kernel, rfl, by decide +kernel, by decide +kernel⟩
def spSign (CR : Addr) : Sp := fun vs H Q E => ∃ R dx tx p, vs = [.ref R] ∧ Ra CR dx R tx p H ∧ tx.length ≤ 1000000 ∧ Q (T ((tx.drop p).take 1)) H
theorem ok_sign {f : Addr} {fd : FuncData} (F : Fun K "sign" "DatumReader.sign" s_DatumReader_sign f fd) (Z : DrTx K mg CR) : FnOk P w K mg base CX0 1 f fd ["self"] (spSign CR) := by
  refine F.ok sc_DatumReader_sign (fun vs H Q E h => ?_) (fun cdv A outer s H vs Q E hr h => ?_)
  · obtain ⟨R, dx, tx, p, rfl, _⟩ := h
    rfl
  · obtain ⟨R, dx, tx, p, rfl, hR, hl, kQ⟩ := h
    have nd := sc_DatumReader_sign.nd
    refine ⟨_, (pss_one (ps_ret (pe_slice sl_str (pe_fld (pv 0) rfl) (po_some (pe_fld (pv 0) rfl)) (po_some (pe_op op_add (pe_fld (pv 0) rfl) pe_int))))), ?_⟩
    rw [show L2.start N_DatumReader_sign [.ref R] = [some (.ref R)] from rfl]
    walk_at "dd"
    refine o_fat hR Z.cr Z.n_text rfl ?_
    walk_at "dd"
    refine o_fat hR Z.cr Z.n_at rfl ?_
    walk_at "dd"
    refine o_fat hR Z.cr Z.n_at rfl ?_
    walk_at "dd"
    refine w_slS hl ?_
    rw [cut_one]
    exact kQ
abbrev s_DatumReader_accept : Stmt := inClass (topS 12) 3
abbrev N_DatumReader_accept : List Str := ["self", "sign"]
theorem sc_DatumReader_accept : FnScope N_DatumReader_accept ["self", "sign"] (defScope s_DatumReader_accept) := ⟨rfl, rfl, rfl, by decide +kernel, rfl, by decide +kernel, by decide +kernel⟩
def spAcc (CR : Addr) : Sp := fun vs H Q E => ∃ R dx tx p c, vs = [.ref R, T [c]] ∧ Ra CR dx R tx p H ∧ tx.length ≤ 1000000 ∧ (tx[p]? = some c → ∀ H', Ra CR dx R tx (p + 1) H' → Fz R H H' → Q (.bl true) H') ∧ (tx[p]? ≠ some c → Q (.bl false) H)
theorem drop1 {tx : List Nat} {p c : Nat} : (tx.drop p).take 1 = [c] ↔ tx[p]? = some c := by
  have e : tx[p]? = (tx.drop p)[0]? := by rw [List.getElem?_drop, Nat.add_zero]
  rw [e]
  cases tx.drop p with
  | nil => simp
  | cons a l => simp
theorem ok_accept {f : Addr} {fd : FuncData} (F : Fun K "accept" "DatumReader.accept" s_DatumReader_accept f fd) (Z : DrTx K mg CR) (m_sign : Met P w K mg base 1 CR "sign" (spSign CR) []) : FnOk P w K mg base CX0 2 f fd ["self", "sign"] (spAcc CR) := by
  refine F.ok sc_DatumReader_accept (fun vs H Q E h => ?_) (fun cdv A outer s H vs Q E hr h => ?_)
  · obtain ⟨R, dx, tx, p, c, rfl, _⟩ := h
    rfl
  · obtain ⟨R, dx, tx, p, c, rfl, hR, hl, kt, kf⟩ := h
    have nd := sc_DatumReader_accept.nd
    refine ⟨_, (pss_cons (ps_if (pt_cmpR op_ne (pe_mt0 m_sign hr (by omega) (pv 0)) (pv 1) (nomark _)) (pss_one (ps_ret pe_bl)) pss_nil)
      (pss_cons (ps_fldaug (pv 0) pe_int in_add)
      (pss_one (ps_ret pe_bl)))), ?_⟩
    rw [show L2.start N_DatumReader_accept [.ref R, T [c]] = [some (.ref R), some (T [c])] from rfl]
    walk_at "dd"
    refine o_mat hR rfl ?_
    walk_at "dd"
    refine ⟨R, dx, tx, p, rfl, hR, hl, ?_⟩
    walk_at "dd"
    by_cases e : tx[p]? = some c
    · refine cNe (drop1.mpr e) ?_
      walk_at "dd"
      refine o_fldA ?_
      walk_at "dd"
      refine o_aug hR Z.cr Z.n_at rfl ?_
      walk_at "dd"
      refine o_augE hR (show (2 : Nat) < 1000 from by decide) fun H1 h1 f1 => ?_
      walk_at "dd"
      exact kt e _ h1 f1
    · refine cNn (fun z => e (drop1.mp z)) ?_
      walk_at "dd"
      exact kf e
end
end
section
/-! The reader of data: numbers, strings. -/
open PySem PySem.Spec PyProof.Rows L2
open C8 (Cal Met Mak cal0 pe_c pe_gc pss_cut tCut pe_mt pe_mt0 pe_mk)
open TL (numL tl_num numL_digits numL_ne numL_val numL_len numL_lt numL_step numL_free numL_inj)

local macro_rules | `(tactic| walk_at "dd") => `(tactic| repeat (first
  | walk_at "r1c"
  | with_reducible refine w_dget ?_
  | with_reducible refine w_din ?_
  | with_reducible refine w_dnin ?_
  | with_reducible refine w_dput ?_
  | with_reducible refine w_ddel ?_
  | with_reducible refine w_lenSet ?_
  | with_reducible refine w_lcTt ?_
  | with_reducible refine cTe (by with_unfolding_all decide +kernel) ?_
  | with_reducible refine cTn (by with_unfolding_all decide +kernel) ?_
  | with_reducible refine cNe (by with_unfolding_all decide +kernel) ?_
  | with_reducible refine cNn (by with_unfolding_all decide +kernel) ?_
  | with_reducible refine w_par ?_
  | with_reducible refine w_raiseC ?_
  | with_reducible refine w_lcV ?_
  | with_reducible refine w_lcKk ?_
  | with_reducible refine w_lcZ ?_
  | with_reducible refine w_lcE ?_))

section
variable {P : Program} {w : World} {K : PySem.W.Frag} {mg : Str → Option Value} {base : Heap} {C fI CR : Addr}
theorem dropAt {tx : List Nat} {p j : Nat} : tx[p + j]? = (tx.drop p)[j]? := by rw [List.getElem?_drop]
abbrev s_DatumReader_digits : Stmt := inClass (topS 12) 5
abbrev N_DatumReader_digits : List Str := ["self", "end", "behind", "number"]
theorem sc_DatumReader_digits : FnScope N_DatumReader_digits ["self", "end"] (defScope s_DatumReader_digits) := ⟨rfl, rfl, rfl, by decide +kernel, rfl, by decide +kernel, by decide +kernel⟩
def spDig (C CR : Addr) : Sp := fun vs H Q E => ∃ R dx tx p c, vs = [.ref R, T [c]] ∧ Ra CR dx R tx p H ∧ tx.length ≤ 1000000 ∧ p ≤ tx.length ∧ (c < 48 ∨ 57 < c) ∧
  ((∃ n rest, tx.drop p = numL n ++ c :: rest ∧ n < 10 ^ 20 ∧ ∀ H', Ra CR dx R tx (p + ((numL n).length + 1)) H' → Fz R H H' → Q (.int (n : Int)) H') ∨ (c ∉ tx.drop p ∧ ErrR C E R H))
theorem ok_digits {f : Addr} {fd : FuncData} (F : Fun K "digits" "DatumReader.digits" s_DatumReader_digits f fd) (Y : BnK mg) (Z : DrTx K mg CR) (c_are_digits : Cal P w K mg base 1 "_are_digits" spAreD []) (m_refuse : MetX P w K mg base 1 CR "refuse" (spRefu C CR) []) :
    FnOk P w K mg base (L2.CX P w) 2 f fd ["self", "end"] (spDig C CR) := by
  refine F.okX sc_DatumReader_digits (fun vs H Q E h => ?_) (fun cdv A outer s H vs Q E hr h => ?_)
  · obtain ⟨R, dx, tx, p, c, rfl, _⟩ := h
    rfl
  · obtain ⟨R, dx, tx, p, c, rfl, hR, hl, hp, hc, alt⟩ := h
    have nd := sc_DatumReader_digits.nd
    refine ⟨_, (pss_cons (ps_set (i := 2) nd rfl (Or.inl rfl) (pe_bm PySem.F.plainAttrs_str PySem.F.slot_str_find PySem.F.type_str_find mt_findB (pe_fld (pv 0) rfl) (pa_cons (pv 1) (pa_cons (pe_fld (pv 0) rfl) (pa_cons (pe_op op_add (pe_op op_add (pe_fld (pv 0) rfl) (pe_gc rfl Z.c_MOST_DIGITS)) pe_int) pa_nil)))))
      (pss_cons (ps_if (PW.pt (pw_or (pt_cmpR op_lt (pv 2) pe_int (nomark _)) (pw_or1 (pt_not (pt_val (pe_c c_are_digits hr (by decide) rfl (pa_cons (pe_slice sl_str (pe_fld (pv 0) rfl) (po_some (pe_fld (pv 0) rfl)) (po_some (pv 2))) pa_nil))))))) (pss_one (ps_expr (pe_mx0 m_refuse hr (by omega) px_of (pv 0)))) pss_nil)
      (pss_cons (ps_set (i := 3) nd rfl (Or.inl rfl) (pe_callTy call_intS (by rfl) Y.n_int (by decide +kernel) (pa_cons (pe_slice sl_str (pe_fld (pv 0) rfl) (po_some (pe_fld (pv 0) rfl)) (po_some (pv 2))) pa_nil)))
      (pss_cons (ps_fld (pv 0) (pe_op op_add (pv 2) pe_int) rfl)
      (pss_one (ps_ret (pv 3))))))), ?_⟩
    rw [show L2.start N_DatumReader_digits [.ref R, T [c]] = [some (.ref R), some (T [c]), none, none] from rfl]
    walk_at "dd"
    refine o_fat hR Z.cr Z.n_text rfl ?_
    refine ⟨rfl, ?_⟩
    walk_at "dd"
    refine o_fat hR Z.cr Z.n_at rfl ?_
    walk_at "dd"
    refine o_fat hR Z.cr Z.n_at rfl ?_
    walk_at "dd"
    rcases alt with ⟨n, rest, hd, hn, kQ⟩ | ⟨hno, hE⟩
    · have hnl := numL_len (n := n) (k := 20) (by decide) hn
      have hk : tx[p + (numL n).length]? = some c := by rw [dropAt, hd]; simp
      have hkl := (List.getElem?_eq_some_iff.mp hk).1
      have hsl : cut tx (some (p : Int)) (some ((p + (numL n).length : Nat) : Int)) = numL n := by
        rw [cut_nat tx (by omega) (by omega), hd, Nat.add_sub_cancel_left]
        simp
      refine w_find4 (i := p) (j := p + 20 + 1) (k := p + (numL n).length) (by omega) (by omega) hk (fun m h1 h2 z => ?_) ?_
      · obtain ⟨j, rfl⟩ : ∃ j, m = p + j := ⟨m - p, by omega⟩
        rw [dropAt, hd, List.getElem?_append_left (by omega)] at z
        exact numL_free hc (List.mem_of_getElem? z)
      walk_at "dd"
      refine w_if (fun h => absurd h (by omega)) (fun _ => ?_)
      walk_at "dd"
      refine o_fat hR Z.cr Z.n_text rfl ?_
      walk_at "dd"
      refine o_fat hR Z.cr Z.n_at rfl ?_
      walk_at "dd"
      refine w_slS hl ?_
      rw [hsl]
      walk_at "dd"
      refine ⟨n, rfl, hn, fun H1 s1 => ?_⟩
      walk_at "dd"
      have hR1 : Ra CR dx R tx p H1 := s1 _ _ hR
      refine o_fat hR1 Z.cr Z.n_text rfl ?_
      walk_at "dd"
      refine o_fat hR1 Z.cr Z.n_at rfl ?_
      walk_at "dd"
      refine w_slS hl ?_
      rw [hsl]
      walk_at "dd"
      refine w_intD hn ?_
      walk_at "dd"
      refine o_setZ hR1 Z.cr Z.n_at (show (2 : Nat) < 1000 from by decide) fun H2 h2 f2 => ?_
      walk_at "dd"
      exact kQ _ h2 ((Fz.same s1).trans f2)
    · refine w_find4n hp (fun m h1 h2 z => ?_) ?_
      · obtain ⟨j, rfl⟩ : ∃ j, m = p + j := ⟨m - p, by omega⟩
        rw [dropAt] at z
        exact hno (List.mem_of_getElem? z)
      walk_at "dd"
      refine w_if (fun _ => ?_) (fun h => absurd (by decide) h)
      walk_at "dd"
      refine o_mat hR rfl ?_
      walk_at "dd"
      exact ⟨R, rfl, hE⟩
abbrev s_DatumReader_number : Stmt := inClass (topS 12) 6
abbrev N_DatumReader_number : List Str := ["self", "number"]
theorem sc_DatumReader_number : FnScope N_DatumReader_number ["self"] (defScope s_DatumReader_number) := ⟨rfl, rfl, rfl, by decide +kernel, rfl, by decide +kernel, by decide +kernel⟩
def spNumb (C CR : Addr) : Sp := fun vs H Q E => ∃ R dx tx p, ∃ x : Int, vs = [.ref R] ∧ Ra CR dx R tx p H ∧ tx.length ≤ 1000000 ∧ p ≤ tx.length ∧ x.natAbs < 10 ^ 20 ∧
  ((∃ rest, tx.drop p = intL x ++ 59 :: rest ∧ ∀ H', Ra CR dx R tx (p + ((intL x).length + 1)) H' → Fz R H H' → Q (.int x) H') ∨ (tx.drop p = intL x ∧ ErrR C E R H))
theorem ok_number {f : Addr} {fd : FuncData} (F : Fun K "number" "DatumReader.number" s_DatumReader_number f fd) (Y : BnK mg) (Z : DrTx K mg CR) (m_accept : Met P w K mg base 2 CR "accept" (spAcc CR) []) (m_digits : MetX P w K mg base 2 CR "digits" (spDig C CR) []) (m_refuse : MetX P w K mg base 1 CR "refuse" (spRefu C CR) []) :
    FnOk P w K mg base (L2.CX P w) 3 f fd ["self"] (spNumb C CR) := by
  refine F.okX sc_DatumReader_number (fun vs H Q E h => ?_) (fun cdv A outer s H vs Q E hr h => ?_)
  · obtain ⟨R, dx, tx, p, x, rfl, _⟩ := h
    rfl
  · obtain ⟨R, dx, tx, p, x, rfl, hR, hl, hp, hx, alt⟩ := h
    have nd := sc_DatumReader_number.nd
    refine ⟨_, (pss_cons (ps_if (pt_not (pt_val (pe_mt m_accept hr (by omega) (pv 0) (pa_cons pe_str pa_nil)))) (pss_one (ps_ret (pe_mx m_digits hr (by omega) px_of (pv 0) (pa_cons pe_str pa_nil)))) pss_nil)
      (pss_cons (ps_set (i := 1) nd rfl (Or.inl rfl) (pe_mx m_digits hr (by omega) px_of (pv 0) (pa_cons pe_str pa_nil)))
      (pss_cons (ps_if (pt_cmpR op_eq (pv 1) pe_int (nomark _)) (pss_one (ps_expr (pe_mx0 m_refuse hr (by omega) px_of (pv 0)))) pss_nil)
      (pss_one (ps_ret (pe_un un_neg (pv 1))))))), ?_⟩
    rw [show L2.start N_DatumReader_number [.ref R] = [some (.ref R), none] from rfl]
    walk_at "dd"
    refine o_mat hR rfl ?_
    walk_at "dd"
    by_cases hneg : x < 0
    · have hiL : intL x = 45 :: numL x.natAbs := by unfold intL; rw [if_pos hneg]
      rw [hiL] at alt
      have h45 : tx[p]? = some 45 := by
        rw [show p = p + 0 from rfl, dropAt]
        rcases alt with ⟨rest, hd, _⟩ | ⟨hd, _⟩
        · rw [hd]; rfl
        · rw [hd]; rfl
      have hlt := (List.getElem?_eq_some_iff.mp h45).1
      have hd1 : tx.drop (p + 1) = (tx.drop p).tail := by rw [List.tail_drop]
      refine ⟨R, dx, tx, p, 45, rfl, hR, hl, fun _ H1 h1 f1 => ?_, fun z => absurd h45 z⟩
      refine ⟨_, rfl, ?_⟩
      walk_at "dd"
      refine o_mat h1 rfl ?_
      walk_at "dd"
      refine ⟨R, dx, tx, p + 1, 59, rfl, h1, hl, by omega, by omega, ?_⟩
      rcases alt with ⟨rest, hd, kQ⟩ | ⟨hd, hE⟩
      · refine .inl ⟨x.natAbs, rest, by rw [hd1, hd]; rfl, hx, fun H2 h2 f2 => ?_⟩
        walk_at "dd"
        refine w_ifI (fun z => absurd z (by omega)) fun _ => ?_
        walk_at "dd"
        have e : -((x.natAbs : Nat) : Int) = x := by omega
        rw [e]
        refine kQ _ ?_ (f1.trans f2)
        rw [List.length_cons]
        have : p + ((numL x.natAbs).length + 1 + 1) = p + 1 + ((numL x.natAbs).length + 1) := by omega
        rw [this]
        exact h2
      · refine .inr ⟨?_, hE.mono f1⟩
        rw [hd1, hd]
        exact numL_free (by omega)
    · have hiL : intL x = numL x.natAbs := by unfold intL; rw [if_neg hneg]
      rw [hiL] at alt
      have h45 : tx[p]? ≠ some 45 := fun z => by
        rw [show p = p + 0 from rfl, dropAt] at z
        have : 45 ∈ numL x.natAbs := by
          obtain ⟨c, l, ec⟩ : ∃ c l, numL x.natAbs = c :: l := by
            cases hh : numL x.natAbs with
            | nil => exact absurd hh (numL_ne _)
            | cons c l => exact ⟨c, l, rfl⟩
          rcases alt with ⟨rest, hd, _⟩ | ⟨hd, _⟩
          · rw [hd, ec] at z; rw [ec]; cases z; exact List.mem_cons_self
          · rw [hd, ec] at z; rw [ec]; cases z; exact List.mem_cons_self
        exact numL_free (by omega) this
      refine ⟨R, dx, tx, p, 45, rfl, hR, hl, fun z => absurd z h45, fun _ => ?_⟩
      refine ⟨_, rfl, ?_⟩
      walk_at "dd"
      refine o_mat hR rfl ?_
      walk_at "dd"
      refine ⟨R, dx, tx, p, 59, rfl, hR, hl, hp, by omega, ?_⟩
      rcases alt with ⟨rest, hd, kQ⟩ | ⟨hd, hE⟩
      · refine .inl ⟨x.natAbs, rest, hd, hx, fun H2 h2 f2 => ?_⟩
        walk_at "dd"
        have e : ((x.natAbs : Nat) : Int) = x := by omega
        rw [e]
        exact kQ _ h2 f2
      · refine .inr ⟨?_, hE⟩
        rw [hd]
        exact numL_free (by omega)
abbrev s_DatumReader_string : Stmt := inClass (topS 12) 7
abbrev N_DatumReader_string : List Str := ["self", "length", "found"]
theorem sc_DatumReader_string : FnScope N_DatumReader_string ["self"] (defScope s_DatumReader_string) := ⟨rfl, rfl, rfl, by decide +kernel, rfl, by decide +kernel, by decide +kernel⟩
def spStrg (C CR : Addr) : Sp := fun vs H Q E => ∃ R dx tx p, ∃ a : List Nat, vs = [.ref R] ∧ Ra CR dx R tx p H ∧ tx.length ≤ 1000000 ∧ p ≤ tx.length ∧ a.length ≤ 100 ∧ 10 ∉ a ∧
  ((∃ rest, tx.drop p = numL a.length ++ 58 :: (a ++ rest) ∧ ∀ H', Ra CR dx R tx (p + ((numL a.length).length + 1 + a.length)) H' → Fz R H H' → Q (T a) H') ∨ (tx.drop p = (numL a.length ++ 58 :: a).dropLast ∧ ErrR C E R H))
theorem ok_string {f : Addr} {fd : FuncData} (F : Fun K "string" "DatumReader.string" s_DatumReader_string f fd) (Y : BnK mg) (Z : DrTx K mg CR) (m_digits : MetX P w K mg base 2 CR "digits" (spDig C CR) []) (m_refuse : MetX P w K mg base 1 CR "refuse" (spRefu C CR) []) :
    FnOk P w K mg base (L2.CX P w) 3 f fd ["self"] (spStrg C CR) := by
  refine F.okX sc_DatumReader_string (fun vs H Q E h => ?_) (fun cdv A outer s H vs Q E hr h => ?_)
  · obtain ⟨R, dx, tx, p, a, rfl, _⟩ := h
    rfl
  · obtain ⟨R, dx, tx, p, a, rfl, hR, hl, hp, ha, h10, alt⟩ := h
    have nd := sc_DatumReader_string.nd
    refine ⟨_, (pss_cons (ps_set (i := 1) nd rfl (Or.inl rfl) (pe_mx m_digits hr (by omega) px_of (pv 0) (pa_cons pe_str pa_nil)))
      (pss_cons (ps_set (i := 2) nd rfl (Or.inl rfl) (pe_slice sl_str (pe_fld (pv 0) rfl) (po_some (pe_fld (pv 0) rfl)) (po_some (pe_op op_add (pe_fld (pv 0) rfl) (pv 1)))))
      (pss_cons (ps_if (PW.pt (pw_or (pt_cmpR op_lt (pe_callB call_lenS (by rfl) Y.n_len (by decide +kernel) (pa_cons (pv 2) pa_nil)) (pv 1) (nomark _)) (pw_or1 (pt_cmpR op_inC pe_str (pv 2) (by rfl))))) (pss_one (ps_expr (pe_mx0 m_refuse hr (by omega) px_of (pv 0)))) pss_nil)
      (pss_cons (ps_fldaug (pv 0) (pv 1) in_add)
      (pss_one (ps_ret (pv 2))))))), ?_⟩
    rw [show L2.start N_DatumReader_string [.ref R] = [some (.ref R), none, none] from rfl]
    walk_at "dd"
    refine o_mat hR rfl ?_
    walk_at "dd"
    refine ⟨R, dx, tx, p, 58, rfl, hR, hl, hp, by omega, ?_⟩
    have h20 : a.length < 10 ^ 20 := Nat.lt_of_le_of_lt ha (by decide)
    rcases alt with ⟨rest, hd, kQ⟩ | ⟨hd, hE⟩
    · have hlen := congrArg List.length hd
      simp only [List.length_drop, List.length_append, List.length_cons] at hlen
      refine .inl ⟨a.length, a ++ rest, hd, h20, fun H1 h1 f1 => ?_⟩
      walk_at "dd"
      refine o_fat h1 Z.cr Z.n_text rfl ?_
      walk_at "dd"
      refine o_fat h1 Z.cr Z.n_at rfl ?_
      walk_at "dd"
      refine o_fat h1 Z.cr Z.n_at rfl ?_
      walk_at "dd"
      refine w_slS hl ?_
      have hcut : cut tx (some ((p + ((numL a.length).length + 1) : Nat) : Int)) (some (((p + ((numL a.length).length + 1) : Nat) : Int) + (a.length : Int))) = a := by
        rw [show ((p + ((numL a.length).length + 1) : Nat) : Int) + (a.length : Int) = ((p + ((numL a.length).length + 1) + a.length : Nat) : Int) by omega]
        rw [cut_nat tx (by omega) (by omega), Nat.add_sub_cancel_left, ← List.drop_drop, hd]
        rw [show numL a.length ++ 58 :: (a ++ rest) = (numL a.length ++ [58]) ++ (a ++ rest) by simp]
        rw [List.drop_left' (by simp)]
        simp
      rw [hcut]
      walk_at "dd"
      refine w_lenS (by omega) ?_
      walk_at "dd"
      refine w_if (fun h => absurd h (by omega)) (fun _ => ?_)
      walk_at "dd"
      refine w_inC (c := 10) ?_
      refine ⟨_, rfl, ?_⟩
      rw [decide_eq_false h10]
      walk_at "dd"
      refine o_fldA ?_
      walk_at "dd"
      refine o_aug h1 Z.cr Z.n_at rfl ?_
      walk_at "dd"
      refine o_augE h1 (show (2 : Nat) < 1000 from by decide) fun H2 h2 f2 => ?_
      walk_at "dd"
      refine kQ _ ?_ (f1.trans f2)
      unfold Ra
      rw [h2, show (((p + ((numL a.length).length + 1 + a.length) : Nat)) : Int) = ((p + ((numL a.length).length + 1) : Nat) : Int) + (a.length : Int) by omega]
      rfl
    · by_cases h0 : a = []
      · subst h0
        refine .inr ⟨?_, hE⟩
        rw [hd, List.dropLast_concat]
        exact numL_free (by omega)
      · have hdl : (numL a.length ++ 58 :: a).dropLast = numL a.length ++ 58 :: a.dropLast := by
          rw [show numL a.length ++ 58 :: a = (numL a.length ++ [58]) ++ a by simp, List.dropLast_append_of_ne_nil h0]
          simp
        rw [hdl] at hd
        have hlen := congrArg List.length hd
        simp only [List.length_drop, List.length_append, List.length_cons, List.length_dropLast] at hlen
        have ha0 : 0 < a.length := List.length_pos_iff.mpr h0
        refine .inl ⟨a.length, a.dropLast, hd, h20, fun H1 h1 f1 => ?_⟩
        walk_at "dd"
        refine o_fat h1 Z.cr Z.n_text rfl ?_
        walk_at "dd"
        refine o_fat h1 Z.cr Z.n_at rfl ?_
        walk_at "dd"
        refine o_fat h1 Z.cr Z.n_at rfl ?_
        walk_at "dd"
        refine w_slS hl ?_
        have hcl : (cut tx (some ((p + ((numL a.length).length + 1) : Nat) : Int)) (some (((p + ((numL a.length).length + 1) : Nat) : Int) + (a.length : Int)))).length < a.length := by
          unfold cut
          rw [List.length_take, List.length_drop]
          have e1 : HT.sIx tx.length 0 (some ((p + ((numL a.length).length + 1) : Nat) : Int)) = p + ((numL a.length).length + 1) := by
            have hq : p + ((numL a.length).length + 1) ≤ tx.length := by omega
            unfold HT.sIx
            generalize p + ((numL a.length).length + 1) = q at hq ⊢
            simp
            rw [if_neg (by omega)]
            omega
          rw [e1]
          omega
        generalize cut tx (some ((p + ((numL a.length).length + 1) : Nat) : Int)) (some (((p + ((numL a.length).length + 1) : Nat) : Int) + (a.length : Int))) = u at hcl ⊢
        walk_at "dd"
        refine w_lenS (by omega) ?_
        walk_at "dd"
        refine w_if (fun _ => ?_) (fun h => absurd h (by omega))
        walk_at "dd"
        refine o_mat h1 rfl ?_
        walk_at "dd"
        exact ⟨R, rfl, hE.mono f1⟩
end
end
section
/-! The reader of data: parts, pairs. -/
open PySem PySem.Spec PyProof.Rows L2
open C8 (Cal Met Mak cal0 pe_c pe_gc pss_cut tCut pe_mt pe_mt0 pe_mk)
open TL (numL tl_num numL_digits numL_ne numL_val numL_len numL_lt numL_step numL_free numL_inj)

local macro_rules | `(tactic| walk_at "dd") => `(tactic| repeat (first
  | walk_at "r1c"
  | with_reducible refine w_dget ?_
  | with_reducible refine w_din ?_
  | with_reducible refine w_dnin ?_
  | with_reducible refine w_dput ?_
  | with_reducible refine w_ddel ?_
  | with_reducible refine w_lenSet ?_
  | with_reducible refine w_lcTt ?_
  | with_reducible refine cTe (by with_unfolding_all decide +kernel) ?_
  | with_reducible refine cTn (by with_unfolding_all decide +kernel) ?_
  | with_reducible refine cNe (by with_unfolding_all decide +kernel) ?_
  | with_reducible refine cNn (by with_unfolding_all decide +kernel) ?_
  | with_reducible refine w_par ?_
  | with_reducible refine w_raiseC ?_
  | with_reducible refine w_lcV ?_
  | with_reducible refine w_lcKk ?_
  | with_reducible refine w_lcZ ?_
  | with_reducible refine w_lcE ?_))

def kyD : Ky → Dt
  | .inl x => .i x
  | .inr a => .s a
theorem wr_kyD (k : Ky) : wr (kyD k) = kyT k := by cases k with
  | inl x => exact wr_i x
  | inr a => exact wr_s a
theorem nest_kyD (k : Ky) : nest (kyD k) = 0 := by cases k <;> (unfold kyD nest; rfl)
theorem ok_kyD {k : Ky} (h : KyOk k) : Okd (kyD k) := by cases k with
  | inl x => exact ok_i.mpr h
  | inr a => exact ok_s.mpr h
/-- a datum read: told alike, as deep at most -/
structure Ak (d d' : Dt) : Prop where
  wr : wr d' = wr d
  nest : nest d' ≤ nest d
  ok : Okd d'
  ky : ∀ k, d = kyD k → d' = d
theorem Ak.refl {d : Dt} (h : Okd d) : Ak d d := ⟨rfl, Nat.le_refl _, h, fun _ _ => rfl⟩
inductive Aks : List Dt → List Dt → Prop where
  | nil : Aks [] []
  | cons {d e : Dt} {ds es : List Dt} : Ak d e → Aks ds es → Aks (d :: ds) (e :: es)
theorem Aks.snoc : ∀ {ds es : List Dt} {d e : Dt}, Aks ds es → Ak d e → Aks (ds ++ [d]) (es ++ [e])
  | _, _, _, _, .nil, h => .cons h .nil
  | _, _, _, _, .cons h r, g => .cons h (Aks.snoc r g)
theorem Aks.len : ∀ {ds es : List Dt}, Aks ds es → es.length = ds.length
  | _, _, .nil => rfl
  | _, _, .cons _ r => by rw [List.length_cons, List.length_cons, Aks.len r]
theorem Aks.wrs : ∀ {ds es : List Dt}, Aks ds es → es.map wr = ds.map wr
  | _, _, .nil => rfl
  | _, _, .cons h r => by rw [List.map_cons, List.map_cons, Aks.wrs r, h.wr]
theorem Aks.nests : ∀ {ds es : List Dt}, Aks ds es → nests es ≤ nests ds
  | _, _, .nil => Nat.le_refl _
  | _, _, .cons h r => by unfold Lv.nests; have h1 := h.nest; have h2 := Aks.nests r; omega
theorem Aks.oks : ∀ {ds es : List Dt}, Aks ds es → ∀ x ∈ es, Okd x
  | _, _, .nil, x, h => nomatch h
  | _, _, .cons h r, x, hx => (List.mem_cons.mp hx).elim (fun e => by rw [e]; exact h.ok) (Aks.oks r x)
section
variable {P : Program} {w : World} {K : PySem.W.Frag} {mg : Str → Option Value} {base : Heap} {C fI CR : Addr}
def spDat (K : PySem.W.Frag) (C CR : Addr) (n : Nat) : Sp := fun vs H Q E => ∃ R dx tx p, ∃ (dep : Nat) (d : Dt), vs = [.ref R, .int (dep : Int)] ∧ Ra CR dx R tx p H ∧ tx.length ≤ 1000000 ∧ p ≤ tx.length ∧ nest d ≤ n ∧ dep + nest d ≤ 40 ∧ Okd d ∧
  ((∃ rest, tx.drop p = wr d ++ rest ∧ ∀ v d' H', DtAt K (fun q => H q = none) H' v d' → Ak d d' → Ra CR dx R tx (p + (wr d).length) H' → Fz R H H' → Q v H') ∨ (tx.drop p = (wr d).dropLast ∧ ErrR C E R H))
theorem Ra.len {dx R : Addr} {tx a b : List Nat} {p : Nat} (hp : p ≤ tx.length) (h : tx.drop p = a ++ b) : p + a.length ≤ tx.length ∧ tx.drop (p + a.length) = b := by
  constructor
  · have := congrArg List.length h
    simp at this
    omega
  · rw [← List.drop_drop, h, List.drop_left]
abbrev s_DatumReader_parts : Stmt := inClass (topS 12) 8
abbrev N_DatumReader_parts : List Str := ["self", "end", "depth", "found"]
theorem sc_DatumReader_parts : FnScope N_DatumReader_parts ["self", "end", "depth"] (defScope s_DatumReader_parts) := ⟨rfl, rfl, rfl, by decide +kernel, rfl, by decide +kernel, by decide +kernel⟩
def spPar (K : PySem.W.Frag) (C CR : Addr) (n : Nat) : Sp := fun vs H Q E => ∃ R dx tx p c, ∃ (dep : Nat) (xs : List Dt), vs = [.ref R, T [c], .int (dep : Int)] ∧ Ra CR dx R tx p H ∧ tx.length ≤ 1000000 ∧ p ≤ tx.length ∧ c ∉ [78, 84, 70, 35, 34, 91, 40, 123] ∧ xs.length ≤ 3 ∧ dep ≤ 40 ∧ (∀ x ∈ xs, nest x ≤ n ∧ dep + nest x ≤ 40 ∧ Okd x) ∧
  ((∃ rest, tx.drop p = (xs.map wr).flatten ++ c :: rest ∧ ∀ l us ds H', H l = none → H' l = some (.lst us) → DtsAt K (fun q => H q = none ∧ q ≠ l) H' us ds → Aks xs ds → Ra CR dx R tx (p + ((xs.map wr).flatten.length + 1)) H' → Fz R H H' → Q (.ref l) H') ∨ (tx.drop p = (xs.map wr).flatten ∧ ErrR C E R H))
theorem ok_parts {f : Addr} {fd : FuncData} {n j k : Nat} (F : Fun K "parts" "DatumReader.parts" s_DatumReader_parts f fd) (Y : BnK mg) (Z : DrTx K mg CR) (hj : j ≤ k) (hk : 2 ≤ k) (m_accept : Met P w K mg base 2 CR "accept" (spAcc CR) []) (m_datum : MetX P w K mg base j CR "datum" (spDat K C CR n) []) :
    FnOk P w K mg base (L2.CX P w) (k + 1) f fd ["self", "end", "depth"] (spPar K C CR n) := by
  refine F.okX sc_DatumReader_parts (fun vs H Q E h => ?_) (fun cdv A outer s H vs Q E hr h => ?_)
  · obtain ⟨R, dx, tx, p, c, dep, xs, rfl, _⟩ := h
    rfl
  · obtain ⟨R, dx, tx, p, c, dep, xs, rfl, hR, hl, hp, hc, hx3, hd40, hxs, alt⟩ := h
    have nd := sc_DatumReader_parts.nd
    refine ⟨_, (pss_cons (ps_set (i := 3) nd rfl (Or.inl rfl) (pe_lst pa_nil))
      (pss_cons (ps_while po_of (pt_not (pt_val (pe_mt m_accept hr (by omega) (pv 0) (pa_cons (pv 1) pa_nil)))) (pss_one (ps_expr (pe_bm PySem.F.plainAttrs_list PySem.F.slot_list_append PySem.F.type_list_append mt_append (pv 3) (pa_cons (pe_mx m_datum hr (by omega) px_of (pv 0) (pa_cons (pv 2) pa_nil)) pa_nil)))))
      (pss_one (ps_ret (pv 3))))), ?_⟩
    rw [show L2.start N_DatumReader_parts [.ref R, T [c], .int (dep : Int)] = [some (.ref R), some (T [c]), some (.int (dep : Int)), none] from rfl]
    walk_at "dd"
    refine w_newL (by decide) fun l H0 hl0 s0 hl1 => ?_
    walk_at "dd"
    have hlR : l ≠ R := fun z => by rw [z, show H R = _ from hR] at hl0; cases hl0
    refine ⟨fun m σ' H' => ∃ (i : Nat) (us : List V) (ds : List Dt), σ' = [some (.ref R), some (T [c]), some (.int (dep : Int)), some (.ref l)] ∧ i ≤ xs.length ∧ m = xs.length - i ∧ H' l = some (.lst us) ∧ DtsAt K (fun q => H q = none ∧ q ≠ l) H' us ds ∧ Aks (xs.take i) ds ∧ Ra CR dx R tx (p + ((xs.take i).map wr).flatten.length) H' ∧ Fz R H H',
      ⟨xs.length, 0, [], [], rfl, Nat.zero_le _, rfl, hl1, .nil, .nil, s0 _ _ hR, Fz.same s0⟩, ?_⟩
    rintro m σ' H1 ⟨i, us, ds, rfl, hi, rfl, h1, hds, hal, hR1, f1⟩
    walk_at "dd"
    refine o_mat hR1 rfl ?_
    walk_at "dd"
    generalize hpi : p + ((xs.take i).map wr).flatten.length = pi at hR1
    have hsp : (xs.map wr).flatten = ((xs.take i).map wr).flatten ++ ((xs.drop i).map wr).flatten := by
      rw [← List.flatten_append, ← List.map_append, List.take_append_drop]
    have hus : us.length ≤ 3 := by rw [hds.length, hal.len, List.length_take]; omega
    by_cases hlt : i < xs.length
    · obtain ⟨x, hx⟩ : ∃ x, xs[i]? = some x := ⟨_, List.getElem?_eq_getElem hlt⟩
      have hm := List.mem_of_getElem? hx
      obtain ⟨b1, b2, b3⟩ := hxs x hm
      have hdr : xs.drop i = x :: xs.drop (i + 1) := by
        rw [List.drop_eq_getElem_cons hlt]
        congr 1
        rw [List.getElem?_eq_getElem hlt] at hx
        exact Option.some.inj hx
      obtain ⟨rest, hrest⟩ : ∃ rest, tx.drop pi = wr x ++ rest ∧ pi ≤ tx.length := by
        rw [hsp, hdr, List.map_cons, List.flatten_cons] at alt
        rcases alt with ⟨rest, hd, _⟩ | ⟨hd, _⟩
        · rw [List.append_assoc] at hd
          obtain ⟨q1, q2⟩ := Ra.len (dx := dx) (R := R) hp hd
          rw [hpi] at q1 q2
          exact ⟨_, by rw [q2, List.append_assoc], q1⟩
        · obtain ⟨q1, q2⟩ := Ra.len (dx := dx) (R := R) hp hd
          rw [hpi] at q1 q2
          exact ⟨_, q2, q1⟩
      obtain ⟨ch, r, e, hch⟩ := wr_head x
      have hne : tx[pi]? ≠ some c := fun z => by
        rw [show pi = pi + 0 from rfl, dropAt, hrest.1, e] at z
        cases z
        exact hc hch
      refine ⟨R, dx, tx, pi, c, rfl, hR1, hl, fun z => absurd z hne, fun _ => ?_⟩
      refine ⟨_, rfl, ?_⟩
      walk_at "dd"
      refine ⟨fun σ' H' => ∃ (us : List V) (ds : List Dt), σ' = [some (.ref R), some (T [c]), some (.int (dep : Int)), some (.ref l)] ∧ H' l = some (.lst us) ∧ DtsAt K (fun q => H q = none ∧ q ≠ l) H' us ds ∧ Aks (xs.take (i + 1)) ds ∧ Ra CR dx R tx (p + ((xs.take (i + 1)).map wr).flatten.length) H' ∧ Fz R H H',
        fun σ' H' ⟨us, ds, e1, e2, e3, e4, e5, e6⟩ => ⟨xs.length - (i + 1), by omega, i + 1, us, ds, e1, hlt, rfl, e2, e3, e4, e5, e6⟩, ?_⟩
      walk_at "dd"
      refine ⟨tyL (SqL.of h1), ?_⟩
      walk_at "dd"
      refine o_mat hR1 rfl ?_
      walk_at "dd"
      refine ⟨R, dx, tx, pi, dep, x, rfl, hR1, hl, hrest.2, b1, b2, b3, .inl ⟨rest, hrest.1, fun v d' H2 hv hd' h2 f2 => ?_⟩⟩
      walk_at "dd"
      have h2l : H2 l = some (.lst us) := f2.1 _ _ hlR h1
      refine w_append h2l (by omega) ?_
      have nt1 : NoTup H1 R := ⟨_, hR1, (fun _ e => nomatch e), (fun _ _ e => nomatch e)⟩
      have nt2 : NoTup H2 l := ⟨_, h2l, (fun _ e => nomatch e), (fun _ _ e => nomatch e)⟩
      have nR : ∀ q, H q = none → q ≠ R := fun q e z => by rw [z, show H R = _ from hR] at e; cases e
      have hds2 : DtsAt K (fun q => H q = none ∧ q ≠ l) H2 us ds := hds.but (fun q hq => nR q hq.1) nt1 f2.1
      have hv2 : DtAt K (fun q => H q = none ∧ q ≠ l) H2 v d' := hv.mono fun q hq => ⟨f1.2 q hq, fun z => by rw [z, h1] at hq; cases hq⟩
      have hup : ∀ b o, b ≠ l → H2 b = some o → upd H2 l (.lst (us ++ [v])) b = some o := fun b o n e => by rw [upd_ne n]; exact e
      have htk : xs.take (i + 1) = xs.take i ++ [x] := by rw [List.take_succ, hx]; rfl
      refine ⟨us ++ [v], ds ++ [d'], rfl, upd_same, (hds2.snoc hv2).but (fun q hq => hq.2) nt2 hup, by rw [htk]; exact hal.snoc hd', ?_, ⟨fun b o n e => hup b o (fun z => by rw [z, hl0] at e; cases e) (f2.1 b o n (f1.1 b o n e)), fun b e => ?_⟩⟩
      · have e : p + ((xs.take (i + 1)).map wr).flatten.length = pi + (wr x).length := by
          rw [htk, List.map_append, List.flatten_append, List.length_append, ← hpi]
          simp
          omega
        rw [e]
        exact hup _ _ (fun z => hlR z.symm) h2
      · by_cases z : b = l
        · rw [z]; exact hl0
        · rw [upd_ne z] at e; exact f1.2 b (f2.2 b e)
    · have hie : i = xs.length := by omega
      subst hie
      rw [List.take_length] at hpi hal
      have f1' := f1
      rcases alt with ⟨rest, hd, kQ⟩ | ⟨hd, hE⟩
      · obtain ⟨q1, q2⟩ := Ra.len (dx := dx) (R := R) hp hd
        rw [hpi] at q1 q2
        have hc0 : tx[pi]? = some c := by
          rw [show pi = pi + 0 from rfl, dropAt, q2]; rfl
        refine ⟨R, dx, tx, pi, c, rfl, hR1, hl, fun _ H2 h2 f2 => ?_, fun z => absurd hc0 z⟩
        refine ⟨_, rfl, ?_⟩
        walk_at "dd"
        have nt1 : NoTup H1 R := ⟨_, hR1, (fun _ e => nomatch e), (fun _ _ e => nomatch e)⟩
        have nR : ∀ q, H q = none → q ≠ R := fun q e z => by rw [z, show H R = _ from hR] at e; cases e
        refine kQ l us ds H2 hl0 (f2.1 _ _ hlR h1) (hds.but (fun q hq => nR q hq.1) nt1 f2.1) hal ?_ (f1.trans f2)
        rw [show p + ((xs.map wr).flatten.length + 1) = pi + 1 by omega]
        exact h2
      · have hd0 : tx.drop p = (xs.map wr).flatten ++ [] := by rw [List.append_nil]; exact hd
        obtain ⟨q1, q2⟩ := Ra.len (dx := dx) (R := R) hp hd0
        rw [hpi] at q1 q2
        have hc0 : tx[pi]? ≠ some c := fun z => by
          rw [show pi = pi + 0 from rfl, dropAt, q2] at z; cases z
        refine ⟨R, dx, tx, pi, c, rfl, hR1, hl, fun z => absurd z hc0, fun _ => ?_⟩
        refine ⟨_, rfl, ?_⟩
        walk_at "dd"
        refine ⟨fun _ _ => False, fun _ _ h => h.elim, ?_⟩
        walk_at "dd"
        refine ⟨tyL (SqL.of h1), ?_⟩
        walk_at "dd"
        refine o_mat hR1 rfl ?_
        walk_at "dd"
        exact ⟨R, dx, tx, pi, dep, .n, rfl, hR1, hl, q1, by unfold nest; omega, by unfold nest; omega, by unfold Okd; trivial, .inr ⟨by rw [q2, wr_n]; rfl, hE.mono f1⟩⟩
end
end
section
/-! The reader of data: pairs. -/
open PySem PySem.Spec PyProof.Rows L2
open C8 (Cal Met Mak cal0 pe_c pe_gc pss_cut tCut pe_mt pe_mt0 pe_mk)
open TL (numL tl_num numL_digits numL_ne numL_val numL_len numL_lt numL_step numL_free numL_inj)

local macro_rules | `(tactic| walk_at "dd") => `(tactic| repeat (first
  | walk_at "r1c"
  | with_reducible refine w_dget ?_
  | with_reducible refine w_din ?_
  | with_reducible refine w_dnin ?_
  | with_reducible refine w_dput ?_
  | with_reducible refine w_ddel ?_
  | with_reducible refine w_lenSet ?_
  | with_reducible refine w_lcTt ?_
  | with_reducible refine cTe (by with_unfolding_all decide +kernel) ?_
  | with_reducible refine cTn (by with_unfolding_all decide +kernel) ?_
  | with_reducible refine cNe (by with_unfolding_all decide +kernel) ?_
  | with_reducible refine cNn (by with_unfolding_all decide +kernel) ?_
  | with_reducible refine w_par ?_
  | with_reducible refine w_raiseC ?_
  | with_reducible refine w_lcV ?_
  | with_reducible refine w_lcKk ?_
  | with_reducible refine w_lcZ ?_
  | with_reducible refine w_lcE ?_))

section
variable {P : Program} {w : World} {K : PySem.W.Frag} {mg : Str → Option Value} {base : Heap} {C fI CR : Addr}
def rowT (r : Ky × Dt) : List Nat := kyT r.1 ++ wr r.2
theorem kyT_head (k : Ky) : ∃ c l, kyT k = c :: l ∧ (c = 35 ∨ c = 34) := by
  cases k with
  | inl x => exact ⟨35, _, rfl, .inl rfl⟩
  | inr a => exact ⟨34, _, rfl, .inr rfl⟩
theorem val_none {ks : List Ky} {us : List V} {k : Ky} (h : k ∉ ks) : valV (kvs ks us) (kyK k) = none := by
  unfold kvs
  induction ks generalizing us with
  | nil => rfl
  | cons a ks ih =>
    cases us with
    | nil => rfl
    | cons u us =>
      rw [List.map_cons, List.zip_cons_cons, valV_neg fun e => h (by rw [kyK_inj e]; exact List.mem_cons_self)]
      exact ih fun z => h (List.mem_cons_of_mem _ z)
theorem kvs_snoc {ks : List Ky} {us : List V} {k : Ky} {u : V} (h : ks.length = us.length) : kvs (ks ++ [k]) (us ++ [u]) = kvs ks us ++ [(kyK k, u)] := by
  unfold kvs
  rw [List.map_append, List.zip_append (by simp [h])]
  rfl
theorem DtAt.ky {A : Addr → Prop} {H : Hp} {v : V} {k : Ky} (h : DtAt K A H v (kyD k)) : v = kyV k := by
  cases k with
  | inl x => cases h; rfl
  | inr a => cases h; rfl
abbrev s_DatumReader_pairs : Stmt := inClass (topS 12) 9
abbrev N_DatumReader_pairs : List Str := ["self", "depth", "found", "last", "start", "key", "told"]
theorem sc_DatumReader_pairs : FnScope N_DatumReader_pairs ["self", "depth"] (defScope s_DatumReader_pairs) := ⟨rfl, rfl, rfl, by decide +kernel, rfl, by decide +kernel, by decide +kernel⟩
def spPai (K : PySem.W.Frag) (C CR : Addr) (n : Nat) : Sp := fun vs H Q E => ∃ R dx tx p, ∃ (dep : Nat) (rs : List (Ky × Dt)), vs = [.ref R, .int (dep : Int)] ∧ Ra CR dx R tx p H ∧ tx.length ≤ 1000000 ∧ p ≤ tx.length ∧ rs.length ≤ 3 ∧ dep ≤ 40 ∧ (∀ r ∈ rs, KyOk r.1 ∧ nest r.2 ≤ n ∧ dep + nest r.2 ≤ 40 ∧ Okd r.2) ∧ (rs.Pairwise fun r q => kyT r.1 < kyT q.1) ∧
  ((∃ rest, tx.drop p = (rs.map rowT).flatten ++ 125 :: rest ∧ ∀ l us ds H', H l = none → H' l = some (.dK (kvs (rs.map (·.1)) us)) → rs.length = us.length → DtsAt K (fun q => H q = none ∧ q ≠ l) H' us ds → Aks (rs.map (·.2)) ds → Ra CR dx R tx (p + ((rs.map rowT).flatten.length + 1)) H' → Fz R H H' → Q (.ref l) H') ∨ (tx.drop p = (rs.map rowT).flatten ∧ ErrR C E R H))
theorem ok_pairs {f : Addr} {fd : FuncData} {n j k : Nat} (F : Fun K "pairs" "DatumReader.pairs" s_DatumReader_pairs f fd) (Y : BnK mg) (Z : DrTx K mg CR) (hj : j ≤ k) (hk : 2 ≤ k) (m_accept : Met P w K mg base 2 CR "accept" (spAcc CR) []) (m_sign : Met P w K mg base 1 CR "sign" (spSign CR) []) (m_refuse : MetX P w K mg base 1 CR "refuse" (spRefu C CR) []) (m_datum : MetX P w K mg base j CR "datum" (spDat K C CR n) []) :
    FnOk P w K mg base (L2.CX P w) (k + 1) f fd ["self", "depth"] (spPai K C CR n) := by
  refine F.okX sc_DatumReader_pairs (fun vs H Q E h => ?_) (fun cdv A outer s H vs Q E hr h => ?_)
  · obtain ⟨R, dx, tx, p, dep, rs, rfl, _⟩ := h
    rfl
  · obtain ⟨R, dx, tx, p, dep, rs, rfl, hR, hl, hp, hx3, hd40, hrs, hpw, alt⟩ := h
    have nd := sc_DatumReader_pairs.nd
    refine ⟨_, (pss_cons (ps_set (i := 2) nd rfl (Or.inl rfl) pe_dnewK)
      (pss_cons (ps_set (i := 3) nd rfl (Or.inl rfl) pe_str)
      (pss_cons (ps_while po_of (pt_not (pt_val (pe_mt m_accept hr (by omega) (pv 0) (pa_cons pe_str pa_nil)))) (pss_cons (ps_set (i := 4) nd rfl (Or.inl rfl) (pe_fld (pv 0) rfl))
      (pss_cons (ps_if (PW.pt (pw_and (pt_cmpR op_ne (pe_mt0 m_sign hr (by omega) (pv 0)) pe_str (nomark _)) (pw_and1 (pt_cmpR op_ne (pe_mt0 m_sign hr (by omega) (pv 0)) pe_str (nomark _))))) (pss_one (ps_expr (pe_mx0 m_refuse hr (by omega) px_of (pv 0)))) pss_nil)
      (pss_cons (ps_set (i := 5) nd rfl (Or.inl rfl) (pe_mx m_datum hr (by omega) px_of (pv 0) (pa_cons (pv 1) pa_nil)))
      (pss_cons (ps_set (i := 6) nd rfl (Or.inl rfl) (pe_slice sl_str (pe_fld (pv 0) rfl) (po_some (pv 4)) (po_some (pe_fld (pv 0) rfl))))
      (pss_cons (ps_if (pt_cmpR op_leT (pv 6) (pv 3) (nomark _)) (pss_one (ps_expr (pe_mx0 m_refuse hr (by omega) px_of (pv 0)))) pss_nil)
      (pss_cons (ps_set (i := 3) nd rfl (Or.inl rfl) (pv 6))
      (pss_one (ps_dput (hu_of hr) (pv 2) (pv 5) (pe_mx m_datum hr (by omega) px_of (pv 0) (pa_cons (pv 1) pa_nil)) rfl)))))))))
      (pss_one (ps_ret (pv 2)))))), ?_⟩
    rw [show L2.start N_DatumReader_pairs [.ref R, .int (dep : Int)] = [some (.ref R), some (.int (dep : Int)), none, none, none, none, none] from rfl]
    walk_at "dd"
    refine w_dnew fun l H0 hl0 s0 hl1 => ?_
    walk_at "dd"
    have hlR : l ≠ R := fun z => by rw [z, show H R = _ from hR] at hl0; cases hl0
    refine ⟨fun m σ' H' => ∃ (i : Nat) (us : List V) (ds : List Dt) (la : List Nat) (x y z : Option V), σ' = [some (.ref R), some (.int (dep : Int)), some (.ref l), some (T la), x, y, z] ∧ i ≤ rs.length ∧ m = rs.length - i ∧ H' l = some (.dK (kvs ((rs.take i).map (·.1)) us)) ∧ us.length = i ∧ (∀ r ∈ rs.drop i, la < kyT r.1) ∧ DtsAt K (fun q => H q = none ∧ q ≠ l) H' us ds ∧ Aks ((rs.take i).map (·.2)) ds ∧ Ra CR dx R tx (p + ((rs.take i).map rowT).flatten.length) H' ∧ Fz R H H',
      ⟨rs.length, 0, [], [], [], none, none, none, rfl, Nat.zero_le _, rfl, hl1, rfl, fun r _ => ?_, .nil, .nil, s0 _ _ hR, Fz.same s0⟩, ?_⟩
    · obtain ⟨c, l, e, _⟩ := kyT_head r.1
      rw [e]
      exact List.nil_lt_cons _ _
    rintro m σ' H1 ⟨i, us, ds, la, x, y, z, rfl, hi, rfl, h1, hul, hla, hds, hal, hR1, f1⟩
    walk_at "dd"
    refine o_mat hR1 rfl ?_
    walk_at "dd"
    generalize hpi : p + ((rs.take i).map rowT).flatten.length = pi at hR1
    have hsp : (rs.map rowT).flatten = ((rs.take i).map rowT).flatten ++ ((rs.drop i).map rowT).flatten := by
      rw [← List.flatten_append, ← List.map_append, List.take_append_drop]
    have nt1 : NoTup H1 R := ⟨_, hR1, (fun _ e => nomatch e), (fun _ _ e => nomatch e)⟩
    have nR : ∀ q, H q = none → q ≠ R := fun q e z => by rw [z, show H R = _ from hR] at e; cases e
    by_cases hlt : i < rs.length
    · obtain ⟨⟨ky, x⟩, hx⟩ : ∃ r, rs[i]? = some r := ⟨_, List.getElem?_eq_getElem hlt⟩
      have hm := List.mem_of_getElem? hx
      obtain ⟨b0, b1, b2, b3⟩ := hrs _ hm
      have hdr : rs.drop i = (ky, x) :: rs.drop (i + 1) := by
        rw [List.drop_eq_getElem_cons hlt]
        congr 1
        rw [List.getElem?_eq_getElem hlt] at hx
        exact Option.some.inj hx
      have htk : rs.take (i + 1) = rs.take i ++ [(ky, x)] := by rw [List.take_succ, hx]; rfl
      obtain ⟨rest, hrest, hpl⟩ : ∃ rest, tx.drop pi = kyT ky ++ (wr x ++ rest) ∧ pi ≤ tx.length := by
        rw [hsp, hdr, List.map_cons, List.flatten_cons] at alt
        unfold rowT at alt
        rcases alt with ⟨rest, hd, _⟩ | ⟨hd, _⟩
        · rw [List.append_assoc] at hd
          obtain ⟨q1, q2⟩ := Ra.len (dx := dx) (R := R) hp hd
          rw [show p + ((rs.take i).map fun r => kyT r.1 ++ wr r.2).flatten.length = pi from hpi] at q1 q2
          exact ⟨_, by rw [q2, List.append_assoc, List.append_assoc], q1⟩
        · obtain ⟨q1, q2⟩ := Ra.len (dx := dx) (R := R) hp hd
          rw [show p + ((rs.take i).map fun r => kyT r.1 ++ wr r.2).flatten.length = pi from hpi] at q1 q2
          exact ⟨_, by rw [q2, List.append_assoc], q1⟩
      obtain ⟨ch, r, e, hch⟩ := kyT_head ky
      have hs1 : (tx.drop pi).take 1 = [ch] := by rw [hrest, e]; rfl
      have hne : tx[pi]? ≠ some 125 := fun z => by
        rw [show pi = pi + 0 from rfl, dropAt, hrest, e] at z
        cases z
        rcases hch with h | h <;> cases h
      refine ⟨R, dx, tx, pi, 125, rfl, hR1, hl, fun z => absurd z hne, fun _ => ?_⟩
      refine ⟨_, rfl, ?_⟩
      walk_at "dd"
      refine ⟨fun σ' H' => ∃ (us : List V) (ds : List Dt) (la : List Nat) (x y z : Option V), σ' = [some (.ref R), some (.int (dep : Int)), some (.ref l), some (T la), x, y, z] ∧ H' l = some (.dK (kvs ((rs.take (i + 1)).map (·.1)) us)) ∧ us.length = i + 1 ∧ (∀ r ∈ rs.drop (i + 1), la < kyT r.1) ∧ DtsAt K (fun q => H q = none ∧ q ≠ l) H' us ds ∧ Aks ((rs.take (i + 1)).map (·.2)) ds ∧ Ra CR dx R tx (p + ((rs.take (i + 1)).map rowT).flatten.length) H' ∧ Fz R H H',
        fun σ' H' ⟨us, ds, la, x, y, z, e1, e2, e3, e4, e5, e6, e7, e8⟩ => ⟨rs.length - (i + 1), by omega, i + 1, us, ds, la, x, y, z, e1, hlt, rfl, e2, e3, e4, e5, e6, e7, e8⟩, ?_⟩
      walk_at "dd"
      refine o_fat hR1 Z.cr Z.n_at rfl ?_
      walk_at "dd"
      refine o_mat hR1 rfl ?_
      walk_at "dd"
      refine ⟨R, dx, tx, pi, rfl, hR1, hl, ?_⟩
      rw [hs1]
      obtain ⟨g1, g2⟩ := Ra.len (dx := dx) (R := R) hpl hrest
      have hkd : wr (kyD ky) = kyT ky := wr_kyD ky
      have hlk : la < kyT ky := hla (ky, x) (by rw [hdr]; exact List.mem_cons_self)
      have hnk : ky ∉ (rs.take i).map (·.1) := fun z => by
        obtain ⟨r, hr1, hr2⟩ := List.mem_map.mp z
        have hpw2 : (rs.take i ++ rs.drop i).Pairwise fun r q => kyT r.1 < kyT q.1 := by rw [List.take_append_drop]; exact hpw
        have := (List.pairwise_append.mp hpw2).2.2 r hr1 (ky, x) (by rw [hdr]; exact List.mem_cons_self)
        rw [hr2] at this
        exact absurd this (List.lt_irrefl _)
      have hti : ((rs.take i).map (·.1)).length = i := by rw [List.length_map, List.length_take]; omega
      rcases hch with rfl | rfl
      all_goals
        walk_at "dd"
        try
          refine o_mat hR1 rfl ?_
          walk_at "dd"
          refine ⟨R, dx, tx, pi, rfl, hR1, hl, ?_⟩
          rw [hs1]
          walk_at "dd"
        refine o_mat hR1 rfl ?_
        walk_at "dd"
        refine ⟨R, dx, tx, pi, dep, kyD ky, rfl, hR1, hl, hpl, by rw [nest_kyD]; omega, by rw [nest_kyD]; omega, ok_kyD b0, .inl ⟨wr x ++ rest, by rw [hkd]; exact hrest, fun v d' H2 hv hd' h2 f2 => ?_⟩⟩
        rw [hd'.ky ky rfl] at hv
        have ev := hv.ky
        subst ev
        rw [hkd] at h2
        walk_at "dd"
        refine o_fat h2 Z.cr Z.n_text rfl ?_
        walk_at "dd"
        refine o_fat h2 Z.cr Z.n_at rfl ?_
        walk_at "dd"
        refine w_slS hl ?_
        rw [cut_nat tx (by omega) (by omega), Nat.add_sub_cancel_left, hrest, List.take_left]
        walk_at "dd"
        rw [decide_eq_true hlk]
        walk_at "dd"
        refine o_mat h2 rfl ?_
        walk_at "dd"
        refine ⟨R, dx, tx, pi + (kyT ky).length, dep, x, rfl, h2, hl, g1, b1, b2, b3, .inl ⟨rest, g2, fun v2 d2 H3 hv2 hd2 h3 f3 => ?_⟩⟩
        walk_at "dd"
        have f12 : Fz R H1 H3 := f2.trans f3
        have h3l : H3 l = some (.dK (kvs ((rs.take i).map (·.1)) us)) := f12.1 _ _ hlR h1
        refine ⟨l, upd H3 l (.dK (putK (kvs ((rs.take i).map (·.1)) us) (kyK ky) v2)), rfl, by rw [← kyV_K]; exact DPut.k h3l (by unfold kvs; rw [List.length_zip, List.length_map, hti, hul, Nat.min_self]; exact Nat.lt_of_le_of_lt (show i ≤ 3 by omega) (by decide)), ?_⟩
        rw [putK_new _ (val_none hnk), ← kvs_snoc (by rw [hti, hul])]
        have nt3 : NoTup H3 l := ⟨_, h3l, (fun _ e => nomatch e), (fun _ _ e => nomatch e)⟩
        have hds2 : DtsAt K (fun q => H q = none ∧ q ≠ l) H3 us ds := hds.but (fun q hq => nR q hq.1) nt1 f12.1
        have hv3 : DtAt K (fun q => H q = none ∧ q ≠ l) H3 v2 d2 := hv2.mono fun q hq => ⟨f1.2 q (f2.2 q hq), fun z => by rw [z, f2.1 _ _ hlR h1] at hq; cases hq⟩
        generalize hH4 : upd H3 l (.dK (kvs ((rs.take i).map (·.1) ++ [ky]) (us ++ [v2]))) = H4
        have hup : ∀ b o, b ≠ l → H3 b = some o → H4 b = some o := fun b o n e => by rw [← hH4, upd_ne n]; exact e
        refine ⟨us ++ [v2], ds ++ [d2], kyT ky, _, _, _, rfl, by rw [htk, List.map_append, ← hH4]; exact upd_same, by rw [List.length_append, hul]; rfl, fun r hr => ?_, (hds2.snoc hv3).but (fun q hq => hq.2) nt3 hup, by rw [htk, List.map_append]; exact hal.snoc hd2, ?_, ⟨fun b o n e => hup b o (fun z => by rw [z, hl0] at e; cases e) (f12.1 b o n (f1.1 b o n e)), fun b e => ?_⟩⟩
        · have hpw2 : ((ky, x) :: rs.drop (i + 1)).Pairwise fun r q => kyT r.1 < kyT q.1 := by
            rw [← hdr]; exact hpw.drop
          exact (List.pairwise_cons.mp hpw2).1 r hr
        · have e : p + ((rs.take (i + 1)).map rowT).flatten.length = pi + (kyT ky).length + (wr x).length := by
            rw [htk, List.map_append, List.flatten_append, List.length_append, ← hpi]
            simp [rowT]
            omega
          rw [e]
          exact hup _ _ (fun z => hlR z.symm) h3
        · by_cases z : b = l
          · rw [z]; exact hl0
          · rw [← hH4, upd_ne z] at e; exact f1.2 b (f12.2 b e)
    · have hie : i = rs.length := by omega
      subst hie
      rw [List.take_length] at hpi hal h1
      rcases alt with ⟨rest, hd, kQ⟩ | ⟨hd, hE⟩
      · obtain ⟨q1, q2⟩ := Ra.len (dx := dx) (R := R) hp hd
        rw [hpi] at q1 q2
        have hc0 : tx[pi]? = some 125 := by
          rw [show pi = pi + 0 from rfl, dropAt, q2]; rfl
        refine ⟨R, dx, tx, pi, 125, rfl, hR1, hl, fun _ H2 h2 f2 => ?_, fun z => absurd hc0 z⟩
        refine ⟨_, rfl, ?_⟩
        walk_at "dd"
        refine kQ l us ds H2 hl0 (f2.1 _ _ hlR h1) hul.symm (hds.but (fun q hq => nR q hq.1) nt1 f2.1) hal ?_ (f1.trans f2)
        rw [show p + ((rs.map rowT).flatten.length + 1) = pi + 1 by omega]
        exact h2
      · have hd0 : tx.drop p = (rs.map rowT).flatten ++ [] := by rw [List.append_nil]; exact hd
        obtain ⟨q1, q2⟩ := Ra.len (dx := dx) (R := R) hp hd0
        rw [hpi] at q1 q2
        have hc0 : tx[pi]? ≠ some 125 := fun z => by
          rw [show pi = pi + 0 from rfl, dropAt, q2] at z; cases z
        have hs1 : (tx.drop pi).take 1 = [] := by rw [q2]; rfl
        refine ⟨R, dx, tx, pi, 125, rfl, hR1, hl, fun z => absurd z hc0, fun _ => ?_⟩
        refine ⟨_, rfl, ?_⟩
        walk_at "dd"
        refine ⟨fun _ _ => False, fun _ _ h => h.elim, ?_⟩
        walk_at "dd"
        refine o_fat hR1 Z.cr Z.n_at rfl ?_
        walk_at "dd"
        refine o_mat hR1 rfl ?_
        walk_at "dd"
        refine ⟨R, dx, tx, pi, rfl, hR1, hl, ?_⟩
        rw [hs1]
        walk_at "dd"
        refine o_mat hR1 rfl ?_
        walk_at "dd"
        refine ⟨R, dx, tx, pi, rfl, hR1, hl, ?_⟩
        rw [hs1]
        walk_at "dd"
        refine o_mat hR1 rfl ?_
        walk_at "dd"
        exact ⟨R, rfl, hE.mono f1⟩
end
end
section
/-! The reader of data: a datum; a text read. -/
open PySem PySem.Spec PyProof.Rows L2
open C8 (Cal Met Mak cal0 pe_c pe_gc pss_cut tCut pe_mt pe_mt0 pe_mk)
open TL (numL tl_num numL_digits numL_ne numL_val numL_len numL_lt numL_step numL_free numL_inj)

local macro_rules | `(tactic| walk_at "dd") => `(tactic| repeat (first
  | walk_at "r1c"
  | with_reducible refine w_dget ?_
  | with_reducible refine w_din ?_
  | with_reducible refine w_dnin ?_
  | with_reducible refine w_dput ?_
  | with_reducible refine w_ddel ?_
  | with_reducible refine w_lenSet ?_
  | with_reducible refine w_lcTt ?_
  | with_reducible refine cTe (by with_unfolding_all decide +kernel) ?_
  | with_reducible refine cTn (by with_unfolding_all decide +kernel) ?_
  | with_reducible refine cNe (by with_unfolding_all decide +kernel) ?_
  | with_reducible refine cNn (by with_unfolding_all decide +kernel) ?_
  | with_reducible refine w_par ?_
  | with_reducible refine w_raiseC ?_
  | with_reducible refine w_lcV ?_
  | with_reducible refine w_lcKk ?_
  | with_reducible refine w_lcZ ?_
  | with_reducible refine w_lcE ?_))

def ctab : List (List Nat × V) := [([78], .non), ([84], .bl true), ([70], .bl false)]
structure DcTx (K : PySem.W.Frag) (mg : Str → Option Value) (CR dC : Addr) : Prop extends DrTx K mg CR where
  c_CONSTANTS : ∃ u, mg "CONSTANTS" = some u ∧ RelV (.ref dC) u
theorem Ak.l {xs ds : List Dt} (h : Aks xs ds) (h3 : xs.length ≤ 3) : Ak (.l xs) (.l ds) := ⟨by rw [wr_l, wr_l, h.wrs], by rw [nest_l, nest_l]; have := h.nests; omega, ok_l.mpr ⟨by rw [h.len]; exact h3, h.oks⟩, fun k e => by cases k <;> cases e⟩
theorem Ak.t {xs ds : List Dt} (h : Aks xs ds) (h3 : xs.length ≤ 3) : Ak (.t xs) (.t ds) := ⟨by rw [wr_t, wr_t, h.wrs], by rw [nest_t, nest_t]; have := h.nests; omega, ok_t.mpr ⟨by rw [h.len]; exact h3, h.oks⟩, fun k e => by cases k <;> cases e⟩
theorem Ak.d {ks : List Ky} {vs ds : List Dt} (hok : Okd (.d ks vs)) (h : Aks ((srtK ks).map (lk ks vs)) ds) : Ak (.d ks vs) (.d (srtK ks) ds) := by
  obtain ⟨h0, h1, hnd, h2, h3⟩ := ok_d.mp hok
  have hp := srtK_perm ks
  refine ⟨?_, ?_, ok_d.mpr ⟨by rw [h.len, List.length_map], by rw [hp.length_eq]; exact h1, hp.nodup_iff.mpr hnd, fun k hk => h2 k (hp.mem_iff.mp hk), h.oks⟩, fun k e => by cases k <;> cases e⟩
  · have e : ((srtK ks).map kyT).zip (ds.map Lv.wr) = sortR ((ks.map kyT).zip (vs.map Lv.wr)) := by
      rw [h.wrs, List.map_map, ← sortR_lk hnd h0]
      exact List.zip_map' ..
    rw [wr_d, wr_d, e]
    unfold flatR
    rw [sortR_idem (by rw [List.map_fst_zip (by simp [h0])]; exact kyT_nodup hnd)]
  · rw [nest_d, nest_d]
    have a := h.nests
    have b : nests ((srtK ks).map (lk ks vs)) ≤ nests vs := nests_le fun x hx => by
      obtain ⟨k, hk, rfl⟩ := List.mem_map.mp hx
      exact nests_mem (lk_mem h0 (hp.mem_iff.mp hk))
    omega
section
variable {P : Program} {w : World} {K : PySem.W.Frag} {mg : Str → Option Value} {base : Heap} {C fI CR dC : Addr}
abbrev s_DatumReader_datum : Stmt := inClass (topS 12) 4
abbrev N_DatumReader_datum : List Str := ["self", "depth", "sign"]
theorem sc_DatumReader_datum : FnScope N_DatumReader_datum ["self", "depth"] (defScope s_DatumReader_datum) := ⟨rfl, rfl, rfl, by decide +kernel, rfl, by decide +kernel, by decide +kernel⟩
theorem ok_datum {f : Addr} {fd : FuncData} {n jp jq k nC : Nat} {es : Array DictEntry} {spP spQ : Sp} (F : Fun K "datum" "DatumReader.datum" s_DatumReader_datum f fd) (Y : BnK mg) (Z : DcTx K mg CR dC) (DCONSTANTS : KDict K w dC es nC) (hG : KGives K dC ctab) (hjp : jp ≤ k) (hjq : jq ≤ k) (hk : 3 ≤ k)
    (m_sign : Met P w K mg base 1 CR "sign" (spSign CR) []) (m_refuse : MetX P w K mg base 1 CR "refuse" (spRefu C CR) []) (m_number : MetX P w K mg base 3 CR "number" (spNumb C CR) []) (m_string : MetX P w K mg base 3 CR "string" (spStrg C CR) [])
    (m_parts : MetX P w K mg base jp CR "parts" spP []) (m_pairs : MetX P w K mg base jq CR "pairs" spQ []) (hP : ∀ m, n = m + 1 → spP = spPar K C CR m) (hQ : ∀ m, n = m + 1 → spQ = spPai K C CR m) : FnOk P w K mg base (L2.CX P w) (k + 1) f fd ["self", "depth"] (spDat K C CR n) := by
  refine F.okX sc_DatumReader_datum (fun vs H Q E h => ?_) (fun cdv A outer s H vs Q E hr h => ?_)
  · obtain ⟨R, dx, tx, p, dep, d, rfl, _⟩ := h
    rfl
  · obtain ⟨R, dx, tx, p, dep, d, rfl, hR, hl, hp, hn, hdep, hok, alt⟩ := h
    have nd := sc_DatumReader_datum.nd
    refine ⟨_, (pss_cons (ps_set (i := 2) nd rfl (Or.inl rfl) (pe_mt0 m_sign hr (by omega) (pv 0)))
      (pss_cons (ps_fldaug (pv 0) pe_int in_add)
      (pss_cons (ps_if (pt_cmpR (op_in_kdn DCONSTANTS) (pv 2) (pe_gc rfl Z.c_CONSTANTS) (by rfl)) (pss_one (ps_ret (pe_ix (ix_kdn DCONSTANTS) (pe_gc rfl Z.c_CONSTANTS) (pv 2) (fun _ _ => rfl)))) pss_nil)
      (pss_cons (ps_if (pt_cmpR op_eq (pv 2) pe_str (nomark _)) (pss_one (ps_ret (pe_mx0 m_number hr (by omega) px_of (pv 0)))) pss_nil)
      (pss_cons (ps_if (pt_cmpR op_eq (pv 2) pe_str (nomark _)) (pss_one (ps_ret (pe_mx0 m_string hr (by omega) px_of (pv 0)))) pss_nil)
      (pss_cons (ps_if (PW.pt (pw_or (pt_cmpR op_eq (pv 2) pe_str (nomark _)) (pw_or (pt_cmpR op_ninC (pv 2) pe_str (by rfl)) (pw_or1 (pt_cmpR op_eq (pv 1) (pe_gc rfl Z.c_DEEPEST) (nomark _)))))) (pss_one (ps_expr (pe_mx0 m_refuse hr (by omega) px_of (pv 0)))) pss_nil)
      (pss_cons (ps_if (pt_cmpR op_eq (pv 2) pe_str (nomark _)) (pss_one (ps_ret (pe_callTy call_tupleOf (by rfl) Y.n_tuple (by decide +kernel) (pa_cons (pe_mx m_parts hr (by omega) px_of (pv 0) (pa_cons pe_str (pa_cons (pe_op op_add (pv 1) pe_int) pa_nil))) pa_nil)))) pss_nil)
      (pss_cons (ps_if (pt_cmpR op_eq (pv 2) pe_str (nomark _)) (pss_one (ps_ret (pe_mx m_parts hr (by omega) px_of (pv 0) (pa_cons pe_str (pa_cons (pe_op op_add (pv 1) pe_int) pa_nil))))) pss_nil)
      (pss_one (ps_ret (pe_mx m_pairs hr (by omega) px_of (pv 0) (pa_cons (pe_op op_add (pv 1) pe_int) pa_nil)))))))))))), ?_⟩
    rw [show L2.start N_DatumReader_datum [.ref R, .int (dep : Int)] = [some (.ref R), some (.int (dep : Int)), none] from rfl]
    walk_at "dd"
    refine o_mat hR rfl ?_
    walk_at "dd"
    refine ⟨R, dx, tx, p, rfl, hR, hl, ?_⟩
    have hd1 : tx.drop (p + 1) = (tx.drop p).tail := by rw [List.tail_drop]
    by_cases h0 : tx.drop p = []
    · have hE : ErrR C E R H := by
        rcases alt with ⟨rest, hd, _⟩ | ⟨_, hE⟩
        · obtain ⟨c, r, e, _⟩ := wr_head d
          rw [h0, e] at hd
          cases hd
        · exact hE
      rw [h0]
      walk_at "dd"
      refine o_fldA ?_
      walk_at "dd"
      refine o_aug hR Z.cr Z.n_at rfl ?_
      walk_at "dd"
      refine o_augE hR (show (2 : Nat) < 1000 from by decide) fun H1 h1 f1 => ?_
      walk_at "dd"
      refine kd_in (a := []) hG ?_
      rw [show (ctab.lookup []).isSome = false from rfl]
      walk_at "dd"
      refine o_mat h1 rfl ?_
      walk_at "dd"
      exact ⟨R, rfl, hE.mono f1⟩
    · have hp1 : p + 1 ≤ tx.length := by
        refine Nat.lt_of_not_le fun z => h0 (List.drop_of_length_le z)
      obtain ⟨ch, t, e, hch⟩ := wr_head d
      have alt2 : (∃ rest, tx.drop p = ch :: (t ++ rest) ∧ ∀ v d' H', DtAt K (fun q => H q = none) H' v d' → Ak d d' → Ra CR dx R tx (p + (t.length + 1)) H' → Fz R H H' → Q v H') ∨ (t ≠ [] ∧ tx.drop p = ch :: t.dropLast ∧ ErrR C E R H) := by
        rcases alt with ⟨rest, hd, kQ⟩ | ⟨hd, hE⟩
        · rw [e, List.length_cons] at kQ
          exact .inl ⟨rest, by rw [hd, e]; rfl, kQ⟩
        · cases t with
          | nil => rw [e] at hd; exact absurd hd h0
          | cons a t => exact .inr ⟨List.cons_ne_nil _ _, by rw [hd, e]; rfl, hE⟩
      have hs : (tx.drop p).take 1 = [ch] := by
        rcases alt2 with ⟨rest, hd, _⟩ | ⟨_, hd, _⟩ <;> rw [hd] <;> rfl
      have alt3 : (∃ rest, tx.drop (p + 1) = t ++ rest ∧ ∀ v d' H', DtAt K (fun q => H q = none) H' v d' → Ak d d' → Ra CR dx R tx (p + (t.length + 1)) H' → Fz R H H' → Q v H') ∨ (t ≠ [] ∧ tx.drop (p + 1) = t.dropLast ∧ ErrR C E R H) := by
        rcases alt2 with ⟨rest, hd, kQ⟩ | ⟨ht, hd, hE⟩
        · exact .inl ⟨rest, by rw [hd1, hd]; rfl, kQ⟩
        · exact .inr ⟨ht, by rw [hd1, hd]; rfl, hE⟩
      clear alt alt2
      rw [hs]
      walk_at "dd"
      refine o_fldA ?_
      walk_at "dd"
      refine o_aug hR Z.cr Z.n_at rfl ?_
      walk_at "dd"
      refine o_augE hR (show (2 : Nat) < 1000 from by decide) fun H1 h1 f1 => ?_
      have hR1 : Ra CR dx R tx (p + 1) H1 := h1
      walk_at "dd"
      refine kd_in (a := [ch]) hG ?_
      cases d with
      | n =>
        rw [wr_n] at e
        obtain ⟨rfl, rfl⟩ := List.cons.inj e
        rcases alt3 with ⟨rest, _, kQ⟩ | ⟨ht, _⟩
        · rw [show (ctab.lookup [78]).isSome = true from rfl]
          walk_at "dd"
          refine kd_ix (a := [78]) hG (show ctab.lookup [78] = some .non from rfl) ?_
          exact kQ _ .n _ .n (Ak.refl hok) hR1 f1
        · exact absurd rfl ht
      | b x =>
        rw [wr_b] at e
        cases x with
        | true =>
          obtain ⟨rfl, rfl⟩ := List.cons.inj (show [84] = ch :: t from e)
          rcases alt3 with ⟨rest, _, kQ⟩ | ⟨ht, _⟩
          · rw [show (ctab.lookup [84]).isSome = true from rfl]
            walk_at "dd"
            refine kd_ix (a := [84]) hG (show ctab.lookup [84] = some (.bl true) from rfl) ?_
            exact kQ _ (.b true) _ .b (Ak.refl hok) hR1 f1
          · exact absurd rfl ht
        | false =>
          obtain ⟨rfl, rfl⟩ := List.cons.inj (show [70] = ch :: t from e)
          rcases alt3 with ⟨rest, _, kQ⟩ | ⟨ht, _⟩
          · rw [show (ctab.lookup [70]).isSome = true from rfl]
            walk_at "dd"
            refine kd_ix (a := [70]) hG (show ctab.lookup [70] = some (.bl false) from rfl) ?_
            exact kQ _ (.b false) _ .b (Ak.refl hok) hR1 f1
          · exact absurd rfl ht
      | i x =>
        rw [wr_i] at e
        obtain ⟨rfl, rfl⟩ := List.cons.inj (show 35 :: (intL x ++ [59]) = ch :: t from e)
        rw [show (ctab.lookup [35]).isSome = false from rfl]
        walk_at "dd"
        refine o_mat hR1 rfl ?_
        walk_at "dd"
        refine ⟨R, dx, tx, p + 1, x, rfl, hR1, hl, hp1, ok_i.mp hok, ?_⟩
        rcases alt3 with ⟨rest, hd, kQ⟩ | ⟨ht, hd, hE⟩
        · refine .inl ⟨rest, by rw [hd]; simp, fun H2 h2 f2 => ?_⟩
          walk_at "dd"
          refine kQ _ (.i x) _ .i (Ak.refl hok) ?_ (f1.trans f2)
          have q : p + ((intL x ++ [59] : List Nat).length + 1) = p + 1 + ((intL x).length + 1) := by
            rw [List.length_append, List.length_singleton]; omega
          rw [q]
          exact h2
        · exact .inr ⟨by rw [hd, List.dropLast_concat], hE.mono f1⟩
      | s a =>
        rw [wr_s] at e
        obtain ⟨rfl, rfl⟩ := List.cons.inj (show 34 :: (numL a.length ++ 58 :: a) = ch :: t from e)
        rw [show (ctab.lookup [34]).isSome = false from rfl]
        walk_at "dd"
        refine o_mat hR1 rfl ?_
        walk_at "dd"
        obtain ⟨ha, hc⟩ := ok_s.mp hok
        refine ⟨R, dx, tx, p + 1, a, rfl, hR1, hl, hp1, ha, fun z => (hc _ z).2 rfl, ?_⟩
        rcases alt3 with ⟨rest, hd, kQ⟩ | ⟨ht, hd, hE⟩
        · refine .inl ⟨rest, by rw [hd]; simp, fun H2 h2 f2 => ?_⟩
          walk_at "dd"
          refine kQ _ (.s a) _ .s (Ak.refl hok) ?_ (f1.trans f2)
          have q : p + ((numL a.length ++ 58 :: a : List Nat).length + 1) = p + 1 + ((numL a.length).length + 1 + a.length) := by
            rw [List.length_append, List.length_cons]; omega
          rw [q]
          exact h2
        · exact .inr ⟨hd, hE.mono f1⟩
      | l xs =>
        rw [nest_l] at hn hdep
        obtain ⟨m, rfl⟩ : ∃ m, n = m + 1 := ⟨n - 1, by omega⟩
        obtain ⟨g1, g2⟩ := ok_l.mp hok
        have eP := hP m rfl
        subst eP
        rw [wr_l] at e
        obtain ⟨rfl, rfl⟩ := List.cons.inj e
        rw [show (ctab.lookup [91]).isSome = false from rfl]
        walk_at "dd"
        rw [decide_eq_true (show (91 : Nat) ∈ (Str.ofString "([{").1.toList by with_unfolding_all decide +kernel)]
        walk_at "dd"
        refine w_ifI (fun z => absurd z (by omega)) fun _ => ?_
        walk_at "dd"
        refine o_mat hR1 rfl ?_
        walk_at "dd"
        refine ⟨R, dx, tx, p + 1, 93, dep + 1, xs, rfl, hR1, hl, hp1, by decide, g1, by omega, fun x hx => ⟨by have := nests_mem hx; omega, by have := nests_mem hx; omega, g2 x hx⟩, ?_⟩
        rcases alt3 with ⟨rest, hd, kQ⟩ | ⟨ht, hd, hE⟩
        · refine .inl ⟨rest, by rw [hd]; simp, fun l us ds H2 hl0 hl2 hds hal h2 f2 => ?_⟩
          walk_at "dd"
          refine kQ _ (.l ds) _ (.l (f1.2 l hl0) hl2 (hds.mono fun q hq => f1.2 q hq.1)) (Ak.l hal g1) ?_ (f1.trans f2)
          have q : p + (((xs.map wr).flatten ++ [93] : List Nat).length + 1) = p + 1 + ((xs.map wr).flatten.length + 1) := by
            rw [List.length_append, List.length_singleton]; omega
          rw [q]
          exact h2
        · exact .inr ⟨by rw [hd, List.dropLast_concat], hE.mono f1⟩
      | t xs =>
        rw [nest_t] at hn hdep
        obtain ⟨m, rfl⟩ : ∃ m, n = m + 1 := ⟨n - 1, by omega⟩
        obtain ⟨g1, g2⟩ := ok_t.mp hok
        have eP := hP m rfl
        subst eP
        rw [wr_t] at e
        obtain ⟨rfl, rfl⟩ := List.cons.inj e
        rw [show (ctab.lookup [40]).isSome = false from rfl]
        walk_at "dd"
        rw [decide_eq_true (show (40 : Nat) ∈ (Str.ofString "([{").1.toList by with_unfolding_all decide +kernel)]
        walk_at "dd"
        refine w_ifI (fun z => absurd z (by omega)) fun _ => ?_
        walk_at "dd"
        refine o_mat hR1 rfl ?_
        walk_at "dd"
        refine ⟨R, dx, tx, p + 1, 41, dep + 1, xs, rfl, hR1, hl, hp1, by decide, g1, by omega, fun x hx => ⟨by have := nests_mem hx; omega, by have := nests_mem hx; omega, g2 x hx⟩, ?_⟩
        rcases alt3 with ⟨rest, hd, kQ⟩ | ⟨ht, hd, hE⟩
        · refine .inl ⟨rest, by rw [hd]; simp, fun l us ds H2 hl0 hl2 hds hal h2 f2 => ?_⟩
          walk_at "dd"
          refine w_tupOf (SqL.of hl2) fun q H3 hq s3 hft => ?_
          refine kQ _ (.t ds) _ (.t hft.sq ((hds.mono fun q hq => f1.2 q hq.1).same s3)) (Ak.t hal g1) ?_ ((f1.trans f2).trans (Fz.same s3))
          have q : p + (((xs.map wr).flatten ++ [41] : List Nat).length + 1) = p + 1 + ((xs.map wr).flatten.length + 1) := by
            rw [List.length_append, List.length_singleton]; omega
          rw [q]
          exact s3 _ _ h2
        · exact .inr ⟨by rw [hd, List.dropLast_concat], hE.mono f1⟩
      | d ks vs =>
        rw [nest_d] at hn hdep
        obtain ⟨m, rfl⟩ : ∃ m, n = m + 1 := ⟨n - 1, by omega⟩
        obtain ⟨g0, g1, gnd, g2, g3⟩ := ok_d.mp hok
        have eQ := hQ m rfl
        subst eQ
        rw [wr_d, flatR_lk gnd g0] at e
        obtain ⟨rfl, rfl⟩ := List.cons.inj e
        rw [show (ctab.lookup [123]).isSome = false from rfl]
        walk_at "dd"
        rw [decide_eq_true (show (123 : Nat) ∈ (Str.ofString "([{").1.toList by with_unfolding_all decide +kernel)]
        walk_at "dd"
        refine w_ifI (fun z => absurd z (by omega)) fun _ => ?_
        walk_at "dd"
        refine o_mat hR1 rfl ?_
        walk_at "dd"
        have hpm := srtK_perm ks
        have er : (((srtK ks).map fun k => (k, lk ks vs k)).map rowT).flatten = ((srtK ks).map fun k => kyT k ++ wr (lk ks vs k)).flatten := by
          rw [List.map_map]; rfl
        have e1 : ((srtK ks).map fun k => (k, lk ks vs k)).map (·.1) = srtK ks := by
          rw [List.map_map]; exact List.map_id _
        have e2 : ((srtK ks).map fun k => (k, lk ks vs k)).map (·.2) = (srtK ks).map (lk ks vs) := by
          rw [List.map_map]; rfl
        refine ⟨R, dx, tx, p + 1, dep + 1, (srtK ks).map fun k => (k, lk ks vs k), rfl, hR1, hl, hp1, by rw [List.length_map, hpm.length_eq]; exact g1, by omega, fun r hr => ?_, ?_, ?_⟩
        · obtain ⟨k, hk, rfl⟩ := List.mem_map.mp hr
          have hk2 := hpm.mem_iff.mp hk
          have hm := lk_mem g0 hk2
          have hnm := nests_mem hm
          exact ⟨g2 k hk2, show nest (lk ks vs k) ≤ m by omega, show dep + 1 + nest (lk ks vs k) ≤ 40 by omega, g3 _ hm⟩
        · rw [List.pairwise_map]; exact srtK_lt gnd
        rw [er, e1, e2]
        rcases alt3 with ⟨rest, hd, kQ⟩ | ⟨ht, hd, hE⟩
        · refine .inl ⟨rest, by rw [hd]; simp, fun l us ds H2 hl0 hl2 hul hds hal h2 f2 => ?_⟩
          walk_at "dd"
          rw [List.length_map] at hul
          refine kQ _ (.d (srtK ks) ds) _ (.d (f1.2 l hl0) hl2 hul (hds.mono fun q hq => ⟨f1.2 q hq.1, hq.2⟩)) (Ak.d hok hal) ?_ (f1.trans f2)
          have q : p + ((((srtK ks).map fun k => kyT k ++ wr (lk ks vs k)).flatten ++ [125] : List Nat).length + 1) = p + 1 + (((srtK ks).map fun k => kyT k ++ wr (lk ks vs k)).flatten.length + 1) := by
            rw [List.length_append, List.length_singleton]; omega
          rw [q]
          exact h2
        · exact .inr ⟨by rw [hd, List.dropLast_concat], hE.mono f1⟩
end
end
section
/-! A text read. -/
open PySem PySem.Spec PyProof.Rows L2
open C8 (Cal Met Mak cal0 pe_c pe_gc pss_cut tCut pe_mt pe_mt0 pe_mk)
open TL (numL tl_num numL_digits numL_ne numL_val numL_len numL_lt numL_step numL_free numL_inj)

local macro_rules | `(tactic| walk_at "dd") => `(tactic| repeat (first
  | walk_at "r1c"
  | with_reducible refine w_dget ?_
  | with_reducible refine w_din ?_
  | with_reducible refine w_dnin ?_
  | with_reducible refine w_dput ?_
  | with_reducible refine w_ddel ?_
  | with_reducible refine w_lenSet ?_
  | with_reducible refine w_lcTt ?_
  | with_reducible refine cTe (by with_unfolding_all decide +kernel) ?_
  | with_reducible refine cTn (by with_unfolding_all decide +kernel) ?_
  | with_reducible refine cNe (by with_unfolding_all decide +kernel) ?_
  | with_reducible refine cNn (by with_unfolding_all decide +kernel) ?_
  | with_reducible refine w_par ?_
  | with_reducible refine w_raiseC ?_
  | with_reducible refine w_lcV ?_
  | with_reducible refine w_lcKk ?_
  | with_reducible refine w_lcZ ?_
  | with_reducible refine w_lcE ?_))

section
variable {P : Program} {w : World} {K : PySem.W.Frag} {mg : Str → Option Value} {base : Heap} {C fI CR dC : Addr}
abbrev s_read_datum : Stmt := topS 10
abbrev N_read_datum : List Str := ["text", "reader", "datum"]
theorem sc_read_datum : FnScope N_read_datum ["text"] (defScope s_read_datum) := ⟨rfl, rfl, rfl, by decide +kernel, rfl, by decide +kernel, by decide +kernel⟩
def spRead (K : PySem.W.Frag) (C : Addr) : Sp := fun vs H Q E => ∃ (tx : List Nat) (d : Dt), vs = [T tx] ∧ tx.length ≤ 1000000 ∧ nest d ≤ 4 ∧ Okd d ∧
  ((tx = wr d ∧ ∀ v d' H', DtAt K (fun q => H q = none) H' v d' → Ak d d' → Same H H' → Q v H') ∨ ((∃ c, tx = wr d ++ [c]) ∧ ErrZ C E H 2) ∨ (tx = (wr d).dropLast ∧ ErrZ C E H 2))
theorem ok_read_datum {f : Addr} {fd : FuncData} (F : Fun K "read_datum" "read_datum" s_read_datum f fd) (Y : BnK mg) (Z : DrTx K mg CR) (c_DatumReader : Mak P w K mg base 1 "DatumReader" CR (spRinit CR) [])
    (m_refuse : MetX P w K mg base 1 CR "refuse" (spRefu C CR) []) (m_datum : MetX P w K mg base 12 CR "datum" (spDat K C CR 4) []) : FnOk P w K mg base (L2.CX P w) 13 f fd ["text"] (spRead K C) := by
  refine F.okX sc_read_datum (fun vs H Q E h => ?_) (fun cdv A outer s H vs Q E hr h => ?_)
  · obtain ⟨tx, d, rfl, _⟩ := h
    rfl
  · obtain ⟨tx, d, rfl, hl, hn, hok, alt⟩ := h
    have nd := sc_read_datum.nd
    refine ⟨_, (pss_cons (ps_set (i := 1) nd rfl (Or.inl rfl) (pe_mk c_DatumReader hr (by decide) rfl (pa_cons (pv 0) pa_nil)))
      (pss_cons (ps_set (i := 2) nd rfl (Or.inl rfl) (pe_mx m_datum hr (by omega) px_of (pv 1) (pa_cons pe_int pa_nil)))
      (pss_cons (ps_if (pt_cmpR op_lt (pe_fld (pv 1) rfl) (pe_callB call_lenS (by rfl) Y.n_len (by decide +kernel) (pa_cons (pv 0) pa_nil)) (nomark _)) (pss_one (ps_expr (pe_mx0 m_refuse hr (by omega) px_of (pv 1)))) pss_nil)
      (pss_one (ps_ret (pv 2)))))), ?_⟩
    rw [show L2.start N_read_datum [T tx] = [some (T tx), none, none] from rfl]
    walk_at "dd"
    intro R dx hR0 hdx hne
    refine ⟨R, dx, tx, rfl, upd_same, fun H1 h1 f1 => ?_⟩
    refine ⟨rfl, ?_⟩
    have s1 : Same H H1 := fun b o e => f1.1 b o (fun z => by rw [z, hR0] at e; cases e) (by
      rw [upd_ne (fun z => by rw [z, hR0] at e; cases e), upd_ne (fun z => by rw [z, hdx] at e; cases e)]; exact e)
    have er : ∀ {H2 : Hp}, ErrZ C E H 2 → Fz R H1 H2 → ErrR C E R H2 := fun {H2} e g H3 f => e.mono fun b o q => (g.trans f).1 b o (fun z => by rw [z, hR0] at q; cases q) (s1 b o q)
    walk_at "dd"
    refine o_mat h1 rfl ?_
    walk_at "dd"
    refine ⟨R, dx, tx, 0, 0, d, rfl, h1, hl, Nat.zero_le _, hn, by omega, hok, ?_⟩
    rw [List.drop_zero]
    rcases alt with ⟨htx, kQ⟩ | ⟨⟨c, htx⟩, hE⟩ | ⟨htx, hE⟩
    · refine .inl ⟨[], by rw [List.append_nil]; exact htx, fun v d' H2 hv hd' h2 f2 => ?_⟩
      have h2' : H2 R = some (.ins CR dx [("text", T tx), ("at", .int ((0 + (wr d).length : Nat) : Int))]) := h2
      walk_at "dd"
      refine o_fat h2' Z.cr Z.n_at rfl ?_
      walk_at "dd"
      refine w_lenS hl ?_
      walk_at "dd"
      refine w_if (fun h => absurd h (by rw [htx]; omega)) (fun _ => ?_)
      walk_at "dd"
      exact kQ v d' H2 (hv.mono fun q hq => by
        cases z : H q with
        | none => rfl
        | some o => rw [s1 _ _ z] at hq; cases hq) hd' fun b o e => f2.1 b o (fun z => by rw [z, hR0] at e; cases e) (s1 b o e)
    · refine .inl ⟨[c], htx, fun v d' H2 hv hd' h2 f2 => ?_⟩
      have h2' : H2 R = some (.ins CR dx [("text", T tx), ("at", .int ((0 + (wr d).length : Nat) : Int))]) := h2
      walk_at "dd"
      refine o_fat h2' Z.cr Z.n_at rfl ?_
      walk_at "dd"
      refine w_lenS hl ?_
      walk_at "dd"
      refine w_if (fun _ => ?_) (fun h => absurd (by rw [htx, List.length_append, List.length_singleton]; omega) h)
      walk_at "dd"
      refine o_mat h2' rfl ?_
      walk_at "dd"
      exact ⟨R, rfl, er hE f2⟩
    · exact .inr ⟨htx, er hE Fz.refl⟩
/-- a method that is never called with what is asked -/
def spNo : Sp := fun _ _ _ _ => False
end
end
section
/-! A datum drawn. -/
open PySem PySem.Spec PyProof.Rows L2
open C8 (Cal Met Mak cal0 pe_c pe_gc pss_cut tCut pe_mt pe_mt0 pe_mk)
open TL (numL tl_num numL_digits numL_ne numL_val numL_len numL_lt numL_step numL_free numL_inj)

local macro_rules | `(tactic| walk_at "dd") => `(tactic| repeat (first
  | walk_at "r1c"
  | with_reducible refine w_dget ?_
  | with_reducible refine w_din ?_
  | with_reducible refine w_dnin ?_
  | with_reducible refine w_dput ?_
  | with_reducible refine w_ddel ?_
  | with_reducible refine w_lenSet ?_
  | with_reducible refine w_lcTt ?_
  | with_reducible refine cTe (by with_unfolding_all decide +kernel) ?_
  | with_reducible refine cTn (by with_unfolding_all decide +kernel) ?_
  | with_reducible refine cNe (by with_unfolding_all decide +kernel) ?_
  | with_reducible refine cNn (by with_unfolding_all decide +kernel) ?_
  | with_reducible refine w_par ?_
  | with_reducible refine w_raiseC ?_
  | with_reducible refine w_lcV ?_
  | with_reducible refine w_lcKk ?_
  | with_reducible refine w_lcZ ?_
  | with_reducible refine w_lcE ?_))

/-! ### a key put -/
theorem rep_kvs {K : PySem.W.Frag} {A : Addr → Prop} {H : Hp} {k : Ky} {u : V} {d : Dt} (hu : DtAt K A H u d) : ∀ {ks : List Ky} {us : List V} {ds : List Dt}, ks.length = us.length → DtsAt K A H us ds →
    ∃ us' ds', (kvs ks us).map (fun kv => if kv.1 = kyK k then (kv.1, u) else kv) = kvs ks us' ∧ ks.length = us'.length ∧ DtsAt K A H us' ds' ∧ ∀ x ∈ ds', x ∈ ds ∨ x = d
  | [], [], _, _, h => ⟨[], [], rfl, rfl, .nil, fun x hx => nomatch hx⟩
  | a :: ks, v :: us, d0 :: ds, hl, .cons h r => by
    obtain ⟨us', ds', e1, e2, e3, e4⟩ := rep_kvs hu (ks := ks) (by simpa using hl) r
    by_cases e : kyK a = kyK k
    · refine ⟨u :: us', d :: ds', ?_, by simp [e2], .cons hu e3, fun x hx => ?_⟩
      · show (if kyK a = kyK k then (kyK a, u) else (kyK a, v)) :: (kvs ks us).map _ = _
        rw [if_pos e, e1]; rfl
      · rcases List.mem_cons.mp hx with rfl | hx
        · exact .inr rfl
        · exact (e4 x hx).elim (fun z => .inl (List.mem_cons_of_mem _ z)) .inr
    · refine ⟨v :: us', d0 :: ds', ?_, by simp [e2], .cons h e3, fun x hx => ?_⟩
      · show (if kyK a = kyK k then (kyK a, u) else (kyK a, v)) :: (kvs ks us).map _ = _
        rw [if_neg e, e1]; rfl
      · rcases List.mem_cons.mp hx with rfl | hx
        · exact .inl List.mem_cons_self
        · exact (e4 x hx).elim (fun z => .inl (List.mem_cons_of_mem _ z)) .inr
theorem put_kvs {K : PySem.W.Frag} {A : Addr → Prop} {H : Hp} {k : Ky} {u : V} {d : Dt} {ks : List Ky} {us : List V} {ds : List Dt} (hnd : ks.Nodup) (hl : ks.length = us.length) (h : DtsAt K A H us ds) (hu : DtAt K A H u d) :
    ∃ ks' us' ds', putK (kvs ks us) (kyK k) u = kvs ks' us' ∧ ks'.length = us'.length ∧ ks'.Nodup ∧ (∀ x ∈ ks', x ∈ ks ∨ x = k) ∧ ks'.length ≤ ks.length + 1 ∧ DtsAt K A H us' ds' ∧ ∀ x ∈ ds', x ∈ ds ∨ x = d := by
  by_cases hk : k ∈ ks
  · obtain ⟨us', ds', e1, e2, e3, e4⟩ := rep_kvs (k := k) hu hl h
    refine ⟨ks, us', ds', ?_, e2, hnd, fun x hx => .inl hx, by omega, e3, e4⟩
    unfold putK
    rw [if_pos, e1]
    rw [List.any_eq_true]
    have hi := List.idxOf_lt_length_of_mem hk
    refine ⟨(kyK k, us[ks.idxOf k]'(by omega)), ?_, by simp⟩
    refine List.mem_of_getElem? (i := ks.idxOf k) ?_
    unfold kvs
    rw [List.getElem?_zip_eq_some]
    refine ⟨?_, List.getElem?_eq_getElem (by omega)⟩
    rw [List.getElem?_map, List.getElem?_eq_getElem hi, List.getElem_idxOf hi]
    rfl
  · refine ⟨ks ++ [k], us ++ [u], ds ++ [d], ?_, by simp [hl], ?_, fun x hx => ?_, by simp, h.snoc hu, fun x hx => ?_⟩
    · rw [putK_new _ (val_none hk), kvs_snoc hl]
    · rw [List.nodup_append]
      exact ⟨hnd, by simp, fun a ha b hb e => by rw [List.mem_singleton.mp hb] at e; rw [e] at ha; exact hk ha⟩
    · rcases List.mem_append.mp hx with h | h
      · exact .inl h
      · exact .inr (List.mem_singleton.mp h)
    · rcases List.mem_append.mp hx with h | h
      · exact .inl h
      · exact .inr (List.mem_singleton.mp h)
/-- what is drawn from -/
def Leaf (v : V) : Prop := ∃ d, (∀ K A H, DtAt K A H v d) ∧ nest d = 0 ∧ Okd d
theorem leaf_n : Leaf .non := ⟨.n, fun _ _ _ => .n, by unfold nest; rfl, by unfold Okd; trivial⟩
theorem leaf_b {b : Bool} : Leaf (.bl b) := ⟨.b b, fun _ _ _ => .b, by unfold nest; rfl, by unfold Okd; trivial⟩
theorem leaf_i {x : Int} (h : x.natAbs < 10 ^ 20) : Leaf (.int x) := ⟨.i x, fun _ _ _ => .i, by unfold nest; rfl, ok_i.mpr h⟩
theorem leaf_s {a : List Nat} (h : a.length ≤ 100) (h2 : ∀ c ∈ a, c < 128 ∧ c ≠ 10) : Leaf (T a) := ⟨.s a, fun _ _ _ => .s, by unfold nest; rfl, ok_s.mpr ⟨h, h2⟩⟩
/-- a key drawn -/
def KyL (v : V) : Prop := ∃ k, v = kyV k ∧ KyOk k
theorem kyl_s {a : List Nat} (h1 : a.length ≤ 100) (h2 : ∀ c ∈ a, c < 128 ∧ c ≠ 10) : KyL (T a) := ⟨.inr a, rfl, h1, h2⟩
section
variable {P : Program} {w : World} {K : PySem.W.Frag} {mg : Str → Option Value} {base : Heap}
abbrev s_law_datum : Stmt := topS 17
abbrev N_law_datum : List Str := ["src", "depth", "kind", "options", "k", "parts", "table", "part"]
theorem sc_law_datum : FnScope N_law_datum ["src", "depth"] (defScope s_law_datum) := ⟨rfl, rfl, rfl, by decide +kernel, rfl, by decide +kernel, by decide +kernel⟩
def spLd (K : PySem.W.Frag) (n : Nat) : Sp := fun vs H Q _ => ∃ (S : Addr) (dep : Nat), vs = [.ref S, .int (dep : Int)] ∧ Src H S ∧ dep + n = 4 ∧ ∀ v d H', DtAt K (fun q => H q = none) H' v d → nest d ≤ n → Okd d → Src H' S → Fr S H H' → Q v H'
theorem Src.fz {S : Addr} {H H1 : Hp} (h : Src H1 S) (f : Fr S H H1) : Fz S H H1 := by
  obtain ⟨c, d, k, e, h⟩ := h
  refine ⟨f, fun b hb => ?_⟩
  cases z : H b with
  | none => rfl
  | some o => 
    by_cases hs : b = S
    · rw [hs, h] at hb; cases hb
    · rw [f b o hs z] at hb; cases hb
theorem ok_law_datum {spW : Sp} {n j k : Nat} {f : Addr} {fd : FuncData} (F : Fun K "_law_datum" "_law_datum" s_law_datum f fd) (Y : BnK mg) (c_law_draw : Cal P w K mg base 1 "_law_draw" spDrawB []) (c_law_choice : Cal P w K mg base 2 "_law_choice" spChoice [])
    (hj : j ≤ k) (hk : 2 ≤ k) (c_law_datum : Cal P w K mg base j "_law_datum" spW []) (hW : ∀ m, n = m + 1 → spW = spLd K m) : FnOk P w K mg base CX0 (k + 1) f fd ["src", "depth"] (spLd K n) := by
  refine F.ok sc_law_datum (fun vs H Q E h => ?_) (fun cdv A outer s H vs Q E hr h => ?_)
  · obtain ⟨S, dep, rfl, _⟩ := h
    rfl
  · obtain ⟨S, dep, rfl, hS, hdn, kQ⟩ := h
    have nd := sc_law_datum.nd
    refine ⟨_, (pss_cons (ps_set (i := 2) nd rfl (Or.inl rfl) (pe_c c_law_draw hr (by omega) rfl (pa_cons (pv 0) (pa_cons pe_int pa_nil))))
      (pss_cons (ps_if (PW.pt (pw_or (pt_cmpR op_ge (pv 1) pe_int (nomark _)) (pw_or1 (pt_cmpR op_lt (pv 2) pe_int (nomark _))))) (pss_cons (ps_set (i := 3) nd rfl (Or.inl rfl) (pe_lst (pa_cons pe_non (pa_cons pe_bl (pa_cons pe_bl (pa_cons pe_int (pa_cons (pe_un un_neg pe_int) (pa_cons pe_int (pa_cons pe_str (pa_cons pe_str (pa_cons pe_str (pa_cons pe_str (pa_cons pe_str (pa_cons (pe_un un_neg pe_int) pa_nil))))))))))))))
      (pss_cons (ps_if (pt_cmpR op_eq (pv 2) pe_int (nomark _)) (pss_one (ps_ret (pe_op op_sub (pe_c c_law_draw hr (by omega) rfl (pa_cons (pv 0) (pa_cons pe_int pa_nil))) pe_int))) pss_nil)
      (pss_one (ps_ret (pe_c c_law_choice hr (by omega) rfl (pa_cons (pv 0) (pa_cons (pv 3) pa_nil))))))) pss_nil)
      (pss_cons (ps_setLc (i := 5) (own := [("k", 4)]) (g := gName 4) (tt := tYes) (te := tCall spW [] C8.E0 (tCons (tVar 0) (tCons (tOp (rI0 fun i j => .int (i + j)) (tVar 1) (tC (.int 1))) tNil))) rfl nd rfl rfl (sw_true rfl rfl rfl (by decide +kernel)) (pi_range1 rfl Y.n_range (pa_cons (pe_c c_law_draw hr (by omega) rfl (pa_cons (pv 0) (pa_cons pe_int pa_nil))) pa_nil)) (blkOk_by (own := [("k", 4)]) (N := N_law_datum) (sc := defScope s_law_datum) (by decide +kernel)) (fun _ _ _ _ _ => pg_name (i := 4) nd rfl (Or.inl rfl)) (fun _ _ _ _ _ => pts_nil) (fun _ _ _ _ _ => (pe_c c_law_datum hr (by omega) rfl (pa_cons (pv 0) (pa_cons (pe_op op_add (pv 1) pe_int) pa_nil)))))
      (pss_cons (ps_if (pt_cmpR op_eq (pv 2) pe_int (nomark _)) (pss_one (ps_ret (pe_callTy call_tupleOf (by rfl) Y.n_tuple (by decide +kernel) (pa_cons (pv 5) pa_nil)))) pss_nil)
      (pss_cons (ps_if (pt_cmpR op_eq (pv 2) pe_int (nomark _)) (pss_one (ps_ret (pv 5))) pss_nil)
      (pss_cons (ps_set (i := 6) nd rfl (Or.inl rfl) pe_dnewK)
      (pss_cons (ps_for PassesOwn.never rfl (pi_list (pv 5)) (pg_name (i := 7) nd rfl (Or.inl rfl)) (pss_one (ps_dput (hu_of hr) (pv 6) (pe_c c_law_choice hr (by omega) rfl (pa_cons (pv 0) (pa_cons (pe_lst (pa_cons pe_str (pa_cons pe_str (pa_cons pe_int (pa_cons (pe_un un_neg pe_int) (pa_cons pe_int (pa_cons pe_str (pa_cons pe_str pa_nil)))))))) pa_nil))) (pv 7) rfl)))
      (pss_one (ps_ret (pv 6)))))))))), ?_⟩
    rw [show L2.start N_law_datum [.ref S, .int (dep : Int)] = [some (.ref S), some (.int (dep : Int)), none, none, none, none, none, none] from rfl]
    walk_at "dd"
    refine use_drawB hS (by decide) (by decide) fun kd H1 q1 q2 hS1 f1 => ?_
    walk_at "dd"
    have leaf : ∀ {x : V} {H' : Hp}, Leaf x → Src H' S → Fr S H H' → Q x H' := fun {x H'} hx hs hf => by
      obtain ⟨d, h1, h2, h3⟩ := hx
      exact kQ x d H' (h1 _ _ _) (by omega) h3 hs hf
    refine w_if (fun hge => ?_) (fun hge => ?_)
    · walk_at "dd"
      refine w_newL (by show (12 : Nat) ≤ 1000000; decide) fun N H2 hN s2 h2 => ?_
      walk_at "dd"
      refine w_ifI (fun h4 => ?_) (fun h4 => ?_)
      · walk_at "dd"
        refine use_drawB (hS1.mono s2) (by decide) (by decide) fun r H3 r0 r1 hS3 f3 => ?_
        walk_at "dd"
        exact leaf (leaf_i (by omega)) hS3 ((f1.to s2).trans f3)
      · walk_at "dd"
        refine ⟨S, N, _, rfl, hS1.mono s2, h2, hS1.new hN, by show (0 : Nat) < 12; decide, by show (12 : Nat) ≤ 1000000; decide, fun x hx H3 hS3 f3 => leaf ?_ hS3 ((f1.to s2).trans f3)⟩
        simp only [List.mem_cons, List.not_mem_nil, or_false] at hx
        rcases hx with rfl | rfl | rfl | rfl | rfl | rfl | rfl | rfl | rfl | rfl | rfl | rfl
        all_goals first
          | exact leaf_n
          | exact leaf_b
          | exact leaf_i (by decide)
          | exact leaf_s (by with_unfolding_all decide +kernel) (by with_unfolding_all decide +kernel)
    · walk_at "dd"
      refine w_if (fun h5 => ?_) (fun h5 => ?_)
      · walk_at "dd"
        refine w_newL (by show (12 : Nat) ≤ 1000000; decide) fun N H2 hN s2 h2 => ?_
        walk_at "dd"
        refine w_ifI (fun h4 => ?_) (fun h4 => ?_)
        · walk_at "dd"
          refine use_drawB (hS1.mono s2) (by decide) (by decide) fun r H3 r0 r1 hS3 f3 => ?_
          walk_at "dd"
          exact leaf (leaf_i (by omega)) hS3 ((f1.to s2).trans f3)
        · walk_at "dd"
          refine ⟨S, N, _, rfl, hS1.mono s2, h2, hS1.new hN, by show (0 : Nat) < 12; decide, by show (12 : Nat) ≤ 1000000; decide, fun x hx H3 hS3 f3 => leaf ?_ hS3 ((f1.to s2).trans f3)⟩
          simp only [List.mem_cons, List.not_mem_nil, or_false] at hx
          rcases hx with rfl | rfl | rfl | rfl | rfl | rfl | rfl | rfl | rfl | rfl | rfl | rfl
          all_goals first
            | exact leaf_n
            | exact leaf_b
            | exact leaf_i (by decide)
            | exact leaf_s (by with_unfolding_all decide +kernel) (by with_unfolding_all decide +kernel)
      · walk_at "dd"
        obtain ⟨m, rfl⟩ : ∃ m, n = m + 1 := ⟨n - 1, by omega⟩
        have eW := hW m rfl
        subst eW
        refine use_drawB hS1 (by decide) (by decide) fun r H2 r0 r1 hS2 f2 => ?_
        have z2 : Fz S H H2 := hS2.fz (f1.trans f2)
        walk_at "dd"
        refine lc_R (fun D i acc H3 => H2 D = none ∧ D ≠ S ∧ ∃ ds, DtsAt K (fun q => H2 q = none ∧ q ≠ D) H3 acc ds ∧ ds.length = i ∧ (∀ x ∈ ds, nest x ≤ m ∧ Okd x) ∧ Src H3 S ∧ Fr S H2 H3) r0 (by omega)
          (fun D H3 hD s3 h3 => ⟨hD, hS2.new hD, [], .nil, rfl, (fun x hx => nomatch hx), hS2.mono s3, Same.fr s3⟩) (fun D i acc H3 hi hla hD ⟨g1, gS, ds, g2, g3, g4, g5, g6⟩ => ?_) (fun D acc H3 hla hD ⟨g1, gS, ds, g2, g3, g4, g5, g6⟩ => ?_)
        · walk_at "dd"
          refine ⟨rfl, ?_⟩
          walk_at "dd"
          refine ⟨S, dep + 1, rfl, g5, by omega, fun v d H4 hv hn hok hs4 f4 => ?_⟩
          have hD4 : H4 D = some (.lst acc) := f4 _ _ gS hD
          refine lc_keep hla (by omega) hD4 fun H5 h5 b5 => ⟨g1, gS, ds ++ [d], ?_, by rw [List.length_append, g3]; rfl, fun x hx => ?_, hs4.grow gS b5, fun b o n e => b5 b o (fun z => by rw [z, g1] at e; cases e) (f4 b o n (g6 b o n e))⟩
          · obtain ⟨c, d0, i0, e0, hsr⟩ := g5
            have ntS : NoTup H3 S := ⟨_, hsr, (fun _ e => nomatch e), (fun _ _ e => nomatch e)⟩
            have ntD : NoTup H4 D := ⟨_, hD4, (fun _ e => nomatch e), (fun _ _ e => nomatch e)⟩
            have nS : ∀ q, H2 q = none → q ≠ S := fun q e z => hS2.new e z
            have a1 := g2.but (fun q hq => nS q hq.1) ntS f4
            have z4 : Fz S H2 H3 := Src.fz ⟨c, d0, i0, e0, hsr⟩ g6
            have a2 : DtAt K (fun q => H2 q = none ∧ q ≠ D) H4 v d := hv.mono fun q hq => ⟨z4.2 q hq, fun z => by rw [z, hD] at hq; cases hq⟩
            exact (a1.snoc a2).but (fun q hq => hq.2) ntD b5
          · rcases List.mem_append.mp hx with h | h
            · exact g4 x h
            · rw [List.mem_singleton.mp h]; exact ⟨hn, hok⟩
        · have hl3 : ds.length ≤ 3 := by omega
          have hns : nests ds ≤ m := nests_le fun x hx => (g4 x hx).1
          have z3 : Fz S H H3 := z2.trans (g5.fz g6)
          walk_at "dd"
          refine w_ifI (fun hk5 => ?_) (fun hk5 => ?_)
          · walk_at "dd"
            refine w_tupOf (SqL.of hD) fun q H4 hq s4 hft => ?_
            exact kQ _ (.t ds) _ (.t hft.sq ((g2.mono fun q hq => z2.2 q hq.1).same s4)) (by rw [nest_t]; omega) (ok_t.mpr ⟨hl3, fun x hx => (g4 x hx).2⟩) (g5.mono s4) (z3.1.to s4)
          · walk_at "dd"
            refine w_ifI (fun hk6 => ?_) (fun hk6 => ?_)
            · walk_at "dd"
              exact kQ _ (.l ds) _ (.l (z2.2 D g1) hD (g2.mono fun q hq => z2.2 q hq.1)) (by rw [nest_l]; omega) (ok_l.mpr ⟨hl3, fun x hx => (g4 x hx).2⟩) g5 z3.1
            · walk_at "dd"
              refine w_dnew fun tb H4 hT s4 h4 => ?_
              walk_at "dd"
              have hT2 : H2 tb = none := (g5.fz g6).2 tb hT
              have nTS : tb ≠ S := hS2.new hT2
              have nTD : tb ≠ D := fun z => by rw [z, hD] at hT; cases hT
              have hacc : acc.length = ds.length := g2.length
              have g24 : DtsAt K (fun q => H2 q = none ∧ q ≠ tb) H3 acc ds := g2.al.mono fun q hq => ⟨hq.1.1, fun z => hq.2 (by rw [z]; exact hT)⟩
              refine for_L (xs := acc) (fun i σ' H5 => ∃ x7, σ' = [some (.ref S), some (.int (dep : Int)), some (.int kd), none, none, some (.ref D), some (.ref tb), x7] ∧ ∃ ks us es, H5 tb = some (.dK (kvs ks us)) ∧ ks.length = us.length ∧ ks.Nodup ∧ ks.length ≤ i ∧ (∀ k ∈ ks, KyOk k) ∧ DtsAt K (fun q => H2 q = none ∧ q ≠ tb) H5 us es ∧ (∀ x ∈ es, nest x ≤ m ∧ Okd x) ∧ DtsAt K (fun q => H2 q = none ∧ q ≠ tb) H5 acc ds ∧ H5 D = some (.lst acc) ∧ Src H5 S ∧ Fr S H H5)
                ⟨_, rfl, [], [], [], h4, rfl, .nil, Nat.zero_le _, (fun k hk => nomatch hk), .nil, (fun k hk => nomatch hk), g24.same s4, s4 _ _ hD, g5.mono s4, z3.1.to s4⟩ (fun i σ' H5 _ ⟨x7, _, ks, us, es, _, _, _, _, _, _, _, _, e9, _⟩ => SqL.of e9) (fun i x σ' H5 hx ⟨x7, e0, ks, us, es, e1, e2, e3, e4, e5, e6, e7, e8, e9, e10, e11⟩ => ?_) (fun σ' H5 ⟨x7, e0, ks, us, es, e1, e2, e3, e4, e5, e6, e7, e8, e9, e10, e11⟩ => ?_)
              · subst e0
                have hi := (List.getElem?_eq_some_iff.mp hx).1
                obtain ⟨u, d, hu1, hd1, hud⟩ := e8.get (i := i) (by omega)
                rw [hx] at hu1
                cases hu1
                walk_at "dd"
                refine w_newL (by show (7 : Nat) ≤ 1000000; decide) fun N H6 hN s6 h6 => ?_
                walk_at "dd"
                refine ⟨S, N, _, rfl, e10.mono s6, h6, e10.new hN, by show (0 : Nat) < 7; decide, by show (7 : Nat) ≤ 1000000; decide, fun y hy H7 hS7 f7 => ?_⟩
                have hky : KyL y := by
                  simp only [List.mem_cons, List.not_mem_nil, or_false] at hy
                  rcases hy with rfl | rfl | rfl | rfl | rfl | rfl | rfl
                  all_goals first
                    | exact ⟨.inl _, rfl, by show Int.natAbs _ < 10 ^ 20; decide⟩
                    | exact kyl_s (by with_unfolding_all decide +kernel) (by with_unfolding_all decide +kernel)
                obtain ⟨ky, rfl, hko⟩ := hky
                have e1' : H7 tb = some (.dK (kvs ks us)) := f7 _ _ nTS (s6 _ _ e1)
                obtain ⟨c, d0, i0, e0, hsr⟩ := e10.mono s6
                have ntS : NoTup H6 S := ⟨_, hsr, (fun _ e => nomatch e), (fun _ _ e => nomatch e)⟩
                have ntT : NoTup H7 tb := ⟨_, e1', (fun _ e => nomatch e), (fun _ _ e => nomatch e)⟩
                have nS : ∀ q, H2 q = none ∧ q ≠ tb → q ≠ S := fun q e z => hS2.new e.1 z
                have e6' := (e6.same s6).but nS ntS f7
                have e8' := (e8.same s6).but nS ntS f7
                have hud' := (hud.same s6).but nS ntS f7
                obtain ⟨ks', us', es', p1, p2, p3, p4, p5, p6, p7⟩ := put_kvs (k := ky) e3 e2 e6' hud'
                refine ⟨tb, upd H7 tb (.dK (putK (kvs ks us) (kyK ky) x)), rfl, by rw [← kyV_K]; exact DPut.k e1' (by unfold kvs; rw [List.length_zip, List.length_map, ← e2, Nat.min_self]; exact Nat.lt_of_le_of_lt (show ks.length ≤ 10 by omega) (by decide)), ?_⟩
                rw [p1]
                generalize hH8 : upd H7 tb (.dK (kvs ks' us')) = H8
                have hup : ∀ b o, b ≠ tb → H7 b = some o → H8 b = some o := fun b o n e => by rw [← hH8, upd_ne n]; exact e
                refine ⟨_, rfl, ks', us', es', by rw [← hH8]; exact upd_same, p2, p3, by omega, fun k hk => (p4 k hk).elim (e5 k) (fun z => by rw [z]; exact hko), p6.but (fun q hq => hq.2) ntT hup, fun x hx => (p7 x hx).elim (e7 x) (fun z => by rw [z]; exact g4 d (List.mem_of_getElem? hd1)), e8'.but (fun q hq => hq.2) ntT hup, hup _ _ nTD.symm (f7 _ _ gS (s6 _ _ e9)), hS7.grow nTS hup, fun b o n e => ?_⟩
                by_cases z : b = tb
                · rw [z] at e; rw [z2.2 tb hT2] at e; cases e
                · exact hup b o z (f7 b o n (s6 b o (e11 b o n e)))
              · subst e0
                walk_at "dd"
                have hel := e6.length
                refine kQ _ (.d ks es) _ (.d (z2.2 tb hT2) e1 e2 (e6.mono fun q hq => ⟨z2.2 q hq.1, hq.2⟩)) ?_ (ok_d.mpr ⟨by omega, by omega, e3, e5, fun x hx => (e7 x hx).2⟩) e10 e11
                rw [nest_d]
                have := nests_le (n := m) (l := es) fun x hx => (e7 x hx).1
                omega
end
end
section
/-! A datum written by the law. -/
open PySem PySem.Spec PyProof.Rows L2
open C8 (Cal Met Mak cal0 pe_c pe_gc pss_cut tCut pe_mt pe_mt0 pe_mk)
open TL (numL tl_num numL_digits numL_ne numL_val numL_len numL_lt numL_step numL_free numL_inj)

local macro_rules | `(tactic| walk_at "dd") => `(tactic| repeat (first
  | walk_at "r1c"
  | with_reducible refine w_dget ?_
  | with_reducible refine w_din ?_
  | with_reducible refine w_dnin ?_
  | with_reducible refine w_dput ?_
  | with_reducible refine w_ddel ?_
  | with_reducible refine w_lenSet ?_
  | with_reducible refine w_lcTt ?_
  | with_reducible refine cTe (by with_unfolding_all decide +kernel) ?_
  | with_reducible refine cTn (by with_unfolding_all decide +kernel) ?_
  | with_reducible refine cNe (by with_unfolding_all decide +kernel) ?_
  | with_reducible refine cNn (by with_unfolding_all decide +kernel) ?_
  | with_reducible refine w_par ?_
  | with_reducible refine w_raiseC ?_
  | with_reducible refine w_lcV ?_
  | with_reducible refine w_lcKk ?_
  | with_reducible refine w_lcZ ?_
  | with_reducible refine w_lcE ?_))

theorem mem_flat {a : List Nat} : ∀ {L : List (List Nat)}, a ∈ L → a.length ≤ L.flatten.length
  | b :: L, h => by
    rw [List.flatten_cons, List.length_append]
    rcases List.mem_cons.mp h with rfl | h
    · omega
    · have := mem_flat h
      omega
theorem hu10 {k : Nat} {A : Around} (hr : Room k A) : A.units + 10 < PySem.cLine := by
  have := hr.un
  omega
section
variable {σ : L2.St} {H : Hp} {Q : VK}
theorem w_strZ {x : Int} (h : x.natAbs < 10 ^ 20) (k : Q (T (intL x)) H) : rStrI [.int x] H Q := by
  refine ⟨x, rfl, ?_, ?_⟩
  · by_cases h0 : x.natAbs = 0
    · rw [h0]; decide
    · exact Nat.lt_trans ((Nat.log2_lt h0).mpr (show x.natAbs < 2 ^ 67 from Nat.lt_trans h (by decide))) (by decide)
  · have e := int_str x
    first
      | (rw [show V.str (toString x) = T (intL x) from e]; exact k)
      | (rw [← e] at k; exact k)
end
section
variable {P : Program} {w : World} {K : PySem.W.Frag} {mg : Str → Option Value} {base : Heap}
abbrev s_law_written : Stmt := topS 18
abbrev N_law_written : List Str := ["datum", "part", "key", "rows", "row"]
theorem sc_law_written : FnScope N_law_written ["datum"] (defScope s_law_written) := ⟨rfl, rfl, rfl, by decide +kernel, rfl, by decide +kernel, by decide +kernel⟩
def spWn (K : PySem.W.Frag) (n : Nat) : Sp := fun vs H Q _ => ∃ (v : V) (d : Dt), vs = [v] ∧ DtAt K (fun _ => True) H v d ∧ nest d ≤ n ∧ Okd d ∧ ∀ H', Same H H' → Q (T (wr d)) H'
theorem ok_law_written {spW : Sp} {n j k : Nat} {f : Addr} {fd : FuncData} (F : Fun K "_law_written" "_law_written" s_law_written f fd) (Y : BnK mg) (hn5 : n ≤ 4) (hj : j ≤ k) (c_law_written : Cal P w K mg base j "_law_written" spW []) (hW : ∀ m, n = m + 1 → spW = spWn K m) :
    FnOk P w K mg base CX0 (k + 1) f fd ["datum"] (spWn K n) := by
  refine F.ok sc_law_written (fun vs H Q E h => ?_) (fun cdv A outer s H vs Q E hr h => ?_)
  · obtain ⟨v, d, rfl, _⟩ := h
    rfl
  · obtain ⟨v, d, rfl, hv, hn, hok, kQ⟩ := h
    have nd := sc_law_written.nd
    have hlen := wr_len5 (Nat.le_trans hn (by omega)) hok
    refine ⟨_, (pss_cons (ps_if (pt_cmpR op_isN (pv 0) pe_non (nomark _)) (pss_one (ps_ret pe_str)) pss_nil)
      (pss_cons (ps_if (pt_val (pe_callB call_isi (by rfl) Y.n_isinstance (by decide +kernel) (pa_cons (pv 0) (pa_cons (pe_bltn (v := .ty "bool") (by rfl) Y.n_bool (by decide +kernel) rfl) pa_nil)))) (pss_cons (ps_if (pt_val (pv 0)) (pss_one (ps_ret pe_str)) pss_nil)
      (pss_one (ps_ret pe_str))) pss_nil)
      (pss_cons (ps_if (pt_val (pe_callB call_isi (by rfl) Y.n_isinstance (by decide +kernel) (pa_cons (pv 0) (pa_cons (pe_bltn (v := .ty "int") (by rfl) Y.n_int (by decide +kernel) rfl) pa_nil)))) (pss_one (ps_ret (pe_op op_addS (pe_op op_addS pe_str (pe_callTy call_strI (by rfl) Y.n_str (by decide +kernel) (pa_cons (pv 0) pa_nil))) pe_str))) pss_nil)
      (pss_cons (ps_if (pt_val (pe_callB call_isi (by rfl) Y.n_isinstance (by decide +kernel) (pa_cons (pv 0) (pa_cons (pe_bltn (v := .ty "str") (by rfl) Y.n_str (by decide +kernel) rfl) pa_nil)))) (pss_one (ps_ret (pe_op op_addS (pe_op op_addS (pe_op op_addS pe_str (pe_callTy call_strI (by rfl) Y.n_str (by decide +kernel) (pa_cons (pe_callB call_lenS (by rfl) Y.n_len (by decide +kernel) (pa_cons (pv 0) pa_nil)) pa_nil))) pe_str) (pv 0)))) pss_nil)
      (pss_cons (ps_if (pt_val (pe_callB call_isi (by rfl) Y.n_isinstance (by decide +kernel) (pa_cons (pv 0) (pa_cons (pe_bltn (v := .ty "tuple") (by rfl) Y.n_tuple (by decide +kernel) rfl) pa_nil)))) (pss_one (ps_ret (pe_op op_addS (pe_op op_addS pe_str (pe_bm PySem.F.plainAttrs_str PySem.F.slot_str_join PySem.F.type_str_join mt_joinS pe_str (pa_cons (pe_lc (own := [("part", 1)]) (g := gName 1) (tt := tYes) (te := (tCall spW [] C8.E0 (tCons (tVar 1) tNil))) rfl nd (pi_tup (pv 0)) (blkOk_by (own := [("part", 1)]) (N := N_law_written) (sc := defScope s_law_written) (by decide +kernel)) (fun _ _ _ _ _ => pg_name (i := 1) nd rfl (Or.inl rfl)) (fun _ _ _ _ _ => pts_nil) (fun _ _ _ _ _ => (pe_c c_law_written hr (by omega) rfl (pa_cons (pv 1) pa_nil)))) pa_nil))) pe_str))) pss_nil)
      (pss_cons (ps_if (pt_val (pe_callB call_isi (by rfl) Y.n_isinstance (by decide +kernel) (pa_cons (pv 0) (pa_cons (pe_bltn (v := .ty "list") (by rfl) Y.n_list (by decide +kernel) rfl) pa_nil)))) (pss_one (ps_ret (pe_op op_addS (pe_op op_addS pe_str (pe_bm PySem.F.plainAttrs_str PySem.F.slot_str_join PySem.F.type_str_join mt_joinS pe_str (pa_cons (pe_lc (own := [("part", 1)]) (g := gName 1) (tt := tYes) (te := (tCall spW [] C8.E0 (tCons (tVar 1) tNil))) rfl nd (pi_list (pv 0)) (blkOk_by (own := [("part", 1)]) (N := N_law_written) (sc := defScope s_law_written) (by decide +kernel)) (fun _ _ _ _ _ => pg_name (i := 1) nd rfl (Or.inl rfl)) (fun _ _ _ _ _ => pts_nil) (fun _ _ _ _ _ => (pe_c c_law_written hr (by omega) rfl (pa_cons (pv 1) pa_nil)))) pa_nil))) pe_str))) pss_nil)
      (pss_cons (ps_set (i := 3) nd rfl (Or.inl rfl) (pe_callB (cr_sortPT (hu10 hr)) (by rfl) Y.n_sorted (by decide +kernel) (pa_cons (pe_lock (pe_lc (own := [("key", 2)]) (g := gName 2) (tt := tYes) (te := tTup (tCons (tCall spW [] C8.E0 (tCons (tVar 2) tNil)) (tCons (tCall spW [] C8.E0 (tCons (tDGet (tVar 0) (tVar 2)) tNil)) tNil))) rfl nd (pi_keys (pv 0)) (blkOk_by (own := [("key", 2)]) (N := N_law_written) (sc := defScope s_law_written) (by decide +kernel)) (fun _ _ _ _ _ => pg_name (i := 2) nd rfl (Or.inl rfl)) (fun _ _ _ _ _ => pts_nil) (fun _ _ _ _ _ => (pe_tup (pa_cons (pe_c c_law_written hr (by omega) rfl (pa_cons (pv 2) pa_nil)) (pa_cons (pe_c c_law_written hr (by omega) rfl (pa_cons (pe_dget (hu_of hr) (pv 0) (pv 2) (fun _ _ => rfl)) pa_nil)) pa_nil)))))) pa_nil)))
      (pss_one (ps_ret (pe_op op_addS (pe_op op_addS pe_str (pe_bm PySem.F.plainAttrs_str PySem.F.slot_str_join PySem.F.type_str_join mt_joinS pe_str (pa_cons (pe_lc (own := [("row", 4)]) (g := gName 4) (tt := tYes) (te := tOp rAddS (tOp (rIxT K) (tVar 4) (tC (.int 0))) (tOp (rIxT K) (tVar 4) (tC (.int 1)))) rfl nd (pi_list (pv 3)) (blkOk_by (own := [("row", 4)]) (N := N_law_written) (sc := defScope s_law_written) (by decide +kernel)) (fun _ _ _ _ _ => pg_name (i := 4) nd rfl (Or.inl rfl)) (fun _ _ _ _ _ => pts_nil) (fun _ _ _ _ _ => (pe_op op_addS (pe_ix ix_tup (pv 4) pe_int (fun _ _ => rfl)) (pe_ix ix_tup (pv 4) pe_int (fun _ _ => rfl))))) pa_nil))) pe_str)))))))))), ?_⟩
    rw [show L2.start N_law_written [v] = [some v, none, none, none, none] from rfl]
    cases hv with
    | n =>
      rw [wr_n] at kQ
      walk_at "dd"
      exact kQ _ fun _ _ h => h
    | @b _ _ x =>
      rw [wr_b] at kQ
      walk_at "dd"
      cases x with
      | true =>
        walk_at "dd"
        exact kQ _ fun _ _ h => h
      | false =>
        walk_at "dd"
        exact kQ _ fun _ _ h => h
    | @i _ _ x =>
      rw [wr_i] at kQ
      have hx := ok_i.mp hok
      have hl := intL_len hx
      walk_at "dd"
      refine w_strZ hx ?_
      refine w_addS (a := [35]) (by show 1 + _ ≤ _; omega) ?_
      walk_at "dd"
      refine w_addS (b := [59]) (by rw [List.length_append]; show 1 + _ + 1 ≤ _; omega) ?_
      exact kQ _ fun _ _ h => h
    | @s _ _ a =>
      rw [wr_s] at kQ
      have hx := (ok_s.mp hok).1
      have hl := numL_len (n := a.length) (k := 3) (by decide) (by omega)
      walk_at "dd"
      refine w_lenS (by omega) ?_
      walk_at "dd"
      refine w_strN (by omega) ?_
      refine w_addS (a := [34]) (by show 1 + _ ≤ _; omega) ?_
      walk_at "dd"
      refine w_addS (b := [58]) (by rw [List.length_append]; show 1 + _ + 1 ≤ _; omega) ?_
      walk_at "dd"
      refine w_addS (by rw [List.length_append, List.length_append]; show 1 + _ + 1 + _ ≤ _; omega) ?_
      have e : ([34] : List Nat) ++ numL a.length ++ [58] ++ a = kyT (.inr a) := by unfold kyT; simp
      rw [show ([34] : List Nat) ++ numL a.length ++ [58] ++ a = kyT (.inr a) from e]
      exact kQ _ fun _ _ h => h
    | @l _ _ p us xs _ hp hus =>
      rw [nest_l] at hn
      obtain ⟨m, rfl⟩ : ∃ m, n = m + 1 := ⟨n - 1, by omega⟩
      obtain ⟨h1, h2⟩ := ok_l.mp hok
      have eW := hW m rfl
      have hul := hus.length
      rw [wr_l, List.length_cons, List.length_append, List.length_singleton] at hlen
      rw [wr_l] at kQ
      have hfl : (xs.map wr).flatten.length ≤ 1000000 := by omega
      walk_at "dd"
      repeat
        apply isi_l (r := false) hp
        walk_at "dd"
      refine isi_l (r := true) hp ?_
      walk_at "dd"
      refine ⟨rfl, ?_⟩
      walk_at "dd"
      refine lcL_of hp ?_
      refine lc_texts (walk_list) (zs := xs.map wr) (by rw [List.length_map]; omega) (by rw [List.length_map]; omega) (fun H1 s => .inl (.inl (s _ _ hp))) (fun i z x H1 H2 Qs s1 hz y kz => ?_) fun D H1 hD s1 hD1 => ?_
      · obtain ⟨rfl, hx⟩ := y
        rw [List.getElem?_map] at hz
        obtain ⟨u, e, h3, h4, h5⟩ := hus.get (i := i) (by rw [← hul]; exact (List.getElem?_eq_some_iff.mp hx).1)
        rw [h3] at hx; cases hx
        rw [h4] at hz; cases hz
        have hm := List.mem_of_getElem? h4
        refine ⟨rfl, ?_⟩
        walk_at "dd"
        subst eW
        exact ⟨_, e, rfl, (h5.same s1), by have := nests_mem hm; omega, h2 _ hm, kz⟩
      · walk_at "dd"
        refine w_join0 (.inl (.inl hD1)) hfl ?_
        refine w_addS (a := [91]) (by show 1 + _ ≤ _; omega) ?_
        walk_at "dd"
        refine w_addS (b := [93]) (by rw [List.length_append]; show 1 + _ + 1 ≤ _; omega) ?_
        exact kQ _ s1
    | @t _ _ p us xs hp hus =>
      rw [nest_t] at hn
      obtain ⟨m, rfl⟩ : ∃ m, n = m + 1 := ⟨n - 1, by omega⟩
      obtain ⟨h1, h2⟩ := ok_t.mp hok
      have eW := hW m rfl
      have hul := hus.length
      rw [wr_t, List.length_cons, List.length_append, List.length_singleton] at hlen
      rw [wr_t] at kQ
      have hfl : (xs.map wr).flatten.length ≤ 1000000 := by omega
      walk_at "dd"
      repeat
        apply isi_t (r := false) hp
        walk_at "dd"
      try
        refine isi_t (r := true) hp ?_
        walk_at "dd"
      refine ⟨rfl, ?_⟩
      walk_at "dd"
      refine ⟨p, rfl, ⟨us, hp⟩, ?_⟩
      refine lc_texts (walk_tup) (zs := xs.map wr) (by rw [List.length_map]; omega) (by rw [List.length_map]; omega) (fun H1 s => Same.sqT s hp) (fun i z x H1 H2 Qs s1 hz y kz => ?_) fun D H1 hD s1 hD1 => ?_
      · obtain ⟨rfl, hx⟩ := y
        rw [List.getElem?_map] at hz
        obtain ⟨u, e, h3, h4, h5⟩ := hus.get (i := i) (by rw [← hul]; exact (List.getElem?_eq_some_iff.mp hx).1)
        rw [h3] at hx; cases hx
        rw [h4] at hz; cases hz
        have hm := List.mem_of_getElem? h4
        refine ⟨rfl, ?_⟩
        walk_at "dd"
        subst eW
        exact ⟨_, e, rfl, (h5.same s1), by have := nests_mem hm; omega, h2 _ hm, kz⟩
      · walk_at "dd"
        refine w_join0 (.inl (.inl hD1)) hfl ?_
        refine w_addS (a := [40]) (by show 1 + _ ≤ _; omega) ?_
        walk_at "dd"
        refine w_addS (b := [41]) (by rw [List.length_append]; show 1 + _ + 1 ≤ _; omega) ?_
        exact kQ _ s1
    | @d _ _ p ks us xs _ hdp hl hus =>
      have hd : Rd H p (.dK (kvs ks us)) := .inl hdp
      rw [nest_d] at hn
      obtain ⟨m, rfl⟩ : ∃ m, n = m + 1 := ⟨n - 1, by omega⟩
      obtain ⟨h0, h1, hnd, h2, h3⟩ := ok_d.mp hok
      have eW := hW m rfl
      rw [wr_d, List.length_cons, List.length_append, List.length_singleton] at hlen
      rw [wr_d] at kQ
      have hkn : ((ks.map kyT).zip (xs.map wr)).map (·.1) = ks.map kyT := List.map_fst_zip (by simp [h0])
      walk_at "dd"
      iterate 5
        refine isi_d (r := false) hd ?_
        walk_at "dd"
      have hkvl : (kvs ks us).length = ks.length := by unfold kvs; rw [List.length_zip, List.length_map, ← hl, Nat.min_self]
      have hzl : ((ks.map kyT).zip (xs.map wr)).length = ks.length := by rw [List.length_zip, List.length_map, List.length_map, ← h0, Nat.min_self]
      have hnk : ((kvs ks us).map (·.1)).Nodup := by
        unfold kvs
        rw [List.map_fst_zip (by simp [hl])]
        exact List.Pairwise.map _ (fun a b hab => fun e => hab (kyK_inj e)) hnd
      refine w_lock hdp fun od => ?_
      have ntp : NoTup H p := ⟨_, hdp, (fun _ e => nomatch e), (fun _ _ e => nomatch e)⟩
      have hun : ∀ b o, b ≠ p → H b = some o → upd H p (.frz od (.dK (kvs ks us))) b = some o := fun b o n e => by rw [upd_ne n]; exact e
      have hLp : upd H p (.frz od (.dK (kvs ks us))) p = some (.frz od (.dK (kvs ks us))) := upd_same
      have hunl : ∀ {H2 : Hp}, Same (upd H p (.frz od (.dK (kvs ks us)))) H2 → Same H (upd H2 p (.dK (kvs ks us))) := fun s => same_unlock hdp s
      have husL : DtsAt K (fun _ => True) (upd H p (.frz od (.dK (kvs ks us)))) us xs := (hus.but (fun q hq => hq.2) ntp hun).mono fun _ _ => True.intro
      generalize upd H p (.frz od (.dK (kvs ks us))) = HL at hun hLp hunl husL ⊢
      walk_at "dd"
      refine ⟨p, od, rfl, .inl ⟨_, hLp, ?_⟩⟩
      refine lc_W walk_keys (fun D i acc H2 => HL D = none ∧ Same HL H2 ∧ ∃ B : List PrT, acc = B.map (fun b => V.ref b.1) ∧ B.map (fun b => (fs b, sn b)) = ((ks.map kyT).zip (xs.map wr)).take i ∧ ∀ b ∈ B, H2 b.1 = some (.tup [.str b.2.1, .str b.2.2]))
        (fun D H1 hD s _ => ⟨hD, s, [], rfl, rfl, fun b hb => nomatch hb⟩) (fun D i acc H1 _ p => p.2.1 _ _ hLp) (fun D i x acc H2 H3 hi hla hD ⟨g1, g2, B, g3, g4, g5⟩ y => ?_) fun D acc H2 hla hD ⟨g1, g2, B, g3, g4, g5⟩ => ?_
      · obtain ⟨rfl, kk, v, hkv, rfl⟩ := y
        have hkv2 := hkv
        unfold kvs at hkv2
        rw [List.getElem?_zip_eq_some, List.getElem?_map] at hkv2
        obtain ⟨e1, e2⟩ := hkv2
        obtain ⟨ky, hky, rfl⟩ : ∃ ky, ks[i]? = some ky ∧ kyK ky = kk := by
          cases e : ks[i]? with
          | none => rw [e] at e1; cases e1
          | some ky => rw [e] at e1; cases e1; exact ⟨ky, rfl, rfl⟩
        obtain ⟨u, xd, e3, e4, h5⟩ := husL.get (i := i) (by rw [← h0]; exact (List.getElem?_eq_some_iff.mp hky).1)
        rw [e2] at e3; cases e3
        have hmk := List.mem_of_getElem? hky
        have hmx := List.mem_of_getElem? e4
        have b1 := kyT_len (h2 _ hmk)
        have nm := nests_mem hmx
        refine ⟨rfl, ?_⟩
        walk_at "dd"
        subst eW
        rw [kyV_K]
        refine ⟨kyV ky, kyD ky, rfl, ?_, by rw [nest_kyD]; omega, ok_kyD (h2 _ hmk), fun H4 s4 => ?_⟩
        · cases ky with
          | inl z => exact .i
          | inr z => exact .s
        rw [wr_kyD]
        refine w_dget ?_
        walk_at "dd"
        have s24 := Same.trans g2 s4
        refine ⟨p, v, rfl, .inl ⟨kvs ks us, kyK ky, .inr ⟨od, s24 _ _ hLp⟩, (kyV_K ky).symm, (valV_atK hnk hkv).symm⟩, ?_⟩
        refine ⟨v, xd, rfl, h5.same s24, by omega, h3 _ hmx, fun H5 s5 => ?_⟩
        walk_at "dd"
        refine w_newT (by show 2 ≤ 1000000; decide) fun T2 H6 hT s6 h6 => ?_
        have s26 := Same.trans s4 (Same.trans s5 s6)
        refine lc_keep hla (by omega) (s26 _ _ hD) fun H7 h7 b7 => ⟨g1, same_of_but g1 (Same.trans g2 s26) b7, B ++ [(T2, S (kyT ky), S (wr xd))], by rw [g3, List.map_append]; rfl, ?_, fun b hb => ?_⟩
        · have e : ((ks.map kyT).zip (xs.map wr))[i]? = some (kyT ky, wr xd) := by
            rw [List.getElem?_zip_eq_some, List.getElem?_map, List.getElem?_map, hky, e4]
            exact ⟨rfl, rfl⟩
          rw [List.map_append, g4, List.take_succ, e]
          rfl
        · have nb : ∀ {b o}, H6 b = some (.tup o) → b ≠ D := fun h z => by rw [z, s26 _ _ hD] at h; cases h
          rcases List.mem_append.mp hb with h | h
          · have := s26 _ _ (g5 b h)
            exact b7 _ _ (nb this) this
          · rw [List.mem_singleton.mp h]
            exact b7 _ _ (nb h6) h6
      · rw [hkvl, ← hzl, List.take_length] at g4
        have hDp : D ≠ p := fun z => by rw [z, hLp] at g1; cases g1
        have s3 := hunl g2
        refine ⟨g2 _ _ hLp, ?_⟩
        have hD3 : upd H2 p (.dK (kvs ks us)) D = some (.lst acc) := by rw [upd_ne hDp]; exact hD
        have g53 : ∀ b ∈ B, upd H2 p (.dK (kvs ks us)) b.1 = some (.tup [.str b.2.1, .str b.2.2]) := fun b hb => by
          rw [upd_ne (fun z => by have := g5 b hb; rw [z, g2 _ _ hLp] at this; cases this)]; exact g5 b hb
        generalize upd H2 p (.dK (kvs ks us)) = H3 at s3 hD3 g53 ⊢
        walk_at "dd"
        refine ⟨D, B, rfl, .inl (.inl (by rw [← g3]; exact hD3)), g53, fun p2 hp2 => ?_⟩
        have hsrt := sorted_pt (by rw [hkn]; exact kyT_nodup hnd) g4
        have hBm : ∀ b ∈ B.mergeSort (PySem.W.dataLe false encPT), H3 b.1 = some (.tup [.str b.2.1, .str b.2.2]) := fun b hb => g53 b ((List.mergeSort_perm _ _).mem_iff.mp hb)
        have hBl : (B.mergeSort (PySem.W.dataLe false encPT)).length ≤ 3 := by
          have e1 := congrArg List.length g4
          rw [List.length_map, hzl] at e1
          rw [List.length_mergeSort, e1]; exact h1
        generalize B.mergeSort (PySem.W.dataLe false encPT) = B2 at hsrt hBm hBl ⊢
        have s4 := same_new0 (o := .lst (B2.map fun b => V.ref b.1)) hp2
        have h4 : upd H3 p2 (.lst (B2.map fun b => V.ref b.1)) p2 = some (.lst (B2.map fun b => V.ref b.1)) := upd_same
        generalize upd H3 p2 (.lst (B2.map fun b => V.ref b.1)) = H4 at s4 h4 ⊢
        walk_at "dd"
        refine ⟨rfl, ?_⟩
        walk_at "dd"
        refine lcL_of h4 ?_
        have hfe : B2.map (fun b => fs b ++ sn b) = (sortR ((ks.map kyT).zip (xs.map wr))).map fun q => q.1 ++ q.2 := by
          rw [← hsrt, List.map_map]; rfl
        have hfl : (B2.map fun b => fs b ++ sn b).flatten.length ≤ 1000000 := by
          rw [hfe]
          unfold flatR at hlen
          omega
        refine lc_texts walk_list (zs := B2.map fun b => fs b ++ sn b) (by rw [List.length_map, List.length_map]) (by rw [List.length_map]; omega) (fun H1 s => .inl (.inl (s _ _ h4))) (fun i z x H1 H2 Qs s1 hz y kz => ?_) fun D2 H5 hD2 s5 hD5 => ?_
        · obtain ⟨rfl, hx⟩ := y
          rw [List.getElem?_map] at hz hx
          obtain ⟨b, hb⟩ : ∃ b, B2[i]? = some b := by
            cases e : B2[i]? with
            | none => rw [e] at hz; cases hz
            | some k => exact ⟨k, rfl⟩
          rw [hb] at hx hz
          cases hx; cases hz
          have hm := List.mem_of_getElem? hb
          have hbt := s1 _ _ (s4 _ _ (hBm b hm))
          have hq : (fs b, sn b) ∈ sortR ((ks.map kyT).zip (xs.map wr)) := by rw [← hsrt]; exact List.mem_map.mpr ⟨b, hm, rfl⟩
          have hlq : (fs b ++ sn b).length ≤ 1000000 := by
            have h9 : (fs b ++ sn b) ∈ B2.map fun b => fs b ++ sn b := List.mem_map.mpr ⟨b, hm, rfl⟩
            have := mem_flat h9
            omega
          refine ⟨rfl, ?_⟩
          walk_at "dd"
          refine w_ixT (.inl (.inl hbt)) (atI_nat (j := 0) rfl) ?_
          walk_at "dd"
          refine w_ixT (.inl (.inl hbt)) (atI_nat (j := 1) rfl) ?_
          rw [List.length_append] at hlq
          rw [T_eta b.2.1, T_eta b.2.2]
          refine w_addS (a := fs b) (b := sn b) hlq ?_
          exact kz _ fun _ _ h => h
        · walk_at "dd"
          refine w_join0 (.inl (.inl hD5)) hfl ?_
          have e5 : (B2.map fun b => fs b ++ sn b).flatten = flatR ((ks.map kyT).zip (xs.map wr)) := by
            rw [hfe]; rfl
          rw [e5]
          refine w_addS (a := [123]) (by show 1 + _ ≤ _; omega) ?_
          walk_at "dd"
          refine w_addS (b := [125]) (by rw [List.length_append]; show 1 + _ + 1 ≤ _; omega) ?_
          exact kQ _ (Same.trans s3 (Same.trans s4 s5))
end
end
section
/-! The law. -/
open PySem PySem.Spec PyProof.Rows L2
open C8 (Cal Met Mak cal0 pe_c pe_gc pss_cut tCut pe_mt pe_mt0 pe_mk)
open TL (numL tl_num numL_digits numL_ne numL_val numL_len numL_lt numL_step numL_free numL_inj)

local macro_rules | `(tactic| walk_at "dd") => `(tactic| repeat (first
  | walk_at "r1c"
  | with_reducible refine w_dget ?_
  | with_reducible refine w_din ?_
  | with_reducible refine w_dnin ?_
  | with_reducible refine w_dput ?_
  | with_reducible refine w_ddel ?_
  | with_reducible refine w_lenSet ?_
  | with_reducible refine w_lcTt ?_
  | with_reducible refine cTe (by with_unfolding_all decide +kernel) ?_
  | with_reducible refine cTn (by with_unfolding_all decide +kernel) ?_
  | with_reducible refine cNe (by with_unfolding_all decide +kernel) ?_
  | with_reducible refine cNn (by with_unfolding_all decide +kernel) ?_
  | with_reducible refine w_par ?_
  | with_reducible refine w_raiseC ?_
  | with_reducible refine w_lcV ?_
  | with_reducible refine w_lcKk ?_
  | with_reducible refine w_lcZ ?_
  | with_reducible refine w_lcE ?_))

theorem cut_last {a : List Nat} (h : 0 < a.length) : cut a none (some ((a.length : Int) - 1)) = a.dropLast := by
  have e : (a.length : Int) - 1 = ((a.length - 1 : Nat) : Int) := by omega
  rw [e, List.dropLast_eq_take]
  unfold cut HT.sIx
  simp
  have : min (a.length - 1) a.length = a.length - 1 := by omega
  first
    | rw [this]
    | (rw [if_neg (by omega), this])
    | (rw [if_neg (by omega)])
section
variable {P : Program} {w : World} {K : PySem.W.Frag} {mg : Str → Option Value} {base : Heap} {C fI : Addr}
abbrev s_law_refused : Stmt := topS 19
abbrev N_law_refused : List Str := ["text", "e"]
theorem sc_law_refused : FnScope N_law_refused ["text"] (defScope s_law_refused) := ⟨rfl, rfl, rfl, by decide +kernel, rfl, by decide +kernel, by decide +kernel⟩
def spRefd : Sp := fun vs H Q _ => ∃ (tx : List Nat) (d : Dt), vs = [T tx] ∧ tx.length ≤ 1000000 ∧ nest d ≤ 4 ∧ Okd d ∧ ((∃ c, tx = wr d ++ [c]) ∨ tx = (wr d).dropLast) ∧ ∀ H', Same H H' → Q (.bl true) H'
theorem ok_law_refused {f : Addr} {fd : FuncData} (F : Fun K "_law_refused" "_law_refused" s_law_refused f fd) (Y : BnK mg) (T : PySem.FilX.FilTxt P K mg "FileError" C fI) (cread_datum : CalX P w K mg base 13 "read_datum" (spRead K C)) : FnOk P w K mg base CX0 14 f fd ["text"] spRefd := by
  refine F.ok sc_law_refused (fun vs H Q E h => ?_) (fun cdv A outer s H vs Q E hr h => ?_)
  · obtain ⟨tx, d, rfl, _⟩ := h
    rfl
  · obtain ⟨tx, d, rfl, hl, hn, hok, alt, kQ⟩ := h
    have nd := sc_law_refused.nd
    have gFE : Names (cxOf CX0 P w K mg base N_law_refused "_law_refused" (defScope s_law_refused) f cdv A outer s H E).nox "FileError" (.ref C) := ⟨rfl, by decide, .inl T.gC⟩
    refine ⟨_, (pss_one (ps_try_as (i := 1) rfl rfl nd rfl rfl gFE takes0 (fun W pn xe tk po => pss_cons (ps_expr (pe_cxs cread_datum hr (by decide) rfl tk (pa_cons (pv 0) pa_nil))) (pss_one (ps_ret pe_bl))) (fun a oe cls d pn hz hf => pss_one (ps_ret (pe_cmpR op_eq (pe_byFil T hz hf (pv 1)) pe_int (nomark _)))))), ?_⟩
    rw [show L2.start N_law_refused [Lv.T tx] = [some (Lv.T tx), none] from rfl]
    walk_at "dd"
    refine w_callS ?_
    walk_at "dd"
    have hE : ∀ (X : XK), (∀ dd H1, H dd = none → Same H H1 → H1 dd = some (.xd [(("at" : Str), .int 2)]) → X (.ref C) (some dd) H1) → ∀ Q, spRead K C [Lv.T tx] H Q X := fun X hX Q => ⟨tx, d, rfl, hl, hn, hok, .inr (alt.elim (fun h => .inl ⟨h, hX⟩) fun h => .inr ⟨h, hX⟩)⟩
    refine hE _ (fun dd H1 hd s1 h1 => ?_) _
    refine ⟨true, T.te, fun _ ea hea => ?_, fun h => nomatch h⟩
    walk_at "dd"
    refine ⟨_, rfl, rfl, rfl, dd, _, rfl, h1, ?_⟩
    walk_at "dd"
    exact kQ _ s1
abbrev s_law : Stmt := topS 20
abbrev N_law : List Str := ["script", "src", "datum", "text", "again"]
theorem sc_law : FnScope N_law ["script"] (defScope s_law) := ⟨rfl, rfl, rfl, by decide +kernel, rfl, by decide +kernel, by decide +kernel⟩
def spLaw (K : PySem.W.Frag) : Sp := fun vs H Q _ => ∃ (a : Addr) (ns : List Int), vs = [.ref a] ∧ SqL K H a (ns.map V.int) ∧ ns.length ≤ 63 ∧ ∀ H', Q (.bl true) H'
theorem ok_law {f : Addr} {fd : FuncData} (F : Fun K "law" "law" s_law f fd) (Y : BnK mg) (c_law_source : Cal P w K mg base 1 "_law_source" (spSource K) []) (c_law_choice : Cal P w K mg base 2 "_law_choice" spChoice []) (c_law_datum : Cal P w K mg base 7 "_law_datum" (spLd K 4) [])
    (cwrite_datum : Cal P w K mg base 9 "write_datum" (spWr K 4) []) (c_law_written : Cal P w K mg base 6 "_law_written" (spWn K 4) []) (cread_datum : CalX P w K mg base 13 "read_datum" (spRead K C)) (c_law_refused : Cal P w K mg base 14 "_law_refused" spRefd []) : FnOk P w K mg base CX0 15 f fd ["script"] (spLaw K) := by
  refine F.ok sc_law (fun vs H Q E h => ?_) (fun cdv A outer s H vs Q E hr h => ?_)
  · obtain ⟨a, ns, rfl, _⟩ := h
    rfl
  · obtain ⟨a, ns, rfl, hA, _, kQ⟩ := h
    have nd := sc_law.nd
    refine ⟨_, (pss_cons (ps_set (i := 1) nd rfl (Or.inl rfl) (pe_c c_law_source hr (by decide) rfl (pa_cons (pv 0) (pa_cons pe_int pa_nil))))
      (pss_cons (ps_set (i := 2) nd rfl (Or.inl rfl) (pe_c c_law_datum hr (by omega) rfl (pa_cons (pv 1) (pa_cons pe_int pa_nil))))
      (pss_cons (ps_set (i := 3) nd rfl (Or.inl rfl) (pe_c cwrite_datum hr (by omega) rfl (pa_cons (pv 2) pa_nil)))
      (pss_cons (ps_if (pt_cmpR op_ne (pv 3) (pe_c c_law_written hr (by omega) rfl (pa_cons (pv 2) pa_nil)) (nomark _)) (pss_one (ps_ret pe_bl)) pss_nil)
      (pss_cons (ps_set (i := 4) nd rfl (Or.inl rfl) (pe_cx cread_datum hr (by decide) rfl passL (pa_cons (pv 3) pa_nil)))
      (pss_cons (ps_if (pt_cmpR op_ne (pe_c c_law_written hr (by omega) rfl (pa_cons (pv 4) pa_nil)) (pv 3) (nomark _)) (pss_one (ps_ret pe_bl)) pss_nil)
      (pss_one (ps_ret (pe_and (pe_c c_law_refused hr (by decide) rfl (pa_cons (pe_op op_addS (pv 3) (pe_c c_law_choice hr (by omega) rfl (pa_cons (pv 1) (pa_cons (pe_lst (pa_cons pe_str (pa_cons pe_str (pa_cons pe_str (pa_cons pe_str pa_nil))))) pa_nil)))) pa_nil)) (pe_one (pe_c c_law_refused hr (by decide) rfl (pa_cons (pe_slice sl_str (pv 3) po_none (po_some (pe_op op_sub (pe_callB call_lenS (by rfl) Y.n_len (by decide +kernel) (pa_cons (pv 3) pa_nil)) pe_int))) pa_nil)))))))))))), ?_⟩
    rw [show L2.start N_law [.ref a] = [some (.ref a), none, none, none, none] from rfl]
    walk_at "dd"
    refine ⟨a, ns, 0, rfl, hA, by decide, fun S H1 hS s1 hS0 => ?_⟩
    walk_at "dd"
    refine ⟨S, 0, rfl, hS, rfl, fun v d H2 hv hn hok hS2 f2 => ?_⟩
    walk_at "dd"
    have hl := wr_len5 (Nat.le_trans hn (by decide)) hok
    refine ⟨v, d, rfl, hv.mono fun _ _ => True.intro, hn, hok, fun H3 s3 => ?_⟩
    walk_at "dd"
    refine ⟨v, d, rfl, (hv.same s3).mono fun _ _ => True.intro, hn, hok, fun H4 s4 => ?_⟩
    walk_at "dd"
    refine cNe rfl ?_
    walk_at "dd"
    refine ⟨wr d, d, rfl, by omega, hn, hok, .inl ⟨rfl, fun v2 d2 H5 hv2 ha2 s5 => ?_⟩⟩
    walk_at "dd"
    have hn2 := Nat.le_trans ha2.nest hn
    refine ⟨v2, d2, rfl, hv2.mono fun _ _ => True.intro, hn2, ha2.ok, fun H6 s6 => ?_⟩
    rw [ha2.wr]
    walk_at "dd"
    refine cNe rfl ?_
    walk_at "dd"
    refine w_newL (by show 4 ≤ 1000000; decide) fun N H7 hN s7 h7 => ?_
    walk_at "dd"
    have hS6 := (((hS2.mono s3).mono s4).mono s5).mono s6
    refine ⟨S, N, _, rfl, hS6.mono s7, h7, hS6.new hN, by show (0 : Nat) < 4; decide, by show (4 : Nat) ≤ 1000000; decide, fun x hx H8 hS8 f8 => ?_⟩
    obtain ⟨c, rfl⟩ : ∃ c, x = T [c] := by
      simp only [List.mem_cons, List.not_mem_nil, or_false] at hx
      rcases hx with rfl | rfl | rfl | rfl
      all_goals exact ⟨_, rfl⟩
    refine w_addS (by rw [List.length_singleton]; omega) ?_
    walk_at "dd"
    refine ⟨wr d ++ [c], d, rfl, by rw [List.length_append, List.length_singleton]; omega, hn, hok, .inl ⟨c, rfl⟩, fun H9 s9 => ?_⟩
    refine ⟨true, rfl, ?_⟩
    rw [if_pos rfl]
    walk_at "dd"
    refine w_lenS (by omega) ?_
    walk_at "dd"
    refine w_slS (by omega) ?_
    obtain ⟨ch, r, er, _⟩ := wr_head d
    have hpos : 0 < (wr d).length := by rw [er]; exact Nat.succ_pos _
    rw [cut_last hpos]
    walk_at "dd"
    refine ⟨(wr d).dropLast, d, rfl, by rw [List.length_dropLast]; omega, hn, hok, .inr rfl, fun H10 s10 => ?_⟩
    exact kQ _
end
end
section
/-! All depths. -/
open PySem PySem.Spec PyProof.Rows L2
open C8 (Cal Met Mak cal0 pe_c pe_gc pss_cut tCut pe_mt pe_mt0 pe_mk)
section
variable {P : Program} {w : World} {K : PySem.W.Frag} {mg : Str → Option Value} {base : Heap} {C CR dC : Addr}
theorem zero_succ {α : Prop} {m : Nat} (h : 0 = m + 1) : α := by cases h
theorem dat_all {fd fp fq : Addr} {gd gp gq : FuncData} {nC : Nat} {es : Array DictEntry} (Fd : Fun K "datum" "DatumReader.datum" s_DatumReader_datum fd gd) (Fp : Fun K "parts" "DatumReader.parts" s_DatumReader_parts fp gp) (Fq : Fun K "pairs" "DatumReader.pairs" s_DatumReader_pairs fq gq)
    (cl : Cls K CR) (Md : Meth K CR "datum" fd) (Mp : Meth K CR "parts" fp) (Mq : Meth K CR "pairs" fq) (Bd : Binds K gd ["self", "depth"] []) (Bp : Binds K gp ["self", "end", "depth"] []) (Bq : Binds K gq ["self", "depth"] []) (Y : BnK mg) (Z : DcTx K mg CR dC) (D : KDict K w dC es nC) (hG : KGives K dC ctab)
    (m_sign : Met P w K mg base 1 CR "sign" (spSign CR) []) (m_accept : Met P w K mg base 2 CR "accept" (spAcc CR) []) (m_refuse : MetX P w K mg base 1 CR "refuse" (spRefu C CR) []) (m_number : MetX P w K mg base 3 CR "number" (spNumb C CR) []) (m_string : MetX P w K mg base 3 CR "string" (spStrg C CR) []) :
    ∀ n, MetX P w K mg base (2 * n + 4) CR "datum" (spDat K C CR n) []
  | 0 => ⟨fd, gd, _, [], cl, Md, ok_datum (k := 3) (jp := 1) (jq := 1) (spP := spNo) (spQ := spNo) Fd Y Z D hG (by decide) (by decide) (by decide) m_sign m_refuse m_number m_string
      ⟨fp, gp, _, [], cl, Mp, Fp.okX (k := 0) sc_DatumReader_parts (fun _ _ _ _ h => h.elim) (fun _ _ _ _ _ _ _ _ _ h => h.elim), Bp, .nil⟩ ⟨fq, gq, _, [], cl, Mq, Fq.okX (k := 0) sc_DatumReader_pairs (fun _ _ _ _ h => h.elim) (fun _ _ _ _ _ _ _ _ _ h => h.elim), Bq, .nil⟩ (fun _ h => zero_succ h) (fun _ h => zero_succ h), Bd, .nil⟩
  | n + 1 => by
    have ih := dat_all Fd Fp Fq cl Md Mp Mq Bd Bp Bq Y Z D hG m_sign m_accept m_refuse m_number m_string n
    have mP : MetX P w K mg base (2 * n + 5) CR "parts" (spPar K C CR n) [] := ⟨fp, gp, _, [], cl, Mp, ok_parts (k := 2 * n + 4) (j := 2 * n + 4) Fp Y Z.toDrTx (Nat.le_refl _) (by omega) m_accept ih, Bp, .nil⟩
    have mQ : MetX P w K mg base (2 * n + 5) CR "pairs" (spPai K C CR n) [] := ⟨fq, gq, _, [], cl, Mq, ok_pairs (k := 2 * n + 4) (j := 2 * n + 4) Fq Y Z.toDrTx (Nat.le_refl _) (by omega) m_accept m_sign m_refuse ih, Bq, .nil⟩
    exact ⟨fd, gd, _, [], cl, Md, ok_datum (k := 2 * n + 5) (jp := 2 * n + 5) (jq := 2 * n + 5) Fd Y Z D hG (Nat.le_refl _) (Nat.le_refl _) (by omega) m_sign m_refuse m_number m_string mP mQ (fun m h => by cases h; rfl) (fun m h => by cases h; rfl), Bd, .nil⟩
theorem write_all {f : Addr} {fd : FuncData} (F : Fun K "write_datum" "write_datum" s_write_datum f fd) (m : mg "write_datum" = some (.ref f)) (kp : PySem.W.keepIn K (.ref f) = true) (b : Binds K fd ["datum"] []) (Y : BnK mg) : ∀ n, n ≤ 5 → Cal P w K mg base (n + 5) "write_datum" (spWr K n) []
  | 0, _ => by
    have c0 : Cal P w K mg base 1 "write_datum" spNo [] := ⟨f, fd, _, _, F.ok (k := 0) sc_write_datum (fun _ _ _ _ h => h.elim) (fun _ _ _ _ _ _ _ _ _ h => h.elim), m, kp, b, .nil⟩
    have hK : KeyOk P w K mg base 3 f ktV := ⟨fd, _, ok_write_key F Y ⟨_, m, rfl⟩ c0, b⟩
    exact ⟨f, fd, _, _, ok_write_datum (k := 4) (j := 1) F Y ⟨_, m, rfl⟩ hK (by decide) (by decide) (by decide) c0 (fun _ h => zero_succ h), m, kp, b, .nil⟩
  | n + 1, h => by
    have c0 : Cal P w K mg base 1 "write_datum" spNo [] := ⟨f, fd, _, _, F.ok (k := 0) sc_write_datum (fun _ _ _ _ h => h.elim) (fun _ _ _ _ _ _ _ _ _ h => h.elim), m, kp, b, .nil⟩
    have hK : KeyOk P w K mg base 3 f ktV := ⟨fd, _, ok_write_key F Y ⟨_, m, rfl⟩ c0, b⟩
    exact ⟨f, fd, _, _, ok_write_datum (k := n + 5) (j := n + 5) F Y ⟨_, m, rfl⟩ hK h (Nat.le_refl _) (by omega) (write_all F m kp b Y n (by omega)) (fun m h => by cases h; rfl), m, kp, b, .nil⟩
theorem ld_all {f : Addr} {fd : FuncData} (F : Fun K "_law_datum" "_law_datum" s_law_datum f fd) (m : mg "_law_datum" = some (.ref f)) (kp : PySem.W.keepIn K (.ref f) = true) (b : Binds K fd ["src", "depth"] []) (Y : BnK mg) (c_law_draw : Cal P w K mg base 1 "_law_draw" spDrawB []) (c_law_choice : Cal P w K mg base 2 "_law_choice" spChoice []) :
    ∀ n, Cal P w K mg base (n + 3) "_law_datum" (spLd K n) []
  | 0 => by
    have c0 : Cal P w K mg base 1 "_law_datum" spNo [] := ⟨f, fd, _, _, F.ok (k := 0) sc_law_datum (fun _ _ _ _ h => h.elim) (fun _ _ _ _ _ _ _ _ _ h => h.elim), m, kp, b, .nil⟩
    exact ⟨f, fd, _, _, ok_law_datum (k := 2) (j := 1) F Y c_law_draw c_law_choice (by decide) (by decide) c0 (fun _ h => zero_succ h), m, kp, b, .nil⟩
  | n + 1 => ⟨f, fd, _, _, ok_law_datum (k := n + 3) (j := n + 3) F Y c_law_draw c_law_choice (Nat.le_refl _) (by omega) (ld_all F m kp b Y c_law_draw c_law_choice n) (fun m h => by cases h; rfl), m, kp, b, .nil⟩
theorem wn_all {f : Addr} {fd : FuncData} (F : Fun K "_law_written" "_law_written" s_law_written f fd) (m : mg "_law_written" = some (.ref f)) (kp : PySem.W.keepIn K (.ref f) = true) (b : Binds K fd ["datum"] []) (Y : BnK mg) : ∀ n, n ≤ 4 → Cal P w K mg base (n + 2) "_law_written" (spWn K n) []
  | 0, _ => by
    have c0 : Cal P w K mg base 1 "_law_written" spNo [] := ⟨f, fd, _, _, F.ok (k := 0) sc_law_written (fun _ _ _ _ h => h.elim) (fun _ _ _ _ _ _ _ _ _ h => h.elim), m, kp, b, .nil⟩
    exact ⟨f, fd, _, _, ok_law_written (k := 1) (j := 1) F Y (by decide) (by decide) c0 (fun _ h => zero_succ h), m, kp, b, .nil⟩
  | n + 1, h => ⟨f, fd, _, _, ok_law_written (k := n + 2) (j := n + 2) F Y h (Nat.le_refl _) (wn_all F m kp b Y n (by omega)) (fun m h => by cases h; rfl), m, kp, b, .nil⟩
end
end
section
open PySem PySem.Spec PyProof.Rows L2
open C8 (Cal cal0 pe_c pe_gc pss_cut tCut)
/-- an error of the class at S is what «except S» names -/
theorem exm_self {K : PySem.W.Frag} {S : Addr} (h1 : PySem.W.subIn K (.ref S) (.type "BaseException") = some true) (h2 : PySem.W.isClsIn K S = true) (h3 : PySem.W.typeIn K (.ref S) = some (.type "type")) (h4 : PySem.W.subIn K (.ref S) (.ref S) = some true) :
    PySem.W.exmOne K (.ref S) (.ref S) = some true := by
  have e1 : (PySem.W.subIn K (.ref S) (.type "BaseException") == some true) = true := by rw [h1] <;> rfl
  have e2 : ((PySem.W.clsIn K S).isSome && PySem.W.typeIn K (.ref S) == some (.type "type")) = true := by
    have h2' : (PySem.W.clsIn K S).isSome = true := h2
    rw [h2', h3] <;> rfl
  show (if (PySem.W.subIn K (.ref S) (.type "BaseException") == some true) = true then (if ((PySem.W.clsIn K S).isSome && PySem.W.typeIn K (.ref S) == some (.type "type")) = true then PySem.W.subIn K (.ref S) (.ref S) else none) else none) = some true
  rw [if_pos e1, if_pos e2]
  exact h4
/-- texts of a tuple that the top has made -/
def valsT : List (List Nat) → List Value → Bool
  | [], [] => true
  | c :: l, .str x _ :: us => decide (x.cps.toList = c) && valsT l us
  | _, _ => false
theorem valsT_ok : ∀ {l : List (List Nat)} {us : List Value}, valsT l us = true → Vals (l.map T) us
  | [], [], _ => .nil
  | [], _ :: _, h => by cases h
  | _ :: _, [], h => by cases h
  | c :: l, u :: us, h => by
    cases u with
    | str x t =>
      have h' : (decide (x.cps.toList = c) && valsT l us) = true := h
      rw [Bool.and_eq_true, decide_eq_true_iff] at h'
      refine .cons ⟨t, ?_⟩ (valsT_ok h'.2)
      rw [← h'.1]
    | _ => cases h
theorem sqT_top {K : PySem.W.Frag} {a : Addr} {o : Option Addr} {its : Array Value} {n : Nat} {sl : Array (Option Value)} {l : List (List Nat)} (h : K.lookup a = some ⟨.type "tuple", o, .seq its n, sl⟩) (e : valsT l its.toList = true) (hl : l.length ≤ 1000) (H : Hp) : SqT K H a (l.map T) := by
  have v := valsT_ok e
  refine .inr ⟨_, its, n, h, rfl, rfl, ?_, v⟩
  have z : its.size = l.length := by
    have z := v.length
    rw [List.length_map] at z
    rw [z]
    exact Array.length_toList.symm
  rw [z]
  exact Nat.le_trans hl (by decide)
theorem kit_same {K : PySem.W.Frag} {C : Addr} : PySem.W.kitOne K (.ref C) (.ref C) = some true := by
  unfold PySem.W.kitOne
  rw [if_pos (beq_self_eq_true _)]
theorem kit_no {K : PySem.W.Frag} {C N : Addr} (h1 : PySem.W.subIn K (.ref C) (.ref C) = some true) (h2 : PySem.W.subIn K (.ref C) (.ref N) = some false) (h3 : PySem.W.isClsIn K N = true) (h4 : PySem.W.typeIn K (.ref N) = some (.type "type")) :
    PySem.W.kitOne K (.ref C) (.ref N) = some false := by
  unfold PySem.W.kitOne
  have ne : ¬ ((Value.ref C == Value.ref N) = true) := fun e => by
    have e' := beq_iff_eq.mp e
    rw [← e', h1] at h2
    cases h2
  rw [if_neg ne]
  have e2 : ((PySem.W.clsIn K N).isSome && PySem.W.typeIn K (.ref N) == some (.type "type")) = true := by
    have h3' : (PySem.W.clsIn K N).isSome = true := h3
    rw [h3', h4] <;> rfl
  show (if ((PySem.W.clsIn K N).isSome && PySem.W.typeIn K (.ref N) == some (.type "type")) = true then PySem.W.subIn K (.ref C) (.ref N) else none) = some false
  rw [if_pos e2]
  exact h2
theorem all_mk {P : Program} {w : World} {K : PySem.W.Frag} {h : Heap} {mg : Str → Option Value} {fa f0 f1 f2 f3 f4 f5 f6 f7 f8 f9 : Addr} (X : K.In h) (G : h.Ns mainGlobals mg) (hfa : mg "law" = some (.ref fa))
    {od0 an0 od1 an1 od2 an2 od3 an3 od4 an4 od5 an5 od6 an6 od7 an7 od8 an8 od9 an9 : Option Addr} {sl0 sl1 sl2 sl3 sl4 sl5 sl6 sl7 sl8 sl9 : Array (Option Value)} {oc0 kV0 dc0 pm0 cd0 ct0 oc1 kV1 dc1 pm1 cd1 ct1 oc2 kV2 dc2 pm2 cd2 ct2 oc3 kV3 dc3 pm3 cd3 ct3 oc4 kV4 dc4 pm4 cd4 ct4 oc5 kV5 dc5 pm5 cd5 ct5 oc6 kV6 dc6 pm6 cd6 ct6 oc7 kV7 dc7 pm7 cd7 ct7 oc8 kV8 dc8 pm8 cd8 ct8 oc9 kV9 dc9 pm9 cd9 ct9 : Value} {x_DIGITS : Str} {t_DIGITS : PySem.Tok} {t_NO_DATUM : PySem.Tok} {t_MOST_DIGITS : PySem.Tok} {t_DEEPEST : PySem.Tok} {C N cda cc fI : Addr} {nm q file : Str} {bs bm : List Value} {sn : List Str} {sub : List Value} {ab : Bool} {col : Option Bool} {dd : Option Addr} {m0 m1 m2 m3 m5 : Option Value} {ocI docI pmI ctI ccl ccl2 : Value} {odI anI cdd cdd2 : Option Addr} {oslI ccs ccs2 : Array (Option Value)} {qual : Str} {vs : Array Value} {tf : PySem.Tok} {CR : Addr} {q_dinit : Addr} {oc_dinit kV_dinit dc_dinit pm_dinit cd_dinit ct_dinit : Value} {od_dinit an_dinit : Option Addr} {sl_dinit : Array (Option Value)} {q_drefuse : Addr} {oc_drefuse kV_drefuse dc_drefuse pm_drefuse cd_drefuse ct_drefuse : Value} {od_drefuse an_drefuse : Option Addr} {sl_drefuse : Array (Option Value)} {q_dsign : Addr} {oc_dsign kV_dsign dc_dsign pm_dsign cd_dsign ct_dsign : Value} {od_dsign an_dsign : Option Addr} {sl_dsign : Array (Option Value)} {q_daccept : Addr} {oc_daccept kV_daccept dc_daccept pm_daccept cd_daccept ct_daccept : Value} {od_daccept an_daccept : Option Addr} {sl_daccept : Array (Option Value)} {q_ddatum : Addr} {oc_ddatum kV_ddatum dc_ddatum pm_ddatum cd_ddatum ct_ddatum : Value} {od_ddatum an_ddatum : Option Addr} {sl_ddatum : Array (Option Value)} {q_ddigits : Addr} {oc_ddigits kV_ddigits dc_ddigits pm_ddigits cd_ddigits ct_ddigits : Value} {od_ddigits an_ddigits : Option Addr} {sl_ddigits : Array (Option Value)} {q_dnumber : Addr} {oc_dnumber kV_dnumber dc_dnumber pm_dnumber cd_dnumber ct_dnumber : Value} {od_dnumber an_dnumber : Option Addr} {sl_dnumber : Array (Option Value)} {q_dstring : Addr} {oc_dstring kV_dstring dc_dstring pm_dstring cd_dstring ct_dstring : Value} {od_dstring an_dstring : Option Addr} {sl_dstring : Array (Option Value)} {q_dparts : Addr} {oc_dparts kV_dparts dc_dparts pm_dparts cd_dparts ct_dparts : Value} {od_dparts an_dparts : Option Addr} {sl_dparts : Array (Option Value)} {q_dpairs : Addr} {oc_dpairs kV_dpairs dc_dpairs pm_dpairs cd_dpairs ct_dpairs : Value} {od_dpairs an_dpairs : Option Addr} {sl_dpairs : Array (Option Value)} {a_CO : Addr} {es_CO : Array DictEntry} {en_CO : Nat}
    (a0 : PySem.W.nsIn K mainGlobals "write_datum" = some (some (.ref f0)))
    (l0 : K.lookup f0 = some ⟨oc0, od0, .func (PySem.W.fnOf "write_datum" "write_datum" (defArgs s_write_datum) (defBody s_write_datum) (defScope s_write_datum) .none kV0 dc0 pm0 an0 cd0 ct0), sl0⟩)
    (c0 : PySem.W.codeIn K cd0 "write_datum" = true)
    (k0 : PySem.W.keepIn K (.ref f0) = true)
    (a1 : PySem.W.nsIn K mainGlobals "read_datum" = some (some (.ref f1)))
    (l1 : K.lookup f1 = some ⟨oc1, od1, .func (PySem.W.fnOf "read_datum" "read_datum" (defArgs s_read_datum) (defBody s_read_datum) (defScope s_read_datum) .none kV1 dc1 pm1 an1 cd1 ct1), sl1⟩)
    (c1 : PySem.W.codeIn K cd1 "read_datum" = true)
    (k1 : PySem.W.keepIn K (.ref f1) = true)
    (a2 : PySem.W.nsIn K mainGlobals "_are_digits" = some (some (.ref f2)))
    (l2 : K.lookup f2 = some ⟨oc2, od2, .func (PySem.W.fnOf "_are_digits" "_are_digits" (defArgs s_are_digits) (defBody s_are_digits) (defScope s_are_digits) .none kV2 dc2 pm2 an2 cd2 ct2), sl2⟩)
    (c2 : PySem.W.codeIn K cd2 "_are_digits" = true)
    (k2 : PySem.W.keepIn K (.ref f2) = true)
    (a3 : PySem.W.nsIn K mainGlobals "_law_draw" = some (some (.ref f3)))
    (l3 : K.lookup f3 = some ⟨oc3, od3, .func (PySem.W.fnOf "_law_draw" "_law_draw" (defArgs s_law_draw) (defBody s_law_draw) (defScope s_law_draw) .none kV3 dc3 pm3 an3 cd3 ct3), sl3⟩)
    (c3 : PySem.W.codeIn K cd3 "_law_draw" = true)
    (k3 : PySem.W.keepIn K (.ref f3) = true)
    (a4 : PySem.W.nsIn K mainGlobals "_law_source" = some (some (.ref f4)))
    (l4 : K.lookup f4 = some ⟨oc4, od4, .func (PySem.W.fnOf "_law_source" "_law_source" (defArgs s_law_source) (defBody s_law_source) (defScope s_law_source) .none kV4 dc4 pm4 an4 cd4 ct4), sl4⟩)
    (c4 : PySem.W.codeIn K cd4 "_law_source" = true)
    (k4 : PySem.W.keepIn K (.ref f4) = true)
    (a5 : PySem.W.nsIn K mainGlobals "_law_choice" = some (some (.ref f5)))
    (l5 : K.lookup f5 = some ⟨oc5, od5, .func (PySem.W.fnOf "_law_choice" "_law_choice" (defArgs s_law_choice) (defBody s_law_choice) (defScope s_law_choice) .none kV5 dc5 pm5 an5 cd5 ct5), sl5⟩)
    (c5 : PySem.W.codeIn K cd5 "_law_choice" = true)
    (k5 : PySem.W.keepIn K (.ref f5) = true)
    (a6 : PySem.W.nsIn K mainGlobals "_law_datum" = some (some (.ref f6)))
    (l6 : K.lookup f6 = some ⟨oc6, od6, .func (PySem.W.fnOf "_law_datum" "_law_datum" (defArgs s_law_datum) (defBody s_law_datum) (defScope s_law_datum) .none kV6 dc6 pm6 an6 cd6 ct6), sl6⟩)
    (c6 : PySem.W.codeIn K cd6 "_law_datum" = true)
    (k6 : PySem.W.keepIn K (.ref f6) = true)
    (a7 : PySem.W.nsIn K mainGlobals "_law_written" = some (some (.ref f7)))
    (l7 : K.lookup f7 = some ⟨oc7, od7, .func (PySem.W.fnOf "_law_written" "_law_written" (defArgs s_law_written) (defBody s_law_written) (defScope s_law_written) .none kV7 dc7 pm7 an7 cd7 ct7), sl7⟩)
    (c7 : PySem.W.codeIn K cd7 "_law_written" = true)
    (k7 : PySem.W.keepIn K (.ref f7) = true)
    (a8 : PySem.W.nsIn K mainGlobals "_law_refused" = some (some (.ref f8)))
    (l8 : K.lookup f8 = some ⟨oc8, od8, .func (PySem.W.fnOf "_law_refused" "_law_refused" (defArgs s_law_refused) (defBody s_law_refused) (defScope s_law_refused) .none kV8 dc8 pm8 an8 cd8 ct8), sl8⟩)
    (c8 : PySem.W.codeIn K cd8 "_law_refused" = true)
    (k8 : PySem.W.keepIn K (.ref f8) = true)
    (a9 : PySem.W.nsIn K mainGlobals "law" = some (some (.ref f9)))
    (l9 : K.lookup f9 = some ⟨oc9, od9, .func (PySem.W.fnOf "law" "law" (defArgs s_law) (defBody s_law) (defScope s_law) .none kV9 dc9 pm9 an9 cd9 ct9), sl9⟩)
    (c9 : PySem.W.codeIn K cd9 "law" = true)
    (k9 : PySem.W.keepIn K (.ref f9) = true)
    (z_len : PySem.W.nsIn K mainGlobals "len" = some none)
    (z_int : PySem.W.nsIn K mainGlobals "int" = some none)
    (z_list : PySem.W.nsIn K mainGlobals "list" = some none)
    (z_range : PySem.W.nsIn K mainGlobals "range" = some none)
    (z_max : PySem.W.nsIn K mainGlobals "max" = some none)
    (z_str : PySem.W.nsIn K mainGlobals "str" = some none)
    (z_isinstance : PySem.W.nsIn K mainGlobals "isinstance" = some none)
    (z_bool : PySem.W.nsIn K mainGlobals "bool" = some none)
    (z_ord : PySem.W.nsIn K mainGlobals "ord" = some none)
    (z_tuple : PySem.W.nsIn K mainGlobals "tuple" = some none)
    (z_enumerate : PySem.W.nsIn K mainGlobals "enumerate" = some none)
    (z_min : PySem.W.nsIn K mainGlobals "min" = some none)
    (z_abs : PySem.W.nsIn K mainGlobals "abs" = some none)
    (z_all : PySem.W.nsIn K mainGlobals "all" = some none)
    (z_any : PySem.W.nsIn K mainGlobals "any" = some none)
    (z_sorted : PySem.W.nsIn K mainGlobals "sorted" = some none)
    (z_sum : PySem.W.nsIn K mainGlobals "sum" = some none)
    (z_dict : PySem.W.nsIn K mainGlobals "dict" = some none)
    (g_DIGITS : PySem.W.nsIn K mainGlobals "DIGITS" = some (some (.str x_DIGITS t_DIGITS)))
    (e_DIGITS : x_DIGITS = ⟨(cds "0123456789" : List Nat).toArray⟩)
    (g_NO_DATUM : PySem.W.nsIn K mainGlobals "NO_DATUM" = some (some (.int 2 t_NO_DATUM)))
    (g_MOST_DIGITS : PySem.W.nsIn K mainGlobals "MOST_DIGITS" = some (some (.int 20 t_MOST_DIGITS)))
    (g_DEEPEST : PySem.W.nsIn K mainGlobals "DEEPEST" = some (some (.int 40 t_DEEPEST)))
    (sC : PySem.W.nsIn K mainGlobals "FileError" = some (some (.ref C)))
    (sL : K.lookup C = some (excClassObj nm q C N bs bm true sn sub ab col dd m0 m1 m2 m3 m5 "ValueError.__new__"))
    (sV : PySem.HandSPX.refsVE bm = true)
    (sA : PySem.W.findIn K (.ref C) "__setattr__" = some (some (.builtin "object.__setattr__")))
    (sG : PySem.W.findIn K (.ref C) "__getattribute__" = some (some (.builtin "BaseException.__getattribute__")))
    (sH : PySem.W.findIn K (.ref C) "__getattr__" = some none)
    (sN : PySem.W.findIn K (.ref C) "at" = some none)
    (sI : PySem.W.findIn K (.ref C) "__init__" = some (some (.ref fI)))
    (sT : PySem.W.typeIn K (.ref fI) = some (.type "function"))
    (sK : PySem.W.keepIn K (.ref C) = true)
    (sB : PySem.W.subIn K (.ref C) (.type "BaseException") = some true)
    (sE : PySem.W.subIn K (.ref C) (.type "ValueError") = some true)
    (sY : PySem.W.typeIn K (.ref C) = some (.type "type"))
    (sD : PySem.W.hasDictIn K C = true)
    (sJ : PySem.W.isClsIn K C = true)
    (sS : PySem.W.subIn K (.ref C) (.ref C) = some true)
    (sO : PySem.W.nsIn K cStatics "thirdparty.any" = some none)
    (sU : PySem.W.ks_superIn K C C "__init__" = some (some (.builtin "ValueError.__init__")))
    (sM : PySem.W.mroIn K C (.ref C) = some true)
    (sF : PySem.W.nsIn K mainGlobals "super" = some none)
    (sP : (P.main.scope.names.lookup ("super" : Str)).isSome = false)
    (sQ : K.lookup fI = some ⟨ocI, odI, .func (PySem.W.fnX "__init__" qual PySem.FilX.eA PySem.FilX.eB PySem.FilX.eS [("__class__", cc)] .none .none docI pmI anI (.ref cda) ctI), oslI⟩)
    (sR : PySem.W.codeIn K (.ref cda) qual = true)
    (sW : K.lookup cda = some ⟨ccl, cdd, .fields vs, ccs⟩)
    (sX : vs[2]? = some (.str file tf))
    (sZ : ((P.main.file : Str) == file) = true)
    (s0 : K.lookup cc = some ⟨ccl2, cdd2, .cell (some (.ref C)), ccs2⟩)
    (dC : PySem.W.nsIn K mainGlobals "DatumReader" = some (some (.ref CR)))
    (dG : PySem.W.plainGet K CR Str.empty = true)
    (dD : PySem.W.hasDictIn K CR = true)
    (dO : PySem.W.plainOver K CR = true)
    (dS : PySem.W.findIn K (.ref CR) "__setattr__" = some (some (.builtin "object.__setattr__")))
    (dM : PySem.W.makesIn K CR = true)
    (dK : PySem.W.keepIn K (.ref CR) = true)
    (dn_text : PySem.W.findIn K (.ref CR) "text" = some none)
    (dn_at : PySem.W.findIn K (.ref CR) "at" = some none)
    (qi_dinit : PySem.W.findIn K (.ref CR) "__init__" = some (some (.ref q_dinit)))
    (qf_dinit : PySem.W.isFn K (.ref q_dinit) = true)
    (ql_dinit : K.lookup q_dinit = some ⟨oc_dinit, od_dinit, .func (PySem.W.fnOf "__init__" "DatumReader.__init__" (defArgs s_DatumReader___init__) (defBody s_DatumReader___init__) (defScope s_DatumReader___init__) .none kV_dinit dc_dinit pm_dinit an_dinit cd_dinit ct_dinit), sl_dinit⟩)
    (qc_dinit : PySem.W.codeIn K cd_dinit "DatumReader.__init__" = true)
    (qk_dinit : PySem.W.keepIn K (.ref q_dinit) = true)
    (qi_drefuse : PySem.W.findIn K (.ref CR) "refuse" = some (some (.ref q_drefuse)))
    (qf_drefuse : PySem.W.isFn K (.ref q_drefuse) = true)
    (ql_drefuse : K.lookup q_drefuse = some ⟨oc_drefuse, od_drefuse, .func (PySem.W.fnOf "refuse" "DatumReader.refuse" (defArgs s_DatumReader_refuse) (defBody s_DatumReader_refuse) (defScope s_DatumReader_refuse) .none kV_drefuse dc_drefuse pm_drefuse an_drefuse cd_drefuse ct_drefuse), sl_drefuse⟩)
    (qc_drefuse : PySem.W.codeIn K cd_drefuse "DatumReader.refuse" = true)
    (qk_drefuse : PySem.W.keepIn K (.ref q_drefuse) = true)
    (qi_dsign : PySem.W.findIn K (.ref CR) "sign" = some (some (.ref q_dsign)))
    (qf_dsign : PySem.W.isFn K (.ref q_dsign) = true)
    (ql_dsign : K.lookup q_dsign = some ⟨oc_dsign, od_dsign, .func (PySem.W.fnOf "sign" "DatumReader.sign" (defArgs s_DatumReader_sign) (defBody s_DatumReader_sign) (defScope s_DatumReader_sign) .none kV_dsign dc_dsign pm_dsign an_dsign cd_dsign ct_dsign), sl_dsign⟩)
    (qc_dsign : PySem.W.codeIn K cd_dsign "DatumReader.sign" = true)
    (qk_dsign : PySem.W.keepIn K (.ref q_dsign) = true)
    (qi_daccept : PySem.W.findIn K (.ref CR) "accept" = some (some (.ref q_daccept)))
    (qf_daccept : PySem.W.isFn K (.ref q_daccept) = true)
    (ql_daccept : K.lookup q_daccept = some ⟨oc_daccept, od_daccept, .func (PySem.W.fnOf "accept" "DatumReader.accept" (defArgs s_DatumReader_accept) (defBody s_DatumReader_accept) (defScope s_DatumReader_accept) .none kV_daccept dc_daccept pm_daccept an_daccept cd_daccept ct_daccept), sl_daccept⟩)
    (qc_daccept : PySem.W.codeIn K cd_daccept "DatumReader.accept" = true)
    (qk_daccept : PySem.W.keepIn K (.ref q_daccept) = true)
    (qi_ddatum : PySem.W.findIn K (.ref CR) "datum" = some (some (.ref q_ddatum)))
    (qf_ddatum : PySem.W.isFn K (.ref q_ddatum) = true)
    (ql_ddatum : K.lookup q_ddatum = some ⟨oc_ddatum, od_ddatum, .func (PySem.W.fnOf "datum" "DatumReader.datum" (defArgs s_DatumReader_datum) (defBody s_DatumReader_datum) (defScope s_DatumReader_datum) .none kV_ddatum dc_ddatum pm_ddatum an_ddatum cd_ddatum ct_ddatum), sl_ddatum⟩)
    (qc_ddatum : PySem.W.codeIn K cd_ddatum "DatumReader.datum" = true)
    (qk_ddatum : PySem.W.keepIn K (.ref q_ddatum) = true)
    (qi_ddigits : PySem.W.findIn K (.ref CR) "digits" = some (some (.ref q_ddigits)))
    (qf_ddigits : PySem.W.isFn K (.ref q_ddigits) = true)
    (ql_ddigits : K.lookup q_ddigits = some ⟨oc_ddigits, od_ddigits, .func (PySem.W.fnOf "digits" "DatumReader.digits" (defArgs s_DatumReader_digits) (defBody s_DatumReader_digits) (defScope s_DatumReader_digits) .none kV_ddigits dc_ddigits pm_ddigits an_ddigits cd_ddigits ct_ddigits), sl_ddigits⟩)
    (qc_ddigits : PySem.W.codeIn K cd_ddigits "DatumReader.digits" = true)
    (qk_ddigits : PySem.W.keepIn K (.ref q_ddigits) = true)
    (qi_dnumber : PySem.W.findIn K (.ref CR) "number" = some (some (.ref q_dnumber)))
    (qf_dnumber : PySem.W.isFn K (.ref q_dnumber) = true)
    (ql_dnumber : K.lookup q_dnumber = some ⟨oc_dnumber, od_dnumber, .func (PySem.W.fnOf "number" "DatumReader.number" (defArgs s_DatumReader_number) (defBody s_DatumReader_number) (defScope s_DatumReader_number) .none kV_dnumber dc_dnumber pm_dnumber an_dnumber cd_dnumber ct_dnumber), sl_dnumber⟩)
    (qc_dnumber : PySem.W.codeIn K cd_dnumber "DatumReader.number" = true)
    (qk_dnumber : PySem.W.keepIn K (.ref q_dnumber) = true)
    (qi_dstring : PySem.W.findIn K (.ref CR) "string" = some (some (.ref q_dstring)))
    (qf_dstring : PySem.W.isFn K (.ref q_dstring) = true)
    (ql_dstring : K.lookup q_dstring = some ⟨oc_dstring, od_dstring, .func (PySem.W.fnOf "string" "DatumReader.string" (defArgs s_DatumReader_string) (defBody s_DatumReader_string) (defScope s_DatumReader_string) .none kV_dstring dc_dstring pm_dstring an_dstring cd_dstring ct_dstring), sl_dstring⟩)
    (qc_dstring : PySem.W.codeIn K cd_dstring "DatumReader.string" = true)
    (qk_dstring : PySem.W.keepIn K (.ref q_dstring) = true)
    (qi_dparts : PySem.W.findIn K (.ref CR) "parts" = some (some (.ref q_dparts)))
    (qf_dparts : PySem.W.isFn K (.ref q_dparts) = true)
    (ql_dparts : K.lookup q_dparts = some ⟨oc_dparts, od_dparts, .func (PySem.W.fnOf "parts" "DatumReader.parts" (defArgs s_DatumReader_parts) (defBody s_DatumReader_parts) (defScope s_DatumReader_parts) .none kV_dparts dc_dparts pm_dparts an_dparts cd_dparts ct_dparts), sl_dparts⟩)
    (qc_dparts : PySem.W.codeIn K cd_dparts "DatumReader.parts" = true)
    (qk_dparts : PySem.W.keepIn K (.ref q_dparts) = true)
    (qi_dpairs : PySem.W.findIn K (.ref CR) "pairs" = some (some (.ref q_dpairs)))
    (qf_dpairs : PySem.W.isFn K (.ref q_dpairs) = true)
    (ql_dpairs : K.lookup q_dpairs = some ⟨oc_dpairs, od_dpairs, .func (PySem.W.fnOf "pairs" "DatumReader.pairs" (defArgs s_DatumReader_pairs) (defBody s_DatumReader_pairs) (defScope s_DatumReader_pairs) .none kV_dpairs dc_dpairs pm_dpairs an_dpairs cd_dpairs ct_dpairs), sl_dpairs⟩)
    (qc_dpairs : PySem.W.codeIn K cd_dpairs "DatumReader.pairs" = true)
    (qk_dpairs : PySem.W.keepIn K (.ref q_dpairs) = true)
    (dg_CO : PySem.W.nsIn K mainGlobals "CONSTANTS" = some (some (.ref a_CO)))
    (dl_CO : K.lookup a_CO = some ⟨.type "dict", none, .dict es_CO en_CO, #[]⟩)
    (dk_CO : es_CO.toList.map He.keyOf = He.keysIn w.params ["N", "T", "F"])
    (de_CO : entB es_CO.toList ctab = true)
    (do_CO : (a_CO == sysModules) = false)
    : ∃ fd : FuncData, (∀ (s : Shared) (v : Value), BindsTo s fd ⟨[v], []⟩ [("script", v)]) ∧ ∀ base : Heap, K.In base → base.Ns mainGlobals mg → FnOk P w K mg base CX0 15 fa fd ["script"] (spLaw K) := by
  have e := hfa.symm.trans (PySem.W.mg_of X G a9)
  cases e
  have Y : BnK mg := ⟨⟨PySem.W.mg_none_of X G z_len, PySem.W.mg_none_of X G z_int, PySem.W.mg_none_of X G z_list, PySem.W.mg_none_of X G z_range, PySem.W.mg_none_of X G z_max, PySem.W.mg_none_of X G z_str, PySem.W.mg_none_of X G z_isinstance, PySem.W.mg_none_of X G z_bool, PySem.W.mg_none_of X G z_ord, PySem.W.mg_none_of X G z_tuple, PySem.W.mg_none_of X G z_enumerate, PySem.W.mg_none_of X G z_min, PySem.W.mg_none_of X G z_abs, PySem.W.mg_none_of X G z_all, PySem.W.mg_none_of X G z_any, PySem.W.mg_none_of X G z_sorted, PySem.W.mg_none_of X G z_sum⟩, PySem.W.mg_none_of X G z_dict⟩
  have src : PySem.FilX.FilTxt P K mg "FileError" C fI := {
    gC := PySem.W.mg_of X G sC, cls := ⟨nm, q, N, bs, bm, sn, sub, ab, col, dd, m0, m1, m2, m3, m5, sL, sV⟩, sa := sA, ga := sG, gg := sH, noN := sN, iC := sI, tC := sT, kC := sK, exC := sB, veC := sE, tyC := sY, hdC := sD,
    te := exm_self sB sJ sY sS, op := sO, up := sU, mr := sM, su := PySem.W.mg_none_of X G sF, top := sP,
    fn := ⟨ocI, odI, docI, pmI, anI, cda, cc, ctI, oslI, qual, ccl, ccl2, cdd, cdd2, ccs, ccs2, vs, file, tf, sQ, sR, sW, sX, sZ, s0⟩ }
  have dcl : Cls K CR := ⟨dG, dD, dO, dS⟩
  have M_dinit : Meth K CR "__init__" q_dinit := ⟨qi_dinit, qf_dinit, qk_dinit⟩
  have D_dinit := fun_mk (st := s_DatumReader___init__) ql_dinit qc_dinit qk_dinit
  have B_dinit := D_dinit.binds (ps := ["self", "text"]) fun _ _ _ _ _ _ us hl => match us, hl with | [_, _], _ => rfl
  have M_drefuse : Meth K CR "refuse" q_drefuse := ⟨qi_drefuse, qf_drefuse, qk_drefuse⟩
  have D_drefuse := fun_mk (st := s_DatumReader_refuse) ql_drefuse qc_drefuse qk_drefuse
  have B_drefuse := D_drefuse.binds (ps := ["self"]) fun _ _ _ _ _ _ us hl => match us, hl with | [_], _ => rfl
  have M_dsign : Meth K CR "sign" q_dsign := ⟨qi_dsign, qf_dsign, qk_dsign⟩
  have D_dsign := fun_mk (st := s_DatumReader_sign) ql_dsign qc_dsign qk_dsign
  have B_dsign := D_dsign.binds (ps := ["self"]) fun _ _ _ _ _ _ us hl => match us, hl with | [_], _ => rfl
  have M_daccept : Meth K CR "accept" q_daccept := ⟨qi_daccept, qf_daccept, qk_daccept⟩
  have D_daccept := fun_mk (st := s_DatumReader_accept) ql_daccept qc_daccept qk_daccept
  have B_daccept := D_daccept.binds (ps := ["self", "sign"]) fun _ _ _ _ _ _ us hl => match us, hl with | [_, _], _ => rfl
  have M_ddatum : Meth K CR "datum" q_ddatum := ⟨qi_ddatum, qf_ddatum, qk_ddatum⟩
  have D_ddatum := fun_mk (st := s_DatumReader_datum) ql_ddatum qc_ddatum qk_ddatum
  have B_ddatum := D_ddatum.binds (ps := ["self", "depth"]) fun _ _ _ _ _ _ us hl => match us, hl with | [_, _], _ => rfl
  have M_ddigits : Meth K CR "digits" q_ddigits := ⟨qi_ddigits, qf_ddigits, qk_ddigits⟩
  have D_ddigits := fun_mk (st := s_DatumReader_digits) ql_ddigits qc_ddigits qk_ddigits
  have B_ddigits := D_ddigits.binds (ps := ["self", "end"]) fun _ _ _ _ _ _ us hl => match us, hl with | [_, _], _ => rfl
  have M_dnumber : Meth K CR "number" q_dnumber := ⟨qi_dnumber, qf_dnumber, qk_dnumber⟩
  have D_dnumber := fun_mk (st := s_DatumReader_number) ql_dnumber qc_dnumber qk_dnumber
  have B_dnumber := D_dnumber.binds (ps := ["self"]) fun _ _ _ _ _ _ us hl => match us, hl with | [_], _ => rfl
  have M_dstring : Meth K CR "string" q_dstring := ⟨qi_dstring, qf_dstring, qk_dstring⟩
  have D_dstring := fun_mk (st := s_DatumReader_string) ql_dstring qc_dstring qk_dstring
  have B_dstring := D_dstring.binds (ps := ["self"]) fun _ _ _ _ _ _ us hl => match us, hl with | [_], _ => rfl
  have M_dparts : Meth K CR "parts" q_dparts := ⟨qi_dparts, qf_dparts, qk_dparts⟩
  have D_dparts := fun_mk (st := s_DatumReader_parts) ql_dparts qc_dparts qk_dparts
  have B_dparts := D_dparts.binds (ps := ["self", "end", "depth"]) fun _ _ _ _ _ _ us hl => match us, hl with | [_, _, _], _ => rfl
  have M_dpairs : Meth K CR "pairs" q_dpairs := ⟨qi_dpairs, qf_dpairs, qk_dpairs⟩
  have D_dpairs := fun_mk (st := s_DatumReader_pairs) ql_dpairs qc_dpairs qk_dpairs
  have B_dpairs := D_dpairs.binds (ps := ["self", "depth"]) fun _ _ _ _ _ _ us hl => match us, hl with | [_, _], _ => rfl
  have Z : DrTx K mg CR := ⟨dcl, dn_text, dn_at, ⟨_, PySem.W.mg_of X G g_NO_DATUM, ⟨t_NO_DATUM, rfl⟩⟩, ⟨_, PySem.W.mg_of X G g_MOST_DIGITS, ⟨t_MOST_DIGITS, rfl⟩⟩, ⟨_, PySem.W.mg_of X G g_DEEPEST, ⟨t_DEEPEST, rfl⟩⟩, ⟨_, PySem.W.mg_of X G g_DIGITS, ⟨t_DIGITS, by rw [e_DIGITS]⟩⟩⟩
  have ZC : DcTx K mg CR a_CO := ⟨Z, ⟨_, PySem.W.mg_of X G dg_CO, rfl⟩⟩
  have F0 := fun_mk (st := s_write_datum) l0 c0 k0
  have b0 := F0.binds (ps := ["datum"]) fun _ _ _ _ _ _ us hl => match us, hl with | [_], _ => rfl
  have m0 := PySem.W.mg_of X G a0
  have F1 := fun_mk (st := s_read_datum) l1 c1 k1
  have b1 := F1.binds (ps := ["text"]) fun _ _ _ _ _ _ us hl => match us, hl with | [_], _ => rfl
  have m1 := PySem.W.mg_of X G a1
  have F2 := fun_mk (st := s_are_digits) l2 c2 k2
  have b2 := F2.binds (ps := ["text"]) fun _ _ _ _ _ _ us hl => match us, hl with | [_], _ => rfl
  have m2 := PySem.W.mg_of X G a2
  have F3 := fun_mk (st := s_law_draw) l3 c3 k3
  have b3 := F3.binds (ps := ["src", "many"]) fun _ _ _ _ _ _ us hl => match us, hl with | [_, _], _ => rfl
  have m3 := PySem.W.mg_of X G a3
  have F4 := fun_mk (st := s_law_source) l4 c4 k4
  have b4 := F4.binds (ps := ["script", "k"]) fun _ _ _ _ _ _ us hl => match us, hl with | [_, _], _ => rfl
  have m4 := PySem.W.mg_of X G a4
  have F5 := fun_mk (st := s_law_choice) l5 c5 k5
  have b5 := F5.binds (ps := ["src", "options"]) fun _ _ _ _ _ _ us hl => match us, hl with | [_, _], _ => rfl
  have m5 := PySem.W.mg_of X G a5
  have F6 := fun_mk (st := s_law_datum) l6 c6 k6
  have b6 := F6.binds (ps := ["src", "depth"]) fun _ _ _ _ _ _ us hl => match us, hl with | [_, _], _ => rfl
  have m6 := PySem.W.mg_of X G a6
  have F7 := fun_mk (st := s_law_written) l7 c7 k7
  have b7 := F7.binds (ps := ["datum"]) fun _ _ _ _ _ _ us hl => match us, hl with | [_], _ => rfl
  have m7 := PySem.W.mg_of X G a7
  have F8 := fun_mk (st := s_law_refused) l8 c8 k8
  have b8 := F8.binds (ps := ["text"]) fun _ _ _ _ _ _ us hl => match us, hl with | [_], _ => rfl
  have m8 := PySem.W.mg_of X G a8
  have F9 := fun_mk (st := s_law) l9 c9 k9
  refine ⟨PySem.W.fnOf "law" "law" (defArgs s_law) (defBody s_law) (defScope s_law) .none kV9 dc9 pm9 an9 cd9 ct9, fun s v => .of_eq rfl, fun base _ _ => ?_⟩
  have c_are_digits : Cal P w K mg base 1 "_are_digits" spAreD [] := ⟨f2, _, _, _, ok_are_digits F2 Y Z, m2, k2, b2, .nil⟩
  have m_refuse : MetX P w K mg base 1 CR "refuse" (spRefu C CR) [] := ⟨q_drefuse, _, _, [], dcl, M_drefuse, ok_refuse D_drefuse Z src, B_drefuse, .nil⟩
  have m_sign : C8.Met P w K mg base 1 CR "sign" (spSign CR) [] := ⟨q_dsign, _, _, [], dcl, M_dsign, ok_sign D_dsign Z, B_dsign, .nil⟩
  have m_accept : C8.Met P w K mg base 2 CR "accept" (spAcc CR) [] := ⟨q_daccept, _, _, [], dcl, M_daccept, ok_accept D_daccept Z m_sign, B_daccept, .nil⟩
  have m_digits : MetX P w K mg base 2 CR "digits" (spDig C CR) [] := ⟨q_ddigits, _, _, [], dcl, M_ddigits, ok_digits D_ddigits Y Z c_are_digits m_refuse, B_ddigits, .nil⟩
  have m_number : MetX P w K mg base 3 CR "number" (spNumb C CR) [] := ⟨q_dnumber, _, _, [], dcl, M_dnumber, ok_number D_dnumber Y Z m_accept m_digits m_refuse, B_dnumber, .nil⟩
  have m_string : MetX P w K mg base 3 CR "string" (spStrg C CR) [] := ⟨q_dstring, _, _, [], dcl, M_dstring, ok_string D_dstring Y Z m_digits m_refuse, B_dstring, .nil⟩
  have m_datum : MetX P w K mg base 12 CR "datum" (spDat K C CR 4) [] := dat_all D_ddatum D_dparts D_dpairs dcl M_ddatum M_dparts M_dpairs B_ddatum B_dparts B_dpairs Y ZC (kd_mk dl_CO dk_CO do_CO) (nsIn_ent dl_CO de_CO) m_sign m_accept m_refuse m_number m_string 4
  have c_DatumReader : C8.Mak P w K mg base 1 "DatumReader" CR (spRinit CR) [] := ⟨q_dinit, _, _, [], ⟨dM, qi_dinit, qf_dinit, dK⟩, ok_init D_dinit Z, PySem.W.mg_of X G dC, B_dinit, .nil⟩
  have cread_datum : CalX P w K mg base 13 "read_datum" (spRead K C) := ⟨f1, _, _, ok_read_datum F1 Y Z c_DatumReader m_refuse m_datum, m1, k1, b1⟩
  have cwrite_datum : Cal P w K mg base 9 "write_datum" (spWr K 4) [] := write_all F0 m0 k0 b0 Y 4 (by decide)
  have c_law_draw : Cal P w K mg base 1 "_law_draw" spDrawB [] := ⟨f3, _, _, _, ok_law_draw F3 Y.toBn, m3, k3, b3, .nil⟩
  have c_law_source : Cal P w K mg base 1 "_law_source" (spSource K) [] := ⟨f4, _, _, _, ok_law_source F4 Y.toBn, m4, k4, b4, .nil⟩
  have c_law_choice : Cal P w K mg base 2 "_law_choice" spChoice [] := ⟨f5, _, _, _, ok_law_choice F5 Y.toBn c_law_draw, m5, k5, b5, .nil⟩
  have c_law_datum : Cal P w K mg base 7 "_law_datum" (spLd K 4) [] := ld_all F6 m6 k6 b6 Y c_law_draw c_law_choice 4
  have c_law_written : Cal P w K mg base 6 "_law_written" (spWn K 4) [] := wn_all F7 m7 k7 b7 Y 4 (by decide)
  have c_law_refused : Cal P w K mg base 14 "_law_refused" spRefd [] := ⟨f8, _, _, _, ok_law_refused F8 Y src cread_datum, m8, k8, b8, .nil⟩
  exact ok_law F9 Y c_law_source c_law_choice c_law_datum cwrite_datum c_law_written cread_datum c_law_refused
theorem walk {l : PySem.W.OpenLaw} {q : Program} {loose : List Str} {XP : (Str → Option Value) → Heap → Prop} {YP : World → Heap → Prop} {d : DefRec} {K : Params → PySem.W.Frag} (hn : l.most = some 63) (hdf : d.params.defaults = [])
    (hY : ∀ (w : World) (h : Heap), YP w h → (K w.params).In h)
    (F : ∀ (w : World) (mg : Str → Option Value) (fa : Addr) (h : Heap), (K w.params).In h → h.Ns mainGlobals mg → mg d.name = some (.ref fa) →
      ∃ fd : FuncData, (∀ (s : Shared) (u : Value), BindsTo s fd ⟨[u], []⟩ [("script", u)]) ∧ ∀ base : Heap, (K w.params).In base → base.Ns mainGlobals mg → FnOk l.prog w (K w.params) mg base CX0 15 fa fd ["script"] (spLaw (K w.params))) :
    PySem.W.WalkO q loose XP YP l.row.toRowW d [] (fun f vs => PySem.call f vs) :=
  L2.walk_of (n := 63) (k := 15) (x := "script") (CX := fun _ => CX0) (sp := fun w => spLaw (K w.params)) hn (by decide) hdf ⟨rfl, by decide, by decide⟩ hY F (fun _ _ a ns hl _ hS => ⟨a, ns, rfl, hS, hl, fun _ => rfl⟩) fun _ _ _ _ _ z => z
end
end Lv

open PySem PySem.W PyProof.Rows in
set_option maxRecDepth 100000 in
set_option maxHeartbeats 0 in
theorem PySem.Challenge.cw_livestead_k32_data_as_texts_holds : PySem.Challenge.rw_livestead_k32_data_as_texts.Holds := by
  w_on; o_law; k_head; (case hw => w_witness2)
  k_fill
  refine Lv.walk (l := PySem.Challenge.rw_livestead_k32_data_as_texts) rfl rfl (fun w h Y => PySem.W.kIn_of Y) ?F
  case F =>
    intro w mg fa h KX G hmg
    refine' Lv.all_mk (P := PySem.Challenge.rw_livestead_k32_data_as_texts.prog) KX G hmg ?a0 ?l0 ?c0 ?k0 ?a1 ?l1 ?c1 ?k1 ?a2 ?l2 ?c2 ?k2 ?a3 ?l3 ?c3 ?k3 ?a4 ?l4 ?c4 ?k4 ?a5 ?l5 ?c5 ?k5 ?a6 ?l6 ?c6 ?k6 ?a7 ?l7 ?c7 ?k7 ?a8 ?l8 ?c8 ?k8 ?a9 ?l9 ?c9 ?k9 ?z_len ?z_int ?z_list ?z_range ?z_max ?z_str ?z_isinstance ?z_bool ?z_ord ?z_tuple ?z_enumerate ?z_min ?z_abs ?z_all ?z_any ?z_sorted ?z_sum ?z_dict ?g_DIGITS ?e_DIGITS ?g_NO_DATUM ?g_MOST_DIGITS ?g_DEEPEST ?sC ?sL ?sV ?sA ?sG ?sH ?sN ?sI ?sT ?sK ?sB ?sE ?sY ?sD ?sJ ?sS ?sO ?sU ?sM ?sF ?sP ?sQ ?sR ?sW ?sX ?sZ ?s0 ?dC ?dG ?dD ?dO ?dS ?dM ?dK ?dn_text ?dn_at ?qi_dinit ?qf_dinit ?ql_dinit ?qc_dinit ?qk_dinit ?qi_drefuse ?qf_drefuse ?ql_drefuse ?qc_drefuse ?qk_drefuse ?qi_dsign ?qf_dsign ?ql_dsign ?qc_dsign ?qk_dsign ?qi_daccept ?qf_daccept ?ql_daccept ?qc_daccept ?qk_daccept ?qi_ddatum ?qf_ddatum ?ql_ddatum ?qc_ddatum ?qk_ddatum ?qi_ddigits ?qf_ddigits ?ql_ddigits ?qc_ddigits ?qk_ddigits ?qi_dnumber ?qf_dnumber ?ql_dnumber ?qc_dnumber ?qk_dnumber ?qi_dstring ?qf_dstring ?ql_dstring ?qc_dstring ?qk_dstring ?qi_dparts ?qf_dparts ?ql_dparts ?qc_dparts ?qk_dparts ?qi_dpairs ?qf_dpairs ?ql_dpairs ?qc_dpairs ?qk_dpairs ?dg_CO ?dl_CO ?dk_CO ?de_CO ?do_CO
    (case a0 => k_is)
    (case l0 => k_is)
    (case c0 => k_is)
    (case k0 => k_is)
    (case a1 => k_is)
    (case l1 => k_is)
    (case c1 => k_is)
    (case k1 => k_is)
    (case a2 => k_is)
    (case l2 => k_is)
    (case c2 => k_is)
    (case k2 => k_is)
    (case a3 => k_is)
    (case l3 => k_is)
    (case c3 => k_is)
    (case k3 => k_is)
    (case a4 => k_is)
    (case l4 => k_is)
    (case c4 => k_is)
    (case k4 => k_is)
    (case a5 => k_is)
    (case l5 => k_is)
    (case c5 => k_is)
    (case k5 => k_is)
    (case a6 => k_is)
    (case l6 => k_is)
    (case c6 => k_is)
    (case k6 => k_is)
    (case a7 => k_is)
    (case l7 => k_is)
    (case c7 => k_is)
    (case k7 => k_is)
    (case a8 => k_is)
    (case l8 => k_is)
    (case c8 => k_is)
    (case k8 => k_is)
    (case a9 => k_is)
    (case l9 => k_is)
    (case c9 => k_is)
    (case k9 => k_is)
    (case z_len => k_is)
    (case z_int => k_is)
    (case z_list => k_is)
    (case z_range => k_is)
    (case z_max => k_is)
    (case z_str => k_is)
    (case z_isinstance => k_is)
    (case z_bool => k_is)
    (case z_ord => k_is)
    (case z_tuple => k_is)
    (case z_enumerate => k_is)
    (case z_min => k_is)
    (case z_abs => k_is)
    (case z_all => k_is)
    (case z_any => k_is)
    (case z_sorted => k_is)
    (case z_sum => k_is)
    (case z_dict => k_is)
    (case g_DIGITS => k_is)
    (case e_DIGITS => decide +kernel)
    (case g_NO_DATUM => k_is)
    (case g_MOST_DIGITS => k_is)
    (case g_DEEPEST => k_is)
    (case sC => k_is)
    (case sL => k_is)
    (case sV => first | decide +kernel | kernel_rfl)
    (case sA => k_is)
    (case sG => k_is)
    (case sH => k_is)
    (case sN => k_is)
    (case sI => k_is)
    (case sT => k_is)
    (case sK => k_is)
    (case sB => k_is)
    (case sE => k_is)
    (case sY => k_is)
    (case sD => k_is)
    (case sJ => k_is)
    (case sS => first | rfl | k_is)
    (case sO => k_is)
    (case sU => ks_is)
    (case sM => k_is)
    (case sF => k_is)
    (case sP => decide +kernel)
    (case sQ => k_is)
    (case sR => k_is)
    (case sW => k_is)
    (case sX => exact rfl)
    (case sZ => decide +kernel)
    (case s0 => k_is)
    (case dC => k_is)
    (case dG => k_is)
    (case dD => k_is)
    (case dO => k_is)
    (case dS => k_is)
    (case dM => k_is)
    (case dK => k_is)
    (case dn_text => k_is)
    (case dn_at => k_is)
    (case qi_dinit => k_is)
    (case qf_dinit => k_is)
    (case ql_dinit => k_is)
    (case qc_dinit => k_is)
    (case qk_dinit => k_is)
    (case qi_drefuse => k_is)
    (case qf_drefuse => k_is)
    (case ql_drefuse => k_is)
    (case qc_drefuse => k_is)
    (case qk_drefuse => k_is)
    (case qi_dsign => k_is)
    (case qf_dsign => k_is)
    (case ql_dsign => k_is)
    (case qc_dsign => k_is)
    (case qk_dsign => k_is)
    (case qi_daccept => k_is)
    (case qf_daccept => k_is)
    (case ql_daccept => k_is)
    (case qc_daccept => k_is)
    (case qk_daccept => k_is)
    (case qi_ddatum => k_is)
    (case qf_ddatum => k_is)
    (case ql_ddatum => k_is)
    (case qc_ddatum => k_is)
    (case qk_ddatum => k_is)
    (case qi_ddigits => k_is)
    (case qf_ddigits => k_is)
    (case ql_ddigits => k_is)
    (case qc_ddigits => k_is)
    (case qk_ddigits => k_is)
    (case qi_dnumber => k_is)
    (case qf_dnumber => k_is)
    (case ql_dnumber => k_is)
    (case qc_dnumber => k_is)
    (case qk_dnumber => k_is)
    (case qi_dstring => k_is)
    (case qf_dstring => k_is)
    (case ql_dstring => k_is)
    (case qc_dstring => k_is)
    (case qk_dstring => k_is)
    (case qi_dparts => k_is)
    (case qf_dparts => k_is)
    (case ql_dparts => k_is)
    (case qc_dparts => k_is)
    (case qk_dparts => k_is)
    (case qi_dpairs => k_is)
    (case qf_dpairs => k_is)
    (case ql_dpairs => k_is)
    (case qc_dpairs => k_is)
    (case qk_dpairs => k_is)
    (case dg_CO => k_is)
    (case dl_CO => k_is)
    (case dk_CO => first | rfl | kernel_rfl)
    (case de_CO => first | rfl | kernel_rfl | decide +kernel)
    (case do_CO => first | rfl | decide)
#print axioms PySem.Challenge.cw_livestead_k32_data_as_texts_holds
