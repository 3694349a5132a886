import PyProof.Rows.All
import Wide.All
import OpenK.AllK
import Wide.FinOn
import PyProof.EqAt
import PyProof.EqKinds
import PyProof.TupleCall
import KE.KLam
import HandS.Base
import HandS.Call
import HandS.List
import HandS.Comp
import HandS.Text
import HandS.Exc
import HandS.Codes
import HandS.TryOnly
import HandS.Lambda
import HandS.Nested
import HandS.CallLocal
import HandS.ForSpec
import HandS.Wide
import HandS.Iter
import HandS.Zip
import HandS.More
import PyProof.CodeObj
import KE.OsGo
import KE.KNest
import Open.SpecLaws
import HandS.EndTab
import HandS.Words
import HandS.Walk
import PyProof.ListCopy
import PySem.Challenge.RW_reachedchances_s01_answers
set_option Elab.async false
set_option linter.all false
set_option maxRecDepth 100000
set_option maxHeartbeats 2000000
namespace My
/-! ### fractions: upper and lower number -/
theorem num_div (u : Int) (l : Int) (h : 0 < l) : ((u:Rat)/(l:Rat)).num = u / (Int.gcd u l) := by
  rw [← Rat.divInt_eq_div, Rat.num_divInt, Int.sign_eq_one_of_pos h, Int.one_mul, Int.gcd_comm]
theorem den_div (u : Int) (l : Int) (h : 0 < l) : (((u:Rat)/(l:Rat)).den : Int) = l / (Int.gcd u l) := by
  rw [← Rat.divInt_eq_div, Rat.den_divInt, if_neg (by omega), Int.gcd_comm]
  rw [Int.natCast_ediv, Int.natAbs_of_nonneg (by omega)]
theorem gcd_pos (u l : Int) (h : 0 < l) : 0 < (Int.gcd u l : Int) := by
  have : 0 < Int.gcd u l := Int.gcd_pos_of_ne_zero_right _ (by omega)
  omega
theorem gcd_le (u l : Int) (h : 0 < l) : (Int.gcd u l : Int) ≤ l := Int.gcd_le_right _ h
/-- one turn of the loop -/
theorem gcd_turn (a b : Int) (hb : 0 < b) : Int.gcd b (a.fmod b) = Int.gcd a b := by
  rw [Int.fmod_eq_emod_of_nonneg _ (by omega), Int.gcd_comm b]
  have h := Int.gcd_add_mul_left_left b (a % b) (a / b)
  rw [Int.emod_add_mul_ediv] at h
  exact h.symm
theorem fmod_lt' (a b : Int) (hb : 0 < b) : 0 ≤ a.fmod b ∧ a.fmod b < b := ⟨Int.fmod_nonneg_of_pos a hb, Int.fmod_lt_of_pos a hb⟩
theorem rat_eq (r : Rat) : ((r.num : Rat) / (r.den : Rat)) = r := by
  have h := Rat.mkRat_eq_div r.num r.den
  rw [Rat.mkRat_self] at h
  exact h.symm
theorem den_pos (r : Rat) : (0 : Int) < (r.den : Int) := by
  have := r.den_nz
  omega
theorem den_ne (r : Rat) : ((r.den : Nat) : Rat) ≠ 0 := by
  intro h
  have : r.den = 0 := by exact_mod_cast h
  exact r.den_nz this
/-! ### sizes -/
/-- both numbers of r are below 2 ^ n -/
def Sm (n : Nat) (r : Rat) : Prop := r.num.natAbs < 2 ^ n ∧ r.den < 2 ^ n
theorem Sm.mono {n m : Nat} {r : Rat} (h : Sm n r) (hm : n ≤ m) : Sm m r :=
  ⟨Nat.lt_of_lt_of_le h.1 (Nat.pow_le_pow_right (by decide) hm), Nat.lt_of_lt_of_le h.2 (Nat.pow_le_pow_right (by decide) hm)⟩
theorem sm_div {u l : Int} {n : Nat} (hl : 0 < l) (h1 : u.natAbs < 2 ^ n) (h2 : l.natAbs < 2 ^ n) : Sm n ((u : Rat) / (l : Rat)) := by
  have hg := gcd_pos u l hl
  constructor
  · rw [num_div u l hl]
    refine Nat.lt_of_le_of_lt ?_ h1
    have := Int.natAbs_ediv_le_natAbs u (Int.gcd u l)
    exact this
  · have e := den_div u l hl
    have : (((u : Rat) / (l : Rat)).den : Int) ≤ l := by
      rw [e]
      exact Int.ediv_le_self _ (by omega)
    omega
theorem pow_mul_lt {a b n m : Nat} (h1 : a < 2 ^ n) (h2 : b < 2 ^ m) : a * b < 2 ^ (n + m) := by
  rw [Nat.pow_add]
  exact Nat.mul_lt_mul'' h1 h2
theorem natAbs_mul_lt {a b : Int} {n m : Nat} (h1 : a.natAbs < 2 ^ n) (h2 : b.natAbs < 2 ^ m) : (a * b).natAbs < 2 ^ (n + m) := by
  rw [Int.natAbs_mul]
  exact pow_mul_lt h1 h2
theorem add_lt {a b : Int} {n : Nat} (h1 : a.natAbs < 2 ^ n) (h2 : b.natAbs < 2 ^ n) : (a + b).natAbs < 2 ^ (n + 1) := by
  have := Int.natAbs_add_le a b
  have e : 2 ^ (n + 1) = 2 ^ n + 2 ^ n := by rw [Nat.pow_succ]; omega
  omega
theorem nab (n : Nat) : ((n : Int)).natAbs = n := by omega
/-- left plus right as the program reckons it -/
theorem plus_eq (a b : Rat) : ((a.num * b.den + b.num * a.den : Int) : Rat) / ((a.den * b.den : Int) : Rat) = a + b := by
  have ha := den_ne a
  have hb := den_ne b
  have h1 := rat_eq a
  have h2 := rat_eq b
  have e : ((a.num * b.den + b.num * a.den : Int) : Rat) / ((a.den * b.den : Int) : Rat) = (a.num : Rat) / (a.den : Rat) + (b.num : Rat) / (b.den : Rat) := by
    simp only [Rat.intCast_add, Rat.intCast_mul, Rat.intCast_natCast]
    grind
  rw [e, h1, h2]
theorem times_eq (a : Rat) (k : Int) : ((a.num * k : Int) : Rat) / ((a.den : Int) : Rat) = a * (k : Rat) := by
  have ha := den_ne a
  have h1 := rat_eq a
  have e : ((a.num * k : Int) : Rat) / ((a.den : Int) : Rat) = (a.num : Rat) / (a.den : Rat) * (k : Rat) := by
    simp only [Rat.intCast_mul, Rat.intCast_natCast]
    grind
  rw [e, h1]
theorem divided_eq (a : Rat) (k : Int) (hk : k ≠ 0) : ((a.num : Int) : Rat) / ((a.den * k : Int) : Rat) = a / (k : Rat) := by
  have ha := den_ne a
  have h1 := rat_eq a
  have hk' : (k : Rat) ≠ 0 := by
    intro h
    exact hk (by exact_mod_cast h)
  have e : ((a.num : Int) : Rat) / ((a.den * k : Int) : Rat) = (a.num : Rat) / (a.den : Rat) / (k : Rat) := by
    simp only [Rat.intCast_mul, Rat.intCast_natCast]
    grind
  rw [e, h1]
theorem sm_plus {a b : Rat} {n m : Nat} (ha : Sm n a) (hb : Sm m b) : Sm (n + m + 1) (a + b) := by
  rw [← plus_eq]
  refine sm_div (Int.mul_pos (den_pos a) (den_pos b)) ?_ ?_
  · refine add_lt (natAbs_mul_lt ha.1 (by rw [nab]; exact hb.2)) ?_
    rw [Nat.add_comm]
    exact natAbs_mul_lt hb.1 (by rw [nab]; exact ha.2)
  · refine Nat.lt_of_lt_of_le (natAbs_mul_lt (by rw [nab]; exact ha.2) (by rw [nab]; exact hb.2)) (Nat.pow_le_pow_right (by decide) (by omega))
theorem sm_times {a : Rat} {k : Int} {n m : Nat} (ha : Sm n a) (hk : k.natAbs < 2 ^ m) : Sm (n + m) (a * (k : Rat)) := by
  rw [← times_eq]
  exact sm_div (den_pos a) (natAbs_mul_lt ha.1 hk) (Nat.lt_of_lt_of_le (by rw [nab]; exact ha.2) (Nat.pow_le_pow_right (by decide) (by omega)))
theorem sm_divided {a : Rat} {k : Int} {n m : Nat} (ha : Sm n a) (hk : k.natAbs < 2 ^ m) (h0 : 0 < k) : Sm (n + m) (a / (k : Rat)) := by
  rw [← divided_eq a k (by omega)]
  exact sm_div (Int.mul_pos (den_pos a) h0) (Nat.lt_of_lt_of_le ha.1 (Nat.pow_le_pow_right (by decide) (by omega))) (natAbs_mul_lt (by rw [nab]; exact ha.2) hk)
/-! ### less, times, by, from 0 -/
theorem minus_eq (a b : Rat) : ((a.num * b.den - b.num * a.den : Int) : Rat) / ((a.den * b.den : Int) : Rat) = a - b := by
  have ha := den_ne a
  have hb := den_ne b
  have h1 := rat_eq a
  have h2 := rat_eq b
  have e : ((a.num * b.den - b.num * a.den : Int) : Rat) / ((a.den * b.den : Int) : Rat) = (a.num : Rat) / (a.den : Rat) - (b.num : Rat) / (b.den : Rat) := by
    simp only [Rat.intCast_sub, Rat.intCast_mul, Rat.intCast_natCast]
    grind
  rw [e, h1, h2]
theorem product_eq (a b : Rat) : ((a.num * b.num : Int) : Rat) / ((a.den * b.den : Int) : Rat) = a * b := by
  have ha := den_ne a
  have hb := den_ne b
  have h1 := rat_eq a
  have h2 := rat_eq b
  have e : ((a.num * b.num : Int) : Rat) / ((a.den * b.den : Int) : Rat) = ((a.num : Rat) / (a.den : Rat)) * ((b.num : Rat) / (b.den : Rat)) := by
    simp only [Rat.intCast_mul, Rat.intCast_natCast]
    grind
  rw [e, h1, h2]
theorem num_pos' {a : Rat} (h : 0 < a) : 0 < a.num := by
  have h1 := Rat.num_nonneg.mpr (Rat.le_of_lt h)
  have h2 : a.num ≠ 0 := fun z => Rat.ne_of_gt h (Rat.num_eq_zero.mp z)
  omega
theorem quot_eq (a b : Rat) (hb : 0 < b) : ((a.num * b.den : Int) : Rat) / ((a.den * b.num : Int) : Rat) = a / b := by
  have ha := den_ne a
  have hb' := den_ne b
  have h1 := rat_eq a
  have h2 := rat_eq b
  have hn : ((b.num : Int) : Rat) ≠ 0 := by
    have := num_pos' hb
    intro h
    have : b.num = 0 := by exact_mod_cast h
    omega
  have e : ((a.num * b.den : Int) : Rat) / ((a.den * b.num : Int) : Rat) = ((a.num : Rat) / (a.den : Rat)) / ((b.num : Rat) / (b.den : Rat)) := by
    simp only [Rat.intCast_mul, Rat.intCast_natCast]
    grind
  rw [e, h1, h2]
theorem sub_lt' {a b : Int} {n : Nat} (h1 : a.natAbs < 2 ^ n) (h2 : b.natAbs < 2 ^ n) : (a - b).natAbs < 2 ^ (n + 1) := by
  have e : 2 ^ (n + 1) = 2 ^ n + 2 ^ n := by rw [Nat.pow_succ]; omega
  omega
theorem sm_minus {a b : Rat} {n m : Nat} (ha : Sm n a) (hb : Sm m b) : Sm (n + m + 1) (a - b) := by
  rw [← minus_eq]
  refine sm_div (Int.mul_pos (den_pos a) (den_pos b)) ?_ ?_
  · refine sub_lt' (natAbs_mul_lt ha.1 (by rw [nab]; exact hb.2)) ?_
    rw [Nat.add_comm]
    exact natAbs_mul_lt hb.1 (by rw [nab]; exact ha.2)
  · refine Nat.lt_of_lt_of_le (natAbs_mul_lt (by rw [nab]; exact ha.2) (by rw [nab]; exact hb.2)) (Nat.pow_le_pow_right (by decide) (by omega))
theorem sm_product {a b : Rat} {n m : Nat} (ha : Sm n a) (hb : Sm m b) : Sm (n + m) (a * b) := by
  rw [← product_eq]
  exact sm_div (Int.mul_pos (den_pos a) (den_pos b)) (natAbs_mul_lt ha.1 hb.1) (natAbs_mul_lt (by rw [nab]; exact ha.2) (by rw [nab]; exact hb.2))
theorem sm_quot {a b : Rat} {n m : Nat} (ha : Sm n a) (hb : Sm m b) (h0 : 0 < b) : Sm (n + m) (a / b) := by
  rw [← quot_eq a b h0]
  exact sm_div (Int.mul_pos (den_pos a) (num_pos' h0)) (natAbs_mul_lt ha.1 (by rw [nab]; exact hb.2)) (natAbs_mul_lt (by rw [nab]; exact ha.2) hb.1)
theorem sm_zero {n : Nat} (h : 0 < n) : Sm n 0 := ⟨by rw [Rat.zero_num]; exact Nat.pow_pos (by decide), by rw [Rat.zero_den]; exact Nat.one_lt_two_pow (by omega)⟩
theorem sm_one {n : Nat} (h : 0 < n) : Sm n 1 := ⟨by rw [Rat.one_num]; exact Nat.one_lt_two_pow (by omega), by rw [Rat.one_den]; exact Nat.one_lt_two_pow (by omega)⟩
theorem less_is (a b : Rat) : decide (a.num * (b.den : Int) < b.num * (a.den : Int)) = decide (a < b) := decide_eq_decide.mpr (Rat.lt_iff a b).symm
/-- how far from 0 -/
def absR (a : Rat) : Rat := if a < 0 then -a else a
theorem num_neg_iff {a : Rat} : a.num < 0 ↔ a < 0 := by
  have h := Rat.num_nonneg (q := a)
  constructor
  · intro h1
    refine Rat.not_le.mp fun h2 => ?_
    have := h.mpr h2
    omega
  · intro h1
    refine Int.not_le.mp fun h2 => ?_
    exact Rat.not_lt.mpr (h.mp h2) h1
theorem absR_num (a : Rat) : (absR a).num = if a.num < 0 then -a.num else a.num := by
  unfold absR
  by_cases h : a < 0
  · rw [if_pos h, if_pos (num_neg_iff.mpr h), Rat.neg_num]
  · rw [if_neg h, if_neg (fun z => h (num_neg_iff.mp z))]
theorem absR_den (a : Rat) : (absR a).den = a.den := by
  unfold absR
  split
  · rw [Rat.neg_den]
  · rfl
theorem sm_absR {a : Rat} {n : Nat} (h : Sm n a) : Sm n (absR a) := by
  refine ⟨?_, by rw [absR_den]; exact h.2⟩
  rw [absR_num]
  have := h.1
  split <;> omega
theorem absR_nonneg (a : Rat) : 0 ≤ absR a := by
  unfold absR
  split <;> grind
theorem num_mul_iff (a b : Rat) : a.num * b.num < 0 ↔ a * b < 0 := by
  have key : ((a.num * b.num : Int) : Rat) = a * b * ((a.den : Rat) * (b.den : Rat)) := by
    rw [← product_eq a b]
    have ha := den_ne a
    have hb := den_ne b
    simp only [Rat.intCast_mul, Rat.intCast_natCast]
    grind
  have pa : (0 : Rat) < (a.den : Rat) := by
    have := a.den_nz
    exact_mod_cast (show 0 < a.den by omega)
  have pb : (0 : Rat) < (b.den : Rat) := by
    have := b.den_nz
    exact_mod_cast (show 0 < b.den by omega)
  have pp := Rat.mul_pos pa pb
  constructor
  · intro h
    have h1 : ((a.num * b.num : Int) : Rat) < 0 := by exact_mod_cast h
    rw [key] at h1
    refine Rat.not_le.mp fun h2 => ?_
    have := Rat.mul_nonneg h2 (Rat.le_of_lt pp)
    grind
  · intro h
    have h1 : a * b * ((a.den : Rat) * (b.den : Rat)) < 0 := by
      have := Rat.mul_pos (show 0 < -(a * b) by grind) pp
      grind
    rw [← key] at h1
    exact_mod_cast h1
theorem share_eq {a b : Rat} (h : a * b < 0) : absR a / (absR a + absR b) = a / (a - b) ∧ 0 < absR a + absR b := by
  have hab : (a < 0 ∧ 0 < b) ∨ (0 < a ∧ b < 0) := by
    rcases (show a < 0 ∨ a = 0 ∨ 0 < a by grind) with h1 | h1 | h1
    · refine .inl ⟨h1, ?_⟩
      refine Rat.not_le.mp fun h2 => ?_
      have := Rat.mul_nonneg (show 0 ≤ -a by grind) (show 0 ≤ -b by grind)
      grind
    · rw [h1] at h
      grind
    · refine .inr ⟨h1, ?_⟩
      refine Rat.not_le.mp fun h2 => ?_
      have := Rat.mul_nonneg (Rat.le_of_lt h1) h2
      grind
  unfold absR
  rcases hab with ⟨h1, h2⟩ | ⟨h1, h2⟩
  · rw [if_pos h1, if_neg (by grind)]
    refine ⟨?_, by grind⟩
    have hne : a - b ≠ 0 := by grind
    have hne2 : -a + b ≠ 0 := by grind
    grind
  · rw [if_neg (by grind), if_pos h2]
    refine ⟨?_, by grind⟩
    have e : a + -b = a - b := by grind
    rw [e]
end My

namespace My
open PySem PySem.Spec PyProof.Rows L2 LamX NdefX
/-! ### a call whose callee is an item of a table -/
/-- what the callee may be: an address and the promise that goes with it -/
def tCallX (G : Addr → Sp → Prop) (tf : TE) (t : TA) : TE := fun σ H Q => tf σ H fun v H1 => ∃ f sp, v = .ref f ∧ G f sp ∧ t σ H1 fun vs H2 => sp vs H2 Q (fun _ _ _ => False)
section
variable {X : Cx} {k i : Nat} {x : Str} {p pos : Pos} {a b e : Expr} {es : List Expr} {tf : TE} {t : TA} {G : Addr → Sp → Prop}
theorem eval_call_sub (args : List Expr) (kws : List Keyword) (env : Env) : eval (.Call (.Subscript a b p) args kws pos) env = (do
    callWith pos (← eval (.Subscript a b p) env) [] (backTo pos (starEach args env)) (backToKw pos (keywordEach kws env))) := rfl
theorem pe_callX (A : ∀ f sp, G f sp → Held X.prog X.w X.K X.mg X.base k f sp) (hr : Room k X.A) (hf : PE X (.Subscript a b p) tf) (ha : PA X (e :: es) t)
    (he : starEach (e :: es) X.env = (false, eval e X.env) :: starEach es X.env := by rfl) (hpl : (backTo pos (starEach es X.env)).any (·.1) = false := by rfl) : PE X (.Call (.Subscript a b p) (e :: es) [] pos) (tCallX G tf t) := by
  refine ⟨fun pins s σ H Q I h => ?_⟩
  rw [eval_call_sub]
  refine wpAny_bind (thn (hf.run pins s σ H _ I h) fun u s1 ⟨v, H1, I1, r1, f, sp, ev, hG, ht⟩ => ?_)
  subst ev
  obtain rfl : u = Value.ref f := r1
  obtain ⟨fd, ps, F, hk, hb⟩ := (A f sp hG).ex
  refine PySem.W.callWith_K (h₀ := X.base) I.ok.mod.kin hk (thn (ha.run pos pins s1 σ _ _ I1 ht) fun us s2 ⟨vs, H2, I2, r, q⟩ => ⟨I2.kIn, ?_⟩) he hpl
  have q' : sp (vs ++ []) H2 Q (fun _ _ _ => False) := by
    rw [List.append_nil]
    exact q
  exact run_fn F hr hb .nil (fun _ _ _ _ _ _ _ z => z.elim) I2 r q'
/-- .. a name of the def's own -/
def tCallG (G : Addr → Sp → Prop) (i : Nat) (t : TA) : TE := fun σ H Q => ∃ f sp, σ[i]? = some (some (.ref f)) ∧ G f sp ∧ t σ H fun vs H1 => sp vs H1 Q (fun _ _ _ => False)
theorem pe_callG (A : ∀ f sp, G f sp → Held X.prog X.w X.K X.mg X.base k f sp) (hr : Room k X.A) (hN : X.N[i]? = some x) (hv : Vis X.env.scope x) (ha : PA X (e :: es) t)
    (hdb : (x == ("__debug__" : Str)) = false := by decide) (hcd : (x == ("__classdict__" : Str)) = false := by decide)
    (he : starEach (e :: es) X.env = (false, eval e X.env) :: starEach es X.env := by rfl) (hpl : (backTo pos (starEach es X.env)).any (·.1) = false := by rfl) : PE X (.Call (.Name x p) (e :: es) [] pos) (tCallG G i t) := by
  refine ⟨fun pins s σ H Q I h => ?_⟩
  obtain ⟨f, sp, hs, hG, ht⟩ := h
  obtain ⟨fd, ps, F, hk, hb⟩ := (A f sp hG).ex
  refine (pe_callL (i := i) (f := f) (sp := sp) (dvs := []) (E := fun _ _ _ => False) F hr hN hv hk hb .nil (fun _ _ _ _ _ _ _ z => z.elim) ha hdb hcd he hpl).run pins s σ H Q I ⟨hs, ?_⟩
  have e0 : (fun (vs : List V) (H1 : Hp) => sp (vs ++ []) H1 Q (fun _ _ _ => False)) = fun vs H1 => sp vs H1 Q (fun _ _ _ => False) := by
    funext vs H1
    rw [List.append_nil]
  show t σ H (fun vs H1 => sp (vs ++ []) H1 Q (fun _ _ _ => False))
  rw [e0]
  exact ht
end
/-! ### a lambda with parameters and captured names, handed to a def behind another argument, and called there -/
/-- the words of a lambda -/
structure LW where
  q : Str
  params : Arguments
  body : Expr
  scope : Scope
/-- the lambda as a nested def's words (its body is no list of statements: none are given) -/
abbrev LW.nf (W : LW) (cl : List (Str × Addr)) (c' : Addr) : NF := ⟨"<lambda>", W.q, W.params, [], W.scope, cl, c'⟩
abbrev LW.fd (W : LW) (cl : List (Str × Addr)) (pm : Value) (c' : Addr) (ctv : Value) : FuncData := PySem.W.kla_fn "<lambda>" W.q W.params W.body W.scope cl pm (.ref c') ctv
/-- the heap h has at f that lambda, with the cells cl and the code object c' -/
def LamAt (W : LW) (cl : List (Str × Addr)) (c' f : Addr) (h : Heap) : Prop := ∃ pm ctv : Value, h.get? f = some (PySem.W.kla_obj "<lambda>" W.q W.params W.body W.scope cl pm c' ctv)
/-- what the lambda's text promises: sp ws, ws what its captured cells hold -/
structure LamOk (P : Program) (w : World) (K : PySem.W.Frag) (mg : Str → Option Value) (base : Heap) (k : Nat) (W : LW) (ps fr : List Str) (sp : List (Option V) → List V → Hp → VK → Prop) : Prop where
  ex : ∃ N : List Str, NScope N ps fr W.scope ∧ (∀ ws vs H Q, sp ws vs H Q → vs.length = ps.length) ∧
    (∀ (cl : List (Str × Addr)) (pm : Value) (c' : Addr) (ctv : Value) (us : List Value), us.length = ps.length → bindArgs (W.fd cl pm c' ctv) ⟨us, []⟩ = pure (ps.zip us)) ∧
    ∀ (cl : List (Str × Addr)) (f c' : Addr) (A : Around) (outer : List Env) (s : Shared) (H : Hp) (vs : List V) (ws : List (Option V)) (Q : VK), Room k (A.deeper (envF (W.nf cl c') f s.heap.objs.size)) → ws.length = fr.length → sp ws vs H Q →
      ∃ t, PE (ncx CX0 P w K mg base N (W.nf cl c') f A outer s H E0) W.body t ∧ t (startF N vs ws) H Q
/-- cells that no frame tracks hold, as long as a def runs, what they held at its entry -/
theorem cells_later {X : Cx} {pins : List (Addr × Obj)} {σ : L2.St} {H : Hp} {s : Shared} {cl : List (Str × Addr)} {fr : List Str} {ws : List (Option V)} (hex : X.ex = []) (I : Inv X pins σ H s) (C : CellsAt cl fr ws X.s_0.heap X.H_0) : CellsAt cl fr ws s.heap H := by
  have nex (b : Addr) : b ∉ X.ex := by
    rw [hex]
    exact List.not_mem_nil
  have stays {y : Str} {c : Addr} {v : Option Value} (e : cl.lookup y = some c) : X.s_0.heap.IsCell c v → s.heap.IsCell c v
    | ⟨o, ho, hd⟩ => (I.base.any ho (C.all y c e).1 (nex c)).elim fun _ q => ⟨_, q, hd⟩
  exact {
    len := C.len
    inj := C.inj
    all := fun y c e => match C.all y c e with
      | ⟨n, v, o, ho, hd⟩ => ⟨I.base.free c o ho n (nex c), v, stays e ⟨o, ho, hd⟩⟩
    has := fun i y e => match C.has i y e with
      | ⟨c, hc, hv⟩ => ⟨c, hc, fun v ev => match hv v ev with
        | ⟨u, r, z⟩ => ⟨u, r, stays hc z⟩⟩ }
/-- the end of a call that nothing leaves but by its value -/
theorem after0 {X : Cx} {pins : List (Addr × Obj)} {σ : L2.St} {H : Hp} {s : Shared} {Q : VK} {c : Code} (I : Inv X pins σ H s) (h : codeAny (model X.prog X.w) X.A c (CR CX0 X.stack X.prog X.w H s Q E0) s) :
    codeAny (model X.prog X.w) X.A c (fun r s' => match r with | .ok (.ret v) => EP X pins σ Q v s' | .ok _ => False | .error e => X.xe e s') s :=
  codeAny_mono h fun r s' hq => match r, hq with
    | .ok (.ret _), hq => I.after hq
    | .ok .next, hq => False.elim hq
    | .ok .brk, hq => False.elim hq
    | .ok .cont, hq => False.elim hq
    | .error _, hq => False.elim hq
section
variable {P : Program} {w : World} {K : PySem.W.Frag} {mg : Str → Option Value} {base : Heap} {k : Nat} {W : LW} {ps fr : List Str} {sp : List (Option V) → List V → Hp → VK → Prop}
theorem lam_run (L : LamOk P w K mg base k W ps fr sp) {A : Around} {outer : List Env} {s : Shared} {H : Hp} {cl : List (Str × Addr)} {f c' : Addr} {ws : List (Option V)} {us : List Value} {vs : List V} {Q : VK}
    (hr : Room (k + 1) A) (e0 : Env0 P w K mg base A outer s H) (hf : LamAt W cl c' f s.heap) (hc : H c' = some (CodeO c' W.q)) (C : CellsAt cl fr ws s.heap H) (r : Vals vs us) (hsp : sp ws vs H Q) :
    codeAny (model P w) A (.call (.ref f) ⟨us, []⟩) (CR CX0 outer P w H s Q E0) s := by
  obtain ⟨N, S, len, bnd, hbody⟩ := L.ex
  obtain ⟨pm, ctv, ho⟩ := hf
  refine PySem.W.kla_callFunE hr.depth ho rfl S.co S.gen rfl (codeO_at e0.hok hc) ?_
  rw [bnd cl pm c' ctv us (r.length ▸ len _ _ _ _ hsp)]
  refine wpAny_pure (wpAny_newFunctionEnv S.nocell (fun y hy => S.par y.1 (List.of_mem_zip (a := y.1) (b := y.2) hy).1) (fun h1 hns hsb => ?_) S.kind)
  refine ⟨(e0.mod.nolimit.keeps fun b o e => (e0.bs b o e).1).fresh _ hsb, ?_⟩
  have stay (b : Addr) (o : Obj) (e : s.heap.get? b = some o) : h1.get? b = some o := hsb.extBut b o (Nat.ne_of_lt (Heap.lt_size e)) (Heap.get?_push_of_some _ e)
  obtain ⟨t, ht, hq⟩ := hbody cl f c' A outer s H vs ws Q (hr.deeper _) C.len hsp
  have I := inv_startN (CX := CX0) (E := E0) (F := W.nf cl c') (f := f) (tk := s.toks + (ps.zip us).length) S hr.hd e0 (len _ _ _ _ hsp) r C hns stay
  exact PySem.W.kla_codeExpr (wpAny_mono (ht.run [] _ _ H _ I hq) (fun v s' ⟨v', H', J, rv, q'⟩ => ⟨v', H', J.os, J.bare, J.base, J.hok, rv, q'⟩) fun _ _ z => z)
/-- a(e, ..) in a def Z that got the lambda in its slot i -/
theorem pe_lamZ {Z : Cx} (L : LamOk Z.prog Z.w Z.K Z.mg Z.base k W ps fr sp) {cl : List (Str × Addr)} {f c' : Addr} {ws : List (Option V)} {i : Nat} {a : Str} {p1 p2 : Pos} {e : Expr} {es : List Expr} {ta : TA}
    (hex : Z.ex = []) (hf : LamAt W cl c' f Z.s_0.heap) (hf0 : Z.H_0 f = Option.none) (hfs : f ∉ Z.fs) (C : CellsAt cl fr ws Z.s_0.heap Z.H_0) (hr : Room (k + 1) Z.A) (hN : Z.N[i]? = some a) (hv : Vis Z.env.scope a) (ha : PA Z (e :: es) ta)
    (hd : (a == ("__debug__" : Str)) = false := by decide) (hcd : (a == ("__classdict__" : Str)) = false := by decide)
    (he : starEach (e :: es) Z.env = (false, eval e Z.env) :: starEach es Z.env := by rfl) (hpl : (backTo p2 (starEach es Z.env)).any (·.1) = false := by rfl) :
    PE Z (.Call (.Name a p1) (e :: es) [] p2) (fun σ H Q => σ[i]? = some (some (.ref f)) ∧ ta σ H fun vs H1 => H1 c' = some (CodeO c' W.q) ∧ sp ws vs H1 Q) := by
  have here {pins : List (Addr × Obj)} {σ : L2.St} {H : Hp} {s : Shared} (J : Inv Z pins σ H s) : LamAt W cl c' f s.heap := match hf with
    | ⟨pm, ctv, ho⟩ => ⟨pm, ctv, J.base.keep f _ ho hf0 hfs (by rw [hex]; exact List.not_mem_nil)⟩
  have fn {h : Heap} : LamAt W cl c' f h → PySem.W.FnAt f h
    | ⟨_, _, ho⟩ => ⟨_, _, _, _, ho⟩
  refine ⟨fun pins s σ H Q I h => wpAny_Call_Name_kw (thn ((pe_var (pos := p1) (i := i) hN hv hd hcd).run pins s σ H (fun v H1 => v = .ref f ∧ H1 = H) I ⟨.ref f, h.1, rfl, rfl⟩) ?_)⟩
  rintro u s1 ⟨v, H1, I1, r1, rfl, rfl⟩
  obtain rfl : u = Value.ref f := r1
  refine PySem.W.callWith_F (first := []) (fn (here I1)) (thn (ha.run p2 pins s1 σ H1 _ I1 h.2) ?_) he hpl
  rintro us s2 ⟨vs, H2, I2, r, hc, q2⟩
  exact ⟨fn (here I2), wpAny_call (after0 I2 (lam_run L hr I2.env0 (here I2) hc (cells_later hex I2 C) r q2))⟩
end
/-- a def at g, called with a value and a lambda: its promise, told of the very state (the lambda's cells are held against it) -/
def GetsLam (P : Program) (w : World) (K : PySem.W.Frag) (mg : Str → Option Value) (base : Heap) (k : Nat) (g : Addr) (W : LW) (fr : List Str) (TT : V → Addr → List (Option V) → Hp → VK → Prop) : Prop :=
  ∀ (A : Around) (outer : List Env) (s : Shared) (H : Hp) (u1 : Value) (v1 : V) (f c' : Addr) (cl : List (Str × Addr)) (ws : List (Option V)) (Q : VK), Room k A → Env0 P w K mg base A outer s H → L2.RelV v1 u1 → LamAt W cl c' f s.heap → H f = Option.none → f ∉ frs outer →
    H c' = some (CodeO c' W.q) → CellsAt cl fr ws s.heap H → TT v1 c' ws H Q → codeAny (model P w) A (.call (.ref g) ⟨[u1, .ref f], []⟩) (CR CX0 outer P w H s Q E0) s
/-- x(e1, lambda ..: ..): js, where the captured names stand among the running frame's -/
def tGive (T : List (Addr × Str)) (q : Str) (t1 : TE) (js : List Nat) (TT : V → Addr → List (Option V) → Hp → VK → Prop) : TE := fun σ H Q => t1 σ H fun v1 H1 => Tabs T H1 ∧ ∀ (c' : Addr) (H2 : Hp), ExtN H1 H2 → Tabs T H2 → H2 c' = some (CodeO c' q) → TT v1 c' (js.map (slotAt σ)) H2 Q
theorem pe_give {X : Cx} {k : Nat} {g c P : Addr} {x : Str} {T : List (Addr × Str)} {fr : List Str} {js : List Nat} {TT : V → Addr → List (Option V) → Hp → VK → Prop} {params : Arguments} {body : Expr} {scope : Scope} {p pos lpos : Pos} {e1 : Expr} {t1 : TE}
    (hG : GetsLam X.prog X.w X.K X.mg X.base k g ⟨X.env.qual ++ "<lambda>", params, body, scope⟩ fr TT) (hr : Room k X.A) (hg : Gl X x) (hm : X.mg x = some (.ref g)) (hk : PySem.W.keepIn X.K (.ref g) = true)
    (TB : TabB X.base X.mg c P) (hcode : X.env.code = .ref c) (hmT : (P, X.env.qual ++ "<lambda>") ∈ T) (hu : ∀ p ∈ T, p.1 = P → p.2 = X.env.qual ++ "<lambda>") (hdef : defaultsOf params X.env = ([], []))
    (hb : ndefB X.env.scope scope fr = true) (hjs : js.map (fun j => X.N[j]?) = fr.map some) (he1 : PE X e1 t1)
    (hdb : (x == ("__debug__" : Str)) = false := by decide) (he : starEach [e1, .Lambda params body scope lpos] X.env = [(false, eval e1 X.env), (false, eval (.Lambda params body scope lpos) X.env)] := by rfl) :
    PE X (.Call (.Name x p) [e1, .Lambda params body scope lpos] [] pos) (tGive T (X.env.qual ++ "<lambda>") t1 js TT) := by
  refine ⟨fun pins s σ H Q I h => wpAny_Call_Name_kw (ld_glob I hg hm ?_ hdb)⟩
  refine PySem.W.callWith_K (h₀ := X.base) I.ok.mod.kin hk ?_ he (by rfl)
  rw [he]
  show wpAny _ _ (spliced [(false, eval e1 X.env), (false, eval (.Lambda params body scope lpos) X.env)]) _ _ s
  refine Calls.spliced_cons (thn (he1.run pins s σ H _ I h) ?_)
  rintro u1 s1 ⟨v1, H1, I1, r1, hT, h⟩
  have hfree := ndef_free hb
  refine Calls.spliced_cons (lam_make2 I1 TB hcode hmT hu hT hdef (fun y hy e => (hfree y hy e).elim (fun z => I.ok.has _ (.inl z)) fun z => I.ok.has _ (.inr z)) fun f c' pm ctv H2 s2 I2 eN T2 hf hfn hfr hco => Calls.spliced_nil ⟨I2.kIn, wpAny_call ?_⟩)
  have cp := Caps.made I2.ok hfree (ndef_fr hb) hjs
  exact after0 I2 (hG X.A X.stack s2 H2 u1 v1 f c' _ _ Q hr I2.env0 r1 ⟨pm, ctv, hf⟩ hfn hfr hco (cells_of I2 cp) (h c' H2 eN T2 hco))
end My

namespace My
open PySem PySem.Spec PyProof.Rows L2 LamX
open PySem.W (Codec OpenSpec WData tabObj CodeHd)
/-! ### the end of a Spec row whose program makes lambdas: the tables of the makers' code objects are tracked beside the arguments -/
mutual
theorem dw_same {K : PySem.W.Frag} {H H' : Hp} (e : Same H H') : ∀ {v : V} {d : WData}, Dw K H v d → Dw K H' v d
  | _, _, .non => .non
  | _, _, .bl b => .bl b
  | _, _, .int i => .int i
  | _, _, .str x => .str x
  | _, _, .byt b => .byt b
  | _, _, .lst h r => .lst (e.seq h) (dws_same e r)
  | _, _, .tup h r => .tup (by
      rcases h with (h | ⟨o, h⟩) | h
      · exact .inl (.inl (e _ _ h))
      · exact .inl (.inr ⟨o, e _ _ h⟩)
      · exact .inr h) (dws_same e r)
theorem dws_same {K : PySem.W.Frag} {H H' : Hp} (e : Same H H') : ∀ {vs : List V} {ds : List WData}, DwAll K H vs ds → DwAll K H' vs ds
  | _, _, .nil => .nil
  | _, _, .cons h r => .cons (dw_same e h) (dws_same e r)
end
/-- the tables tracked beside H -/
def withT (ts : List Addr) (H : Hp) : Hp := fun b => if b ∈ ts then some (.tbl #[]) else H b
theorem withT_in {ts : List Addr} {H : Hp} {b : Addr} (h : b ∈ ts) : withT ts H b = some (.tbl #[]) := if_pos h
theorem withT_out {ts : List Addr} {H : Hp} {b : Addr} (h : b ∉ ts) : withT ts H b = H b := if_neg h
section
variable {P : Program} {w : World} {K : PySem.W.Frag} {mg mb : Str → Option Value} {k : Nat} {fa : Addr} {fd : FuncData} {ps : List Str} {sp : Sp} {cs : List (Addr × Addr)}
theorem spec_callT {s₁ : Shared} {vals : List Value} {ds : List WData} {R : PySem.W.WRecords} {cl : Str → Option Addr} {d0 : WData}
    (KX : K.In s₁.heap) (hns : s₁.heap.Ns mainGlobals mg) (hb : s₁.heap.Ns builtinsNs mb) (hbb : ∀ x : Str, x ≠ "__name__" → mb x = bootBuiltins x) (hlim : s₁.heap.NoLimit) (hg : s₁.gens = #[])
    (hT : ∀ p ∈ cs, CodeHd s₁.heap p.1 p.2 ∧ s₁.heap.get? p.2 = some (tabObj #[])) (nT : ∀ p ∈ cs, K.lookup p.2 = Option.none)
    (hbm : ∃ (bm : Addr) (ob : Obj), mg "__builtins__" = some (.ref bm) ∧ bm ≠ builtinsNs ∧ s₁.heap.get? bm = some ob ∧ ob.cls = .type "module" ∧ ob.dict = some builtinsNs ∧ ob.data = .plain)
    (hwl : PySem.W.WellAll w.params s₁.heap vals ds) (hpl : plWs ds = true) (hwt : ∀ d ∈ ds, d.weight ≤ 1048576) (hr : Room k callerA)
    (F : ∀ base : Heap, K.In base → base.Ns mainGlobals mg → (∀ p ∈ cs, TabB base mg p.1 p.2) → FnOk P w K mg base CX0 k fa fd ps sp)
    (hbind : ∀ (s : Shared) (us : List Value), us.length = ps.length → BindsTo s fd ⟨us, []⟩ (ps.zip us)) (hlen : ds.length = ps.length)
    (hsp : ∀ (H : Hp) (xs : List V), (∀ p ∈ cs, H p.2 = some (.tbl #[])) → DwAll K H xs ds → sp xs H (fun v H' => Dw K H' v d0) E0) :
    codeAny (model P w) callerA (.call (.ref fa) ⟨vals, []⟩) (fun r s' => ∃ u as, r = .ok (.ret u) ∧ PySem.W.ReadsW R cl s'.heap u d0 as ∧ OldK s₁.heap s'.heap ∧ s'.os = s₁.os ∧ AllBare s'.gens) s₁ := by
  obtain ⟨A, ho, ar⟩ := area_all ds vals hwl hpl hwt
  have isT (b : Addr) (hb : b ∈ cs.map (·.2)) : s₁.heap.get? b = some (tabObj #[]) := by
    obtain ⟨p, hp, rfl⟩ := List.mem_map.mp hb
    exact (hT p hp).2
  have memT (p : Addr × Addr) (hp : p ∈ cs) : p.2 ∈ cs.map (·.2) := List.mem_map.mpr ⟨p, hp, rfl⟩
  have apart (b : Addr) (u : HO) (q : argH K s₁.heap A b = some u) : b ∉ cs.map (·.2) := fun hb => by
    have z := isT b hb
    obtain ⟨_, vs, _, _, ⟨e, _⟩ | ⟨e, _⟩⟩ := argH_is ar q <;> · rw [z] at e; cases e
  have ext : Same (argH K s₁.heap A) (withT (cs.map (·.2)) (argH K s₁.heap A)) := fun b o e => (withT_out (apart b o e)).trans e
  have hok : HOk P w (withT (cs.map (·.2)) (argH K s₁.heap A)) s₁.heap := fun b u e => by
    by_cases hb : b ∈ cs.map (·.2)
    · rw [withT_in hb] at e
      cases e
      exact isT b hb
    · rw [withT_out hb] at e
      exact (argH_ok ar b u e).stay (fun _ _ _ q => q) (fun c q => ext c _ q) fun c xs q => ext c _ q
  have hS := dws_same ext (dw_all KX ar ds vals hwl hpl ho)
  have hTH : ∀ p ∈ cs, withT (cs.map (·.2)) (argH K s₁.heap A) p.2 = some (.tbl #[]) := fun p hp => withT_in (memT p hp)
  have hO (b : Addr) : withT (cs.map (·.2)) (argH K s₁.heap A) b = Option.none ∨ b ∈ cs.map (·.2) ∨ ∃ o u, withT (cs.map (·.2)) (argH K s₁.heap A) b = some (.frz o u) := by
    by_cases hb : b ∈ cs.map (·.2)
    · exact .inr (.inl hb)
    · rw [withT_out hb]
      exact (argH_only ar b).imp id .inr
  have free (b : Addr) (o : Obj) (e : s₁.heap.get? b = some o) (n1 : ∀ vs n, o.data ≠ .seq vs n) (n2 : o.data ≠ .fields #[]) : withT (cs.map (·.2)) (argH K s₁.heap A) b = Option.none := by
    by_cases hb : b ∈ cs.map (·.2)
    · rw [isT b hb] at e
      cases e
      exact (n2 rfl).elim
    · rw [withT_out hb]
      cases q : argH K s₁.heap A b with
      | none => rfl
      | some u =>
        obtain ⟨_, vs, _, _, ⟨e2, _⟩ | ⟨e2, _⟩⟩ := argH_is ar q <;> · rw [e2] at e; cases e; exact (n1 _ _ rfl).elim
  have freeK (b : Addr) (o : Obj) (e : K.lookup b = some o) : withT (cs.map (·.2)) (argH K s₁.heap A) b = Option.none := by
    by_cases hb : b ∈ cs.map (·.2)
    · obtain ⟨p, hp, rfl⟩ := List.mem_map.mp hb
      rw [nT p hp] at e
      cases e
    · rw [withT_out hb]
      cases q : argH K s₁.heap A b with
      | none => rfl
      | some u => rw [(argH_is ar q).1] at e; cases e
  generalize withT (cs.map (·.2)) (argH K s₁.heap A) = H at hok hS hTH hO free freeK
  have seen {b : Addr} {o : Obj} (e : s₁.heap.get? b = some o) (n1 : ∀ vs n, o.data ≠ .seq vs n) (n2 : o.data ≠ .fields #[]) : (hidT s₁.heap H).get? b = some o := hidT_get e (free b o e n1 n2)
  have nsK {b : Addr} {m : Str → Option Value} : s₁.heap.Ns b m → (hidT s₁.heap H).Ns b m
    | ⟨o, es, ep, e, d, r⟩ => ⟨o, es, ep, seen e (fun _ _ z => by rw [d] at z; cases z) (fun z => by rw [d] at z; cases z), d, r⟩
  have hKb : K.In (hidT s₁.heap H) := fun b o e => hidT_get (KX b o e) (freeK b o e)
  have TB : ∀ p ∈ cs, TabB (hidT s₁.heap H) mg p.1 p.2 := fun p hp => by
    obtain ⟨hC, hP⟩ := hT p hp
    refine ⟨?_, ?_, fun z => ?_⟩
    · obtain ⟨o, us, file, tf, flags, tg, inF, text, tt, e1, r1, r2, r3, rest⟩ := hC
      exact ⟨o, us, file, tf, flags, tg, inF, text, tt, seen e1 (fun _ _ z => by rw [r2] at z; cases z) (fun z => by rw [r2] at z; cases z; simp at r3), r1, r2, r3, rest⟩
    · obtain ⟨bm, ob, b1, b2, b3, b4, b5, b6⟩ := hbm
      refine ⟨bm, ob, b1, b2, fun q => ?_, fun q => ?_, seen b3 (fun _ _ z => by rw [b6] at z; cases z) (fun z => by rw [b6] at z; cases z), b4, b5, b6⟩
      · obtain ⟨o, es, ep, e, hd, _⟩ := hns
        rw [q, e] at b3
        cases b3
        rw [hd] at b6
        cases b6
      · rw [q, hP] at b3
        cases b3
        cases b6
    · obtain ⟨o, es, ep, e, hd, _⟩ := hns
      rw [z, hP] at e
      cases e
      cases hd
  have e0 : Env0 P w K mg (hidT s₁.heap H) callerA [] s₁ H :=
    { frames := rfl
      mod := ⟨hKb, nsK hns, ⟨mb, nsK hb, hbb⟩, hlim.elim fun mc h => ⟨mc, nsK h.1, h.2⟩⟩
      bs := fun b o e => of_hidT e
      bsz := Nat.le_of_eq (hidT_size _ _)
      funs := trivial
      frf := fun b hb => absurd hb (show b ∉ ([] : List Addr) from List.not_mem_nil)
      hok := hok
      bare := .of_eq hg }
  refine codeAny_mono ((F _ hKb (nsK hns) TB).run callerA [] s₁ H ⟨vals, []⟩ vals (vals.map toV) _ _ hr e0 (hbind s₁ vals ((wellAll_len hwl).trans hlen)) (vals_toV ho) (hsp H _ hTH hS)) fun r s' x => ?_
  match r, x with
  | .error e, x => exact False.elim x
  | .ok .next, x => exact False.elim x
  | .ok .brk, x => exact False.elim x
  | .ok .cont, x => exact False.elim x
  | .ok (.ret u), ⟨v, H', os, bare, un, hok', r', q⟩ =>
    have kept (b : Addr) (o : Obj) (nb : b ∉ cs.map (·.2)) (e : s₁.heap.get? b = some o) : s'.heap.get? b = some o := by
      rcases hO b with z | z | ⟨ob, u3, z⟩
      · exact un.keep b o e z (show b ∉ ([] : List Addr) from List.not_mem_nil) List.not_mem_nil
      · exact absurd z nb
      · have e1 := (hok b _ z).1
        rw [e] at e1
        cases e1
        exact (hok' b _ (un.frzs b _ _ z)).1
    have grown (p : Addr × Addr) (hp : p ∈ cs) : ∃ more : Array Value, s'.heap.get? p.2 = some (tabObj more) := by
      obtain ⟨more, z⟩ := un.tbls p.2 #[] (hTH p hp)
      exact ⟨_, hok' p.2 _ z⟩
    have KX' : K.In s'.heap := fun b o e => kept b o (fun hb => by
      obtain ⟨p, hp, rfl⟩ := List.mem_map.mp hb
      rw [nT p hp] at e
      cases e) (KX b o e)
    obtain ⟨as, hrd⟩ := Dw.reads (R := R) (cl := cl) hok' KX' d0 v u q r'
    refine ⟨u, as, rfl, hrd, ⟨fun b o e => ?_, fun b o e => ?_⟩, os, bare⟩
    · by_cases hb : b ∈ cs.map (·.2)
      · obtain ⟨p, hp, rfl⟩ := List.mem_map.mp hb
        obtain ⟨more, hm⟩ := grown p hp
        rw [(hT p hp).2] at e
        cases e
        exact .inr (.inl ⟨((hT p hp).1.tab (hT p hp).2).isCodeTable, rfl, #[], more, rfl, by rw [Array.empty_append]; exact hm⟩)
      · exact .inl (kept b o hb e)
    · by_cases hb : b ∈ cs.map (·.2)
      · obtain ⟨p, hp, rfl⟩ := List.mem_map.mp hb
        exact (grown p hp).elim fun more hm => ⟨_, hm⟩
      · exact ⟨o, kept b o hb e⟩
end
/-- a def's code object and its table, from what the head tells -/
theorem tabIn_of {K : PySem.W.Frag} {x : Str} {f c T : Addr} {oc oc2 : Value} {od od2 : Option Addr} {fd : FuncData} {vs : Array Value} {sl sl2 : Array (Option Value)} (h1 : PySem.W.nsIn K mainGlobals x = some (some (.ref f))) (h2 : K.lookup f = some ⟨oc, od, .func fd, sl⟩) (h3 : fd.code = .ref c) (h4 : K.lookup c = some ⟨oc2, od2, .fields vs, sl2⟩) (h5 : vs[11]? = some (.ref T)) :
    PySem.W.tabIn K x = some (c, T) := by
  unfold PySem.W.tabIn
  simp only [h1, h2, h3, h4, h5]
/-- the goal that the head leaves, from the promise of the row's def; cs: the makers' code objects and their tables -/
theorem walk_specT {r : OpenSpec} {k : Nat} {q : Program} {loose : List Str} {XP : (Str → Option Value) → Heap → Prop} {YP : World → Heap → Prop} {d : DefRec} {K : Params → PySem.W.Frag} {ps : List Str} {sp : PySem.W.Frag → List (Addr × Addr) → Sp}
    (hwell : r.wellSaid = true) (hdf : d.params.defaults = []) (hlen : r.args.length = ps.length) (hr : Room k callerA)
    (hY : ∀ (w : World) (h : Heap), YP w h → (K w.params).In h)
    (F : ∀ (w : World) (mg : Str → Option Value) (fa : Addr) (h : Heap), YP w h → (K w.params).In h → h.Ns mainGlobals mg → mg d.name = some (.ref fa) →
      ∃ (fd : FuncData) (cs : List (Addr × Addr)), (∀ p ∈ cs, (∃ x : Str, ((recsOf q).find? (fun e => e.name == x)).isSome = true ∧ PySem.W.tabIn (K w.params) x = some p) ∧ (K w.params).lookup p.2 = Option.none) ∧
        (∀ (s : Shared) (us : List Value), us.length = ps.length → BindsTo s fd ⟨us, []⟩ (ps.zip us)) ∧
        ∀ base : Heap, (K w.params).In base → base.Ns mainGlobals mg → (∀ p ∈ cs, TabB base mg p.1 p.2) → FnOk r.prog w (K w.params) mg base CX0 k fa fd ps (sp (K w.params) cs))
    (hsp : ∀ (K : PySem.W.Frag) (cs : List (Addr × Addr)) (H : Hp) (xs : List V) (a : Codec.denoteAll r.args), (∀ p ∈ cs, H p.2 = some (.tbl #[])) → Codec.withinAll r.args a = true → Codec.app r.args r.asked a = true → DwAll K H xs (Codec.encAll r.args a) →
      sp K cs xs H (fun v H' => Dw K H' v (r.ret.enc (Codec.app r.args r.f a))) E0) :
    PySem.W.WalkOS q loose XP YP r d [] (fun f vs => PySem.call f vs) := by
  intro w s₀ s₁ mg mb G Y fa o pm cd doc dV kV ho hd hcd hD hmg hg args vals as hpre hlay hrd hwl hlo
  obtain ⟨a, e1, e2⟩ := PySem.W.os_pre_some hpre
  obtain ⟨rfl, hwi⟩ := Codec.encAll_of_decAll r.args args a e1
  have KX := hY w _ Y
  obtain ⟨fd, cs, hcs, hb, hF⟩ := F w mg fa _ Y KX G.T.g hmg
  have hT : ∀ p ∈ cs, CodeHd s₁.heap p.1 p.2 ∧ s₁.heap.get? p.2 = some (tabObj #[]) := fun p hp => match (hcs p hp).1 with
    | ⟨x, h1, h2⟩ => (Option.isSome_iff_exists.mp h1).elim fun dr h1 => PySem.W.tab_of (c := p.1) (P := p.2) G.T KX h1 h2
  refine PySem.W.enter_call (codeAny_mono (spec_callT (R := []) (cl := classAt s₀.heap) (d0 := r.ret.enc (Codec.app r.args r.f a)) KX G.T.g G.T.b G.T.builtins G.T.nolimit hg hT (fun p hp => (hcs p hp).2) G.T.bmain hwl (pl_encAll _ _) (layable_weight hlay) hr hF hb (by rw [encAll_len]; exact hlen)
    (fun H xs hO hS => hsp _ cs H xs a hO hwi e2 hS)) ?_)
  rintro r' s' ⟨u, as', rfl, h1, h2, h3, h4⟩
  exact ⟨.inl ⟨u, _, as', rfl, fun _ => rfl, h1, (OpenSpec.post_iff hwell hwi _ _).mpr rfl, fun z => Bool.noConfusion (show false = true from z)⟩, h2, h3, h4⟩
end My

namespace My
open PySem L2
/-- the i-th statement of the program -/
def topS (i : Nat) : Stmt := PySem.Challenge.pw_reachedchances_s01_answers.main.body.getD i (.Pass ⟨0, 0, 0, 0⟩)
abbrev sGreatestCommon : Stmt := topS 3
abbrev sReduced : Stmt := topS 4
abbrev sPlus : Stmt := topS 5
abbrev sMinus : Stmt := topS 6
abbrev sProduct : Stmt := topS 7
abbrev sQuotient : Stmt := topS 8
abbrev sTimes : Stmt := topS 9
abbrev sDivided : Stmt := topS 10
abbrev sSize : Stmt := topS 11
abbrev sIsLess : Stmt := topS 12
abbrev sLesser : Stmt := topS 13
abbrev sGroupInit : Stmt := inClass (topS 15) 0
abbrev sLacksSomebody : Stmt := topS 16
abbrev sPartChosen : Stmt := topS 17
abbrev sHasMoreSo : Stmt := topS 19
abbrev sPutInOrder : Stmt := topS 20
abbrev sScoresInOrder : Stmt := topS 21
abbrev sScoresFromOtherEnd : Stmt := topS 22
abbrev sChancesAlong : Stmt := topS 23
abbrev sMostChances : Stmt := topS 24
abbrev sFewestChances : Stmt := topS 25
abbrev sMostY : Stmt := topS 27
abbrev sFewestY : Stmt := topS 28
abbrev sCanReach : Stmt := topS 29
abbrev sShareOfMost : Stmt := topS 30
abbrev sChancesFor : Stmt := topS 31
abbrev sCornerXs : Stmt := topS 32
abbrev sWorthOf : Stmt := topS 34
abbrev sLeadOfFirst : Stmt := topS 35
abbrev sCrossingsBetween : Stmt := topS 36
abbrev sTurningXs : Stmt := topS 37
abbrev sBestOf : Stmt := topS 38
abbrev sTableInit : Stmt := inClass (topS 52) 0
abbrev sHasGroup : Stmt := topS 53
abbrev sHasCell : Stmt := topS 54
abbrev sIsLower : Stmt := topS 55
abbrev sIsPart : Stmt := topS 56
abbrev sAreParts : Stmt := topS 57
abbrev sAreGainAndLoss : Stmt := topS 58
abbrev sIsSomebodyLacking : Stmt := topS 59
abbrev sRefusalOfBoth : Stmt := topS 60
abbrev sRefusalOfOne : Stmt := topS 61
abbrev sLaidOut : Stmt := topS 62
abbrev sAnswerBegin : Stmt := topS 63
abbrev sAnswerCount : Stmt := topS 64
abbrev sAnswerCell : Stmt := topS 65
abbrev sAnswerPeople : Stmt := topS 66
abbrev sAnswerChances : Stmt := topS 67
abbrev sAnswerPoint : Stmt := topS 68
abbrev sAnswerBound : Stmt := topS 69
abbrev sAnswerUpper : Stmt := topS 70
abbrev sAnswerLower : Stmt := topS 71
abbrev sAnswerCan : Stmt := topS 72
abbrev sAnswerReach : Stmt := topS 73
abbrev sAnswerBoth : Stmt := topS 74
abbrev sAnswerCorners : Stmt := topS 75
abbrev sAnswerBest : Stmt := topS 76
abbrev sAnswerTake : Stmt := topS 77
abbrev sAnswerState : Stmt := topS 78
abbrev sEndOfCall : Stmt := topS 81
abbrev sAnswerCall : Stmt := topS 82
abbrev sAnswers : Stmt := topS 83
end My

namespace My
open PySem PySem.Spec PyProof.Rows L2
/-- a test whose answer is known -/
theorem ifT {c : Bool} {A B : Prop} (hc : c = true) (h : A) : if c = true then A else B := (if_pos hc).mpr h
theorem ifF {c : Bool} {A B : Prop} (hc : c = false) (h : B) : if c = true then A else B := (if_neg (by rw [hc]; exact Bool.false_ne_true)).mpr h
theorem ifB {c : Bool} {A B : Prop} (h1 : c = true → A) (h2 : c = false → B) : if c = true then A else B := by
  cases c with
  | true => exact ifT rfl (h1 rfl)
  | false => exact ifF rfl (h2 rfl)
theorem ifD {p : Prop} [Decidable p] {A B : Prop} (h1 : p → A) (h2 : ¬ p → B) : if decide p = true then A else B := ifB (fun h => h1 (of_decide_eq_true h)) fun h => h2 (of_decide_eq_false h)
theorem ifN {p : Prop} [Decidable p] {A B : Prop} (h1 : ¬ p → A) (h2 : p → B) : if (!decide p) = true then A else B := ifB (fun h => h1 (of_decide_eq_false (by simpa using h))) fun h => h2 (of_decide_eq_true (by simpa using h))
theorem int_eq {a b : Int} : V.int a = V.int b ↔ a = b := ⟨fun h => by injection h, fun h => by rw [h]⟩
/-! ### a def of the text and its promise, by its name -/
/-- the name x stands for the def st of the text, with the parameters ps -/
def Has (K : PySem.W.Frag) (mg : Str → Option Value) (x : Str) (st : Stmt) (ps : List Str) : Prop := ∃ (f : Addr) (fd : FuncData), Fun K x x st f fd ∧ mg x = some (.ref f) ∧ Binds K fd ps []
/-- the name x stands for a def that keeps the promise sp -/
def Kept (P : Program) (w : World) (K : PySem.W.Frag) (mg : Str → Option Value) (base : Heap) (k : Nat) (x : Str) (ps : List Str) (sp : Sp) : Prop := ∃ (f : Addr) (fd : FuncData), FnOk P w K mg base CX0 k f fd ps sp ∧ mg x = some (.ref f) ∧ PySem.W.keepIn K (.ref f) = true ∧ Binds K fd ps []
theorem Has.kept {P : Program} {w : World} {K : PySem.W.Frag} {mg : Str → Option Value} {base : Heap} {k : Nat} {x : Str} {st : Stmt} {N ps : List Str} {sp : Sp} (D : Has K mg x st ps) (S : FnScope N ps (defScope st)) (len : ∀ vs H Q E, sp vs H Q E → vs.length = ps.length)
    (hbody : ∀ (f : Addr) (cdv : Value) (A : Around) (outer : List Env) (s : Shared) (H : Hp) (vs : List V) (Q : VK) (E : XK), Room k (A.deeper (envOfC x (defScope st) s.heap.objs.size f cdv)) → sp vs H Q E →
      ∃ t, PSs (cxOf CX0 P w K mg base N x (defScope st) f cdv A outer s H E).nox (defBody st) t ∧ t { nx := fun _ H' => Q .non H', rt := Q } (start N vs) H) : Kept P w K mg base (k + 1) x ps sp :=
  match D with
  | ⟨f, fd, F, m, b⟩ => ⟨f, fd, F.ok S len fun cdv A outer s H vs Q E hr h => hbody f cdv A outer s H vs Q E hr h, m, F.kp, b⟩
theorem Kept.mono {P : Program} {w : World} {K : PySem.W.Frag} {mg : Str → Option Value} {base : Heap} {k j : Nat} {x : Str} {ps : List Str} {sp : Sp} (D : Kept P w K mg base k x ps sp) (h : k ≤ j) : Kept P w K mg base j x ps sp :=
  match D with
  | ⟨f, fd, F, m, kp, b⟩ => ⟨f, fd, ⟨F.len, fun A outer s H args us vs Q E hr => F.run A outer s H args us vs Q E (hr.mono h)⟩, m, kp, b⟩
/-- x(e, ..) -/
theorem pe_def {X : Cx} {k : Nat} {x : Str} {ps : List Str} {sp : Sp} {p pos : Pos} {e : Expr} {es : List Expr} {t : TA} (D : Kept X.prog X.w X.K X.mg X.base k x ps sp) (hr : Room k X.A) (hg : Gl X x) (ha : PA X (e :: es) t)
    (hdb : (x == ("__debug__" : Str)) = false := by decide) (he : starEach (e :: es) X.env = (false, eval e X.env) :: starEach es X.env := by rfl) (hpl : (backTo pos (starEach es X.env)).any (·.1) = false := by rfl) :
    PE X (.Call (.Name x p) (e :: es) [] pos) (tCall sp [] E0 t) :=
  match D with
  | ⟨_, _, F, m, kp, b⟩ => pe_call F hr hg m kp b .nil (fun _ _ _ _ _ _ _ h => h.elim) ha hdb he hpl
/-! ### fractions in the heap -/
/-- the two numbers of r -/
def frV (r : Rat) : List V := [.int r.num, .int r.den]
/-- v is the fraction r -/
def Fr (K : PySem.W.Frag) (H : Hp) (v : V) (r : Rat) : Prop := ∃ a, v = .ref a ∧ SqT K H a (frV r)
theorem sqT_same {K : PySem.W.Frag} {H H' : Hp} {a : Addr} {xs : List V} (e : Same H H') (h : SqT K H a xs) : SqT K H' a xs := by
  rcases h with (h | ⟨o, h⟩) | h
  · exact .inl (.inl (e _ _ h))
  · exact .inl (.inr ⟨o, e _ _ h⟩)
  · exact .inr h
theorem Fr.same {K : PySem.W.Frag} {H H' : Hp} {v : V} {r : Rat} (h : Fr K H v r) (e : Same H H') : Fr K H' v r := h.imp fun _ q => ⟨q.1, sqT_same e q.2⟩
theorem Fr.new {K : PySem.W.Frag} {H : Hp} {p : Addr} {r : Rat} : Fr K (upd H p (.tup (frV r))) (.ref p) r := ⟨p, rfl, SqT.of upd_same⟩
theorem Same.new {H : Hp} {p : Addr} {o : HO} (h : H p = none) : Same H (upd H p o) := fun b u e => (upd_ne (ne_of_none e h)).trans e
/-- a new fraction is handed back -/
def NewFr (H : Hp) (Q : VK) (r : Rat) : Prop := ∀ p, H p = none → Q (.ref p) (upd H p (.tup (frV r)))
def spGcd : Sp := fun vs H Q _ => ∃ a b : Int, vs = [.int a, .int b] ∧ 0 < b ∧ Q (.int (Int.gcd a b)) H
def spReduced : Sp := fun vs H Q _ => ∃ u l : Int, vs = [.int u, .int l] ∧ 0 < l ∧ l.natAbs < 2 ^ 9000 ∧ NewFr H Q ((u : Rat) / (l : Rat))
def spPlus (K : PySem.W.Frag) : Sp := fun vs H Q _ => ∃ (v1 v2 : V) (a b : Rat), vs = [v1, v2] ∧ Fr K H v1 a ∧ Fr K H v2 b ∧ Sm 4000 a ∧ Sm 4000 b ∧ NewFr H Q (a + b)
def spTimes (K : PySem.W.Frag) : Sp := fun vs H Q _ => ∃ (v1 : V) (a : Rat) (k : Int), vs = [v1, .int k] ∧ Fr K H v1 a ∧ Sm 4000 a ∧ k.natAbs < 2 ^ 60 ∧ NewFr H Q (a * (k : Rat))
def spDivided (K : PySem.W.Frag) : Sp := fun vs H Q _ => ∃ (v1 : V) (a : Rat) (k : Int), vs = [v1, .int k] ∧ Fr K H v1 a ∧ Sm 4000 a ∧ 0 < k ∧ k.natAbs < 2 ^ 60 ∧ NewFr H Q (a / (k : Rat))
section
variable {P : Program} {w : World} {K : PySem.W.Frag} {mg : Str → Option Value} {base : Heap}
theorem scGcd : FnScope ["first", "second", "rest"] ["first", "second"] (defScope sGreatestCommon) := ⟨rfl, rfl, rfl, by decide +kernel, rfl, by decide +kernel, by decide +kernel⟩
theorem ok_gcd (D : Has K mg "greatest_common" sGreatestCommon ["first", "second"]) : Kept P w K mg base 1 "greatest_common" ["first", "second"] spGcd := by
  refine D.kept scGcd (fun vs H Q E h => ?_) (fun f cdv A outer s H vs Q E hr h => ⟨_, pss_cons (ps_while PassesOwn.never (pt_cmpR op_ne (pv 1) pe_int (nomark _))
      (pss_cons (ps_set (i := 2) scGcd.nd rfl (Or.inl rfl) (pe_op op_modN (pv 0) (pv 1))) (pss_cons (ps_set (i := 0) scGcd.nd rfl (Or.inl rfl) (pv 1)) (pss_one (ps_set (i := 1) scGcd.nd rfl (Or.inl rfl) (pv 2))))))
    (pss_one (ps_ret (pv 0))), ?_⟩)
  · obtain ⟨a, b, rfl, _⟩ := h
    rfl
  · obtain ⟨a, b, rfl, hb, q⟩ := h
    refine while_by (fun σ H' => H' = H ∧ ∃ (x y : Int) (o : Option V), σ = [some (.int x), some (.int y), o] ∧ 0 ≤ y ∧ Int.gcd x y = Int.gcd a b ∧ (y = 0 → 0 < x)) (fun σ _ => match σ with | [_, some (.int y), _] => y.toNat | _ => 0) ?_ ?_ ?_
    · exact ⟨rfl, a, b, none, rfl, by omega, rfl, by omega⟩
    · rintro σ H' ⟨rfl, x, y, o, rfl, hy, hg, h0⟩
      refine ⟨_, rfl, rfl, _, rfl, ?_⟩
      refine ifN (fun c => ?_) fun c => ?_
      · have c : ¬ y = 0 := fun z => c (int_eq.mpr z)
        have hy' : 0 < y := by omega
        have hm := fmod_lt' x y hy'
        refine ⟨_, rfl, _, rfl, _, _, rfl, rfl, c, _, rfl, _, rfl, ⟨rfl, y, x.fmod y, _, rfl, hm.1, by rw [gcd_turn x y hy', hg], fun _ => hy'⟩, ?_⟩
        show (x.fmod y).toNat < y.toNat
        omega
      · obtain rfl := int_eq.mp c
        have e : (Int.gcd a b : Int) = x := by
          rw [← hg, Int.gcd_zero_right]
          have := h0 rfl
          omega
        refine ⟨_, rfl, ?_⟩
        rw [← e]
        exact q
    · rintro σ H' Q1 Q2 hq ⟨v, e1, e2, k, e3, h3⟩
      exact ⟨v, e1, e2, k, e3, hq _ _ h3⟩
theorem scReduced : FnScope ["upper", "lower", "common"] ["upper", "lower"] (defScope sReduced) := ⟨rfl, rfl, rfl, by decide +kernel, rfl, by decide +kernel, by decide +kernel⟩
theorem ok_reduced (D : Has K mg "reduced" sReduced ["upper", "lower"]) (G : Kept P w K mg base 1 "greatest_common" ["first", "second"] spGcd) :
    Kept P w K mg base 2 "reduced" ["upper", "lower"] spReduced := by
  refine D.kept scReduced (fun vs H Q E h => ?_) (fun f cdv A outer s H vs Q E hr h => ⟨_, pss_cons (ps_set (i := 2) scReduced.nd rfl (Or.inl rfl) (pe_def G hr rfl (pa_cons (pv 0) (pa_cons (pv 1) pa_nil))))
    (pss_one (ps_ret (pe_tup (pa_cons (pe_op op_fdivW (pv 0) (pv 2)) (pa_cons (pe_op op_fdivW (pv 1) (pv 2)) pa_nil))))), ?_⟩)
  · obtain ⟨a, b, rfl, _⟩ := h
    rfl
  · obtain ⟨u, l, rfl, hl, hs, q⟩ := h
    have hg := gcd_pos u l hl
    have hw : CDivW l (Int.gcd u l) := wide_div hg (Nat.lt_of_le_of_lt (by have := gcd_le u l hl; omega) hs) (by decide) (by decide)
    have hw' : CDivW u (Int.gcd u l) := ⟨hw.1, hw.2⟩
    refine ⟨_, rfl, _, rfl, u, l, rfl, hl, _, rfl, _, rfl, _, _, rfl, rfl, hw', _, rfl, _, rfl, _, _, rfl, rfl, hw, (by show 2 ≤ sizeLine; decide), fun p hp => ?_⟩
    have e : [V.int (u / (Int.gcd u l : Int)), V.int (l / (Int.gcd u l : Int))] = frV ((u : Rat) / (l : Rat)) := by
      unfold frV
      rw [num_div u l hl, den_div u l hl]
    rw [e]
    exact q p hp
theorem scPlus : FnScope ["left", "right"] ["left", "right"] (defScope sPlus) := ⟨rfl, rfl, rfl, by decide +kernel, rfl, by decide +kernel, by decide +kernel⟩
theorem at0 {r : Rat} : atI (frV r) 0 = some (.int r.num) := rfl
theorem at1 {r : Rat} : atI (frV r) 1 = some (.int r.den) := rfl
theorem ok_plus (D : Has K mg "plus" sPlus ["left", "right"]) (G : Kept P w K mg base 2 "reduced" ["upper", "lower"] spReduced) :
    Kept P w K mg base 3 "plus" ["left", "right"] (spPlus K) := by
  refine D.kept scPlus (fun vs H Q E h => ?_) (fun f cdv A outer s H vs Q E hr h => ⟨_, pss_one (ps_ret (pe_def G hr rfl (pa_cons
      (pe_op op_add (pe_op op_mulW (pe_ix ix_tup (pv 0) pe_int (fun _ _ => rfl)) (pe_ix ix_tup (pv 1) pe_int (fun _ _ => rfl))) (pe_op op_mulW (pe_ix ix_tup (pv 1) pe_int (fun _ _ => rfl)) (pe_ix ix_tup (pv 0) pe_int (fun _ _ => rfl))))
      (pa_cons (pe_op op_mulW (pe_ix ix_tup (pv 0) pe_int (fun _ _ => rfl)) (pe_ix ix_tup (pv 1) pe_int (fun _ _ => rfl))) pa_nil)))), ?_⟩)
  · obtain ⟨a, b, _, _, rfl, _⟩ := h
    rfl
  · obtain ⟨v1, v2, a, b, rfl, ⟨p1, rfl, h1⟩, ⟨p2, rfl, h2⟩, sa, sb, q⟩ := h
    have m1 : CMulW a.num b.den := wide_mul sa.1 (by rw [nab]; exact sb.2) (by decide) (by decide) (by decide)
    have m2 : CMulW b.num a.den := wide_mul sb.1 (by rw [nab]; exact sa.2) (by decide) (by decide) (by decide)
    have m3 : CMulW a.den b.den := wide_mul (by rw [nab]; exact sa.2) (by rw [nab]; exact sb.2) (by decide) (by decide) (by decide)
    refine ⟨_, rfl, p1, _, 0, _, rfl, rfl, h1, at0, _, rfl, p2, _, 1, _, rfl, rfl, h2, at1, _, _, rfl, rfl, m1, _, rfl, p2, _, 0, _, rfl, rfl, h2, at0, _, rfl, p1, _, 1, _, rfl, rfl, h1, at1, _, _, rfl, rfl, m2, _, _, rfl, rfl,
      _, rfl, p1, _, 1, _, rfl, rfl, h1, at1, _, rfl, p2, _, 1, _, rfl, rfl, h2, at1, _, _, rfl, rfl, m3, ?_⟩
    refine ⟨_, _, rfl, Int.mul_pos (den_pos a) (den_pos b), Nat.lt_of_lt_of_le (natAbs_mul_lt (by rw [nab]; exact sa.2) (by rw [nab]; exact sb.2)) (Nat.pow_le_pow_right (by decide) (by decide)), ?_⟩
    rw [plus_eq]
    exact q
theorem scTimes : FnScope ["part", "many"] ["part", "many"] (defScope sTimes) := ⟨rfl, rfl, rfl, by decide +kernel, rfl, by decide +kernel, by decide +kernel⟩
theorem ok_times (D : Has K mg "times" sTimes ["part", "many"]) (G : Kept P w K mg base 2 "reduced" ["upper", "lower"] spReduced) :
    Kept P w K mg base 3 "times" ["part", "many"] (spTimes K) := by
  refine D.kept scTimes (fun vs H Q E h => ?_) (fun f cdv A outer s H vs Q E hr h => ⟨_, pss_one (ps_ret (pe_def G hr rfl (pa_cons
      (pe_op op_mulW (pe_ix ix_tup (pv 0) pe_int (fun _ _ => rfl)) (pv 1)) (pa_cons (pe_ix ix_tup (pv 0) pe_int (fun _ _ => rfl)) pa_nil)))), ?_⟩)
  · obtain ⟨a, b, _, rfl, _⟩ := h
    rfl
  · obtain ⟨v1, a, k, rfl, ⟨p1, rfl, h1⟩, sa, hk, q⟩ := h
    have m1 : CMulW a.num k := wide_mul sa.1 hk (by decide) (by decide) (by decide)
    refine ⟨_, rfl, p1, _, 0, _, rfl, rfl, h1, at0, _, rfl, _, _, rfl, rfl, m1, _, rfl, p1, _, 1, _, rfl, rfl, h1, at1, _, _, rfl, den_pos a, Nat.lt_of_lt_of_le (by rw [nab]; exact sa.2) (Nat.pow_le_pow_right (by decide) (by decide)), ?_⟩
    rw [times_eq]
    exact q
theorem scDivided : FnScope ["part", "many"] ["part", "many"] (defScope sDivided) := ⟨rfl, rfl, rfl, by decide +kernel, rfl, by decide +kernel, by decide +kernel⟩
theorem ok_divided (D : Has K mg "divided" sDivided ["part", "many"]) (G : Kept P w K mg base 2 "reduced" ["upper", "lower"] spReduced) :
    Kept P w K mg base 3 "divided" ["part", "many"] (spDivided K) := by
  refine D.kept scDivided (fun vs H Q E h => ?_) (fun f cdv A outer s H vs Q E hr h => ⟨_, pss_one (ps_ret (pe_def G hr rfl (pa_cons
      (pe_ix ix_tup (pv 0) pe_int (fun _ _ => rfl)) (pa_cons (pe_op op_mulW (pe_ix ix_tup (pv 0) pe_int (fun _ _ => rfl)) (pv 1)) pa_nil)))), ?_⟩)
  · obtain ⟨a, b, _, rfl, _⟩ := h
    rfl
  · obtain ⟨v1, a, k, rfl, ⟨p1, rfl, h1⟩, sa, h0, hk, q⟩ := h
    have m1 : CMulW a.den k := wide_mul (by rw [nab]; exact sa.2) hk (by decide) (by decide) (by decide)
    refine ⟨_, rfl, p1, _, 0, _, rfl, rfl, h1, at0, _, rfl, p1, _, 1, _, rfl, rfl, h1, at1, _, rfl, _, _, rfl, rfl, m1, _, _, rfl, Int.mul_pos (den_pos a) h0, Nat.lt_of_lt_of_le (natAbs_mul_lt (by rw [nab]; exact sa.2) hk) (Nat.pow_le_pow_right (by decide) (by decide)), ?_⟩
    rw [divided_eq a k (by omega)]
    exact q
/-! ### minus, product, quotient, size, is_less, lesser -/
def spMinus (K : PySem.W.Frag) : Sp := fun vs H Q _ => ∃ (v1 v2 : V) (a b : Rat), vs = [v1, v2] ∧ Fr K H v1 a ∧ Fr K H v2 b ∧ Sm 4000 a ∧ Sm 4000 b ∧ NewFr H Q (a - b)
def spProduct (K : PySem.W.Frag) : Sp := fun vs H Q _ => ∃ (v1 v2 : V) (a b : Rat), vs = [v1, v2] ∧ Fr K H v1 a ∧ Fr K H v2 b ∧ Sm 4000 a ∧ Sm 4000 b ∧ NewFr H Q (a * b)
def spQuotient (K : PySem.W.Frag) : Sp := fun vs H Q _ => ∃ (v1 v2 : V) (a b : Rat), vs = [v1, v2] ∧ Fr K H v1 a ∧ Fr K H v2 b ∧ Sm 4000 a ∧ Sm 4000 b ∧ 0 < b ∧ NewFr H Q (a / b)
def spSize (K : PySem.W.Frag) : Sp := fun vs H Q _ => ∃ (v1 : V) (a : Rat), vs = [v1] ∧ Fr K H v1 a ∧ NewFr H Q (absR a)
def spLess (K : PySem.W.Frag) : Sp := fun vs H Q _ => ∃ (v1 v2 : V) (a b : Rat), vs = [v1, v2] ∧ Fr K H v1 a ∧ Fr K H v2 b ∧ Sm 4000 a ∧ Sm 4000 b ∧ Q (.bl (decide (a < b))) H
def spLesser (K : PySem.W.Frag) : Sp := fun vs H Q _ => ∃ (v1 v2 : V) (a b : Rat), vs = [v1, v2] ∧ Fr K H v1 a ∧ Fr K H v2 b ∧ Sm 4000 a ∧ Sm 4000 b ∧ ∀ v, Fr K H v (min a b) → Q v H
theorem scMinus : FnScope ["left", "right"] ["left", "right"] (defScope sMinus) := ⟨rfl, rfl, rfl, by decide +kernel, rfl, by decide +kernel, by decide +kernel⟩
theorem ok_minus (D : Has K mg "minus" sMinus ["left", "right"]) (G : Kept P w K mg base 2 "reduced" ["upper", "lower"] spReduced) :
    Kept P w K mg base 3 "minus" ["left", "right"] (spMinus K) := by
  refine D.kept scMinus (fun vs H Q E h => ?_) (fun f cdv A outer s H vs Q E hr h => ⟨_, pss_one (ps_ret (pe_def G hr rfl (pa_cons
      (pe_op op_sub (pe_op op_mulW (pe_ix ix_tup (pv 0) pe_int (fun _ _ => rfl)) (pe_ix ix_tup (pv 1) pe_int (fun _ _ => rfl))) (pe_op op_mulW (pe_ix ix_tup (pv 1) pe_int (fun _ _ => rfl)) (pe_ix ix_tup (pv 0) pe_int (fun _ _ => rfl))))
      (pa_cons (pe_op op_mulW (pe_ix ix_tup (pv 0) pe_int (fun _ _ => rfl)) (pe_ix ix_tup (pv 1) pe_int (fun _ _ => rfl))) pa_nil)))), ?_⟩)
  · obtain ⟨a, b, _, _, rfl, _⟩ := h
    rfl
  · obtain ⟨v1, v2, a, b, rfl, ⟨p1, rfl, h1⟩, ⟨p2, rfl, h2⟩, sa, sb, q⟩ := h
    have m1 : CMulW a.num b.den := wide_mul sa.1 (by rw [nab]; exact sb.2) (by decide) (by decide) (by decide)
    have m2 : CMulW b.num a.den := wide_mul sb.1 (by rw [nab]; exact sa.2) (by decide) (by decide) (by decide)
    have m3 : CMulW a.den b.den := wide_mul (by rw [nab]; exact sa.2) (by rw [nab]; exact sb.2) (by decide) (by decide) (by decide)
    refine ⟨_, rfl, p1, _, 0, _, rfl, rfl, h1, at0, _, rfl, p2, _, 1, _, rfl, rfl, h2, at1, _, _, rfl, rfl, m1, _, rfl, p2, _, 0, _, rfl, rfl, h2, at0, _, rfl, p1, _, 1, _, rfl, rfl, h1, at1, _, _, rfl, rfl, m2, _, _, rfl, rfl,
      _, rfl, p1, _, 1, _, rfl, rfl, h1, at1, _, rfl, p2, _, 1, _, rfl, rfl, h2, at1, _, _, rfl, rfl, m3, ?_⟩
    refine ⟨_, _, rfl, Int.mul_pos (den_pos a) (den_pos b), Nat.lt_of_lt_of_le (natAbs_mul_lt (by rw [nab]; exact sa.2) (by rw [nab]; exact sb.2)) (Nat.pow_le_pow_right (by decide) (by decide)), ?_⟩
    rw [minus_eq]
    exact q
theorem scProduct : FnScope ["left", "right"] ["left", "right"] (defScope sProduct) := ⟨rfl, rfl, rfl, by decide +kernel, rfl, by decide +kernel, by decide +kernel⟩
theorem ok_product (D : Has K mg "product" sProduct ["left", "right"]) (G : Kept P w K mg base 2 "reduced" ["upper", "lower"] spReduced) :
    Kept P w K mg base 3 "product" ["left", "right"] (spProduct K) := by
  refine D.kept scProduct (fun vs H Q E h => ?_) (fun f cdv A outer s H vs Q E hr h => ⟨_, pss_one (ps_ret (pe_def G hr rfl (pa_cons
      (pe_op op_mulW (pe_ix ix_tup (pv 0) pe_int (fun _ _ => rfl)) (pe_ix ix_tup (pv 1) pe_int (fun _ _ => rfl)))
      (pa_cons (pe_op op_mulW (pe_ix ix_tup (pv 0) pe_int (fun _ _ => rfl)) (pe_ix ix_tup (pv 1) pe_int (fun _ _ => rfl))) pa_nil)))), ?_⟩)
  · obtain ⟨a, b, _, _, rfl, _⟩ := h
    rfl
  · obtain ⟨v1, v2, a, b, rfl, ⟨p1, rfl, h1⟩, ⟨p2, rfl, h2⟩, sa, sb, q⟩ := h
    have m1 : CMulW a.num b.num := wide_mul sa.1 sb.1 (by decide) (by decide) (by decide)
    have m3 : CMulW a.den b.den := wide_mul (by rw [nab]; exact sa.2) (by rw [nab]; exact sb.2) (by decide) (by decide) (by decide)
    refine ⟨_, rfl, p1, _, 0, _, rfl, rfl, h1, at0, _, rfl, p2, _, 0, _, rfl, rfl, h2, at0, _, _, rfl, rfl, m1,
      _, rfl, p1, _, 1, _, rfl, rfl, h1, at1, _, rfl, p2, _, 1, _, rfl, rfl, h2, at1, _, _, rfl, rfl, m3, ?_⟩
    refine ⟨_, _, rfl, Int.mul_pos (den_pos a) (den_pos b), Nat.lt_of_lt_of_le (natAbs_mul_lt (by rw [nab]; exact sa.2) (by rw [nab]; exact sb.2)) (Nat.pow_le_pow_right (by decide) (by decide)), ?_⟩
    rw [product_eq]
    exact q
theorem scQuotient : FnScope ["left", "right"] ["left", "right"] (defScope sQuotient) := ⟨rfl, rfl, rfl, by decide +kernel, rfl, by decide +kernel, by decide +kernel⟩
theorem ok_quotient (D : Has K mg "quotient" sQuotient ["left", "right"]) (G : Kept P w K mg base 2 "reduced" ["upper", "lower"] spReduced) :
    Kept P w K mg base 3 "quotient" ["left", "right"] (spQuotient K) := by
  refine D.kept scQuotient (fun vs H Q E h => ?_) (fun f cdv A outer s H vs Q E hr h => ⟨_, pss_one (ps_ret (pe_def G hr rfl (pa_cons
      (pe_op op_mulW (pe_ix ix_tup (pv 0) pe_int (fun _ _ => rfl)) (pe_ix ix_tup (pv 1) pe_int (fun _ _ => rfl)))
      (pa_cons (pe_op op_mulW (pe_ix ix_tup (pv 0) pe_int (fun _ _ => rfl)) (pe_ix ix_tup (pv 1) pe_int (fun _ _ => rfl))) pa_nil)))), ?_⟩)
  · obtain ⟨a, b, _, _, rfl, _⟩ := h
    rfl
  · obtain ⟨v1, v2, a, b, rfl, ⟨p1, rfl, h1⟩, ⟨p2, rfl, h2⟩, sa, sb, b0, q⟩ := h
    have m1 : CMulW a.num b.den := wide_mul sa.1 (by rw [nab]; exact sb.2) (by decide) (by decide) (by decide)
    have m3 : CMulW a.den b.num := wide_mul (by rw [nab]; exact sa.2) sb.1 (by decide) (by decide) (by decide)
    refine ⟨_, rfl, p1, _, 0, _, rfl, rfl, h1, at0, _, rfl, p2, _, 1, _, rfl, rfl, h2, at1, _, _, rfl, rfl, m1,
      _, rfl, p1, _, 1, _, rfl, rfl, h1, at1, _, rfl, p2, _, 0, _, rfl, rfl, h2, at0, _, _, rfl, rfl, m3, ?_⟩
    refine ⟨_, _, rfl, Int.mul_pos (den_pos a) (num_pos' b0), Nat.lt_of_lt_of_le (natAbs_mul_lt (by rw [nab]; exact sa.2) sb.1) (Nat.pow_le_pow_right (by decide) (by decide)), ?_⟩
    rw [quot_eq a b b0]
    exact q
theorem boot_abs : bootBuiltins "abs" = some (.builtin "abs") := by decide +kernel
theorem scSize : FnScope ["part"] ["part"] (defScope sSize) := ⟨rfl, rfl, rfl, by decide +kernel, rfl, by decide +kernel, by decide +kernel⟩
theorem ok_size (D : Has K mg "size" sSize ["part"]) (ma : mg "abs" = none) : Kept P w K mg base 1 "size" ["part"] (spSize K) := by
  refine D.kept scSize (fun vs H Q E h => ?_) (fun f cdv A outer s H vs Q E hr h => ⟨_, pss_one (ps_ret (pe_tup (pa_cons (pe_callB call_abs (by rfl) ma boot_abs (pa_cons (pe_ix ix_tup (pv 0) pe_int (fun _ _ => rfl)) pa_nil)) (pa_cons (pe_ix ix_tup (pv 0) pe_int (fun _ _ => rfl)) pa_nil)))), ?_⟩)
  · obtain ⟨a, _, rfl, _⟩ := h
    rfl
  · obtain ⟨v1, a, rfl, ⟨p1, rfl, h1⟩, q⟩ := h
    refine ⟨_, rfl, p1, _, 0, _, rfl, rfl, h1, at0, _, rfl, _, rfl, p1, _, 1, _, rfl, rfl, h1, at1, (by show 2 ≤ sizeLine; decide), fun p hp => ?_⟩
    have e : [V.int (if a.num < 0 then -a.num else a.num), V.int a.den] = frV (absR a) := by
      unfold frV
      rw [absR_num, absR_den]
    rw [e]
    exact q p hp
theorem scIsLess : FnScope ["left", "right"] ["left", "right"] (defScope sIsLess) := ⟨rfl, rfl, rfl, by decide +kernel, rfl, by decide +kernel, by decide +kernel⟩
theorem ok_less (D : Has K mg "is_less" sIsLess ["left", "right"]) : Kept P w K mg base 1 "is_less" ["left", "right"] (spLess K) := by
  refine D.kept scIsLess (fun vs H Q E h => ?_) (fun f cdv A outer s H vs Q E hr h => ⟨_, pss_one (ps_ret (pe_cmpR op_lt
      (pe_op op_mulW (pe_ix ix_tup (pv 0) pe_int (fun _ _ => rfl)) (pe_ix ix_tup (pv 1) pe_int (fun _ _ => rfl)))
      (pe_op op_mulW (pe_ix ix_tup (pv 1) pe_int (fun _ _ => rfl)) (pe_ix ix_tup (pv 0) pe_int (fun _ _ => rfl))) (nomark _))), ?_⟩)
  · obtain ⟨a, b, _, _, rfl, _⟩ := h
    rfl
  · obtain ⟨v1, v2, a, b, rfl, ⟨p1, rfl, h1⟩, ⟨p2, rfl, h2⟩, sa, sb, q⟩ := h
    have m1 : CMulW a.num b.den := wide_mul sa.1 (by rw [nab]; exact sb.2) (by decide) (by decide) (by decide)
    have m2 : CMulW b.num a.den := wide_mul sb.1 (by rw [nab]; exact sa.2) (by decide) (by decide) (by decide)
    refine ⟨_, rfl, p1, _, 0, _, rfl, rfl, h1, at0, _, rfl, p2, _, 1, _, rfl, rfl, h2, at1, _, _, rfl, rfl, m1, _, rfl, p2, _, 0, _, rfl, rfl, h2, at0, _, rfl, p1, _, 1, _, rfl, rfl, h1, at1, _, _, rfl, rfl, m2, _, _, rfl, rfl, ?_⟩
    rw [← less_is] at q
    exact q
theorem scLesser : FnScope ["left", "right"] ["left", "right"] (defScope sLesser) := ⟨rfl, rfl, rfl, by decide +kernel, rfl, by decide +kernel, by decide +kernel⟩
theorem ok_lesser (D : Has K mg "lesser" sLesser ["left", "right"]) (L : Kept P w K mg base 1 "is_less" ["left", "right"] (spLess K)) : Kept P w K mg base 2 "lesser" ["left", "right"] (spLesser K) := by
  refine D.kept scLesser (fun vs H Q E h => ?_) (fun f cdv A outer s H vs Q E hr h => ⟨_, pss_one (ps_ret (pe_ifExp (pt_val (pe_def L hr rfl (pa_cons (pv 1) (pa_cons (pv 0) pa_nil)))) (pv 1) (pv 0))), ?_⟩)
  · obtain ⟨a, b, _, _, rfl, _⟩ := h
    rfl
  · obtain ⟨v1, v2, a, b, rfl, h1, h2, sa, sb, q⟩ := h
    refine ⟨_, rfl, _, rfl, v2, v1, b, a, rfl, h2, h1, sb, sa, _, rfl, ?_⟩
    refine ifD (fun c => ?_) fun c => ?_
    · refine ⟨_, rfl, q v2 ?_⟩
      have e : min a b = b := by grind
      rw [e]
      exact h2
    · refine ⟨_, rfl, q v1 ?_⟩
      have e : min a b = a := by grind
      rw [e]
      exact h1
end
end My

namespace My
open PySem PySem.Spec PyProof.Rows L2
/-! ### a group in the heap -/
structure GA where
  p : Addr
  dx : Addr
  aS : Addr
  aN : Addr
  aC : Addr
  cs : List V
def gF (aS aN aC : Addr) : List (Str × V) := [("so", .ref aS), ("not_so", .ref aN), ("chances", .ref aC)]
theorem gF_so {aS aN aC : Addr} : (gF aS aN aC).lookup ("so" : Str) = some (.ref aS) := by rfl
theorem gF_no {aS aN aC : Addr} : (gF aS aN aC).lookup ("not_so" : Str) = some (.ref aN) := by rfl
theorem gF_ch {aS aN aC : Addr} : (gF aS aN aC).lookup ("chances" : Str) = some (.ref aC) := by rfl
theorem gF_put {aS aN aC a : Addr} : putF "chances" (.ref a) (gF aS aN aC) = gF aS aN a := by rfl
theorem gF_new {aS aN aC : Addr} : putF "chances" (.ref aC) (putF "not_so" (.ref aN) (putF "so" (.ref aS) [])) = gF aS aN aC := by rfl
/-- the fractions rs, one a place -/
structure Frs (K : PySem.W.Frag) (H : Hp) (cs : List V) (rs : List Rat) : Prop where
  len : cs.length = rs.length
  each : ∀ (i : Nat) (v : V) (r : Rat), cs[i]? = some v → rs[i]? = some r → Fr K H v r
theorem Frs.same {K : PySem.W.Frag} {H H' : Hp} {cs : List V} {rs : List Rat} (h : Frs K H cs rs) (e : Same H H') : Frs K H' cs rs := ⟨h.len, fun i v r a b => (h.each i v r a b).same e⟩
structure GrpAt (K : PySem.W.Frag) (C : Addr) (H : Hp) (g : GA) (ys ns : List Int) (rs : List Rat) : Prop where
  ins : H g.p = some (.ins C g.dx (gF g.aS g.aN g.aC))
  so : H g.aS = some (.lst (ys.map V.int))
  no : H g.aN = some (.lst (ns.map V.int))
  ch : H g.aC = some (.lst g.cs)
  fr : Frs K H g.cs rs
theorem GrpAt.same {K : PySem.W.Frag} {C : Addr} {H H' : Hp} {g : GA} {so no : List Int} {ch : List Rat} (h : GrpAt K C H g so no ch) (e : Same H H') : GrpAt K C H' g so no ch := ⟨e _ _ h.ins, e _ _ h.so, e _ _ h.no, e _ _ h.ch, h.fr.same e⟩
/-- what the top tells of the class Group and of built-ins -/
structure TxtG (K : PySem.W.Frag) (mg : Str → Option Value) (C : Addr) : Prop where
  cl : Cls K C
  nS : NoAttr K C "so"
  nN : NoAttr K C "not_so"
  nC : NoAttr K C "chances"
  gC : mg "Group" = some (.ref C)
  sum : mg "sum" = none
  zip : mg "zip" = none
  len : mg "len" = none
  range : mg "range" = none
  min : mg "min" = none
  any : mg "any" = none
  all : mg "all" = none
/-- ZERO and ONE -/
structure TxtZ (K : PySem.W.Frag) (mg : Str → Option Value) (aZ aO : Addr) : Prop where
  gZ : mg "ZERO" = some (.ref aZ)
  gO : mg "ONE" = some (.ref aO)
  zero : ∀ H, SqT K H aZ (frV 0)
  one : ∀ H, SqT K H aO (frV 1)
theorem pe_ref {X : Cx} {x : Str} {a : Addr} {pos : Pos} (hg : Gl X x) (hm : X.mg x = some (.ref a)) (hdb : (x == ("__debug__" : Str)) = false := by decide) : PE X (.Name x pos) (tC (.ref a)) := pe_glob (v := .ref a) hg hm rfl hdb
theorem boot_sum : bootBuiltins "sum" = some (.builtin "sum") := by decide +kernel
section
variable {P : Program} {w : World} {K : PySem.W.Frag} {mg : Str → Option Value} {base : Heap} {C aZ aO : Addr}
/-! ### lacks_somebody -/
def spLacks (K : PySem.W.Frag) (C : Addr) : Sp := fun vs H Q _ => ∃ (g : GA) (so no : List Int) (ch : List Rat), vs = [.ref g.p] ∧ GrpAt K C H g so no ch ∧ Q (.bl (decide (so.sum = 0) || decide (no.sum = 0))) H
theorem scLacks : FnScope ["group"] ["group"] (defScope sLacksSomebody) := ⟨rfl, rfl, rfl, by decide +kernel, rfl, by decide +kernel, by decide +kernel⟩
theorem ok_lacks (D : Has K mg "lacks_somebody" sLacksSomebody ["group"]) (T : TxtG K mg C) : Kept P w K mg base 1 "lacks_somebody" ["group"] (spLacks K C) := by
  refine D.kept scLacks (fun vs H Q E h => ?_) (fun f cdv A outer s H vs Q E hr h => ⟨_, pss_one (ps_ret (pe_or
      (pe_cmpR op_eq (pe_callB (cr_sum rfl) (by rfl) T.sum boot_sum (pa_cons (pe_fld (pv 0) rfl) pa_nil)) pe_int (nomark _))
      (pe_one (pe_cmpR op_eq (pe_callB (cr_sum rfl) (by rfl) T.sum boot_sum (pa_cons (pe_fld (pv 0) rfl) pa_nil)) pe_int (nomark _))))), ?_⟩)
  · obtain ⟨g, _, _, _, rfl, _⟩ := h
    rfl
  · obtain ⟨g, so, no, ch, rfl, hG, q⟩ := h
    refine ⟨_, rfl, g.p, C, g.dx, _, _, rfl, hG.ins, T.cl, T.nS, gF_so, g.aS, so, rfl, SqL.of hG.so, rfl, _, rfl, ?_⟩
    refine ifD (fun c => ?_) fun c => ?_
    · rw [decide_eq_true (int_eq.mp c)] at q
      exact q
    · refine ⟨_, rfl, g.p, C, g.dx, _, _, rfl, hG.ins, T.cl, T.nN, gF_no, g.aN, no, rfl, SqL.of hG.no, rfl, ?_⟩
      rw [decide_eq_false (fun z => c (int_eq.mpr z)), Bool.false_or] at q
      have e : decide (V.int no.sum = V.int 0) = decide (no.sum = 0) := decide_eq_decide.mpr int_eq
      rw [e]
      exact q
/-! ### part_chosen -/
/-- the sum that the loop makes -/
def dot (ns : List Int) (rs : List Rat) : Rat := (ns.zip rs).foldl (fun a p => a + p.2 * (p.1 : Rat)) 0
theorem take_more {α : Type} {l : List α} {i : Nat} {x : α} (h : l[i]? = some x) : l.take (i + 1) = l.take i ++ [x] := by
  rw [List.take_add_one, h]
  rfl
theorem dot_more {ns : List Int} {rs : List Rat} {i : Nat} {n : Int} {r : Rat} (h1 : ns[i]? = some n) (h2 : rs[i]? = some r) : dot (ns.take (i + 1)) (rs.take (i + 1)) = dot (ns.take i) (rs.take i) + r * (n : Rat) := by
  have l1 := (List.getElem?_eq_some_iff.mp h1).1
  have l2 := (List.getElem?_eq_some_iff.mp h2).1
  unfold dot
  rw [take_more h1, take_more h2, List.zip_append (by rw [List.length_take, List.length_take]; omega), List.foldl_append]
  rfl
theorem nat_lt {n : Int} {m : Nat} (h1 : 0 ≤ n) (h2 : n ≤ 99) (hm : 7 ≤ m) : n.natAbs < 2 ^ m := Nat.lt_of_lt_of_le (show n.natAbs < 2 ^ 7 by omega) (Nat.pow_le_pow_right (by decide) hm)
theorem sum_pos_le : ∀ (ns : List Int), (∀ n ∈ ns, 0 ≤ n ∧ n ≤ 99) → 0 ≤ ns.sum ∧ ns.sum ≤ 99 * ns.length
  | [], _ => by simp
  | n :: r, h => by
    have h1 := h n (List.mem_cons_self ..)
    have h2 := sum_pos_le r fun m hm => h m (List.mem_cons_of_mem _ hm)
    rw [List.sum_cons, List.length_cons]
    omega
def spPart (K : PySem.W.Frag) : Sp := fun vs H Q _ => ∃ (a b : Addr) (ns : List Int) (cs : List V) (rs : List Rat), vs = [.ref a, .ref b] ∧ SqL K H a (ns.map V.int) ∧ SqL K H b cs ∧ Frs K H cs rs ∧ ns.length = rs.length ∧ ns.length ≤ 4 ∧ (∀ n ∈ ns, 0 ≤ n ∧ n ≤ 99) ∧ (∀ r ∈ rs, Sm 800 r) ∧ 0 < ns.sum ∧
  ∀ (p : Addr) (H' : Hp), Same H H' → H p = none → H' p = some (.tup (frV (dot ns rs / (ns.sum : Rat)))) → Q (.ref p) H'
theorem scPart : FnScope ["people", "chances", "chosen", "many", "chance"] ["people", "chances"] (defScope sPartChosen) := ⟨rfl, rfl, rfl, by decide +kernel, rfl, by decide +kernel, by decide +kernel⟩
theorem ok_part (D : Has K mg "part_chosen" sPartChosen ["people", "chances"]) (T : TxtG K mg C) (Z : TxtZ K mg aZ aO) (GP : Kept P w K mg base 3 "plus" ["left", "right"] (spPlus K)) (GT : Kept P w K mg base 3 "times" ["part", "many"] (spTimes K)) (GD : Kept P w K mg base 3 "divided" ["part", "many"] (spDivided K)) :
    Kept P w K mg base 4 "part_chosen" ["people", "chances"] (spPart K) := by
  refine D.kept scPart (fun vs H Q E h => ?_) (fun f cdv A outer s H vs Q E hr h => ⟨_, pss_cons (ps_set (i := 2) scPart.nd rfl (Or.inl rfl) (pe_ref rfl Z.gZ))
    (pss_cons (ps_for PassesOwn.never rfl (pi_zip (by rfl) T.zip (pa_cons (pv 0) (pa_cons (pv 1) pa_nil))) (pg_tup rfl (pgs_cons (pg_name (i := 3) scPart.nd rfl (Or.inl rfl)) (pgs_cons (pg_name (i := 4) scPart.nd rfl (Or.inl rfl)) pgs_nil)))
        (pss_one (ps_set (i := 2) scPart.nd rfl (Or.inl rfl) (pe_def GP hr rfl (pa_cons (pv 2) (pa_cons (pe_def GT hr rfl (pa_cons (pv 4) (pa_cons (pv 3) pa_nil))) pa_nil))))))
    (pss_one (ps_ret (pe_def GD hr rfl (pa_cons (pv 2) (pa_cons (pe_callB (cr_sum rfl) (by rfl) T.sum boot_sum (pa_cons (pv 0) pa_nil)) pa_nil)))))), ?_⟩)
  · obtain ⟨a, b, _, _, _, rfl, _⟩ := h
    rfl
  · obtain ⟨a, b, ns, cs, rs, rfl, hA, hB, hF, hl, h4, hn, hs, hp, q⟩ := h
    have hlc : (ns.map V.int).length = cs.length := by rw [List.length_map, hl, hF.len]
    refine ⟨_, rfl, _, rfl, a, b, ns.map V.int, cs, rfl, hA, hB, RZ.for_zipL (K := K) (a := a) (b := b) hlc
      (fun i σ H' => ∃ (c : V) (o1 o2 : Option V), σ = [some (.ref a), some (.ref b), some c, o1, o2] ∧ Same H H' ∧ Fr K H' c (dot (ns.take i) (rs.take i)) ∧ Sm (2 + 861 * i) (dot (ns.take i) (rs.take i)))
      ⟨_, none, none, rfl, Same.refl H, ⟨aZ, rfl, Z.zero H⟩, show Sm 2 0 from ⟨by decide, by decide⟩⟩ (fun i σ H' ⟨_, _, _, _, e, _⟩ => ⟨e.seq hA, e.seq hB⟩) ?_ ?_⟩
    · rintro i x y t σ H' hx hy ⟨c, o1, o2, rfl, e, hc, hsm⟩ nt
      obtain ⟨n, hni, rfl⟩ : ∃ n, ns[i]? = some n ∧ x = V.int n := by
        rw [List.getElem?_map] at hx
        cases z : ns[i]? with
        | none => rw [z] at hx; cases hx
        | some n => rw [z] at hx; exact ⟨n, rfl, (Option.some.inj hx).symm⟩
      have li : i < ns.length := (List.getElem?_eq_some_iff.mp hni).1
      obtain ⟨r, hri⟩ : ∃ r, rs[i]? = some r := ⟨rs[i], List.getElem?_eq_getElem (by omega)⟩
      have hb := hn n (List.mem_of_getElem? hni)
      have hsr := hs r (List.mem_of_getElem? hri)
      have e1 : Same H (upd H' t (.tup [V.int n, y])) := e.trans (Same.new nt)
      have fy := (hF.each i y r hy hri).same e1
      refine ⟨t, _, rfl, SqT.of upd_same, rfl, _, _, rfl, _, _, rfl, rfl, ?_⟩
      refine ⟨c, rfl, y, rfl, V.int n, rfl, y, r, n, rfl, fy, hsr.mono (by decide), nat_lt hb.1 hb.2 (by decide), fun p1 np1 => ?_⟩
      have e2 := Same.new (o := .tup (frV (r * (n : Rat)))) np1
      have sm2 : Sm 860 (r * (n : Rat)) := sm_times (m := 60) hsr (nat_lt hb.1 hb.2 (by decide))
      have i4 : i < 4 := by omega
      refine ⟨c, .ref p1, _, _, rfl, (hc.same (Same.new nt)).same e2, Fr.new, hsm.mono (by omega), sm2.mono (by decide), fun p2 np2 => ?_⟩
      refine ⟨.ref p2, _, _, rfl, (e1.trans e2).trans (Same.new np2), ?_, ?_⟩
      · rw [dot_more hni hri]
        exact Fr.new
      · rw [dot_more hni hri]
        exact (sm_plus hsm sm2).mono (by omega)
    · rintro σ H' ⟨c, o1, o2, rfl, e, hc, hsm⟩
      rw [List.length_map, List.take_length, hl, List.take_length] at hc hsm
      have hsum := sum_pos_le ns hn
      refine ⟨c, rfl, .ref a, rfl, a, ns, rfl, e.seq hA, c, _, ns.sum, rfl, hc, hsm.mono (by omega), hp, ?_, fun p np => ?_⟩
      · refine Nat.lt_of_lt_of_le (show ns.sum.natAbs < 2 ^ 10 by omega) (Nat.pow_le_pow_right (by decide) (by decide))
      · exact q p _ (e.trans (Same.new np)) (e.free np) upd_same
/-! ### Group.__init__ -/
theorem flat_rep {α : Type} (x : α) : ∀ n : Nat, (List.replicate n [x]).flatten = List.replicate n x
  | 0 => rfl
  | n + 1 => by
    rw [List.replicate_succ, List.flatten_cons, flat_rep x n]
    rfl
theorem frs_rep {K : PySem.W.Frag} {H : Hp} {v : V} {r : Rat} (n : Nat) (h : Fr K H v r) : Frs K H (List.replicate n v) (List.replicate n r) := ⟨by rw [List.length_replicate, List.length_replicate], fun i x y a b => by
  rw [List.getElem?_replicate] at a b
  by_cases hi : i < n
  · rw [if_pos hi] at a b
    cases a
    cases b
    exact h
  · rw [if_neg hi] at a
    cases a⟩
/-- the lists of a group stand apart -/
structure GApart (g : GA) : Prop where
  sn : g.aS ≠ g.aN
  sc : g.aS ≠ g.aC
  nc : g.aN ≠ g.aC
def spGInit (K : PySem.W.Frag) (C : Addr) : Sp := fun vs H Q _ => ∃ (p dx : Addr) (k : Nat), vs = [.ref p, .int k] ∧ H p = some (.ins C dx []) ∧ k ≤ 4 ∧
  ∀ (g : GA) (H' : Hp), g.p = p → GrpAt K C H' g (List.replicate k 0) (List.replicate k 0) (List.replicate k 0) → (∀ b o, H b = some o → b ≠ p → H' b = some o) → H g.aS = none → H g.aN = none → H g.aC = none → GApart g → Q .non H'
theorem scGInit : FnScope ["self", "scores"] ["self", "scores"] (defScope sGroupInit) := ⟨rfl, rfl, rfl, by decide +kernel, rfl, by decide +kernel, by decide +kernel⟩
theorem ok_ginit {f : Addr} {fd : FuncData} (F : Fun K "__init__" "Group.__init__" sGroupInit f fd) (T : TxtG K mg C) (Z : TxtZ K mg aZ aO) : FnOk P w K mg base CX0 1 f fd ["self", "scores"] (spGInit K C) := by
  refine F.ok scGInit (fun vs H Q E h => ?_) (fun cdv A outer s H vs Q E hr h => ⟨_, pss_cons (ps_fld (pv 0) (pe_op op_rep (pe_lst (pa_cons pe_int pa_nil)) (pv 1)) rfl)
    (pss_cons (ps_fld (pv 0) (pe_op op_rep (pe_lst (pa_cons pe_int pa_nil)) (pv 1)) rfl) (pss_one (ps_fld (pv 0) (pe_op op_rep (pe_lst (pa_cons (pe_ref rfl Z.gZ) pa_nil)) (pv 1)) rfl))), ?_⟩)
  · obtain ⟨p, dx, k, rfl, _⟩ := h
    rfl
  · obtain ⟨p, dx, k, rfl, hp, hk, q⟩ := h
    have one : (1 : Nat) ≤ sizeLine := by decide
    have sz : (1 : Nat) * (k : Int).toNat ≤ sizeLine := Nat.le_trans (show 1 * (k : Int).toNat ≤ 4 by omega) (by decide)
    have lo : -(2 ^ 63) ≤ (k : Int) := by omega
    have hi : (k : Int) < 2 ^ 63 := by omega
    refine ⟨one, fun l1 n1 => ⟨_, rfl, l1, k, _, rfl, rfl, upd_same, lo, hi, sz, fun a1 m1 => ?_⟩⟩
    have p1 : upd (upd H l1 (.lst [V.int 0])) a1 (.lst (List.replicate (k : Int).toNat [V.int 0]).flatten) p = some (.ins C dx []) := Same.new m1 _ _ (Same.new n1 _ _ hp)
    refine ⟨_, rfl, p, C, dx, _, rfl, p1, T.cl, T.nS, (by show 0 < 1000; decide), ?_⟩
    generalize eH1 : upd (upd (upd H l1 (.lst [V.int 0])) a1 (.lst (List.replicate (k : Int).toNat [V.int 0]).flatten)) p (.ins C dx (putF "so" (.ref a1) [])) = H1
    refine ⟨one, fun l2 n2 => ⟨_, rfl, l2, k, _, rfl, rfl, upd_same, lo, hi, sz, fun a2 m2 => ?_⟩⟩
    have pH1 : H1 p = some (.ins C dx (putF "so" (.ref a1) [])) := by rw [← eH1]; exact upd_same
    refine ⟨_, rfl, p, C, dx, _, rfl, Same.new m2 _ _ (Same.new n2 _ _ pH1), T.cl, T.nN, (by show 1 < 1000; decide), ?_⟩
    generalize eH2 : upd (upd (upd H1 l2 (.lst [V.int 0])) a2 (.lst (List.replicate (k : Int).toNat [V.int 0]).flatten)) p (.ins C dx (putF "not_so" (.ref a2) (putF "so" (.ref a1) []))) = H2
    refine ⟨one, fun l3 n3 => ⟨_, rfl, l3, k, _, rfl, rfl, upd_same, lo, hi, sz, fun a3 m3 => ?_⟩⟩
    have pH2 : H2 p = some (.ins C dx (putF "not_so" (.ref a2) (putF "so" (.ref a1) []))) := by rw [← eH2]; exact upd_same
    refine ⟨_, rfl, p, C, dx, _, rfl, Same.new m3 _ _ (Same.new n3 _ _ pH2), T.cl, T.nC, (by show 2 < 1000; decide), ?_⟩
    rw [gF_new]
    -- what stays from one heap to the next
    have k1 : ∀ b o, H b = some o → b ≠ p → H1 b = some o := fun b o e hb => by
      rw [← eH1, upd_ne hb]
      exact Same.new m1 _ _ (Same.new n1 _ _ e)
    have k2 : ∀ b o, H1 b = some o → b ≠ p → H2 b = some o := fun b o e hb => by
      rw [← eH2, upd_ne hb]
      exact Same.new m2 _ _ (Same.new n2 _ _ e)
    have np : ∀ {b : Addr} {G : Hp} {o : HO}, G p = some o → G b = none → b ≠ p := fun e n z => by
      rw [z, e] at n
      cases n
    have a1p : a1 ≠ p := np (Same.new n1 _ _ hp) m1
    have a2p : a2 ≠ p := np (Same.new n2 _ _ pH1) m2
    have a3p : a3 ≠ p := np (Same.new n3 _ _ pH2) m3
    have r1 : H1 a1 = some (.lst (List.replicate (k : Int).toNat [V.int 0]).flatten) := by rw [← eH1, upd_ne a1p]; exact upd_same
    have r2 : H2 a2 = some (.lst (List.replicate (k : Int).toNat [V.int 0]).flatten) := by rw [← eH2, upd_ne a2p]; exact upd_same
    have r12 := k2 _ _ r1 a1p
    have n12 : a1 ≠ a2 := ne_of_none (Same.new n2 _ _ r1) m2
    have n13 : a1 ≠ a3 := ne_of_none (Same.new n3 _ _ r12) m3
    have n23 : a2 ≠ a3 := ne_of_none (Same.new n3 _ _ r2) m3
    have back : ∀ {G G' : Hp} {b : Addr}, (∀ c o, G c = some o → c ≠ p → G' c = some o) → b ≠ p → G' b = none → G b = none := fun {G G' b} hk hb hn => by
      cases z : G b with
      | none => rfl
      | some o => rw [hk b o z hb] at hn; cases hn
    have kn : (k : Int).toNat = k := by omega
    have ez : (List.replicate (k : Int).toNat [V.int 0]).flatten = (List.replicate k (0 : Int)).map V.int := by
      rw [flat_rep, kn, List.map_replicate]
    have k3 : ∀ b o, H2 b = some o → b ≠ p → upd (upd (upd H2 l3 (.lst [V.ref aZ])) a3 (.lst (List.replicate (k : Int).toNat [V.ref aZ]).flatten)) p (.ins C dx (gF a1 a2 a3)) b = some o := fun b o e hb => by
      rw [upd_ne hb]
      exact Same.new m3 _ _ (Same.new n3 _ _ e)
    refine q ⟨p, dx, a1, a2, a3, (List.replicate (k : Int).toNat [V.ref aZ]).flatten⟩ _ rfl ⟨upd_same, ?_, ?_, ?_, ?_⟩ (fun b o e hb => k3 b o (k2 b o (k1 b o e hb) hb) hb) ((Same.new n1).free m1) (back k1 a2p ((Same.new n2).free m2)) (back k1 a3p (back k2 a3p ((Same.new n3).free m3))) ⟨n12, n13, n23⟩
    · rw [← ez]
      exact k3 _ _ r12 a1p
    · rw [← ez]
      exact k3 _ _ r2 a2p
    · show upd _ p _ a3 = _
      rw [upd_ne a3p]
      exact upd_same
    · show Frs K _ (List.replicate (k : Int).toNat [V.ref aZ]).flatten _
      rw [flat_rep, kn]
      exact frs_rep k ⟨aZ, rfl, Z.zero _⟩
end
end My

namespace My
open PySem PySem.Spec PyProof.Rows L2 LamX NdefX
/-! ### the order, in plain Lean -/
def sortBy (rel : Nat → Nat → Bool) (xs : List Nat) : List Nat := xs.foldl (fun l s => Krdh.insert rel s l) []
theorem insert_at (rel : Nat → Nat → Bool) (x : Nat) : ∀ (l : List Nat) (i : Nat), i ≤ l.length → (∀ j y, j < i → l[j]? = some y → rel x y = false) → (∀ y, l[i]? = some y → rel x y = true) → Krdh.insert rel x l = l.take i ++ [x] ++ l.drop i
  | [], 0, _, _, _ => rfl
  | [], i + 1, h, _, _ => by simp at h
  | y :: l, 0, _, _, h => by
    show (if rel x y = true then x :: y :: l else y :: Krdh.insert rel x l) = _
    rw [if_pos (h y rfl)]
    rfl
  | y :: l, i + 1, hi, hb, h => by
    have ih := insert_at rel x l i (by simpa using hi) (fun j z hj e => hb (j + 1) z (by omega) (by simpa using e)) (fun z e => h z (by simpa using e))
    show (if rel x y = true then x :: y :: l else y :: Krdh.insert rel x l) = _
    rw [if_neg (by rw [hb 0 y (by omega) rfl]; exact Bool.false_ne_true), ih]
    rfl
theorem insert_length (rel : Nat → Nat → Bool) (x : Nat) : ∀ l : List Nat, (Krdh.insert rel x l).length = l.length + 1
  | [] => rfl
  | y :: l => by
    unfold Krdh.insert
    split
    · rfl
    · rw [List.length_cons, insert_length rel x l, List.length_cons]
theorem insert_mem (rel : Nat → Nat → Bool) (x : Nat) : ∀ (l : List Nat) (z : Nat), z ∈ Krdh.insert rel x l → z = x ∨ z ∈ l
  | [], z, h => by simpa [Krdh.insert] using h
  | y :: l, z, h => by
    unfold Krdh.insert at h
    split at h
    · simpa using h
    · rcases List.mem_cons.mp h with e | e
      · exact .inr (by rw [e]; exact List.mem_cons_self ..)
      · exact (insert_mem rel x l z e).imp id fun q => List.mem_cons_of_mem _ q
theorem sortBy_more {rel : Nat → Nat → Bool} {xs : List Nat} {i x : Nat} (h : xs[i]? = some x) : sortBy rel (xs.take (i + 1)) = Krdh.insert rel x (sortBy rel (xs.take i)) := by
  unfold sortBy
  rw [take_more h, List.foldl_append]
  rfl
theorem sortBy_mem {rel : Nat → Nat → Bool} : ∀ (xs l : List Nat) (z : Nat), z ∈ xs.foldl (fun l s => Krdh.insert rel s l) l → z ∈ l ∨ z ∈ xs
  | [], l, z, h => .inl h
  | x :: xs, l, z, h => by
    rcases sortBy_mem xs _ z h with q | q
    · rcases insert_mem rel x l z q with e | e
      · exact .inr (by rw [e]; exact List.mem_cons_self ..)
      · exact .inl e
    · exact .inr (List.mem_cons_of_mem _ q)
theorem sortBy_sub {rel : Nat → Nat → Bool} {xs : List Nat} {z : Nat} (h : z ∈ sortBy rel xs) : z ∈ xs := (sortBy_mem xs [] z h).elim (fun q => absurd q List.not_mem_nil) id
theorem sortBy_len {rel : Nat → Nat → Bool} : ∀ (xs l : List Nat), (xs.foldl (fun l s => Krdh.insert rel s l) l).length = l.length + xs.length
  | [], l => by simp
  | x :: xs, l => by
    rw [List.foldl_cons, sortBy_len xs, insert_length, List.length_cons]
    omega
theorem sortBy_length {rel : Nat → Nat → Bool} (xs : List Nat) : (sortBy rel xs).length = xs.length := by
  have := sortBy_len (rel := rel) xs []
  simpa [sortBy] using this
/-- whole numbers as values -/
def nV (l : List Nat) : List V := l.map fun (n : Nat) => V.int (n : Int)
theorem nV_at {l : List Nat} {i : Nat} {v : V} (h : (nV l)[i]? = some v) : ∃ n, l[i]? = some n ∧ v = V.int n := by
  unfold nV at h
  rw [List.getElem?_map] at h
  cases z : l[i]? with
  | none => rw [z] at h; cases h
  | some n => rw [z] at h; exact ⟨n, rfl, (Option.some.inj h).symm⟩
theorem nV_of {l : List Nat} {i n : Nat} (h : l[i]? = some n) : (nV l)[i]? = some (V.int n) := by
  unfold nV
  rw [List.getElem?_map, h]
  rfl
theorem nV_len (l : List Nat) : (nV l).length = l.length := by
  unfold nV
  rw [List.length_map]
section
variable {P : Program} {w : World} {K : PySem.W.Frag} {mg : Str → Option Value} {base : Heap} {C aZ aO : Addr}
/-! ### has_more_so -/
def spMore (K : PySem.W.Frag) (C : Addr) : Sp := fun vs H Q _ => ∃ (g : GA) (so no : List Int) (ch : List Rat) (a b : Nat) (ya na yb nb : Int), vs = [.ref g.p, .int a, .int b] ∧ GrpAt K C H g so no ch ∧ so[a]? = some ya ∧ no[a]? = some na ∧ so[b]? = some yb ∧ no[b]? = some nb ∧
  (0 ≤ ya ∧ ya ≤ 99) ∧ (0 ≤ yb ∧ yb ≤ 99) ∧ Q (.bl (decide (yb * na < ya * nb))) H
theorem map_at {l : List Int} {i : Nat} {n : Int} (h : l[i]? = some n) : atI (l.map V.int) (i : Int) = some (V.int n) := atI_nat (by rw [List.getElem?_map, h]; rfl)
theorem scMore : FnScope ["group", "first", "second"] ["group", "first", "second"] (defScope sHasMoreSo) := ⟨rfl, rfl, rfl, by decide +kernel, rfl, by decide +kernel, by decide +kernel⟩
theorem ok_more (D : Has K mg "has_more_so" sHasMoreSo ["group", "first", "second"]) (T : TxtG K mg C) : Kept P w K mg base 1 "has_more_so" ["group", "first", "second"] (spMore K C) := by
  refine D.kept scMore (fun vs H Q E h => ?_) (fun f cdv A outer s H vs Q E hr h => ⟨_, pss_one (ps_ret (pe_cmpR op_gt
      (pe_op op_mul (pe_ix ix_list (pe_fld (pv 0) rfl) (pv 1) (fun _ _ => rfl)) (pe_ix ix_list (pe_fld (pv 0) rfl) (pv 2) (fun _ _ => rfl)))
      (pe_op op_mul (pe_ix ix_list (pe_fld (pv 0) rfl) (pv 2) (fun _ _ => rfl)) (pe_ix ix_list (pe_fld (pv 0) rfl) (pv 1) (fun _ _ => rfl))) (nomark _))), ?_⟩)
  · obtain ⟨_, _, _, _, _, _, _, _, _, _, rfl, _⟩ := h
    rfl
  · obtain ⟨g, so, no, ch, a, b, ya, na, yb, nb, rfl, hG, h1, h2, h3, h4, b1, b3, q⟩ := h
    refine ⟨_, rfl, g.p, C, g.dx, _, _, rfl, hG.ins, T.cl, T.nS, gF_so, _, rfl, g.aS, _, _, _, rfl, rfl, SqL.of hG.so, map_at h1,
      _, rfl, g.p, C, g.dx, _, _, rfl, hG.ins, T.cl, T.nN, gF_no, _, rfl, g.aN, _, _, _, rfl, rfl, SqL.of hG.no, map_at h4, _, _, rfl, rfl, .inl ⟨by omega, by omega⟩,
      _, rfl, g.p, C, g.dx, _, _, rfl, hG.ins, T.cl, T.nS, gF_so, _, rfl, g.aS, _, _, _, rfl, rfl, SqL.of hG.so, map_at h3,
      _, rfl, g.p, C, g.dx, _, _, rfl, hG.ins, T.cl, T.nN, gF_no, _, rfl, g.aN, _, _, _, rfl, rfl, SqL.of hG.no, map_at h2, _, _, rfl, rfl, .inl ⟨by omega, by omega⟩, _, _, rfl, rfl, ?_⟩
    exact q
/-! ### put_in_order -/
/-- what it makes of a list and a lambda that tells rel -/
def TPut (K : PySem.W.Frag) (sp : List (Option V) → List V → Hp → VK → Prop) (q : Str) : V → Addr → List (Option V) → Hp → VK → Prop := fun v1 c' ws H Q => ∃ (l : Addr) (xs : List Nat) (rel : Nat → Nat → Bool), v1 = .ref l ∧ SqL K H l (nV xs) ∧ xs.length ≤ 100 ∧
  (∀ x y, x ∈ xs → y ∈ xs → ∀ H1, Same H H1 → ∀ Q' : VK, Q' (.bl (rel x y)) H1 → sp ws [.int x, .int y] H1 Q') ∧
  ∀ (p : Addr) (H' : Hp), Same H H' → H p = none → H' p = some (.lst (nV (sortBy rel xs))) → Q (.ref p) H'
theorem scPut : FnScope ["given", "is_ahead", "order", "one", "place"] ["given", "is_ahead"] (defScope sPutInOrder) := ⟨rfl, rfl, rfl, by decide +kernel, rfl, by decide +kernel, by decide +kernel⟩
theorem put_gets {k : Nat} {W : LW} {ps fr : List Str} {sp : List (Option V) → List V → Hp → VK → Prop} (D : Has K mg "put_in_order" sPutInOrder ["given", "is_ahead"]) (T : TxtG K mg C) (L : LamOk P w K mg base k W ps fr sp) :
    ∃ g, mg "put_in_order" = some (.ref g) ∧ PySem.W.keepIn K (.ref g) = true ∧ GetsLam P w K mg base (k + 2) g W fr (TPut K sp W.q) := by
  obtain ⟨g, fd, F, m, b⟩ := D
  refine ⟨g, m, F.kp, fun A outer s H u1 v1 f c' cl ws Q hr e0 r1 hf hf0 hfs hc HC h => ?_⟩
  obtain ⟨oc, od, kV, doc, pm, an, cdv, ct, osl, rfl, lk, hcd⟩ := F.ex
  have KX : K.In s.heap := e0.mod.kin.keeps fun b o e => (e0.bs b o e).1
  refine run_ofS (N := ["given", "is_ahead", "order", "one", "place"]) (us := [u1, .ref f]) (vs := [v1, .ref f]) lk hcd scPut hr e0 (b s [u1, .ref f] KX rfl) (.cons r1 (.cons rfl .nil)) rfl fun hr1 => ?_
  refine ⟨_, PSs.nox (pss_cons (ps_set (i := 2) scPut.nd rfl (Or.inl rfl) (pe_lst pa_nil)) (pss_cons (ps_for PassesOwn.never rfl (pi_list (pv 0)) (pg_name (i := 3) scPut.nd rfl (Or.inl rfl))
      (pss_cons (ps_set (i := 4) scPut.nd rfl (Or.inl rfl) pe_int)
      (pss_cons (ps_while PassesOwn.never (PW.pt (pw_and (pt_cmpR op_lt (pv 4) (pe_callB call_len_seq (by rfl) T.len PySem.boot_len (pa_cons (pv 2) pa_nil)) (nomark _))
          (pw_and1 (pt_not (pt_val (pe_lamZ (i := 1) L rfl hf hf0 hfs HC hr1 rfl (Or.inl rfl) (pa_cons (pv 3) (pa_cons (pe_ix ix_list (pv 2) (pv 4) (fun _ _ => rfl)) pa_nil))))))))
        (pss_one (ps_set (i := 4) scPut.nd rfl (Or.inl rfl) (pe_op op_add (pv 4) pe_int))))
      (pss_one (ps_expr (pe_bm PySem.F.plainAttrs_list PySem.F.slot_list_insert PySem.F.type_list_insert mt_insert (pv 2) (pa_cons (pv 4) (pa_cons (pv 3) pa_nil))))))))
    (pss_one (ps_ret (pv 2))))), ?_⟩
  obtain ⟨l, xs, rel, rfl, hS, hlen, hrel, q⟩ := h
  refine ⟨Nat.zero_le _, fun o no => ?_⟩
  have s1 : Same H (upd H o (.lst [])) := Same.new no
  have oc' : ∀ {H' : Hp}, Same H H' → H' c' = some (CodeO c' W.q) := fun e => e _ _ hc
  refine ⟨_, rfl, l, rfl, ⟨_, s1.seq hS⟩, for_list (K := K) (a := l) (xs := nV xs) (fun i σ H' => ∃ o3 o4, σ = [some (.ref l), some (.ref f), some (.ref o), o3, o4] ∧ Same H H' ∧ H' o = some (.lst (nV (sortBy rel (xs.take i)))))
    ⟨none, none, rfl, s1, upd_same⟩ (fun i σ H' _ ⟨_, _, _, e, _⟩ => e.seq hS) ?_ ?_⟩
  · rintro i v σ H' hi ⟨o3, o4, rfl, e, ho⟩
    obtain ⟨x, hx, rfl⟩ := nV_at hi
    have hxm := List.mem_of_getElem? hx
    have lk0 : (sortBy rel (xs.take i)).length ≤ 100 := by
      rw [sortBy_length, List.length_take]
      omega
    generalize hl0 : sortBy rel (xs.take i) = l0 at ho lk0
    have sub : ∀ y ∈ l0, y ∈ xs := fun y hy => by
      rw [← hl0] at hy
      exact List.mem_of_mem_take (sortBy_sub hy)
    refine ⟨fun m σ H1 => ∃ j : Nat, σ = [some (.ref l), some (.ref f), some (.ref o), some (.int x), some (.int j)] ∧ H1 = H' ∧ m = l0.length - j ∧ j ≤ l0.length ∧ ∀ t y, t < j → l0[t]? = some y → rel x y = false,
      ⟨_, 0, rfl, rfl, rfl, Nat.zero_le _, fun t y ht => absurd ht (Nat.not_lt_zero _)⟩, ?_⟩
    rintro m σ H1 ⟨j, rfl, rfl, rfl, hj, hb⟩
    refine ⟨_, rfl, .ref o, rfl, o, _, rfl, .inl (SqL.of ho), _, _, rfl, rfl, _, rfl, ?_⟩
    refine ifD (fun c => ?_) fun c => ?_
    · rw [nV_len] at c
      have hy : l0[j]? = some (l0[j]'(by omega)) := List.getElem?_eq_getElem (by omega)
      generalize l0[j]'(by omega) = y at hy
      refine ⟨rfl, _, rfl, _, rfl, _, rfl, o, _, _, _, rfl, rfl, SqL.of ho, atI_nat (nV_of hy), oc' e, hrel x y hxm (sub y (List.mem_of_getElem? hy)) H1 e _ ⟨_, rfl, ?_⟩⟩
      refine ifB (fun t => ?_) fun t => ?_
      · have t : rel x y = false := by simpa using t
        refine ⟨fun σ' H2 => σ' = [some (.ref l), some (.ref f), some (.ref o), some (.int x), some (.int (j + 1 : Nat))] ∧ H2 = H1, fun σ' H2 z => ⟨l0.length - (j + 1), by omega, j + 1, z.1, z.2, rfl, by omega, fun t' y' ht e' => ?_⟩, ?_⟩
        · by_cases hh : t' = j
          · rw [hh, hy] at e'
            cases e'
            exact t
          · exact hb t' y' (by omega) e'
        · exact ⟨_, rfl, _, _, rfl, rfl, rfl, rfl⟩
      · have t : rel x y = true := by simpa using t
        have fin : ∀ z, l0[j]? = some z → rel x z = true := fun z ez => by
          rw [hy] at ez
          cases ez
          exact t
        refine ⟨_, rfl, .inl ⟨rfl, _, SqL.of ho⟩, _, rfl, _, rfl, o, _, _, _, rfl, rfl, ho, by rw [nV_len]; exact Nat.lt_of_le_of_lt lk0 (by decide), by omega, by omega, _, _, rfl, fun b u eb => ?_, ?_⟩
        · rw [upd_ne (ne_of_none eb no)]
          exact e b u eb
        · rw [sortBy_more hx, hl0, insert_at rel x l0 j hj hb fin, upd_same]
          show some (HO.lst ((nV l0).take j ++ [V.int x] ++ (nV l0).drop j)) = _
          unfold nV
          rw [List.map_append, List.map_append, List.map_take, List.map_drop]
          rfl
    · rw [nV_len] at c
      have fin : ∀ z, l0[j]? = some z → rel x z = true := fun z ez => by
        have := (List.getElem?_eq_some_iff.mp ez).1
        omega
      refine iteF ?_
      refine ⟨_, rfl, .inl ⟨rfl, _, SqL.of ho⟩, _, rfl, _, rfl, o, _, _, _, rfl, rfl, ho, by rw [nV_len]; exact Nat.lt_of_le_of_lt lk0 (by decide), by omega, by omega, _, _, rfl, fun b u eb => ?_, ?_⟩
      · rw [upd_ne (ne_of_none eb no)]
        exact e b u eb
      · rw [sortBy_more hx, hl0, insert_at rel x l0 j hj hb fin, upd_same]
        show some (HO.lst ((nV l0).take j ++ [V.int x] ++ (nV l0).drop j)) = _
        unfold nV
        rw [List.map_append, List.map_append, List.map_take, List.map_drop]
        rfl
  · rintro σ H' ⟨o3, o4, rfl, e, ho⟩
    rw [nV_len, List.take_length] at ho
    exact ⟨_, rfl, q o H' e no ho⟩
/-! ### the two lambdas -/
def lamOf (st : Stmt) : Expr := match defBody st with
  | [_, .Return (some (.Call _ [_, l] _ _)) _] => l
  | _ => .Constant .none 0 ⟨0, 0, 0, 0⟩
def lamP : Expr → Arguments
  | .Lambda p _ _ _ => p
  | _ => { posonlyargs := [], args := [], vararg := none, kwonlyargs := [], kw_defaults := [], kwarg := none, defaults := [] }
def lamB : Expr → Expr
  | .Lambda _ b _ _ => b
  | e => e
def lamS : Expr → Scope
  | .Lambda _ _ s _ => s
  | _ => { kind := .function, names := [], isGenerator := false, isCoroutine := false }
abbrev lwOf (q : Str) (st : Stmt) : LW := ⟨q, lamP (lamOf st), lamB (lamOf st), lamS (lamOf st)⟩
def spLamO (K : PySem.W.Frag) (C : Addr) : List (Option V) → List V → Hp → VK → Prop := fun ws vs H Q => ∃ g a b, ws = [some g] ∧ vs = [a, b] ∧ spMore K C [g, a, b] H Q E0
def spLamE (K : PySem.W.Frag) (C : Addr) : List (Option V) → List V → Hp → VK → Prop := fun ws vs H Q => ∃ g a b, ws = [some g] ∧ vs = [a, b] ∧ spMore K C [g, b, a] H Q E0
theorem ok_lamO (q : Str) (M : Kept P w K mg base 1 "has_more_so" ["group", "first", "second"] (spMore K C)) : LamOk P w K mg base 1 (lwOf q sScoresInOrder) ["first", "second"] ["group"] (spLamO K C) := by
  refine ⟨["first", "second", "group"], nscope_by (show nscB _ _ _ (lamS (lamOf sScoresInOrder)) = true by decide +kernel), fun ws vs H Q h => ?_, fun cl pm c' ctv us hl => match us, hl with | [_, _], _ => rfl, fun cl f c' A outer s H vs ws Q hr hl h => ?_⟩
  · obtain ⟨g, a, b, rfl, rfl, _⟩ := h
    rfl
  · obtain ⟨g, a, b, rfl, rfl, h⟩ := h
    refine ⟨_, PE.nox (pe_def M hr (by rfl) (pa_cons (pv 2) (pa_cons (pv 0) (pa_cons (pv 1) pa_nil)))), ?_⟩
    exact ⟨_, rfl, _, rfl, _, rfl, h⟩
theorem ok_lamE (q : Str) (M : Kept P w K mg base 1 "has_more_so" ["group", "first", "second"] (spMore K C)) : LamOk P w K mg base 1 (lwOf q sScoresFromOtherEnd) ["first", "second"] ["group"] (spLamE K C) := by
  refine ⟨["first", "second", "group"], nscope_by (show nscB _ _ _ (lamS (lamOf sScoresFromOtherEnd)) = true by decide +kernel), fun ws vs H Q h => ?_, fun cl pm c' ctv us hl => match us, hl with | [_, _], _ => rfl, fun cl f c' A outer s H vs ws Q hr hl h => ?_⟩
  · obtain ⟨g, a, b, rfl, rfl, _⟩ := h
    rfl
  · obtain ⟨g, a, b, rfl, rfl, h⟩ := h
    refine ⟨_, PE.nox (pe_def M hr (by rfl) (pa_cons (pv 2) (pa_cons (pv 1) (pa_cons (pv 0) pa_nil)))), ?_⟩
    exact ⟨_, rfl, _, rfl, _, rfl, h⟩
end
/-! ### a table of the specification, and its lists -/
def soL (t : Krdf.Table) (gi : Nat) : List Int := t.scores.map fun s => ((t.cell gi s).1 : Int)
def noL (t : Krdf.Table) (gi : Nat) : List Int := t.scores.map fun s => ((t.cell gi s).2 : Int)
structure TOk (t : Krdf.Table) : Prop where
  k4 : t.k ≤ 4
  le : ∀ gi s, (t.cell gi s).1 ≤ 99 ∧ (t.cell gi s).2 ≤ 99
theorem soL_len (t : Krdf.Table) (gi : Nat) : (soL t gi).length = t.k := by simp [soL, Krdf.Table.scores]
theorem noL_len (t : Krdf.Table) (gi : Nat) : (noL t gi).length = t.k := by simp [noL, Krdf.Table.scores]
theorem soL_at {t : Krdf.Table} {gi s : Nat} (h : s < t.k) : (soL t gi)[s]? = some ((t.cell gi s).1 : Int) := by simp [soL, Krdf.Table.scores, h]
theorem noL_at {t : Krdf.Table} {gi s : Nat} (h : s < t.k) : (noL t gi)[s]? = some ((t.cell gi s).2 : Int) := by simp [noL, Krdf.Table.scores, h]
theorem TOk.so {t : Krdf.Table} (o : TOk t) {gi : Nat} : ∀ n ∈ soL t gi, 0 ≤ n ∧ n ≤ 99 := fun n h => by
  obtain ⟨s, _, rfl⟩ := List.mem_map.mp h
  have := (o.le gi s).1
  omega
theorem TOk.no {t : Krdf.Table} (o : TOk t) {gi : Nat} : ∀ n ∈ noL t gi, 0 ≤ n ∧ n ≤ 99 := fun n h => by
  obtain ⟨s, _, rfl⟩ := List.mem_map.mp h
  have := (o.le gi s).2
  omega
theorem some_lt {t : Krdf.Table} {gi s : Nat} (h : s ∈ Krdh.some_ t gi) : s < t.k := by
  have := (List.mem_filter.mp h).1
  simpa [Krdf.Table.scores] using this
theorem before_down {t : Krdf.Table} {gi a b : Nat} : decide (((t.cell gi b).1 : Int) * ((t.cell gi a).2 : Int) < ((t.cell gi a).1 : Int) * ((t.cell gi b).2 : Int)) = Krdh.before t gi true a b := by
  show _ = decide ((t.cell gi b).1 * (t.cell gi a).2 < (t.cell gi a).1 * (t.cell gi b).2)
  refine decide_eq_decide.mpr ?_
  rw [← Int.natCast_mul, ← Int.natCast_mul]
  exact Int.ofNat_lt
theorem before_up {t : Krdf.Table} {gi a b : Nat} : decide (((t.cell gi a).1 : Int) * ((t.cell gi b).2 : Int) < ((t.cell gi b).1 : Int) * ((t.cell gi a).2 : Int)) = Krdh.before t gi false a b := by
  show _ = decide ((t.cell gi a).1 * (t.cell gi b).2 < (t.cell gi b).1 * (t.cell gi a).2)
  refine decide_eq_decide.mpr ?_
  rw [← Int.natCast_mul, ← Int.natCast_mul]
  exact Int.ofNat_lt
/-- scores from the other end: those with somebody who turned out not so -/
def withNo (t : Krdf.Table) (gi : Nat) : List Nat := t.scores.filter fun s => decide (0 < (t.cell gi s).2)
/-! ### heaps in which tables may have grown -/
structure Grow (T : List (Addr × Str)) (H H' : Hp) : Prop where
  ext : ExtN H H'
  tabs : Tabs T H → Tabs T H'
theorem Same.grow {T : List (Addr × Str)} {H H' : Hp} (e : Same H H') : Grow T H H' := ⟨ExtN.of e, fun t => t.ext e⟩
theorem Grow.trans {T : List (Addr × Str)} {H H1 H2 : Hp} (a : Grow T H H1) (b : Grow T H1 H2) : Grow T H H2 := ⟨a.ext.trans b.ext, fun t => b.tabs (a.tabs t)⟩
theorem Grow.at {T : List (Addr × Str)} {H H' : Hp} {a : Addr} {o : HO} (g : Grow T H H') (h : H a = some o) (n : ∀ ps, o ≠ .tbl ps) : H' a = some o := g.ext a o h n
theorem Grow.sqT {T : List (Addr × Str)} {K : PySem.W.Frag} {H H' : Hp} {a : Addr} {xs : List V} (g : Grow T H H') (h : SqT K H a xs) : SqT K H' a xs := by
  rcases h with (h | ⟨o, h⟩) | h
  · exact .inl (.inl (g.at h fun _ z => by cases z))
  · exact .inl (.inr ⟨o, g.at h fun _ z => by cases z⟩)
  · exact .inr h
theorem Grow.sqL {T : List (Addr × Str)} {K : PySem.W.Frag} {H H' : Hp} {a : Addr} {xs : List V} (g : Grow T H H') (h : SqL K H a xs) : SqL K H' a xs := by
  rcases h with (h | ⟨o, h⟩) | h
  · exact .inl (.inl (g.at h fun _ z => by cases z))
  · exact .inl (.inr ⟨o, g.at h fun _ z => by cases z⟩)
  · exact .inr h
theorem Fr.grow {T : List (Addr × Str)} {K : PySem.W.Frag} {H H' : Hp} {v : V} {r : Rat} (h : Fr K H v r) (g : Grow T H H') : Fr K H' v r := h.imp fun _ q => ⟨q.1, g.sqT q.2⟩
theorem Frs.grow {T : List (Addr × Str)} {K : PySem.W.Frag} {H H' : Hp} {cs : List V} {rs : List Rat} (h : Frs K H cs rs) (g : Grow T H H') : Frs K H' cs rs := ⟨h.len, fun i v r a b => (h.each i v r a b).grow g⟩
theorem GrpAt.grow {T : List (Addr × Str)} {K : PySem.W.Frag} {C : Addr} {H H' : Hp} {g : GA} {so no : List Int} {ch : List Rat} (h : GrpAt K C H g so no ch) (e : Grow T H H') : GrpAt K C H' g so no ch :=
  ⟨e.at h.ins fun _ z => (by cases z), e.at h.so fun _ z => (by cases z), e.at h.no fun _ z => (by cases z), e.at h.ch fun _ z => (by cases z), h.fr.grow e⟩
section
variable {P : Program} {w : World} {K : PySem.W.Frag} {mg : Str → Option Value} {base : Heap} {C aZ aO : Addr} {T : List (Addr × Str)}
/-! ### scores_in_order -/
def spOrder (K : PySem.W.Frag) (C : Addr) (T : List (Addr × Str)) (out : Krdf.Table → Nat → List Nat) : Sp := fun vs H Q _ => ∃ (g : GA) (t : Krdf.Table) (gi : Nat) (ch : List Rat), vs = [.ref g.p] ∧ GrpAt K C H g (soL t gi) (noL t gi) ch ∧ TOk t ∧ Tabs T H ∧
  ∀ (p : Addr) (H' : Hp), Grow T H H' → H' p = some (.lst (nV (out t gi))) → Q (.ref p) H'
theorem scOrder : FnScope ["group", "present", "s"] ["group"] (defScope sScoresInOrder) := ⟨rfl, rfl, rfl, by decide +kernel, rfl, by decide +kernel, by decide +kernel⟩
/-- a def by its body, its code object told too -/
theorem okC {x qual : Str} {st : Stmt} {f : Addr} {fd : FuncData} {N ps : List Str} {k : Nat} {sp : Sp} (F : Fun K x qual st f fd) (S : FnScope N ps (defScope st)) (len : ∀ vs H Q E, sp vs H Q E → vs.length = ps.length)
    (hbody : ∀ (cdv : Value) (A : Around) (outer : List Env) (s : Shared) (H : Hp) (vs : List V) (Q : VK) (E : XK), fd.code = cdv → Room k (A.deeper (envOfC qual (defScope st) s.heap.objs.size f cdv)) → sp vs H Q E →
      ∃ t, PSs (cxOf CX0 P w K mg base N qual (defScope st) f cdv A outer s H E).nox (defBody st) t ∧ t { nx := fun _ H' => Q .non H', rt := Q } (start N vs) H) : FnOk P w K mg base CX0 (k + 1) f fd ps sp := by
  obtain ⟨oc, od, kV, doc, pm, an, cdv, ct, osl, rfl, lk, hcd⟩ := F.ex
  exact fn_of lk hcd S len fun A outer s H vs Q E hr hsp => (hbody cdv A outer s H vs Q E rfl hr hsp).imp fun _ h => ⟨h.1.nox, h.2⟩
/-- the name of a lambda in the def x -/
def lamName (x : Str) : Str := (x ++ ".<locals>.") ++ "<lambda>"
theorem filter_more {p : Nat → Bool} {k i : Nat} (h : i < k) : ((List.range k).take (i + 1)).filter p = ((List.range k).take i).filter p ++ (if p i = true then [i] else []) := by
  rw [take_more (show (List.range k)[i]? = some i by simp [h]), List.filter_append]
  congr 1
  by_cases c : p i = true
  · rw [if_pos c, List.filter_cons_of_pos c]
    rfl
  · rw [if_neg c, List.filter_cons_of_neg c]
    rfl
def rAddI : R2 := rI0 fun i j => .int (i + j)
def rGtI : R2 := rI0 fun i j => .bl (decide (j < i))
theorem ok_order {c Pt : Addr} (D : Has K mg "scores_in_order" sScoresInOrder ["group"]) (G : TxtG K mg C) (DP : Has K mg "put_in_order" sPutInOrder ["given", "is_ahead"]) (M : Kept P w K mg base 1 "has_more_so" ["group", "first", "second"] (spMore K C))
    (TB : TabB base mg c Pt) (hc : ∀ f fd, Fun K "scores_in_order" "scores_in_order" sScoresInOrder f fd → mg "scores_in_order" = some (.ref f) → fd.code = .ref c) (hm : (Pt, lamName "scores_in_order") ∈ T) (hu : ∀ p ∈ T, p.1 = Pt → p.2 = lamName "scores_in_order") :
    Kept P w K mg base 4 "scores_in_order" ["group"] (spOrder K C T fun t gi => Krdh.ordered t gi true) := by
  obtain ⟨gp, mp, kp, hG⟩ := put_gets DP G (ok_lamO (lamName "scores_in_order") M)
  obtain ⟨f, fd, F, mf, bf⟩ := D
  have hcode := hc f fd F mf
  refine ⟨f, fd, okC F scOrder (fun vs H Q E h => ?_) (fun cdv A outer s H vs Q E ec hr h => ⟨_, pss_cons (ps_setLc (i := 1) (own := [("s", 2)]) (g := gName 2) (tt := tTest (tOp rGtI (tOp rAddI (tOp (rIxL K) (tFld K (tVar 0) "so") (tVar 2)) (tOp (rIxL K) (tFld K (tVar 0) "not_so") (tVar 2))) (tC (.int 0)))) (te := tVar 2) rfl scOrder.nd rfl rfl (sw_true rfl rfl rfl (by decide +kernel))
      (pi_range1 (by rfl) G.range (pa_cons (pe_callB call_len_seq (by rfl) G.len PySem.boot_len (pa_cons (pe_fld (pv 0) rfl) pa_nil)) pa_nil)) (blkOk_by (N := ["group", "present", "s"]) (sc := defScope sScoresInOrder) (by decide +kernel))
      (fun _ _ _ _ _ => pg_name (i := 2) scOrder.nd rfl (Or.inl rfl))
      (fun _ _ _ _ _ => pts_one (pt_cmpR op_gt (pe_op op_add (pe_ix ix_list (pe_fld (pv 0) rfl) (pv 2) (fun _ _ => rfl)) (pe_ix ix_list (pe_fld (pv 0) rfl) (pv 2) (fun _ _ => rfl))) pe_int (nomark _)))
      (fun _ _ _ _ _ => pv 2))
    (pss_one (ps_ret (pe_give (js := [0]) hG (hr.mono (by decide)) rfl mp kp TB (by rw [← hcode, ec]; rfl) hm hu rfl (show ndefB (defScope sScoresInOrder) (lamS (lamOf sScoresInOrder)) ["group"] = true by decide +kernel) rfl (pv 1)))), ?_⟩), mf, F.kp, bf⟩
  · obtain ⟨g, _, _, _, rfl, _⟩ := h
    rfl
  · obtain ⟨g, t, gi, ch, rfl, hA, ok, hT, q⟩ := h
    have k4 := ok.k4
    have hlen : (((soL t gi).map V.int).length : Int).toNat = t.k := by
      rw [List.length_map, soL_len]
      rfl
    refine ⟨_, rfl, g.p, C, g.dx, _, _, rfl, hA.ins, G.cl, G.nS, gF_so, g.aS, _, rfl, .inl (SqL.of hA.so), _, rfl, by rw [List.length_map, soL_len]; omega, by rw [List.length_map, soL_len]; omega, fun D nD => ?_⟩
    rw [hlen]
    refine lc_range (lo := 0) (n := t.k) (fun i H' => Same H H' ∧ H' D = some (.lst (nV (((List.range t.k).take i).filter fun s => decide (0 < (t.cell gi s).1 + (t.cell gi s).2))))) ⟨Same.new nD, upd_same⟩ ?_ ?_
    · rintro i H' hi ⟨e, hD⟩
      have hA' := hA.same e
      have ei : (0 : Int) + (i : Int) = ((i : Nat) : Int) := by omega
      rw [ei]
      refine ⟨rfl, _, rfl, g.p, C, g.dx, _, _, rfl, hA'.ins, G.cl, G.nS, gF_so, _, rfl, g.aS, _, _, _, rfl, rfl, SqL.of hA'.so, map_at (soL_at hi),
        _, rfl, g.p, C, g.dx, _, _, rfl, hA'.ins, G.cl, G.nN, gF_no, _, rfl, g.aN, _, _, _, rfl, rfl, SqL.of hA'.no, map_at (noL_at hi), _, _, rfl, rfl, _, _, rfl, rfl, _, rfl, ?_⟩
      have cc : ((0 : Int) < ((t.cell gi i).1 : Int) + ((t.cell gi i).2 : Int)) ↔ 0 < (t.cell gi i).1 + (t.cell gi i).2 := by omega
      refine ifD (fun c => ?_) fun c => ?_
      · refine ⟨_, rfl, _, hD, ?_, ?_, ?_⟩
        · rw [nV_len]
          refine Nat.lt_of_le_of_lt (List.length_filter_le _ _) ?_
          rw [List.length_take]
          exact Nat.lt_of_le_of_lt (show min i (List.range t.k).length ≤ 4 by omega) (by decide)
        · exact fun b o eb => by
            rw [upd_ne (ne_of_none eb nD)]
            exact e b o eb
        · rw [upd_same, filter_more hi, if_pos (decide_eq_true (cc.mp c))]
          unfold nV
          rw [List.map_append]
          rfl
      · refine ⟨e, ?_⟩
        rw [filter_more hi, if_neg (fun z => c (cc.mpr (of_decide_eq_true z))), List.append_nil]
        exact hD
    · rintro H1 ⟨e1, hD⟩
      have hf : ((List.range t.k).take t.k).filter (fun s => decide (0 < (t.cell gi s).1 + (t.cell gi s).2)) = Krdh.some_ t gi := by
        rw [List.take_of_length_le (by simp)]
        rfl
      rw [hf] at hD
      refine ⟨_, rfl, (Same.grow e1).tabs hT, fun c' H2 eN T2 hco => ?_⟩
      have g2 : Grow T H H2 := (Same.grow e1).trans ⟨eN, fun _ => T2⟩
      refine ⟨D, Krdh.some_ t gi, Krdh.before t gi true, rfl, SqL.of (eN _ _ hD fun _ z => by cases z), Nat.le_trans (List.length_filter_le _ _) (by simp [Krdf.Table.scores]; omega), fun x y hx hy H3 e3 Q' hq => ?_, fun p H' e' np hp => ?_⟩
      · have hx := some_lt hx
        have hy := some_lt hy
        have bx := ok.le gi x
        have by' := ok.le gi y
        refine ⟨_, _, _, rfl, rfl, g, _, _, _, x, y, _, _, _, _, rfl, (hA.grow g2).same e3, soL_at hx, noL_at hx, soL_at hy, noL_at hy, ⟨by omega, by omega⟩, ⟨by omega, by omega⟩, ?_⟩
        rw [before_down]
        exact hq
      · exact q p H' (g2.trans (Same.grow e')) hp
/-! ### scores_from_other_end -/
theorem withNo_lt {t : Krdf.Table} {gi s : Nat} (h : s ∈ withNo t gi) : s < t.k := by
  have := (List.mem_filter.mp h).1
  simpa [Krdf.Table.scores] using this
theorem scOther : FnScope ["group", "present", "s"] ["group"] (defScope sScoresFromOtherEnd) := ⟨rfl, rfl, rfl, by decide +kernel, rfl, by decide +kernel, by decide +kernel⟩
theorem ok_otherEnd {c Pt : Addr} (D : Has K mg "scores_from_other_end" sScoresFromOtherEnd ["group"]) (G : TxtG K mg C) (DP : Has K mg "put_in_order" sPutInOrder ["given", "is_ahead"]) (M : Kept P w K mg base 1 "has_more_so" ["group", "first", "second"] (spMore K C))
    (TB : TabB base mg c Pt) (hc : ∀ f fd, Fun K "scores_from_other_end" "scores_from_other_end" sScoresFromOtherEnd f fd → mg "scores_from_other_end" = some (.ref f) → fd.code = .ref c) (hm : (Pt, lamName "scores_from_other_end") ∈ T) (hu : ∀ p ∈ T, p.1 = Pt → p.2 = lamName "scores_from_other_end") :
    Kept P w K mg base 4 "scores_from_other_end" ["group"] (spOrder K C T fun t gi => sortBy (Krdh.before t gi false) (withNo t gi)) := by
  obtain ⟨gp, mp, kp, hG⟩ := put_gets DP G (ok_lamE (lamName "scores_from_other_end") M)
  obtain ⟨f, fd, F, mf, bf⟩ := D
  have hcode := hc f fd F mf
  refine ⟨f, fd, okC F scOther (fun vs H Q E h => ?_) (fun cdv A outer s H vs Q E ec hr h => ⟨_, pss_cons (ps_setLc (i := 1) (own := [("s", 2)]) (g := gName 2) (tt := tTest (tOp rGtI (tOp (rIxL K) (tFld K (tVar 0) "not_so") (tVar 2)) (tC (.int 0)))) (te := tVar 2) rfl scOther.nd rfl rfl (sw_true rfl rfl rfl (by decide +kernel))
      (pi_range1 (by rfl) G.range (pa_cons (pe_callB call_len_seq (by rfl) G.len PySem.boot_len (pa_cons (pe_fld (pv 0) rfl) pa_nil)) pa_nil)) (blkOk_by (N := ["group", "present", "s"]) (sc := defScope sScoresFromOtherEnd) (by decide +kernel))
      (fun _ _ _ _ _ => pg_name (i := 2) scOther.nd rfl (Or.inl rfl))
      (fun _ _ _ _ _ => pts_one (pt_cmpR op_gt (pe_ix ix_list (pe_fld (pv 0) rfl) (pv 2) (fun _ _ => rfl)) pe_int (nomark _)))
      (fun _ _ _ _ _ => pv 2))
    (pss_one (ps_ret (pe_give (js := [0]) hG (hr.mono (by decide)) rfl mp kp TB (by rw [← hcode, ec]; rfl) hm hu rfl (show ndefB (defScope sScoresFromOtherEnd) (lamS (lamOf sScoresFromOtherEnd)) ["group"] = true by decide +kernel) rfl (pv 1)))), ?_⟩), mf, F.kp, bf⟩
  · obtain ⟨g, _, _, _, rfl, _⟩ := h
    rfl
  · obtain ⟨g, t, gi, ch, rfl, hA, ok, hT, q⟩ := h
    have k4 := ok.k4
    have hlen : (((soL t gi).map V.int).length : Int).toNat = t.k := by
      rw [List.length_map, soL_len]
      rfl
    refine ⟨_, rfl, g.p, C, g.dx, _, _, rfl, hA.ins, G.cl, G.nS, gF_so, g.aS, _, rfl, .inl (SqL.of hA.so), _, rfl, by rw [List.length_map, soL_len]; omega, by rw [List.length_map, soL_len]; omega, fun D nD => ?_⟩
    rw [hlen]
    refine lc_range (lo := 0) (n := t.k) (fun i H' => Same H H' ∧ H' D = some (.lst (nV (((List.range t.k).take i).filter fun s => decide (0 < (t.cell gi s).2))))) ⟨Same.new nD, upd_same⟩ ?_ ?_
    · rintro i H' hi ⟨e, hD⟩
      have hA' := hA.same e
      have ei : (0 : Int) + (i : Int) = ((i : Nat) : Int) := by omega
      rw [ei]
      refine ⟨rfl, _, rfl, g.p, C, g.dx, _, _, rfl, hA'.ins, G.cl, G.nN, gF_no, _, rfl, g.aN, _, _, _, rfl, rfl, SqL.of hA'.no, map_at (noL_at hi), _, _, rfl, rfl, _, rfl, ?_⟩
      have cc : ((0 : Int) < ((t.cell gi i).2 : Int)) ↔ 0 < (t.cell gi i).2 := by omega
      refine ifD (fun c => ?_) fun c => ?_
      · refine ⟨_, rfl, _, hD, ?_, ?_, ?_⟩
        · rw [nV_len]
          refine Nat.lt_of_le_of_lt (List.length_filter_le _ _) ?_
          rw [List.length_take]
          exact Nat.lt_of_le_of_lt (show min i (List.range t.k).length ≤ 4 by omega) (by decide)
        · exact fun b o eb => by
            rw [upd_ne (ne_of_none eb nD)]
            exact e b o eb
        · rw [upd_same, filter_more hi, if_pos (decide_eq_true (cc.mp c))]
          unfold nV
          rw [List.map_append]
          rfl
      · refine ⟨e, ?_⟩
        rw [filter_more hi, if_neg (fun z => c (cc.mpr (of_decide_eq_true z))), List.append_nil]
        exact hD
    · rintro H1 ⟨e1, hD⟩
      have hf : ((List.range t.k).take t.k).filter (fun s => decide (0 < (t.cell gi s).2)) = withNo t gi := by
        rw [List.take_of_length_le (by simp)]
        rfl
      rw [hf] at hD
      refine ⟨_, rfl, (Same.grow e1).tabs hT, fun c' H2 eN T2 hco => ?_⟩
      have g2 : Grow T H H2 := (Same.grow e1).trans ⟨eN, fun _ => T2⟩
      refine ⟨D, withNo t gi, Krdh.before t gi false, rfl, SqL.of (eN _ _ hD fun _ z => by cases z), Nat.le_trans (List.length_filter_le _ _) (by simp [Krdf.Table.scores]; omega), fun x y hx hy H3 e3 Q' hq => ?_, fun p H' e' np hp => ?_⟩
      · have hx := withNo_lt hx
        have hy := withNo_lt hy
        have bx := ok.le gi x
        have by' := ok.le gi y
        refine ⟨_, _, _, rfl, rfl, g, _, _, _, y, x, _, _, _, _, rfl, (hA.grow g2).same e3, soL_at hy, noL_at hy, soL_at hx, noL_at hx, ⟨by omega, by omega⟩, ⟨by omega, by omega⟩, ?_⟩
        rw [before_up]
        exact hq
      · exact q p H' (g2.trans (Same.grow e')) hp
end
end My

namespace My
open PySem PySem.Spec PyProof.Rows L2 LamX NdefX
/-! ### filling along an order, in plain Lean -/
theorem sumN_eq (l : List Nat) : Krdf.sumN l = l.sum := by
  unfold Krdf.sumN
  rw [← List.sum_eq_foldl]
theorem no_sum (t : Krdf.Table) (gi : Nat) : (noL t gi).sum = (t.no gi : Int) := by
  unfold Krdf.Table.no noL
  rw [sumN_eq]
  generalize t.scores = l
  induction l with
  | nil => rfl
  | cons a r ih =>
    rw [List.map_cons, List.sum_cons, List.map_cons, List.sum_cons, ih]
    omega
theorem so_sum (t : Krdf.Table) (gi : Nat) : (soL t gi).sum = (t.yes gi : Int) := by
  unfold Krdf.Table.yes soL
  rw [sumN_eq]
  generalize t.scores = l
  induction l with
  | nil => rfl
  | cons a r ih =>
    rw [List.map_cons, List.sum_cons, List.map_cons, List.sum_cons, ih]
    omega
theorem natQ_pos {n : Nat} (h : 0 < n) : (0 : Rat) < (n : Rat) := by exact_mod_cast h
section
variable {t : Krdf.Table} {gi s : Nat} {l : List Nat} {x : Rat} {c : List Rat}
theorem fill_zero (hN : 0 < t.no gi) (h : (t.cell gi s).2 = 0) : Krdh.fill t gi true (s :: l) x c = Krdh.fill t gi true l x (c.set s 1) := by
  have e : ((t.cell gi s).2 : Rat) / (t.no gi : Rat) = 0 := by
    rw [h]
    have := natQ_pos hN
    grind
  simp only [Krdh.fill]
  rw [if_pos e]
  rfl
theorem fill_all (hN : 0 < t.no gi) (h : 0 < (t.cell gi s).2) (hx : ((t.cell gi s).2 : Rat) / (t.no gi : Rat) ≤ x) : Krdh.fill t gi true (s :: l) x c = Krdh.fill t gi true l (x - ((t.cell gi s).2 : Rat) / (t.no gi : Rat)) (c.set s 1) := by
  have h1 := natQ_pos hN
  have h2 := natQ_pos h
  have e : ¬ ((t.cell gi s).2 : Rat) / (t.no gi : Rat) = 0 := by grind
  simp only [Krdh.fill]
  rw [if_neg e, if_pos hx]
theorem fill_part (hN : 0 < t.no gi) (h : 0 < (t.cell gi s).2) (hx : ¬ ((t.cell gi s).2 : Rat) / (t.no gi : Rat) ≤ x) : Krdh.fill t gi true (s :: l) x c = Krdh.fill t gi true l 0 (c.set s (x / (((t.cell gi s).2 : Rat) / (t.no gi : Rat)))) := by
  have h1 := natQ_pos hN
  have h2 := natQ_pos h
  have e : ¬ ((t.cell gi s).2 : Rat) / (t.no gi : Rat) = 0 := by grind
  simp only [Krdh.fill]
  rw [if_neg e, if_neg hx]
end
theorem natZ (n : Nat) : (((n : Nat) : Int) : Rat) = ((n : Nat) : Rat) := Rat.intCast_natCast n
/-- one turn of the loop: left is what is left of x, D the lower number of x -/
theorem fill_turn {t : Krdf.Table} {gi s : Nat} {l : List Nat} {x : Rat} {left : Int} {D : Nat} {c : List Rat} (hN : 0 < t.no gi) (hD : 0 < D) (h0 : 0 ≤ left) (hl : (left : Rat) = x * ((t.no gi : Rat) * (D : Rat))) :
    ∃ x' : Rat, ((left - (if left < (D : Int) * ((t.cell gi s).2 : Int) then left else (D : Int) * ((t.cell gi s).2 : Int)) : Int) : Rat) = x' * ((t.no gi : Rat) * (D : Rat)) ∧
      0 ≤ left - (if left < (D : Int) * ((t.cell gi s).2 : Int) then left else (D : Int) * ((t.cell gi s).2 : Int)) ∧
      Krdh.fill t gi true (s :: l) x c = Krdh.fill t gi true l x' (c.set s (if (D : Int) * ((t.cell gi s).2 : Int) = 0 then 1 else ((if left < (D : Int) * ((t.cell gi s).2 : Int) then left else (D : Int) * ((t.cell gi s).2 : Int) : Int) : Rat) / (((D : Int) * ((t.cell gi s).2 : Int) : Int) : Rat))) := by
  have pN := natQ_pos hN
  have pD := natQ_pos hD
  by_cases hn : (t.cell gi s).2 = 0
  · have e : (D : Int) * ((t.cell gi s).2 : Int) = 0 := by rw [hn]; exact Int.mul_zero _
    rw [e, if_neg (by omega), Int.sub_zero, if_pos rfl]
    exact ⟨x, hl, h0, fill_zero hN hn⟩
  · have hn : 0 < (t.cell gi s).2 := by omega
    have pn := natQ_pos hn
    have hne : ¬ (D : Int) * ((t.cell gi s).2 : Int) = 0 := by
      have := Int.mul_pos (show (0 : Int) < D by omega) (show (0 : Int) < ((t.cell gi s).2 : Int) by omega)
      omega
    have cz : (((D : Int) * ((t.cell gi s).2 : Int) : Int) : Rat) = (D : Rat) * ((t.cell gi s).2 : Rat) := by rw [Rat.intCast_mul, natZ, natZ]
    rw [if_neg hne, cz]
    generalize hw : ((t.cell gi s).2 : Rat) / (t.no gi : Rat) = w
    have ew : ((t.cell gi s).2 : Rat) = w * (t.no gi : Rat) := by rw [← hw]; grind
    by_cases c1 : left < (D : Int) * ((t.cell gi s).2 : Int)
    · rw [if_pos c1]
      have c2 : (left : Rat) < (D : Rat) * ((t.cell gi s).2 : Rat) := by
        rw [← cz]
        exact Rat.intCast_lt_intCast.mpr c1
      have c3 : x < w := by
        rw [hl, ew] at c2
        refine Rat.lt_of_mul_lt_mul_right (c := (t.no gi : Rat) * (D : Rat)) ?_ (Rat.le_of_lt (Rat.mul_pos pN pD))
        grind
      refine ⟨0, ?_, by omega, ?_⟩
      · rw [Int.sub_self]
        simp
      · rw [fill_part hN hn (by rw [hw]; exact Rat.not_le.mpr c3), hw, hl]
        congr 2
        grind
    · rw [if_neg c1]
      have c2 : (D : Rat) * ((t.cell gi s).2 : Rat) ≤ (left : Rat) := by
        rw [← cz]
        exact Rat.intCast_le_intCast.mpr (by omega)
      have c3 : w ≤ x := by
        rw [hl, ew] at c2
        refine Rat.le_of_mul_le_mul_right (c := (t.no gi : Rat) * (D : Rat)) ?_ (Rat.mul_pos pN pD)
        grind
      refine ⟨x - w, ?_, by omega, ?_⟩
      · rw [Rat.intCast_sub, cz, hl, ew]
        grind
      · rw [fill_all hN hn (by rw [hw]; exact c3), hw, cz]
        have pDn := Rat.mul_pos pD pn
        congr 2
        grind
theorem frs_set {K : PySem.W.Frag} {H : Hp} {cs : List V} {rs : List Rat} {v : V} {r : Rat} {i : Nat} (h : Frs K H cs rs) (hv : Fr K H v r) : Frs K H (cs.set i v) (rs.set i r) := by
  refine ⟨by rw [List.length_set, List.length_set, h.len], fun j x y a b => ?_⟩
  rw [List.getElem?_set] at a b
  by_cases e : i = j
  · rw [if_pos e] at a b
    split at a
    · split at b
      · cases a
        cases b
        exact hv
      · cases b
    · cases a
  · rw [if_neg e] at a b
    exact h.each j x y a b
theorem none_rep (t : Krdf.Table) : Krdh.none_ t = List.replicate t.k 0 := by
  unfold Krdh.none_ Krdf.Table.scores
  rw [List.map_const', List.length_range]
theorem fill_nil {t : Krdf.Table} {gi : Nat} {b : Bool} {x : Rat} {c : List Rat} : Krdh.fill t gi b [] x c = c := rfl
section
variable {P : Program} {w : World} {K : PySem.W.Frag} {mg : Str → Option Value} {base : Heap} {C aZ aO : Addr}
/-! ### chances_along -/
/-- v is u by l, with things in common perhaps, and that is x -/
structure XAt (K : PySem.W.Frag) (H : Hp) (v : V) (x : Rat) : Prop where
  ex : ∃ (a : Addr) (u : Int) (D : Nat), v = .ref a ∧ SqT K H a [.int u, .int D] ∧ 0 ≤ u ∧ 0 < D ∧ u.natAbs < 2 ^ 400 ∧ D < 2 ^ 400 ∧ x = (u : Rat) / (D : Rat)
theorem XAt.of {H : Hp} {v : V} {x : Rat} (h : Fr K H v x) (hx : 0 ≤ x) (hs : Sm 400 x) : XAt K H v x := h.elim fun a q => ⟨a, x.num, x.den, q.1, q.2, Rat.num_nonneg.mpr hx, Nat.pos_of_ne_zero x.den_nz, hs.1, hs.2, (rat_eq x).symm⟩
theorem XAt.same {H H' : Hp} {v : V} {x : Rat} (h : XAt K H v x) (e : Same H H') : XAt K H' v x := h.ex.elim fun a ⟨u, D, h1, h2, h3⟩ => ⟨a, u, D, h1, sqT_same e h2, h3⟩
theorem XAt.grow {T : List (Addr × Str)} {H H' : Hp} {v : V} {x : Rat} (h : XAt K H v x) (e : Grow T H H') : XAt K H' v x := h.ex.elim fun a ⟨u, D, h1, h2, h3⟩ => ⟨a, u, D, h1, e.sqT h2, h3⟩
theorem XAt.nonneg {H : Hp} {v : V} {x : Rat} (h : XAt K H v x) : 0 ≤ x := by
  obtain ⟨a, u, D, _, _, h0, hD, _, _, rfl⟩ := h.ex
  have hb := natQ_pos hD
  rw [Rat.div_def]
  exact Rat.mul_nonneg (Rat.intCast_nonneg.mpr h0) (Rat.le_of_lt (Rat.inv_pos.mpr hb))
theorem XAt.sm {H : Hp} {v : V} {x : Rat} (h : XAt K H v x) : Sm 400 x := by
  obtain ⟨a, u, D, _, _, h0, hD, h1, h2, rfl⟩ := h.ex
  rw [← natZ]
  exact sm_div (by omega) h1 (by rw [nab]; exact h2)
def spAlong (K : PySem.W.Frag) (C : Addr) : Sp := fun vs H Q _ => ∃ (g : GA) (t : Krdf.Table) (gi : Nat) (ch : List Rat) (o : Addr) (order : List Nat) (vx : V) (x : Rat), vs = [.ref g.p, .ref o, vx] ∧ GrpAt K C H g (soL t gi) (noL t gi) ch ∧ TOk t ∧ 0 < t.no gi ∧ SqL K H o (nV order) ∧ (∀ s ∈ order, s < t.k) ∧
  XAt K H vx x ∧ ∀ (p : Addr) (H' : Hp) (cs : List V), Same H H' → H p = none → H' p = some (.lst cs) → Frs K H' cs (Krdh.fill t gi true order x (Krdh.none_ t)) → Q (.ref p) H'
theorem scAlong : FnScope ["group", "order", "x", "chances", "left", "score", "needed", "taken"] ["group", "order", "x"] (defScope sChancesAlong) := ⟨rfl, rfl, rfl, by decide +kernel, rfl, by decide +kernel, by decide +kernel⟩
theorem boot_min : bootBuiltins "min" = some (.builtin "min") := by decide +kernel
theorem ok_along (D : Has K mg "chances_along" sChancesAlong ["group", "order", "x"]) (T : TxtG K mg C) (Z : TxtZ K mg aZ aO) (R : Kept P w K mg base 2 "reduced" ["upper", "lower"] spReduced) : Kept P w K mg base 3 "chances_along" ["group", "order", "x"] (spAlong K C) := by
  refine D.kept scAlong (fun vs H Q E h => ?_) (fun f cdv A outer s H vs Q E hr h => ⟨_, pss_cons (ps_set (i := 3) scAlong.nd rfl (Or.inl rfl) (pe_op op_rep (pe_lst (pa_cons (pe_ref rfl Z.gZ) pa_nil)) (pe_callB call_len_seq (by rfl) T.len PySem.boot_len (pa_cons (pe_fld (pv 0) rfl) pa_nil))))
    (pss_cons (ps_set (i := 4) scAlong.nd rfl (Or.inl rfl) (pe_op op_mulW (pe_ix ix_tup (pv 2) pe_int (fun _ _ => rfl)) (pe_callB (cr_sum rfl) (by rfl) T.sum boot_sum (pa_cons (pe_fld (pv 0) rfl) pa_nil))))
    (pss_cons (ps_for PassesOwn.never rfl (pi_list (pv 1)) (pg_name (i := 5) scAlong.nd rfl (Or.inl rfl))
      (pss_cons (ps_set (i := 6) scAlong.nd rfl (Or.inl rfl) (pe_op op_mulW (pe_ix ix_tup (pv 2) pe_int (fun _ _ => rfl)) (pe_ix ix_list (pe_fld (pv 0) rfl) (pv 5) (fun _ _ => rfl))))
      (pss_cons (ps_set (i := 7) scAlong.nd rfl (Or.inl rfl) (pe_callB (call_min2 rfl) (by rfl) T.min boot_min (pa_cons (pv 6) (pa_cons (pv 4) pa_nil))))
      (pss_cons (ps_asg (pe_ifExp (pt_cmpR op_eq (pv 6) pe_int (nomark _)) (pe_ref rfl Z.gO) (pe_def R hr rfl (pa_cons (pv 7) (pa_cons (pv 6) pa_nil)))) (pg_sub (pv 3) (pv 5) set_list))
      (pss_one (ps_set (i := 4) scAlong.nd rfl (Or.inl rfl) (pe_op op_sub (pv 4) (pv 7))))))))
    (pss_one (ps_ret (pv 3))))), ?_⟩)
  · obtain ⟨_, _, _, _, _, _, _, _, rfl, _⟩ := h
    rfl
  · obtain ⟨g, t, gi, ch, o, order, vx, x, rfl, hG, ok, hN, hO, hlt, ⟨ax, xu, xd, rfl, hx, xu0, xd0, xus, xds, hxe⟩, q⟩ := h
    have k4 := ok.k4
    have hlen : ((soL t gi).map V.int).length = t.k := by rw [List.length_map, soL_len]
    have one : (1 : Nat) ≤ sizeLine := by decide
    refine ⟨one, fun l1 n1 => ⟨_, rfl, g.p, C, g.dx, _, _, rfl, Same.new n1 _ _ hG.ins, T.cl, T.nS, gF_so, g.aS, _, rfl, .inl (SqL.of (Same.new n1 _ _ hG.so)), ?_⟩⟩
    rw [hlen]
    refine ⟨l1, t.k, _, rfl, rfl, upd_same, by omega, by omega, Nat.le_trans (show 1 * (t.k : Int).toNat ≤ 4 by omega) (by decide), fun p np => ?_⟩
    have kn : (t.k : Int).toNat = t.k := by omega
    rw [flat_rep, kn]
    have e1 : Same H (upd (upd H l1 (.lst [V.ref aZ])) p (.lst (List.replicate t.k (V.ref aZ)))) := (Same.new n1).trans (Same.new np)
    have pH : H p = none := (Same.new n1).free np
    have hsum : (noL t gi).sum = (t.no gi : Int) := no_sum t gi
    have hno := sum_pos_le (noL t gi) ok.no
    rw [noL_len, hsum] at hno
    have hm : CMulW xu (noL t gi).sum := wide_mul xus (b := 10) (by rw [hsum]; omega) (by decide) (by decide) (by decide)
    refine ⟨_, rfl, ax, _, 0, _, rfl, rfl, sqT_same e1 hx, rfl, _, rfl, g.p, C, g.dx, _, _, rfl, e1 _ _ hG.ins, T.cl, T.nN, gF_no, g.aN, _, rfl, SqL.of (e1 _ _ hG.no), _, _, rfl, rfl, hm, ?_⟩
    rw [hsum]
    have start0 : ((xu * (t.no gi : Int) : Int) : Rat) = x * ((t.no gi : Rat) * (xd : Rat)) := by
      have h2 := natQ_pos xd0
      rw [Rat.intCast_mul, natZ, hxe]
      grind
    have xn : 0 ≤ xu * (t.no gi : Int) := Int.mul_nonneg xu0 (by omega)
    refine ⟨_, rfl, o, rfl, ⟨_, e1.seq hO⟩, for_list (K := K) (a := o) (xs := nV order) (fun i σ H' => ∃ (left : Int) (xc : Rat) (c : List Rat) (cs : List V) (o5 o6 o7 : Option V), σ = [some (.ref g.p), some (.ref o), some (.ref ax), some (.ref p), some (.int left), o5, o6, o7] ∧
        Same H H' ∧ H' p = some (.lst cs) ∧ Frs K H' cs c ∧ c.length = t.k ∧ 0 ≤ left ∧ (left : Rat) = xc * ((t.no gi : Rat) * (xd : Rat)) ∧ Krdh.fill t gi true order x (Krdh.none_ t) = Krdh.fill t gi true (order.drop i) xc c)
      ⟨_, x, Krdh.none_ t, _, none, none, none, rfl, e1, upd_same, ?_, ?_, xn, start0, rfl⟩ (fun i σ H' _ ⟨_, _, _, _, _, _, _, _, e, _⟩ => e.seq hO) ?_ ?_⟩
    · rw [none_rep]
      exact frs_rep _ ⟨aZ, rfl, Z.zero _⟩
    · rw [none_rep, List.length_replicate]
    · rintro i v σ H' hi ⟨left, xc, c, cs, o5, o6, o7, rfl, e, hp, hF, hcl, h0, hleft, hfill⟩
      obtain ⟨sc, hsc, rfl⟩ := nV_at hi
      have hk := hlt sc (List.mem_of_getElem? hsc)
      have hb := ok.le gi sc
      have hG' := hG.same e
      have hm2 : CMulW (xd : Int) ((t.cell gi sc).2 : Int) := wide_mul (a := 400) (b := 7) (by rw [nab]; exact xds) (by omega) (by decide) (by decide) (by decide)
      refine ⟨_, rfl, ax, _, 1, _, rfl, rfl, sqT_same e hx, rfl, _, rfl, g.p, C, g.dx, _, _, rfl, hG'.ins, T.cl, T.nN, gF_no, _, rfl, g.aN, _, _, _, rfl, rfl, SqL.of hG'.no, map_at (noL_at hk), _, _, rfl, rfl, hm2, ?_⟩
      refine ⟨_, rfl, _, rfl, _, _, rfl, ?_⟩
      have drop : order.drop i = sc :: order.drop (i + 1) := by
        have := List.drop_eq_getElem_cons (l := order) (i := i) (List.getElem?_eq_some_iff.mp hsc).1
        rw [this, (List.getElem?_eq_some_iff.mp hsc).2]
      obtain ⟨x', hx', h0', hturn⟩ := fill_turn (t := t) (gi := gi) (s := sc) (l := order.drop (i + 1)) (c := c) hN xd0 h0 hleft
      rw [drop, hturn] at hfill
      have hix : ixN cs.length (sc : Int) = some sc := by
        unfold ixN
        rw [if_pos (by omega), if_pos (by rw [hF.len, hcl]; omega)]
        rfl
      refine ⟨_, rfl, rfl, _, rfl, ?_⟩
      have nn : 0 ≤ (xd : Int) * ((t.cell gi sc).2 : Int) := Int.mul_nonneg (by omega) (by omega)
      have nsm : ((xd : Int) * ((t.cell gi sc).2 : Int)).natAbs < 2 ^ 9000 := by
        exact Nat.lt_of_lt_of_le (natAbs_mul_lt (n := 400) (m := 7) (by rw [nab]; exact xds) (by omega)) (Nat.pow_le_pow_right (by decide) (by decide))
      refine ifD (fun c0 => ?_) fun c0 => ?_
      · have c0 := int_eq.mp c0
        rw [if_pos c0] at hfill
        refine ⟨_, rfl, _, rfl, p, cs, sc, sc, rfl, rfl, hp, hix, ?_⟩
        refine ⟨_, rfl, _, rfl, _, _, rfl, rfl, _, x', _, _, _, _, _, rfl, fun b u eb => ?_, upd_same, frs_set ⟨hF.len, fun j a b h1 h2 => ?_⟩ ⟨aO, rfl, Z.one _⟩, by rw [List.length_set]; exact hcl, h0', hx', hfill⟩
        · rw [upd_ne (ne_of_none eb pH)]
          exact e b u eb
        · obtain ⟨d, rfl, hd⟩ := hF.each j a b h1 h2
          refine ⟨d, rfl, ?_⟩
          rcases hd with (hd | ⟨o', hd⟩) | hd
          · exact .inl (.inl (by rw [upd_ne (ne_of hd hp (by intro z; cases z))]; exact hd))
          · exact .inl (.inr ⟨o', by rw [upd_ne (ne_of hd hp (by intro z; cases z))]; exact hd⟩)
          · exact .inr hd
      · have c0 : ¬ (xd : Int) * ((t.cell gi sc).2 : Int) = 0 := fun z => c0 (int_eq.mpr z)
        rw [if_neg c0] at hfill
        refine ⟨_, rfl, _, rfl, _, _, rfl, Int.lt_iff_le_and_ne.mpr ⟨nn, Ne.symm c0⟩, nsm, fun r nr => ?_⟩
        have e2 := Same.new (o := .tup (frV (((if left < (xd : Int) * ((t.cell gi sc).2 : Int) then left else (xd : Int) * ((t.cell gi sc).2 : Int) : Int) : Rat) / (((xd : Int) * ((t.cell gi sc).2 : Int) : Int) : Rat)))) nr
        refine ⟨_, rfl, _, rfl, p, cs, sc, sc, rfl, rfl, e2 _ _ hp, hix, ?_⟩
        refine ⟨_, rfl, _, rfl, _, _, rfl, rfl, _, x', _, _, _, _, _, rfl, fun b u eb => ?_, upd_same, frs_set ⟨hF.len, fun j a b h1 h2 => ?_⟩ ⟨r, rfl, SqT.of ?_⟩, by rw [List.length_set]; exact hcl, h0', hx', hfill⟩
        · rw [upd_ne (ne_of_none eb pH)]
          exact e2 _ _ (e b u eb)
        · obtain ⟨d, rfl, hd⟩ := (hF.each j a b h1 h2).same e2
          refine ⟨d, rfl, ?_⟩
          rcases hd with (hd | ⟨o', hd⟩) | hd
          · exact .inl (.inl (by rw [upd_ne (ne_of hd (e2 _ _ hp) (by intro z; cases z))]; exact hd))
          · exact .inl (.inr ⟨o', by rw [upd_ne (ne_of hd (e2 _ _ hp) (by intro z; cases z))]; exact hd⟩)
          · exact .inr hd
        · rw [upd_ne (ne_of_none hp nr).symm]
          exact upd_same
    · rintro σ H' ⟨left, xc, c, cs, o5, o6, o7, rfl, e, hp, hF, hcl, h0, hleft, hfill⟩
      rw [nV_len, List.drop_length, fill_nil] at hfill
      refine ⟨_, rfl, q p H' cs e pH hp ?_⟩
      rw [hfill]
      exact hF
end
end My

namespace My
/-! ### the fewest: scores with nobody who turned out not so stand last, and get nothing -/
section
variable {t : Krdf.Table} {gi : Nat}
def HasNo (t : Krdf.Table) (gi s : Nat) : Prop := 0 < (t.cell gi s).2
theorem before_nn {x y : Nat} (hx : (t.cell gi x).2 = 0) : Krdh.before t gi false x y = false := by
  show decide ((t.cell gi x).1 * (t.cell gi y).2 < (t.cell gi y).1 * (t.cell gi x).2) = false
  rw [hx, Nat.mul_zero]
  exact decide_eq_false (Nat.not_lt_zero _)
theorem before_nz {x y : Nat} (hx : 0 < (t.cell gi x).2) (hy : (t.cell gi y).2 = 0) (hp : 0 < (t.cell gi y).1) : Krdh.before t gi false x y = true := by
  show decide ((t.cell gi x).1 * (t.cell gi y).2 < (t.cell gi y).1 * (t.cell gi x).2) = true
  rw [hy, Nat.mul_zero]
  exact decide_eq_true (Nat.mul_pos hp hx)
theorem insert_last {x : Nat} (hx : (t.cell gi x).2 = 0) : ∀ l : List Nat, Krdh.insert (Krdh.before t gi false) x l = l ++ [x]
  | [] => rfl
  | y :: l => by
    show (if Krdh.before t gi false x y = true then x :: y :: l else y :: Krdh.insert (Krdh.before t gi false) x l) = _
    rw [before_nn hx, if_neg Bool.false_ne_true, insert_last hx l]
    rfl
theorem insert_front {x : Nat} (hx : 0 < (t.cell gi x).2) {Z : List Nat} (hz : ∀ z ∈ Z, (t.cell gi z).2 = 0 ∧ 0 < (t.cell gi z).1) : ∀ A : List Nat, Krdh.insert (Krdh.before t gi false) x (A ++ Z) = Krdh.insert (Krdh.before t gi false) x A ++ Z
  | [] => by
    cases Z with
    | nil => rfl
    | cons z Z =>
      have h := hz z (List.mem_cons_self ..)
      show (if Krdh.before t gi false x z = true then x :: z :: Z else z :: Krdh.insert (Krdh.before t gi false) x Z) = x :: z :: Z
      rw [before_nz hx h.1 h.2, if_pos rfl]
  | y :: A => by
    show (if Krdh.before t gi false x y = true then x :: y :: (A ++ Z) else y :: Krdh.insert (Krdh.before t gi false) x (A ++ Z)) = (if Krdh.before t gi false x y = true then x :: y :: A else y :: Krdh.insert (Krdh.before t gi false) x A) ++ Z
    split
    · rfl
    · rw [insert_front hx hz A]
      rfl
theorem sort_split : ∀ (xs A Z : List Nat), (∀ s ∈ xs, 0 < (t.cell gi s).1 + (t.cell gi s).2) → (∀ z ∈ Z, (t.cell gi z).2 = 0 ∧ 0 < (t.cell gi z).1) →
    xs.foldl (fun l s => Krdh.insert (Krdh.before t gi false) s l) (A ++ Z) = (xs.filter fun s => decide (0 < (t.cell gi s).2)).foldl (fun l s => Krdh.insert (Krdh.before t gi false) s l) A ++ (Z ++ xs.filter fun s => !decide (0 < (t.cell gi s).2))
  | [], A, Z, _, _ => by simp
  | x :: xs, A, Z, h, hz => by
    have hx := h x (List.mem_cons_self ..)
    have ht : ∀ s ∈ xs, 0 < (t.cell gi s).1 + (t.cell gi s).2 := fun s hs => h s (List.mem_cons_of_mem _ hs)
    rw [List.foldl_cons]
    by_cases c : 0 < (t.cell gi x).2
    · rw [insert_front c hz A, sort_split xs _ Z ht hz, List.filter_cons_of_pos (by simpa using c), List.filter_cons_of_neg (by simp; omega), List.foldl_cons]
    · have c0 : (t.cell gi x).2 = 0 := by omega
      rw [insert_last c0, List.append_assoc, sort_split xs A (Z ++ [x]) ht (fun z hm => by
        rcases List.mem_append.mp hm with q | q
        · exact hz z q
        · have : z = x := by simpa using q
          subst this
          exact ⟨c0, by omega⟩), List.filter_cons_of_neg (by simp; omega), List.filter_cons_of_pos (by simp; omega), List.append_assoc]
      rfl
theorem ordered_split : Krdh.ordered t gi false = sortBy (Krdh.before t gi false) (withNo t gi) ++ (Krdh.some_ t gi).filter fun s => !decide (0 < (t.cell gi s).2) := by
  have h := sort_split (t := t) (gi := gi) (Krdh.some_ t gi) [] [] (fun s hs => by simpa using (List.mem_filter.mp hs).2) (fun z hz => absurd hz List.not_mem_nil)
  have e : ((Krdh.some_ t gi).filter fun s => decide (0 < (t.cell gi s).2)) = withNo t gi := by
    unfold Krdh.some_ withNo
    rw [List.filter_filter]
    refine List.filter_congr fun s _ => ?_
    by_cases c : 0 < (t.cell gi s).2
    · rw [decide_eq_true c, decide_eq_true (show 0 < (t.cell gi s).1 + (t.cell gi s).2 by omega)]
      rfl
    · rw [decide_eq_false c]
      rfl
  rw [e] at h
  exact h
theorem fill_append {b : Bool} {Z : List Nat} : ∀ (A : List Nat) (x : Rat) (c : List Rat), ∃ x', Krdh.fill t gi b (A ++ Z) x c = Krdh.fill t gi b Z x' (Krdh.fill t gi b A x c)
  | [], x, c => ⟨x, rfl⟩
  | s :: A, x, c => by
    simp only [List.cons_append, Krdh.fill]
    split
    · exact fill_append A _ _
    · split
      · exact fill_append A _ _
      · exact fill_append A _ _
theorem fill_bool (hN : 0 < t.no gi) : ∀ (A : List Nat) (x : Rat) (c : List Rat), (∀ s ∈ A, 0 < (t.cell gi s).2) → Krdh.fill t gi false A x c = Krdh.fill t gi true A x c
  | [], _, _, _ => rfl
  | s :: A, x, c, h => by
    have h1 := natQ_pos hN
    have h2 := natQ_pos (h s (List.mem_cons_self ..))
    have e : ¬ ((t.cell gi s).2 : Rat) / (t.no gi : Rat) = 0 := by grind
    have hA : ∀ s ∈ A, 0 < (t.cell gi s).2 := fun s hs => h s (List.mem_cons_of_mem _ hs)
    simp only [Krdh.fill]
    rw [if_neg e, if_neg e, fill_bool hN A _ _ hA, fill_bool hN A _ _ hA]
theorem fill_out {b : Bool} {z : Nat} : ∀ (A : List Nat) (x : Rat) (c : List Rat), z ∉ A → (Krdh.fill t gi b A x c)[z]? = c[z]?
  | [], _, _, _ => rfl
  | s :: A, x, c, h => by
    have hs : s ≠ z := fun e => h (by rw [e]; exact List.mem_cons_self ..)
    have hA : z ∉ A := fun e => h (List.mem_cons_of_mem _ e)
    simp only [Krdh.fill]
    split
    · rw [fill_out A _ _ hA, List.getElem?_set_ne hs]
    · split
      · rw [fill_out A _ _ hA, List.getElem?_set_ne hs]
      · rw [fill_out A _ _ hA, List.getElem?_set_ne hs]
theorem set_same {c : List Rat} {s : Nat} {r : Rat} (h : c[s]? = some r) : c.set s r = c := by
  obtain ⟨hl, e⟩ := List.getElem?_eq_some_iff.mp h
  rw [← e]
  exact List.set_getElem_self hl
theorem fill_zeros : ∀ (Z : List Nat) (x : Rat) (c : List Rat), (∀ s ∈ Z, (t.cell gi s).2 = 0 ∧ c[s]? = some 0) → Krdh.fill t gi false Z x c = c
  | [], _, _, _ => rfl
  | s :: Z, x, c, h => by
    have hs := h s (List.mem_cons_self ..)
    have e : ((t.cell gi s).2 : Rat) / (t.no gi : Rat) = 0 := by
      rw [hs.1]
      simp [Rat.div_def]
    simp only [Krdh.fill]
    rw [if_pos e]
    have e2 : c.set s (if false = true then (1 : Rat) else 0) = c := set_same (r := (if false = true then (1 : Rat) else 0)) hs.2
    rw [e2]
    exact fill_zeros Z x c fun z hz => h z (List.mem_cons_of_mem _ hz)
theorem fewest_is (hN : 0 < t.no gi) (x : Rat) : Krdh.fill t gi true (sortBy (Krdh.before t gi false) (withNo t gi)) x (Krdh.none_ t) = Krdh.fewest t gi x := by
  unfold Krdh.fewest
  rw [ordered_split]
  have hA : ∀ s ∈ sortBy (Krdh.before t gi false) (withNo t gi), 0 < (t.cell gi s).2 := fun s hs => by simpa using (List.mem_filter.mp (sortBy_sub hs)).2
  obtain ⟨x', e⟩ := fill_append (t := t) (gi := gi) (b := false) (Z := (Krdh.some_ t gi).filter fun s => !decide (0 < (t.cell gi s).2)) (sortBy (Krdh.before t gi false) (withNo t gi)) x (Krdh.none_ t)
  rw [e, fill_bool hN _ _ _ hA, fill_zeros]
  intro s hs
  have h1 := List.mem_filter.mp hs
  have h2 : (t.cell gi s).2 = 0 := by
    have := h1.2
    simp at this
    exact this
  refine ⟨h2, ?_⟩
  rw [fill_out _ _ _ (fun z => by have := hA s z; omega), none_rep, List.getElem?_replicate, if_pos (some_lt h1.1)]
end
end My

namespace My
open PySem PySem.Spec PyProof.Rows L2 LamX NdefX
/-! ### parts chosen, in the specification's words -/
theorem zip_range {f : Nat → Int} {c : List Rat} {k : Nat} (h : c.length = k) : ((List.range k).map f).zip c = (List.range k).map fun s => (f s, c.getD s 0) := by
  refine List.ext_getElem? fun i => ?_
  by_cases hi : i < k
  · have hc : i < c.length := by omega
    simp [List.getElem?_zip_eq_some, List.zip, List.getElem?_zipWith, hi, hc, List.getD]
  · have hc : c.length ≤ i := by omega
    simp [List.zip, List.getElem?_zipWith, hi, hc]
theorem dot_is {f : Nat → Nat} {c : List Rat} {t : Krdf.Table} (h : c.length = t.k) : dot (t.scores.map fun s => ((f s : Nat) : Int)) c = Krdh.sum (t.scores.map fun s => c.getD s 0 * ((f s : Nat) : Rat)) := by
  unfold dot Krdh.sum Krdf.Table.scores
  rw [zip_range h, List.foldl_map, List.foldl_map]
  rfl
theorem right_is {t : Krdf.Table} {gi : Nat} {c : List Rat} (h : c.length = t.k) : dot (soL t gi) c / ((soL t gi).sum : Rat) = Krdh.right t gi c := by
  unfold Krdh.right
  rw [so_sum, natZ]
  unfold soL
  rw [dot_is h]
theorem wrong_is {t : Krdf.Table} {gi : Nat} {c : List Rat} (h : c.length = t.k) : dot (noL t gi) c / ((noL t gi).sum : Rat) = Krdh.wrong t gi c := by
  unfold Krdh.wrong
  rw [no_sum, natZ]
  unfold noL
  rw [dot_is h]
theorem fill_length {t : Krdf.Table} {gi : Nat} {b : Bool} : ∀ (l : List Nat) (x : Rat) (c : List Rat), (Krdh.fill t gi b l x c).length = c.length
  | [], _, _ => rfl
  | s :: l, x, c => by
    simp only [Krdh.fill]
    split
    · rw [fill_length l, List.length_set]
    · split
      · rw [fill_length l, List.length_set]
      · rw [fill_length l, List.length_set]
theorem none_length (t : Krdf.Table) : (Krdh.none_ t).length = t.k := by rw [none_rep, List.length_replicate]
theorem most_length (t : Krdf.Table) (gi : Nat) (x : Rat) : (Krdh.most t gi x).length = t.k := (fill_length _ _ _).trans (none_length t)
theorem fewest_length (t : Krdf.Table) (gi : Nat) (x : Rat) : (Krdh.fewest t gi x).length = t.k := (fill_length _ _ _).trans (none_length t)
section
variable {P : Program} {w : World} {K : PySem.W.Frag} {mg : Str → Option Value} {base : Heap} {C aZ aO : Addr} {T : List (Addr × Str)}
/-! ### most_chances, fewest_chances -/
def spMost (K : PySem.W.Frag) (C : Addr) (T : List (Addr × Str)) (val : Krdf.Table → Nat → Rat → List Rat) : Sp := fun vs H Q _ => ∃ (g : GA) (t : Krdf.Table) (gi : Nat) (ch : List Rat) (vx : V) (x : Rat), vs = [.ref g.p, vx] ∧ GrpAt K C H g (soL t gi) (noL t gi) ch ∧ TOk t ∧ 0 < t.no gi ∧ Tabs T H ∧
  XAt K H vx x ∧ ∀ (p : Addr) (H' : Hp) (cs : List V), Grow T H H' → H' p = some (.lst cs) → Frs K H' cs (val t gi x) → Q (.ref p) H'
theorem scMost : FnScope ["group", "x"] ["group", "x"] (defScope sMostChances) := ⟨rfl, rfl, rfl, by decide +kernel, rfl, by decide +kernel, by decide +kernel⟩
theorem scFewest : FnScope ["group", "x"] ["group", "x"] (defScope sFewestChances) := ⟨rfl, rfl, rfl, by decide +kernel, rfl, by decide +kernel, by decide +kernel⟩
theorem ok_most (D : Has K mg "most_chances" sMostChances ["group", "x"]) (O : Kept P w K mg base 4 "scores_in_order" ["group"] (spOrder K C T fun t gi => Krdh.ordered t gi true)) (L : Kept P w K mg base 3 "chances_along" ["group", "order", "x"] (spAlong K C)) :
    Kept P w K mg base 5 "most_chances" ["group", "x"] (spMost K C T Krdh.most) := by
  refine D.kept scMost (fun vs H Q E h => ?_) (fun f cdv A outer s H vs Q E hr h => ⟨_, pss_one (ps_ret (pe_def L (hr.mono (by decide)) rfl (pa_cons (pv 0) (pa_cons (pe_def O hr rfl (pa_cons (pv 0) pa_nil)) (pa_cons (pv 1) pa_nil))))), ?_⟩)
  · obtain ⟨_, _, _, _, _, _, rfl, _⟩ := h
    rfl
  · obtain ⟨g, t, gi, ch, vx, x, rfl, hG, ok, hN, hT, hx, q⟩ := h
    refine ⟨_, rfl, _, rfl, g, t, gi, ch, rfl, hG, ok, hT, fun o H1 e1 ho => ?_⟩
    refine ⟨_, rfl, g, t, gi, ch, o, Krdh.ordered t gi true, vx, x, rfl, hG.grow e1, ok, hN, SqL.of ho, fun s hs => some_lt (sortBy_sub hs), hx.grow e1, fun p H' cs e np hp hF => ?_⟩
    exact q p H' cs (e1.trans (Same.grow e)) hp hF
theorem ok_fewest (D : Has K mg "fewest_chances" sFewestChances ["group", "x"]) (O : Kept P w K mg base 4 "scores_from_other_end" ["group"] (spOrder K C T fun t gi => sortBy (Krdh.before t gi false) (withNo t gi))) (L : Kept P w K mg base 3 "chances_along" ["group", "order", "x"] (spAlong K C)) :
    Kept P w K mg base 5 "fewest_chances" ["group", "x"] (spMost K C T Krdh.fewest) := by
  refine D.kept scFewest (fun vs H Q E h => ?_) (fun f cdv A outer s H vs Q E hr h => ⟨_, pss_one (ps_ret (pe_def L (hr.mono (by decide)) rfl (pa_cons (pv 0) (pa_cons (pe_def O hr rfl (pa_cons (pv 0) pa_nil)) (pa_cons (pv 1) pa_nil))))), ?_⟩)
  · obtain ⟨_, _, _, _, _, _, rfl, _⟩ := h
    rfl
  · obtain ⟨g, t, gi, ch, vx, x, rfl, hG, ok, hN, hT, hx, q⟩ := h
    refine ⟨_, rfl, _, rfl, g, t, gi, ch, rfl, hG, ok, hT, fun o H1 e1 ho => ?_⟩
    refine ⟨_, rfl, g, t, gi, ch, o, sortBy (Krdh.before t gi false) (withNo t gi), vx, x, rfl, hG.grow e1, ok, hN, SqL.of ho, fun s hs => withNo_lt (sortBy_sub hs), hx.grow e1, fun p H' cs e np hp hF => ?_⟩
    rw [fewest_is hN] at hF
    exact q p H' cs (e1.trans (Same.grow e)) hp hF
end
end My

namespace My
open PySem PySem.Spec PyProof.Rows L2 LamX NdefX
/-! ### how large the chances of the most and of the fewest are -/
theorem x_start (x : Rat) (N : Nat) : ((x.num * (N : Int) : Int) : Rat) = x * ((N : Rat) * (x.den : Rat)) := by
  rw [Rat.intCast_mul, natZ]
  have h1 := rat_eq x
  have h2 := den_ne x
  generalize (x.num : Rat) = n at h1
  generalize (x.den : Rat) = d at h1 h2
  rw [← h1]
  grind
theorem fill_sm {t : Krdf.Table} {gi D : Nat} (hN : 0 < t.no gi) (ok : TOk t) (hD : 0 < D) (hs : D < 2 ^ 400) : ∀ (l : List Nat) (x : Rat) (left : Int) (c : List Rat), 0 ≤ left → (left : Rat) = x * ((t.no gi : Rat) * (D : Rat)) → (∀ r ∈ c, Sm 410 r) → ∀ r ∈ Krdh.fill t gi true l x c, Sm 410 r
  | [], x, left, c, _, _, h => h
  | s :: l, x, left, c, h0, hl, h => by
    obtain ⟨x', hx', h0', hturn⟩ := fill_turn (t := t) (gi := gi) (s := s) (l := l) (c := c) hN hD h0 hl
    rw [hturn]
    refine fill_sm hN ok hD hs l x' _ _ h0' hx' fun r hr => ?_
    rcases List.mem_or_eq_of_mem_set hr with q | q
    · exact h r q
    · rw [q]
      have hb := (ok.le gi s).2
      have hm : ((D : Int) * ((t.cell gi s).2 : Int)).natAbs < 2 ^ 407 := natAbs_mul_lt (n := 400) (m := 7) (by rw [nab]; exact hs) (by omega)
      have nn : 0 ≤ (D : Int) * ((t.cell gi s).2 : Int) := Int.mul_nonneg (by omega) (by omega)
      split
      · exact ⟨by rw [Rat.one_num]; exact Nat.one_lt_two_pow (by decide), by rw [Rat.one_den]; exact Nat.one_lt_two_pow (by decide)⟩
      · rename_i hne
        refine (sm_div (n := 407) (Int.lt_iff_le_and_ne.mpr ⟨nn, Ne.symm hne⟩) ?_ hm).mono (by decide)
        refine Nat.lt_of_le_of_lt ?_ hm
        split <;> omega
theorem none_sm {t : Krdf.Table} : ∀ r ∈ Krdh.none_ t, Sm 410 r := fun r hr => by
  rw [none_rep] at hr
  rw [(List.mem_replicate.mp hr).2]
  exact ⟨by rw [Rat.zero_num]; exact Nat.pow_pos (by decide), by rw [Rat.zero_den]; exact Nat.one_lt_two_pow (by decide)⟩
theorem most_sm {t : Krdf.Table} {gi : Nat} {x : Rat} (hN : 0 < t.no gi) (ok : TOk t) (hx : 0 ≤ x) (hs : Sm 400 x) : ∀ r ∈ Krdh.most t gi x, Sm 410 r :=
  fill_sm hN ok (Nat.pos_of_ne_zero x.den_nz) hs.2 _ x (x.num * (t.no gi : Int)) _ (Int.mul_nonneg (Rat.num_nonneg.mpr hx) (by omega)) (x_start x _) none_sm
theorem fewest_sm {t : Krdf.Table} {gi : Nat} {x : Rat} (hN : 0 < t.no gi) (ok : TOk t) (hx : 0 ≤ x) (hs : Sm 400 x) : ∀ r ∈ Krdh.fewest t gi x, Sm 410 r := by
  rw [← fewest_is hN]
  exact fill_sm hN ok (Nat.pos_of_ne_zero x.den_nz) hs.2 _ x (x.num * (t.no gi : Int)) _ (Int.mul_nonneg (Rat.num_nonneg.mpr hx) (by omega)) (x_start x _) none_sm
theorem rat_sm {a b : Nat} (h : Krdh.partOk a b = true) : Sm 400 (Krdh.rat a b) := by
  simp only [Krdh.partOk, Bool.and_eq_true, decide_eq_true_eq] at h
  unfold Krdh.rat
  rw [← natZ, ← natZ]
  refine (sm_div (n := 10) (by omega) ?_ ?_).mono (by decide)
  · rw [nab]
    exact Nat.lt_of_le_of_lt (show a ≤ 1000 by omega) (by decide)
  · rw [nab]
    exact Nat.lt_of_le_of_lt (show b ≤ 1000 by omega) (by decide)
theorem rat_nonneg {a b : Nat} : 0 ≤ Krdh.rat a b := by
  unfold Krdh.rat
  by_cases h : b = 0
  · rw [h]
    simp [Rat.div_def]
  · have hb := natQ_pos (Nat.pos_of_ne_zero h)
    have ha : (0 : Rat) ≤ (a : Rat) := Rat.natCast_nonneg
    rw [Rat.div_def]
    exact Rat.mul_nonneg ha (Rat.le_of_lt (Rat.inv_pos.mpr hb))
theorem full_pos {t : Krdf.Table} (h : Krdh.full t = true) {gi : Nat} (hg : gi < 2) : 0 < t.yes gi ∧ 0 < t.no gi := by
  unfold Krdh.full at h
  simp only [List.all_cons, List.all_nil, Bool.and_true, Bool.and_eq_true, decide_eq_true_eq] at h
  rcases (show gi = 0 ∨ gi = 1 by omega) with rfl | rfl
  · exact h.1
  · exact h.2
theorem getD_set {α : Type} {l : List α} {i j : Nat} {v d : α} (h : i < l.length) : (l.set i v).getD j d = if i = j then v else l.getD j d := by
  rw [List.getD_eq_getElem?_getD, List.getElem?_set, List.getD_eq_getElem?_getD]
  by_cases e : i = j
  · rw [if_pos e, if_pos e, if_pos (e ▸ h)]
    rfl
  · rw [if_neg e, if_neg e]
end My

namespace My
/-! ### lower numbers: r by D is whole -/
def Dv (D : Nat) (r : Rat) : Prop := ∃ z : Int, r * (D : Rat) = (z : Rat)
theorem dv_le {D : Nat} {r : Rat} (hD : 0 < D) (h : Dv D r) : r.den ≤ D := by
  obtain ⟨z, hz⟩ := h
  have pD := natQ_pos hD
  have e : r = (z : Rat) / ((D : Int) : Rat) := by
    rw [natZ, ← hz]
    grind
  have h1 := den_div z (D : Int) (by omega)
  rw [← e] at h1
  have h2 : (D : Int) / (Int.gcd z D : Int) ≤ D := Int.ediv_le_self _ (by omega)
  omega
theorem num_le_den {r : Rat} (h0 : 0 ≤ r) (h1 : r ≤ 1) : r.num.natAbs ≤ r.den := by
  have a := (Rat.le_iff r 1).mp h1
  have b := Rat.num_nonneg.mpr h0
  simp at a
  omega
theorem dv_sm {D n : Nat} {r : Rat} (hD : 0 < D) (h : Dv D r) (h0 : 0 ≤ r) (h1 : r ≤ 1) (hn : D < 2 ^ n) : Sm n r := by
  have a := dv_le hD h
  have b := num_le_den h0 h1
  exact ⟨by omega, by omega⟩
theorem dv_self (r : Rat) : Dv r.den r := ⟨r.num, by
  have h1 := rat_eq r
  have h2 := den_ne r
  generalize (r.num : Rat) = n at h1 ⊢
  generalize (r.den : Rat) = d at h1 h2 ⊢
  rw [← h1]
  grind⟩
theorem Dv.mono {D E : Nat} {r : Rat} (h : Dv D r) (hd : D ∣ E) : Dv E r := by
  obtain ⟨z, hz⟩ := h
  obtain ⟨k, rfl⟩ := hd
  refine ⟨z * (k : Int), ?_⟩
  rw [Rat.natCast_mul, Rat.intCast_mul, natZ, ← hz]
  grind
theorem Dv.add {D : Nat} {a b : Rat} (ha : Dv D a) (hb : Dv D b) : Dv D (a + b) := by
  obtain ⟨y, hy⟩ := ha
  obtain ⟨z, hz⟩ := hb
  refine ⟨y + z, ?_⟩
  rw [Rat.intCast_add, ← hy, ← hz]
  grind
theorem Dv.sub {D : Nat} {a b : Rat} (ha : Dv D a) (hb : Dv D b) : Dv D (a - b) := by
  obtain ⟨y, hy⟩ := ha
  obtain ⟨z, hz⟩ := hb
  refine ⟨y - z, ?_⟩
  rw [Rat.intCast_sub, ← hy, ← hz]
  grind
theorem Dv.mul {D E : Nat} {a b : Rat} (ha : Dv D a) (hb : Dv E b) : Dv (D * E) (a * b) := by
  obtain ⟨y, hy⟩ := ha
  obtain ⟨z, hz⟩ := hb
  refine ⟨y * z, ?_⟩
  rw [Rat.natCast_mul, Rat.intCast_mul, ← hy, ← hz]
  grind
theorem dv_nat (n : Nat) : Dv 1 (n : Rat) := ⟨n, by rw [natZ]; grind⟩
theorem dv_zero {D : Nat} : Dv D 0 := ⟨0, by simp⟩
theorem dv_one {D : Nat} : Dv D 1 := ⟨D, by rw [natZ]; grind⟩
theorem Dv.mulN {D : Nat} {a : Rat} (ha : Dv D a) (n : Nat) : Dv D (a * (n : Rat)) := by
  have := ha.mul (dv_nat n)
  rw [Nat.mul_one] at this
  exact this
theorem Dv.divN {D n : Nat} {a : Rat} (ha : Dv D a) (hn : 0 < n) : Dv (D * n) (a / (n : Rat)) := by
  obtain ⟨y, hy⟩ := ha
  have pn := natQ_pos hn
  refine ⟨y, ?_⟩
  rw [Rat.natCast_mul, ← hy]
  grind
/-! ### what the people's numbers make -/
def prodN : List Nat → Nat
  | [] => 1
  | n :: l => (if n = 0 then 1 else n) * prodN l
theorem prodN_pos : ∀ l : List Nat, 0 < prodN l
  | [] => Nat.one_pos
  | n :: l => by
    unfold prodN
    split
    · exact Nat.mul_pos Nat.one_pos (prodN_pos l)
    · exact Nat.mul_pos (by omega) (prodN_pos l)
theorem prodN_dvd : ∀ (l : List Nat) (n : Nat), n ∈ l → 0 < n → n ∣ prodN l
  | m :: l, n, h, h0 => by
    unfold prodN
    rcases List.mem_cons.mp h with e | e
    · subst e
      rw [if_neg (by omega)]
      exact Nat.dvd_mul_right _ _
    · exact Nat.dvd_trans (prodN_dvd l n e h0) (Nat.dvd_mul_left _ _)
theorem prodN_le : ∀ l : List Nat, (∀ n ∈ l, n ≤ 99) → prodN l ≤ 99 ^ l.length
  | [], _ => Nat.le_refl _
  | n :: l, h => by
    unfold prodN
    have h1 := h n (List.mem_cons_self ..)
    have h2 := prodN_le l fun m hm => h m (List.mem_cons_of_mem _ hm)
    rw [List.length_cons, Nat.pow_succ, Nat.mul_comm (99 ^ l.length)]
    exact Nat.mul_le_mul (by split <;> omega) h2
/-- what all lower numbers of chances divide, but for x's own -/
def Lg (t : Krdf.Table) (gi : Nat) : Nat := prodN (t.scores.map fun s => (t.cell gi s).2)
theorem Lg_pos (t : Krdf.Table) (gi : Nat) : 0 < Lg t gi := prodN_pos _
theorem Lg_dvd {t : Krdf.Table} {gi s : Nat} (hs : s < t.k) (h : 0 < (t.cell gi s).2) : (t.cell gi s).2 ∣ Lg t gi := prodN_dvd _ _ (List.mem_map.mpr ⟨s, by simpa [Krdf.Table.scores] using hs, rfl⟩) h
theorem Lg_lt {t : Krdf.Table} {gi : Nat} (ok : TOk t) : Lg t gi < 2 ^ 27 := by
  have h := prodN_le (t.scores.map fun s => (t.cell gi s).2) fun n hn => by
    obtain ⟨s, _, rfl⟩ := List.mem_map.mp hn
    exact (ok.le gi s).2
  rw [List.length_map] at h
  have hl : t.scores.length = t.k := by simp [Krdf.Table.scores]
  rw [hl] at h
  have h4 := ok.k4
  have : 99 ^ t.k ≤ 99 ^ 4 := Nat.pow_le_pow_right (by decide) h4
  unfold Lg
  omega
/-- a chance: from 0 to 1, its lower number divides D -/
structure Ch (D : Nat) (r : Rat) : Prop where
  dv : Dv D r
  ge : 0 ≤ r
  le : r ≤ 1
theorem ch_zero {D : Nat} : Ch D 0 := ⟨dv_zero, by decide, by decide⟩
theorem ch_one {D : Nat} : Ch D 1 := ⟨dv_one, by decide, by decide⟩
theorem fill_ch {t : Krdf.Table} {gi D : Nat} (hN : 0 < t.no gi) (hD : 0 < D) : ∀ (l : List Nat) (x : Rat) (left : Int) (c : List Rat), (∀ s ∈ l, s < t.k) → 0 ≤ left → (left : Rat) = x * ((t.no gi : Rat) * (D : Rat)) → (∀ r ∈ c, Ch (D * Lg t gi) r) → ∀ r ∈ Krdh.fill t gi true l x c, Ch (D * Lg t gi) r
  | [], x, left, c, _, _, _, h => h
  | s :: l, x, left, c, hk, h0, hl, h => by
    obtain ⟨x', hx', h0', hturn⟩ := fill_turn (t := t) (gi := gi) (s := s) (l := l) (c := c) hN hD h0 hl
    rw [hturn]
    refine fill_ch hN hD l x' _ _ (fun s hs => hk s (List.mem_cons_of_mem _ hs)) h0' hx' fun r hr => ?_
    rcases List.mem_or_eq_of_mem_set hr with q | q
    · exact h r q
    · rw [q]
      split
      · exact ch_one
      · rename_i hne
        have nn : 0 ≤ (D : Int) * ((t.cell gi s).2 : Int) := Int.mul_nonneg (by omega) (by omega)
        have hpos : 0 < (D : Int) * ((t.cell gi s).2 : Int) := Int.lt_iff_le_and_ne.mpr ⟨nn, Ne.symm hne⟩
        have hn0 : 0 < (t.cell gi s).2 := by
          refine Nat.pos_of_ne_zero fun z => hne ?_
          rw [z]
          exact Int.mul_zero _
        generalize htk : (if left < (D : Int) * ((t.cell gi s).2 : Int) then left else (D : Int) * ((t.cell gi s).2 : Int)) = tk
        have t0 : 0 ≤ tk := by rw [← htk]; split <;> omega
        have t1 : tk ≤ (D : Int) * ((t.cell gi s).2 : Int) := by rw [← htk]; split <;> omega
        have pQ : (0 : Rat) < (((D : Int) * ((t.cell gi s).2 : Int) : Int) : Rat) := Rat.intCast_pos.mpr hpos
        have tQ : (0 : Rat) ≤ (tk : Rat) := Rat.intCast_nonneg.mpr t0
        have tQ1 : (tk : Rat) ≤ (((D : Int) * ((t.cell gi s).2 : Int) : Int) : Rat) := Rat.intCast_le_intCast.mpr t1
        have e : (((D : Int) * ((t.cell gi s).2 : Int) : Int) : Rat) = ((D * (t.cell gi s).2 : Nat) : Rat) := by
          rw [Rat.intCast_mul, natZ, natZ, Rat.natCast_mul]
        refine ⟨?_, ?_, ?_⟩
        · have hd : D * (t.cell gi s).2 ∣ D * Lg t gi := Nat.mul_dvd_mul_left _ (Lg_dvd (hk s (List.mem_cons_self ..)) hn0)
          refine Dv.mono (D := D * (t.cell gi s).2) ⟨tk, ?_⟩ hd
          rw [e]
          rw [e] at pQ
          grind
        · rw [Rat.div_def]
          exact Rat.mul_nonneg tQ (Rat.le_of_lt (Rat.inv_pos.mpr pQ))
        · refine Rat.le_of_mul_le_mul_right (c := (((D : Int) * ((t.cell gi s).2 : Int) : Int) : Rat)) ?_ pQ
          rw [Rat.div_mul_cancel (Rat.ne_of_gt pQ), Rat.one_mul]
          exact tQ1
theorem none_ch {t : Krdf.Table} {D : Nat} : ∀ r ∈ Krdh.none_ t, Ch D r := fun r hr => by
  rw [none_rep] at hr
  rw [(List.mem_replicate.mp hr).2]
  exact ch_zero
theorem most_ch {t : Krdf.Table} {gi : Nat} {x : Rat} (hN : 0 < t.no gi) (hx : 0 ≤ x) : ∀ r ∈ Krdh.most t gi x, Ch (x.den * Lg t gi) r :=
  fill_ch hN (Nat.pos_of_ne_zero x.den_nz) _ x (x.num * (t.no gi : Int)) _ (fun s hs => some_lt (sortBy_sub hs)) (Int.mul_nonneg (Rat.num_nonneg.mpr hx) (by omega)) (x_start x _) none_ch
theorem fewest_ch {t : Krdf.Table} {gi : Nat} {x : Rat} (hN : 0 < t.no gi) (hx : 0 ≤ x) : ∀ r ∈ Krdh.fewest t gi x, Ch (x.den * Lg t gi) r := by
  rw [← fewest_is hN]
  exact fill_ch hN (Nat.pos_of_ne_zero x.den_nz) _ x (x.num * (t.no gi : Int)) _ (fun s hs => withNo_lt (sortBy_sub hs)) (Int.mul_nonneg (Rat.num_nonneg.mpr hx) (by omega)) (x_start x _) none_ch
/-! ### parts chosen -/
theorem getD_ch {D : Nat} {c : List Rat} (h : ∀ r ∈ c, Ch D r) (s : Nat) : Ch D (c.getD s 0) := by
  rw [List.getD_eq_getElem?_getD]
  cases e : c[s]? with
  | none => exact ch_zero
  | some r => exact h r (List.mem_of_getElem? e)
theorem sum_ch {D : Nat} {c : List Rat} (h : ∀ r ∈ c, Ch D r) (f : Nat → Nat) : ∀ (l : List Nat) (a : Rat) (n : Nat), Dv D a → 0 ≤ a → a ≤ (n : Rat) →
    Dv D ((l.map fun s => c.getD s 0 * ((f s : Nat) : Rat)).foldl (· + ·) a) ∧ 0 ≤ (l.map fun s => c.getD s 0 * ((f s : Nat) : Rat)).foldl (· + ·) a ∧ (l.map fun s => c.getD s 0 * ((f s : Nat) : Rat)).foldl (· + ·) a ≤ ((n + (l.map f).sum : Nat) : Rat)
  | [], a, n, h1, h2, h3 => ⟨h1, h2, h3⟩
  | s :: l, a, n, h1, h2, h3 => by
    have hc := getD_ch h s
    have hf : (0 : Rat) ≤ ((f s : Nat) : Rat) := Rat.natCast_nonneg
    have h0 : 0 ≤ c.getD s 0 * ((f s : Nat) : Rat) := Rat.mul_nonneg hc.ge hf
    have h4 : c.getD s 0 * ((f s : Nat) : Rat) ≤ ((f s : Nat) : Rat) := by
      have := Rat.mul_le_mul_of_nonneg_right hc.le hf
      rw [Rat.one_mul] at this
      exact this
    have ih := sum_ch h f l (a + c.getD s 0 * ((f s : Nat) : Rat)) (n + f s) (h1.add (hc.dv.mulN (f s))) (Rat.add_nonneg h2 h0) (by rw [Rat.natCast_add]; grind)
    rw [List.map_cons, List.foldl_cons, List.map_cons, List.sum_cons, ← Nat.add_assoc]
    exact ih
theorem right_ch {t : Krdf.Table} {gi D : Nat} {c : List Rat} (hY : 0 < t.yes gi) (h : ∀ r ∈ c, Ch D r) : Ch (D * t.yes gi) (Krdh.right t gi c) := by
  obtain ⟨h1, h2, h3⟩ := sum_ch h (fun s => (t.cell gi s).1) t.scores 0 0 dv_zero (by decide) (by decide)
  have hy : (t.yes gi : Nat) = 0 + (t.scores.map fun s => (t.cell gi s).1).sum := by
    unfold Krdf.Table.yes
    rw [sumN_eq, Nat.zero_add]
  rw [← hy] at h3
  have pY := natQ_pos hY
  unfold Krdh.right Krdh.sum
  refine ⟨h1.divN hY, ?_, ?_⟩
  · rw [Rat.div_def]
    exact Rat.mul_nonneg h2 (Rat.le_of_lt (Rat.inv_pos.mpr pY))
  · refine Rat.le_of_mul_le_mul_right (c := (t.yes gi : Rat)) ?_ pY
    rw [Rat.div_mul_cancel (Rat.ne_of_gt pY), Rat.one_mul]
    exact h3
theorem upper_ch {t : Krdf.Table} {gi : Nat} {x : Rat} (hY : 0 < t.yes gi) (hN : 0 < t.no gi) (hx : 0 ≤ x) : Ch (x.den * Lg t gi * t.yes gi) (Krdh.upper t gi x) := right_ch hY (most_ch hN hx)
theorem lower_ch {t : Krdf.Table} {gi : Nat} {x : Rat} (hY : 0 < t.yes gi) (hN : 0 < t.no gi) (hx : 0 ≤ x) : Ch (x.den * Lg t gi * t.yes gi) (Krdh.lower t gi x) := right_ch hY (fewest_ch hN hx)
theorem yes_lt {t : Krdf.Table} {gi : Nat} (ok : TOk t) : t.yes gi < 2 ^ 9 := by
  have h := sum_pos_le (soL t gi) ok.so
  rw [so_sum, soL_len] at h
  have := ok.k4
  omega
theorem no_lt {t : Krdf.Table} {gi : Nat} (ok : TOk t) : t.no gi < 2 ^ 9 := by
  have h := sum_pos_le (noL t gi) ok.no
  rw [no_sum, noL_len] at h
  have := ok.k4
  omega
/-- how many bits the most's and the fewest's y have more than x -/
theorem bound_sm {t : Krdf.Table} {gi n : Nat} {x r : Rat} (ok : TOk t) (hY : 0 < t.yes gi) (hx : x.den < 2 ^ n) (h : Ch (x.den * Lg t gi * t.yes gi) r) : Sm (n + 36) r := by
  refine dv_sm (Nat.mul_pos (Nat.mul_pos (Nat.pos_of_ne_zero x.den_nz) (Lg_pos t gi)) hY) h.dv h.ge h.le ?_
  have := pow_mul_lt (pow_mul_lt hx (Lg_lt (t := t) (gi := gi) ok)) (yes_lt (gi := gi) ok)
  rw [Nat.add_assoc] at this
  exact this
end My

namespace My
/-! ### chances for a point -/
theorem part_ch {D Dy : Nat} {l u y : Rat} (hD : 0 < D) (hDy : 0 < Dy) (hl : Ch D l) (hu : Ch D u) (hy : Dv Dy y) (h1 : l ≤ y) (h2 : y ≤ u) : ∃ E, 0 < E ∧ E ≤ Dy * D ∧ Ch E (if u = l then 0 else (y - l) / (u - l)) := by
  by_cases c : u = l
  · rw [if_pos c]
    exact ⟨1, Nat.one_pos, Nat.mul_pos hDy hD, ch_zero⟩
  · rw [if_neg c]
    obtain ⟨W, hW⟩ := hu.dv.sub hl.dv
    obtain ⟨Z, hZ⟩ := (hy.mono (Nat.dvd_mul_right Dy D)).sub (hl.dv.mono (Nat.dvd_mul_left D Dy))
    have pD := natQ_pos hD
    have pDy := natQ_pos hDy
    have hd : 0 < u - l := by grind
    have W0 : 0 < W := by
      have : (0 : Rat) < (W : Rat) := by rw [← hW]; exact Rat.mul_pos hd pD
      exact Rat.intCast_pos.mp this
    have W1 : W ≤ (D : Int) := by
      have h3 : (u - l) * (D : Rat) ≤ 1 * (D : Rat) := Rat.mul_le_mul_of_nonneg_right (by have := hu.le; have := hl.ge; grind) (Rat.le_of_lt pD)
      rw [hW, Rat.one_mul, ← natZ] at h3
      exact Rat.intCast_le_intCast.mp h3
    have hWn : ((W.toNat : Nat) : Int) = W := by omega
    refine ⟨Dy * W.toNat, Nat.mul_pos hDy (by omega), Nat.mul_le_mul_left _ (by omega), ⟨Z, ?_⟩, ?_, ?_⟩
    · have e : ((W.toNat : Nat) : Rat) = (u - l) * (D : Rat) := by rw [← natZ, hWn, hW]
      rw [Rat.natCast_mul, e, ← hZ, Rat.natCast_mul]
      have hne : u - l ≠ 0 := Rat.ne_of_gt hd
      grind
    · rw [Rat.div_def]
      exact Rat.mul_nonneg (by grind) (Rat.le_of_lt (Rat.inv_pos.mpr hd))
    · refine Rat.le_of_mul_le_mul_right (c := u - l) ?_ hd
      rw [Rat.div_mul_cancel (Rat.ne_of_gt hd), Rat.one_mul]
      grind
theorem mix_ch {E D : Nat} {k a b : Rat} (hk : Ch E k) (ha : Ch D a) (hb : Ch D b) : Ch (E * D) (k * a + (1 - k) * b) := by
  have h1 : 0 ≤ 1 - k := by have := hk.le; grind
  refine ⟨(hk.dv.mul ha.dv).add ((dv_one.sub hk.dv).mul hb.dv), Rat.add_nonneg (Rat.mul_nonneg hk.ge ha.ge) (Rat.mul_nonneg h1 hb.ge), ?_⟩
  have h2 := Rat.mul_le_mul_of_nonneg_left ha.le hk.ge
  have h3 := Rat.mul_le_mul_of_nonneg_left hb.le h1
  grind
theorem can_iff {t : Krdf.Table} {gi : Nat} {x y : Rat} : Krdh.can t gi x y = true ↔ Krdh.lower t gi x ≤ y ∧ y ≤ Krdh.upper t gi x := by
  unfold Krdh.can
  rw [Bool.and_eq_true, decide_eq_true_eq, decide_eq_true_eq]
theorem chancesFor_ch {t : Krdf.Table} {gi : Nat} {x y : Rat} (hY : 0 < t.yes gi) (hN : 0 < t.no gi) (hx : 0 ≤ x) (h : Krdh.can t gi x y = true) : ∃ E, 0 < E ∧ E ≤ y.den * (x.den * Lg t gi * t.yes gi) ∧ ∀ r ∈ Krdh.chancesFor t gi x y, Ch (E * (x.den * Lg t gi)) r := by
  obtain ⟨h1, h2⟩ := can_iff.mp h
  obtain ⟨E, e0, e1, e2⟩ := part_ch (Nat.mul_pos (Nat.mul_pos (Nat.pos_of_ne_zero x.den_nz) (Lg_pos t gi)) hY) (Nat.pos_of_ne_zero y.den_nz) (lower_ch hY hN hx) (upper_ch hY hN hx) (dv_self y) h1 h2
  refine ⟨E, e0, e1, fun r hr => ?_⟩
  unfold Krdh.chancesFor at hr
  obtain ⟨s, _, rfl⟩ := List.mem_map.mp hr
  exact mix_ch e2 (getD_ch (most_ch hN hx) s) (getD_ch (fewest_ch hN hx) s)
theorem chancesFor_length {t : Krdf.Table} {gi : Nat} {x y : Rat} : (Krdh.chancesFor t gi x y).length = t.k := by
  unfold Krdh.chancesFor
  simp [Krdf.Table.scores]
theorem chancesFor_sm {t : Krdf.Table} {gi n m : Nat} {x y : Rat} (ok : TOk t) (hY : 0 < t.yes gi) (hN : 0 < t.no gi) (hx : 0 ≤ x) (h : Krdh.can t gi x y = true) (hn : x.den < 2 ^ n) (hm : y.den < 2 ^ m) : ∀ r ∈ Krdh.chancesFor t gi x y, Sm (m + (n + 36) + (n + 27)) r := by
  obtain ⟨E, e0, e1, e2⟩ := chancesFor_ch hY hN hx h
  intro r hr
  have hc := e2 r hr
  refine dv_sm (Nat.mul_pos e0 (Nat.mul_pos (Nat.pos_of_ne_zero x.den_nz) (Lg_pos t gi))) hc.dv hc.ge hc.le ?_
  refine pow_mul_lt (Nat.lt_of_le_of_lt e1 (pow_mul_lt hm ?_)) (pow_mul_lt hn (Lg_lt ok))
  have := pow_mul_lt (pow_mul_lt hn (Lg_lt (t := t) (gi := gi) ok)) (yes_lt (gi := gi) ok)
  rw [Nat.add_assoc] at this
  exact this
/-! ### sorted lists of fractions -/
theorem insertRat_mem (x : Rat) : ∀ (l : List Rat) (z : Rat), z ∈ Krdh.insertRat x l ↔ z = x ∨ z ∈ l
  | [], z => by simp [Krdh.insertRat]
  | y :: l, z => by
    unfold Krdh.insertRat
    split
    · simp
    · split
      · rename_i h
        rw [h]
        simp
      · rw [List.mem_cons, insertRat_mem x l z, List.mem_cons]
        grind
theorem insertRat_sorted (x : Rat) : ∀ (l : List Rat), l.Pairwise (· < ·) → (Krdh.insertRat x l).Pairwise (· < ·)
  | [], _ => by simp [Krdh.insertRat]
  | y :: l, h => by
    obtain ⟨h1, h2⟩ := List.pairwise_cons.mp h
    unfold Krdh.insertRat
    split
    · rename_i c
      refine List.pairwise_cons.mpr ⟨fun z hz => ?_, h⟩
      rcases List.mem_cons.mp hz with e | e
      · rw [e]
        exact c
      · have := h1 z e
        grind
    · split
      · exact h
      · rename_i c1 c2
        refine List.pairwise_cons.mpr ⟨fun z hz => ?_, insertRat_sorted x l h2⟩
        rcases (insertRat_mem x l z).mp hz with e | e
        · rw [e]
          grind
        · exact h1 z e
theorem foldRat_mem : ∀ (xs l : List Rat) (z : Rat), z ∈ xs.foldl (fun l x => Krdh.insertRat x l) l ↔ z ∈ xs ∨ z ∈ l
  | [], l, z => by simp
  | x :: xs, l, z => by
    rw [List.foldl_cons, foldRat_mem xs, insertRat_mem, List.mem_cons]
    grind
theorem foldRat_sorted : ∀ (xs l : List Rat), l.Pairwise (· < ·) → (xs.foldl (fun l x => Krdh.insertRat x l) l).Pairwise (· < ·)
  | [], l, h => h
  | x :: xs, l, h => foldRat_sorted xs _ (insertRat_sorted x l h)
theorem marks_sorted (t : Krdf.Table) : (Krdh.marks t).Pairwise (· < ·) := foldRat_sorted _ [] List.Pairwise.nil
theorem marks_mem {t : Krdf.Table} {z : Rat} : z ∈ Krdh.marks t ↔ z ∈ Krdh.corners t 0 ∨ z ∈ Krdh.corners t 1 := by
  unfold Krdh.marks
  rw [foldRat_mem, List.mem_append]
  simp
theorem candidates_sorted (t : Krdf.Table) : (Krdh.candidates t).Pairwise (· < ·) := foldRat_sorted _ _ (marks_sorted t)
theorem candidates_mem {t : Krdf.Table} {z : Rat} : z ∈ Krdh.candidates t ↔ (∃ p ∈ List.zip (Krdh.marks t) (Krdh.marks t).tail, z ∈ Krdh.crossing t p.1 p.2) ∨ z ∈ Krdh.marks t := by
  unfold Krdh.candidates
  rw [foldRat_mem, List.mem_flatMap]
/-! ### corners: parts of those who turned out not so, score by score -/
theorem corners_fold {t : Krdf.Table} {g : Nat} : ∀ (l : List Nat) (n : Nat) (c : List Rat), (l.foldl (fun (a : Rat × List Rat) s => (a.1 + ((t.cell g s).2 : Rat) / (t.no g : Rat), a.2 ++ [a.1 + ((t.cell g s).2 : Rat) / (t.no g : Rat)])) ((n : Rat) / (t.no g : Rat), c)) =
    (((n + (l.map fun s => (t.cell g s).2).sum : Nat) : Rat) / (t.no g : Rat), c ++ ((List.range l.length).map fun i => ((n + ((l.take (i + 1)).map fun s => (t.cell g s).2).sum : Nat) : Rat) / (t.no g : Rat)))
  | [], n, c => by simp
  | s :: l, n, c => by
    rw [List.foldl_cons]
    have e : (n : Rat) / (t.no g : Rat) + ((t.cell g s).2 : Rat) / (t.no g : Rat) = ((n + (t.cell g s).2 : Nat) : Rat) / (t.no g : Rat) := by
      rw [Rat.natCast_add, Rat.div_def, Rat.div_def, Rat.div_def, Rat.add_mul]
    show l.foldl _ ((n : Rat) / (t.no g : Rat) + ((t.cell g s).2 : Rat) / (t.no g : Rat), c ++ [(n : Rat) / (t.no g : Rat) + ((t.cell g s).2 : Rat) / (t.no g : Rat)]) = _
    rw [e, corners_fold l (n + (t.cell g s).2) (c ++ [((n + (t.cell g s).2 : Nat) : Rat) / (t.no g : Rat)])]
    refine Prod.ext ?_ ?_
    · show _ = ((n + ((s :: l).map fun s => (t.cell g s).2).sum : Nat) : Rat) / _
      rw [List.map_cons, List.sum_cons, Nat.add_assoc]
    · show _ = c ++ ((List.range (l.length + 1)).map fun i => ((n + (((s :: l).take (i + 1)).map fun s => (t.cell g s).2).sum : Nat) : Rat) / (t.no g : Rat))
      rw [List.append_assoc, List.range_succ_eq_map, List.map_cons, List.map_map]
      show c ++ (((n + (t.cell g s).2 : Nat) : Rat) / (t.no g : Rat) :: _) = _
      refine congrArg (c ++ ·) ?_
      refine congr (congrArg List.cons ?_) ?_
      · show _ = ((n + (((s :: l).take 1).map fun s => (t.cell g s).2).sum : Nat) : Rat) / _
        simp
      · refine List.map_congr_left fun i _ => ?_
        show _ = ((n + (((s :: l).take (i + 1 + 1)).map fun s => (t.cell g s).2).sum : Nat) : Rat) / _
        rw [List.take_succ_cons, List.map_cons, List.sum_cons, Nat.add_assoc]
/-- the part up to the i-th score in order -/
def cornerN (t : Krdf.Table) (g i : Nat) : Nat := (((Krdh.ordered t g true).take i).map fun s => (t.cell g s).2).sum
theorem corners_is (t : Krdf.Table) (g : Nat) : Krdh.corners t g = (List.range ((Krdh.ordered t g true).length + 1)).map fun i => ((cornerN t g i : Nat) : Rat) / (t.no g : Rat) := by
  have e0 : (0 : Rat) = ((0 : Nat) : Rat) / (t.no g : Rat) := by
    rw [Rat.div_def]
    simp
  have h := corners_fold (t := t) (g := g) (Krdh.ordered t g true) 0 [0]
  unfold Krdh.corners
  rw [← e0] at h
  show ((Krdh.ordered t g true).foldl (fun (a : Rat × List Rat) s => (a.1 + ((t.cell g s).2 : Rat) / (t.no g : Rat), a.2 ++ [a.1 + ((t.cell g s).2 : Rat) / (t.no g : Rat)])) (0, [0])).2 = _
  rw [h, List.range_succ_eq_map, List.map_cons, List.map_map]
  show (0 : Rat) :: _ = _ :: _
  congr 1
  refine List.map_congr_left fun i _ => ?_
  show ((0 + cornerN t g (i + 1) : Nat) : Rat) / _ = _
  rw [Nat.zero_add]
  rfl
/-! ### the best of a list: worth most, of like ones the least x -/
def W (t : Krdf.Table) (u v : Nat) (x : Rat) : Rat := Krdh.worth t u v x (Krdh.least t x)
structure IsBest (t : Krdf.Table) (u v : Nat) (S : Rat → Prop) (x : Rat) : Prop where
  mem : S x
  most : ∀ z, S z → W t u v z ≤ W t u v x
  least : ∀ z, S z → W t u v z = W t u v x → x ≤ z
theorem IsBest.uniq {t : Krdf.Table} {u v : Nat} {S S' : Rat → Prop} {x y : Rat} (hx : IsBest t u v S x) (hy : IsBest t u v S' y) (h : ∀ z, S z ↔ S' z) : x = y := by
  have a := hx.most y ((h y).mpr hy.mem)
  have b := hy.most x ((h x).mp hx.mem)
  have e := Rat.le_antisymm a b
  exact Rat.le_antisymm (hx.least y ((h y).mpr hy.mem) e) (hy.least x ((h x).mp hx.mem) e.symm)
theorem best_fold {t : Krdf.Table} {u v : Nat} : ∀ (l : List Rat) (S : Rat → Prop) (b : Rat), l.Pairwise (· < ·) → IsBest t u v S b → (∀ z ∈ l, b ≤ z) →
    ∃ x, l.foldl (fun (b : Rat × Rat) x => if Krdh.worth t u v b.1 b.2 < Krdh.worth t u v x (Krdh.least t x) then (x, Krdh.least t x) else b) (b, Krdh.least t b) = (x, Krdh.least t x) ∧ IsBest t u v (fun z => S z ∨ z ∈ l) x
  | [], S, b, _, hb, _ => ⟨b, rfl, ⟨.inl hb.mem, fun z hz => hb.most z (hz.elim id fun h => absurd h List.not_mem_nil), fun z hz => hb.least z (hz.elim id fun h => absurd h List.not_mem_nil)⟩⟩
  | x :: l, S, b, hl, hb, hle => by
    obtain ⟨h1, h2⟩ := List.pairwise_cons.mp hl
    rw [List.foldl_cons]
    by_cases c : W t u v b < W t u v x
    · have e : (if Krdh.worth t u v (b, Krdh.least t b).1 (b, Krdh.least t b).2 < Krdh.worth t u v x (Krdh.least t x) then (x, Krdh.least t x) else (b, Krdh.least t b)) = (x, Krdh.least t x) := if_pos c
      rw [e]
      have hb' : IsBest t u v (fun z => S z ∨ z = x) x := ⟨.inr rfl, fun z hz => by
        rcases hz with h | h
        · have := hb.most z h
          grind
        · rw [h]
          exact Rat.le_refl, fun z hz e => by
        rcases hz with h | h
        · have := hb.most z h
          grind
        · rw [h]
          exact Rat.le_refl⟩
      obtain ⟨y, ey, hy⟩ := best_fold l _ x h2 hb' fun z hz => Rat.le_of_lt (h1 z hz)
      refine ⟨y, ey, ?_⟩
      have hS : ∀ z, ((S z ∨ z = x) ∨ z ∈ l) ↔ (S z ∨ z ∈ x :: l) := fun z => by rw [List.mem_cons, or_assoc]
      exact ⟨(hS y).mp hy.mem, fun z hz => hy.most z ((hS z).mpr hz), fun z hz => hy.least z ((hS z).mpr hz)⟩
    · have e : (if Krdh.worth t u v (b, Krdh.least t b).1 (b, Krdh.least t b).2 < Krdh.worth t u v x (Krdh.least t x) then (x, Krdh.least t x) else (b, Krdh.least t b)) = (b, Krdh.least t b) := if_neg c
      rw [e]
      have hb' : IsBest t u v (fun z => S z ∨ z = x) b := ⟨.inl hb.mem, fun z hz => by
        rcases hz with h | h
        · exact hb.most z h
        · rw [h]
          exact Rat.not_lt.mp c, fun z hz e => by
        rcases hz with h | h
        · exact hb.least z h e
        · rw [h]
          exact hle x (List.mem_cons_self ..)⟩
      obtain ⟨y, ey, hy⟩ := best_fold l _ b h2 hb' fun z hz => hle z (List.mem_cons_of_mem _ hz)
      refine ⟨y, ey, ?_⟩
      have hS : ∀ z, ((S z ∨ z = x) ∨ z ∈ l) ↔ (S z ∨ z ∈ x :: l) := fun z => by rw [List.mem_cons, or_assoc]
      exact ⟨(hS y).mp hy.mem, fun z hz => hy.most z ((hS z).mpr hz), fun z hz => hy.least z ((hS z).mpr hz)⟩
end My

namespace My
/-! ### the corners lie from 0 to 1 -/
theorem insert_sum (f : Nat → Nat → Bool) (h : Nat → Nat) (x : Nat) : ∀ l : List Nat, ((Krdh.insert f x l).map h).sum = h x + (l.map h).sum
  | [] => by simp [Krdh.insert]
  | y :: l => by
    unfold Krdh.insert
    split
    · simp
    · rw [List.map_cons, List.sum_cons, insert_sum f h x l, List.map_cons, List.sum_cons]
      omega
theorem sortBy_sum (f : Nat → Nat → Bool) (h : Nat → Nat) : ∀ (xs l : List Nat), ((xs.foldl (fun l s => Krdh.insert f s l) l).map h).sum = (xs.map h).sum + (l.map h).sum
  | [], l => by simp
  | x :: xs, l => by
    rw [List.foldl_cons, sortBy_sum f h xs, insert_sum, List.map_cons, List.sum_cons]
    omega
theorem filter_sum (p : Nat → Bool) (h : Nat → Nat) : ∀ (l : List Nat), (∀ s ∈ l, p s = false → h s = 0) → ((l.filter p).map h).sum = (l.map h).sum
  | [], _ => rfl
  | s :: l, hz => by
    have ih := filter_sum p h l fun s hs => hz s (List.mem_cons_of_mem _ hs)
    rw [List.map_cons, List.sum_cons]
    by_cases c : p s = true
    · rw [List.filter_cons_of_pos c, List.map_cons, List.sum_cons, ih]
    · rw [List.filter_cons_of_neg c, ih, hz s (List.mem_cons_self ..) (by simpa using c), Nat.zero_add]
theorem ordered_sum (t : Krdf.Table) (g : Nat) : ((Krdh.ordered t g true).map fun s => (t.cell g s).2).sum = t.no g := by
  have h := sortBy_sum (Krdh.before t g true) (fun s => (t.cell g s).2) (Krdh.some_ t g) []
  unfold Krdh.ordered
  rw [h]
  unfold Krdf.Table.no Krdh.some_
  rw [sumN_eq, filter_sum _ _ t.scores fun s _ hs => by
    have := of_decide_eq_false hs
    omega]
  simp
theorem take_sum (h : Nat → Nat) (l : List Nat) (i : Nat) : ((l.take i).map h).sum ≤ (l.map h).sum := by
  have e : l.take i ++ l.drop i = l := List.take_append_drop i l
  have : (l.map h).sum = ((l.take i).map h).sum + ((l.drop i).map h).sum := by
    conv => lhs; rw [← e]
    rw [List.map_append, List.sum_append]
  omega
theorem cornerN_le (t : Krdf.Table) (g i : Nat) : cornerN t g i ≤ t.no g := by
  rw [← ordered_sum t g]
  exact take_sum _ _ _
/-- from 0 to 1, with a lower number below 2 ^ n -/
structure In (n : Nat) (x : Rat) : Prop where
  ge : 0 ≤ x
  le : x ≤ 1
  den : x.den < 2 ^ n
theorem In.mono {n m : Nat} {x : Rat} (h : In n x) (hm : n ≤ m) : In m x := ⟨h.ge, h.le, Nat.lt_of_lt_of_le h.den (Nat.pow_le_pow_right (by decide) hm)⟩
theorem In.sm {n : Nat} {x : Rat} (h : In n x) : Sm n x := ⟨Nat.lt_of_le_of_lt (num_le_den h.ge h.le) h.den, h.den⟩
theorem frac_in {a b : Nat} (hb : 0 < b) (h : a ≤ b) {n : Nat} (hn : b < 2 ^ n) : In n ((a : Rat) / (b : Rat)) := by
  have pb := natQ_pos hb
  have ha : (0 : Rat) ≤ (a : Rat) := Rat.natCast_nonneg
  refine ⟨?_, ?_, Nat.lt_of_le_of_lt (dv_le hb ⟨a, by rw [natZ]; grind⟩) hn⟩
  · rw [Rat.div_def]
    exact Rat.mul_nonneg ha (Rat.le_of_lt (Rat.inv_pos.mpr pb))
  · refine Rat.le_of_mul_le_mul_right (c := (b : Rat)) ?_ pb
    rw [Rat.div_mul_cancel (Rat.ne_of_gt pb), Rat.one_mul]
    exact Rat.natCast_le_natCast.mpr h
theorem corners_in {t : Krdf.Table} {g : Nat} (ok : TOk t) (hN : 0 < t.no g) {x : Rat} (h : x ∈ Krdh.corners t g) : In 9 x := by
  rw [corners_is] at h
  obtain ⟨i, _, rfl⟩ := List.mem_map.mp h
  exact frac_in hN (cornerN_le t g i) (no_lt ok)
theorem corners_zero (t : Krdf.Table) (g : Nat) : (0 : Rat) ∈ Krdh.corners t g := by
  rw [corners_is]
  refine List.mem_map.mpr ⟨0, by simp, ?_⟩
  show ((0 : Nat) : Rat) / _ = 0
  rw [Rat.div_def]
  simp
structure Full (t : Krdf.Table) : Prop where
  ok : TOk t
  y0 : 0 < t.yes 0
  n0 : 0 < t.no 0
  y1 : 0 < t.yes 1
  n1 : 0 < t.no 1
theorem full_of {t : Krdf.Table} (ok : TOk t) (h : Krdh.full t = true) : Full t := ⟨ok, (full_pos h (gi := 0) (by decide)).1, (full_pos h (gi := 0) (by decide)).2, (full_pos h (gi := 1) (by decide)).1, (full_pos h (gi := 1) (by decide)).2⟩
theorem marks_in {t : Krdf.Table} (f : Full t) {x : Rat} (h : x ∈ Krdh.marks t) : In 9 x := by
  rcases marks_mem.mp h with q | q
  · exact corners_in f.ok f.n0 q
  · exact corners_in f.ok f.n1 q
/-! ### crossings -/
/-- how far the two mosts are apart -/
def gap (t : Krdf.Table) (x : Rat) : Rat := Krdh.upper t 0 x - Krdh.upper t 1 x
theorem crossing_is {t : Krdf.Table} {p q : Rat} : Krdh.crossing t p q = if gap t p * gap t q < 0 then [p + (q - p) * gap t p / (gap t p - gap t q)] else [] := rfl
/-- the share a by a - b of two numbers of unlike sign -/
theorem share_in {a b : Rat} (h : a * b < 0) : 0 < a / (a - b) ∧ a / (a - b) < 1 := by
  by_cases c : 0 < a
  · have hb : b < 0 := (Rat.mul_neg_iff_of_pos_left c).mp h
    have hd : 0 < a - b := by grind
    refine ⟨by rw [Rat.div_def]; exact Rat.mul_pos c (Rat.inv_pos.mpr hd), ?_⟩
    rw [Rat.div_lt_iff hd, Rat.one_mul]
    grind
  · have ha : a < 0 := by
      rcases Rat.le_iff_lt_or_eq.mp (Rat.not_lt.mp c) with z | z
      · exact z
      · rw [z] at h
        simp at h
    have hb : 0 < b := by
      have : (-a) * b > 0 := by grind
      exact (Rat.mul_pos_iff_of_pos_left (by grind)).mp this
    have hd : 0 < b - a := by grind
    have e : a / (a - b) = (-a) / (b - a) := by
      have : a - b ≠ 0 := by grind
      have : b - a ≠ 0 := by grind
      grind
    rw [e]
    refine ⟨by rw [Rat.div_def]; exact Rat.mul_pos (by grind) (Rat.inv_pos.mpr hd), ?_⟩
    rw [Rat.div_lt_iff hd, Rat.one_mul]
    grind
theorem crossing_between {t : Krdf.Table} {p q x : Rat} (h : p < q) (hx : x ∈ Krdh.crossing t p q) : p < x ∧ x < q := by
  rw [crossing_is] at hx
  split at hx
  · rename_i c
    have hx : x = p + (q - p) * gap t p / (gap t p - gap t q) := by simpa using hx
    obtain ⟨s0, s1⟩ := share_in c
    have e : (q - p) * gap t p / (gap t p - gap t q) = (q - p) * (gap t p / (gap t p - gap t q)) := by
      rw [Rat.div_def, Rat.div_def, Rat.mul_assoc]
    rw [e] at hx
    generalize gap t p / (gap t p - gap t q) = s at hx s0 s1
    have hd : 0 < q - p := by grind
    have h1 := Rat.mul_pos hd s0
    have h2 := Rat.mul_lt_mul_of_pos_left s1 hd
    rw [hx]
    grind
  · exact absurd hx List.not_mem_nil
theorem share_den {D E : Nat} {a b : Rat} (hD : 0 < D) (hE : 0 < E) (ha : Dv D a) (hb : Dv E b) (a1 : -1 ≤ a) (a2 : a ≤ 1) (b1 : -1 ≤ b) (b2 : b ≤ 1) (hne : a - b ≠ 0) : ∃ F, 0 < F ∧ F ≤ 2 * (D * E) ∧ Dv F (a / (a - b)) := by
  obtain ⟨A, hA⟩ := ha.mono (Nat.dvd_mul_right D E)
  obtain ⟨B, hB⟩ := hb.mono (Nat.dvd_mul_left E D)
  have pD := natQ_pos (Nat.mul_pos hD hE)
  have eAB : ((A - B : Int) : Rat) = (a - b) * ((D * E : Nat) : Rat) := by
    rw [Rat.intCast_sub, ← hA, ← hB]
    grind
  have ne : A - B ≠ 0 := fun z => by
    rw [z] at eAB
    have : (a - b) * ((D * E : Nat) : Rat) = 0 := by rw [← eAB]; rfl
    rcases Rat.mul_eq_zero.mp this with h | h
    · exact hne h
    · rw [h] at pD
      exact Rat.lt_irrefl pD
  have up : A - B ≤ 2 * ((D * E : Nat) : Int) := by
    have h3 : (a - b) * ((D * E : Nat) : Rat) ≤ 2 * ((D * E : Nat) : Rat) := Rat.mul_le_mul_of_nonneg_right (by grind) (Rat.le_of_lt pD)
    rw [← eAB, ← natZ] at h3
    have h4 : ((A - B : Int) : Rat) ≤ ((2 * ((D * E : Nat) : Int) : Int) : Rat) := by
      rw [Rat.intCast_mul]
      exact h3
    exact Rat.intCast_le_intCast.mp h4
  have lo : -(2 * ((D * E : Nat) : Int)) ≤ A - B := by
    have h3 : (-2) * ((D * E : Nat) : Rat) ≤ (a - b) * ((D * E : Nat) : Rat) := Rat.mul_le_mul_of_nonneg_right (by grind) (Rat.le_of_lt pD)
    rw [← eAB, ← natZ] at h3
    have h4 : (((-2) * ((D * E : Nat) : Int) : Int) : Rat) ≤ ((A - B : Int) : Rat) := by
      rw [Rat.intCast_mul]
      exact h3
    have := Rat.intCast_le_intCast.mp h4
    omega
  refine ⟨(A - B).natAbs, by omega, by omega, ?_⟩
  by_cases c : 0 < A - B
  · have e : (((A - B).natAbs : Nat) : Rat) = (a - b) * ((D * E : Nat) : Rat) := by
      rw [← natZ, show (((A - B).natAbs : Nat) : Int) = A - B by omega, eAB]
    exact ⟨A, by rw [e, ← hA]; grind⟩
  · have e : (((A - B).natAbs : Nat) : Rat) = -((a - b) * ((D * E : Nat) : Rat)) := by
      rw [← natZ, show (((A - B).natAbs : Nat) : Int) = -(A - B) by omega, Rat.intCast_neg, eAB]
    exact ⟨-A, by rw [e, Rat.intCast_neg, ← hA]; grind⟩
theorem gap_dv {t : Krdf.Table} (f : Full t) {x : Rat} (hx : 0 ≤ x) : Dv (x.den * (Lg t 0 * t.yes 0 * (Lg t 1 * t.yes 1))) (gap t x) ∧ -1 ≤ gap t x ∧ gap t x ≤ 1 := by
  have h0 := upper_ch f.y0 f.n0 hx
  have h1 := upper_ch f.y1 f.n1 hx
  refine ⟨(h0.dv.mono ?_).sub (h1.dv.mono ?_), ?_, ?_⟩
  · rw [Nat.mul_assoc x.den]
    exact Nat.mul_dvd_mul_left _ (Nat.dvd_mul_right _ _)
  · rw [Nat.mul_assoc x.den]
    exact Nat.mul_dvd_mul_left _ (Nat.dvd_mul_left _ _)
  · have := h0.ge
    have := h1.le
    unfold gap
    grind
  · have := h0.le
    have := h1.ge
    unfold gap
    grind
theorem crossing_in {t : Krdf.Table} (f : Full t) {p q x : Rat} (hp : In 9 p) (hq : In 9 q) (h : p < q) (hx : x ∈ Krdh.crossing t p q) : In 200 x := by
  have hb := crossing_between h hx
  refine ⟨Rat.le_of_lt (by have := hp.ge; grind), Rat.le_of_lt (by have := hq.le; grind), ?_⟩
  rw [crossing_is] at hx
  split at hx
  · rename_i c
    have hx : x = p + (q - p) * gap t p / (gap t p - gap t q) := by simpa using hx
    obtain ⟨g1, g2, g3⟩ := gap_dv f hp.ge
    obtain ⟨k1, k2, k3⟩ := gap_dv f hq.ge
    have hne : gap t p - gap t q ≠ 0 := fun z => by
      have e : gap t p = gap t q := by grind
      rw [e] at c
      by_cases c0 : 0 ≤ gap t q
      · have := Rat.mul_nonneg c0 c0
        grind
      · have : 0 ≤ (-gap t q) * (-gap t q) := Rat.mul_nonneg (by grind) (by grind)
        grind
    have cpos : 0 < Lg t 0 * t.yes 0 * (Lg t 1 * t.yes 1) := Nat.mul_pos (Nat.mul_pos (Lg_pos t 0) f.y0) (Nat.mul_pos (Lg_pos t 1) f.y1)
    have ppos : 0 < p.den := Nat.pos_of_ne_zero p.den_nz
    have qpos : 0 < q.den := Nat.pos_of_ne_zero q.den_nz
    obtain ⟨F, f0, f1, f2⟩ := share_den (Nat.mul_pos ppos cpos) (Nat.mul_pos qpos cpos) g1 k1 g2 g3 k2 k3 hne
    have e : x = p + (q - p) * (gap t p / (gap t p - gap t q)) := by
      rw [hx, Rat.div_def, Rat.div_def, Rat.mul_assoc]
    have hd : Dv (p.den * q.den * F) x := by
      rw [e]
      have d1 : Dv (p.den * q.den) p := (dv_self p).mono (Nat.dvd_mul_right _ _)
      have d2 : Dv (p.den * q.den) q := (dv_self q).mono (Nat.dvd_mul_left _ _)
      exact (d1.mono (Nat.dvd_mul_right _ _)).add ((d2.sub d1).mul f2)
    refine Nat.lt_of_le_of_lt (dv_le (Nat.mul_pos (Nat.mul_pos ppos qpos) f0) hd) ?_
    have hc : Lg t 0 * t.yes 0 * (Lg t 1 * t.yes 1) < 2 ^ 72 := pow_mul_lt (n := 36) (m := 36) (pow_mul_lt (n := 27) (m := 9) (Lg_lt f.ok) (yes_lt f.ok)) (pow_mul_lt (n := 27) (m := 9) (Lg_lt f.ok) (yes_lt f.ok))
    have hF : F < 2 ^ 163 := by
      have h1 := pow_mul_lt (n := 81) (m := 81) (pow_mul_lt (n := 9) (m := 72) hp.den hc) (pow_mul_lt (n := 9) (m := 72) hq.den hc)
      have e2 : (2 : Nat) ^ 163 = 2 * 2 ^ 162 := by decide
      rw [e2]
      have h1 : p.den * (Lg t 0 * t.yes 0 * (Lg t 1 * t.yes 1)) * (q.den * (Lg t 0 * t.yes 0 * (Lg t 1 * t.yes 1))) < 2 ^ 162 := h1
      omega
    exact Nat.lt_of_lt_of_le (pow_mul_lt (n := 18) (m := 163) (pow_mul_lt (n := 9) (m := 9) hp.den hq.den) hF) (Nat.pow_le_pow_right (by decide) (by decide))
  · exact absurd hx List.not_mem_nil
/-- neighbours of a sorted list -/
theorem zip_tail_lt : ∀ {l : List Rat} {p : Rat × Rat}, l.Pairwise (· < ·) → p ∈ List.zip l l.tail → p.1 < p.2 ∧ p.1 ∈ l ∧ p.2 ∈ l
  | [], p, _, h => absurd h List.not_mem_nil
  | [a], p, _, h => absurd h List.not_mem_nil
  | a :: b :: l, p, hl, h => by
    obtain ⟨h1, h2⟩ := List.pairwise_cons.mp hl
    rcases List.mem_cons.mp (show p ∈ (a, b) :: List.zip (b :: l) (b :: l).tail from h) with e | e
    · rw [e]
      exact ⟨h1 b (List.mem_cons_self ..), List.mem_cons_self .., List.mem_cons_of_mem _ (List.mem_cons_self ..)⟩
    · obtain ⟨q1, q2, q3⟩ := zip_tail_lt h2 e
      exact ⟨q1, List.mem_cons_of_mem _ q2, List.mem_cons_of_mem _ q3⟩
theorem candidates_in {t : Krdf.Table} (f : Full t) {x : Rat} (h : x ∈ Krdh.candidates t) : In 200 x := by
  rcases candidates_mem.mp h with ⟨p, hp, hx⟩ | h
  · obtain ⟨q1, q2, q3⟩ := zip_tail_lt (marks_sorted t) hp
    exact crossing_in f (marks_in f q2) (marks_in f q3) q1 hx
  · exact (marks_in f h).mono (by decide)
theorem candidates_zero (t : Krdf.Table) : (0 : Rat) ∈ Krdh.candidates t := candidates_mem.mpr (.inr (marks_mem.mpr (.inl (corners_zero t 0))))
/-- the specification's best is the best of its candidates -/
theorem best_is {t : Krdf.Table} (f : Full t) (u v : Nat) : ∃ x, Krdh.best t u v = (x, Krdh.least t x) ∧ IsBest t u v (fun z => z ∈ Krdh.candidates t) x := by
  obtain ⟨x, e, h⟩ := best_fold (t := t) (u := u) (v := v) (Krdh.candidates t) (fun z => z = 0) 0 (candidates_sorted t) ⟨rfl, fun z hz => by rw [hz]; exact Rat.le_refl, fun z hz _ => by rw [hz]; exact Rat.le_refl⟩ fun z hz => (candidates_in f hz).ge
  refine ⟨x, e, ?_⟩
  have hS : ∀ z, (z = 0 ∨ z ∈ Krdh.candidates t) ↔ z ∈ Krdh.candidates t := fun z => ⟨fun q => q.elim (fun q => by rw [q]; exact candidates_zero t) id, .inr⟩
  exact ⟨(hS x).mp h.mem, fun z hz => h.most z ((hS z).mpr hz), fun z hz => h.least z ((hS z).mpr hz)⟩
end My

namespace My
/-! ### x and x can always be reached -/
section
variable {R : Nat → Nat → Prop} {P : Nat → Prop} {f : Nat → Nat → Bool}
theorem insert_pw (h1 : ∀ a b, f a b = true → R a b) (h2 : ∀ a b, f a b = false → R b a) (tr : ∀ a b c, P b → R a b → R b c → R a c) (x : Nat) : ∀ l : List Nat, (∀ z ∈ l, P z) → l.Pairwise R → (Krdh.insert f x l).Pairwise R
  | [], _, _ => by simp [Krdh.insert]
  | y :: l, hP, h => by
    obtain ⟨a, b⟩ := List.pairwise_cons.mp h
    unfold Krdh.insert
    split
    · rename_i c
      refine List.pairwise_cons.mpr ⟨fun z hz => ?_, h⟩
      rcases List.mem_cons.mp hz with e | e
      · rw [e]
        exact h1 x y c
      · exact tr x y z (hP y (List.mem_cons_self ..)) (h1 x y c) (a z e)
    · rename_i c
      refine List.pairwise_cons.mpr ⟨fun z hz => ?_, insert_pw h1 h2 tr x l (fun z hz => hP z (List.mem_cons_of_mem _ hz)) b⟩
      rcases insert_mem f x l z hz with e | e
      · rw [e]
        exact h2 x y (by simpa using c)
      · exact a z e
theorem sort_pw (h1 : ∀ a b, f a b = true → R a b) (h2 : ∀ a b, f a b = false → R b a) (tr : ∀ a b c, P b → R a b → R b c → R a c) : ∀ (xs l : List Nat), (∀ z ∈ xs, P z) → (∀ z ∈ l, P z) → l.Pairwise R → (xs.foldl (fun l s => Krdh.insert f s l) l).Pairwise R
  | [], l, _, _, h => h
  | x :: xs, l, hx, hl, h => sort_pw h1 h2 tr xs _ (fun z hz => hx z (List.mem_cons_of_mem _ hz)) (fun z hz => (insert_mem f x l z hz).elim (fun e => by rw [e]; exact hx x (List.mem_cons_self ..)) (hl z)) (insert_pw h1 h2 tr x l hl h)
theorem insert_nodup {x : Nat} : ∀ l : List Nat, x ∉ l → l.Nodup → (Krdh.insert f x l).Nodup
  | [], _, _ => by simp [Krdh.insert]
  | y :: l, hx, h => by
    obtain ⟨a, b⟩ := List.nodup_cons.mp h
    unfold Krdh.insert
    split
    · exact List.nodup_cons.mpr ⟨hx, h⟩
    · refine List.nodup_cons.mpr ⟨fun z => ?_, insert_nodup l (fun z => hx (List.mem_cons_of_mem _ z)) b⟩
      rcases insert_mem f x l y z with e | e
      · exact hx (by rw [← e]; exact List.mem_cons_self ..)
      · exact a e
theorem sort_nodup : ∀ (xs l : List Nat), xs.Nodup → l.Nodup → (∀ z ∈ xs, z ∉ l) → (xs.foldl (fun l s => Krdh.insert f s l) l).Nodup
  | [], l, _, h, _ => h
  | x :: xs, l, hx, h, hd => by
    obtain ⟨a, b⟩ := List.nodup_cons.mp hx
    refine sort_nodup xs _ b (insert_nodup l (hd x (List.mem_cons_self ..)) h) fun z hz hm => ?_
    rcases insert_mem f x l z hm with e | e
    · exact a (by rw [← e]; exact hz)
    · exact hd z (List.mem_cons_of_mem _ hz) e
end
section
variable {t : Krdf.Table} {g : Nat}
def yA (t : Krdf.Table) (g s : Nat) : Rat := ((t.cell g s).1 : Rat)
def wA (t : Krdf.Table) (g s : Nat) : Rat := ((t.cell g s).2 : Rat) / (t.no g : Rat)
theorem yA_ge (s : Nat) : 0 ≤ yA t g s := Rat.natCast_nonneg
theorem wA_ge (hN : 0 < t.no g) (s : Nat) : 0 ≤ wA t g s := by
  have hn : (0 : Rat) ≤ ((t.cell g s).2 : Rat) := Rat.natCast_nonneg
  unfold wA
  rw [Rat.div_def]
  exact Rat.mul_nonneg hn (Rat.le_of_lt (Rat.inv_pos.mpr (natQ_pos hN)))
/-- what filling along a list chooses of those who turned out so -/
def gain (t : Krdf.Table) (g : Nat) : List Nat → Rat → Rat
  | [], _ => 0
  | s :: l, x => if wA t g s = 0 then yA t g s + gain t g l x else if wA t g s ≤ x then yA t g s + gain t g l (x - wA t g s) else x / wA t g s * yA t g s + gain t g l 0
def sumA (f : Nat → Rat) : List Nat → Rat
  | [] => 0
  | s :: l => f s + sumA f l
theorem sumA_ge {f : Nat → Rat} (h : ∀ s, 0 ≤ f s) : ∀ l, 0 ≤ sumA f l
  | [] => by simp [sumA]
  | s :: l => Rat.add_nonneg (h s) (sumA_ge h l)
theorem gain_ge (hN : 0 < t.no g) : ∀ (l : List Nat) (x : Rat), 0 ≤ x → 0 ≤ gain t g l x
  | [], _, _ => by simp [gain]
  | s :: l, x, hx => by
    have hy := yA_ge (t := t) (g := g) s
    have hw := wA_ge hN s
    unfold gain
    split
    · exact Rat.add_nonneg hy (gain_ge hN l x hx)
    · split
      · exact Rat.add_nonneg hy (gain_ge hN l _ (by grind))
      · refine Rat.add_nonneg (Rat.mul_nonneg ?_ hy) (gain_ge hN l 0 (by simp))
        rw [Rat.div_def]
        exact Rat.mul_nonneg hx (Rat.le_of_lt (Rat.inv_pos.mpr (by grind)))
theorem ratio_sum {f h : Nat → Rat} {a b : Rat} : ∀ l : List Nat, (∀ s ∈ l, f s * a ≤ b * h s) → sumA f l * a ≤ b * sumA h l
  | [], _ => by simp [sumA]
  | s :: l, q => by
    have h1 := q s (List.mem_cons_self ..)
    have h2 := ratio_sum l fun s hs => q s (List.mem_cons_of_mem _ hs)
    unfold sumA
    grind
theorem arith0 {x n u F y : Rat} (hx : x ≤ n) (hy : 0 ≤ y) (ih : x * u ≤ n * F) : x * (y + u) ≤ n * (y + F) := by
  have := Rat.mul_le_mul_of_nonneg_right hx hy
  grind
theorem arithA {x n u F y w : Rat} (hw : 0 < w) (hx : w ≤ x) (hn : x - w ≤ n) (ih : (x - w) * u ≤ n * F) (R : u * w ≤ y * n) (hF : 0 ≤ F) (hy : 0 ≤ y) (hu : 0 ≤ u) : x * (y + u) ≤ (w + n) * (y + F) := by
  have h0 : 0 ≤ n := by grind
  have key : w * u ≤ w * F + (n - (x - w)) * y := by
    rcases Rat.le_iff_lt_or_eq.mp h0 with c | c
    · refine Rat.le_of_mul_le_mul_left (c := n) ?_ c
      have p1 : 0 ≤ w * (n * F - (x - w) * u) := Rat.mul_nonneg (Rat.le_of_lt hw) (by grind)
      have p2 : 0 ≤ (n - (x - w)) * (y * n - u * w) := Rat.mul_nonneg (by grind) (by grind)
      grind
    · subst c
      have hxw : x = w := by grind
      have hz : u * w ≤ 0 := by grind
      have hu0 : u * w = 0 := Rat.le_antisymm hz (Rat.mul_nonneg hu (Rat.le_of_lt hw))
      have := Rat.mul_nonneg (Rat.le_of_lt hw) hF
      grind
  grind
theorem arithB {x n u F y w : Rat} (hw : 0 < w) (h0 : 0 ≤ x) (R : u * w ≤ y * n) (hF : 0 ≤ F) (hn : 0 ≤ n) : x * (y + u) ≤ (w + n) * (x / w * y + F) := by
  have hs : 0 ≤ x / w := by
    rw [Rat.div_def]
    exact Rat.mul_nonneg h0 (Rat.le_of_lt (Rat.inv_pos.mpr hw))
  have e : x = x / w * w := (Rat.div_mul_cancel (Rat.ne_of_gt hw)).symm
  have p1 := Rat.mul_le_mul_of_nonneg_left R hs
  have p2 : 0 ≤ (w + n) * F := Rat.mul_nonneg (by grind) hF
  generalize x / w = s at *
  subst e
  grind
/-- the most first: what is chosen is no less than its share -/
theorem gain_most (hN : 0 < t.no g) : ∀ (l : List Nat) (x : Rat), l.Pairwise (fun a b => yA t g b * wA t g a ≤ yA t g a * wA t g b) → 0 ≤ x → x ≤ sumA (wA t g) l → x * sumA (yA t g) l ≤ sumA (wA t g) l * gain t g l x
  | [], x, _, _, _ => by simp [sumA, gain]
  | s :: l, x, h, h0, h1 => by
    obtain ⟨a, b⟩ := List.pairwise_cons.mp h
    have hR := ratio_sum (f := yA t g) (h := wA t g) (a := wA t g s) (b := yA t g s) l a
    have hy := yA_ge (t := t) (g := g) s
    have hw := wA_ge hN s
    have hn := sumA_ge (wA_ge (t := t) hN) l
    have hu := sumA_ge (yA_ge (t := t) (g := g)) l
    have h1 : x ≤ wA t g s + sumA (wA t g) l := h1
    show x * (yA t g s + sumA (yA t g) l) ≤ (wA t g s + sumA (wA t g) l) * gain t g (s :: l) x
    unfold gain
    by_cases c0 : wA t g s = 0
    · rw [if_pos c0, c0, Rat.zero_add]
      rw [c0, Rat.zero_add] at h1
      exact arith0 h1 hy (gain_most hN l x b h0 h1)
    · have hw0 : 0 < wA t g s := by grind
      rw [if_neg c0]
      by_cases c1 : wA t g s ≤ x
      · rw [if_pos c1]
        exact arithA hw0 c1 (by grind) (gain_most hN l _ b (by grind) (by grind)) hR (gain_ge hN l _ (by grind)) hy hu
      · rw [if_neg c1]
        exact arithB hw0 h0 hR (gain_ge hN l 0 (by simp)) hn
theorem brithA {x n u F y w : Rat} (hw : 0 < w) (hx : w ≤ x) (hn : x - w ≤ n) (ih : n * F ≤ (x - w) * u) (R : y * n ≤ u * w) (hF : 0 ≤ F) (hFz : n = 0 → F = 0) (hy : 0 ≤ y) (hu : 0 ≤ u) : (w + n) * (y + F) ≤ x * (y + u) := by
  have h0 : 0 ≤ n := by grind
  have key : w * F + (n - (x - w)) * y ≤ w * u := by
    rcases Rat.le_iff_lt_or_eq.mp h0 with c | c
    · refine Rat.le_of_mul_le_mul_left (c := n) ?_ c
      have p1 : 0 ≤ w * ((x - w) * u - n * F) := Rat.mul_nonneg (Rat.le_of_lt hw) (by grind)
      have p2 : 0 ≤ (n - (x - w)) * (u * w - y * n) := Rat.mul_nonneg (by grind) (by grind)
      grind
    · have hF0 := hFz c.symm
      subst c
      have hxw : x = w := by grind
      have := Rat.mul_nonneg (Rat.le_of_lt hw) hu
      rw [hF0]
      grind
  grind
theorem brithB {x n u y w : Rat} (hw : 0 < w) (h0 : 0 ≤ x) (R : y * n ≤ u * w) : (w + n) * (x / w * y + 0) ≤ x * (y + u) := by
  have hs : 0 ≤ x / w := by
    rw [Rat.div_def]
    exact Rat.mul_nonneg h0 (Rat.le_of_lt (Rat.inv_pos.mpr hw))
  have e : x = x / w * w := (Rat.div_mul_cancel (Rat.ne_of_gt hw)).symm
  have p1 := Rat.mul_le_mul_of_nonneg_left R hs
  generalize x / w = s at *
  subst e
  grind
theorem gain_zero : ∀ l : List Nat, (∀ s ∈ l, 0 < wA t g s) → gain t g l 0 = 0
  | [], _ => rfl
  | s :: l, h => by
    have hs := h s (List.mem_cons_self ..)
    unfold gain
    rw [if_neg (Rat.ne_of_gt hs), if_neg (Rat.not_le.mpr hs), gain_zero l fun s hs => h s (List.mem_cons_of_mem _ hs), Rat.div_def, Rat.zero_mul, Rat.zero_mul, Rat.add_zero]
theorem ratio_sum' {f h : Nat → Rat} {a b : Rat} : ∀ l : List Nat, (∀ s ∈ l, b * h s ≤ f s * a) → b * sumA h l ≤ sumA f l * a
  | [], _ => by simp [sumA]
  | s :: l, q => by
    have h1 := q s (List.mem_cons_self ..)
    have h2 := ratio_sum' l fun s hs => q s (List.mem_cons_of_mem _ hs)
    unfold sumA
    grind
theorem sumA_pos {f : Nat → Rat} : ∀ l : List Nat, (∀ s ∈ l, 0 < f s) → sumA f l = 0 → l = []
  | [], _, _ => rfl
  | s :: l, h, e => by
    have h1 := h s (List.mem_cons_self ..)
    have h2 : 0 ≤ sumA f l := by
      have : ∀ l : List Nat, (∀ s ∈ l, 0 < f s) → 0 ≤ sumA f l := fun l => by
        induction l with
        | nil => intro _; simp [sumA]
        | cons a r ih => intro q; exact Rat.add_nonneg (Rat.le_of_lt (q a (List.mem_cons_self ..))) (ih fun s hs => q s (List.mem_cons_of_mem _ hs))
      exact this l fun s hs => h s (List.mem_cons_of_mem _ hs)
    unfold sumA at e
    grind
/-- the fewest first: no more -/
theorem gain_fewest (hN : 0 < t.no g) : ∀ (l : List Nat) (x : Rat), l.Pairwise (fun a b => yA t g a * wA t g b ≤ yA t g b * wA t g a) → (∀ s ∈ l, 0 < wA t g s) → 0 ≤ x → x ≤ sumA (wA t g) l → sumA (wA t g) l * gain t g l x ≤ x * sumA (yA t g) l
  | [], x, _, _, _, _ => by simp [sumA, gain]
  | s :: l, x, h, hp, h0, h1 => by
    obtain ⟨a, b⟩ := List.pairwise_cons.mp h
    have hp' : ∀ s ∈ l, 0 < wA t g s := fun s hs => hp s (List.mem_cons_of_mem _ hs)
    have hR := ratio_sum' (f := yA t g) (h := wA t g) (a := wA t g s) (b := yA t g s) l a
    have hy := yA_ge (t := t) (g := g) s
    have hw0 := hp s (List.mem_cons_self ..)
    have hu := sumA_ge (yA_ge (t := t) (g := g)) l
    have h1 : x ≤ wA t g s + sumA (wA t g) l := h1
    show (wA t g s + sumA (wA t g) l) * gain t g (s :: l) x ≤ x * (yA t g s + sumA (yA t g) l)
    unfold gain
    rw [if_neg (Rat.ne_of_gt hw0)]
    by_cases c1 : wA t g s ≤ x
    · rw [if_pos c1]
      refine brithA hw0 c1 (by grind) (gain_fewest hN l _ b hp' (by grind) (by grind)) hR (gain_ge hN l _ (by grind)) (fun z => ?_) hy hu
      rw [sumA_pos l hp' z]
      rfl
    · rw [if_neg c1, gain_zero l hp']
      exact brithB hw0 h0 hR
/-! ### what filling chooses, in all -/
def yesSum (t : Krdf.Table) (g : Nat) (c : List Rat) : Rat := Krdh.sum (t.scores.map fun s => c.getD s 0 * ((t.cell g s).1 : Rat))
theorem fold_shift : ∀ (l : List Rat) (a d : Rat), l.foldl (· + ·) (a + d) = l.foldl (· + ·) a + d
  | [], a, d => rfl
  | x :: l, a, d => by
    rw [List.foldl_cons, List.foldl_cons, ← fold_shift l (a + x) d]
    congr 1
    grind
theorem fold_change {f f' : Nat → Rat} {s : Nat} (h : ∀ i, i ≠ s → f' i = f i) : ∀ (l : List Nat) (a : Rat), l.Nodup → s ∈ l → (l.map f').foldl (· + ·) a = (l.map f).foldl (· + ·) a + (f' s - f s)
  | [], _, _, hm => absurd hm List.not_mem_nil
  | i :: l, a, hd, hm => by
    obtain ⟨h1, h2⟩ := List.nodup_cons.mp hd
    rw [List.map_cons, List.map_cons, List.foldl_cons, List.foldl_cons]
    by_cases e : i = s
    · subst e
      have hl : l.map f' = l.map f := List.map_congr_left fun j hj => h j fun z => h1 (by rw [← z]; exact hj)
      rw [hl, ← fold_shift]
      congr 1
      grind
    · rw [h i e]
      exact fold_change h l _ h2 ((List.mem_cons.mp hm).resolve_left fun z => e z.symm)
theorem yesSum_set {c : List Rat} {s : Nat} {r : Rat} (hl : c.length = t.k) (hs : s < t.k) (h0 : c.getD s 0 = 0) : yesSum t g (c.set s r) = yesSum t g c + r * yA t g s := by
  unfold yesSum Krdh.sum
  have hs' : s < c.length := by omega
  rw [fold_change (f := fun i => c.getD i 0 * ((t.cell g i).1 : Rat)) (s := s) (fun i hi => by rw [getD_set hs', if_neg (Ne.symm hi)]) t.scores 0 (List.nodup_range) (by simpa [Krdf.Table.scores] using hs)]
  rw [getD_set hs', if_pos rfl, h0]
  unfold yA
  grind
theorem fill_gain : ∀ (l : List Nat) (x : Rat) (c : List Rat), l.Nodup → (∀ s ∈ l, s < t.k ∧ c.getD s 0 = 0) → c.length = t.k → yesSum t g (Krdh.fill t g true l x c) = yesSum t g c + gain t g l x
  | [], x, c, _, _, _ => by
    show yesSum t g c = yesSum t g c + 0
    rw [Rat.add_zero]
  | s :: l, x, c, hd, hc, hl => by
    obtain ⟨h1, h2⟩ := List.nodup_cons.mp hd
    obtain ⟨hs, h0⟩ := hc s (List.mem_cons_self ..)
    have next : ∀ r, (∀ i ∈ l, i < t.k ∧ (c.set s r).getD i 0 = 0) := fun r i hi => by
      have := hc i (List.mem_cons_of_mem _ hi)
      refine ⟨this.1, ?_⟩
      rw [getD_set (by omega), if_neg fun z => h1 (by rw [z]; exact hi)]
      exact this.2
    have step : ∀ r y, yesSum t g (Krdh.fill t g true l y (c.set s r)) = yesSum t g c + (r * yA t g s + gain t g l y) := fun r y => by
      rw [fill_gain l y (c.set s r) h2 (next r) (by rw [List.length_set]; exact hl), yesSum_set hl hs h0]
      grind
    have e : Krdh.fill t g true (s :: l) x c = (if wA t g s = 0 then Krdh.fill t g true l x (c.set s 1) else if wA t g s ≤ x then Krdh.fill t g true l (x - wA t g s) (c.set s 1) else Krdh.fill t g true l 0 (c.set s (x / wA t g s))) := rfl
    rw [e]
    unfold gain
    split
    · rw [step, Rat.one_mul]
    · split
      · rw [step, Rat.one_mul]
      · rw [step]
theorem yesSum_none : yesSum t g (Krdh.none_ t) = 0 := by
  have z : ∀ l : List Nat, (l.map fun s => (Krdh.none_ t).getD s 0 * ((t.cell g s).1 : Rat)).foldl (· + ·) 0 = 0 := fun l => by
    induction l with
    | nil => rfl
    | cons a r ih =>
      rw [List.map_cons, List.foldl_cons, none_rep, rep0, Rat.zero_mul, Rat.add_zero, ← none_rep]
      exact ih
  exact z _
where
  rep0 {n i : Nat} : (List.replicate n (0 : Rat)).getD i 0 = 0 := by
    rw [List.getD_eq_getElem?_getD, List.getElem?_replicate]
    split <;> rfl
theorem sumA_nat (f : Nat → Nat) : ∀ l : List Nat, sumA (fun s => ((f s : Nat) : Rat)) l = ((l.map f).sum : Nat)
  | [] => rfl
  | s :: l => by
    show ((f s : Nat) : Rat) + sumA _ l = _
    rw [sumA_nat f l, List.map_cons, List.sum_cons, Rat.natCast_add]
theorem sumA_wA : ∀ l : List Nat, sumA (wA t g) l = (((l.map fun s => (t.cell g s).2).sum : Nat) : Rat) / (t.no g : Rat)
  | [] => by
    show (0 : Rat) = ((0 : Nat) : Rat) / _
    rw [Rat.div_def]
    simp
  | s :: l => by
    show wA t g s + sumA (wA t g) l = _
    rw [sumA_wA l, List.map_cons, List.sum_cons, Rat.natCast_add]
    unfold wA
    rw [Rat.div_def, Rat.div_def, Rat.div_def, Rat.add_mul]
theorem div_self' {n : Nat} (h : 0 < n) : ((n : Nat) : Rat) / (n : Rat) = 1 := by
  have := natQ_pos h
  grind
theorem rel_rat (hN : 0 < t.no g) {a b : Nat} (h : (t.cell g b).1 * (t.cell g a).2 ≤ (t.cell g a).1 * (t.cell g b).2) : yA t g b * wA t g a ≤ yA t g a * wA t g b := by
  have h1 : (((t.cell g b).1 * (t.cell g a).2 : Nat) : Rat) ≤ (((t.cell g a).1 * (t.cell g b).2 : Nat) : Rat) := Rat.natCast_le_natCast.mpr h
  rw [Rat.natCast_mul, Rat.natCast_mul] at h1
  have h2 := Rat.mul_le_mul_of_nonneg_right h1 (Rat.le_of_lt (Rat.inv_pos.mpr (natQ_pos hN)))
  unfold yA wA
  rw [Rat.div_def, Rat.div_def]
  grind
theorem mul_tr {ya na yb nb yc nc : Nat} (hb : 0 < yb + nb) (h1 : yb * na ≤ ya * nb) (h2 : yc * nb ≤ yb * nc) : yc * na ≤ ya * nc := by
  rcases Nat.eq_zero_or_pos nb with h | h
  · subst h
    have hy : 0 < yb := by omega
    have : yb * na = 0 := by omega
    rcases Nat.mul_eq_zero.mp this with z | z
    · omega
    · rw [z]
      exact Nat.zero_le _
  · refine Nat.le_of_mul_le_mul_right (c := nb) ?_ h
    calc yc * na * nb = (yc * nb) * na := by rw [Nat.mul_right_comm]
      _ ≤ (yb * nc) * na := Nat.mul_le_mul_right _ h2
      _ = (yb * na) * nc := by rw [Nat.mul_right_comm]
      _ ≤ (ya * nb) * nc := Nat.mul_le_mul_right _ h1
      _ = ya * nc * nb := by rw [Nat.mul_right_comm]
theorem some_nodup : (Krdh.some_ t g).Nodup := List.Pairwise.filter _ List.nodup_range
theorem withNo_nodup : (withNo t g).Nodup := List.Pairwise.filter _ List.nodup_range
theorem ordered_nodup : (Krdh.ordered t g true).Nodup := sort_nodup _ [] some_nodup List.nodup_nil fun _ _ h => absurd h List.not_mem_nil
theorem none_getD {s : Nat} : (Krdh.none_ t).getD s 0 = 0 := by
  rw [none_rep, List.getD_eq_getElem?_getD, List.getElem?_replicate]
  split <;> rfl
theorem ordered_pw : (Krdh.ordered t g true).Pairwise fun a b => (t.cell g b).1 * (t.cell g a).2 ≤ (t.cell g a).1 * (t.cell g b).2 := by
  refine sort_pw (R := fun a b => (t.cell g b).1 * (t.cell g a).2 ≤ (t.cell g a).1 * (t.cell g b).2) (P := fun s => 0 < (t.cell g s).1 + (t.cell g s).2) (f := Krdh.before t g true) (fun a b h => ?_) (fun a b h => ?_) (fun a b c hb h1 h2 => mul_tr (yb := (t.cell g b).1) (nb := (t.cell g b).2) hb h1 h2) (Krdh.some_ t g) [] (fun z hz => ?_) (fun z hz => absurd hz List.not_mem_nil) List.Pairwise.nil
  · have : decide ((t.cell g b).1 * (t.cell g a).2 < (t.cell g a).1 * (t.cell g b).2) = true := h
    have := of_decide_eq_true this
    omega
  · have : decide ((t.cell g b).1 * (t.cell g a).2 < (t.cell g a).1 * (t.cell g b).2) = false := h
    have := of_decide_eq_false this
    omega
  · simpa using (List.mem_filter.mp hz).2
theorem upper_ge (hY : 0 < t.yes g) (hN : 0 < t.no g) {x : Rat} (h0 : 0 ≤ x) (h1 : x ≤ 1) : x ≤ Krdh.upper t g x := by
  have hw : sumA (wA t g) (Krdh.ordered t g true) = 1 := by rw [sumA_wA, ordered_sum, div_self' hN]
  have hy : sumA (yA t g) (Krdh.ordered t g true) = (t.yes g : Rat) := by
    have := sumA_nat (fun s => (t.cell g s).1) (Krdh.ordered t g true)
    show sumA (fun s => (((t.cell g s).1 : Nat) : Rat)) _ = _
    rw [this]
    congr 1
    have h := sortBy_sum (Krdh.before t g true) (fun s => (t.cell g s).1) (Krdh.some_ t g) []
    unfold Krdh.ordered
    rw [h]
    unfold Krdf.Table.yes Krdh.some_
    rw [sumN_eq, filter_sum _ _ t.scores fun s _ hs => by
      have := of_decide_eq_false hs
      omega]
    simp
  have k := gain_most hN (Krdh.ordered t g true) x (ordered_pw.imp fun h => rel_rat hN h) h0 (by rw [hw]; exact h1)
  rw [hw, hy, Rat.one_mul] at k
  have f := fill_gain (t := t) (g := g) (Krdh.ordered t g true) x (Krdh.none_ t) ordered_nodup (fun s hs => ⟨some_lt (sortBy_sub hs), none_getD⟩) (none_length t)
  rw [yesSum_none, Rat.zero_add] at f
  have pY := natQ_pos hY
  show x ≤ yesSum t g (Krdh.most t g x) / (t.yes g : Rat)
  refine Rat.le_of_mul_le_mul_right (c := (t.yes g : Rat)) ?_ pY
  rw [Rat.div_mul_cancel (Rat.ne_of_gt pY)]
  show _ ≤ yesSum t g (Krdh.fill t g true (Krdh.ordered t g true) x (Krdh.none_ t))
  rw [f]
  exact k
theorem lower_le (hY : 0 < t.yes g) (hN : 0 < t.no g) {x : Rat} (h0 : 0 ≤ x) (h1 : x ≤ 1) : Krdh.lower t g x ≤ x := by
  have hsub : ∀ s ∈ sortBy (Krdh.before t g false) (withNo t g), 0 < (t.cell g s).2 := fun s hs => by simpa using (List.mem_filter.mp (sortBy_sub hs)).2
  have hw : sumA (wA t g) (sortBy (Krdh.before t g false) (withNo t g)) = 1 := by
    rw [sumA_wA]
    have h := sortBy_sum (Krdh.before t g false) (fun s => (t.cell g s).2) (withNo t g) []
    unfold sortBy
    rw [h]
    unfold withNo
    rw [filter_sum _ _ t.scores fun s _ hs => by
      have := of_decide_eq_false hs
      omega]
    have e : (t.scores.map fun s => (t.cell g s).2).sum + (([] : List Nat).map fun s => (t.cell g s).2).sum = t.no g := by
      unfold Krdf.Table.no
      rw [sumN_eq]
      simp
    rw [e, div_self' hN]
  have hy : sumA (yA t g) (sortBy (Krdh.before t g false) (withNo t g)) ≤ (t.yes g : Rat) := by
    have := sumA_nat (fun s => (t.cell g s).1) (sortBy (Krdh.before t g false) (withNo t g))
    show sumA (fun s => (((t.cell g s).1 : Nat) : Rat)) _ ≤ _
    rw [this]
    refine Rat.natCast_le_natCast.mpr ?_
    have h := sortBy_sum (Krdh.before t g false) (fun s => (t.cell g s).1) (withNo t g) []
    unfold sortBy
    rw [h]
    unfold Krdf.Table.yes withNo
    rw [sumN_eq]
    have := filter_le (fun s => decide (0 < (t.cell g s).2)) (fun s => (t.cell g s).1) t.scores
    simpa using this
  have pw : (sortBy (Krdh.before t g false) (withNo t g)).Pairwise fun a b => (t.cell g a).1 * (t.cell g b).2 ≤ (t.cell g b).1 * (t.cell g a).2 := by
    refine sort_pw (R := fun a b => (t.cell g a).1 * (t.cell g b).2 ≤ (t.cell g b).1 * (t.cell g a).2) (P := fun s => 0 < (t.cell g s).1 + (t.cell g s).2) (f := Krdh.before t g false) (fun a b h => ?_) (fun a b h => ?_) (fun a b c hb h1 h2 => ?_) (withNo t g) [] (fun z hz => ?_) (fun z hz => absurd hz List.not_mem_nil) List.Pairwise.nil
    · have : decide ((t.cell g a).1 * (t.cell g b).2 < (t.cell g b).1 * (t.cell g a).2) = true := h
      have := of_decide_eq_true this
      omega
    · have : decide ((t.cell g a).1 * (t.cell g b).2 < (t.cell g b).1 * (t.cell g a).2) = false := h
      have := of_decide_eq_false this
      omega
    · exact mul_tr (yb := (t.cell g b).1) (nb := (t.cell g b).2) hb h2 h1
    · have : 0 < (t.cell g z).2 := by simpa using (List.mem_filter.mp hz).2
      omega
  have wpos : ∀ s ∈ sortBy (Krdh.before t g false) (withNo t g), 0 < wA t g s := fun s hs => by
    unfold wA
    rw [Rat.div_def]
    exact Rat.mul_pos (natQ_pos (hsub s hs)) (Rat.inv_pos.mpr (natQ_pos hN))
  have k := gain_fewest hN _ x (pw.imp fun h => rel_rat hN h) wpos h0 (by rw [hw]; exact h1)
  rw [hw, Rat.one_mul] at k
  have f := fill_gain (t := t) (g := g) (sortBy (Krdh.before t g false) (withNo t g)) x (Krdh.none_ t) (sort_nodup _ [] withNo_nodup List.nodup_nil fun _ _ h => absurd h List.not_mem_nil) (fun s hs => ⟨withNo_lt (sortBy_sub hs), none_getD⟩) (none_length t)
  rw [yesSum_none, Rat.zero_add] at f
  have pY := natQ_pos hY
  show yesSum t g (Krdh.fewest t g x) / (t.yes g : Rat) ≤ x
  refine Rat.le_of_mul_le_mul_right (c := (t.yes g : Rat)) ?_ pY
  rw [Rat.div_mul_cancel (Rat.ne_of_gt pY), ← fewest_is hN, f]
  have := Rat.mul_le_mul_of_nonneg_left hy h0
  grind
where
  filter_le (p : Nat → Bool) (h : Nat → Nat) : ∀ (l : List Nat), ((l.filter p).map h).sum ≤ (l.map h).sum
    | [] => Nat.le_refl _
    | s :: l => by
      have ih := filter_le p h l
      by_cases c : p s = true
      · rw [List.filter_cons_of_pos c, List.map_cons, List.sum_cons, List.map_cons, List.sum_cons]
        omega
      · rw [List.filter_cons_of_neg c, List.map_cons, List.sum_cons]
        omega
/-- the lesser of both mosts can be reached in both groups -/
theorem least_can {t : Krdf.Table} (f : Full t) {x : Rat} (h0 : 0 ≤ x) (h1 : x ≤ 1) : Krdh.can t 0 x (Krdh.least t x) = true ∧ Krdh.can t 1 x (Krdh.least t x) = true := by
  have a := upper_ge f.y0 f.n0 h0 h1
  have b := upper_ge f.y1 f.n1 h0 h1
  have c := lower_le f.y0 f.n0 h0 h1
  have d := lower_le f.y1 f.n1 h0 h1
  have e : Krdh.least t x = if Krdh.upper t 0 x ≤ Krdh.upper t 1 x then Krdh.upper t 0 x else Krdh.upper t 1 x := rfl
  rw [can_iff, can_iff, e]
  split <;> grind
end
end My

namespace My
/-! ### fractions in order, like ones kept -/
def insR (x : Rat) : List Rat → List Rat
  | [] => [x]
  | y :: l => if x < y then x :: y :: l else y :: insR x l
def sortR (xs : List Rat) : List Rat := xs.foldl (fun l x => insR x l) []
theorem insR_at (x : Rat) : ∀ (l : List Rat) (i : Nat), i ≤ l.length → (∀ j y, j < i → l[j]? = some y → ¬ x < y) → (∀ y, l[i]? = some y → x < y) → insR x l = l.take i ++ [x] ++ l.drop i
  | [], 0, _, _, _ => rfl
  | [], i + 1, h, _, _ => by simp at h
  | y :: l, 0, _, _, h => by
    unfold insR
    rw [if_pos (h y rfl)]
    rfl
  | y :: l, i + 1, hi, hb, h => by
    have ih := insR_at x l i (by simpa using hi) (fun j z hj e => hb (j + 1) z (by omega) (by simpa using e)) (fun z e => h z (by simpa using e))
    unfold insR
    rw [if_neg (hb 0 y (by omega) rfl), ih]
    rfl
theorem insR_mem (x : Rat) : ∀ (l : List Rat) (z : Rat), z ∈ insR x l ↔ z = x ∨ z ∈ l
  | [], z => by simp [insR]
  | y :: l, z => by
    unfold insR
    split
    · simp
    · rw [List.mem_cons, insR_mem x l z, List.mem_cons]
      grind
theorem insR_length (x : Rat) : ∀ l : List Rat, (insR x l).length = l.length + 1
  | [] => rfl
  | y :: l => by
    unfold insR
    split
    · rfl
    · rw [List.length_cons, insR_length x l, List.length_cons]
theorem insR_sorted (x : Rat) : ∀ (l : List Rat), l.Pairwise (· ≤ ·) → (insR x l).Pairwise (· ≤ ·)
  | [], _ => by simp [insR]
  | y :: l, h => by
    obtain ⟨h1, h2⟩ := List.pairwise_cons.mp h
    unfold insR
    split
    · rename_i c
      refine List.pairwise_cons.mpr ⟨fun z hz => ?_, h⟩
      rcases List.mem_cons.mp hz with e | e
      · rw [e]
        exact Rat.le_of_lt c
      · have := h1 z e
        grind
    · rename_i c
      refine List.pairwise_cons.mpr ⟨fun z hz => ?_, insR_sorted x l h2⟩
      rcases (insR_mem x l z).mp hz with e | e
      · rw [e]
        exact Rat.not_lt.mp c
      · exact h1 z e
theorem foldR_mem : ∀ (xs l : List Rat) (z : Rat), z ∈ xs.foldl (fun l x => insR x l) l ↔ z ∈ xs ∨ z ∈ l
  | [], l, z => by simp
  | x :: xs, l, z => by
    rw [List.foldl_cons, foldR_mem xs, insR_mem, List.mem_cons]
    grind
theorem foldR_sorted : ∀ (xs l : List Rat), l.Pairwise (· ≤ ·) → (xs.foldl (fun l x => insR x l) l).Pairwise (· ≤ ·)
  | [], l, h => h
  | x :: xs, l, h => foldR_sorted xs _ (insR_sorted x l h)
theorem foldR_length : ∀ (xs l : List Rat), (xs.foldl (fun l x => insR x l) l).length = l.length + xs.length
  | [], l => by simp
  | x :: xs, l => by
    rw [List.foldl_cons, foldR_length xs, insR_length, List.length_cons]
    omega
theorem sortR_mem {xs : List Rat} {z : Rat} : z ∈ sortR xs ↔ z ∈ xs := by
  unfold sortR
  rw [foldR_mem]
  simp
theorem sortR_sorted (xs : List Rat) : (sortR xs).Pairwise (· ≤ ·) := foldR_sorted xs [] List.Pairwise.nil
theorem sortR_length (xs : List Rat) : (sortR xs).length = xs.length := by
  have := foldR_length xs []
  simpa [sortR] using this
theorem sortR_more {xs : List Rat} {i : Nat} {x : Rat} (h : xs[i]? = some x) : sortR (xs.take (i + 1)) = insR x (sortR (xs.take i)) := by
  unfold sortR
  rw [take_more h, List.foldl_append]
  rfl
/-! ### neighbours -/
theorem adj_iff : ∀ {l : List Rat} {p q : Rat}, l.Pairwise (· ≤ ·) → p < q → ((p, q) ∈ List.zip l l.tail ↔ p ∈ l ∧ q ∈ l ∧ ∀ z ∈ l, z ≤ p ∨ q ≤ z)
  | [], p, q, _, _ => by simp
  | [a], p, q, _, h => by
    simp only [List.tail_cons, List.zip_nil_right, List.not_mem_nil, List.mem_singleton, false_iff]
    rintro ⟨rfl, rfl, _⟩
    grind
  | a :: b :: l, p, q, hs, h => by
    obtain ⟨h1, h2⟩ := List.pairwise_cons.mp hs
    obtain ⟨h3, h4⟩ := List.pairwise_cons.mp h2
    have ih := adj_iff (l := b :: l) h2 h
    have hz : List.zip (a :: b :: l) (a :: b :: l).tail = (a, b) :: List.zip (b :: l) (b :: l).tail := rfl
    rw [hz, List.mem_cons, ih]
    constructor
    · rintro (e | ⟨e1, e2, e3⟩)
      · obtain ⟨rfl, rfl⟩ := Prod.mk.inj e
        refine ⟨List.mem_cons_self .., List.mem_cons_of_mem _ (List.mem_cons_self ..), fun z hz => ?_⟩
        rcases List.mem_cons.mp hz with e | e
        · left
          rw [e]
          exact Rat.le_refl
        · right
          rcases List.mem_cons.mp e with e | e
          · rw [e]
            exact Rat.le_refl
          · exact h3 z e
      · refine ⟨List.mem_cons_of_mem _ e1, List.mem_cons_of_mem _ e2, fun z hz => ?_⟩
        rcases List.mem_cons.mp hz with e | e
        · left
          rw [e]
          exact h1 p e1
        · exact e3 z e
    · rintro ⟨e1, e2, e3⟩
      have hq : q ∈ b :: l := by
        rcases List.mem_cons.mp e2 with e | e
        · exfalso
          rcases List.mem_cons.mp e1 with e' | e'
          · grind
          · have := h1 p e'
            grind
        · exact e
      by_cases hp : p ∈ b :: l
      · exact .inr ⟨hp, hq, fun z hz => e3 z (List.mem_cons_of_mem _ hz)⟩
      · have pa : p = a := by
          rcases List.mem_cons.mp e1 with e | e
          · exact e
          · exact absurd e hp
        left
        have hb := e3 b (List.mem_cons_of_mem _ (List.mem_cons_self ..))
        have ab := h1 b (List.mem_cons_self ..)
        have bq : b ≤ q := by
          rcases List.mem_cons.mp hq with e | e
          · rw [e]
            exact Rat.le_refl
          · exact h3 q e
        rcases hb with hb | hb
        · exfalso
          refine hp ?_
          have : p = b := by grind
          rw [this]
          exact List.mem_cons_self ..
        · rw [pa]
          congr 1
          grind
theorem zip_tail_le : ∀ {l : List Rat} {p : Rat × Rat}, l.Pairwise (· ≤ ·) → p ∈ List.zip l l.tail → p.1 ≤ p.2 ∧ p.1 ∈ l ∧ p.2 ∈ l
  | [], _, _, h => by simp at h
  | [a], _, _, h => by simp at h
  | a :: b :: l, p, hs, h => by
    obtain ⟨h1, h2⟩ := List.pairwise_cons.mp hs
    have hz : List.zip (a :: b :: l) (a :: b :: l).tail = (a, b) :: List.zip (b :: l) (b :: l).tail := rfl
    rw [hz] at h
    rcases List.mem_cons.mp h with e | e
    · rw [e]
      exact ⟨h1 b (List.mem_cons_self ..), List.mem_cons_self .., List.mem_cons_of_mem _ (List.mem_cons_self ..)⟩
    · obtain ⟨i1, i2, i3⟩ := zip_tail_le h2 e
      exact ⟨i1, List.mem_cons_of_mem _ i2, List.mem_cons_of_mem _ i3⟩
theorem mem_zip_tail : ∀ {l : List Rat} {z : Rat}, z ∈ l.tail → ∃ p ∈ List.zip l l.tail, p.2 = z
  | [], _, h => by simp at h
  | [a], _, h => by simp at h
  | a :: b :: l, z, h => by
    have hz : List.zip (a :: b :: l) (a :: b :: l).tail = (a, b) :: List.zip (b :: l) (b :: l).tail := rfl
    rw [hz]
    rcases List.mem_cons.mp (show z ∈ b :: l from h) with e | e
    · exact ⟨(a, b), List.mem_cons_self .., e.symm⟩
    · obtain ⟨p, hp, e'⟩ := mem_zip_tail (l := b :: l) e
      exact ⟨p, List.mem_cons_of_mem _ hp, e'⟩
/-! ### every x at which the lesser most may turn -/
theorem crossing_self {t : Krdf.Table} {p : Rat} : Krdh.crossing t p p = [] := by
  rw [crossing_is, if_neg]
  have : 0 ≤ gap t p * gap t p := by
    by_cases h : 0 ≤ gap t p
    · exact Rat.mul_nonneg h h
    · have := Rat.mul_nonneg (show 0 ≤ -gap t p by grind) (show 0 ≤ -gap t p by grind)
      grind
  exact Rat.not_lt.mpr this
theorem crossing_len {t : Krdf.Table} {p q : Rat} : (Krdh.crossing t p q).length ≤ 1 := by
  rw [crossing_is]
  split
  · exact Nat.le_refl _
  · exact Nat.zero_le _
def stepL (t : Krdf.Table) (p : Rat × Rat) : List Rat := Krdh.crossing t p.1 p.2 ++ [p.2]
def srt (t : Krdf.Table) : List Rat := sortR (Krdh.corners t 0 ++ Krdh.corners t 1)
def turns (t : Krdf.Table) : List Rat := (srt t).headD 0 :: (List.zip (srt t) (srt t).tail).flatMap (stepL t)
theorem srt_sorted (t : Krdf.Table) : (srt t).Pairwise (· ≤ ·) := sortR_sorted _
theorem srt_mem {t : Krdf.Table} {z : Rat} : z ∈ srt t ↔ z ∈ Krdh.marks t := by
  unfold srt
  rw [sortR_mem, marks_mem, List.mem_append]
theorem srt_ne (t : Krdf.Table) : srt t ≠ [] := fun h => by
  have := srt_mem.mpr (marks_mem.mpr (.inl (corners_zero t 0)))
  rw [h] at this
  exact absurd this List.not_mem_nil
theorem marks_le (t : Krdf.Table) : (Krdh.marks t).Pairwise (· ≤ ·) := (marks_sorted t).imp fun h => Rat.le_of_lt h
theorem turns_mem {t : Krdf.Table} {z : Rat} : z ∈ turns t ↔ z ∈ Krdh.candidates t := by
  have hS : ∀ w, w ∈ srt t ↔ w ∈ Krdh.marks t := fun w => srt_mem
  have hhead : (srt t).headD 0 ∈ srt t := by
    cases e : srt t with
    | nil => exact absurd e (srt_ne t)
    | cons a r => exact List.mem_cons_self ..
  have adj : ∀ p q, p < q → ((p, q) ∈ List.zip (srt t) (srt t).tail ↔ (p, q) ∈ List.zip (Krdh.marks t) (Krdh.marks t).tail) := fun p q h => by
    rw [adj_iff (srt_sorted t) h, adj_iff (marks_le t) h, hS, hS]
    refine and_congr_right fun _ => and_congr_right fun _ => ⟨fun f z hz => f z ((hS z).mpr hz), fun f z hz => f z ((hS z).mp hz)⟩
  rw [candidates_mem]
  unfold turns
  rw [List.mem_cons, List.mem_flatMap]
  constructor
  · rintro (e | ⟨p, hp, hz⟩)
    · rw [e]
      exact .inr ((hS _).mp hhead)
    · obtain ⟨h1, h2, h3⟩ := zip_tail_le (srt_sorted t) hp
      rcases List.mem_append.mp hz with hz | hz
      · by_cases c : p.1 = p.2
        · rw [c, crossing_self] at hz
          exact absurd hz List.not_mem_nil
        · have hlt : p.1 < p.2 := by grind
          exact .inl ⟨p, (adj p.1 p.2 hlt).mp hp, hz⟩
      · have : z = p.2 := by simpa using hz
        rw [this]
        exact .inr ((hS _).mp h3)
  · rintro (⟨p, hp, hz⟩ | hz)
    · have hlt := (zip_tail_lt (marks_sorted t) hp).1
      exact .inr ⟨p, (adj p.1 p.2 hlt).mpr hp, List.mem_append_left _ hz⟩
    · have hz := (hS z).mpr hz
      cases e : srt t with
      | nil => exact absurd e (srt_ne t)
      | cons a r =>
        rw [e] at hz
        rcases List.mem_cons.mp hz with q | q
        · exact .inl q
        · obtain ⟨p, hp, e'⟩ := mem_zip_tail (l := a :: r) q
          exact .inr ⟨p, hp, List.mem_append_right _ (by rw [e']; exact List.mem_singleton.mpr rfl)⟩
theorem steps_sorted (t : Krdf.Table) : ∀ (r : List Rat) (a : Rat), (a :: r).Pairwise (· ≤ ·) → (a :: (List.zip (a :: r) r).flatMap (stepL t)).Pairwise (· ≤ ·)
  | [], a, _ => by simp
  | b :: r, a, h => by
    obtain ⟨h1, h2⟩ := List.pairwise_cons.mp h
    have ih := steps_sorted t r b h2
    have ab := h1 b (List.mem_cons_self ..)
    have e : (List.zip (a :: b :: r) (b :: r)).flatMap (stepL t) = Krdh.crossing t a b ++ (b :: (List.zip (b :: r) r).flatMap (stepL t)) := by
      rw [List.zip_cons_cons, List.flatMap_cons]
      unfold stepL
      rw [List.append_assoc]
      rfl
    have hb : ∀ z ∈ b :: (List.zip (b :: r) r).flatMap (stepL t), b ≤ z := fun z hz => by
      rcases List.mem_cons.mp hz with q | q
      · rw [q]
        exact Rat.le_refl
      · exact (List.pairwise_cons.mp ih).1 z q
    have hc : ∀ z ∈ Krdh.crossing t a b, a ≤ z ∧ z ≤ b := fun z hz => by
      by_cases c : a = b
      · rw [c, crossing_self] at hz
        exact absurd hz List.not_mem_nil
      · have := crossing_between (t := t) (p := a) (q := b) (by grind) hz
        exact ⟨Rat.le_of_lt this.1, Rat.le_of_lt this.2⟩
    rw [e]
    refine List.pairwise_cons.mpr ⟨fun z hz => ?_, List.pairwise_append.mpr ⟨?_, ih, fun x hx y hy => ?_⟩⟩
    · rcases List.mem_append.mp hz with q | q
      · exact (hc z q).1
      · have := hb z q
        grind
    · have hl := crossing_len (t := t) (p := a) (q := b)
      match hk : Krdh.crossing t a b, hl with
      | [], _ => exact List.Pairwise.nil
      | [c], _ => simp
      | _ :: _ :: _, hl => simp at hl
    · have := (hc x hx).2
      have := hb y hy
      grind
theorem turns_sorted (t : Krdf.Table) : (turns t).Pairwise (· ≤ ·) := by
  unfold turns
  have h := srt_sorted t
  cases e : srt t with
  | nil => exact absurd e (srt_ne t)
  | cons a r =>
    rw [e] at h
    exact steps_sorted t r a h
/-! ### the best, x by x -/
theorem best_first {t : Krdf.Table} {u v : Nat} {L : List Rat} {z : Rat} (h : L[0]? = some z) : IsBest t u v (fun w => w ∈ L.take 1) z := by
  have e : L.take 1 = [z] := by
    rw [take_more h]
    rfl
  have hm : ∀ w, w ∈ L.take 1 → w = z := fun w hw => by
    rw [e] at hw
    simpa using hw
  exact ⟨by rw [e]; exact List.mem_singleton.mpr rfl, fun w hw => by rw [hm w hw]; exact Rat.le_refl, fun w hw _ => by rw [hm w hw]; exact Rat.le_refl⟩
theorem best_new {t : Krdf.Table} {u v i : Nat} {L : List Rat} {z b : Rat} (hz : L[i]? = some z) (hb : IsBest t u v (fun w => w ∈ L.take i) b) (c : W t u v b < W t u v z) : IsBest t u v (fun w => w ∈ L.take (i + 1)) z := by
  have e := take_more hz
  have hm : ∀ w, w ∈ L.take (i + 1) → w ∈ L.take i ∨ w = z := fun w hw => by
    rw [e, List.mem_append] at hw
    simpa using hw
  refine ⟨by rw [e]; exact List.mem_append_right _ (List.mem_singleton.mpr rfl), fun w hw => ?_, fun w hw q => ?_⟩
  · rcases hm w hw with h | h
    · have := hb.most w h
      grind
    · rw [h]
      exact Rat.le_refl
  · rcases hm w hw with h | h
    · have := hb.most w h
      grind
    · rw [h]
      exact Rat.le_refl
theorem best_old {t : Krdf.Table} {u v i : Nat} {L : List Rat} {z b : Rat} (hs : L.Pairwise (· ≤ ·)) (hz : L[i]? = some z) (hb : IsBest t u v (fun w => w ∈ L.take i) b) (c : ¬ W t u v b < W t u v z) : IsBest t u v (fun w => w ∈ L.take (i + 1)) b := by
  have e := take_more hz
  have hm : ∀ w, w ∈ L.take (i + 1) → w ∈ L.take i ∨ w = z := fun w hw => by
    rw [e, List.mem_append] at hw
    simpa using hw
  have hle : b ≤ z := by
    obtain ⟨hl, ez⟩ := List.getElem?_eq_some_iff.mp hz
    obtain ⟨j, hj, ej⟩ := List.mem_iff_getElem.mp hb.mem
    have hj' : j < i := by
      rw [List.length_take] at hj
      omega
    have := List.pairwise_iff_getElem.mp hs j i (by omega) hl hj'
    rw [List.getElem_take] at ej
    rw [ej, ez] at this
    exact this
  refine ⟨by rw [e]; exact List.mem_append_left _ hb.mem, fun w hw => ?_, fun w hw q => ?_⟩
  · rcases hm w hw with h | h
    · exact hb.most w h
    · rw [h]
      exact Rat.not_lt.mp c
  · rcases hm w hw with h | h
    · exact hb.least w h q
    · rw [h]
      exact hle
theorem best_end {t : Krdf.Table} (f : Full t) {u v : Nat} {x : Rat} (h : IsBest t u v (fun w => w ∈ turns t) x) : Krdh.best t u v = (x, Krdh.least t x) := by
  obtain ⟨y, e, hy⟩ := best_is f u v
  have : x = y := h.uniq hy fun z => turns_mem
  rw [e, this]
theorem turns_in {t : Krdf.Table} (f : Full t) {x : Rat} (h : x ∈ turns t) : In 200 x := candidates_in f (turns_mem.mp h)
theorem srt_in {t : Krdf.Table} (f : Full t) {x : Rat} (h : x ∈ srt t) : In 9 x := marks_in f (srt_mem.mp h)
theorem ordered_len {t : Krdf.Table} {g : Nat} (ok : TOk t) : (Krdh.ordered t g true).length ≤ 4 := by
  unfold Krdh.ordered
  rw [sortBy_len, List.length_nil, Nat.zero_add]
  refine Nat.le_trans (List.length_filter_le _ _) ?_
  have := ok.k4
  simp [Krdf.Table.scores]
  omega
theorem corners_len {t : Krdf.Table} {g : Nat} (ok : TOk t) : (Krdh.corners t g).length ≤ 5 := by
  rw [corners_is, List.length_map, List.length_range]
  have := ordered_len (g := g) ok
  omega
theorem srt_len {t : Krdf.Table} (ok : TOk t) : (srt t).length ≤ 10 := by
  unfold srt
  rw [sortR_length, List.length_append]
  have := corners_len (g := 0) ok
  have := corners_len (g := 1) ok
  omega
theorem steps_len {t : Krdf.Table} : ∀ l : List (Rat × Rat), (l.flatMap (stepL t)).length ≤ 2 * l.length
  | [] => by simp
  | p :: l => by
    rw [List.flatMap_cons, List.length_append, List.length_cons]
    have h1 := steps_len (t := t) l
    have h2 := crossing_len (t := t) (p := p.1) (q := p.2)
    unfold stepL
    rw [List.length_append, List.length_singleton]
    show _ + 1 + (l.flatMap (stepL t)).length ≤ _
    omega
end My

namespace My
open PySem PySem.Spec PyProof.Rows L2
/-! ### xs.extend(t), t a tuple -/
theorem list_extend_tup (l : Addr) (items : Array Value) (n : Nat) (b : Addr) (items2 : Array Value) (hs1 : items.size ≤ sizeLine) (hs2 : items.size + items2.size ≤ sizeLine) :
    Meets (Builtin.«list.extend» ⟨[.ref l, .ref b], []⟩) (fun _ R s => s.heap.get? l = some { cls := .type "list", data := .seq items n } ∧ s.heap.IsTuple b items2 ∧ R (.ok (.ret Value.none)) { s with heap := s.heap.update l (Obj.mapSeq fun x => x ++ items2) }) := by
  intro prog w A R s h
  obtain ⟨hl, ⟨o, ho, hc, n2, hd⟩, h⟩ := h
  show wpAny _ A.in1 (Builtin.List.listExtendWith (.ref l) (.ref b) .none) _ _ s
  unfold Builtin.List.listExtendWith
  refine wpAny_bind (wpAny_typeOf ⟨o, ho, hc⟩ ?_)
  have h1 : (Builtin.List.listSameRef (.ref l) (.ref b) || Value.type "tuple" == Value.type "list" || Value.type "tuple" == Value.type "tuple") = true := by simp
  simp only [h1, if_true]
  refine wpAny_bind ?_
  unfold Builtin.List.listItems
  refine wpAny_bind (wpAny_seqItems ho hd (wpAny_pure ?_))
  refine wpAny_bind ?_
  refine wpAny_bind (wpAny_seqItems hl rfl (wpAny_pure ?_))
  have hlong : ¬ (!items.isEmpty && Builtin.List.listTooLong (items.size + items2.size)) = true := by
    rw [L2.notLongL hs2, Bool.and_false]
    exact Bool.false_ne_true
  rw [if_neg hlong]
  show wpAny _ A.in1 (updateSeq l (· ++ items2) >>= fun _ => ret .none) _ _ s
  refine wpAny_bind (wpAny_updateSeq hl rfl ?_)
  exact wpAny_pure h
section
variable {X : Cx}
def rExtendT (K : PySem.W.Frag) : V → List V → Hp → VK → Prop := fun x vs H Q => ∃ l b xs zs, x = .ref l ∧ vs = [.ref b] ∧ H l = some (.lst xs) ∧ SqT K H b zs ∧ xs.length + zs.length ≤ sizeLine ∧ Q .non (upd H l (.lst (xs ++ zs)))
theorem mt_extendT : MtM X "list.extend" (rExtendT X.K) := by
  intro pins s σ H x vs v us Q I rx rv h
  obtain ⟨l, b, xs, zs, rfl, rfl, hH, hB, hz, q⟩ := h
  cases rx
  obtain ⟨u, rfl, ru⟩ := rv.one
  cases ru
  obtain ⟨z, its, n, r, hl, e⟩ := I.lstM hH
  obtain ⟨its2, r2, p2, z2⟩ := I.tuple hB
  have hl2 := r2.length
  have hsz : its.toArray.size + its2.toArray.size ≤ sizeLine := by rw [List.size_toArray, List.size_toArray]; omega
  refine call_meets F.slot_list_extend ⟨_, e, rfl⟩ F.entry_list_extend (F.args_list_extend_2 _ _)
    (list_extend_tup l its.toArray n b its2.toArray (by omega) hsz) ⟨e, p2, ?_⟩
  refine ⟨.non, _, I.lset (its' := its ++ its2) hH e (by simp) (r.append r2) ?_, rfl, q⟩
  rw [List.length_append]
  omega
end
end My

namespace My
open PySem PySem.Spec PyProof.Rows L2 LamX NdefX
/-! ### the table in the heap -/
def tF (k : Nat) (aG : Addr) : List (Str × V) := [("scores", .int k), ("groups", .ref aG)]
theorem tF_scores {k : Nat} {aG : Addr} : (tF k aG).lookup ("scores" : Str) = some (.int k) := by rfl
theorem tF_groups {k : Nat} {aG : Addr} : (tF k aG).lookup ("groups" : Str) = some (.ref aG) := by rfl
theorem tF_put {k k' : Nat} {aG a' : Addr} : putF "groups" (.ref a') (putF "scores" (.int k') (tF k aG)) = tF k' a' := by rfl
theorem tF_new {aG : Addr} : putF "groups" (.ref aG) (putF "scores" (.int 0) []) = tF 0 aG := by rfl
/-- what is always so of a desk -/
structure DOk (d : Krdh.Desk) : Prop where
  t : TOk d.t
  k1 : 1 ≤ d.t.k
  c2 : d.t.cells.length = 2
  ck : ∀ gi, gi < 2 → (d.t.cells.getD gi []).length = d.t.k
  h2 : d.chances.length = 2
  hk : ∀ gi, gi < 2 → (d.chances.getD gi []).length = d.t.k
  hs : ∀ gi r, r ∈ d.chances.getD gi [] → Sm 800 r
/-- the groups' objects stand apart -/
structure Apart (g0 g1 : GA) : Prop where
  a0 : GApart g0
  a1 : GApart g1
  p : g0.p ≠ g1.p
  ss : g0.aS ≠ g1.aS
  sn : g0.aS ≠ g1.aN
  sc : g0.aS ≠ g1.aC
  ns : g0.aN ≠ g1.aS
  nn : g0.aN ≠ g1.aN
  nc : g0.aN ≠ g1.aC
  cs : g0.aC ≠ g1.aS
  cn : g0.aC ≠ g1.aN
/-- what the table's calls may change -/
def foot (a aG : Addr) (g0 g1 : GA) : List Addr := [a, aG, g0.p, g0.aS, g0.aN, g0.aC, g1.p, g1.aS, g1.aN, g1.aC]
structure DeskAt (K : PySem.W.Frag) (CT CG : Addr) (H : Hp) (a aG : Addr) (g0 g1 : GA) (d : Krdh.Desk) : Prop where
  ins : ∃ dx, H a = some (.ins CT dx (tF d.t.k aG))
  grp : H aG = some (.lst [.ref g0.p, .ref g1.p])
  gr0 : GrpAt K CG H g0 (soL d.t 0) (noL d.t 0) (d.chances.getD 0 [])
  gr1 : GrpAt K CG H g1 (soL d.t 1) (noL d.t 1) (d.chances.getD 1 [])
  apart : Apart g0 g1
  ok : DOk d
def TableAt (K : PySem.W.Frag) (CT CG : Addr) (H : Hp) (a : Addr) (F : List Addr) : Krdh.Abs → Prop
  | none => ∃ dx aG, (H a = some (.ins CT dx (tF 0 aG)) ∧ H aG = some (.lst [])) ∧ F = [a, aG]
  | some d => ∃ aG g0 g1, DeskAt K CT CG H a aG g0 g1 d ∧ F = foot a aG g0 g1
theorem DeskAt.grow {T : List (Addr × Str)} {K : PySem.W.Frag} {CT CG : Addr} {H H' : Hp} {a aG : Addr} {g0 g1 : GA} {d : Krdh.Desk} (h : DeskAt K CT CG H a aG g0 g1 d) (e : Grow T H H') : DeskAt K CT CG H' a aG g0 g1 d :=
  ⟨h.ins.imp fun _ q => e.at q fun _ z => (by cases z), e.at h.grp fun _ z => (by cases z), h.gr0.grow e, h.gr1.grow e, h.apart, h.ok⟩
theorem DeskAt.same {K : PySem.W.Frag} {CT CG : Addr} {H H' : Hp} {a aG : Addr} {g0 g1 : GA} {d : Krdh.Desk} (h : DeskAt K CT CG H a aG g0 g1 d) (e : Same H H') : DeskAt K CT CG H' a aG g0 g1 d := h.grow (T := []) (Same.grow e)
/-- the group of a number -/
def pick (g0 g1 : GA) (gi : Nat) : GA := if gi = 0 then g0 else g1
theorem DeskAt.pick {K : PySem.W.Frag} {CT CG : Addr} {H : Hp} {a aG : Addr} {g0 g1 : GA} {d : Krdh.Desk} (h : DeskAt K CT CG H a aG g0 g1 d) {gi : Nat} (hg : gi < 2) : GrpAt K CG H (pick g0 g1 gi) (soL d.t gi) (noL d.t gi) (d.chances.getD gi []) := by
  rcases (show gi = 0 ∨ gi = 1 by omega) with rfl | rfl
  · exact h.gr0
  · exact h.gr1
theorem pick_at {g0 g1 : GA} {gi : Nat} (hg : gi < 2) : atI [V.ref g0.p, V.ref g1.p] (gi : Int) = some (.ref (pick g0 g1 gi).p) := by
  rcases (show gi = 0 ∨ gi = 1 by omega) with rfl | rfl
  · rfl
  · rfl
/-- facts of the classes and constants of the groups' file -/
structure TxtT (K : PySem.W.Frag) (mg : Str → Option Value) (CT : Addr) : Prop where
  cl : Cls K CT
  nS : NoAttr K CT "scores"
  nG : NoAttr K CT "groups"
  gC : mg "Table" = some (.ref CT)
  noSuch : ∃ t, mg "NO_SUCH" = some (.int (-2) t)
  notBegun : ∃ t, mg "NOT_BEGUN" = some (.int (-11) t)
  notRight : ∃ t, mg "NOT_RIGHT" = some (.int (-22) t)
  lacking : ∃ t, mg "LACKING" = some (.int (-33) t)
  mostScores : ∃ t, mg "MOST_SCORES" = some (.int 4 t)
  mostPeople : ∃ t, mg "MOST_PEOPLE" = some (.int 99 t)
  mostLower : ∃ t, mg "MOST_LOWER" = some (.int 1000 t)
  notReached : ∃ t, mg "NOT_REACHED" = some (.int (-34) t)
  notRefused : ∃ t, mg "NOT_REFUSED" = some (.int 0 t)
  mostGain : ∃ t, mg "MOST_GAIN" = some (.int 100 t)
theorem pe_num {X : Cx} {x : Str} {i : Int} {pos : Pos} (hg : Gl X x) (hm : ∃ t, X.mg x = some (.int i t)) (hdb : (x == ("__debug__" : Str)) = false := by decide) : PE X (.Name x pos) (tC (.int i)) := hm.elim fun t h => pe_glob (v := .int i) hg h ⟨t, rfl⟩ hdb
section
variable {P : Program} {w : World} {K : PySem.W.Frag} {mg : Str → Option Value} {base : Heap} {CT CG aZ aO : Addr} {T : List (Addr × Str)}
/-! ### looks -/
def spHasGroup (K : PySem.W.Frag) (CT CG : Addr) : Sp := fun vs H Q _ => ∃ (a aG : Addr) (g0 g1 : GA) (d : Krdh.Desk) (g : Nat), vs = [.ref a, .int g] ∧ DeskAt K CT CG H a aG g0 g1 d ∧ Q (.bl (decide (g < 2))) H
theorem scHasGroup : FnScope ["table", "g"] ["table", "g"] (defScope sHasGroup) := ⟨rfl, rfl, rfl, by decide +kernel, rfl, by decide +kernel, by decide +kernel⟩
theorem ok_hasGroup (D : Has K mg "has_group" sHasGroup ["table", "g"]) (G : TxtG K mg CG) (TT : TxtT K mg CT) : Kept P w K mg base 1 "has_group" ["table", "g"] (spHasGroup K CT CG) := by
  refine D.kept scHasGroup (fun vs H Q E h => ?_) (fun f cdv A outer s H vs Q E hr h => ⟨_, pss_one (ps_ret (pe_cmpR op_lt (pv 1) (pe_callB call_len_seq (by rfl) G.len PySem.boot_len (pa_cons (pe_fld (pv 0) rfl) pa_nil)) (nomark _))), ?_⟩)
  · obtain ⟨_, _, _, _, _, _, rfl, _⟩ := h
    rfl
  · obtain ⟨a, aG, g0, g1, d, g, rfl, ⟨⟨dx, hi⟩, hg, _⟩, q⟩ := h
    refine ⟨_, rfl, _, rfl, a, CT, dx, _, _, rfl, hi, TT.cl, TT.nG, tF_groups, aG, _, rfl, .inl (SqL.of hg), _, _, rfl, rfl, ?_⟩
    have e : decide ((g : Int) < (([V.ref g0.p, V.ref g1.p].length : Nat) : Int)) = decide (g < 2) := decide_eq_decide.mpr (by show ((g : Int) < 2) ↔ g < 2; omega)
    rw [← e] at q
    exact q
def spHasCell (K : PySem.W.Frag) (CT CG : Addr) : Sp := fun vs H Q _ => ∃ (a aG : Addr) (g0 g1 : GA) (d : Krdh.Desk) (g s : Nat), vs = [.ref a, .int g, .int s] ∧ DeskAt K CT CG H a aG g0 g1 d ∧ Q (.bl (decide (g < 2) && decide (s < d.t.k))) H
theorem scHasCell : FnScope ["table", "g", "s"] ["table", "g", "s"] (defScope sHasCell) := ⟨rfl, rfl, rfl, by decide +kernel, rfl, by decide +kernel, by decide +kernel⟩
theorem ok_hasCell (D : Has K mg "has_cell" sHasCell ["table", "g", "s"]) (TT : TxtT K mg CT) (HG : Kept P w K mg base 1 "has_group" ["table", "g"] (spHasGroup K CT CG)) : Kept P w K mg base 2 "has_cell" ["table", "g", "s"] (spHasCell K CT CG) := by
  refine D.kept scHasCell (fun vs H Q E h => ?_) (fun f cdv A outer s H vs Q E hr h => ⟨_, pss_one (ps_ret (pe_and (pe_def HG hr rfl (pa_cons (pv 0) (pa_cons (pv 1) pa_nil))) (pe_one (pe_cmpR op_lt (pv 2) (pe_fld (pv 0) rfl) (nomark _))))), ?_⟩)
  · obtain ⟨_, _, _, _, _, _, _, rfl, _⟩ := h
    rfl
  · obtain ⟨a, aG, g0, g1, d, g, s, rfl, hd, q⟩ := h
    refine ⟨_, rfl, _, rfl, a, aG, g0, g1, d, g, rfl, hd, _, rfl, ?_⟩
    obtain ⟨dx, hi⟩ := hd.ins
    refine ifB (fun c => ?_) fun c => ?_
    · refine ⟨_, rfl, _, rfl, a, CT, dx, _, _, rfl, hi, TT.cl, TT.nS, tF_scores, _, _, rfl, rfl, ?_⟩
      rw [c, Bool.true_and] at q
      have e : decide ((s : Int) < (d.t.k : Int)) = decide (s < d.t.k) := decide_eq_decide.mpr (by omega)
      rw [← e] at q
      exact q
    · rw [c] at q
      exact q
def spIsLower : Sp := fun vs H Q _ => ∃ n : Nat, vs = [.int n] ∧ Q (.bl (decide (1 ≤ n) && decide (n ≤ 1000))) H
theorem scIsLower : FnScope ["number"] ["number"] (defScope sIsLower) := ⟨rfl, rfl, rfl, by decide +kernel, rfl, by decide +kernel, by decide +kernel⟩
theorem ok_isLower (D : Has K mg "is_lower" sIsLower ["number"]) (TT : TxtT K mg CT) : Kept P w K mg base 1 "is_lower" ["number"] spIsLower := by
  refine D.kept scIsLower (fun vs H Q E h => ?_) (fun f cdv A outer s H vs Q E hr h => ⟨_, pss_one (ps_ret (pe_and (pe_cmpR op_le pe_int (pv 0) (nomark _)) (pe_one (pe_cmpR op_le (pv 0) (pe_num rfl TT.mostLower) (nomark _))))), ?_⟩)
  · obtain ⟨n, rfl, _⟩ := h
    rfl
  · obtain ⟨n, rfl, q⟩ := h
    refine ⟨_, rfl, _, _, rfl, rfl, _, rfl, ?_⟩
    have e1 : decide ((1 : Int) ≤ (n : Int)) = decide (1 ≤ n) := decide_eq_decide.mpr (by omega)
    have e2 : decide ((n : Int) ≤ (1000 : Int)) = decide (n ≤ 1000) := decide_eq_decide.mpr (by omega)
    rw [← e1, ← e2] at q
    refine ifB (fun c => ?_) fun c => ?_
    · rw [c, Bool.true_and] at q
      exact ⟨_, rfl, _, _, rfl, rfl, q⟩
    · rw [c] at q
      exact q
def spIsPart : Sp := fun vs H Q _ => ∃ u l : Nat, vs = [.int u, .int l] ∧ Q (.bl (Krdh.partOk u l)) H
theorem scIsPart : FnScope ["upper", "lower"] ["upper", "lower"] (defScope sIsPart) := ⟨rfl, rfl, rfl, by decide +kernel, rfl, by decide +kernel, by decide +kernel⟩
theorem ok_isPart (D : Has K mg "is_part" sIsPart ["upper", "lower"]) (L : Kept P w K mg base 1 "is_lower" ["number"] spIsLower) : Kept P w K mg base 2 "is_part" ["upper", "lower"] spIsPart := by
  refine D.kept scIsPart (fun vs H Q E h => ?_) (fun f cdv A outer s H vs Q E hr h => ⟨_, pss_one (ps_ret (pe_and (pe_def L hr rfl (pa_cons (pv 1) pa_nil)) (pe_one (pe_cmpR op_le (pv 0) (pv 1) (nomark _))))), ?_⟩)
  · obtain ⟨u, l, rfl, _⟩ := h
    rfl
  · obtain ⟨u, l, rfl, q⟩ := h
    refine ⟨_, rfl, l, rfl, _, rfl, ?_⟩
    have e2 : decide ((u : Int) ≤ (l : Int)) = decide (u ≤ l) := decide_eq_decide.mpr (by omega)
    unfold Krdh.partOk at q
    rw [← e2] at q
    refine ifB (fun c => ?_) fun c => ?_
    · rw [c, Bool.true_and] at q
      exact ⟨_, rfl, _, rfl, _, _, rfl, rfl, q⟩
    · rw [c] at q
      exact q
/-! ### is_somebody_lacking -/
theorem lacks_is {t : Krdf.Table} : (!Krdh.full t) = ((decide ((soL t 0).sum = 0) || decide ((noL t 0).sum = 0)) || ((decide ((soL t 1).sum = 0) || decide ((noL t 1).sum = 0)) || false)) := by
  unfold Krdh.full
  have h (n : Nat) : decide ((n : Int) = 0) = !decide (0 < n) := by
    by_cases c : 0 < n
    · rw [decide_eq_true c, decide_eq_false (by omega)]
      rfl
    · rw [decide_eq_false c, decide_eq_true (by omega)]
      rfl
  simp only [so_sum, no_sum, h, List.all_cons, List.all_nil, Bool.not_and, Bool.or_false, Bool.and_true]
def spLacking (K : PySem.W.Frag) (CT CG : Addr) : Sp := fun vs H Q _ => ∃ (a aG : Addr) (g0 g1 : GA) (d : Krdh.Desk), vs = [.ref a] ∧ DeskAt K CT CG H a aG g0 g1 d ∧ ∀ H', Same H H' → Q (.bl (!Krdh.full d.t)) H'
theorem boot_any : bootBuiltins "any" = some (.builtin "any") := by decide +kernel
theorem boot_all : bootBuiltins "all" = some (.builtin "all") := by decide +kernel
theorem scLacking : FnScope ["table", "group"] ["table"] (defScope sIsSomebodyLacking) := ⟨rfl, rfl, rfl, by decide +kernel, rfl, by decide +kernel, by decide +kernel⟩
theorem ok_lacking (D : Has K mg "is_somebody_lacking" sIsSomebodyLacking ["table"]) (G : TxtG K mg CG) (TT : TxtT K mg CT) (L : Kept P w K mg base 1 "lacks_somebody" ["group"] (spLacks K CG)) : Kept P w K mg base 2 "is_somebody_lacking" ["table"] (spLacking K CT CG) := by
  refine D.kept scLacking (fun vs H Q E h => ?_) (fun f cdv A outer s H vs Q E hr h => ⟨_, pss_one (ps_ret (pe_callB (cr_any rfl) (by rfl) G.any boot_any (pa_cons (pe_lc (own := [("group", 1)]) (g := gName 1) (tt := tYes) (te := tCall (spLacks K CG) [] E0 (tCons (tVar 1) tNil)) rfl scLacking.nd (pi_list (pe_fld (pv 0) rfl))
      (blkOk_by (N := ["table", "group"]) (sc := defScope sIsSomebodyLacking) (by decide +kernel)) (fun _ _ _ _ _ => pg_name (i := 1) scLacking.nd rfl (Or.inl rfl)) (fun _ _ _ _ _ => pts_nil) (fun _ _ _ _ _ => pe_def L hr rfl (pa_cons (pv 1) pa_nil))) pa_nil))), ?_⟩)
  · obtain ⟨_, _, _, _, _, rfl, _⟩ := h
    rfl
  · obtain ⟨a, aG, g0, g1, d, rfl, hd, q⟩ := h
    obtain ⟨dx, hi⟩ := hd.ins
    refine ⟨_, rfl, a, CT, dx, _, _, rfl, hi, TT.cl, TT.nG, tF_groups, aG, rfl, ⟨_, SqL.of hd.grp⟩, fun D nD => ?_⟩
    refine lc_list (K := K) (a := aG) (xs := [V.ref g0.p, V.ref g1.p]) (fun i H' => Same H H' ∧ H' D = some (.lst ([decide ((soL d.t 0).sum = 0) || decide ((noL d.t 0).sum = 0), decide ((soL d.t 1).sum = 0) || decide ((noL d.t 1).sum = 0)].take i |>.map V.bl))) ⟨Same.new nD, upd_same⟩ (fun i H' _ z => z.1.seq (SqL.of hd.grp)) ?_ ?_
    · rintro i x H' hx ⟨e, hD⟩
      have keep : ∀ o, Same H (upd H' D o) := fun o b u eb => by
        rw [upd_ne (ne_of_none eb nD)]
        exact e b u eb
      match i, hx with
      | 0, hx =>
        cases hx
        exact ⟨rfl, _, rfl, g0, _, _, _, rfl, hd.gr0.same e, _, hD, (show 0 < sizeLine by decide), keep _, upd_same⟩
      | 1, hx =>
        cases hx
        exact ⟨rfl, _, rfl, g1, _, _, _, rfl, hd.gr1.same e, _, hD, (show 1 < sizeLine by decide), keep _, upd_same⟩
    · rintro H' ⟨e, hD⟩
      refine ⟨D, _, rfl, SqL.of hD, ?_⟩
      have := q H' e
      rw [lacks_is] at this
      exact this
/-! ### are_parts, are_gain_and_loss -/
def spAreParts (K : PySem.W.Frag) : Sp := fun vs H Q _ => ∃ (b : Addr) (a1 b1 c1 d1 : Nat), vs = [.ref b] ∧ SqL K H b (nV [a1, b1, c1, d1]) ∧ Q (.bl (Krdh.partOk a1 b1 && Krdh.partOk c1 d1)) H
theorem scAreParts : FnScope ["numbers"] ["numbers"] (defScope sAreParts) := ⟨rfl, rfl, rfl, by decide +kernel, rfl, by decide +kernel, by decide +kernel⟩
theorem ok_areParts (D : Has K mg "are_parts" sAreParts ["numbers"]) (IP : Kept P w K mg base 2 "is_part" ["upper", "lower"] spIsPart) : Kept P w K mg base 3 "are_parts" ["numbers"] (spAreParts K) := by
  refine D.kept scAreParts (fun vs H Q E h => ?_) (fun f cdv A outer s H vs Q E hr h => ⟨_, pss_one (ps_ret (pe_and (pe_def IP hr rfl (pa_cons (pe_ix ix_list (pv 0) pe_int (fun _ _ => rfl)) (pa_cons (pe_ix ix_list (pv 0) pe_int (fun _ _ => rfl)) pa_nil)))
      (pe_one (pe_def IP hr rfl (pa_cons (pe_ix ix_list (pv 0) pe_int (fun _ _ => rfl)) (pa_cons (pe_ix ix_list (pv 0) pe_int (fun _ _ => rfl)) pa_nil)))))), ?_⟩)
  · obtain ⟨_, _, _, _, _, rfl, _⟩ := h
    rfl
  · obtain ⟨b, a1, b1, c1, d1, rfl, hb, q⟩ := h
    refine ⟨_, rfl, b, _, 0, _, rfl, rfl, hb, rfl, _, rfl, b, _, 1, _, rfl, rfl, hb, rfl, a1, b1, rfl, _, rfl, ?_⟩
    refine ifB (fun c => ?_) fun c => ?_
    · rw [c, Bool.true_and] at q
      exact ⟨_, rfl, b, _, 2, _, rfl, rfl, hb, rfl, _, rfl, b, _, 3, _, rfl, rfl, hb, rfl, c1, d1, rfl, q⟩
    · rw [c] at q
      exact q
def gainOk (u v : Nat) : Bool := decide (u ≤ 100) && decide (v ≤ 100)
def spAreGain (K : PySem.W.Frag) : Sp := fun vs H Q _ => ∃ (b : Addr) (u v : Nat), vs = [.ref b] ∧ SqL K H b (nV [u, v]) ∧ Q (.bl (gainOk u v)) H
theorem scAreGain : FnScope ["numbers"] ["numbers"] (defScope sAreGainAndLoss) := ⟨rfl, rfl, rfl, by decide +kernel, rfl, by decide +kernel, by decide +kernel⟩
theorem ok_areGain (D : Has K mg "are_gain_and_loss" sAreGainAndLoss ["numbers"]) (TT : TxtT K mg CT) : Kept P w K mg base 1 "are_gain_and_loss" ["numbers"] (spAreGain K) := by
  refine D.kept scAreGain (fun vs H Q E h => ?_) (fun f cdv A outer s H vs Q E hr h => ⟨_, pss_one (ps_ret (pe_and (pe_cmpR op_le (pe_ix ix_list (pv 0) pe_int (fun _ _ => rfl)) (pe_num rfl TT.mostGain) (nomark _))
      (pe_one (pe_cmpR op_le (pe_ix ix_list (pv 0) pe_int (fun _ _ => rfl)) (pe_num rfl TT.mostGain) (nomark _))))), ?_⟩)
  · obtain ⟨_, _, _, rfl, _⟩ := h
    rfl
  · obtain ⟨b, u, v, rfl, hb, q⟩ := h
    have e1 : decide ((u : Int) ≤ (100 : Int)) = decide (u ≤ 100) := decide_eq_decide.mpr (by omega)
    have e2 : decide ((v : Int) ≤ (100 : Int)) = decide (v ≤ 100) := decide_eq_decide.mpr (by omega)
    unfold gainOk at q
    rw [← e1, ← e2] at q
    refine ⟨_, rfl, b, _, 0, _, rfl, rfl, hb, rfl, _, _, rfl, rfl, _, rfl, ?_⟩
    refine ifB (fun c => ?_) fun c => ?_
    · rw [c, Bool.true_and] at q
      exact ⟨_, rfl, b, _, 1, _, rfl, rfl, hb, rfl, _, _, rfl, rfl, q⟩
    · rw [c] at q
      exact q
/-! ### refusals -/
def refB (t : Krdf.Table) (b : Bool) : Int := if b = true then (if (!Krdh.full t) = true then -33 else 0) else -22
def refO (t : Krdf.Table) (g : Nat) (b : Bool) : Int := if g < 2 then refB t b else -2
def spRefB (K : PySem.W.Frag) (CT CG : Addr) : Sp := fun vs H Q _ => ∃ (a aG : Addr) (g0 g1 : GA) (d : Krdh.Desk) (b : Bool), vs = [.ref a, .bl b] ∧ DeskAt K CT CG H a aG g0 g1 d ∧ ∀ H', Same H H' → Q (.int (refB d.t b)) H'
def spRefO (K : PySem.W.Frag) (CT CG : Addr) : Sp := fun vs H Q _ => ∃ (a aG : Addr) (g0 g1 : GA) (d : Krdh.Desk) (g : Nat) (b : Bool), vs = [.ref a, .int g, .bl b] ∧ DeskAt K CT CG H a aG g0 g1 d ∧ ∀ H', Same H H' → Q (.int (refO d.t g b)) H'
theorem scRefB : FnScope ["table", "is_right"] ["table", "is_right"] (defScope sRefusalOfBoth) := ⟨rfl, rfl, rfl, by decide +kernel, rfl, by decide +kernel, by decide +kernel⟩
theorem ok_refB (D : Has K mg "refusal_of_both" sRefusalOfBoth ["table", "is_right"]) (TT : TxtT K mg CT) (L : Kept P w K mg base 2 "is_somebody_lacking" ["table"] (spLacking K CT CG)) : Kept P w K mg base 3 "refusal_of_both" ["table", "is_right"] (spRefB K CT CG) := by
  refine D.kept scRefB (fun vs H Q E h => ?_) (fun f cdv A outer s H vs Q E hr h => ⟨_, pss_cons (ps_if (pt_not (pt_val (pv 1))) (pss_one (ps_ret (pe_num rfl TT.notRight))) pss_nil)
    (pss_cons (ps_if (pt_val (pe_def L hr rfl (pa_cons (pv 0) pa_nil))) (pss_one (ps_ret (pe_num rfl TT.lacking))) pss_nil) (pss_one (ps_ret (pe_num rfl TT.notRefused)))), ?_⟩)
  · obtain ⟨_, _, _, _, _, _, rfl, _⟩ := h
    rfl
  · obtain ⟨a, aG, g0, g1, d, b, rfl, hd, q⟩ := h
    refine ⟨_, rfl, _, rfl, ?_⟩
    unfold refB at q
    cases b with
    | false =>
      refine ifT rfl ?_
      rw [if_neg Bool.false_ne_true] at q
      exact q H (Same.refl H)
    | true =>
      refine ifF rfl ?_
      rw [if_pos rfl] at q
      refine ⟨_, rfl, a, aG, g0, g1, d, rfl, hd, fun H1 e1 => ⟨_, rfl, ?_⟩⟩
      have q1 := q H1 e1
      refine ifB (fun c => ?_) fun c => ?_
      · rw [if_pos c] at q1
        exact q1
      · rw [if_neg (by rw [c]; exact Bool.false_ne_true)] at q1
        exact q1
theorem scRefO : FnScope ["table", "g", "is_right"] ["table", "g", "is_right"] (defScope sRefusalOfOne) := ⟨rfl, rfl, rfl, by decide +kernel, rfl, by decide +kernel, by decide +kernel⟩
theorem ok_refO (D : Has K mg "refusal_of_one" sRefusalOfOne ["table", "g", "is_right"]) (TT : TxtT K mg CT) (HG : Kept P w K mg base 1 "has_group" ["table", "g"] (spHasGroup K CT CG)) (RB : Kept P w K mg base 3 "refusal_of_both" ["table", "is_right"] (spRefB K CT CG)) : Kept P w K mg base 4 "refusal_of_one" ["table", "g", "is_right"] (spRefO K CT CG) := by
  refine D.kept scRefO (fun vs H Q E h => ?_) (fun f cdv A outer s H vs Q E hr h => ⟨_, pss_cons (ps_if (pt_not (pt_val (pe_def HG (hr.mono (by decide)) rfl (pa_cons (pv 0) (pa_cons (pv 1) pa_nil))))) (pss_one (ps_ret (pe_num rfl TT.noSuch))) pss_nil)
    (pss_one (ps_ret (pe_def RB hr rfl (pa_cons (pv 0) (pa_cons (pv 2) pa_nil))))), ?_⟩)
  · obtain ⟨_, _, _, _, _, _, _, rfl, _⟩ := h
    rfl
  · obtain ⟨a, aG, g0, g1, d, g, b, rfl, hd, q⟩ := h
    refine ⟨_, rfl, _, rfl, a, aG, g0, g1, d, g, rfl, hd, _, rfl, ?_⟩
    unfold refO at q
    refine ifN (fun c => ?_) fun hg => ?_
    · rw [if_neg c] at q
      exact q H (Same.refl H)
    · rw [if_pos hg] at q
      exact ⟨_, rfl, _, rfl, a, aG, g0, g1, d, b, rfl, hd, q⟩
/-! ### laid_out -/
/-- an answer: numbers -/
def zV (l : List Int) : List V := l.map V.int
theorem zV_app (a b : List Int) : zV (a ++ b) = zV a ++ zV b := List.map_append ..
theorem zV_fr (r : Rat) : zV (Krdf.fr r) = frV r := rfl
theorem flatFr_len : ∀ l : List Rat, (l.flatMap Krdf.fr).length = 2 * l.length
  | [] => rfl
  | r :: l => by
    rw [List.flatMap_cons, List.length_append, flatFr_len l, List.length_cons]
    show 2 + _ = _
    omega
def spLaid (K : PySem.W.Frag) : Sp := fun vs H Q _ => ∃ (b : Addr) (cs : List V) (rs : List Rat), vs = [.ref b] ∧ SqL K H b cs ∧ Frs K H cs rs ∧ rs.length ≤ 100 ∧ ∀ p H', Same H H' → H p = none → H' p = some (.lst (zV (rs.flatMap Krdf.fr))) → Q (.ref p) H'
theorem scLaid : FnScope ["parts", "numbers", "part"] ["parts"] (defScope sLaidOut) := ⟨rfl, rfl, rfl, by decide +kernel, rfl, by decide +kernel, by decide +kernel⟩
theorem ok_laid (D : Has K mg "laid_out" sLaidOut ["parts"]) : Kept P w K mg base 1 "laid_out" ["parts"] (spLaid K) := by
  refine D.kept scLaid (fun vs H Q E h => ?_) (fun f cdv A outer s H vs Q E hr h => ⟨_, pss_cons (ps_set (i := 1) scLaid.nd rfl (Or.inl rfl) (pe_lst pa_nil))
    (pss_cons (ps_for PassesOwn.never rfl (pi_list (pv 0)) (pg_name (i := 2) scLaid.nd rfl (Or.inl rfl)) (pss_one (ps_expr (pe_bm PySem.F.plainAttrs_list PySem.F.slot_list_extend PySem.F.type_list_extend mt_extendT (pv 1) (pa_cons (pv 2) pa_nil)))))
    (pss_one (ps_ret (pv 1)))), ?_⟩)
  · obtain ⟨_, _, _, rfl, _⟩ := h
    rfl
  · obtain ⟨b, cs, rs, rfl, hb, hF, hl, q⟩ := h
    refine ⟨Nat.zero_le _, fun o no => ?_⟩
    have e1 := Same.new (o := .lst []) no
    refine ⟨_, rfl, b, rfl, ⟨_, e1.seq hb⟩, for_list (K := K) (a := b) (xs := cs) (fun i σ H' => ∃ o2, σ = [some (.ref b), some (.ref o), o2] ∧ Same H H' ∧ H' o = some (.lst (zV ((rs.take i).flatMap Krdf.fr)))) ⟨none, rfl, e1, upd_same⟩ (fun i σ H' _ ⟨_, _, e, _⟩ => e.seq hb) ?_ ?_⟩
    · rintro i v σ H' hi ⟨o2, rfl, e, ho⟩
      have li : i < cs.length := (List.getElem?_eq_some_iff.mp hi).1
      have hlen := hF.len
      obtain ⟨r, hri⟩ : ∃ r, rs[i]? = some r := ⟨rs[i], List.getElem?_eq_getElem (by omega)⟩
      obtain ⟨a, rfl, ha⟩ := (hF.each i v r hi hri).same e
      refine ⟨_, rfl, .inl ⟨rfl, _, SqL.of ho⟩, _, rfl, o, a, _, _, rfl, rfl, ho, ha, ?_, ?_⟩
      · show (zV ((rs.take i).flatMap Krdf.fr)).length + 2 ≤ sizeLine
        unfold zV
        rw [List.length_map, flatFr_len, List.length_take]
        exact Nat.le_trans (show 2 * min i rs.length + 2 ≤ 300 by omega) (by decide)
      · refine ⟨_, rfl, fun c u ec => ?_, ?_⟩
        · rw [upd_ne (ne_of_none ec no)]
          exact e c u ec
        · rw [upd_same, take_more hri, List.flatMap_append, zV_app]
          rfl
    · rintro σ H' ⟨o2, rfl, e, ho⟩
      rw [hF.len, List.take_length] at ho
      exact ⟨_, rfl, q o H' e no ho⟩
end
end My

namespace My
open PySem PySem.Spec PyProof.Rows L2 LamX NdefX
theorem one_le : (1 : Nat) ≤ sizeLine := by decide
theorem two_le : (2 : Nat) ≤ sizeLine := by decide
/-- nothing tracked stood at p, but a table perhaps -/
def New (H : Hp) (p : Addr) : Prop := ∀ o, H p = some o → ∃ ps, o = .tbl ps
theorem New.of {H : Hp} {p : Addr} (h : H p = none) : New H p := fun o e => by
  rw [h] at e
  cases e
theorem New.back {T : List (Addr × Str)} {H H' : Hp} {p : Addr} (g : Grow T H H') (h : H' p = none) : New H p := fun o e => by
  by_cases c : ∃ ps, o = .tbl ps
  · exact c
  · rw [g.at e fun ps z => c ⟨ps, z⟩] at h
    cases h
theorem New.pull {T : List (Addr × Str)} {H H' : Hp} {p : Addr} (g : Grow T H H') (h : New H' p) : New H p := fun o e => by
  by_cases c : ∃ ps, o = .tbl ps
  · exact c
  · exact h o (g.at e fun ps z => c ⟨ps, z⟩)
theorem New.ne {H : Hp} {p b : Addr} {o : HO} (n : New H p) (e : H b = some o) (ht : ∀ ps, o ≠ .tbl ps) : p ≠ b := fun z => by
  obtain ⟨ps, q⟩ := n o (by rw [z]; exact e)
  exact ht ps q
/-- of a value function: its lists are as long as there are scores, and small -/
structure Val (val : Krdf.Table → Nat → Rat → List Rat) : Prop where
  len : ∀ t gi x, (val t gi x).length = t.k
  sm : ∀ {t gi x}, 0 < t.no gi → TOk t → 0 ≤ x → Sm 400 x → ∀ r ∈ val t gi x, Sm 410 r
theorem val_most : Val Krdh.most := ⟨most_length, most_sm⟩
theorem val_fewest : Val Krdh.fewest := ⟨fewest_length, fewest_sm⟩
theorem upper_sm {t : Krdf.Table} {gi n : Nat} {x : Rat} (ok : TOk t) (hY : 0 < t.yes gi) (hN : 0 < t.no gi) (hx : 0 ≤ x) (hs : x.den < 2 ^ n) : Sm (n + 36) (Krdh.upper t gi x) := bound_sm ok hY hs (upper_ch hY hN hx)
theorem lower_sm {t : Krdf.Table} {gi n : Nat} {x : Rat} (ok : TOk t) (hY : 0 < t.yes gi) (hN : 0 < t.no gi) (hx : 0 ≤ x) (hs : x.den < 2 ^ n) : Sm (n + 36) (Krdh.lower t gi x) := bound_sm ok hY hs (lower_ch hY hN hx)
section
variable {P : Program} {w : World} {K : PySem.W.Frag} {mg : Str → Option Value} {base : Heap} {C aZ aO : Addr} {T : List (Addr × Str)}
/-! ### most_y, fewest_y -/
def spY (K : PySem.W.Frag) (C : Addr) (T : List (Addr × Str)) (val : Krdf.Table → Nat → Rat → List Rat) : Sp := fun vs H Q _ => ∃ (g : GA) (t : Krdf.Table) (gi : Nat) (ch : List Rat) (vx : V) (x : Rat), vs = [.ref g.p, vx] ∧ GrpAt K C H g (soL t gi) (noL t gi) ch ∧ TOk t ∧ 0 < t.yes gi ∧ 0 < t.no gi ∧ Tabs T H ∧
  XAt K H vx x ∧ ∀ (v : V) (H' : Hp), Grow T H H' → Fr K H' v (Krdh.right t gi (val t gi x)) → Q v H'
theorem scMostY : FnScope ["group", "x"] ["group", "x"] (defScope sMostY) := ⟨rfl, rfl, rfl, by decide +kernel, rfl, by decide +kernel, by decide +kernel⟩
theorem scFewestY : FnScope ["group", "x"] ["group", "x"] (defScope sFewestY) := ⟨rfl, rfl, rfl, by decide +kernel, rfl, by decide +kernel, by decide +kernel⟩
theorem ok_mostY (D : Has K mg "most_y" sMostY ["group", "x"]) (G : TxtG K mg C) (PC : Kept P w K mg base 4 "part_chosen" ["people", "chances"] (spPart K)) (M : Kept P w K mg base 5 "most_chances" ["group", "x"] (spMost K C T Krdh.most)) :
    Kept P w K mg base 6 "most_y" ["group", "x"] (spY K C T Krdh.most) := by
  refine D.kept scMostY (fun vs H Q E h => ?_) (fun f cdv A outer s H vs Q E hr h => ⟨_, pss_one (ps_ret (pe_def PC (hr.mono (by decide)) rfl (pa_cons (pe_fld (pv 0) rfl) (pa_cons (pe_def M hr rfl (pa_cons (pv 0) (pa_cons (pv 1) pa_nil))) pa_nil)))), ?_⟩)
  · obtain ⟨_, _, _, _, _, _, rfl, _⟩ := h
    rfl
  · obtain ⟨g, t, gi, ch, vx, x, rfl, hG, ok, hY, hN, hT, hx, q⟩ := h
    refine ⟨_, rfl, g.p, C, g.dx, _, _, rfl, hG.ins, G.cl, G.nS, gF_so, _, rfl, _, rfl, g, t, gi, ch, vx, x, rfl, hG, ok, hN, hT, hx, fun pc H1 cs e1 hpc hF => ?_⟩
    have hG1 := hG.grow e1
    have vl := most_length t gi x
    refine ⟨_, _, _, _, _, rfl, SqL.of hG1.so, SqL.of hpc, hF, by rw [soL_len, vl], by rw [soL_len]; exact ok.k4, ok.so, fun r hr => (most_sm hN ok hx.nonneg hx.sm r hr).mono (by decide), by rw [so_sum]; omega, fun py H2 e2 npy hpy => ?_⟩
    rw [right_is vl] at hpy
    exact q _ _ (e1.trans (Same.grow e2)) ⟨py, rfl, SqT.of hpy⟩
theorem ok_fewestY (D : Has K mg "fewest_y" sFewestY ["group", "x"]) (G : TxtG K mg C) (PC : Kept P w K mg base 4 "part_chosen" ["people", "chances"] (spPart K)) (M : Kept P w K mg base 5 "fewest_chances" ["group", "x"] (spMost K C T Krdh.fewest)) :
    Kept P w K mg base 6 "fewest_y" ["group", "x"] (spY K C T Krdh.fewest) := by
  refine D.kept scFewestY (fun vs H Q E h => ?_) (fun f cdv A outer s H vs Q E hr h => ⟨_, pss_one (ps_ret (pe_def PC (hr.mono (by decide)) rfl (pa_cons (pe_fld (pv 0) rfl) (pa_cons (pe_def M hr rfl (pa_cons (pv 0) (pa_cons (pv 1) pa_nil))) pa_nil)))), ?_⟩)
  · obtain ⟨_, _, _, _, _, _, rfl, _⟩ := h
    rfl
  · obtain ⟨g, t, gi, ch, vx, x, rfl, hG, ok, hY, hN, hT, hx, q⟩ := h
    refine ⟨_, rfl, g.p, C, g.dx, _, _, rfl, hG.ins, G.cl, G.nS, gF_so, _, rfl, _, rfl, g, t, gi, ch, vx, x, rfl, hG, ok, hN, hT, hx, fun pc H1 cs e1 hpc hF => ?_⟩
    have hG1 := hG.grow e1
    have vl := fewest_length t gi x
    refine ⟨_, _, _, _, _, rfl, SqL.of hG1.so, SqL.of hpc, hF, by rw [soL_len, vl], by rw [soL_len]; exact ok.k4, ok.so, fun r hr => (fewest_sm hN ok hx.nonneg hx.sm r hr).mono (by decide), by rw [so_sum]; omega, fun py H2 e2 npy hpy => ?_⟩
    rw [right_is vl] at hpy
    exact q _ _ (e1.trans (Same.grow e2)) ⟨py, rfl, SqT.of hpy⟩
/-! ### can_reach -/
def spCan (K : PySem.W.Frag) (C : Addr) (T : List (Addr × Str)) : Sp := fun vs H Q _ => ∃ (g : GA) (t : Krdf.Table) (gi : Nat) (ch : List Rat) (vx vy : V) (x y : Rat), vs = [.ref g.p, vx, vy] ∧ GrpAt K C H g (soL t gi) (noL t gi) ch ∧ TOk t ∧ 0 < t.yes gi ∧ 0 < t.no gi ∧ Tabs T H ∧
  XAt K H vx x ∧ Fr K H vy y ∧ Sm 1000 y ∧ ∀ (H' : Hp), Grow T H H' → Q (.bl (Krdh.can t gi x y)) H'
theorem scCanReach : FnScope ["group", "x", "y"] ["group", "x", "y"] (defScope sCanReach) := ⟨rfl, rfl, rfl, by decide +kernel, rfl, by decide +kernel, by decide +kernel⟩
theorem not_less (a b : Rat) : (!decide (a < b)) = decide (b ≤ a) := by
  by_cases h : a < b
  · rw [decide_eq_true h, decide_eq_false (Rat.not_le.mpr h)]
    rfl
  · rw [decide_eq_false h, decide_eq_true (Rat.not_lt.mp h)]
    rfl
theorem ok_can (D : Has K mg "can_reach" sCanReach ["group", "x", "y"]) (IL : Kept P w K mg base 1 "is_less" ["left", "right"] (spLess K)) (MY : Kept P w K mg base 6 "most_y" ["group", "x"] (spY K C T Krdh.most)) (FY : Kept P w K mg base 6 "fewest_y" ["group", "x"] (spY K C T Krdh.fewest)) :
    Kept P w K mg base 7 "can_reach" ["group", "x", "y"] (spCan K C T) := by
  refine D.kept scCanReach (fun vs H Q E h => ?_) (fun f cdv A outer s H vs Q E hr h => ⟨_, pss_one (ps_ret (pe_and (pe_not (pe_def IL (hr.mono (by decide)) rfl (pa_cons (pv 2) (pa_cons (pe_def FY hr rfl (pa_cons (pv 0) (pa_cons (pv 1) pa_nil))) pa_nil))))
      (pe_one (pe_not (pe_def IL (hr.mono (by decide)) rfl (pa_cons (pe_def MY hr rfl (pa_cons (pv 0) (pa_cons (pv 1) pa_nil))) (pa_cons (pv 2) pa_nil))))))), ?_⟩)
  · obtain ⟨_, _, _, _, _, _, _, _, rfl, _⟩ := h
    rfl
  · obtain ⟨g, t, gi, ch, vx, vy, x, y, rfl, hG, ok, hY, hN, hT, hx, hy, sy, q⟩ := h
    have s1 : Sm 436 (Krdh.lower t gi x) := lower_sm ok hY hN hx.nonneg hx.sm.2
    have s2 : Sm 436 (Krdh.upper t gi x) := upper_sm ok hY hN hx.nonneg hx.sm.2
    refine ⟨_, rfl, _, rfl, _, rfl, g, t, gi, ch, vx, x, rfl, hG, ok, hY, hN, hT, hx, fun v1 H1 e1 f1 => ?_⟩
    refine ⟨vy, v1, y, Krdh.lower t gi x, rfl, hy.grow e1, f1, sy.mono (by decide), s1.mono (by decide), _, rfl, _, rfl, ?_⟩
    unfold Krdh.can at q
    refine ifB (fun c => ?_) fun c => ?_
    · rw [not_less] at c
      refine ⟨_, rfl, _, rfl, g, t, gi, ch, vx, x, rfl, hG.grow e1, ok, hY, hN, e1.tabs hT, hx.grow e1, fun v2 H2 e2 f2 => ?_⟩
      refine ⟨_, rfl, v2, vy, Krdh.upper t gi x, y, rfl, f2, hy.grow (e1.trans e2), s2.mono (by decide), sy.mono (by decide), _, rfl, ?_⟩
      have q2 := q H2 (e1.trans e2)
      rw [c, Bool.true_and, ← not_less] at q2
      exact q2
    · have q1 := q H1 e1
      rw [← not_less, c] at q1
      exact q1
/-! ### share_of_most -/
def shareOf (l u y : Rat) : Rat := if u = l then 0 else (y - l) / (u - l)
def spShare (K : PySem.W.Frag) : Sp := fun vs H Q _ => ∃ (v1 v2 v3 : V) (l u y : Rat), vs = [v1, v2, v3] ∧ Fr K H v1 l ∧ Fr K H v2 u ∧ Fr K H v3 y ∧ Sm 1000 l ∧ Sm 1000 u ∧ Sm 1000 y ∧ l ≤ u ∧ ∀ (v : V) (H' : Hp), Same H H' → Fr K H' v (shareOf l u y) → Q v H'
theorem scShare : FnScope ["low", "high", "y"] ["low", "high", "y"] (defScope sShareOfMost) := ⟨rfl, rfl, rfl, by decide +kernel, rfl, by decide +kernel, by decide +kernel⟩
theorem eqv_fr (a b : Rat) : PyData.eqv (.tuple [.int a.num, .int a.den]) (.tuple [.int b.num, .int b.den]) = decide (a = b) := by
  simp only [PyData.eqv, PyData.eqvAll, Bool.and_true]
  by_cases h : a = b
  · rw [h]
    simp
  · rw [decide_eq_false h]
    refine Bool.eq_false_iff.mpr fun z => h ?_
    rw [Bool.and_eq_true, beq_iff_eq, beq_iff_eq] at z
    exact Rat.ext z.1 (by omega)
theorem dp_fr {H : Hp} {a : Addr} {r : Rat} (h : SqT K H a (frV r)) : Dp K H (.ref a) (.tuple [.int r.num, .int r.den]) := .tup h (.cons (.int _) (.cons (.int _) .nil))
theorem ok_share (D : Has K mg "share_of_most" sShareOfMost ["low", "high", "y"]) (Z : TxtZ K mg aZ aO) (MI : Kept P w K mg base 3 "minus" ["left", "right"] (spMinus K)) (QU : Kept P w K mg base 3 "quotient" ["left", "right"] (spQuotient K)) :
    Kept P w K mg base 4 "share_of_most" ["low", "high", "y"] (spShare K) := by
  refine D.kept scShare (fun vs H Q E h => ?_) (fun f cdv A outer s H vs Q E hr h => ⟨_, pss_cons (ps_if (pt_cmpR (op_eqD hr.units) (pv 0) (pv 1) (nomark _)) (pss_one (ps_ret (pe_ref rfl Z.gZ))) pss_nil)
    (pss_one (ps_ret (pe_def QU hr rfl (pa_cons (pe_def MI hr rfl (pa_cons (pv 2) (pa_cons (pv 0) pa_nil))) (pa_cons (pe_def MI hr rfl (pa_cons (pv 1) (pa_cons (pv 0) pa_nil))) pa_nil))))), ?_⟩)
  · obtain ⟨_, _, _, _, _, _, rfl, _⟩ := h
    rfl
  · obtain ⟨v1, v2, v3, l, u, y, rfl, hl, hu, hy, sl, su, sy, hle, q⟩ := h
    obtain ⟨a1, rfl, h1⟩ := id hl
    obtain ⟨a2, rfl, h2⟩ := id hu
    refine ⟨_, rfl, _, rfl, _, _, dp_fr h1, dp_fr h2, rfl, rfl, _, rfl, ?_⟩
    rw [eqv_fr]
    unfold shareOf at q
    refine ifD (fun c => ?_) fun c => ?_
    · rw [if_pos c.symm] at q
      exact q _ H (Same.refl H) ⟨aZ, rfl, Z.zero H⟩
    · rw [if_neg (Ne.symm c)] at q
      refine ⟨_, rfl, _, rfl, v3, .ref a1, y, l, rfl, hy, hl, sy.mono (by decide), sl.mono (by decide), fun p1 n1 => ?_⟩
      have e1 := Same.new (o := .tup (frV (y - l))) n1
      have f1 : Fr K (upd H p1 (.tup (frV (y - l)))) (.ref p1) (y - l) := Fr.new
      generalize upd H p1 (.tup (frV (y - l))) = H1 at e1 f1 ⊢
      refine ⟨_, rfl, _, rfl, .ref a2, .ref a1, u, l, rfl, hu.same e1, hl.same e1, su.mono (by decide), sl.mono (by decide), fun p2 n2 => ?_⟩
      have e2 := Same.new (o := .tup (frV (u - l))) n2
      have f2 : Fr K (upd H1 p2 (.tup (frV (u - l)))) (.ref p2) (u - l) := Fr.new
      generalize upd H1 p2 (.tup (frV (u - l))) = H2 at e2 f2 ⊢
      refine ⟨_, _, y - l, u - l, rfl, f1.same e2, f2, (sm_minus sy sl).mono (by decide), (sm_minus su sl).mono (by decide), by grind, fun p3 n3 => ?_⟩
      exact q _ _ ((e1.trans e2).trans (Same.new n3)) Fr.new
end
end My

namespace My
open PySem PySem.Spec PyProof.Rows L2 LamX NdefX
theorem tabs_upd {T : List (Addr × Str)} {H : Hp} {q : Addr} {o o' : HO} (hq : H q = some o) (n1 : ∀ ps, o ≠ .tbl ps) (n2 : ∀ c x, o ≠ CodeO c x) (h : Tabs T H) : Tabs T (upd H q o') := fun p hp => by
  obtain ⟨ps, h1, h2, h3⟩ := h p hp
  refine ⟨ps, by rw [upd_ne (ne_of h1 hq fun z => n1 ps z.symm)]; exact h1, h2, fun pos cv hc => ?_⟩
  obtain ⟨c, e1, e2⟩ := h3 pos cv hc
  exact ⟨c, e1, by rw [upd_ne (ne_of e2 hq fun z => n2 _ _ z.symm)]; exact e2⟩
theorem lst_tbl {xs : List V} : ∀ ps, HO.lst xs ≠ .tbl ps := fun _ z => by cases z
theorem lst_code {xs : List V} : ∀ c x, HO.lst xs ≠ CodeO c x := fun c x z => by
  unfold CodeO at z
  cases z
theorem ins_tbl {C dx : Addr} {fs : List (Str × V)} : ∀ ps, HO.ins C dx fs ≠ .tbl ps := fun _ z => by cases z
theorem ins_code {C dx : Addr} {fs : List (Str × V)} : ∀ c x, HO.ins C dx fs ≠ CodeO c x := fun c x z => by
  unfold CodeO at z
  cases z
/-- a fraction is no list, no instance -/
theorem Fr.upd {K : PySem.W.Frag} {H : Hp} {v : V} {r : Rat} {q : Addr} {o o' : HO} (h : Fr K H v r) (hq : H q = some o) (n1 : ∀ xs, o ≠ .tup xs) (n2 : ∀ b u, o ≠ .frz b u) : Fr K (upd H q o') v r := by
  obtain ⟨d, rfl, hd⟩ := h
  refine ⟨d, rfl, ?_⟩
  rcases hd with (hd | ⟨b, hd⟩) | hd
  · exact .inl (.inl (by rw [upd_ne (ne_of hd hq fun z => n1 _ z.symm)]; exact hd))
  · exact .inl (.inr ⟨b, by rw [upd_ne (ne_of hd hq fun z => n2 _ _ z.symm)]; exact hd⟩)
  · exact .inr hd
theorem Frs.upd {K : PySem.W.Frag} {H : Hp} {cs : List V} {rs : List Rat} {q : Addr} {o o' : HO} (h : Frs K H cs rs) (hq : H q = some o) (n1 : ∀ xs, o ≠ .tup xs) (n2 : ∀ b u, o ≠ .frz b u) : Frs K (upd H q o') cs rs := ⟨h.len, fun i v r a b => (h.each i v r a b).upd hq n1 n2⟩
theorem lst_tup {xs : List V} : ∀ ys, HO.lst xs ≠ .tup ys := fun _ z => by cases z
theorem lst_frz {xs : List V} : ∀ b u, HO.lst xs ≠ .frz b u := fun _ _ z => by cases z
theorem ins_tup {C dx : Addr} {fs : List (Str × V)} : ∀ ys, HO.ins C dx fs ≠ .tup ys := fun _ z => by cases z
theorem ins_frz {C dx : Addr} {fs : List (Str × V)} : ∀ b u, HO.ins C dx fs ≠ .frz b u := fun _ _ z => by cases z
theorem frs_nil {K : PySem.W.Frag} {H : Hp} : Frs K H [] [] := ⟨rfl, fun i v r z => by simp at z⟩
theorem frs_app {K : PySem.W.Frag} {H : Hp} {cs ds : List V} {rs ss : List Rat} (h : Frs K H cs rs) (h' : Frs K H ds ss) : Frs K H (cs ++ ds) (rs ++ ss) := by
  refine ⟨by rw [List.length_append, List.length_append, h.len, h'.len], fun i x y a b => ?_⟩
  by_cases hi : i < cs.length
  · rw [List.getElem?_append_left hi] at a
    rw [List.getElem?_append_left (by rw [← h.len]; exact hi)] at b
    exact h.each i x y a b
  · rw [List.getElem?_append_right (by omega)] at a
    rw [List.getElem?_append_right (by rw [← h.len]; omega), ← h.len] at b
    exact h'.each _ x y a b
theorem frs_one {K : PySem.W.Frag} {H : Hp} {v : V} {r : Rat} (h : Fr K H v r) : Frs K H [v] [r] := by
  refine ⟨rfl, fun i x y a b => ?_⟩
  cases i with
  | zero =>
    cases a
    cases b
    exact h
  | succ i => simp at a
theorem frs_take {K : PySem.W.Frag} {H : Hp} {cs : List V} {rs : List Rat} (j : Nat) (h : Frs K H cs rs) : Frs K H (cs.take j) (rs.take j) := by
  refine ⟨by rw [List.length_take, List.length_take, h.len], fun i x y a b => ?_⟩
  rw [List.getElem?_take] at a b
  split at a
  · rw [if_pos (by assumption)] at b
    exact h.each i x y a b
  · cases a
theorem frs_drop {K : PySem.W.Frag} {H : Hp} {cs : List V} {rs : List Rat} (j : Nat) (h : Frs K H cs rs) : Frs K H (cs.drop j) (rs.drop j) := by
  refine ⟨by rw [List.length_drop, List.length_drop, h.len], fun i x y a b => ?_⟩
  rw [List.getElem?_drop] at a b
  exact h.each _ x y a b
/-- a list that is new since H is changed -/
theorem Grow.upd {T : List (Addr × Str)} {H H' : Hp} {q : Addr} {xs : List V} {o' : HO} (g : Grow T H H') (n : New H q) (hq : H' q = some (.lst xs)) : Grow T H (upd H' q o') := by
  refine ⟨fun b o e ht => ?_, fun t => tabs_upd hq lst_tbl lst_code (g.tabs t)⟩
  rw [upd_ne (n.ne e ht).symm]
  exact g.at e ht
/-! ### chances_for, in plain Lean -/
theorem chancesFor_is {t : Krdf.Table} {gi : Nat} {x y : Rat} : Krdh.chancesFor t gi x y = t.scores.map fun s => shareOf (Krdh.lower t gi x) (Krdh.upper t gi x) y * (Krdh.most t gi x).getD s 0 + (1 - shareOf (Krdh.lower t gi x) (Krdh.upper t gi x) y) * (Krdh.fewest t gi x).getD s 0 := rfl
theorem chancesFor_at {t : Krdf.Table} {gi i : Nat} {x y m f : Rat} (hm : (Krdh.most t gi x)[i]? = some m) (hf : (Krdh.fewest t gi x)[i]? = some f) : (Krdh.chancesFor t gi x y)[i]? = some (m * shareOf (Krdh.lower t gi x) (Krdh.upper t gi x) y + f * (1 - shareOf (Krdh.lower t gi x) (Krdh.upper t gi x) y)) := by
  have hi : i < t.k := by
    have := (List.getElem?_eq_some_iff.mp hm).1
    rw [most_length] at this
    exact this
  have e1 : (Krdh.most t gi x).getD i 0 = m := by rw [List.getD_eq_getElem?_getD, hm]; rfl
  have e2 : (Krdh.fewest t gi x).getD i 0 = f := by rw [List.getD_eq_getElem?_getD, hf]; rfl
  rw [chancesFor_is, List.getElem?_map]
  unfold Krdf.Table.scores
  rw [List.getElem?_range hi]
  show some (shareOf (Krdh.lower t gi x) (Krdh.upper t gi x) y * (Krdh.most t gi x).getD i 0 + (1 - shareOf (Krdh.lower t gi x) (Krdh.upper t gi x) y) * (Krdh.fewest t gi x).getD i 0) = _
  rw [e1, e2]
  congr 1
  grind
section
variable {P : Program} {w : World} {K : PySem.W.Frag} {mg : Str → Option Value} {base : Heap} {C aZ aO : Addr} {T : List (Addr × Str)}
/-! ### chances_for -/
def spFor (K : PySem.W.Frag) (C : Addr) (T : List (Addr × Str)) : Sp := fun vs H Q _ => ∃ (g : GA) (t : Krdf.Table) (gi : Nat) (ch : List Rat) (vx vy : V) (x y : Rat), vs = [.ref g.p, vx, vy] ∧ GrpAt K C H g (soL t gi) (noL t gi) ch ∧ TOk t ∧ 0 < t.yes gi ∧ 0 < t.no gi ∧ Tabs T H ∧
  XAt K H vx x ∧ Fr K H vy y ∧ Sm 700 y ∧ Krdh.can t gi x y = true ∧ ∀ (p : Addr) (H' : Hp) (cs : List V), Grow T H H' → New H p → H' p = some (.lst cs) → Frs K H' cs (Krdh.chancesFor t gi x y) → Q (.ref p) H'
theorem scFor : FnScope ["group", "x", "y", "share", "rest", "most", "fewest", "of_most", "of_fewest"] ["group", "x", "y"] (defScope sChancesFor) := ⟨rfl, rfl, rfl, by decide +kernel, rfl, by decide +kernel, by decide +kernel⟩
theorem share_sm {l u y : Rat} (hl : Sm 436 l) (hu : Sm 436 u) (hy : Sm 700 y) (hle : l ≤ u) : Sm 2100 (shareOf l u y) := by
  unfold shareOf
  split
  · exact sm_zero (by decide)
  · exact (sm_quot (sm_minus hy hl) (sm_minus hu hl) (by grind)).mono (by decide)
theorem ok_for (D : Has K mg "chances_for" sChancesFor ["group", "x", "y"]) (G : TxtG K mg C) (Z : TxtZ K mg aZ aO) (PL : Kept P w K mg base 3 "plus" ["left", "right"] (spPlus K)) (MI : Kept P w K mg base 3 "minus" ["left", "right"] (spMinus K)) (PR : Kept P w K mg base 3 "product" ["left", "right"] (spProduct K))
    (SH : Kept P w K mg base 4 "share_of_most" ["low", "high", "y"] (spShare K)) (MY : Kept P w K mg base 6 "most_y" ["group", "x"] (spY K C T Krdh.most)) (FY : Kept P w K mg base 6 "fewest_y" ["group", "x"] (spY K C T Krdh.fewest))
    (MC : Kept P w K mg base 5 "most_chances" ["group", "x"] (spMost K C T Krdh.most)) (FC : Kept P w K mg base 5 "fewest_chances" ["group", "x"] (spMost K C T Krdh.fewest)) :
    Kept P w K mg base 7 "chances_for" ["group", "x", "y"] (spFor K C T) := by
  refine D.kept scFor (fun vs H Q E h => ?_) (fun f cdv A outer s H vs Q E hr h => ⟨_, pss_cons (ps_set (i := 3) scFor.nd rfl (Or.inr rfl) (pe_def SH (hr.mono (by decide)) rfl (pa_cons (pe_def FY hr rfl (pa_cons (pv 0) (pa_cons (pv 1) pa_nil))) (pa_cons (pe_def MY hr rfl (pa_cons (pv 0) (pa_cons (pv 1) pa_nil))) (pa_cons (pv 2) pa_nil)))))
    (pss_cons (ps_set (i := 4) scFor.nd rfl (Or.inr rfl) (pe_def MI (hr.mono (by decide)) rfl (pa_cons (pe_ref rfl Z.gO) (pa_cons (pv 3) pa_nil))))
    (pss_cons (ps_set (i := 5) scFor.nd rfl (Or.inl rfl) (pe_def MC (hr.mono (by decide)) rfl (pa_cons (pv 0) (pa_cons (pv 1) pa_nil))))
    (pss_cons (ps_set (i := 6) scFor.nd rfl (Or.inl rfl) (pe_def FC (hr.mono (by decide)) rfl (pa_cons (pv 0) (pa_cons (pv 1) pa_nil))))
    (pss_one (ps_ret (pe_lc (own := [("of_most", 7), ("of_fewest", 8)]) (g := gTup K 2 (gCons (gName 7) (gCons (gName 8) gNil))) (tt := tYes) (te := tCall (spPlus K) [] E0 (tCons (tCall (spProduct K) [] E0 (tCons (tVar 7) (tCons (tVar 3) tNil))) (tCons (tCall (spProduct K) [] E0 (tCons (tVar 8) (tCons (tVar 4) tNil))) tNil))) rfl scFor.nd
      (pi_zip (by rfl) G.zip (pa_cons (pv 5) (pa_cons (pv 6) pa_nil))) (blkOk_by (N := ["group", "x", "y", "share", "rest", "most", "fewest", "of_most", "of_fewest"]) (sc := defScope sChancesFor) (by decide +kernel))
      (fun _ _ _ _ _ => pg_tup rfl (pgs_cons (pg_name (i := 7) scFor.nd rfl (Or.inl rfl)) (pgs_cons (pg_name (i := 8) scFor.nd rfl (Or.inl rfl)) pgs_nil))) (fun _ _ _ _ _ => pts_nil)
      (fun _ _ _ _ _ => pe_def PL (hr.mono (by decide)) rfl (pa_cons (pe_def PR (hr.mono (by decide)) rfl (pa_cons (pv 7) (pa_cons (pv 3) pa_nil))) (pa_cons (pe_def PR (hr.mono (by decide)) rfl (pa_cons (pv 8) (pa_cons (pv 4) pa_nil))) pa_nil))))))))), ?_⟩)
  · obtain ⟨_, _, _, _, _, _, _, _, rfl, _⟩ := h
    rfl
  · obtain ⟨g, t, gi, ch, vx, vy, x, y, rfl, hG, ok, hY, hN, hT, hx, hy, sy, hcan, q⟩ := h
    have s1 : Sm 436 (Krdh.lower t gi x) := lower_sm ok hY hN hx.nonneg hx.sm.2
    have s2 : Sm 436 (Krdh.upper t gi x) := upper_sm ok hY hN hx.nonneg hx.sm.2
    obtain ⟨c1, c2⟩ := can_iff.mp hcan
    have hle : Krdh.lower t gi x ≤ Krdh.upper t gi x := by grind
    refine ⟨_, rfl, _, rfl, g, t, gi, ch, vx, x, rfl, hG, ok, hY, hN, hT, hx, fun v1 H1 e1 f1 => ?_⟩
    refine ⟨_, rfl, _, rfl, g, t, gi, ch, vx, x, rfl, hG.grow e1, ok, hY, hN, e1.tabs hT, hx.grow e1, fun v2 H2 e2 f2 => ?_⟩
    have e02 := e1.trans e2
    refine ⟨_, rfl, v1, v2, vy, Krdh.lower t gi x, Krdh.upper t gi x, y, rfl, f1.grow e2, f2, hy.grow e02, s1.mono (by decide), s2.mono (by decide), sy.mono (by decide), hle, fun v3 H3 e3 f3 => ?_⟩
    have ssh := share_sm s1 s2 sy hle
    have hch : ∀ i m fw, (Krdh.most t gi x)[i]? = some m → (Krdh.fewest t gi x)[i]? = some fw → (Krdh.chancesFor t gi x y)[i]? = some (m * shareOf (Krdh.lower t gi x) (Krdh.upper t gi x) y + fw * (1 - shareOf (Krdh.lower t gi x) (Krdh.upper t gi x) y)) := fun i m fw hm hf => chancesFor_at hm hf
    generalize shareOf (Krdh.lower t gi x) (Krdh.upper t gi x) y = k at f3 ssh hch
    have e03 := e02.trans (Same.grow (T := T) e3)
    refine ⟨_, rfl, _, v3, 1, k, rfl, ⟨aO, rfl, Z.one _⟩, f3, sm_one (by decide), ssh.mono (by decide), fun p4 n4 => ?_⟩
    have e4 := Same.new (o := .tup (frV (1 - k))) n4
    have f4 : Fr K (upd H3 p4 (.tup (frV (1 - k)))) (.ref p4) (1 - k) := Fr.new
    have srest : Sm 2102 (1 - k) := (sm_minus (n := 1) (sm_one (by decide)) ssh).mono (by decide)
    generalize upd H3 p4 (.tup (frV (1 - k))) = H4 at e4 f4 ⊢
    have e04 := e03.trans (Same.grow (T := T) e4)
    refine ⟨_, rfl, _, rfl, g, t, gi, ch, vx, x, rfl, hG.grow e04, ok, hN, e04.tabs hT, hx.grow e04, fun p5 H5 ms e5 h5 m5 => ?_⟩
    have e05 := e04.trans e5
    refine ⟨_, rfl, _, rfl, g, t, gi, ch, vx, x, rfl, hG.grow e05, ok, hN, e05.tabs hT, hx.grow e05, fun p6 H6 fs e6 h6 m6 => ?_⟩
    have e06 := e05.trans e6
    have h56 := e6.at h5 lst_tbl
    have m56 := m5.grow e6
    have k3 : Fr K H6 v3 k := (f3.same e4).grow (e5.trans e6)
    have k4 : Fr K H6 (.ref p4) (1 - k) := f4.grow (e5.trans e6)
    have ml := most_length t gi x
    have fl := fewest_length t gi x
    have k4' := ok.k4
    have lm : ms.length = t.k := m5.len.trans ml
    have lf : fs.length = t.k := m6.len.trans fl
    refine ⟨_, rfl, _, rfl, p5, p6, ms, fs, rfl, SqL.of h56, SqL.of h6, fun D nD => ?_⟩
    refine lc_it (walk_zip (K := K) (a := p5) (b := p6) (xs := ms) (ys := fs) (n := t.k) (by rw [lm, lf]; exact (Nat.min_self _).symm)) (fun i H' => ∃ cs, Same H6 H' ∧ H' D = some (.lst cs) ∧ Frs K H' cs ((Krdh.chancesFor t gi x y).take i))
      ⟨[], Same.new nD, upd_same, by rw [List.take_zero]; exact frs_nil⟩ (fun i H' _ ⟨_, e, _⟩ => ⟨e.seq (SqL.of h56), e.seq (SqL.of h6)⟩) ?_ ?_
    · rintro i v H' H'' hi ⟨cs, e, hD, hF⟩ ⟨tp, vm, vf, rfl, ntp, rfl, hvm, hvf⟩
      have hm : (Krdh.most t gi x)[i]? = some ((Krdh.most t gi x)[i]'(by omega)) := List.getElem?_eq_getElem (by omega)
      have hf : (Krdh.fewest t gi x)[i]? = some ((Krdh.fewest t gi x)[i]'(by omega)) := List.getElem?_eq_getElem (by omega)
      generalize (Krdh.most t gi x)[i]'(by omega) = m at hm
      generalize (Krdh.fewest t gi x)[i]'(by omega) = fw at hf
      have e7 := Same.new (o := .tup [vm, vf]) ntp
      have sq7 : SqT K (upd H' tp (.tup [vm, vf])) tp [vm, vf] := SqT.of upd_same
      generalize upd H' tp (.tup [vm, vf]) = H7 at e7 sq7 ⊢
      have e67 := e.trans e7
      have sm1 : Sm 410 m := most_sm hN ok hx.nonneg hx.sm m (List.mem_of_getElem? hm)
      have sm2 : Sm 410 fw := fewest_sm hN ok hx.nonneg hx.sm fw (List.mem_of_getElem? hf)
      have fm := (m56.each i vm m hvm hm).same e67
      have ff := (m6.each i vf fw hvf hf).same e67
      refine ⟨tp, _, rfl, sq7, rfl, _, _, rfl, _, _, rfl, rfl, rfl, ?_⟩
      refine ⟨_, rfl, _, rfl, vm, v3, m, k, rfl, fm, k3.same e67, sm1.mono (by decide), ssh.mono (by decide), fun p8 n8 => ?_⟩
      have e8 := Same.new (o := .tup (frV (m * k))) n8
      have f8 : Fr K (upd H7 p8 (.tup (frV (m * k)))) (.ref p8) (m * k) := Fr.new
      generalize upd H7 p8 (.tup (frV (m * k))) = H8 at e8 f8 ⊢
      refine ⟨_, rfl, _, rfl, vf, .ref p4, fw, 1 - k, rfl, ff.same e8, (k4.same e67).same e8, sm2.mono (by decide), srest.mono (by decide), fun p9 n9 => ?_⟩
      have e9 := Same.new (o := .tup (frV (fw * (1 - k)))) n9
      have f9 : Fr K (upd H8 p9 (.tup (frV (fw * (1 - k))))) (.ref p9) (fw * (1 - k)) := Fr.new
      generalize upd H8 p9 (.tup (frV (fw * (1 - k)))) = H9 at e9 f9 ⊢
      refine ⟨_, _, m * k, fw * (1 - k), rfl, f8.same e9, f9, (sm_product sm1 ssh).mono (by decide), (sm_product sm2 srest).mono (by decide), fun pa na => ?_⟩
      have ea := Same.new (o := .tup (frV (m * k + fw * (1 - k)))) na
      have fa : Fr K (upd H9 pa (.tup (frV (m * k + fw * (1 - k))))) (.ref pa) (m * k + fw * (1 - k)) := Fr.new
      generalize upd H9 pa (.tup (frV (m * k + fw * (1 - k)))) = Ha at ea fa ⊢
      have e7a := ((e7.trans e8).trans e9).trans ea
      refine ⟨cs, e7a _ _ hD, ?_, cs ++ [.ref pa], fun b u eb => ?_, upd_same, ?_⟩
      · rw [hF.len, List.length_take]
        exact Nat.lt_of_le_of_lt (show min i (Krdh.chancesFor t gi x y).length ≤ 4 by omega) (by decide)
      · rw [upd_ne (ne_of_none eb nD)]
        exact e7a _ _ (e b u eb)
      · rw [take_more (hch i m fw hm hf)]
        exact (frs_app (hF.same e7a) (frs_one fa)).upd (e7a _ _ hD) lst_tup lst_frz
    · rintro H' ⟨cs, e, hD, hF⟩
      rw [List.take_of_length_le (by rw [chancesFor_length]; exact Nat.le_refl _)] at hF
      exact q D H' cs (e06.trans (Same.grow e)) (New.back e06 nD) hD hF
/-! ### corner_xs -/
def spCorners (K : PySem.W.Frag) (C : Addr) (T : List (Addr × Str)) : Sp := fun vs H Q _ => ∃ (g : GA) (t : Krdf.Table) (gi : Nat) (ch : List Rat), vs = [.ref g.p] ∧ GrpAt K C H g (soL t gi) (noL t gi) ch ∧ TOk t ∧ 0 < t.no gi ∧ Tabs T H ∧
  ∀ (p : Addr) (H' : Hp) (cs : List V), Grow T H H' → H' p = some (.lst cs) → Frs K H' cs (Krdh.corners t gi) → Q (.ref p) H'
theorem scCorners : FnScope ["group", "everybody", "passed", "xs", "score"] ["group"] (defScope sCornerXs) := ⟨rfl, rfl, rfl, by decide +kernel, rfl, by decide +kernel, by decide +kernel⟩
theorem cornerN_more {t : Krdf.Table} {gi i s : Nat} (h : (Krdh.ordered t gi true)[i]? = some s) : cornerN t gi (i + 1) = cornerN t gi i + (t.cell gi s).2 := by
  unfold cornerN
  rw [take_more h, List.map_append, List.sum_append]
  simp
theorem corners_more {t : Krdf.Table} {gi i : Nat} (h : i < (Krdh.ordered t gi true).length) : (Krdh.corners t gi).take (i + 1 + 1) = (Krdh.corners t gi).take (i + 1) ++ [((cornerN t gi (i + 1) : Nat) : Rat) / (t.no gi : Rat)] := by
  refine take_more ?_
  rw [corners_is, List.getElem?_map, List.getElem?_range (by omega)]
  rfl
theorem corners_first {t : Krdf.Table} {gi : Nat} : (Krdh.corners t gi).take 1 = [0] := by
  have : (Krdh.corners t gi)[0]? = some 0 := by
    rw [corners_is, List.getElem?_map, List.getElem?_range (by omega)]
    show some (((cornerN t gi 0 : Nat) : Rat) / (t.no gi : Rat)) = some 0
    have e : cornerN t gi 0 = 0 := rfl
    rw [e, Rat.div_def]
    simp
  rw [take_more this]
  rfl
theorem ok_cornerXs (D : Has K mg "corner_xs" sCornerXs ["group"]) (G : TxtG K mg C) (Z : TxtZ K mg aZ aO) (R : Kept P w K mg base 2 "reduced" ["upper", "lower"] spReduced) (O : Kept P w K mg base 4 "scores_in_order" ["group"] (spOrder K C T fun t gi => Krdh.ordered t gi true)) :
    Kept P w K mg base 5 "corner_xs" ["group"] (spCorners K C T) := by
  refine D.kept scCorners (fun vs H Q E h => ?_) (fun f cdv A outer s H vs Q E hr h => ⟨_, pss_cons (ps_set (i := 1) scCorners.nd rfl (Or.inl rfl) (pe_callB (cr_sum rfl) (by rfl) G.sum boot_sum (pa_cons (pe_fld (pv 0) rfl) pa_nil)))
    (pss_cons (ps_set (i := 2) scCorners.nd rfl (Or.inl rfl) pe_int) (pss_cons (ps_set (i := 3) scCorners.nd rfl (Or.inl rfl) (pe_lst (pa_cons (pe_ref rfl Z.gZ) pa_nil)))
    (pss_cons (ps_for PassesOwn.never rfl (pi_list (pe_def O hr rfl (pa_cons (pv 0) pa_nil))) (pg_name (i := 4) scCorners.nd rfl (Or.inl rfl))
      (pss_cons (ps_set (i := 2) scCorners.nd rfl (Or.inl rfl) (pe_op op_add (pv 2) (pe_ix ix_list (pe_fld (pv 0) rfl) (pv 4) (fun _ _ => rfl))))
      (pss_one (ps_expr (pe_bm PySem.F.plainAttrs_list PySem.F.slot_list_append PySem.F.type_list_append mt_append (pv 3) (pa_cons (pe_def R (hr.mono (by decide)) rfl (pa_cons (pv 2) (pa_cons (pv 1) pa_nil))) pa_nil))))))
    (pss_one (ps_ret (pv 3)))))), ?_⟩)
  · obtain ⟨_, _, _, _, rfl, _⟩ := h
    rfl
  · obtain ⟨g, t, gi, ch, rfl, hG, ok, hN, hT, q⟩ := h
    refine ⟨_, rfl, g.p, C, g.dx, _, _, rfl, hG.ins, G.cl, G.nN, gF_no, g.aN, _, rfl, SqL.of hG.no, one_le, fun o no => ?_⟩
    have e1 := Same.new (o := .lst [V.ref aZ]) no
    have ho1 : upd H o (.lst [V.ref aZ]) o = some (.lst [V.ref aZ]) := upd_same
    generalize upd H o (.lst [V.ref aZ]) = H1 at e1 ho1 ⊢
    have g1 : Grow T H H1 := Same.grow e1
    refine ⟨_, rfl, g, t, gi, ch, rfl, hG.grow g1, ok, g1.tabs hT, fun l H2 e2 hl => ?_⟩
    have hl : H2 l = some (.lst (nV (Krdh.ordered t gi true))) := hl
    have g2 := g1.trans e2
    have hG2 := hG.grow g2
    rw [no_sum]
    have l4 := ordered_len (g := gi) ok
    have nlo : l ≠ o := fun z => by
      have h2 := e2.at ho1 lst_tbl
      rw [← z, hl] at h2
      injection h2 with h2
      injection h2 with h2
      cases hk : Krdh.ordered t gi true with
      | nil => rw [hk] at h2; cases h2
      | cons a r => rw [hk] at h2; cases h2
    refine ⟨l, rfl, ⟨_, SqL.of hl⟩, for_list (K := K) (a := l) (xs := nV (Krdh.ordered t gi true)) (fun i σ H' => ∃ (o4 : Option V) (cs : List V), σ = [some (.ref g.p), some (.int (t.no gi : Int)), some (.int (cornerN t gi i : Int)), some (.ref o), o4] ∧ Grow T H H' ∧ H' l = some (.lst (nV (Krdh.ordered t gi true))) ∧ H' o = some (.lst cs) ∧ Frs K H' cs ((Krdh.corners t gi).take (i + 1)))
      ⟨none, _, rfl, g2, hl, e2.at ho1 lst_tbl, by rw [corners_first]; exact frs_one ⟨aZ, rfl, Z.zero _⟩⟩ (fun i σ H' _ ⟨_, _, _, _, h, _⟩ => SqL.of h) ?_ ?_⟩
    · rintro i v σ H' hi ⟨o4, cs, rfl, gr, hl', ho', hF⟩
      obtain ⟨sc, hsc, rfl⟩ := nV_at hi
      have hk : sc < t.k := some_lt (sortBy_sub (List.mem_of_getElem? hsc))
      have li := (List.getElem?_eq_some_iff.mp hsc).1
      have hG' := hG.grow gr
      have nl := no_lt (gi := gi) ok
      refine ⟨_, rfl, _, rfl, g.p, C, g.dx, _, _, rfl, hG'.ins, G.cl, G.nN, gF_no, _, rfl, g.aN, _, _, _, rfl, rfl, SqL.of hG'.no, map_at (noL_at hk), _, _, rfl, rfl, ?_⟩
      have ec : ((cornerN t gi i : Nat) : Int) + (((t.cell gi sc).2 : Nat) : Int) = ((cornerN t gi (i + 1) : Nat) : Int) := by
        rw [cornerN_more hsc]
        omega
      refine ⟨_, rfl, .inl ⟨rfl, _, SqL.of ho'⟩, _, rfl, _, rfl, _, _, rfl, by omega, ?_, fun p np => ?_⟩
      · exact Nat.lt_of_lt_of_le (show ((t.no gi : Nat) : Int).natAbs < 2 ^ 9 by omega) (Nat.pow_le_pow_right (by decide) (by decide))
      · have e3 := Same.new (o := .tup (frV (((((cornerN t gi i : Nat) : Int) + (((t.cell gi sc).2 : Nat) : Int) : Int) : Rat) / (((t.no gi : Nat) : Int) : Rat)))) np
        have f3 : Fr K (upd H' p (.tup (frV (((((cornerN t gi i : Nat) : Int) + (((t.cell gi sc).2 : Nat) : Int) : Int) : Rat) / (((t.no gi : Nat) : Int) : Rat))))) (.ref p) (((cornerN t gi (i + 1) : Nat) : Rat) / (t.no gi : Rat)) := by
          rw [ec, natZ, natZ]
          exact Fr.new
        refine ⟨o, _, _, rfl, rfl, e3 _ _ ho', ?_, ?_⟩
        · rw [hF.len, List.length_take]
          exact Nat.lt_of_le_of_lt (show min (i + 1) (Krdh.corners t gi).length ≤ 5 by omega) (by decide)
        · refine ⟨some (.int sc), cs ++ [.ref p], ?_, (gr.trans (Same.grow e3)).upd (New.of no) (e3 _ _ ho'), (upd_ne nlo).trans (e3 _ _ hl'), upd_same, ?_⟩
          · rw [← ec]
            rfl
          · rw [corners_more li]
            exact (frs_app (hF.same e3) (frs_one f3)).upd (e3 _ _ ho') lst_tup lst_frz
    · rintro σ H' ⟨o4, cs, rfl, gr, hl', ho', hF⟩
      rw [nV_len, List.take_of_length_le (by rw [corners_is, List.length_map, List.length_range]; exact Nat.le_refl _)] at hF
      exact ⟨_, rfl, q o H' cs gr ho' hF⟩
end
end My

namespace My
open PySem PySem.Spec PyProof.Rows L2 LamX NdefX
/-! ### both groups in a list -/
structure Two (K : PySem.W.Frag) (C : Addr) (H : Hp) (aG : Addr) (g0 g1 : GA) (t : Krdf.Table) (c0 c1 : List Rat) : Prop where
  grp : H aG = some (.lst [.ref g0.p, .ref g1.p])
  gr0 : GrpAt K C H g0 (soL t 0) (noL t 0) c0
  gr1 : GrpAt K C H g1 (soL t 1) (noL t 1) c1
theorem Two.grow {T : List (Addr × Str)} {K : PySem.W.Frag} {C : Addr} {H H' : Hp} {aG : Addr} {g0 g1 : GA} {t : Krdf.Table} {c0 c1 : List Rat} (h : Two K C H aG g0 g1 t c0 c1) (e : Grow T H H') : Two K C H' aG g0 g1 t c0 c1 := ⟨e.at h.grp fun _ z => (by cases z), h.gr0.grow e, h.gr1.grow e⟩
theorem Two.same {K : PySem.W.Frag} {C : Addr} {H H' : Hp} {aG : Addr} {g0 g1 : GA} {t : Krdf.Table} {c0 c1 : List Rat} (h : Two K C H aG g0 g1 t c0 c1) (e : Same H H') : Two K C H' aG g0 g1 t c0 c1 := h.grow (T := []) (Same.grow e)
theorem In.xat {K : PySem.W.Frag} {H : Hp} {v : V} {x : Rat} {n : Nat} (h : In n x) (hn : n ≤ 400) (f : Fr K H v x) : XAt K H v x := XAt.of f h.ge (h.sm.mono hn)
section
variable {P : Program} {w : World} {K : PySem.W.Frag} {mg : Str → Option Value} {base : Heap} {C aZ aO : Addr} {T : List (Addr × Str)}
/-! ### put_in_order by is_less -/
def LessG (K : PySem.W.Frag) (mg : Str → Option Value) (f : Addr) (sp : Sp) : Prop := mg "is_less" = some (.ref f) ∧ sp = spLess K
theorem less_held (L : Kept P w K mg base 1 "is_less" ["left", "right"] (spLess K)) : ∀ f sp, LessG K mg f sp → Held P w K mg base 1 f sp := fun f sp h => by
  obtain ⟨h, rfl⟩ := h
  obtain ⟨f', fd, F, m, kp, b⟩ := L
  rw [m] at h
  cases h
  exact ⟨fd, _, F, kp, b⟩
def spPut (K : PySem.W.Frag) (mg : Str → Option Value) : Sp := fun vs H Q _ => ∃ (l f : Addr) (cs : List V) (rs : List Rat), vs = [.ref l, .ref f] ∧ mg "is_less" = some (.ref f) ∧ SqL K H l cs ∧ Frs K H cs rs ∧ rs.length ≤ 100 ∧ (∀ r ∈ rs, Sm 4000 r) ∧
  ∀ (p : Addr) (H' : Hp) (cs' : List V), Same H H' → H p = none → H' p = some (.lst cs') → Frs K H' cs' (sortR rs) → Q (.ref p) H'
theorem frs_ins {H : Hp} {cs : List V} {rs : List Rat} {v : V} {r : Rat} (j : Nat) (h : Frs K H cs rs) (hv : Fr K H v r) : Frs K H (cs.take j ++ [v] ++ cs.drop j) (rs.take j ++ [r] ++ rs.drop j) := frs_app (frs_app (frs_take j h) (frs_one hv)) (frs_drop j h)
theorem ok_put (D : Has K mg "put_in_order" sPutInOrder ["given", "is_ahead"]) (G : TxtG K mg C) (IL : Kept P w K mg base 1 "is_less" ["left", "right"] (spLess K)) : Kept P w K mg base 2 "put_in_order" ["given", "is_ahead"] (spPut K mg) := by
  have HB := less_held IL
  refine D.kept scPut (fun vs H Q E h => ?_) (fun f cdv A outer s H vs Q E hr h => ⟨_, pss_cons (ps_set (i := 2) scPut.nd rfl (Or.inl rfl) (pe_lst pa_nil)) (pss_cons (ps_for PassesOwn.never rfl (pi_list (pv 0)) (pg_name (i := 3) scPut.nd rfl (Or.inl rfl))
      (pss_cons (ps_set (i := 4) scPut.nd rfl (Or.inl rfl) pe_int)
      (pss_cons (ps_while PassesOwn.never (PW.pt (pw_and (pt_cmpR op_lt (pv 4) (pe_callB call_len_seq (by rfl) G.len PySem.boot_len (pa_cons (pv 2) pa_nil)) (nomark _))
          (pw_and1 (pt_not (pt_val (pe_callG (i := 1) HB hr rfl (Or.inl rfl) (pa_cons (pv 3) (pa_cons (pe_ix ix_list (pv 2) (pv 4) (fun _ _ => rfl)) pa_nil))))))))
        (pss_one (ps_set (i := 4) scPut.nd rfl (Or.inl rfl) (pe_op op_add (pv 4) pe_int))))
      (pss_one (ps_expr (pe_bm PySem.F.plainAttrs_list PySem.F.slot_list_insert PySem.F.type_list_insert mt_insert (pv 2) (pa_cons (pv 4) (pa_cons (pv 3) pa_nil))))))))
    (pss_one (ps_ret (pv 2)))), ?_⟩)
  · obtain ⟨_, _, _, _, rfl, _⟩ := h
    rfl
  · obtain ⟨l, fl, cs, rs, rfl, hm, hS, hF, hlen, hsm, q⟩ := h
    refine ⟨Nat.zero_le _, fun o no => ?_⟩
    have s1 : Same H (upd H o (.lst [])) := Same.new no
    refine ⟨_, rfl, l, rfl, ⟨_, s1.seq hS⟩, for_list (K := K) (a := l) (xs := cs) (fun i σ H' => ∃ o3 o4 ds, σ = [some (.ref l), some (.ref fl), some (.ref o), o3, o4] ∧ Same H H' ∧ H' o = some (.lst ds) ∧ Frs K H' ds (sortR (rs.take i)))
      ⟨none, none, _, rfl, s1, upd_same, frs_nil⟩ (fun i σ H' _ ⟨_, _, _, _, e, _⟩ => e.seq hS) ?_ ?_⟩
    · rintro i v σ H' hi ⟨o3, o4, ds, rfl, e, ho, hD⟩
      have li : i < cs.length := (List.getElem?_eq_some_iff.mp hi).1
      have hcl := hF.len
      obtain ⟨x, hx⟩ : ∃ r, rs[i]? = some r := ⟨rs[i], List.getElem?_eq_getElem (by omega)⟩
      have fx := (hF.each i v x hi hx).same e
      have hxm := List.mem_of_getElem? hx
      have lk0 : (sortR (rs.take i)).length ≤ 100 := by
        rw [sortR_length, List.length_take]
        omega
      have sub : ∀ y ∈ sortR (rs.take i), y ∈ rs := fun y hy => List.mem_of_mem_take (sortR_mem.mp hy)
      have hmore := sortR_more hx
      generalize sortR (rs.take i) = l0 at hD lk0 sub hmore
      have dl := hD.len
      refine ⟨fun m σ H1 => ∃ j : Nat, σ = [some (.ref l), some (.ref fl), some (.ref o), some v, some (.int j)] ∧ H1 = H' ∧ m = l0.length - j ∧ j ≤ l0.length ∧ ∀ t y, t < j → l0[t]? = some y → ¬ x < y,
        ⟨_, 0, rfl, rfl, rfl, Nat.zero_le _, fun t y ht => absurd ht (Nat.not_lt_zero _)⟩, ?_⟩
      rintro m σ H1 ⟨j, rfl, rfl, rfl, hj, hb⟩
      have fin : (∀ z, l0[j]? = some z → x < z) → insR x l0 = l0.take j ++ [x] ++ l0.drop j := fun hf => insR_at x l0 j hj hb hf
      have ends : (∀ z, l0[j]? = some z → x < z) → ∃ o3 o4 ds', [some (V.ref l), some (V.ref fl), some (V.ref o), some v, some (V.int j)] = [some (.ref l), some (.ref fl), some (.ref o), o3, o4] ∧ Same H (upd H1 o (.lst (ds.take j ++ [v] ++ ds.drop j))) ∧ upd H1 o (.lst (ds.take j ++ [v] ++ ds.drop j)) o = some (.lst ds') ∧ Frs K (upd H1 o (.lst (ds.take j ++ [v] ++ ds.drop j))) ds' (sortR (rs.take (i + 1))) := fun hf => by
        refine ⟨_, _, _, rfl, fun b u eb => ?_, upd_same, ?_⟩
        · rw [upd_ne (ne_of_none eb no)]
          exact e b u eb
        · rw [hmore, fin hf]
          exact (frs_ins j hD fx).upd ho lst_tup lst_frz
      refine ⟨_, rfl, .ref o, rfl, o, _, rfl, .inl (SqL.of ho), _, _, rfl, rfl, _, rfl, ?_⟩
      refine ifD (fun c => ?_) fun c => ?_
      · have cj : j < ds.length := by omega
        have hy : l0[j]? = some (l0[j]'(by omega)) := List.getElem?_eq_getElem (by omega)
        have hv : ds[j]? = some (ds[j]'cj) := List.getElem?_eq_getElem cj
        generalize l0[j]'(by omega) = y at hy
        generalize ds[j]'cj = vy at hv
        have fy := hD.each j vy y hv hy
        refine ⟨fl, _, rfl, ⟨hm, rfl⟩, _, rfl, _, rfl, _, rfl, o, _, _, _, rfl, rfl, SqL.of ho, atI_nat hv, v, vy, x, y, rfl, fx, fy, hsm x hxm, hsm y (sub y (List.mem_of_getElem? hy)), _, rfl, ?_⟩
        refine ifN (fun t => ?_) fun t => ?_
        · refine ⟨fun σ' H2 => σ' = [some (.ref l), some (.ref fl), some (.ref o), some v, some (.int (j + 1 : Nat))] ∧ H2 = H1, fun σ' H2 z => ⟨l0.length - (j + 1), by omega, j + 1, z.1, z.2, rfl, by omega, fun t' y' ht e' => ?_⟩, ?_⟩
          · by_cases hh : t' = j
            · rw [hh, hy] at e'
              cases e'
              exact t
            · exact hb t' y' (by omega) e'
          · exact ⟨_, rfl, _, _, rfl, rfl, rfl, rfl⟩
        · refine ⟨_, rfl, .inl ⟨rfl, _, SqL.of ho⟩, _, rfl, _, rfl, o, _, _, _, rfl, rfl, ho, Nat.lt_of_le_of_lt (show ds.length ≤ 100 by omega) (by decide), by omega, by omega, ?_⟩
          refine ends fun z ez => ?_
          rw [hy] at ez
          cases ez
          exact t
      · refine iteF ?_
        refine ⟨_, rfl, .inl ⟨rfl, _, SqL.of ho⟩, _, rfl, _, rfl, o, _, _, _, rfl, rfl, ho, Nat.lt_of_le_of_lt (show ds.length ≤ 100 by omega) (by decide), by omega, by omega, ?_⟩
        refine ends fun z ez => ?_
        have := (List.getElem?_eq_some_iff.mp ez).1
        omega
    · rintro σ H' ⟨o3, o4, ds, rfl, e, ho, hD⟩
      rw [hF.len, List.take_length] at hD
      exact ⟨_, rfl, q o H' ds e no ho hD⟩
end
end My

namespace My
open PySem PySem.Spec PyProof.Rows L2 LamX NdefX
theorem worth_is {t : Krdf.Table} {u v : Nat} {x y : Rat} : y * (((u : Int) * ((t.yes 0 : Int) + ((t.yes 1 : Int) + 0)) : Int) : Rat) - x * (((v : Int) * ((t.no 0 : Int) + ((t.no 1 : Int) + 0)) : Int) : Rat) = Krdh.worth t u v x y := by
  unfold Krdh.worth
  simp only [Rat.intCast_mul, Rat.intCast_add, natZ, Rat.natCast_add]
  have : ((0 : Int) : Rat) = 0 := rfl
  rw [this]
  grind
theorem worth_sm {t : Krdf.Table} (ok : TOk t) {u v : Nat} {x y : Rat} (hu : u ≤ 100) (hv : v ≤ 100) (hx : Sm 300 x) (hy : Sm 300 y) : Sm 1000 (Krdh.worth t u v x y) := by
  rw [← worth_is]
  have h0 := yes_lt (gi := 0) ok
  have h1 := yes_lt (gi := 1) ok
  have h2 := no_lt (gi := 0) ok
  have h3 := no_lt (gi := 1) ok
  have b1 : ((u : Int) * ((t.yes 0 : Int) + ((t.yes 1 : Int) + 0))).natAbs < 2 ^ (7 + 11) := natAbs_mul_lt (by omega) (by omega)
  have b2 : ((v : Int) * ((t.no 0 : Int) + ((t.no 1 : Int) + 0))).natAbs < 2 ^ (7 + 11) := natAbs_mul_lt (by omega) (by omega)
  exact (sm_minus (sm_times hy b1) (sm_times hx b2)).mono (by decide)
section
variable {P : Program} {w : World} {K : PySem.W.Frag} {mg : Str → Option Value} {base : Heap} {C aZ aO : Addr} {T : List (Addr × Str)}
/-! ### worth_of -/
def spWorth (K : PySem.W.Frag) (C : Addr) : Sp := fun vs H Q _ => ∃ (aG : Addr) (g0 g1 : GA) (t : Krdf.Table) (c0 c1 : List Rat) (u v : Nat) (vx vy : V) (x y : Rat), vs = [.ref aG, .int u, .int v, vx, vy] ∧ Two K C H aG g0 g1 t c0 c1 ∧ TOk t ∧ u ≤ 100 ∧ v ≤ 100 ∧ Fr K H vx x ∧ Fr K H vy y ∧ Sm 300 x ∧ Sm 300 y ∧
  ∀ (p : V) (H' : Hp), Same H H' → Fr K H' p (Krdh.worth t u v x y) → Q p H'
theorem scWorth : FnScope ["groups", "gain", "loss", "x", "y", "so", "not_so", "group"] ["groups", "gain", "loss", "x", "y"] (defScope sWorthOf) := ⟨rfl, rfl, rfl, by decide +kernel, rfl, by decide +kernel, by decide +kernel⟩
theorem ok_worth (D : Has K mg "worth_of" sWorthOf ["groups", "gain", "loss", "x", "y"]) (G : TxtG K mg C) (MI : Kept P w K mg base 3 "minus" ["left", "right"] (spMinus K)) (TI : Kept P w K mg base 3 "times" ["part", "many"] (spTimes K)) :
    Kept P w K mg base 4 "worth_of" ["groups", "gain", "loss", "x", "y"] (spWorth K C) := by
  refine D.kept scWorth (fun vs H Q E h => ?_) (fun f cdv A outer s H vs Q E hr h => ⟨_, pss_cons (ps_set (i := 5) scWorth.nd rfl (Or.inl rfl) (pe_callB (cr_sum rfl) (by rfl) G.sum boot_sum (pa_cons
      (pe_lc (own := [("group", 7)]) (g := gName 7) (tt := tYes) (te := tCB (rSum K) (tCons (tFld K (tVar 7) "so") tNil)) rfl scWorth.nd (pi_list (pv 0)) (blkOk_by (N := ["groups", "gain", "loss", "x", "y", "so", "not_so", "group"]) (sc := defScope sWorthOf) (by decide +kernel))
        (fun _ _ _ _ _ => pg_name (i := 7) scWorth.nd rfl (Or.inl rfl)) (fun _ _ _ _ _ => pts_nil) (fun _ _ _ _ _ => pe_callB (cr_sum rfl) (by rfl) G.sum boot_sum (pa_cons (pe_fld (pv 7) rfl) pa_nil))) pa_nil)))
    (pss_cons (ps_set (i := 6) scWorth.nd rfl (Or.inl rfl) (pe_callB (cr_sum rfl) (by rfl) G.sum boot_sum (pa_cons
      (pe_lc (own := [("group", 7)]) (g := gName 7) (tt := tYes) (te := tCB (rSum K) (tCons (tFld K (tVar 7) "not_so") tNil)) rfl scWorth.nd (pi_list (pv 0)) (blkOk_by (N := ["groups", "gain", "loss", "x", "y", "so", "not_so", "group"]) (sc := defScope sWorthOf) (by decide +kernel))
        (fun _ _ _ _ _ => pg_name (i := 7) scWorth.nd rfl (Or.inl rfl)) (fun _ _ _ _ _ => pts_nil) (fun _ _ _ _ _ => pe_callB (cr_sum rfl) (by rfl) G.sum boot_sum (pa_cons (pe_fld (pv 7) rfl) pa_nil))) pa_nil)))
    (pss_one (ps_ret (pe_def MI hr rfl (pa_cons (pe_def TI hr rfl (pa_cons (pv 4) (pa_cons (pe_op op_mul (pv 1) (pv 5)) pa_nil))) (pa_cons (pe_def TI hr rfl (pa_cons (pv 3) (pa_cons (pe_op op_mul (pv 2) (pv 6)) pa_nil))) pa_nil)))))), ?_⟩)
  · obtain ⟨_, _, _, _, _, _, _, _, _, _, _, _, rfl, _⟩ := h
    rfl
  · obtain ⟨aG, g0, g1, t, c0, c1, u, v, vx, vy, x, y, rfl, hW, ok, hu, hv, fx, fy, sx, sy, q⟩ := h
    have h0 := yes_lt (gi := 0) ok
    have h1 := yes_lt (gi := 1) ok
    have h2 := no_lt (gi := 0) ok
    have h3 := no_lt (gi := 1) ok
    refine ⟨_, rfl, aG, rfl, ⟨_, SqL.of hW.grp⟩, fun D nD => ?_⟩
    refine lc_list (K := K) (a := aG) (xs := [V.ref g0.p, V.ref g1.p]) (fun i H' => Same H H' ∧ H' D = some (.lst (([(soL t 0).sum, (soL t 1).sum].take i).map V.int))) ⟨Same.new nD, upd_same⟩ (fun i H' _ z => z.1.seq (SqL.of hW.grp)) ?_ ?_
    · rintro i v H' hx ⟨e, hD⟩
      have keep : ∀ o, Same H (upd H' D o) := fun o b u eb => by
        rw [upd_ne (ne_of_none eb nD)]
        exact e b u eb
      match i, hx with
      | 0, hx =>
        cases hx
        have hG := hW.gr0.same e
        exact ⟨rfl, _, rfl, g0.p, C, g0.dx, _, _, rfl, hG.ins, G.cl, G.nS, gF_so, _, _, rfl, SqL.of hG.so, _, hD, (show 0 < sizeLine by decide), keep _, upd_same⟩
      | 1, hx =>
        cases hx
        have hG := hW.gr1.same e
        exact ⟨rfl, _, rfl, g1.p, C, g1.dx, _, _, rfl, hG.ins, G.cl, G.nS, gF_so, _, _, rfl, SqL.of hG.so, _, hD, (show 1 < sizeLine by decide), keep _, upd_same⟩
    rintro H1 ⟨e1, hD1⟩
    refine ⟨D, [(soL t 0).sum, (soL t 1).sum], rfl, SqL.of hD1, ?_⟩
    have hW1 := hW.same e1
    refine ⟨_, rfl, aG, rfl, ⟨_, SqL.of hW1.grp⟩, fun D' nD' => ?_⟩
    refine lc_list (K := K) (a := aG) (xs := [V.ref g0.p, V.ref g1.p]) (fun i H' => Same H1 H' ∧ H' D' = some (.lst (([(noL t 0).sum, (noL t 1).sum].take i).map V.int))) ⟨Same.new nD', upd_same⟩ (fun i H' _ z => z.1.seq (SqL.of hW1.grp)) ?_ ?_
    · rintro i v H' hx ⟨e, hD⟩
      have keep : ∀ o, Same H1 (upd H' D' o) := fun o b u eb => by
        rw [upd_ne (ne_of_none eb nD')]
        exact e b u eb
      match i, hx with
      | 0, hx =>
        cases hx
        have hG := hW1.gr0.same e
        exact ⟨rfl, _, rfl, g0.p, C, g0.dx, _, _, rfl, hG.ins, G.cl, G.nN, gF_no, _, _, rfl, SqL.of hG.no, _, hD, (show 0 < sizeLine by decide), keep _, upd_same⟩
      | 1, hx =>
        cases hx
        have hG := hW1.gr1.same e
        exact ⟨rfl, _, rfl, g1.p, C, g1.dx, _, _, rfl, hG.ins, G.cl, G.nN, gF_no, _, _, rfl, SqL.of hG.no, _, hD, (show 1 < sizeLine by decide), keep _, upd_same⟩
    rintro H2 ⟨e2, hD2⟩
    refine ⟨D', [(noL t 0).sum, (noL t 1).sum], rfl, SqL.of hD2, ?_⟩
    have e02 := e1.trans e2
    have b1 : ((u : Int) * ((t.yes 0 : Int) + ((t.yes 1 : Int) + 0))).natAbs < 2 ^ (7 + 11) := natAbs_mul_lt (by omega) (by omega)
    have b2 : ((v : Int) * ((t.no 0 : Int) + ((t.no 1 : Int) + 0))).natAbs < 2 ^ (7 + 11) := natAbs_mul_lt (by omega) (by omega)
    have es : [(soL t 0).sum, (soL t 1).sum].sum = (t.yes 0 : Int) + ((t.yes 1 : Int) + 0) := by
      rw [so_sum, so_sum]
      rfl
    have en : [(noL t 0).sum, (noL t 1).sum].sum = (t.no 0 : Int) + ((t.no 1 : Int) + 0) := by
      rw [no_sum, no_sum]
      rfl
    rw [es, en]
    refine ⟨_, rfl, _, rfl, _, rfl, _, _, rfl, rfl, .inl ⟨by omega, by omega⟩, vy, y, _, rfl, fy.same e02, sy.mono (by decide), Nat.lt_of_lt_of_le b1 (Nat.pow_le_pow_right (by decide) (by decide)), fun p3 n3 => ?_⟩
    have s3 : Sm (300 + (7 + 11)) (y * (((u : Int) * ((t.yes 0 : Int) + ((t.yes 1 : Int) + 0)) : Int) : Rat)) := sm_times sy b1
    have w0 := worth_is (t := t) (u := u) (v := v) (x := x) (y := y)
    generalize y * (((u : Int) * ((t.yes 0 : Int) + ((t.yes 1 : Int) + 0)) : Int) : Rat) = r3 at s3 w0 ⊢
    have e3 := Same.new (o := .tup (frV r3)) n3
    have f3 : Fr K (upd H2 p3 (.tup (frV r3))) (.ref p3) r3 := Fr.new
    generalize upd H2 p3 (.tup (frV r3)) = H3 at e3 f3 ⊢
    refine ⟨_, rfl, _, rfl, _, rfl, _, _, rfl, rfl, .inl ⟨by omega, by omega⟩, vx, x, _, rfl, (fx.same e02).same e3, sx.mono (by decide), Nat.lt_of_lt_of_le b2 (Nat.pow_le_pow_right (by decide) (by decide)), fun p4 n4 => ?_⟩
    have s4 : Sm (300 + (7 + 11)) (x * (((v : Int) * ((t.no 0 : Int) + ((t.no 1 : Int) + 0)) : Int) : Rat)) := sm_times sx b2
    generalize x * (((v : Int) * ((t.no 0 : Int) + ((t.no 1 : Int) + 0)) : Int) : Rat) = r4 at s4 w0 ⊢
    have e4 := Same.new (o := .tup (frV r4)) n4
    have f4 : Fr K (upd H3 p4 (.tup (frV r4))) (.ref p4) r4 := Fr.new
    generalize upd H3 p4 (.tup (frV r4)) = H4 at e4 f4 ⊢
    refine ⟨_, _, r3, r4, rfl, f3.same e4, f4, s3.mono (by decide), s4.mono (by decide), fun p5 n5 => ?_⟩
    rw [w0]
    exact q _ _ (((e02.trans e3).trans e4).trans (Same.new n5)) Fr.new
/-! ### lead_of_first -/
def spLead (K : PySem.W.Frag) (C : Addr) (T : List (Addr × Str)) : Sp := fun vs H Q _ => ∃ (aG : Addr) (g0 g1 : GA) (t : Krdf.Table) (c0 c1 : List Rat) (vx : V) (x : Rat), vs = [.ref aG, vx] ∧ Two K C H aG g0 g1 t c0 c1 ∧ Full t ∧ Tabs T H ∧ XAt K H vx x ∧
  ∀ (v : V) (H' : Hp), Grow T H H' → Fr K H' v (gap t x) → Q v H'
theorem scLead : FnScope ["groups", "x"] ["groups", "x"] (defScope sLeadOfFirst) := ⟨rfl, rfl, rfl, by decide +kernel, rfl, by decide +kernel, by decide +kernel⟩
theorem ok_lead (D : Has K mg "lead_of_first" sLeadOfFirst ["groups", "x"]) (MI : Kept P w K mg base 3 "minus" ["left", "right"] (spMinus K)) (MY : Kept P w K mg base 6 "most_y" ["group", "x"] (spY K C T Krdh.most)) :
    Kept P w K mg base 7 "lead_of_first" ["groups", "x"] (spLead K C T) := by
  refine D.kept scLead (fun vs H Q E h => ?_) (fun f cdv A outer s H vs Q E hr h => ⟨_, pss_one (ps_ret (pe_def MI (hr.mono (by decide)) rfl (pa_cons (pe_def MY hr rfl (pa_cons (pe_ix ix_list (pv 0) pe_int (fun _ _ => rfl)) (pa_cons (pv 1) pa_nil)))
      (pa_cons (pe_def MY hr rfl (pa_cons (pe_ix ix_list (pv 0) pe_int (fun _ _ => rfl)) (pa_cons (pv 1) pa_nil))) pa_nil)))), ?_⟩)
  · obtain ⟨_, _, _, _, _, _, _, _, rfl, _⟩ := h
    rfl
  · obtain ⟨aG, g0, g1, t, c0, c1, vx, x, rfl, hW, ff, hT, hx, q⟩ := h
    have s0 : Sm 436 (Krdh.upper t 0 x) := upper_sm ff.ok ff.y0 ff.n0 hx.nonneg hx.sm.2
    have s1 : Sm 436 (Krdh.upper t 1 x) := upper_sm ff.ok ff.y1 ff.n1 hx.nonneg hx.sm.2
    refine ⟨_, rfl, aG, _, 0, _, rfl, rfl, SqL.of hW.grp, rfl, _, rfl, g0, t, 0, c0, vx, x, rfl, hW.gr0, ff.ok, ff.y0, ff.n0, hT, hx, fun v1 H1 e1 f1 => ?_⟩
    have hW1 := hW.grow e1
    refine ⟨_, rfl, aG, _, 1, _, rfl, rfl, SqL.of hW1.grp, rfl, _, rfl, g1, t, 1, c1, vx, x, rfl, hW1.gr1, ff.ok, ff.y1, ff.n1, e1.tabs hT, hx.grow e1, fun v2 H2 e2 f2 => ?_⟩
    refine ⟨v1, v2, Krdh.upper t 0 x, Krdh.upper t 1 x, rfl, f1.grow e2, f2, s0.mono (by decide), s1.mono (by decide), fun p3 n3 => ?_⟩
    exact q _ _ ((e1.trans e2).trans (Same.grow (Same.new n3))) Fr.new
/-! ### crossings_between -/
theorem gap_sm {t : Krdf.Table} (f : Full t) {x : Rat} (h : In 9 x) : Sm 91 (gap t x) := (sm_minus (upper_sm f.ok f.y0 f.n0 h.ge h.den) (upper_sm f.ok f.y1 f.n1 h.ge h.den)).mono (by decide)
def spCross (K : PySem.W.Frag) (C : Addr) (T : List (Addr × Str)) : Sp := fun vs H Q _ => ∃ (aG : Addr) (g0 g1 : GA) (t : Krdf.Table) (c0 c1 : List Rat) (vl vr : V) (l r : Rat), vs = [.ref aG, vl, vr] ∧ Two K C H aG g0 g1 t c0 c1 ∧ Full t ∧ Tabs T H ∧ Fr K H vl l ∧ Fr K H vr r ∧ In 9 l ∧ In 9 r ∧
  ∀ (p : Addr) (H' : Hp) (cs : List V), Grow T H H' → H' p = some (.lst cs) → Frs K H' cs (Krdh.crossing t l r) → Q (.ref p) H'
theorem scCross : FnScope ["groups", "left", "right", "lead_left", "lead_right", "share"] ["groups", "left", "right"] (defScope sCrossingsBetween) := ⟨rfl, rfl, rfl, by decide +kernel, rfl, by decide +kernel, by decide +kernel⟩
theorem ok_cross (D : Has K mg "crossings_between" sCrossingsBetween ["groups", "left", "right"]) (LE : Kept P w K mg base 7 "lead_of_first" ["groups", "x"] (spLead K C T)) (PL : Kept P w K mg base 3 "plus" ["left", "right"] (spPlus K)) (MI : Kept P w K mg base 3 "minus" ["left", "right"] (spMinus K)) (PR : Kept P w K mg base 3 "product" ["left", "right"] (spProduct K)) (QU : Kept P w K mg base 3 "quotient" ["left", "right"] (spQuotient K)) (SZ : Kept P w K mg base 1 "size" ["part"] (spSize K)) :
    Kept P w K mg base 8 "crossings_between" ["groups", "left", "right"] (spCross K C T) := by
  refine D.kept scCross (fun vs H Q E h => ?_) (fun f cdv A outer s H vs Q E hr h => ⟨_, pss_cons (ps_set (i := 3) scCross.nd rfl (Or.inl rfl) (pe_def LE hr rfl (pa_cons (pv 0) (pa_cons (pv 1) pa_nil))))
    (pss_cons (ps_set (i := 4) scCross.nd rfl (Or.inl rfl) (pe_def LE hr rfl (pa_cons (pv 0) (pa_cons (pv 2) pa_nil))))
    (pss_cons (ps_if (pt_cmpR op_ge (pe_op op_mulW (pe_ix ix_tup (pv 3) pe_int (fun _ _ => rfl)) (pe_ix ix_tup (pv 4) pe_int (fun _ _ => rfl))) pe_int (nomark _)) (pss_one (ps_ret (pe_lst pa_nil))) pss_nil)
    (pss_cons (ps_set (i := 5) scCross.nd rfl (Or.inl rfl) (pe_def QU (hr.mono (by decide)) rfl (pa_cons (pe_def SZ (hr.mono (by decide)) rfl (pa_cons (pv 3) pa_nil)) (pa_cons (pe_def PL (hr.mono (by decide)) rfl (pa_cons (pe_def SZ (hr.mono (by decide)) rfl (pa_cons (pv 3) pa_nil)) (pa_cons (pe_def SZ (hr.mono (by decide)) rfl (pa_cons (pv 4) pa_nil)) pa_nil))) pa_nil))))
    (pss_one (ps_ret (pe_lst (pa_cons (pe_def PL (hr.mono (by decide)) rfl (pa_cons (pv 1) (pa_cons (pe_def PR (hr.mono (by decide)) rfl (pa_cons (pe_def MI (hr.mono (by decide)) rfl (pa_cons (pv 2) (pa_cons (pv 1) pa_nil))) (pa_cons (pv 5) pa_nil))) pa_nil))) pa_nil))))))), ?_⟩)
  · obtain ⟨_, _, _, _, _, _, _, _, _, _, rfl, _⟩ := h
    rfl
  · obtain ⟨aG, g0, g1, t, c0, c1, vl, vr, l, r, rfl, hW, ff, hT, fl, fr, il, ir, q⟩ := h
    have sl := gap_sm ff il
    have sr := gap_sm ff ir
    refine ⟨_, rfl, _, rfl, aG, g0, g1, t, c0, c1, vl, l, rfl, hW, ff, hT, il.xat (by decide) fl, fun v1 H1 e1 f1 => ?_⟩
    refine ⟨_, rfl, _, rfl, aG, g0, g1, t, c0, c1, vr, r, rfl, hW.grow e1, ff, e1.tabs hT, ir.xat (by decide) (fr.grow e1), fun v2 H2 e2 f2 => ?_⟩
    have e02 := e1.trans e2
    have f12 := f1.grow e2
    have fl2 := fl.grow e02
    have fr2 := fr.grow e02
    rw [crossing_is] at q
    generalize gap t l = a at sl f12 q
    generalize gap t r = b at sr f2 q
    obtain ⟨a1, rfl, h1⟩ := id f12
    obtain ⟨a2, rfl, h2⟩ := id f2
    have m1 : CMulW a.num b.num := wide_mul sl.1 sr.1 (by decide) (by decide) (by decide)
    refine ⟨_, rfl, a1, _, 0, _, rfl, rfl, h1, at0, _, rfl, a2, _, 0, _, rfl, rfl, h2, at0, _, _, rfl, rfl, m1, _, _, rfl, rfl, _, rfl, ?_⟩
    refine ifD (fun c => ?_) fun c => ?_
    · have nc : ¬ a * b < 0 := fun z => by
        have := (num_mul_iff a b).mpr z
        omega
      rw [if_neg nc] at q
      exact ⟨Nat.zero_le _, fun p np => q p _ [] (e02.trans (Same.grow (Same.new np))) upd_same frs_nil⟩
    · have hc : a * b < 0 := (num_mul_iff a b).mp (Int.not_le.mp c)
      rw [if_pos hc] at q
      obtain ⟨hsh, hpos⟩ := share_eq hc
      refine ⟨_, rfl, _, a, rfl, f12, fun p3 n3 => ?_⟩
      have e3 := Same.new (o := .tup (frV (absR a))) n3
      have f3 : Fr K (upd H2 p3 (.tup (frV (absR a)))) (.ref p3) (absR a) := Fr.new
      generalize upd H2 p3 (.tup (frV (absR a))) = H3 at e3 f3 ⊢
      refine ⟨_, rfl, _, a, rfl, f12.same e3, fun p4 n4 => ?_⟩
      have e4 := Same.new (o := .tup (frV (absR a))) n4
      have f4 : Fr K (upd H3 p4 (.tup (frV (absR a)))) (.ref p4) (absR a) := Fr.new
      generalize upd H3 p4 (.tup (frV (absR a))) = H4 at e4 f4 ⊢
      refine ⟨_, rfl, _, b, rfl, (f2.same e3).same e4, fun p5 n5 => ?_⟩
      have e5 := Same.new (o := .tup (frV (absR b))) n5
      have f5 : Fr K (upd H4 p5 (.tup (frV (absR b)))) (.ref p5) (absR b) := Fr.new
      generalize upd H4 p5 (.tup (frV (absR b))) = H5 at e5 f5 ⊢
      refine ⟨_, _, absR a, absR b, rfl, f4.same e5, f5, (sm_absR sl).mono (by decide), (sm_absR sr).mono (by decide), fun p6 n6 => ?_⟩
      have ssum : Sm 183 (absR a + absR b) := sm_plus (sm_absR sl) (sm_absR sr)
      have e6 := Same.new (o := .tup (frV (absR a + absR b))) n6
      have f6 : Fr K (upd H5 p6 (.tup (frV (absR a + absR b)))) (.ref p6) (absR a + absR b) := Fr.new
      generalize upd H5 p6 (.tup (frV (absR a + absR b))) = H6 at e6 f6 ⊢
      have e36 := (e4.trans e5).trans e6
      refine ⟨_, _, absR a, absR a + absR b, rfl, f3.same e36, f6, (sm_absR sl).mono (by decide), ssum.mono (by decide), hpos, fun p7 n7 => ?_⟩
      have ssh : Sm 274 (absR a / (absR a + absR b)) := sm_quot (sm_absR sl) ssum hpos
      rw [hsh] at ssh ⊢
      have e7 := Same.new (o := .tup (frV (a / (a - b)))) n7
      have f7 : Fr K (upd H6 p7 (.tup (frV (a / (a - b))))) (.ref p7) (a / (a - b)) := Fr.new
      generalize upd H6 p7 (.tup (frV (a / (a - b)))) = H7 at e7 f7 ⊢
      have e27 := (e3.trans e36).trans e7
      refine ⟨_, rfl, _, rfl, _, rfl, vr, vl, r, l, rfl, fr2.same e27, fl2.same e27, ir.sm.mono (by decide), il.sm.mono (by decide), fun p8 n8 => ?_⟩
      have s8 : Sm 19 (r - l) := sm_minus ir.sm il.sm
      have e8 := Same.new (o := .tup (frV (r - l))) n8
      have f8 : Fr K (upd H7 p8 (.tup (frV (r - l)))) (.ref p8) (r - l) := Fr.new
      generalize upd H7 p8 (.tup (frV (r - l))) = H8 at e8 f8 ⊢
      refine ⟨_, rfl, _, _, r - l, a / (a - b), rfl, f8, f7.same e8, s8.mono (by decide), ssh.mono (by decide), fun p9 n9 => ?_⟩
      have s9 : Sm 293 ((r - l) * (a / (a - b))) := sm_product s8 ssh
      have e9 := Same.new (o := .tup (frV ((r - l) * (a / (a - b))))) n9
      have f9 : Fr K (upd H8 p9 (.tup (frV ((r - l) * (a / (a - b)))))) (.ref p9) ((r - l) * (a / (a - b))) := Fr.new
      generalize upd H8 p9 (.tup (frV ((r - l) * (a / (a - b))))) = H9 at e9 f9 ⊢
      have e29 := (e27.trans e8).trans e9
      refine ⟨vl, _, l, (r - l) * (a / (a - b)), rfl, fl2.same e29, f9, il.sm.mono (by decide), s9.mono (by decide), fun pa na => ?_⟩
      have ea := Same.new (o := .tup (frV (l + (r - l) * (a / (a - b))))) na
      have fa : Fr K (upd H9 pa (.tup (frV (l + (r - l) * (a / (a - b)))))) (.ref pa) (l + (r - l) * a / (a - b)) := by
        have e : l + (r - l) * a / (a - b) = l + (r - l) * (a / (a - b)) := by
          rw [Rat.div_def, Rat.div_def, Rat.mul_assoc]
        rw [e]
        exact Fr.new
      generalize upd H9 pa (.tup (frV (l + (r - l) * (a / (a - b))))) = Ha at ea fa ⊢
      refine ⟨one_le, fun pb nb => ?_⟩
      have eb := Same.new (o := .lst [V.ref pa]) nb
      exact q pb _ _ (e02.trans (Same.grow ((e29.trans ea).trans eb))) upd_same (frs_one (fa.same eb))
end
end My

namespace My
open PySem PySem.Spec PyProof.Rows L2 LamX NdefX
theorem cut1 (cs : List V) : cutV cs (some 1) none = cs.drop 1 := by
  unfold cutV
  rw [show HT.sIx cs.length 0 (some 1) = min 1 cs.length from HT.sIx_nat cs.length 0 1, HT.sIx_none]
  by_cases h : 1 ≤ cs.length
  · rw [show min 1 cs.length = 1 by omega]
    exact List.take_of_length_le (by rw [List.length_drop]; omega)
  · rw [show min 1 cs.length = cs.length by omega, List.drop_of_length_le (Nat.le_refl _), List.drop_of_length_le (by omega)]
    simp
theorem zip_at {l : List Rat} {i : Nat} {a b : Rat} (h1 : l[i]? = some a) (h2 : l[i + 1]? = some b) : (List.zip l l.tail)[i]? = some (a, b) := by
  rw [List.getElem?_zip_eq_some]
  refine ⟨h1, ?_⟩
  rw [List.getElem?_tail]
  exact h2
section
variable {P : Program} {w : World} {K : PySem.W.Frag} {mg : Str → Option Value} {base : Heap} {C aZ aO : Addr} {T : List (Addr × Str)}
/-! ### turning_xs -/
def spTurn (K : PySem.W.Frag) (C : Addr) (T : List (Addr × Str)) : Sp := fun vs H Q _ => ∃ (aG : Addr) (g0 g1 : GA) (t : Krdf.Table) (c0 c1 : List Rat), vs = [.ref aG] ∧ Two K C H aG g0 g1 t c0 c1 ∧ Full t ∧ Tabs T H ∧
  ∀ (p : Addr) (H' : Hp) (cs : List V), Grow T H H' → H' p = some (.lst cs) → Frs K H' cs (turns t) → Q (.ref p) H'
theorem scTurn : FnScope ["groups", "corners", "xs", "left", "right"] ["groups"] (defScope sTurningXs) := ⟨rfl, rfl, rfl, by decide +kernel, rfl, by decide +kernel, by decide +kernel⟩
theorem ok_turn (D : Has K mg "turning_xs" sTurningXs ["groups"]) (G : TxtG K mg C) (IL : Kept P w K mg base 1 "is_less" ["left", "right"] (spLess K)) (PU : Kept P w K mg base 2 "put_in_order" ["given", "is_ahead"] (spPut K mg)) (CX : Kept P w K mg base 5 "corner_xs" ["group"] (spCorners K C T)) (CR : Kept P w K mg base 8 "crossings_between" ["groups", "left", "right"] (spCross K C T)) :
    Kept P w K mg base 9 "turning_xs" ["groups"] (spTurn K C T) := by
  obtain ⟨fl, _, _, mL, _⟩ := IL
  refine D.kept scTurn (fun vs H Q E h => ?_) (fun f cdv A outer s H vs Q E hr h => ⟨_, pss_cons (ps_set (i := 1) scTurn.nd rfl (Or.inl rfl) (pe_def PU (hr.mono (by decide)) rfl (pa_cons (pe_op op_cat (pe_def CX (hr.mono (by decide)) rfl (pa_cons (pe_ix ix_list (pv 0) pe_int (fun _ _ => rfl)) pa_nil)) (pe_def CX (hr.mono (by decide)) rfl (pa_cons (pe_ix ix_list (pv 0) pe_int (fun _ _ => rfl)) pa_nil))) (pa_cons (pe_ref rfl mL) pa_nil))))
    (pss_cons (ps_set (i := 2) scTurn.nd rfl (Or.inl rfl) (pe_lst (pa_cons (pe_ix ix_list (pv 1) pe_int (fun _ _ => rfl)) pa_nil)))
    (pss_cons (ps_for PassesOwn.never rfl (pi_zip (by rfl) G.zip (pa_cons (pv 1) (pa_cons (pe_slice sl_list (pv 1) (po_some pe_int) po_none) pa_nil))) (pg_tup rfl (pgs_cons (pg_name (i := 3) scTurn.nd rfl (Or.inl rfl)) (pgs_cons (pg_name (i := 4) scTurn.nd rfl (Or.inl rfl)) pgs_nil)))
      (pss_cons (ps_expr (pe_bm PySem.F.plainAttrs_list PySem.F.slot_list_extend PySem.F.type_list_extend mt_extend (pv 2) (pa_cons (pe_def CR hr rfl (pa_cons (pv 0) (pa_cons (pv 3) (pa_cons (pv 4) pa_nil)))) pa_nil)))
      (pss_one (ps_expr (pe_bm PySem.F.plainAttrs_list PySem.F.slot_list_append PySem.F.type_list_append mt_append (pv 2) (pa_cons (pv 4) pa_nil))))))
    (pss_one (ps_ret (pv 2))))), ?_⟩)
  · obtain ⟨_, _, _, _, _, _, rfl, _⟩ := h
    rfl
  · obtain ⟨aG, g0, g1, t, c0, c1, rfl, hW, ff, hT, q⟩ := h
    have l5 := corners_len (g := 0) ff.ok
    have l5' := corners_len (g := 1) ff.ok
    refine ⟨_, rfl, aG, _, 0, _, rfl, rfl, SqL.of hW.grp, rfl, g0, t, 0, c0, rfl, hW.gr0, ff.ok, ff.n0, hT, fun p1 H1 cs1 e1 h1 f1 => ?_⟩
    have hW1 := hW.grow e1
    refine ⟨_, rfl, aG, _, 1, _, rfl, rfl, SqL.of hW1.grp, rfl, g1, t, 1, c1, rfl, hW1.gr1, ff.ok, ff.n1, e1.tabs hT, fun p2 H2 cs2 e2 h2 f2 => ?_⟩
    have e02 := e1.trans e2
    have n1 := f1.len
    have n2 := f2.len
    refine ⟨p1, p2, cs1, cs2, rfl, rfl, e2.at h1 lst_tbl, h2, Nat.le_trans (show cs1.length + cs2.length ≤ 10 by omega) (by decide), fun p3 np3 => ?_⟩
    have e3 := Same.new (o := .lst (cs1 ++ cs2)) np3
    have h3 : upd H2 p3 (.lst (cs1 ++ cs2)) p3 = some (.lst (cs1 ++ cs2)) := upd_same
    have f3 : Frs K H2 (cs1 ++ cs2) (Krdh.corners t 0 ++ Krdh.corners t 1) := frs_app (f1.grow e2) f2
    generalize upd H2 p3 (.lst (cs1 ++ cs2)) = H3 at e3 h3 ⊢
    have e03 := e02.trans (Same.grow (T := T) e3)
    have inS : ∀ r ∈ Krdh.corners t 0 ++ Krdh.corners t 1, In 9 r := fun r hr => srt_in ff (sortR_mem.mpr hr)
    refine ⟨p3, fl, _, _, rfl, mL, SqL.of h3, f3.same e3, by rw [List.length_append]; omega, fun r hr => (inS r hr).sm.mono (by decide), fun lc H4 cs e4 nlc hlc fc => ?_⟩
    have e04 := e03.trans (Same.grow (T := T) e4)
    have fc : Frs K H4 cs (srt t) := fc
    have sl := srt_len ff.ok
    have hsn := srt_ne t
    have inr : ∀ r ∈ srt t, In 9 r := fun r hr => srt_in ff hr
    have tdef : turns t = (srt t).headD 0 :: (List.zip (srt t) (srt t).tail).flatMap (stepL t) := rfl
    generalize srt t = S at fc sl hsn inr tdef
    have csl := fc.len
    obtain ⟨s0, S', rfl⟩ : ∃ s0 S', S = s0 :: S' := by
      cases S with
      | nil => exact absurd rfl hsn
      | cons a r => exact ⟨a, r, rfl⟩
    obtain ⟨v0, hv0⟩ : ∃ v0, cs[0]? = some v0 := ⟨cs[0]'(by rw [csl]; simp), List.getElem?_eq_getElem _⟩
    have f0 := fc.each 0 v0 s0 hv0 rfl
    refine ⟨_, rfl, lc, _, 0, v0, rfl, rfl, SqL.of hlc, atI_nat (j := 0) hv0, one_le, fun px npx => ?_⟩
    have e5 := Same.new (o := .lst [v0]) npx
    have h5 : upd H4 px (.lst [v0]) px = some (.lst [v0]) := upd_same
    generalize upd H4 px (.lst [v0]) = H5 at e5 h5 ⊢
    have e05 := e04.trans (Same.grow (T := T) e5)
    have newx : New H px := New.back e04 npx
    refine ⟨_, rfl, _, rfl, _, rfl, lc, _, rfl, SqL.of (e5 _ _ hlc), fun ls nls => ?_⟩
    rw [cut1]
    have e6 := Same.new (o := .lst (cs.drop 1)) nls
    have h6 : upd H5 ls (.lst (cs.drop 1)) ls = some (.lst (cs.drop 1)) := upd_same
    generalize upd H5 ls (.lst (cs.drop 1)) = H6 at e6 h6 ⊢
    have e06 := e05.trans (Same.grow (T := T) e6)
    have hlc6 := e6 _ _ (e5 _ _ hlc)
    have nlx : lc ≠ px := ne_of_none hlc npx
    have nsx : ls ≠ px := fun z => by
      rw [z, h5] at nls
      cases nls
    refine ⟨lc, ls, cs, cs.drop 1, rfl, SqL.of hlc6, SqL.of h6, ?_⟩
    refine for_it (walk_zip (K := K) (a := lc) (b := ls) (xs := cs) (ys := cs.drop 1) (n := cs.length - 1) (by rw [List.length_drop]; omega))
      (fun i σ H' => ∃ (o3 o4 : Option V) (xs : List V), σ = [some (.ref aG), some (.ref lc), some (.ref px), o3, o4] ∧ Grow T H H' ∧ H' lc = some (.lst cs) ∧ H' ls = some (.lst (cs.drop 1)) ∧ Frs K H' cs (s0 :: S') ∧ H' px = some (.lst xs) ∧ Frs K H' xs (s0 :: ((List.zip (s0 :: S') S').take i).flatMap (stepL t)))
      ⟨none, none, _, rfl, e06, hlc6, h6, (fc.same e5).same e6, e6 _ _ h5, by rw [List.take_zero]; exact frs_one ((f0.same e5).same e6)⟩ (fun i σ H' _ ⟨_, _, _, _, _, h1, h2, _⟩ => ⟨SqL.of h1, SqL.of h2⟩) ?_ ?_
    · rintro i v σ H' H'' hi ⟨o3, o4, xs, rfl, gr, hl', hs', fc', hx', fx⟩ ⟨tp, vl, vr, rfl, ntp, rfl, hvl, hvr⟩
      have hvr : cs[i + 1]? = some vr := by
        have hvr : (cs.drop 1)[i]? = some vr := hvr
        rw [List.getElem?_drop] at hvr
        rw [Nat.add_comm]
        exact hvr
      have hzl : (s0 :: S').length = cs.length := csl.symm
      obtain ⟨l, hl⟩ : ∃ l, (s0 :: S')[i]? = some l := ⟨_, List.getElem?_eq_getElem (by omega)⟩
      obtain ⟨r, hr'⟩ : ∃ r, (s0 :: S')[i + 1]? = some r := ⟨_, List.getElem?_eq_getElem (by omega)⟩
      have hz : (List.zip (s0 :: S') S')[i]? = some (l, r) := zip_at hl hr'
      have e7 := Same.new (o := .tup [vl, vr]) ntp
      have sq7 : SqT K (upd H' tp (.tup [vl, vr])) tp [vl, vr] := SqT.of upd_same
      generalize upd H' tp (.tup [vl, vr]) = H7 at e7 sq7 ⊢
      have g7 := gr.trans (Same.grow (T := T) e7)
      have flv := (fc'.each i vl l hvl hl).same e7
      have frv := (fc'.each (i + 1) vr r hvr hr').same e7
      refine ⟨tp, _, rfl, sq7, rfl, _, _, rfl, _, _, rfl, rfl, ?_⟩
      refine ⟨_, rfl, .inl ⟨rfl, _, SqL.of (e7 _ _ hx')⟩, _, rfl, _, rfl, _, rfl, aG, g0, g1, t, c0, c1, vl, vr, l, r, rfl, hW.grow g7, ff, g7.tabs hT, flv, frv, inr l (List.mem_of_getElem? hl), inr r (List.mem_of_getElem? hr'), fun pc H8 ds e8 h8 f8 => ?_⟩
      have g8 := g7.trans e8
      have hx8 := e8.at (e7 _ _ hx') lst_tbl
      have fx8 := (fx.same e7).grow e8
      have cl := crossing_len (t := t) (p := l) (q := r)
      have xl : xs.length ≤ 1 + 2 * i := by
        rw [fx.len, List.length_cons]
        have h1 := steps_len (t := t) ((List.zip (s0 :: S') S').take i)
        have h2 : ((List.zip (s0 :: S') S').take i).length ≤ i := List.length_take_le _ _
        omega
      have i10 : i < 10 := by
        rw [List.length_cons] at sl hzl
        omega
      have dl := f8.len
      refine ⟨px, pc, _, _, rfl, rfl, hx8, h8, Nat.le_trans (show xs.length + ds.length ≤ 100 by omega) (by decide), ?_⟩
      have g9 : Grow T H (upd H8 px (.lst (xs ++ ds))) := g8.upd newx hx8
      have hx9 : upd H8 px (.lst (xs ++ ds)) px = some (.lst (xs ++ ds)) := upd_same
      have f9 : Frs K (upd H8 px (.lst (xs ++ ds))) (xs ++ ds) _ := (frs_app fx8 f8).upd hx8 lst_tup lst_frz
      have fr9 : Fr K (upd H8 px (.lst (xs ++ ds))) vr r := (frv.grow e8).upd hx8 lst_tup lst_frz
      have fc9 : Frs K (upd H8 px (.lst (xs ++ ds))) cs (s0 :: S') := ((fc'.same e7).grow e8).upd hx8 lst_tup lst_frz
      have hl9 : upd H8 px (.lst (xs ++ ds)) lc = some (.lst cs) := (upd_ne nlx).trans (e8.at (e7 _ _ hl') lst_tbl)
      have hs9 : upd H8 px (.lst (xs ++ ds)) ls = some (.lst (cs.drop 1)) := (upd_ne nsx).trans (e8.at (e7 _ _ hs') lst_tbl)
      generalize upd H8 px (.lst (xs ++ ds)) = H9 at g9 hx9 f9 fr9 fc9 hl9 hs9 ⊢
      refine ⟨_, rfl, .inl ⟨rfl, _, SqL.of hx9⟩, _, rfl, px, _, _, rfl, rfl, hx9, ?_, ?_⟩
      · rw [List.length_append]
        exact Nat.lt_of_le_of_lt (show xs.length + ds.length ≤ 100 by omega) (by decide)
      · refine ⟨some vl, some vr, (xs ++ ds) ++ [vr], rfl, g9.upd newx hx9, (upd_ne nlx).trans hl9, (upd_ne nsx).trans hs9, fc9.upd hx9 lst_tup lst_frz, upd_same, ?_⟩
        rw [take_more hz, List.flatMap_append, List.flatMap_singleton]
        unfold stepL
        rw [← List.append_assoc, ← List.cons_append, ← List.cons_append]
        exact (frs_app f9 (frs_one fr9)).upd hx9 lst_tup lst_frz
    · rintro σ H' ⟨o3, o4, xs, rfl, gr, hl', hs', fc', hx', fx⟩
      refine ⟨_, rfl, q px H' xs gr hx' ?_⟩
      rw [tdef]
      rw [List.take_of_length_le (by rw [List.length_zip, csl, List.length_cons]; omega)] at fx
      exact fx
/-! ### best_of -/
theorem least_sm {t : Krdf.Table} (f : Full t) {x : Rat} {n : Nat} (h : In n x) : Sm (n + 36) (Krdh.least t x) := by
  unfold Krdh.least
  rcases (show min (Krdh.upper t 0 x) (Krdh.upper t 1 x) = Krdh.upper t 0 x ∨ min (Krdh.upper t 0 x) (Krdh.upper t 1 x) = Krdh.upper t 1 x by grind) with e | e
  · rw [e]
    exact upper_sm f.ok f.y0 f.n0 h.ge h.den
  · rw [e]
    exact upper_sm f.ok f.y1 f.n1 h.ge h.den
def spBestOf (K : PySem.W.Frag) (C : Addr) (T : List (Addr × Str)) : Sp := fun vs H Q _ => ∃ (aG : Addr) (g0 g1 : GA) (t : Krdf.Table) (c0 c1 : List Rat) (u v : Nat), vs = [.ref aG, .int u, .int v] ∧ Two K C H aG g0 g1 t c0 c1 ∧ Full t ∧ u ≤ 100 ∧ v ≤ 100 ∧ Tabs T H ∧
  ∀ (a : Addr) (H' : Hp) (vx vy vw : V) (x : Rat), Grow T H H' → H' a = some (.tup [vx, vy, vw]) → Krdh.best t u v = (x, Krdh.least t x) → In 200 x → Fr K H' vx x → Fr K H' vy (Krdh.least t x) → Fr K H' vw (W t u v x) → Q (.ref a) H'
theorem scBestOf : FnScope ["groups", "gain", "loss", "best", "x", "y", "worth"] ["groups", "gain", "loss"] (defScope sBestOf) := ⟨rfl, rfl, rfl, by decide +kernel, rfl, by decide +kernel, by decide +kernel⟩
theorem three_le : (3 : Nat) ≤ sizeLine := by decide
theorem ok_bestOf (D : Has K mg "best_of" sBestOf ["groups", "gain", "loss"]) (IL : Kept P w K mg base 1 "is_less" ["left", "right"] (spLess K)) (LS : Kept P w K mg base 2 "lesser" ["left", "right"] (spLesser K)) (MY : Kept P w K mg base 6 "most_y" ["group", "x"] (spY K C T Krdh.most)) (WO : Kept P w K mg base 4 "worth_of" ["groups", "gain", "loss", "x", "y"] (spWorth K C)) (TX : Kept P w K mg base 9 "turning_xs" ["groups"] (spTurn K C T)) :
    Kept P w K mg base 10 "best_of" ["groups", "gain", "loss"] (spBestOf K C T) := by
  refine D.kept scBestOf (fun vs H Q E h => ?_) (fun f cdv A outer s H vs Q E hr h => ⟨_, pss_cons (ps_set (i := 3) scBestOf.nd rfl (Or.inl rfl) pe_non)
    (pss_cons (ps_for PassesOwn.never rfl (pi_list (pe_def TX hr rfl (pa_cons (pv 0) pa_nil))) (pg_name (i := 4) scBestOf.nd rfl (Or.inl rfl))
      (pss_cons (ps_set (i := 5) scBestOf.nd rfl (Or.inl rfl) (pe_def LS (hr.mono (by decide)) rfl (pa_cons (pe_def MY (hr.mono (by decide)) rfl (pa_cons (pe_ix ix_list (pv 0) pe_int (fun _ _ => rfl)) (pa_cons (pv 4) pa_nil))) (pa_cons (pe_def MY (hr.mono (by decide)) rfl (pa_cons (pe_ix ix_list (pv 0) pe_int (fun _ _ => rfl)) (pa_cons (pv 4) pa_nil))) pa_nil))))
      (pss_cons (ps_set (i := 6) scBestOf.nd rfl (Or.inl rfl) (pe_def WO (hr.mono (by decide)) rfl (pa_cons (pv 0) (pa_cons (pv 1) (pa_cons (pv 2) (pa_cons (pv 4) (pa_cons (pv 5) pa_nil)))))))
      (pss_one (ps_if (PW.pt (pw_or (pt_cmpR op_isN (pv 3) pe_non (nomark _)) (pw_or1 (pt_val (pe_def IL (hr.mono (by decide)) rfl (pa_cons (pe_ix ix_tup (pv 3) pe_int (fun _ _ => rfl)) (pa_cons (pv 6) pa_nil)))))))
        (pss_one (ps_set (i := 3) scBestOf.nd rfl (Or.inl rfl) (pe_tup (pa_cons (pv 4) (pa_cons (pv 5) (pa_cons (pv 6) pa_nil)))))) pss_nil)))))
    (pss_one (ps_ret (pv 3)))), ?_⟩)
  · obtain ⟨_, _, _, _, _, _, _, _, rfl, _⟩ := h
    rfl
  · obtain ⟨aG, g0, g1, t, c0, c1, u, v, rfl, hW, ff, hu, hv, hT, q⟩ := h
    refine ⟨_, rfl, aG, g0, g1, t, c0, c1, rfl, hW, ff, hT, fun l H1 cs e1 hl fl => ?_⟩
    have hin : ∀ x ∈ turns t, In 200 x := fun x hx => turns_in ff hx
    have hsrt := turns_sorted t
    have hne : turns t ≠ [] := by
      unfold turns
      exact List.cons_ne_nil _ _
    have hend : ∀ x, IsBest t u v (fun w => w ∈ turns t) x → Krdh.best t u v = (x, Krdh.least t x) := fun x hx => best_end ff hx
    generalize turns t = L at fl hin hsrt hne hend
    have cl := fl.len
    refine ⟨l, rfl, ⟨_, SqL.of hl⟩, for_list (K := K) (a := l) (xs := cs) (fun i σ H' => ∃ (vb : V) (o4 o5 o6 : Option V), σ = [some (.ref aG), some (.int u), some (.int v), some vb, o4, o5, o6] ∧ Grow T H1 H' ∧
        ((i = 0 ∧ vb = .non) ∨ ∃ (a : Addr) (vx vy vw : V) (x : Rat), vb = .ref a ∧ H' a = some (.tup [vx, vy, vw]) ∧ Fr K H' vx x ∧ Fr K H' vy (Krdh.least t x) ∧ Fr K H' vw (W t u v x) ∧ In 200 x ∧ IsBest t u v (fun w => w ∈ L.take i) x))
      ⟨.non, none, none, none, rfl, Same.grow (Same.refl H1), .inl ⟨rfl, rfl⟩⟩ (fun i σ H' _ ⟨_, _, _, _, _, gr, _⟩ => SqL.of (gr.at hl lst_tbl)) ?_ ?_⟩
    · rintro i vx σ H' hi ⟨vb, o4, o5, o6, rfl, gr, hb⟩
      have li : i < cs.length := (List.getElem?_eq_some_iff.mp hi).1
      obtain ⟨x, hx⟩ : ∃ x, L[i]? = some x := ⟨_, List.getElem?_eq_getElem (by omega)⟩
      have ix := hin x (List.mem_of_getElem? hx)
      have g0' := e1.trans gr
      have fx := (fl.each i vx x hi hx).grow gr
      have hW' := hW.grow g0'
      have s0 : Sm 236 (Krdh.upper t 0 x) := upper_sm ff.ok ff.y0 ff.n0 ix.ge ix.den
      have s1 : Sm 236 (Krdh.upper t 1 x) := upper_sm ff.ok ff.y1 ff.n1 ix.ge ix.den
      refine ⟨_, rfl, aG, _, 0, _, rfl, rfl, SqL.of hW'.grp, rfl, _, rfl, g0, t, 0, c0, vx, x, rfl, hW'.gr0, ff.ok, ff.y0, ff.n0, g0'.tabs hT, ix.xat (by decide) fx, fun v1 H2 e2 f1 => ?_⟩
      have g2 := g0'.trans e2
      have hW2 := hW.grow g2
      refine ⟨_, rfl, aG, _, 1, _, rfl, rfl, SqL.of hW2.grp, rfl, _, rfl, g1, t, 1, c1, vx, x, rfl, hW2.gr1, ff.ok, ff.y1, ff.n1, g2.tabs hT, ix.xat (by decide) (fx.grow e2), fun v2 H3 e3 f2 => ?_⟩
      have e23 := e2.trans e3
      have g3 := g0'.trans e23
      refine ⟨v1, v2, Krdh.upper t 0 x, Krdh.upper t 1 x, rfl, f1.grow e3, f2, s0.mono (by decide), s1.mono (by decide), fun vy fy => ?_⟩
      have fy : Fr K H3 vy (Krdh.least t x) := fy
      have fx3 := fx.grow e23
      have sy : Sm 236 (Krdh.least t x) := least_sm ff ix
      refine ⟨_, rfl, _, rfl, _, rfl, _, rfl, _, rfl, aG, g0, g1, t, c0, c1, u, v, vx, vy, x, Krdh.least t x, rfl, hW.grow g3, ff.ok, hu, hv, fx3, fy, ix.sm.mono (by decide), sy.mono (by decide), fun vw H4 e4 fw => ?_⟩
      have fw : Fr K H4 vw (W t u v x) := fw
      have e24 := e23.trans (Same.grow (T := T) e4)
      have g4 := gr.trans e24
      have swx : Sm 1000 (W t u v x) := worth_sm ff.ok hu hv (ix.sm.mono (by decide)) (sy.mono (by decide))
      have fx4 := fx3.same e4
      have fy4 := fy.same e4
      have fin : IsBest t u v (fun w => w ∈ L.take (i + 1)) x → ∀ p, H4 p = none → ∃ (vb : V) (o4 o5 o6 : Option V), [some (V.ref aG), some (V.int u), some (V.int v), some (V.ref p), some vx, some vy, some vw] = [some (.ref aG), some (.int u), some (.int v), some vb, o4, o5, o6] ∧ Grow T H1 (upd H4 p (.tup [vx, vy, vw])) ∧
        ((i + 1 = 0 ∧ vb = .non) ∨ ∃ (a : Addr) (vx' vy' vw' : V) (x : Rat), vb = .ref a ∧ upd H4 p (.tup [vx, vy, vw]) a = some (.tup [vx', vy', vw']) ∧ Fr K (upd H4 p (.tup [vx, vy, vw])) vx' x ∧ Fr K (upd H4 p (.tup [vx, vy, vw])) vy' (Krdh.least t x) ∧ Fr K (upd H4 p (.tup [vx, vy, vw])) vw' (W t u v x) ∧ In 200 x ∧ IsBest t u v (fun w => w ∈ L.take (i + 1)) x) := fun hB p np => by
        have e5 := Same.new (o := .tup [vx, vy, vw]) np
        exact ⟨_, _, _, _, rfl, g4.trans (Same.grow e5), .inr ⟨p, vx, vy, vw, x, rfl, upd_same, fx4.same e5, fy4.same e5, fw.same e5, ix, hB⟩⟩
      rcases hb with ⟨rfl, rfl⟩ | ⟨a, vx', vy', vw', x', rfl, ha, fx', fy', fw', ix', hB⟩
      · refine ⟨_, rfl, rfl, _, rfl, ?_⟩
        refine ifT (decide_eq_true rfl) (ifT rfl ?_)
        exact ⟨_, rfl, _, rfl, _, rfl, three_le, fun p np => fin (best_first hx) p np⟩
      · refine ⟨_, rfl, rfl, _, rfl, ?_⟩
        refine ifF (decide_eq_false (fun z => by cases z)) ?_
        have ha4 := e24.at ha (fun _ z => by cases z)
        have sw' : Sm 1000 (W t u v x') := worth_sm ff.ok hu hv (ix'.sm.mono (by decide)) ((least_sm ff ix').mono (by decide))
        refine ⟨_, rfl, a, _, 2, vw', rfl, rfl, SqT.of ha4, rfl, _, rfl, vw', vw, W t u v x', W t u v x, rfl, fw'.grow e24, fw, sw'.mono (by decide), swx.mono (by decide), _, rfl, ?_⟩
        refine ifD (fun c => ?_) fun c => ?_
        · exact ⟨_, rfl, _, rfl, _, rfl, three_le, fun p np => fin (best_new hx hB c) p np⟩
        · exact ⟨_, _, _, _, rfl, g4, .inr ⟨a, vx', vy', vw', x', rfl, ha4, fx'.grow e24, fy'.grow e24, fw'.grow e24, ix', best_old hsrt hx hB c⟩⟩
    · rintro σ H' ⟨vb, o4, o5, o6, rfl, gr, hb⟩
      rw [cl, List.take_length] at hb
      rcases hb with ⟨h0, _⟩ | ⟨a, vx, vy, vw, x, rfl, ha, fx, fy, fw, ix, hB⟩
      · exact absurd (List.length_eq_zero_iff.mp h0) hne
      · exact ⟨_, rfl, q a H' vx vy vw x (e1.trans gr) ha (hend x hB) ix fx fy fw⟩
end
end My

namespace My
open PySem PySem.Spec PyProof.Rows L2 LamX NdefX
/-! ### what a call may change -/
structure Chg (T : List (Addr × Str)) (H : Hp) (F : List Addr) (H' : Hp) (F' : List Addr) : Prop where
  keep : ∀ b o, H b = some o → b ∉ F → (∀ ps, o ≠ .tbl ps) → H' b = some o
  foot : ∀ b ∈ F', b ∈ F ∨ New H b
  tabs : Tabs T H'
theorem Grow.chg {T : List (Addr × Str)} {H H' : Hp} {F : List Addr} (g : Grow T H H') (h : Tabs T H) : Chg T H F H' F := ⟨fun b o e _ n => g.at e n, fun b hb => .inl hb, g.tabs h⟩
/-- the promise of a def that answers a call: sh, what its numbers are; dec, the call -/
def spAns (K : PySem.W.Frag) (CT CG : Addr) (T : List (Addr × Str)) (sh : List Nat → Prop) (dec : List Nat → Krdh.Call) : Sp := fun vs H Q _ => ∃ (a : Addr) (F : List Addr) (d : Krdh.Desk) (b : Addr) (ns : List Nat), vs = [.ref a, .ref b] ∧ TableAt K CT CG H a F (some d) ∧ SqL K H b (nV ns) ∧ sh ns ∧ Tabs T H ∧
  ∀ (p : Addr) (H' : Hp) (F' : List Addr), Chg T H F H' F' → TableAt K CT CG H' a F' (Krdh.act (some d) (dec ns)).1 → H' p = some (.lst (zV (KrdhNeutral.told (Krdh.act (some d) (dec ns)).2))) → New H p → Q (.ref p) H'
/-- .. of begin: whatever stood before -/
def spBegin (K : PySem.W.Frag) (CT CG : Addr) (T : List (Addr × Str)) (sh : List Nat → Prop) (dec : List Nat → Krdh.Call) : Sp := fun vs H Q _ => ∃ (a : Addr) (F : List Addr) (x : Krdh.Abs) (b : Addr) (ns : List Nat), vs = [.ref a, .ref b] ∧ TableAt K CT CG H a F x ∧ SqL K H b (nV ns) ∧ sh ns ∧ Tabs T H ∧
  ∀ (p : Addr) (H' : Hp) (F' : List Addr), Chg T H F H' F' → TableAt K CT CG H' a F' (Krdh.act x (dec ns)).1 → H' p = some (.lst (zV (KrdhNeutral.told (Krdh.act x (dec ns)).2))) → New H p → Q (.ref p) H'
theorem nV_at' {l : List Nat} {i n : Nat} (h : l[i]? = some n) : atI (nV l) (i : Int) = some (V.int n) := atI_nat (nV_of h)
/-- a call that changes nothing and grows nothing: a new list is answered -/
theorem ans_new {K : PySem.W.Frag} {CT CG : Addr} {T : List (Addr × Str)} {H H1 : Hp} {a p : Addr} {F : List Addr} {x : Krdh.Abs} {xs : List V} {Q : VK} {z : List Int} (hT : Tabs T H) (e : Grow T H H1) (hA : TableAt K CT CG H a F x) (np : H1 p = none) (hx : xs = zV z)
    (q : ∀ (p : Addr) (H' : Hp) (F' : List Addr), Chg T H F H' F' → TableAt K CT CG H' a F' x → H' p = some (.lst (zV z)) → New H p → Q (.ref p) H') : Q (.ref p) (upd H1 p (.lst xs)) := by
  have e2 : Grow T H (upd H1 p (.lst xs)) := e.trans (Same.grow (Same.new np))
  refine q p _ F (e2.chg hT) ?_ (by rw [← hx]; exact upd_same) (New.back e np)
  cases x with
  | none =>
    obtain ⟨dx, aG, ⟨h1, h2⟩, hF⟩ := hA
    exact ⟨dx, aG, ⟨e2.at h1 (fun _ z => by cases z), e2.at h2 fun _ z => by cases z⟩, hF⟩
  | some d =>
    obtain ⟨aG, g0, g1, h, hF⟩ := hA
    exact ⟨aG, g0, g1, h.grow e2, hF⟩
theorem ans_say {K : PySem.W.Frag} {CT CG : Addr} {T : List (Addr × Str)} {H H1 : Hp} {a p : Addr} {F : List Addr} {x : Krdh.Abs} {c : Krdh.Call} {r : Krdf.Ans} {xs : List V} {Q : VK} (hT : Tabs T H) (e : Grow T H H1) (hA : TableAt K CT CG H a F x) (np : H1 p = none) (hact : Krdh.act x c = (x, r)) (hx : xs = zV (KrdhNeutral.told r))
    (q : ∀ (p : Addr) (H' : Hp) (F' : List Addr), Chg T H F H' F' → TableAt K CT CG H' a F' (Krdh.act x c).1 → H' p = some (.lst (zV (KrdhNeutral.told (Krdh.act x c).2))) → New H p → Q (.ref p) H') : Q (.ref p) (upd H1 p (.lst xs)) := by
  rw [hact] at q
  exact ans_new hT e hA np hx q
/-! ### the specification's calls, case by case -/
section
variable {d : Krdh.Desk} {g s y n b : Nat} {l : List Nat}
theorem gs_bad (h : (decide (g < 2) && decide (s < d.t.k)) = false) : (decide (1 < g) || decide (d.t.k ≤ s)) = true := by
  simp only [Bool.and_eq_false_iff, decide_eq_false_iff_not, Bool.or_eq_true, decide_eq_true_eq] at h ⊢
  omega
theorem gs_ok (h : (decide (g < 2) && decide (s < d.t.k)) = true) : (decide (1 < g) || decide (d.t.k ≤ s)) = false := by
  simp only [Bool.and_eq_true, Bool.or_eq_false_iff, decide_eq_false_iff_not, decide_eq_true_eq] at h ⊢
  omega
theorem g_bad (h : ¬ g < 2) : decide (1 < g) = true := decide_eq_true (by omega)
theorem g_ok (h : g < 2) : decide (1 < g) = false := decide_eq_false (by omega)
theorem act_cell_bad (h : (decide (g < 2) && decide (s < d.t.k)) = false) : Krdh.act (some d) (.cell g s) = (some d, Krdf.say (-2)) := by
  show (some d, if (decide (1 < g) || decide (d.t.k ≤ s)) = true then Krdf.say (-2) else _) = _
  rw [if_pos (gs_bad h)]
theorem act_cell_ok (h : (decide (g < 2) && decide (s < d.t.k)) = true) : Krdh.act (some d) (.cell g s) = (some d, { num := ((d.t.cell g s).1 : Int), nums := [((d.t.cell g s).2 : Int)] }) := by
  show (some d, if (decide (1 < g) || decide (d.t.k ≤ s)) = true then Krdf.say (-2) else { num := ((d.t.cell g s).1 : Int), nums := [((d.t.cell g s).2 : Int)] }) = _
  rw [if_neg (by rw [gs_ok h]; exact Bool.false_ne_true)]
theorem act_people_bad (h : ¬ g < 2) : Krdh.act (some d) (.people g) = (some d, Krdf.say (-2)) := by
  show (some d, if decide (1 < g) = true then Krdf.say (-2) else _) = _
  rw [if_pos (g_bad h)]
theorem act_people_ok (h : g < 2) : Krdh.act (some d) (.people g) = (some d, { num := (d.t.yes g : Int) + (d.t.no g : Int), nums := [(d.t.yes g : Int)] }) := by
  show (some d, if decide (1 < g) = true then Krdf.say (-2) else { num := (d.t.yes g : Int) + (d.t.no g : Int), nums := [(d.t.yes g : Int)] }) = _
  rw [if_neg (by rw [g_ok h]; exact Bool.false_ne_true)]
end
section
variable {P : Program} {w : World} {K : PySem.W.Frag} {mg : Str → Option Value} {base : Heap} {CT CG aZ aO : Addr} {T : List (Addr × Str)}
theorem nT {b : Bool} (h : (!b) = true) : b = false := by
  cases b with
  | true => cases h
  | false => rfl
theorem nF {b : Bool} (h : (!b) = false) : b = true := by
  cases b with
  | true => rfl
  | false => cases h
/-! ### cell -/
theorem scCell : FnScope ["table", "numbers", "g", "s"] ["table", "numbers"] (defScope sAnswerCell) := ⟨rfl, rfl, rfl, by decide +kernel, rfl, by decide +kernel, by decide +kernel⟩
def shCell (ns : List Nat) : Prop := ∃ g s, ns = [g, s]
def decCell (ns : List Nat) : Krdh.Call := .cell (ns.getD 0 0) (ns.getD 1 0)
theorem ok_cell (D : Has K mg "answer_cell" sAnswerCell ["table", "numbers"]) (G : TxtG K mg CG) (TT : TxtT K mg CT) (HC : Kept P w K mg base 2 "has_cell" ["table", "g", "s"] (spHasCell K CT CG)) : Kept P w K mg base 3 "answer_cell" ["table", "numbers"] (spAns K CT CG T shCell decCell) := by
  refine D.kept scCell (fun vs H Q E h => ?_) (fun f cdv A outer s H vs Q E hr h => ⟨_, pss_cons (ps_set (i := 2) scCell.nd rfl (Or.inl rfl) (pe_ix ix_list (pv 1) pe_int (fun _ _ => rfl))) (pss_cons (ps_set (i := 3) scCell.nd rfl (Or.inl rfl) (pe_ix ix_list (pv 1) pe_int (fun _ _ => rfl)))
    (pss_cons (ps_if (pt_not (pt_val (pe_def HC hr rfl (pa_cons (pv 0) (pa_cons (pv 2) (pa_cons (pv 3) pa_nil)))))) (pss_one (ps_ret (pe_lst (pa_cons (pe_num rfl TT.noSuch) pa_nil)))) pss_nil)
    (pss_one (ps_ret (pe_lst (pa_cons (pe_ix ix_list (pe_fld (pe_ix ix_list (pe_fld (pv 0) rfl) (pv 2) (fun _ _ => rfl)) rfl) (pv 3) (fun _ _ => rfl)) (pa_cons (pe_ix ix_list (pe_fld (pe_ix ix_list (pe_fld (pv 0) rfl) (pv 2) (fun _ _ => rfl)) rfl) (pv 3) (fun _ _ => rfl)) pa_nil))))))), ?_⟩)
  · obtain ⟨_, _, _, _, _, rfl, _⟩ := h
    rfl
  · obtain ⟨a, F, d, b, ns, rfl, hA, hb, ⟨g, s', rfl⟩, hT, q⟩ := h
    obtain ⟨aG, g0, g1, hd, hF⟩ := id hA
    obtain ⟨dx, hi⟩ := hd.ins
    refine ⟨_, rfl, b, _, 0, _, rfl, rfl, hb, rfl, _, rfl, b, _, 1, _, rfl, rfl, hb, rfl, _, rfl, _, rfl, _, rfl, a, aG, g0, g1, d, g, s', rfl, hd, _, rfl, ?_⟩
    refine ifB (fun c => ?_) fun c => ?_
    · exact ⟨one_le, fun p np => ans_say hT (Same.grow (Same.refl H)) hA np (act_cell_bad (nT c)) rfl q⟩
    · have c := nF c
      have hc := Bool.and_eq_true_iff.mp c
      have hg := of_decide_eq_true hc.1
      have hs := of_decide_eq_true hc.2
      have hP := hd.pick hg
      refine ⟨_, rfl, a, CT, dx, _, _, rfl, hi, TT.cl, TT.nG, tF_groups, _, rfl, aG, _, _, _, rfl, rfl, SqL.of hd.grp, pick_at hg, _, CG, _, _, _, rfl, hP.ins, G.cl, G.nS, gF_so, _, rfl, _, _, _, _, rfl, rfl, SqL.of hP.so, map_at (soL_at hs),
        _, rfl, a, CT, dx, _, _, rfl, hi, TT.cl, TT.nG, tF_groups, _, rfl, aG, _, _, _, rfl, rfl, SqL.of hd.grp, pick_at hg, _, CG, _, _, _, rfl, hP.ins, G.cl, G.nN, gF_no, _, rfl, _, _, _, _, rfl, rfl, SqL.of hP.no, map_at (noL_at hs), two_le, fun p np => ?_⟩
      exact ans_say hT (Same.grow (Same.refl H)) hA np (act_cell_ok c) rfl q
/-! ### people -/
theorem scPeople : FnScope ["table", "numbers", "g", "so"] ["table", "numbers"] (defScope sAnswerPeople) := ⟨rfl, rfl, rfl, by decide +kernel, rfl, by decide +kernel, by decide +kernel⟩
def shOne (ns : List Nat) : Prop := ∃ g, ns = [g]
def decPeople (ns : List Nat) : Krdh.Call := .people (ns.getD 0 0)
theorem ok_people (D : Has K mg "answer_people" sAnswerPeople ["table", "numbers"]) (G : TxtG K mg CG) (TT : TxtT K mg CT) (HG : Kept P w K mg base 1 "has_group" ["table", "g"] (spHasGroup K CT CG)) : Kept P w K mg base 2 "answer_people" ["table", "numbers"] (spAns K CT CG T shOne decPeople) := by
  refine D.kept scPeople (fun vs H Q E h => ?_) (fun f cdv A outer s H vs Q E hr h => ⟨_, pss_cons (ps_set (i := 2) scPeople.nd rfl (Or.inl rfl) (pe_ix ix_list (pv 1) pe_int (fun _ _ => rfl)))
    (pss_cons (ps_if (pt_not (pt_val (pe_def HG hr rfl (pa_cons (pv 0) (pa_cons (pv 2) pa_nil))))) (pss_one (ps_ret (pe_lst (pa_cons (pe_num rfl TT.noSuch) pa_nil)))) pss_nil)
    (pss_cons (ps_set (i := 3) scPeople.nd rfl (Or.inl rfl) (pe_callB (cr_sum rfl) (by rfl) G.sum boot_sum (pa_cons (pe_fld (pe_ix ix_list (pe_fld (pv 0) rfl) (pv 2) (fun _ _ => rfl)) rfl) pa_nil)))
    (pss_one (ps_ret (pe_lst (pa_cons (pe_op op_add (pv 3) (pe_callB (cr_sum rfl) (by rfl) G.sum boot_sum (pa_cons (pe_fld (pe_ix ix_list (pe_fld (pv 0) rfl) (pv 2) (fun _ _ => rfl)) rfl) pa_nil))) (pa_cons (pv 3) pa_nil))))))), ?_⟩)
  · obtain ⟨_, _, _, _, _, rfl, _⟩ := h
    rfl
  · obtain ⟨a, F, d, b, ns, rfl, hA, hb, ⟨g, rfl⟩, hT, q⟩ := h
    obtain ⟨aG, g0, g1, hd, hF⟩ := id hA
    obtain ⟨dx, hi⟩ := hd.ins
    refine ⟨_, rfl, b, _, 0, _, rfl, rfl, hb, rfl, _, rfl, _, rfl, a, aG, g0, g1, d, g, rfl, hd, _, rfl, ?_⟩
    refine ifN (fun c => ?_) fun hg => ?_
    · exact ⟨one_le, fun p np => ans_say hT (Same.grow (Same.refl H)) hA np (act_people_bad c) rfl q⟩
    · have hP := hd.pick hg
      refine ⟨_, rfl, a, CT, dx, _, _, rfl, hi, TT.cl, TT.nG, tF_groups, _, rfl, aG, _, _, _, rfl, rfl, SqL.of hd.grp, pick_at hg, _, CG, _, _, _, rfl, hP.ins, G.cl, G.nS, gF_so, _, _, rfl, SqL.of hP.so,
        _, rfl, _, rfl, a, CT, dx, _, _, rfl, hi, TT.cl, TT.nG, tF_groups, _, rfl, aG, _, _, _, rfl, rfl, SqL.of hd.grp, pick_at hg, _, CG, _, _, _, rfl, hP.ins, G.cl, G.nN, gF_no, _, _, rfl, SqL.of hP.no, _, _, rfl, rfl, _, rfl, two_le, fun p np => ?_⟩
      exact ans_say hT (Same.grow (Same.refl H)) hA np (act_people_ok hg) (by rw [so_sum, no_sum]; rfl) q
end
end My

namespace My
open PySem PySem.Spec PyProof.Rows L2 LamX NdefX
/-! ### a list changed in place -/
section
variable {K : PySem.W.Frag} {C : Addr} {H : Hp} {g : GA} {so no so' no' : List Int} {ch : List Rat}
theorem GrpAt.setS (h : GrpAt K C H g so no ch) (a : GApart g) : GrpAt K C (upd H g.aS (.lst (so'.map V.int))) g so' no ch :=
  ⟨by rw [upd_ne (ne_of h.ins h.so (by intro z; cases z))]; exact h.ins, upd_same, by rw [upd_ne a.sn.symm]; exact h.no, by rw [upd_ne a.sc.symm]; exact h.ch, h.fr.upd h.so lst_tup lst_frz⟩
theorem GrpAt.setN (h : GrpAt K C H g so no ch) (a : GApart g) : GrpAt K C (upd H g.aN (.lst (no'.map V.int))) g so no' ch :=
  ⟨by rw [upd_ne (ne_of h.ins h.no (by intro z; cases z))]; exact h.ins, by rw [upd_ne a.sn]; exact h.so, upd_same, by rw [upd_ne a.nc.symm]; exact h.ch, h.fr.upd h.no lst_tup lst_frz⟩
theorem GrpAt.other {q : Addr} {xs : List V} {o' : HO} (h : GrpAt K C H g so no ch) (hq : H q = some (.lst xs)) (n1 : g.aS ≠ q) (n2 : g.aN ≠ q) (n3 : g.aC ≠ q) : GrpAt K C (upd H q o') g so no ch :=
  ⟨by rw [upd_ne (ne_of h.ins hq (by intro z; cases z))]; exact h.ins, by rw [upd_ne n1]; exact h.so, by rw [upd_ne n2]; exact h.no, by rw [upd_ne n3]; exact h.ch, h.fr.upd hq lst_tup lst_frz⟩
end
theorem refs_ints {g0 g1 : Addr} {l : List Int} : (HO.lst [V.ref g0, V.ref g1]) ≠ .lst (l.map V.int) := fun z => by
  injection z with z
  cases l with
  | nil => cases z
  | cons a r => cases z
/-! ### a cell of the table set -/
def putCell (t : Krdf.Table) (g s y n : Nat) : Krdf.Table := { t with cells := t.cells.set g ((t.cells.getD g []).set s (y, n)) }
section
variable {t : Krdf.Table} {g s y n : Nat}
theorem put_cell (hg : g < t.cells.length) (hs : s < (t.cells.getD g []).length) (gi si : Nat) : (putCell t g s y n).cell gi si = if g = gi ∧ s = si then (y, n) else t.cell gi si := by
  show ((t.cells.set g ((t.cells.getD g []).set s (y, n))).getD gi []).getD si (0, 0) = _
  rw [getD_set hg]
  by_cases e : g = gi
  · rw [if_pos e, getD_set hs]
    by_cases e2 : s = si
    · rw [if_pos e2, if_pos ⟨e, e2⟩]
    · rw [if_neg e2, if_neg (fun z => e2 z.2)]
      show _ = (t.cells.getD gi []).getD si (0, 0)
      rw [e]
  · rw [if_neg e, if_neg (fun z => e z.1)]
    rfl
theorem put_soL (hg : g < t.cells.length) (hs : s < (t.cells.getD g []).length) : soL (putCell t g s y n) g = (soL t g).set s (y : Int) := by
  refine List.ext_getElem? fun i => ?_
  by_cases hi : i < t.k
  · rw [soL_at (t := putCell t g s y n) hi, put_cell hg hs, List.getElem?_set]
    by_cases e : s = i
    · subst e
      rw [if_pos ⟨rfl, rfl⟩, if_pos rfl, if_pos (by rw [soL_len]; exact hi)]
    · rw [if_neg (fun z => e z.2), if_neg e, soL_at hi]
  · rw [List.getElem?_eq_none (by rw [soL_len]; show t.k ≤ i; omega), List.getElem?_eq_none (by rw [List.length_set, soL_len]; omega)]
theorem put_noL (hg : g < t.cells.length) (hs : s < (t.cells.getD g []).length) : noL (putCell t g s y n) g = (noL t g).set s (n : Int) := by
  refine List.ext_getElem? fun i => ?_
  by_cases hi : i < t.k
  · rw [noL_at (t := putCell t g s y n) hi, put_cell hg hs, List.getElem?_set]
    by_cases e : s = i
    · subst e
      rw [if_pos ⟨rfl, rfl⟩, if_pos rfl, if_pos (by rw [noL_len]; exact hi)]
    · rw [if_neg (fun z => e z.2), if_neg e, noL_at hi]
  · rw [List.getElem?_eq_none (by rw [noL_len]; show t.k ≤ i; omega), List.getElem?_eq_none (by rw [List.length_set, noL_len]; omega)]
theorem put_soL_other (hg : g < t.cells.length) (hs : s < (t.cells.getD g []).length) {gi : Nat} (h : g ≠ gi) : soL (putCell t g s y n) gi = soL t gi := by
  refine List.map_congr_left fun i _ => ?_
  rw [put_cell hg hs, if_neg fun z => h z.1]
theorem put_noL_other (hg : g < t.cells.length) (hs : s < (t.cells.getD g []).length) {gi : Nat} (h : g ≠ gi) : noL (putCell t g s y n) gi = noL t gi := by
  refine List.map_congr_left fun i _ => ?_
  rw [put_cell hg hs, if_neg fun z => h z.1]
end
theorem DOk.put {d : Krdh.Desk} {g s y n : Nat} (o : DOk d) (hg : g < 2) (hs : s < d.t.k) (hy : y ≤ 99) (hn : n ≤ 99) : DOk { d with t := putCell d.t g s y n } := by
  have h1 : g < d.t.cells.length := by rw [o.c2]; exact hg
  have h2 : s < (d.t.cells.getD g []).length := by rw [o.ck g hg]; exact hs
  refine ⟨⟨o.t.k4, fun gi si => ?_⟩, o.k1, ?_, fun gi hgi => ?_, o.h2, o.hk, o.hs⟩
  · show ((putCell d.t g s y n).cell gi si).1 ≤ 99 ∧ ((putCell d.t g s y n).cell gi si).2 ≤ 99
    rw [put_cell h1 h2]
    split
    · exact ⟨hy, hn⟩
    · exact o.t.le gi si
  · show (d.t.cells.set g _).length = 2
    rw [List.length_set]
    exact o.c2
  · show ((d.t.cells.set g ((d.t.cells.getD g []).set s (y, n))).getD gi []).length = d.t.k
    rw [getD_set h1]
    split
    · rw [List.length_set]
      exact o.ck g hg
    · exact o.ck gi hgi
theorem act_count_bad {d : Krdh.Desk} {g s y n : Nat} (h : (decide (g < 2) && decide (s < d.t.k)) = false) : Krdh.act (some d) (.count g s y n) = (some d, Krdf.say (-2)) := by
  have e : Krdf.act (some d.t) (.count g s y n) = (some d.t, Krdf.say (-2)) := by
    show (if (decide (1 < g) || decide (d.t.k ≤ s)) = true then (some d.t, Krdf.say (-2)) else _) = _
    rw [if_pos (gs_bad h)]
  show (match Krdf.act (some d.t) (.count g s y n) with | (some u, r) => (some { d with t := u }, r) | (none, r) => (some d, r)) = _
  rw [e]
theorem act_count_many {d : Krdh.Desk} {g s y n : Nat} (h : (decide (g < 2) && decide (s < d.t.k)) = true) (hm : 99 < y ∨ 99 < n) : Krdh.act (some d) (.count g s y n) = (some d, Krdf.say (-22)) := by
  have e : Krdf.act (some d.t) (.count g s y n) = (some d.t, Krdf.say (-22)) := by
    show (if (decide (1 < g) || decide (d.t.k ≤ s)) = true then (some d.t, Krdf.say (-2)) else if (decide (Krdf.mostCount < y) || decide (Krdf.mostCount < n)) = true then (some d.t, Krdf.say (-22)) else _) = _
    rw [if_neg (by rw [gs_ok h]; exact Bool.false_ne_true), if_pos (by simp only [Bool.or_eq_true, decide_eq_true_eq]; exact hm)]
  show (match Krdf.act (some d.t) (.count g s y n) with | (some u, r) => (some { d with t := u }, r) | (none, r) => (some d, r)) = _
  rw [e]
theorem act_count_ok {d : Krdh.Desk} {g s y n : Nat} (h : (decide (g < 2) && decide (s < d.t.k)) = true) (hy : y ≤ 99) (hn : n ≤ 99) : Krdh.act (some d) (.count g s y n) = (some { d with t := putCell d.t g s y n }, Krdf.nat (y + n)) := by
  have e : Krdf.act (some d.t) (.count g s y n) = (some (putCell d.t g s y n), Krdf.nat (y + n)) := by
    show (if (decide (1 < g) || decide (d.t.k ≤ s)) = true then (some d.t, Krdf.say (-2)) else if (decide (Krdf.mostCount < y) || decide (Krdf.mostCount < n)) = true then (some d.t, Krdf.say (-22)) else (some (putCell d.t g s y n), Krdf.nat (y + n))) = _
    rw [if_neg (by rw [gs_ok h]; exact Bool.false_ne_true), if_neg (by rw [decide_eq_false (show ¬ Krdf.mostCount < y by show ¬ 99 < y; omega), decide_eq_false (show ¬ Krdf.mostCount < n by show ¬ 99 < n; omega)]; exact Bool.false_ne_true)]
  show (match Krdf.act (some d.t) (.count g s y n) with | (some u, r) => (some { d with t := u }, r) | (none, r) => (some d, r)) = _
  rw [e]
section
variable {P : Program} {w : World} {K : PySem.W.Frag} {mg : Str → Option Value} {base : Heap} {CT CG aZ aO : Addr} {T : List (Addr × Str)}
/-! ### count -/
theorem scCount : FnScope ["table", "numbers", "g", "s", "so", "not_so"] ["table", "numbers"] (defScope sAnswerCount) := ⟨rfl, rfl, rfl, by decide +kernel, rfl, by decide +kernel, by decide +kernel⟩
def shCount (ns : List Nat) : Prop := ∃ g s y n, ns = [g, s, y, n]
def decCount (ns : List Nat) : Krdh.Call := .count (ns.getD 0 0) (ns.getD 1 0) (ns.getD 2 0) (ns.getD 3 0)
theorem map_set {l : List Int} {i : Nat} {v : Int} : (l.map V.int).set i (V.int v) = (l.set i v).map V.int := by
  rw [List.map_set]
theorem ok_count (D : Has K mg "answer_count" sAnswerCount ["table", "numbers"]) (G : TxtG K mg CG) (TT : TxtT K mg CT) (HC : Kept P w K mg base 2 "has_cell" ["table", "g", "s"] (spHasCell K CT CG)) : Kept P w K mg base 3 "answer_count" ["table", "numbers"] (spAns K CT CG T shCount decCount) := by
  refine D.kept scCount (fun vs H Q E h => ?_) (fun f cdv A outer s H vs Q E hr h => ⟨_, pss_cons (ps_set (i := 2) scCount.nd rfl (Or.inl rfl) (pe_ix ix_list (pv 1) pe_int (fun _ _ => rfl))) (pss_cons (ps_set (i := 3) scCount.nd rfl (Or.inl rfl) (pe_ix ix_list (pv 1) pe_int (fun _ _ => rfl)))
    (pss_cons (ps_set (i := 4) scCount.nd rfl (Or.inl rfl) (pe_ix ix_list (pv 1) pe_int (fun _ _ => rfl))) (pss_cons (ps_set (i := 5) scCount.nd rfl (Or.inl rfl) (pe_ix ix_list (pv 1) pe_int (fun _ _ => rfl)))
    (pss_cons (ps_if (pt_not (pt_val (pe_def HC hr rfl (pa_cons (pv 0) (pa_cons (pv 2) (pa_cons (pv 3) pa_nil)))))) (pss_one (ps_ret (pe_lst (pa_cons (pe_num rfl TT.noSuch) pa_nil)))) pss_nil)
    (pss_cons (ps_if (PW.pt (pw_or (pt_cmpR op_gt (pv 4) (pe_num rfl TT.mostPeople) (nomark _)) (pw_or1 (pt_cmpR op_gt (pv 5) (pe_num rfl TT.mostPeople) (nomark _))))) (pss_one (ps_ret (pe_lst (pa_cons (pe_num rfl TT.notRight) pa_nil)))) pss_nil)
    (pss_cons (ps_asg (pv 4) (pg_sub (pe_fld (pe_ix ix_list (pe_fld (pv 0) rfl) (pv 2) (fun _ _ => rfl)) rfl) (pv 3) set_list))
    (pss_cons (ps_asg (pv 5) (pg_sub (pe_fld (pe_ix ix_list (pe_fld (pv 0) rfl) (pv 2) (fun _ _ => rfl)) rfl) (pv 3) set_list))
    (pss_one (ps_ret (pe_lst (pa_cons (pe_op op_add (pv 4) (pv 5)) pa_nil))))))))))), ?_⟩)
  · obtain ⟨_, _, _, _, _, rfl, _⟩ := h
    rfl
  · obtain ⟨a, F, d, b, ns, rfl, hA, hb, ⟨g, s', y, n, rfl⟩, hT, q⟩ := h
    obtain ⟨aG, g0, g1, hd, hF⟩ := id hA
    obtain ⟨dx, hi⟩ := hd.ins
    refine ⟨_, rfl, b, _, 0, _, rfl, rfl, hb, rfl, _, rfl, b, _, 1, _, rfl, rfl, hb, rfl, _, rfl, b, _, 2, _, rfl, rfl, hb, rfl, _, rfl, b, _, 3, _, rfl, rfl, hb, rfl, _, rfl, _, rfl, _, rfl, a, aG, g0, g1, d, g, s', rfl, hd, _, rfl, ?_⟩
    refine ifB (fun c => ?_) fun c => ?_
    · exact ⟨one_le, fun p np => ans_say hT (Same.grow (Same.refl H)) hA np (act_count_bad (nT c)) rfl q⟩
    · have c := nF c
      have hc := Bool.and_eq_true_iff.mp c
      have hg := of_decide_eq_true hc.1
      have hs := of_decide_eq_true hc.2
      have many : 99 < y ∨ 99 < n → Krdh.act (some d) (.count g s' y n) = (some d, Krdf.say (-22)) := fun h => act_count_many c h
      refine ⟨_, rfl, _, _, rfl, rfl, _, rfl, ?_⟩
      refine ifD (fun c1 => ?_) fun c1 => ?_
      · exact ifT rfl ⟨one_le, fun p np => ans_say hT (Same.grow (Same.refl H)) hA np (many (.inl (by omega))) rfl q⟩
      · refine ⟨_, rfl, _, _, rfl, rfl, _, rfl, ?_⟩
        refine ifD (fun c2 => ?_) fun c2 => ?_
        · exact ⟨one_le, fun p np => ans_say hT (Same.grow (Same.refl H)) hA np (many (.inr (by omega))) rfl q⟩
        · have hy : y ≤ 99 := by omega
          have hn : n ≤ 99 := by omega
          have hP := hd.pick hg
          have hap : GApart (pick g0 g1 g) := by
            rcases (show g = 0 ∨ g = 1 by omega) with rfl | rfl
            · exact hd.apart.a0
            · exact hd.apart.a1
          have ixs : ixN ((soL d.t g).map V.int).length (s' : Int) = some s' := by
            unfold ixN
            rw [List.length_map, soL_len, if_pos (by omega), if_pos (by omega)]
            rfl
          have ixn : ixN ((noL d.t g).map V.int).length (s' : Int) = some s' := by
            unfold ixN
            rw [List.length_map, noL_len, if_pos (by omega), if_pos (by omega)]
            rfl
          refine ⟨_, rfl, _, rfl, a, CT, dx, _, _, rfl, hi, TT.cl, TT.nG, tF_groups, _, rfl, aG, _, _, _, rfl, rfl, SqL.of hd.grp, pick_at hg, _, CG, _, _, _, rfl, hP.ins, G.cl, G.nS, gF_so, _, rfl, _, _, _, _, rfl, rfl, hP.so, ixs, ?_⟩
          rw [map_set]
          have hP1 := hP.setS (so' := (soL d.t g).set s' (y : Int)) hap
          have i1 : upd H (pick g0 g1 g).aS (.lst (((soL d.t g).set s' (y : Int)).map V.int)) a = some (.ins CT dx (tF d.t.k aG)) := by
            rw [upd_ne (ne_of hi hP.so (by intro z; cases z))]
            exact hi
          have g1' : upd H (pick g0 g1 g).aS (.lst (((soL d.t g).set s' (y : Int)).map V.int)) aG = some (.lst [.ref g0.p, .ref g1.p]) := by
            rw [upd_ne (ne_of hd.grp hP.so refs_ints)]
            exact hd.grp
          refine ⟨_, rfl, _, rfl, a, CT, dx, _, _, rfl, i1, TT.cl, TT.nG, tF_groups, _, rfl, aG, _, _, _, rfl, rfl, SqL.of g1', pick_at hg, _, CG, _, _, _, rfl, hP1.ins, G.cl, G.nN, gF_no, _, rfl, _, _, _, _, rfl, rfl, hP1.no, ixn, ?_⟩
          rw [map_set]
          have hP2 := hP1.setN (no' := (noL d.t g).set s' (n : Int)) hap
          generalize hH2 : upd (upd H (pick g0 g1 g).aS (.lst (((soL d.t g).set s' (y : Int)).map V.int))) (pick g0 g1 g).aN (.lst (((noL d.t g).set s' (n : Int)).map V.int)) = H2 at hP2
          have i2 : H2 a = some (.ins CT dx (tF d.t.k aG)) := by
            rw [← hH2, upd_ne (ne_of i1 hP1.no (by intro z; cases z))]
            exact i1
          have g2' : H2 aG = some (.lst [.ref g0.p, .ref g1.p]) := by
            rw [← hH2, upd_ne (ne_of g1' hP1.no refs_ints)]
            exact g1'
          have c1' : g < d.t.cells.length := by rw [hd.ok.c2]; exact hg
          have c2' : s' < (d.t.cells.getD g []).length := by rw [hd.ok.ck g hg]; exact hs
          have hT2 : Tabs T H2 := by
            rw [← hH2]
            exact tabs_upd hP1.no lst_tbl lst_code (tabs_upd hP.so lst_tbl lst_code hT)
          have hd2 : DeskAt K CT CG H2 a aG g0 g1 { d with t := putCell d.t g s' y n } := by
            rcases (show g = 0 ∨ g = 1 by omega) with rfl | rfl
            · refine ⟨⟨dx, i2⟩, g2', ?_, ?_, hd.apart, hd.ok.put hg hs hy hn⟩
              · show GrpAt K CG H2 g0 (soL (putCell d.t 0 s' y n) 0) (noL (putCell d.t 0 s' y n) 0) _
                rw [put_soL c1' c2', put_noL c1' c2']
                exact hP2
              · show GrpAt K CG H2 g1 (soL (putCell d.t 0 s' y n) 1) (noL (putCell d.t 0 s' y n) 1) _
                rw [put_soL_other c1' c2' (by decide), put_noL_other c1' c2' (by decide), ← hH2]
                exact (hd.gr1.other hP.so hd.apart.ss.symm hd.apart.sn.symm hd.apart.sc.symm).other hP1.no hd.apart.ns.symm hd.apart.nn.symm hd.apart.nc.symm
            · refine ⟨⟨dx, i2⟩, g2', ?_, ?_, hd.apart, hd.ok.put hg hs hy hn⟩
              · show GrpAt K CG H2 g0 (soL (putCell d.t 1 s' y n) 0) (noL (putCell d.t 1 s' y n) 0) _
                rw [put_soL_other c1' c2' (by decide), put_noL_other c1' c2' (by decide), ← hH2]
                exact (hd.gr0.other hP.so hd.apart.ss hd.apart.ns hd.apart.cs).other hP1.no hd.apart.sn hd.apart.nn hd.apart.cn
              · show GrpAt K CG H2 g1 (soL (putCell d.t 1 s' y n) 1) (noL (putCell d.t 1 s' y n) 1) _
                rw [put_soL c1' c2', put_noL c1' c2']
                exact hP2
          have inF : (pick g0 g1 g).aS ∈ F ∧ (pick g0 g1 g).aN ∈ F := by
            rw [hF]
            rcases (show g = 0 ∨ g = 1 by omega) with rfl | rfl
            · exact ⟨by simp [foot, pick], by simp [foot, pick]⟩
            · exact ⟨by simp [foot, pick], by simp [foot, pick]⟩
          have kp : ∀ b o, H b = some o → b ∉ F → H2 b = some o := fun b o eb hb => by
            rw [← hH2, upd_ne (fun z => hb (by rw [z]; exact inF.2)), upd_ne (fun z => hb (by rw [z]; exact inF.1))]
            exact eb
          refine ⟨_, rfl, _, rfl, _, _, rfl, rfl, one_le, fun p np => ?_⟩
          have e3 := Same.new (o := .lst [V.int ((y : Int) + (n : Int))]) np
          rw [show decCount [g, s', y, n] = .count g s' y n from rfl, act_count_ok c hy hn] at q
          refine q p _ F ⟨fun b o eb hb _ => e3 _ _ (kp b o eb hb), fun b hb => .inl hb, hT2.ext e3⟩ ⟨aG, g0, g1, hd2.same e3, hF⟩ upd_same (fun o eo => ?_)
          by_cases hpF : p ∈ F
          · -- p is none of the table's own: they stand in H2
            exfalso
            rw [hF] at hpF
            have : H2 p ≠ none := by
              simp only [foot, List.mem_cons, List.not_mem_nil, or_false] at hpF
              rcases hpF with rfl | rfl | rfl | rfl | rfl | rfl | rfl | rfl | rfl | rfl
              · rw [i2]; simp
              · rw [g2']; simp
              · rw [hd2.gr0.ins]; simp
              · rw [hd2.gr0.so]; simp
              · rw [hd2.gr0.no]; simp
              · rw [hd2.gr0.ch]; simp
              · rw [hd2.gr1.ins]; simp
              · rw [hd2.gr1.so]; simp
              · rw [hd2.gr1.no]; simp
              · rw [hd2.gr1.ch]; simp
            exact this np
          · rw [kp p o eo hpF] at np
            cases np
end
end My

namespace My
open PySem PySem.Spec PyProof.Rows L2 LamX NdefX
/-- the table's own objects stand in the heap -/
theorem foot_some {K : PySem.W.Frag} {CT CG : Addr} {H2 : Hp} {a aG p : Addr} {g0 g1 : GA} {d : Krdh.Desk} (hd : DeskAt K CT CG H2 a aG g0 g1 d) (hp : p ∈ foot a aG g0 g1) : ∃ o, H2 p = some o ∧ ∀ ps, o ≠ .tbl ps := by
  obtain ⟨dx, hi⟩ := hd.ins
  simp only [foot, List.mem_cons, List.not_mem_nil, or_false] at hp
  rcases hp with rfl | rfl | rfl | rfl | rfl | rfl | rfl | rfl | rfl | rfl
  · exact ⟨_, hi, ins_tbl⟩
  · exact ⟨_, hd.grp, lst_tbl⟩
  · exact ⟨_, hd.gr0.ins, ins_tbl⟩
  · exact ⟨_, hd.gr0.so, lst_tbl⟩
  · exact ⟨_, hd.gr0.no, lst_tbl⟩
  · exact ⟨_, hd.gr0.ch, lst_tbl⟩
  · exact ⟨_, hd.gr1.ins, ins_tbl⟩
  · exact ⟨_, hd.gr1.so, lst_tbl⟩
  · exact ⟨_, hd.gr1.no, lst_tbl⟩
  · exact ⟨_, hd.gr1.ch, lst_tbl⟩
/-- what is new behind a change is new ahead of it: what was there stands still or is written anew -/
theorem new_p {H H2 : Hp} {p : Addr} (kp : ∀ b o, H b = some o → (∀ ps, o ≠ .tbl ps) → ∃ o', H2 b = some o') (np : H2 p = none) : New H p := fun o eo => by
  by_cases ct : ∃ ps, o = .tbl ps
  · exact ct
  · obtain ⟨o', e⟩ := kp p o eo fun ps z => ct ⟨ps, z⟩
    rw [np] at e
    cases e
/-! ### a group's chances set -/
section
variable {K : PySem.W.Frag} {C : Addr} {H : Hp} {g : GA} {so no : List Int} {ch rs : List Rat} {cs : List V} {q : Addr}
/-- the group with another list of chances -/
def GA.withC (g : GA) (q : Addr) (cs : List V) : GA := { g with aC := q, cs := cs }
theorem GrpAt.setC (h : GrpAt K C H g so no ch) (hq : H q = some (.lst cs)) (hr : Frs K H cs rs) : GrpAt K C (upd H g.p (.ins C g.dx (gF g.aS g.aN q))) (g.withC q cs) so no rs :=
  ⟨upd_same, (upd_ne (ne_of h.so h.ins (by intro z; cases z))).trans h.so, (upd_ne (ne_of h.no h.ins (by intro z; cases z))).trans h.no, (upd_ne (ne_of hq h.ins (by intro z; cases z))).trans hq, hr.upd h.ins ins_tup ins_frz⟩
theorem GrpAt.otherI {b C' dx : Addr} {fs : List (Str × V)} {o' : HO} (h : GrpAt K C H g so no ch) (hb : H b = some (.ins C' dx fs)) (n : g.p ≠ b) : GrpAt K C (upd H b o') g so no ch :=
  ⟨by rw [upd_ne n]; exact h.ins, by rw [upd_ne (ne_of h.so hb (by intro z; cases z))]; exact h.so, by rw [upd_ne (ne_of h.no hb (by intro z; cases z))]; exact h.no, by rw [upd_ne (ne_of h.ch hb (by intro z; cases z))]; exact h.ch, h.fr.upd hb ins_tup ins_frz⟩
end
theorem DOk.chances {d : Krdh.Desk} {gi : Nat} {rs : List Rat} (o : DOk d) (hg : gi < 2) (hl : rs.length = d.t.k) (hs : ∀ r ∈ rs, Sm 800 r) : DOk { d with chances := d.chances.set gi rs } := by
  have h1 : gi < d.chances.length := by rw [o.h2]; exact hg
  refine ⟨o.t, o.k1, o.c2, o.ck, ?_, fun gj hj => ?_, fun gj r hr => ?_⟩
  · show (d.chances.set gi rs).length = 2
    rw [List.length_set]
    exact o.h2
  · show ((d.chances.set gi rs).getD gj []).length = d.t.k
    rw [getD_set h1]
    split
    · exact hl
    · exact o.hk gj hj
  · have hr : r ∈ (d.chances.set gi rs).getD gj [] := hr
    rw [getD_set h1] at hr
    split at hr
    · exact hs r hr
    · exact o.hs gj r hr
theorem ins_tg {C C' dx dx' aG aS aN aC : Addr} {k : Nat} : HO.ins C dx (tF k aG) ≠ .ins C' dx' (gF aS aN aC) := fun z => by
  injection z with _ _ z
  have := congrArg List.length z
  cases this
/-- the table with new chances of one group -/
theorem desk_setC {K : PySem.W.Frag} {CT CG : Addr} {H : Hp} {a aG q : Addr} {g0 g1 : GA} {d : Krdh.Desk} {gi : Nat} {cs : List V} {rs : List Rat} (hd : DeskAt K CT CG H a aG g0 g1 d) (hg : gi < 2) (hq : H q = some (.lst cs)) (hr : Frs K H cs rs)
    (n1 : q ≠ g0.aS) (n2 : q ≠ g0.aN) (n3 : q ≠ g1.aS) (n4 : q ≠ g1.aN) (hl : rs.length = d.t.k) (hs : ∀ r ∈ rs, Sm 800 r) :
    ∃ g0' g1', DeskAt K CT CG (upd H (pick g0 g1 gi).p (.ins CG (pick g0 g1 gi).dx (gF (pick g0 g1 gi).aS (pick g0 g1 gi).aN q))) a aG g0' g1' { d with chances := d.chances.set gi rs } ∧ ∀ b ∈ foot a aG g0' g1', b ∈ foot a aG g0 g1 ∨ b = q := by
  have hP := hd.pick hg
  obtain ⟨dx, hi⟩ := hd.ins
  have h1 : gi < d.chances.length := by rw [hd.ok.h2]; exact hg
  have i2 : upd H (pick g0 g1 gi).p (.ins CG (pick g0 g1 gi).dx (gF (pick g0 g1 gi).aS (pick g0 g1 gi).aN q)) a = some (.ins CT dx (tF d.t.k aG)) := by
    rw [upd_ne (ne_of hi hP.ins ins_tg)]
    exact hi
  have g2 : upd H (pick g0 g1 gi).p (.ins CG (pick g0 g1 gi).dx (gF (pick g0 g1 gi).aS (pick g0 g1 gi).aN q)) aG = some (.lst [.ref g0.p, .ref g1.p]) := by
    rw [upd_ne (ne_of hd.grp hP.ins (by intro z; cases z))]
    exact hd.grp
  have ap := hd.apart
  rcases (show gi = 0 ∨ gi = 1 by omega) with rfl | rfl
  · refine ⟨g0.withC q cs, g1, ⟨⟨dx, i2⟩, g2, ?_, ?_, ⟨⟨ap.a0.sn, n1.symm, n2.symm⟩, ap.a1, ap.p, ap.ss, ap.sn, ap.sc, ap.ns, ap.nn, ap.nc, n3, n4⟩, hd.ok.chances hg hl hs⟩, fun b hb => by
      simp only [foot, GA.withC, List.mem_cons, List.not_mem_nil, or_false] at hb ⊢
      rcases hb with h | h | h | h | h | h | h | h | h | h <;> simp [h]⟩
    · show GrpAt K CG _ _ _ _ ((d.chances.set 0 rs).getD 0 [])
      rw [getD_set h1, if_pos rfl]
      exact hP.setC hq hr
    · show GrpAt K CG _ _ _ _ ((d.chances.set 0 rs).getD 1 [])
      rw [getD_set h1, if_neg (by decide)]
      exact hd.gr1.otherI hP.ins ap.p.symm
  · refine ⟨g0, g1.withC q cs, ⟨⟨dx, i2⟩, g2, ?_, ?_, ⟨ap.a0, ⟨ap.a1.sn, n3.symm, n4.symm⟩, ap.p, ap.ss, ap.sn, n1.symm, ap.ns, ap.nn, n2.symm, ap.cs, ap.cn⟩, hd.ok.chances hg hl hs⟩, fun b hb => by
      simp only [foot, GA.withC, List.mem_cons, List.not_mem_nil, or_false] at hb ⊢
      rcases hb with h | h | h | h | h | h | h | h | h | h <;> simp [h]⟩
    · show GrpAt K CG _ _ _ _ ((d.chances.set 1 rs).getD 0 [])
      rw [getD_set h1, if_neg (by decide)]
      exact hd.gr0.otherI hP.ins ap.p
    · show GrpAt K CG _ _ _ _ ((d.chances.set 1 rs).getD 1 [])
      rw [getD_set h1, if_pos rfl]
      exact hP.setC hq hr
/-! ### chances, in the specification's words -/
theorem act_chances_bad {d : Krdh.Desk} {g b : Nat} {l : List Nat} (h : ¬ g < 2) : Krdh.act (some d) (.chances g b l) = (some d, Krdf.say (-2)) := by
  show (if decide (1 < g) = true then (some d, Krdf.say (-2)) else _) = _
  rw [if_pos (g_bad h)]
theorem act_chances_no {d : Krdh.Desk} {g b : Nat} {l : List Nat} (hg : g < 2) (h : l.length ≠ d.t.k ∨ (l.all fun v => Krdh.partOk v b) = false) : Krdh.act (some d) (.chances g b l) = (some d, Krdf.say (-22)) := by
  show (if decide (1 < g) = true then (some d, Krdf.say (-2)) else if (l.length ≠ d.t.k || b = 0 || decide (1000 < b) || !(l.all fun v => decide (v ≤ b))) = true then (some d, Krdf.say (-22)) else _) = _
  rw [if_neg (by rw [g_ok hg]; exact Bool.false_ne_true), if_pos]
  rcases h with h | h
  · simp [h]
  · by_cases c : 1 ≤ b ∧ b ≤ 1000
    · have e : (l.all fun v => Krdh.partOk v b) = l.all fun v => decide (v ≤ b) := by
        congr 1
        funext v
        unfold Krdh.partOk
        rw [decide_eq_true c.1, decide_eq_true c.2]
        rfl
      rw [← e, h]
      simp
    · by_cases c0 : b = 0
      · simp [c0]
      · have : 1000 < b := by omega
        simp [this]
theorem act_chances_ok {d : Krdh.Desk} {g b : Nat} {l : List Nat} (hg : g < 2) (h1 : l.length = d.t.k) (k1 : 1 ≤ d.t.k) (h : (l.all fun v => Krdh.partOk v b) = true) : Krdh.act (some d) (.chances g b l) = (some { d with chances := d.chances.set g (l.map fun v => Krdh.rat v b) }, Krdf.say 0) := by
  show (if decide (1 < g) = true then (some d, Krdf.say (-2)) else if (l.length ≠ d.t.k || b = 0 || decide (1000 < b) || !(l.all fun v => decide (v ≤ b))) = true then (some d, Krdf.say (-22)) else (some { d with chances := d.chances.set g (l.map fun v => Krdh.rat v b) }, Krdf.say 0)) = _
  rw [if_neg (by rw [g_ok hg]; exact Bool.false_ne_true), if_neg]
  have all : ∀ v ∈ l, 1 ≤ b ∧ b ≤ 1000 ∧ v ≤ b := fun v hv => by
    have := List.all_eq_true.mp h v hv
    simp only [Krdh.partOk, Bool.and_eq_true, decide_eq_true_eq] at this
    exact ⟨this.1.1, this.1.2, this.2⟩
  cases l with
  | nil =>
    rw [List.length_nil] at h1
    omega
  | cons v r =>
    have hb := all v (List.mem_cons_self ..)
    have h3 : ((v :: r).all fun v => decide (v ≤ b)) = true := List.all_eq_true.mpr fun u hu => decide_eq_true (all u hu).2.2
    rw [h3]
    have e1 : decide ((v :: r).length ≠ d.t.k) = false := decide_eq_false (by rw [h1]; simp)
    have e2 : decide (b = 0) = false := decide_eq_false (by omega)
    have e3 : decide (1000 < b) = false := decide_eq_false (by omega)
    rw [e1, e2, e3]
    exact Bool.false_ne_true
theorem rat_small {v b : Nat} (h : Krdh.partOk v b = true) : Sm 800 (Krdh.rat v b) := by
  simp only [Krdh.partOk, Bool.and_eq_true, decide_eq_true_eq] at h
  unfold Krdh.rat
  rw [← natZ, ← natZ]
  refine (sm_div (n := 10) (by omega) ?_ ?_).mono (by decide)
  · rw [nab]
    exact Nat.lt_of_le_of_lt (show v ≤ 1000 by omega) (by decide)
  · rw [nab]
    exact Nat.lt_of_le_of_lt (show b ≤ 1000 by omega) (by decide)
theorem cut3 (ns : List Nat) : cutV (nV ns) (some 3) none = nV (ns.drop 3) := by
  unfold cutV
  rw [show HT.sIx (nV ns).length 0 (some 3) = min 3 (nV ns).length from HT.sIx_nat (nV ns).length 0 3, HT.sIx_none]
  unfold nV
  rw [List.length_map, List.map_drop]
  by_cases h : 3 ≤ ns.length
  · rw [show min 3 ns.length = 3 by omega]
    exact List.take_of_length_le (by rw [List.length_drop, List.length_map]; omega)
  · rw [show min 3 ns.length = ns.length by omega, List.drop_of_length_le (by rw [List.length_map]; omega), List.drop_of_length_le (by rw [List.length_map]; omega)]
    simp
section
variable {P : Program} {w : World} {K : PySem.W.Frag} {mg : Str → Option Value} {base : Heap} {CT CG aZ aO : Addr} {T : List (Addr × Str)}
/-! ### chances -/
theorem scChances : FnScope ["table", "numbers", "g", "lower", "of_each", "upper"] ["table", "numbers"] (defScope sAnswerChances) := ⟨rfl, rfl, rfl, by decide +kernel, rfl, by decide +kernel, by decide +kernel⟩
def shChances (ns : List Nat) : Prop := ∃ g b m l, ns = g :: b :: m :: l ∧ l.length ≤ 255 
def decChances (ns : List Nat) : Krdh.Call := .chances (ns.getD 0 0) (ns.getD 1 0) (ns.drop 3)
theorem frs_snoc {K : PySem.W.Frag} {H : Hp} {cs : List V} {rs : List Rat} {v : V} {r : Rat} (h : Frs K H cs rs) (hv : Fr K H v r) : Frs K H (cs ++ [v]) (rs ++ [r]) := by
  refine ⟨by rw [List.length_append, List.length_append, h.len]; rfl, fun i x y a b => ?_⟩
  by_cases hi : i < cs.length
  · rw [List.getElem?_append_left hi] at a
    rw [List.getElem?_append_left (by rw [← h.len]; exact hi)] at b
    exact h.each i x y a b
  · have ei : i = cs.length := by
      have := (List.getElem?_eq_some_iff.mp a).1
      rw [List.length_append] at this
      simp at this
      omega
    rw [ei] at a b
    rw [List.getElem?_append_right (Nat.le_refl _), Nat.sub_self] at a
    rw [h.len, List.getElem?_append_right (Nat.le_refl _), Nat.sub_self] at b
    cases a
    cases b
    exact hv
theorem ok_chances (D : Has K mg "answer_chances" sAnswerChances ["table", "numbers"]) (G : TxtG K mg CG) (TT : TxtT K mg CT) (HG : Kept P w K mg base 1 "has_group" ["table", "g"] (spHasGroup K CT CG)) (IP : Kept P w K mg base 2 "is_part" ["upper", "lower"] spIsPart) (R : Kept P w K mg base 2 "reduced" ["upper", "lower"] spReduced) :
    Kept P w K mg base 3 "answer_chances" ["table", "numbers"] (spAns K CT CG T shChances decChances) := by
  refine D.kept scChances (fun vs H Q E h => ?_) (fun f cdv A outer s H vs Q E hr h => ⟨_, pss_cons (ps_set (i := 2) scChances.nd rfl (Or.inl rfl) (pe_ix ix_list (pv 1) pe_int (fun _ _ => rfl))) (pss_cons (ps_set (i := 3) scChances.nd rfl (Or.inr rfl) (pe_ix ix_list (pv 1) pe_int (fun _ _ => rfl)))
    (pss_cons (ps_set (i := 4) scChances.nd rfl (Or.inl rfl) (pe_slice sl_list (pv 1) (po_some pe_int) po_none))
    (pss_cons (ps_if (pt_not (pt_val (pe_def HG (hr.mono (by decide)) rfl (pa_cons (pv 0) (pa_cons (pv 2) pa_nil))))) (pss_one (ps_ret (pe_lst (pa_cons (pe_num rfl TT.noSuch) pa_nil)))) pss_nil)
    (pss_cons (ps_if (PW.pt (pw_or (pt_cmpR op_ne (pe_callB call_len_seq (by rfl) G.len PySem.boot_len (pa_cons (pv 4) pa_nil)) (pe_fld (pv 0) rfl) (nomark _)) (pw_or1 (pt_not (pt_val (pe_callB (cr_all rfl) (by rfl) G.all boot_all (pa_cons
        (pe_lc (own := [("upper", 5)]) (g := gName 5) (tt := tYes) (te := tCall spIsPart [] E0 (tCons (tVar 5) (tCons (tVar 3) tNil))) rfl scChances.nd (pi_list (pv 4)) (blkOk_by (N := ["table", "numbers", "g", "lower", "of_each", "upper"]) (sc := defScope sAnswerChances) (by decide +kernel))
          (fun _ _ _ _ _ => pg_name (i := 5) scChances.nd rfl (Or.inl rfl)) (fun _ _ _ _ _ => pts_nil) (fun _ _ _ _ _ => pe_def IP hr rfl (pa_cons (pv 5) (pa_cons (pv 3) pa_nil)))) pa_nil))))))) (pss_one (ps_ret (pe_lst (pa_cons (pe_num rfl TT.notRight) pa_nil)))) pss_nil)
    (pss_cons (ps_fld (pe_ix ix_list (pe_fld (pv 0) rfl) (pv 2) (fun _ _ => rfl)) (pe_lc (own := [("upper", 5)]) (g := gName 5) (tt := tYes) (te := tCall spReduced [] E0 (tCons (tVar 5) (tCons (tVar 3) tNil))) rfl scChances.nd (pi_list (pv 4)) (blkOk_by (N := ["table", "numbers", "g", "lower", "of_each", "upper"]) (sc := defScope sAnswerChances) (by decide +kernel))
          (fun _ _ _ _ _ => pg_name (i := 5) scChances.nd rfl (Or.inl rfl)) (fun _ _ _ _ _ => pts_nil) (fun _ _ _ _ _ => pe_def R hr rfl (pa_cons (pv 5) (pa_cons (pv 3) pa_nil)))) rfl)
    (pss_one (ps_ret (pe_lst (pa_cons pe_int pa_nil))))))))), ?_⟩)
  · obtain ⟨_, _, _, _, _, rfl, _⟩ := h
    rfl
  · obtain ⟨a, F, d, b, ns, rfl, hA, hb, ⟨g, lo, m, l, rfl, hl⟩, hT, q⟩ := h
    obtain ⟨aG, g0, g1, hd, hF⟩ := id hA
    obtain ⟨dx, hi⟩ := hd.ins
    have i0 : atI (nV (g :: lo :: m :: l)) 0 = some (V.int g) := nV_at' (l := g :: lo :: m :: l) (i := 0) rfl
    have i1 : atI (nV (g :: lo :: m :: l)) 1 = some (V.int lo) := nV_at' (l := g :: lo :: m :: l) (i := 1) rfl
    refine ⟨_, rfl, b, _, 0, _, rfl, rfl, hb, i0, _, rfl, b, _, 1, _, rfl, rfl, hb, i1, _, rfl, _, rfl, b, _, rfl, hb, fun o no => ?_⟩
    rw [cut3]
    show (tSeq _ _) _ _ (upd H o (.lst (nV l)))
    have e1 := Same.new (o := .lst (nV l)) no
    have ho : upd H o (.lst (nV l)) o = some (.lst (nV l)) := upd_same
    generalize upd H o (.lst (nV l)) = H1 at e1 ho ⊢
    have hd1 := hd.same e1
    refine ⟨_, rfl, _, rfl, a, aG, g0, g1, d, g, rfl, hd1, _, rfl, ?_⟩
    refine ifN (fun c => ?_) fun hg => ?_
    · exact ⟨one_le, fun p np => ans_say hT (Same.grow e1) hA np (act_chances_bad c) rfl q⟩
    · refine ⟨_, rfl, o, _, rfl, .inl (SqL.of ho), _, rfl, a, CT, dx, _, _, rfl, e1 _ _ hi, TT.cl, TT.nS, tF_scores, rfl, _, rfl, ?_⟩
      refine ifN (fun c => ?_) fun c => ?_
      · have c : l.length ≠ d.t.k := fun z => c (by rw [nV_len, z])
        exact ifT rfl ⟨one_le, fun p np => ans_say hT (Same.grow e1) hA np (act_chances_no hg (.inl c)) rfl q⟩
      · have hlen : l.length = d.t.k := by
          have := int_eq.mp c
          rw [nV_len] at this
          omega
        refine ⟨_, rfl, o, rfl, ⟨_, SqL.of ho⟩, fun E1 nE => ?_⟩
        refine lc_list (K := K) (a := o) (xs := nV l) (fun i H' => Same H1 H' ∧ H' E1 = some (.lst (((l.take i).map fun v => Krdh.partOk v lo).map V.bl))) ⟨Same.new nE, upd_same⟩ (fun i H' _ z => z.1.seq (SqL.of ho)) ?_ ?_
        · rintro i x H' hx ⟨e, hE⟩
          obtain ⟨u, hu, rfl⟩ := nV_at hx
          refine ⟨rfl, _, rfl, _, rfl, u, lo, rfl, _, hE, ?_, fun b' u' eb => ?_, ?_⟩
          · rw [List.length_map, List.length_map, List.length_take]
            exact Nat.lt_of_le_of_lt (show min i l.length ≤ 255 by omega) (by decide)
          · rw [upd_ne (ne_of_none eb nE)]
            exact e b' u' eb
          · rw [upd_same, take_more hu, List.map_append, List.map_append]
            rfl
        · rintro H2 ⟨e2, hE⟩
          rw [nV_len, List.take_length] at hE
          refine ⟨E1, _, rfl, SqL.of hE, _, rfl, ?_⟩
          have hall : ((l.map fun v => Krdh.partOk v lo).all id) = l.all fun v => Krdh.partOk v lo := by
            rw [List.all_map]
            rfl
          rw [hall]
          have e12 := e1.trans e2
          refine ifB (fun c => ?_) fun c => ?_
          · exact ⟨one_le, fun p np => ans_say hT (Same.grow e12) hA np (act_chances_no hg (.inr (nT c))) rfl q⟩
          · have hok := nF c
            have hd2 := hd1.same e2
            have ho2 := e2 _ _ ho
            refine ⟨_, rfl, o, rfl, ⟨_, SqL.of ho2⟩, fun E2 nE2 => ?_⟩
            refine lc_list (K := K) (a := o) (xs := nV l) (fun i H' => ∃ cs, Same H2 H' ∧ H' E2 = some (.lst cs) ∧ Frs K H' cs ((l.take i).map fun v => Krdh.rat v lo)) ⟨[], Same.new nE2, upd_same, ⟨rfl, fun i v r z => by simp at z⟩⟩ (fun i H' _ ⟨_, z, _⟩ => z.seq (SqL.of ho2)) ?_ ?_
            · rintro i x H' hx ⟨cs, e, hE', hF'⟩
              obtain ⟨u, hu, rfl⟩ := nV_at hx
              have hpu := List.all_eq_true.mp hok u (List.mem_of_getElem? hu)
              have hpu' := hpu
              simp only [Krdh.partOk, Bool.and_eq_true, decide_eq_true_eq] at hpu'
              refine ⟨rfl, _, rfl, _, rfl, u, lo, rfl, by omega, Nat.lt_of_lt_of_le (show ((lo : Int)).natAbs < 2 ^ 10 by omega) (Nat.pow_le_pow_right (by decide) (by decide)), fun r nr => ?_⟩
              have e3 := Same.new (o := .tup (frV ((((u : Nat) : Int) : Rat) / (((lo : Nat) : Int) : Rat)))) nr
              have lc : cs.length ≤ 255 := by
                rw [hF'.len, List.length_map, List.length_take]
                omega
              refine ⟨cs, e3 _ _ hE', Nat.lt_of_le_of_lt lc (by decide), cs ++ [.ref r], fun b' u' eb => ?_, upd_same, ?_⟩
              · rw [upd_ne (ne_of_none eb nE2)]
                exact e3 _ _ (e b' u' eb)
              · rw [take_more hu, List.map_append]
                refine Frs.upd (frs_snoc (hF'.same e3) ?_) (e3 _ _ hE') lst_tup lst_frz
                show Fr K _ (.ref r) (Krdh.rat u lo)
                unfold Krdh.rat
                rw [← natZ, ← natZ]
                exact Fr.new
            · rintro H3 ⟨cs, e3, hE3, hF3⟩
              rw [nV_len, List.take_length] at hF3
              have hd3 := hd2.same e3
              have hP := hd3.pick hg
              obtain ⟨dx3, hi3⟩ := hd3.ins
              refine ⟨_, rfl, a, CT, dx3, _, _, rfl, hi3, TT.cl, TT.nG, tF_groups, _, rfl, aG, _, _, _, rfl, rfl, SqL.of hd3.grp, pick_at hg, _, CG, _, _, rfl, hP.ins, G.cl, G.nC, (by show 3 < 1000; decide), ?_⟩
              rw [gF_put]
              have nw : ∀ {b : Addr} {o : HO}, H2 b = some o → E2 ≠ b := fun eb => (ne_of_none eb nE2).symm
              obtain ⟨g0', g1', hd4, hft⟩ := desk_setC hd3 hg hE3 hF3 (nw hd2.gr0.so) (nw hd2.gr0.no) (nw hd2.gr1.so) (nw hd2.gr1.no) (by rw [List.length_map]; exact hlen) (fun r hr => by
                obtain ⟨v, hv, rfl⟩ := List.mem_map.mp hr
                exact rat_small (List.all_eq_true.mp hok v hv))
              have inF : (pick g0 g1 g).p ∈ F := by
                rw [hF]
                rcases (show g = 0 ∨ g = 1 by omega) with rfl | rfl
                · simp [foot, pick]
                · simp [foot, pick]
              have kp : ∀ b o, H b = some o → b ∉ F → (∀ ps, o ≠ .tbl ps) → upd H3 (pick g0 g1 g).p (.ins CG (pick g0 g1 g).dx (gF (pick g0 g1 g).aS (pick g0 g1 g).aN E2)) b = some o := fun b o eb hb _ => by
                rw [upd_ne (fun z => hb (by rw [z]; exact inF))]
                exact e3 _ _ (e12 _ _ eb)
              have kp2 : ∀ b o, H b = some o → (∀ ps, o ≠ .tbl ps) → ∃ o', upd H3 (pick g0 g1 g).p (.ins CG (pick g0 g1 g).dx (gF (pick g0 g1 g).aS (pick g0 g1 g).aN E2)) b = some o' := fun b o eb _ => by
                by_cases hb : b = (pick g0 g1 g).p
                · rw [hb]
                  exact ⟨_, upd_same⟩
                · exact ⟨o, by rw [upd_ne hb]; exact e3 _ _ (e12 _ _ eb)⟩
              have hT4 := tabs_upd (o' := .ins CG (pick g0 g1 g).dx (gF (pick g0 g1 g).aS (pick g0 g1 g).aN E2)) hP.ins ins_tbl ins_code ((hT.ext e12).ext e3)
              refine ⟨one_le, fun p np => ?_⟩
              have e5 := Same.new (o := .lst [V.int 0]) np
              rw [show decChances (g :: lo :: m :: l) = .chances g lo l from rfl, act_chances_ok hg hlen hd.ok.k1 hok] at q
              refine q p _ (foot a aG g0' g1') ⟨fun b o eb hb hn => e5 _ _ (kp b o eb hb hn), fun b hb => ?_, hT4.ext e5⟩ ⟨aG, g0', g1', hd4.same e5, rfl⟩ upd_same (new_p kp2 np)
              rcases hft b hb with z | z
              · exact .inl (by rw [hF]; exact z)
              · rw [z]
                exact .inr (New.of (e12.free nE2))
end
end My

namespace My
open PySem PySem.Spec PyProof.Rows L2 LamX NdefX
/-! ### a new table -/
def fresh (k : Nat) : Krdh.Desk := ⟨Krdf.empty k, [Krdh.none_ (Krdf.empty k), Krdh.none_ (Krdf.empty k)]⟩
theorem rep_getD {α : Type} {n i : Nat} {v : α} : (List.replicate n v).getD i v = v := by
  rw [List.getD_eq_getElem?_getD, List.getElem?_replicate]
  split <;> rfl
theorem rep_getD' {α : Type} {n i : Nat} {v d : α} (h : i < n) : (List.replicate n v).getD i d = v := by
  rw [List.getD_eq_getElem?_getD, List.getElem?_replicate, if_pos h]
  rfl
theorem empty_cell (k gi s : Nat) : (Krdf.empty k).cell gi s = (0, 0) := by
  show ((List.replicate 2 (List.replicate k (0, 0))).getD gi []).getD s (0, 0) = (0, 0)
  by_cases h : gi < 2
  · rw [rep_getD' h, rep_getD]
  · have e : (List.replicate 2 (List.replicate k ((0, 0) : Nat × Nat))).getD gi [] = [] := by
      rw [List.getD_eq_getElem?_getD, List.getElem?_replicate, if_neg h]
      rfl
    rw [e]
    rfl
theorem empty_so (k gi : Nat) : soL (Krdf.empty k) gi = List.replicate k 0 := by
  unfold soL Krdf.Table.scores
  rw [show (fun s => (((Krdf.empty k).cell gi s).1 : Int)) = fun _ => (0 : Int) from funext fun s => by rw [empty_cell]; rfl, List.map_const', List.length_range]
  rfl
theorem empty_no (k gi : Nat) : noL (Krdf.empty k) gi = List.replicate k 0 := by
  unfold noL Krdf.Table.scores
  rw [show (fun s => (((Krdf.empty k).cell gi s).2 : Int)) = fun _ => (0 : Int) from funext fun s => by rw [empty_cell]; rfl, List.map_const', List.length_range]
  rfl
theorem fresh_ch {k gi : Nat} (h : gi < 2) : (fresh k).chances.getD gi [] = List.replicate k 0 := by
  have e : Krdh.none_ (Krdf.empty k) = List.replicate k 0 := none_rep _
  rcases (show gi = 0 ∨ gi = 1 by omega) with rfl | rfl
  · exact e
  · exact e
theorem fresh_ok {k : Nat} (h1 : 1 ≤ k) (h4 : k ≤ 4) : DOk (fresh k) := by
  refine ⟨⟨h4, fun gi s => ?_⟩, h1, rfl, fun gi hg => ?_, rfl, fun gi hg => ?_, fun gi r hr => ?_⟩
  · show ((Krdf.empty k).cell gi s).1 ≤ 99 ∧ ((Krdf.empty k).cell gi s).2 ≤ 99
    rw [empty_cell]
    exact ⟨by decide, by decide⟩
  · show ((List.replicate 2 (List.replicate k ((0, 0) : Nat × Nat))).getD gi []).length = k
    rw [rep_getD' hg, List.length_replicate]
  · rw [fresh_ch hg, List.length_replicate]
    rfl
  · have h0 : r = 0 := by
      by_cases hg : gi < 2
      · rw [fresh_ch hg] at hr
        exact (List.mem_replicate.mp hr).2
      · have : (fresh k).chances.getD gi [] = [] := by
          rw [List.getD_eq_getElem?_getD, List.getElem?_eq_none (by show 2 ≤ gi; omega)]
          rfl
        rw [this] at hr
        exact absurd hr List.not_mem_nil
    rw [h0]
    exact ⟨by rw [Rat.zero_num]; exact Nat.pow_pos (by decide), by rw [Rat.zero_den]; exact Nat.one_lt_two_pow (by decide)⟩
theorem act_begin_bad {x : Krdh.Abs} {k : Nat} (h : k < 1 ∨ 4 < k) : Krdh.act x (.begin_ k) = (x, Krdf.say (-22)) := by
  have e : Krdf.act none (.begin_ k) = (none, Krdf.say (-22)) := by
    show (if (k = 0 || decide (Krdf.mostScores < k)) = true then (none, Krdf.say (-22)) else _) = _
    rw [if_pos]
    simp only [Bool.or_eq_true, decide_eq_true_eq]
    rcases h with h | h
    · exact .inl (by omega)
    · exact .inr h
  show (match Krdf.act none (.begin_ k) with | (some t, r) => ((some ⟨t, [Krdh.none_ t, Krdh.none_ t]⟩ : Krdh.Abs), r) | (none, r) => (x, r)) = _
  rw [e]
theorem act_begin_ok {x : Krdh.Abs} {k : Nat} (h1 : 1 ≤ k) (h4 : k ≤ 4) : Krdh.act x (.begin_ k) = (some (fresh k), Krdf.say 0) := by
  have e : Krdf.act none (.begin_ k) = (some (Krdf.empty k), Krdf.say 0) := by
    show (if (k = 0 || decide (Krdf.mostScores < k)) = true then (none, Krdf.say (-22)) else (some (Krdf.empty k), Krdf.say 0)) = _
    rw [if_neg]
    rw [decide_eq_false (show ¬ k = 0 by omega), decide_eq_false (show ¬ Krdf.mostScores < k by show ¬ 4 < k; omega)]
    exact Bool.false_ne_true
  show (match Krdf.act none (.begin_ k) with | (some t, r) => ((some ⟨t, [Krdh.none_ t, Krdh.none_ t]⟩ : Krdh.Abs), r) | (none, r) => (x, r)) = _
  rw [e]
  rfl
section
variable {P : Program} {w : World} {K : PySem.W.Frag} {mg : Str → Option Value} {base : Heap} {CT CG aZ aO : Addr} {T : List (Addr × Str)}
/-- the class Group makes groups -/
def GMake (P : Program) (w : World) (K : PySem.W.Frag) (mg : Str → Option Value) (base : Heap) (CG : Addr) : Prop := ∃ (fI : Addr) (fdI : FuncData), Mk K CG fI ∧ FnOk P w K mg base CX0 1 fI fdI ["self", "scores"] (spGInit K CG) ∧ Binds K fdI ["self", "scores"] []
theorem pe_group {X : Cx} {p pos : Pos} {e : Expr} {t : TA} (M : GMake X.prog X.w X.K X.mg X.base CG) (hr : Room 2 X.A) (hg : Gl X "Group") (hm : X.mg "Group" = some (.ref CG)) (ha : PA X [e] t)
    (he : starEach [e] X.env = (false, eval e X.env) :: starEach [] X.env := by rfl) : PE X (.Call (.Name "Group" p) [e] [] pos) (tMake CG (spGInit X.K CG) [] E0 t) :=
  match M with
  | ⟨_, _, M, F, b⟩ => pe_make M F hr hg hm b .nil (fun _ _ _ _ _ _ _ h => h.elim) ha (he := he)
theorem tabAt_ins {H : Hp} {a : Addr} {F : List Addr} {x : Krdh.Abs} (h : TableAt K CT CG H a F x) : ∃ dx k aG, H a = some (.ins CT dx (tF k aG)) ∧ a ∈ F := by
  cases x with
  | none =>
    obtain ⟨dx, aG, ⟨h1, _⟩, hF⟩ := h
    exact ⟨dx, 0, aG, h1, by rw [hF]; exact List.mem_cons_self ..⟩
  | some d =>
    obtain ⟨aG, g0, g1, hd, hF⟩ := h
    obtain ⟨dx, hi⟩ := hd.ins
    exact ⟨dx, _, aG, hi, by rw [hF]; exact List.mem_cons_self ..⟩
theorem upd_back {H : Hp} {a b : Addr} {o : HO} (h : upd H a o b = none) : H b = none ∧ b ≠ a := by
  by_cases e : b = a
  · rw [e, upd_same] at h
    cases h
  · rw [upd_ne e] at h
    exact ⟨h, e⟩
theorem tF_put1 {k k' : Nat} {aG : Addr} : putF "scores" (.int k') (tF k aG) = tF k' aG := by rfl
theorem tF_put2 {k : Nat} {aG a' : Addr} : putF "groups" (.ref a') (tF k aG) = tF k a' := by rfl
theorem scBegin : FnScope ["table", "numbers", "scores"] ["table", "numbers"] (defScope sAnswerBegin) := ⟨rfl, rfl, rfl, by decide +kernel, rfl, by decide +kernel, by decide +kernel⟩
def decBegin (ns : List Nat) : Krdh.Call := .begin_ (ns.getD 0 0)
theorem ok_begin (D : Has K mg "answer_begin" sAnswerBegin ["table", "numbers"]) (G : TxtG K mg CG) (TT : TxtT K mg CT) (M : GMake P w K mg base CG) : Kept P w K mg base 3 "answer_begin" ["table", "numbers"] (spBegin K CT CG T shOne decBegin) := by
  refine D.kept scBegin (fun vs H Q E h => ?_) (fun f cdv A outer s H vs Q E hr h => ⟨_, pss_cons (ps_set (i := 2) scBegin.nd rfl (Or.inl rfl) (pe_ix ix_list (pv 1) pe_int (fun _ _ => rfl)))
    (pss_cons (ps_if (PW.pt (pw_or (pt_cmpR op_lt (pv 2) pe_int (nomark _)) (pw_or1 (pt_cmpR op_gt (pv 2) (pe_num rfl TT.mostScores) (nomark _))))) (pss_one (ps_ret (pe_lst (pa_cons (pe_num rfl TT.notRight) pa_nil)))) pss_nil)
    (pss_cons (ps_fld (pv 0) (pv 2) rfl)
    (pss_cons (ps_fld (pv 0) (pe_lst (pa_cons (pe_group M hr rfl G.gC (pa_cons (pv 2) pa_nil)) (pa_cons (pe_group M hr rfl G.gC (pa_cons (pv 2) pa_nil)) pa_nil))) rfl)
    (pss_one (ps_ret (pe_lst (pa_cons pe_int pa_nil))))))), ?_⟩)
  · obtain ⟨_, _, _, _, _, rfl, _⟩ := h
    rfl
  · obtain ⟨a, F, x, b, ns, rfl, hA, hb, ⟨k, rfl⟩, hT, q⟩ := h
    obtain ⟨dx, k0, aG0, hi, haF⟩ := tabAt_ins hA
    refine ⟨_, rfl, b, _, 0, _, rfl, rfl, hb, rfl, _, rfl, _, _, rfl, rfl, _, rfl, ?_⟩
    refine ifD (fun c => ?_) fun c => ?_
    · exact ifT rfl ⟨one_le, fun p np => ans_say hT (Same.grow (Same.refl H)) hA np (act_begin_bad (k := k) (.inl (by omega))) rfl q⟩
    · refine ⟨_, rfl, _, _, rfl, rfl, _, rfl, ?_⟩
      refine ifD (fun c4 => ?_) fun c4 => ?_
      · exact ⟨one_le, fun p np => ans_say hT (Same.grow (Same.refl H)) hA np (act_begin_bad (k := k) (.inr (by omega))) rfl q⟩
      · have h1 : 1 ≤ k := by omega
        have h4 : k ≤ 4 := by omega
        refine ⟨_, rfl, _, rfl, a, CT, dx, _, rfl, hi, TT.cl, TT.nS, (by show 2 < 1000; decide), ?_⟩
        rw [tF_put1]
        have hi1 : upd H a (.ins CT dx (tF k aG0)) a = some (.ins CT dx (tF k aG0)) := upd_same
        have hT1 : Tabs T (upd H a (.ins CT dx (tF k aG0))) := tabs_upd hi ins_tbl ins_code hT
        have k1 : ∀ b o, H b = some o → b ≠ a → upd H a (.ins CT dx (tF k aG0)) b = some o := fun b o e hb => (upd_ne hb).trans e
        have b1 : ∀ b, upd H a (.ins CT dx (tF k aG0)) b = none → H b = none := fun b e => (upd_back e).1
        generalize upd H a (.ins CT dx (tF k aG0)) = H1 at hi1 hT1 k1 b1 ⊢
        -- the first group
        refine ⟨_, rfl, fun x1 dx1 n1 nd1 ne1 => ⟨x1, dx1, k, rfl, upd_same, h4, fun g0 H2 ep0 hG0 kp0 s0 n0 c0 ap0 => ⟨rfl, ?_⟩⟩⟩
        have e12 : Same H1 H2 := Same.made n1 nd1 kp0
        have bk0 : ∀ b, upd (upd H1 dx1 (.own x1)) x1 (.ins CG dx1 []) b = none → H b = none := fun b e => b1 b (upd_back (upd_back e).1).1
        -- the second
        refine ⟨_, rfl, fun x2 dx2 n2 nd2 ne2 => ⟨x2, dx2, k, rfl, upd_same, h4, fun g1 H3 ep1 hG1 kp1 s1 n1' c1 ap1 => ⟨rfl, ?_⟩⟩⟩
        have e23 : Same H2 H3 := Same.made n2 nd2 kp1
        have in2 : ∀ b, upd (upd H2 dx2 (.own x2)) x2 (.ins CG dx2 []) b = none → H2 b = none := fun b e => (upd_back (upd_back e).1).1
        refine ⟨two_le, fun aG nG => ?_⟩
        have e34 := Same.new (o := .lst [V.ref x1, V.ref x2]) nG
        have hG4 : upd H3 aG (.lst [V.ref x1, V.ref x2]) aG = some (.lst [V.ref x1, V.ref x2]) := upd_same
        generalize upd H3 aG (.lst [V.ref x1, V.ref x2]) = H4 at e34 hG4 ⊢
        have e14 := (e12.trans e23).trans e34
        have hi4 := e14 _ _ hi1
        refine ⟨_, rfl, a, CT, dx, _, rfl, hi4, TT.cl, TT.nG, (by show 2 < 1000; decide), ?_⟩
        rw [tF_put2]
        have hT5 : Tabs T (upd H4 a (.ins CT dx (tF k aG))) := tabs_upd hi4 ins_tbl ins_code (hT1.ext e14)
        have na1 : g0.p ≠ a := by
          rw [ep0]
          exact (ne_of_none hi1 n1).symm
        have na2 : g1.p ≠ a := by
          rw [ep1]
          exact (ne_of_none (e12 _ _ hi1) n2).symm
        have hG0' := (hG0.same (e23.trans e34)).otherI (o' := .ins CT dx (tF k aG)) hi4 na1
        have hG1' := (hG1.same e34).otherI (o' := .ins CT dx (tF k aG)) hi4 na2
        have df : ∀ {b c : Addr} {o : HO}, H2 b = some o → upd (upd H2 dx2 (.own x2)) x2 (.ins CG dx2 []) c = none → b ≠ c := fun e n => ne_of_none e (in2 _ n)
        have hd5 : DeskAt K CT CG (upd H4 a (.ins CT dx (tF k aG))) a aG g0 g1 (fresh k) := by
          refine ⟨⟨dx, upd_same⟩, ?_, ?_, ?_, ⟨ap0, ap1, ?_, df hG0.so s1, df hG0.so n1', df hG0.so c1, df hG0.no s1, df hG0.no n1', df hG0.no c1, df hG0.ch s1, df hG0.ch n1'⟩, fresh_ok h1 h4⟩
          · rw [upd_ne (ne_of hG4 hi4 (by intro z; cases z)), ep0, ep1]
            exact hG4
          · show GrpAt K CG _ g0 (soL (Krdf.empty k) 0) (noL (Krdf.empty k) 0) _
            rw [empty_so, empty_no, fresh_ch (by decide)]
            exact hG0'
          · show GrpAt K CG _ g1 (soL (Krdf.empty k) 1) (noL (Krdf.empty k) 1) _
            rw [empty_so, empty_no, fresh_ch (by decide)]
            exact hG1'
          · rw [ep1]
            exact ne_of_none hG0.ins n2
        have kp : ∀ b o, H b = some o → b ∉ F → (∀ ps, o ≠ .tbl ps) → upd H4 a (.ins CT dx (tF k aG)) b = some o := fun b o eb hb _ => by
          have nb : b ≠ a := fun z => hb (by rw [z]; exact haF)
          rw [upd_ne nb]
          exact e14 _ _ (k1 b o eb nb)
        have bkH2 : ∀ b, H2 b = none → H b = none := fun b e => by
          cases z : H1 b with
          | none => exact b1 b z
          | some o =>
            rw [e12 b o z] at e
            cases e
        refine ⟨one_le, fun p np => ?_⟩
        have e5 := Same.new (o := .lst [V.int 0]) np
        rw [show decBegin [k] = .begin_ k from rfl, act_begin_ok h1 h4] at q
        refine q p _ (foot a aG g0 g1) ⟨fun b o eb hb hn => e5 _ _ (kp b o eb hb hn), fun b hb => ?_, hT5.ext e5⟩ ⟨aG, g0, g1, hd5.same e5, rfl⟩ upd_same (fun o eo => ?_)
        · simp only [foot, List.mem_cons, List.not_mem_nil, or_false] at hb
          rcases hb with rfl | rfl | rfl | rfl | rfl | rfl | rfl | rfl | rfl | rfl
          · exact .inl haF
          · exact .inr (New.of (bkH2 _ (e23.free nG)))
          · exact .inr (New.of (b1 _ (by rw [ep0]; exact n1)))
          · exact .inr (New.of (bk0 _ s0))
          · exact .inr (New.of (bk0 _ n0))
          · exact .inr (New.of (bk0 _ c0))
          · exact .inr (New.of (bkH2 _ (by rw [ep1]; exact n2)))
          · exact .inr (New.of (bkH2 _ (in2 _ s1)))
          · exact .inr (New.of (bkH2 _ (in2 _ n1')))
          · exact .inr (New.of (bkH2 _ (in2 _ c1)))
        · by_cases hpF : p = a
          · rw [hpF, upd_same] at np
            cases np
          · have := e14 _ _ (k1 p o eo hpF)
            rw [upd_ne hpF, this] at np
            cases np
end
end My

namespace My
open PySem PySem.Spec PyProof.Rows L2 LamX NdefX
/-! ### refusals in the specification -/
theorem refB_is {α : Type} {t : Krdf.Table} {b : Bool} (f : Int → α) (r : α) : (if (!b) = true then f (-22) else if (!Krdh.full t) = true then f (-33) else r) = if refB t b = 0 then r else f (refB t b) := by
  unfold refB
  cases b with
  | false => rfl
  | true =>
    rw [if_neg (show ¬ (!true) = true by decide), if_pos rfl]
    cases Krdh.full t <;> rfl
theorem refO_is {α : Type} {t : Krdf.Table} {g : Nat} {b : Bool} (f : Int → α) (r : α) : (if decide (1 < g) = true then f (-2) else if (!b) = true then f (-22) else if (!Krdh.full t) = true then f (-33) else r) = if refO t g b = 0 then r else f (refO t g b) := by
  unfold refO
  by_cases hg : g < 2
  · rw [if_neg (by rw [g_ok hg]; exact Bool.false_ne_true), if_pos hg, refB_is]
  · rw [if_pos (g_bad hg), if_neg hg]
    rfl
theorem refB_zero {t : Krdf.Table} {b : Bool} (h : refB t b = 0) : b = true ∧ Krdh.full t = true := by
  unfold refB at h
  cases b with
  | false => cases h
  | true =>
    refine ⟨rfl, ?_⟩
    cases e : Krdh.full t with
    | true => rfl
    | false =>
      rw [e] at h
      cases h
theorem refO_zero {t : Krdf.Table} {g : Nat} {b : Bool} (h : refO t g b = 0) : g < 2 ∧ b = true ∧ Krdh.full t = true := by
  unfold refO at h
  by_cases hg : g < 2
  · rw [if_pos hg] at h
    exact ⟨hg, refB_zero h⟩
  · rw [if_neg hg] at h
    cases h
theorem act_point {d : Krdh.Desk} {g : Nat} : Krdh.act (some d) (.point g) = (some d, if refO d.t g true = 0 then { num := 0, nums := Krdf.fr (Krdh.wrong d.t g (d.chances.getD g [])) ++ Krdf.fr (Krdh.right d.t g (d.chances.getD g [])) } else Krdf.say (refO d.t g true)) := by
  rw [← refO_is]
  rfl
/-- upper and lower alike -/
def boundAns (val : Krdf.Table → Nat → Rat → List Rat) (d : Krdh.Desk) (g a b : Nat) : Krdf.Ans := if refO d.t g (Krdh.partOk a b) = 0 then Krdf.frac (Krdh.right d.t g (val d.t g (Krdh.rat a b))) else Krdf.say (refO d.t g (Krdh.partOk a b))
theorem act_upper {d : Krdh.Desk} {g a b : Nat} : Krdh.act (some d) (.upper g a b) = (some d, boundAns Krdh.most d g a b) := by
  unfold boundAns
  rw [← refO_is]
  rfl
theorem act_lower {d : Krdh.Desk} {g a b : Nat} : Krdh.act (some d) (.lower g a b) = (some d, boundAns Krdh.fewest d g a b) := by
  unfold boundAns
  rw [← refO_is]
  rfl
/-- u by l, reduced -/
theorem fr_rat {K : PySem.W.Frag} {H : Hp} {p : Addr} {u l : Nat} : Fr K (upd H p (.tup (frV ((((u : Nat) : Int) : Rat) / (((l : Nat) : Int) : Rat))))) (.ref p) (Krdh.rat u l) := by
  unfold Krdh.rat
  rw [natZ, natZ]
  exact Fr.new
theorem part_low {u l : Nat} (h : Krdh.partOk u l = true) : 0 < (l : Int) ∧ (l : Int).natAbs < 2 ^ 9000 := by
  simp only [Krdh.partOk, Bool.and_eq_true, decide_eq_true_eq] at h
  exact ⟨by omega, Nat.lt_of_lt_of_le (show ((l : Int)).natAbs < 2 ^ 10 by omega) (Nat.pow_le_pow_right (by decide) (by decide))⟩
theorem rat_xat {K : PySem.W.Frag} {H : Hp} {v : V} {u l : Nat} (h : Krdh.partOk u l = true) (f : Fr K H v (Krdh.rat u l)) : XAt K H v (Krdh.rat u l) := XAt.of f rat_nonneg (rat_sm h)
theorem zV_len (l : List Int) : (zV l).length = l.length := List.length_map ..
/-- an answer that is grown, the table as it was -/
theorem ans_grow {K : PySem.W.Frag} {CT CG : Addr} {T : List (Addr × Str)} {H H' : Hp} {a p : Addr} {F : List Addr} {d : Krdh.Desk} {c : Krdh.Call} {r : Krdf.Ans} {Q : VK} (hT : Tabs T H) (e : Grow T H H') (hA : TableAt K CT CG H a F (some d)) (hact : Krdh.act (some d) c = (some d, r)) (hp : H' p = some (.lst (zV (KrdhNeutral.told r)))) (hn : New H p)
    (q : ∀ (p : Addr) (H' : Hp) (F' : List Addr), Chg T H F H' F' → TableAt K CT CG H' a F' (Krdh.act (some d) c).1 → H' p = some (.lst (zV (KrdhNeutral.told (Krdh.act (some d) c).2))) → New H p → Q (.ref p) H') : Q (.ref p) H' := by
  rw [hact] at q
  obtain ⟨aG, g0, g1, hd, hF⟩ := hA
  exact q p H' F (e.chg hT) ⟨aG, g0, g1, hd.grow e, hF⟩ hp hn
section
variable {P : Program} {w : World} {K : PySem.W.Frag} {mg : Str → Option Value} {base : Heap} {CT CG aZ aO : Addr} {T : List (Addr × Str)}
/-! ### point -/
theorem scPoint : FnScope ["table", "numbers", "g", "refusal", "group", "x", "y"] ["table", "numbers"] (defScope sAnswerPoint) := ⟨rfl, rfl, rfl, by decide +kernel, rfl, by decide +kernel, by decide +kernel⟩
def decPoint (ns : List Nat) : Krdh.Call := .point (ns.getD 0 0)
theorem ok_point (D : Has K mg "answer_point" sAnswerPoint ["table", "numbers"]) (G : TxtG K mg CG) (TT : TxtT K mg CT) (RO : Kept P w K mg base 4 "refusal_of_one" ["table", "g", "is_right"] (spRefO K CT CG)) (PC : Kept P w K mg base 4 "part_chosen" ["people", "chances"] (spPart K)) (LO : Kept P w K mg base 1 "laid_out" ["parts"] (spLaid K)) :
    Kept P w K mg base 5 "answer_point" ["table", "numbers"] (spAns K CT CG T shOne decPoint) := by
  refine D.kept scPoint (fun vs H Q E h => ?_) (fun f cdv A outer s H vs Q E hr h => ⟨_, pss_cons (ps_set (i := 2) scPoint.nd rfl (Or.inl rfl) (pe_ix ix_list (pv 1) pe_int (fun _ _ => rfl)))
    (pss_cons (ps_set (i := 3) scPoint.nd rfl (Or.inl rfl) (pe_def RO hr rfl (pa_cons (pv 0) (pa_cons (pv 2) (pa_cons pe_bl pa_nil)))))
    (pss_cons (ps_if (pt_cmpR op_ne (pv 3) (pe_num rfl TT.notRefused) (nomark _)) (pss_one (ps_ret (pe_lst (pa_cons (pv 3) pa_nil)))) pss_nil)
    (pss_cons (ps_set (i := 4) scPoint.nd rfl (Or.inl rfl) (pe_ix ix_list (pe_fld (pv 0) rfl) (pv 2) (fun _ _ => rfl)))
    (pss_cons (ps_set (i := 5) scPoint.nd rfl (Or.inl rfl) (pe_def PC hr rfl (pa_cons (pe_fld (pv 4) rfl) (pa_cons (pe_fld (pv 4) rfl) pa_nil))))
    (pss_cons (ps_set (i := 6) scPoint.nd rfl (Or.inl rfl) (pe_def PC hr rfl (pa_cons (pe_fld (pv 4) rfl) (pa_cons (pe_fld (pv 4) rfl) pa_nil))))
    (pss_one (ps_ret (pe_op op_cat (pe_lst (pa_cons pe_int pa_nil)) (pe_def LO (hr.mono (by decide)) rfl (pa_cons (pe_lst (pa_cons (pv 5) (pa_cons (pv 6) pa_nil))) pa_nil)))))))))), ?_⟩)
  · obtain ⟨_, _, _, _, _, rfl, _⟩ := h
    rfl
  · obtain ⟨a, F, d, b, ns, rfl, hA, hb, ⟨g, rfl⟩, hT, q⟩ := h
    obtain ⟨aG, g0, g1, hd, hF⟩ := id hA
    have hact := act_point (d := d) (g := g)
    refine ⟨_, rfl, b, _, 0, _, rfl, rfl, hb, rfl, _, rfl, _, rfl, a, aG, g0, g1, d, g, true, rfl, hd, fun H1 e1 => ?_⟩
    refine ⟨_, rfl, rfl, _, rfl, ?_⟩
    refine ifN (fun c => ?_) fun c => ?_
    · have c : ¬ refO d.t g true = 0 := fun z => c (int_eq.mpr z)
      rw [if_neg c] at hact
      exact ⟨_, rfl, one_le, fun p np => ans_say hT (Same.grow e1) hA np hact rfl q⟩
    · have c := int_eq.mp c
      rw [if_pos c] at hact
      obtain ⟨hg, _, hfull⟩ := refO_zero c
      have hpos := full_pos hfull hg
      have hd1 := hd.same e1
      obtain ⟨dx, hi⟩ := hd1.ins
      have hP := hd1.pick hg
      have k4 := hd.ok.t.k4
      have hl1 : (d.chances.getD g []).length = d.t.k := hd.ok.hk g hg
      refine ⟨_, rfl, a, CT, dx, _, _, rfl, hi, TT.cl, TT.nG, tF_groups, _, rfl, aG, _, _, _, rfl, rfl, SqL.of hd1.grp, pick_at hg, ?_⟩
      refine ⟨_, rfl, _, CG, _, _, _, rfl, hP.ins, G.cl, G.nN, gF_no, _, rfl, _, CG, _, _, _, rfl, hP.ins, G.cl, G.nC, gF_ch, _, _, _, _, _, rfl, SqL.of hP.no, SqL.of hP.ch, hP.fr, by rw [noL_len, hl1], by rw [noL_len]; exact k4, hd.ok.t.no, hd.ok.hs g, by rw [no_sum]; omega, fun px H2 e2 npx hpx => ?_⟩
      have hP2 := hP.same e2
      refine ⟨_, rfl, _, CG, _, _, _, rfl, hP2.ins, G.cl, G.nS, gF_so, _, rfl, _, CG, _, _, _, rfl, hP2.ins, G.cl, G.nC, gF_ch, _, _, _, _, _, rfl, SqL.of hP2.so, SqL.of hP2.ch, hP2.fr, by rw [soL_len, hl1], by rw [soL_len]; exact k4, hd.ok.t.so, hd.ok.hs g, by rw [so_sum]; omega, fun py H3 e3 npy hpy => ?_⟩
      rw [wrong_is hl1] at hpx
      rw [right_is hl1] at hpy
      have fx : Fr K H3 (.ref px) (Krdh.wrong d.t g (d.chances.getD g [])) := ⟨px, rfl, SqT.of (e3 _ _ hpx)⟩
      have fy : Fr K H3 (.ref py) (Krdh.right d.t g (d.chances.getD g [])) := ⟨py, rfl, SqT.of hpy⟩
      refine ⟨one_le, fun p0 n0 => ?_⟩
      have e4 := Same.new (o := .lst [V.int 0]) n0
      have h4 : upd H3 p0 (.lst [V.int 0]) p0 = some (.lst [V.int 0]) := upd_same
      generalize upd H3 p0 (.lst [V.int 0]) = H4 at e4 h4 ⊢
      refine ⟨_, rfl, _, rfl, two_le, fun p5 n5 => ?_⟩
      have e5 := Same.new (o := .lst [V.ref px, V.ref py]) n5
      have h5 : upd H4 p5 (.lst [V.ref px, V.ref py]) p5 = some (.lst [V.ref px, V.ref py]) := upd_same
      generalize upd H4 p5 (.lst [V.ref px, V.ref py]) = H5 at e5 h5 ⊢
      have e35 := e4.trans e5
      refine ⟨p5, _, [_, _], rfl, SqL.of h5, frs_app (frs_one (fx.same e35)) (frs_one (fy.same e35)), (by show 2 ≤ 100; decide), fun p6 H6 e6 n6 h6 => ?_⟩
      refine ⟨p0, p6, _, _, rfl, rfl, e6 _ _ (e5 _ _ h4), h6, ?_, fun p np => ?_⟩
      · rw [zV_len, flatFr_len]
        show 1 + 2 * 2 ≤ sizeLine
        decide
      · exact ans_say hT (Same.grow ((((e1.trans e2).trans e3).trans e35).trans e6)) hA np hact rfl q
/-! ### upper, lower -/
/-- what answer_bound may get for bound -/
def Bounds (K : PySem.W.Frag) (mg : Str → Option Value) (CG : Addr) (T : List (Addr × Str)) (f : Addr) (sp : Sp) : Prop := (mg "most_y" = some (.ref f) ∧ sp = spY K CG T Krdh.most) ∨ (mg "fewest_y" = some (.ref f) ∧ sp = spY K CG T Krdh.fewest)
theorem bounds_held (M : Kept P w K mg base 6 "most_y" ["group", "x"] (spY K CG T Krdh.most)) (W : Kept P w K mg base 6 "fewest_y" ["group", "x"] (spY K CG T Krdh.fewest)) : ∀ f sp, Bounds K mg CG T f sp → Held P w K mg base 6 f sp := fun f sp h => by
  rcases h with ⟨h, rfl⟩ | ⟨h, rfl⟩
  · obtain ⟨f', fd, F, m, kp, b⟩ := M
    rw [m] at h
    cases h
    exact ⟨fd, _, F, kp, b⟩
  · obtain ⟨f', fd, F, m, kp, b⟩ := W
    rw [m] at h
    cases h
    exact ⟨fd, _, F, kp, b⟩
def spBound (K : PySem.W.Frag) (mg : Str → Option Value) (CT CG : Addr) (T : List (Addr × Str)) : Sp := fun vs H Q _ => ∃ (a : Addr) (F : List Addr) (d : Krdh.Desk) (b f : Addr) (val : Krdf.Table → Nat → Rat → List Rat) (g u l : Nat), vs = [.ref a, .ref b, .ref f] ∧ TableAt K CT CG H a F (some d) ∧ SqL K H b (nV [g, u, l]) ∧ Bounds K mg CG T f (spY K CG T val) ∧ Tabs T H ∧
  ∀ (p : Addr) (H' : Hp), Grow T H H' → H' p = some (.lst (zV (KrdhNeutral.told (boundAns val d g u l)))) → New H p → Q (.ref p) H'
theorem scBound : FnScope ["table", "numbers", "bound", "g", "refusal"] ["table", "numbers", "bound"] (defScope sAnswerBound) := ⟨rfl, rfl, rfl, by decide +kernel, rfl, by decide +kernel, by decide +kernel⟩
theorem ok_bound (D : Has K mg "answer_bound" sAnswerBound ["table", "numbers", "bound"]) (G : TxtG K mg CG) (TT : TxtT K mg CT) (RO : Kept P w K mg base 4 "refusal_of_one" ["table", "g", "is_right"] (spRefO K CT CG)) (IP : Kept P w K mg base 2 "is_part" ["upper", "lower"] spIsPart) (R : Kept P w K mg base 2 "reduced" ["upper", "lower"] spReduced)
    (LO : Kept P w K mg base 1 "laid_out" ["parts"] (spLaid K)) (HB : ∀ f sp, Bounds K mg CG T f sp → Held P w K mg base 6 f sp) : Kept P w K mg base 7 "answer_bound" ["table", "numbers", "bound"] (spBound K mg CT CG T) := by
  refine D.kept scBound (fun vs H Q E h => ?_) (fun f cdv A outer s H vs Q E hr h => ⟨_, pss_cons (ps_set (i := 3) scBound.nd rfl (Or.inl rfl) (pe_ix ix_list (pv 1) pe_int (fun _ _ => rfl)))
    (pss_cons (ps_set (i := 4) scBound.nd rfl (Or.inl rfl) (pe_def RO (hr.mono (by decide)) rfl (pa_cons (pv 0) (pa_cons (pv 3) (pa_cons (pe_def IP (hr.mono (by decide)) rfl (pa_cons (pe_ix ix_list (pv 1) pe_int (fun _ _ => rfl)) (pa_cons (pe_ix ix_list (pv 1) pe_int (fun _ _ => rfl)) pa_nil))) pa_nil)))))
    (pss_cons (ps_if (pt_cmpR op_ne (pv 4) (pe_num rfl TT.notRefused) (nomark _)) (pss_one (ps_ret (pe_lst (pa_cons (pv 4) pa_nil)))) pss_nil)
    (pss_one (ps_ret (pe_op op_cat (pe_lst (pa_cons pe_int pa_nil)) (pe_def LO (hr.mono (by decide)) rfl (pa_cons (pe_lst (pa_cons (pe_callG (i := 2) HB hr rfl (Or.inl rfl) (pa_cons (pe_ix ix_list (pe_fld (pv 0) rfl) (pv 3) (fun _ _ => rfl)) (pa_cons (pe_def R (hr.mono (by decide)) rfl (pa_cons (pe_ix ix_list (pv 1) pe_int (fun _ _ => rfl)) (pa_cons (pe_ix ix_list (pv 1) pe_int (fun _ _ => rfl)) pa_nil))) pa_nil))) pa_nil)) pa_nil))))))), ?_⟩)
  · obtain ⟨_, _, _, _, _, _, _, _, _, rfl, _⟩ := h
    rfl
  · obtain ⟨a, F, d, b, f', val, g, u, l, rfl, hA, hb, hB, hT, q⟩ := h
    obtain ⟨aG, g0, g1, hd, hF⟩ := id hA
    refine ⟨_, rfl, b, _, 0, _, rfl, rfl, hb, rfl, _, rfl, _, rfl, _, rfl, b, _, 1, _, rfl, rfl, hb, rfl, _, rfl, b, _, 2, _, rfl, rfl, hb, rfl, u, l, rfl, a, aG, g0, g1, d, g, _, rfl, hd, fun H1 e1 => ?_⟩
    unfold boundAns at q
    refine ⟨_, rfl, rfl, _, rfl, ?_⟩
    refine ifN (fun c => ?_) fun c => ?_
    · have c : ¬ refO d.t g (Krdh.partOk u l) = 0 := fun z => c (int_eq.mpr z)
      rw [if_neg c] at q
      exact ⟨_, rfl, one_le, fun p np => q p _ ((Same.grow e1).trans (Same.grow (Same.new np))) upd_same (New.back (T := T) (Same.grow e1) np)⟩
    · have c := int_eq.mp c
      rw [if_pos c] at q
      obtain ⟨hg, hpart, hfull⟩ := refO_zero c
      have hpos := full_pos hfull hg
      have hb1 := e1.seq hb
      refine ⟨one_le, fun p0 n0 => ?_⟩
      have e2 := Same.new (o := .lst [V.int 0]) n0
      have h2 : upd H1 p0 (.lst [V.int 0]) p0 = some (.lst [V.int 0]) := upd_same
      generalize upd H1 p0 (.lst [V.int 0]) = H2 at e2 h2 ⊢
      have e02 := e1.trans e2
      have hd2 := hd.same e02
      obtain ⟨dx, hi⟩ := hd2.ins
      have hb2 := e2.seq hb1
      refine ⟨f', _, rfl, hB, _, rfl, a, CT, dx, _, _, rfl, hi, TT.cl, TT.nG, tF_groups, _, rfl, aG, _, _, _, rfl, rfl, SqL.of hd2.grp, pick_at hg, _, rfl, b, _, 1, _, rfl, rfl, hb2, rfl, _, rfl, b, _, 2, _, rfl, rfl, hb2, rfl, u, l, rfl, (part_low hpart).1, (part_low hpart).2, fun p3 n3 => ?_⟩
      have e3 := Same.new (o := .tup (frV ((((u : Nat) : Int) : Rat) / (((l : Nat) : Int) : Rat)))) n3
      have f3 : Fr K (upd H2 p3 (.tup (frV ((((u : Nat) : Int) : Rat) / (((l : Nat) : Int) : Rat))))) (.ref p3) (Krdh.rat u l) := fr_rat
      generalize upd H2 p3 (.tup (frV ((((u : Nat) : Int) : Rat) / (((l : Nat) : Int) : Rat)))) = H3 at e3 f3 ⊢
      have e03 := e02.trans e3
      have hP := (hd.same e03).pick hg
      refine ⟨pick g0 g1 g, d.t, g, _, _, Krdh.rat u l, rfl, hP, hd.ok.t, hpos.1, hpos.2, hT.ext e03, rat_xat hpart f3, fun vy H4 e4 fy => ?_⟩
      have g04 : Grow T H H4 := (Same.grow e03).trans e4
      refine ⟨one_le, fun p5 n5 => ?_⟩
      have e5 := Same.new (o := .lst [vy]) n5
      have h5 : upd H4 p5 (.lst [vy]) p5 = some (.lst [vy]) := upd_same
      generalize upd H4 p5 (.lst [vy]) = H5 at e5 h5 ⊢
      refine ⟨p5, _, [_], rfl, SqL.of h5, frs_one (fy.same e5), (by show 1 ≤ 100; decide), fun p6 H6 e6 n6 h6 => ?_⟩
      have g06 := (g04.trans (Same.grow (T := T) e5)).trans (Same.grow (T := T) e6)
      refine ⟨p0, p6, _, _, rfl, rfl, e6 _ _ (e5 _ _ (e4.at (e3 _ _ h2) lst_tbl)), h6, ?_, fun p np => ?_⟩
      · rw [zV_len, flatFr_len]
        show 1 + 2 * 1 ≤ sizeLine
        decide
      · exact q p _ (g06.trans (Same.grow (Same.new np))) upd_same (New.back g06 np)
theorem scUpper : FnScope ["table", "numbers"] ["table", "numbers"] (defScope sAnswerUpper) := ⟨rfl, rfl, rfl, by decide +kernel, rfl, by decide +kernel, by decide +kernel⟩
theorem scLower : FnScope ["table", "numbers"] ["table", "numbers"] (defScope sAnswerLower) := ⟨rfl, rfl, rfl, by decide +kernel, rfl, by decide +kernel, by decide +kernel⟩
def shThree (ns : List Nat) : Prop := ∃ g u l, ns = [g, u, l]
def decUpper (ns : List Nat) : Krdh.Call := .upper (ns.getD 0 0) (ns.getD 1 0) (ns.getD 2 0)
def decLower (ns : List Nat) : Krdh.Call := .lower (ns.getD 0 0) (ns.getD 1 0) (ns.getD 2 0)
theorem ok_upper (D : Has K mg "answer_upper" sAnswerUpper ["table", "numbers"]) (M : Kept P w K mg base 6 "most_y" ["group", "x"] (spY K CG T Krdh.most)) (B : Kept P w K mg base 7 "answer_bound" ["table", "numbers", "bound"] (spBound K mg CT CG T)) : Kept P w K mg base 8 "answer_upper" ["table", "numbers"] (spAns K CT CG T shThree decUpper) := by
  obtain ⟨fm, _, _, m, _⟩ := M
  refine D.kept scUpper (fun vs H Q E h => ?_) (fun f cdv A outer s H vs Q E hr h => ⟨_, pss_one (ps_ret (pe_def B hr rfl (pa_cons (pv 0) (pa_cons (pv 1) (pa_cons (pe_ref rfl m) pa_nil))))), ?_⟩)
  · obtain ⟨_, _, _, _, _, rfl, _⟩ := h
    rfl
  · obtain ⟨a, F, d, b, ns, rfl, hA, hb, ⟨g, u, l, rfl⟩, hT, q⟩ := h
    exact ⟨_, rfl, _, rfl, a, F, d, b, fm, Krdh.most, g, u, l, rfl, hA, hb, .inl ⟨m, rfl⟩, hT, fun p H' e hp hn => ans_grow hT e hA act_upper hp hn q⟩
theorem ok_lower (D : Has K mg "answer_lower" sAnswerLower ["table", "numbers"]) (M : Kept P w K mg base 6 "fewest_y" ["group", "x"] (spY K CG T Krdh.fewest)) (B : Kept P w K mg base 7 "answer_bound" ["table", "numbers", "bound"] (spBound K mg CT CG T)) : Kept P w K mg base 8 "answer_lower" ["table", "numbers"] (spAns K CT CG T shThree decLower) := by
  obtain ⟨fm, _, _, m, _⟩ := M
  refine D.kept scLower (fun vs H Q E h => ?_) (fun f cdv A outer s H vs Q E hr h => ⟨_, pss_one (ps_ret (pe_def B hr rfl (pa_cons (pv 0) (pa_cons (pv 1) (pa_cons (pe_ref rfl m) pa_nil))))), ?_⟩)
  · obtain ⟨_, _, _, _, _, rfl, _⟩ := h
    rfl
  · obtain ⟨a, F, d, b, ns, rfl, hA, hb, ⟨g, u, l, rfl⟩, hT, q⟩ := h
    exact ⟨_, rfl, _, rfl, a, F, d, b, fm, Krdh.fewest, g, u, l, rfl, hA, hb, .inr ⟨m, rfl⟩, hT, fun p H' e hp hn => ans_grow hT e hA act_lower hp hn q⟩
end
end My

namespace My
open PySem PySem.Spec PyProof.Rows L2 LamX NdefX
theorem not_and (a b : Bool) : (!a || !b) = !(a && b) := by cases a <;> cases b <;> rfl
theorem gain_not (u v : Nat) : (decide (100 < u) || decide (100 < v)) = !gainOk u v := by
  unfold gainOk
  by_cases h1 : u ≤ 100
  · by_cases h2 : v ≤ 100
    · rw [decide_eq_true h1, decide_eq_true h2, decide_eq_false (by omega), decide_eq_false (by omega)]
      rfl
    · rw [decide_eq_true h1, decide_eq_false h2, decide_eq_false (by omega), decide_eq_true (by omega)]
      rfl
  · rw [decide_eq_false h1, decide_eq_true (show 100 < u by omega)]
    rfl
theorem act_can {d : Krdh.Desk} {g a b c e : Nat} : Krdh.act (some d) (.can g a b c e) = (some d, if refO d.t g (Krdh.partOk a b && Krdh.partOk c e) = 0 then Krdf.ask (Krdh.can d.t g (Krdh.rat a b) (Krdh.rat c e)) else Krdf.say (refO d.t g (Krdh.partOk a b && Krdh.partOk c e))) := by
  rw [← refO_is, ← not_and]
  rfl
theorem act_both {d : Krdh.Desk} {a b c e : Nat} : Krdh.act (some d) (.both a b c e) = (some d, if refB d.t (Krdh.partOk a b && Krdh.partOk c e) = 0 then Krdf.ask (Krdh.can d.t 0 (Krdh.rat a b) (Krdh.rat c e) && Krdh.can d.t 1 (Krdh.rat a b) (Krdh.rat c e)) else Krdf.say (refB d.t (Krdh.partOk a b && Krdh.partOk c e))) := by
  rw [← refB_is, ← not_and]
  rfl
theorem act_corners {d : Krdh.Desk} {g : Nat} : Krdh.act (some d) (.corners g) = (some d, if refO d.t g true = 0 then { num := ((Krdh.corners d.t g).length : Int), nums := (Krdh.corners d.t g).flatMap fun v => Krdf.fr v ++ Krdf.fr (Krdh.upper d.t g v) } else Krdf.say (refO d.t g true)) := by
  rw [← refO_is]
  rfl
theorem act_best {d : Krdh.Desk} {u v : Nat} : Krdh.act (some d) (.best u v) = (some d, if refB d.t (gainOk u v) = 0 then { num := 0, nums := Krdf.fr (Krdh.best d.t u v).1 ++ Krdf.fr (Krdh.best d.t u v).2 ++ Krdf.fr (Krdh.worth d.t u v (Krdh.best d.t u v).1 (Krdh.best d.t u v).2) } else Krdf.say (refB d.t (gainOk u v))) := by
  rw [← refB_is, ← gain_not]
  rfl
theorem act_state {d : Krdh.Desk} : Krdh.act (some d) .state = (some d, { num := (d.t.k : Int), nums := (d.chances.getD 0 []).flatMap Krdf.fr ++ (d.chances.getD 1 []).flatMap Krdf.fr }) := rfl
theorem rat_sm' {a b : Nat} (h : Krdh.partOk a b = true) : Sm 400 (Krdh.rat a b) := rat_sm h
section
variable {P : Program} {w : World} {K : PySem.W.Frag} {mg : Str → Option Value} {base : Heap} {CT CG aZ aO : Addr} {T : List (Addr × Str)}
/-! ### laid_out of a tuple -/
def spLaidT (K : PySem.W.Frag) : Sp := fun vs H Q _ => ∃ (b : Addr) (cs : List V) (rs : List Rat), vs = [.ref b] ∧ SqT K H b cs ∧ Frs K H cs rs ∧ rs.length ≤ 100 ∧ ∀ p H', Same H H' → H p = none → H' p = some (.lst (zV (rs.flatMap Krdf.fr))) → Q (.ref p) H'
theorem ok_laidT (D : Has K mg "laid_out" sLaidOut ["parts"]) : Kept P w K mg base 1 "laid_out" ["parts"] (spLaidT K) := by
  refine D.kept scLaid (fun vs H Q E h => ?_) (fun f cdv A outer s H vs Q E hr h => ⟨_, pss_cons (ps_set (i := 1) scLaid.nd rfl (Or.inl rfl) (pe_lst pa_nil))
    (pss_cons (ps_for PassesOwn.never rfl (pi_tup (pv 0)) (pg_name (i := 2) scLaid.nd rfl (Or.inl rfl)) (pss_one (ps_expr (pe_bm PySem.F.plainAttrs_list PySem.F.slot_list_extend PySem.F.type_list_extend mt_extendT (pv 1) (pa_cons (pv 2) pa_nil)))))
    (pss_one (ps_ret (pv 1)))), ?_⟩)
  · obtain ⟨_, _, _, rfl, _⟩ := h
    rfl
  · obtain ⟨b, cs, rs, rfl, hb, hF, hl, q⟩ := h
    refine ⟨Nat.zero_le _, fun o no => ?_⟩
    have e1 := Same.new (o := .lst []) no
    refine ⟨_, rfl, b, rfl, ⟨_, sqT_same e1 hb⟩, for_tup (K := K) (a := b) (xs := cs) (fun i σ H' => ∃ o2, σ = [some (.ref b), some (.ref o), o2] ∧ Same H H' ∧ H' o = some (.lst (zV ((rs.take i).flatMap Krdf.fr)))) ⟨none, rfl, e1, upd_same⟩ (fun i σ H' _ ⟨_, _, e, _⟩ => sqT_same e hb) ?_ ?_⟩
    · rintro i v σ H' hi ⟨o2, rfl, e, ho⟩
      have li : i < cs.length := (List.getElem?_eq_some_iff.mp hi).1
      have hlen := hF.len
      obtain ⟨r, hri⟩ : ∃ r, rs[i]? = some r := ⟨rs[i], List.getElem?_eq_getElem (by omega)⟩
      obtain ⟨a, rfl, ha⟩ := (hF.each i v r hi hri).same e
      refine ⟨_, rfl, .inl ⟨rfl, _, SqL.of ho⟩, _, rfl, o, a, _, _, rfl, rfl, ho, ha, ?_, ?_⟩
      · show (zV ((rs.take i).flatMap Krdf.fr)).length + 2 ≤ sizeLine
        unfold zV
        rw [List.length_map, flatFr_len, List.length_take]
        exact Nat.le_trans (show 2 * min i rs.length + 2 ≤ 300 by omega) (by decide)
      · refine ⟨_, rfl, fun c u ec => ?_, ?_⟩
        · rw [upd_ne (ne_of_none ec no)]
          exact e c u ec
        · rw [upd_same, take_more hri, List.flatMap_append, zV_app]
          rfl
    · rintro σ H' ⟨o2, rfl, e, ho⟩
      rw [hF.len, List.take_length] at ho
      exact ⟨_, rfl, q o H' e no ho⟩
/-! ### can -/
def shFive (ns : List Nat) : Prop := ∃ g a b c e, ns = [g, a, b, c, e]
def decCan (ns : List Nat) : Krdh.Call := .can (ns.getD 0 0) (ns.getD 1 0) (ns.getD 2 0) (ns.getD 3 0) (ns.getD 4 0)
theorem scCan : FnScope ["table", "numbers", "g", "refusal", "x", "y"] ["table", "numbers"] (defScope sAnswerCan) := ⟨rfl, rfl, rfl, by decide +kernel, rfl, by decide +kernel, by decide +kernel⟩
theorem ok_answerCan (D : Has K mg "answer_can" sAnswerCan ["table", "numbers"]) (G : TxtG K mg CG) (TT : TxtT K mg CT) (RO : Kept P w K mg base 4 "refusal_of_one" ["table", "g", "is_right"] (spRefO K CT CG)) (AP : Kept P w K mg base 3 "are_parts" ["numbers"] (spAreParts K)) (R : Kept P w K mg base 2 "reduced" ["upper", "lower"] spReduced) (CA : Kept P w K mg base 7 "can_reach" ["group", "x", "y"] (spCan K CG T)) :
    Kept P w K mg base 8 "answer_can" ["table", "numbers"] (spAns K CT CG T shFive decCan) := by
  refine D.kept scCan (fun vs H Q E h => ?_) (fun f cdv A outer s H vs Q E hr h => ⟨_, pss_cons (ps_set (i := 2) scCan.nd rfl (Or.inl rfl) (pe_ix ix_list (pv 1) pe_int (fun _ _ => rfl)))
    (pss_cons (ps_set (i := 3) scCan.nd rfl (Or.inl rfl) (pe_def RO (hr.mono (by decide)) rfl (pa_cons (pv 0) (pa_cons (pv 2) (pa_cons (pe_def AP (hr.mono (by decide)) rfl (pa_cons (pe_slice sl_list (pv 1) (po_some pe_int) po_none) pa_nil)) pa_nil)))))
    (pss_cons (ps_if (pt_cmpR op_ne (pv 3) (pe_num rfl TT.notRefused) (nomark _)) (pss_one (ps_ret (pe_lst (pa_cons (pv 3) pa_nil)))) pss_nil)
    (pss_cons (ps_set (i := 4) scCan.nd rfl (Or.inl rfl) (pe_def R (hr.mono (by decide)) rfl (pa_cons (pe_ix ix_list (pv 1) pe_int (fun _ _ => rfl)) (pa_cons (pe_ix ix_list (pv 1) pe_int (fun _ _ => rfl)) pa_nil))))
    (pss_cons (ps_set (i := 5) scCan.nd rfl (Or.inl rfl) (pe_def R (hr.mono (by decide)) rfl (pa_cons (pe_ix ix_list (pv 1) pe_int (fun _ _ => rfl)) (pa_cons (pe_ix ix_list (pv 1) pe_int (fun _ _ => rfl)) pa_nil))))
    (pss_one (ps_ret (pe_lst (pa_cons (pe_ifExp (pt_val (pe_def CA hr rfl (pa_cons (pe_ix ix_list (pe_fld (pv 0) rfl) (pv 2) (fun _ _ => rfl)) (pa_cons (pv 4) (pa_cons (pv 5) pa_nil))))) pe_int pe_int) pa_nil)))))))), ?_⟩)
  · obtain ⟨_, _, _, _, _, rfl, _⟩ := h
    rfl
  · obtain ⟨a, F, d, b, ns, rfl, hA, hb, ⟨g, xa, xb, ya, yb, rfl⟩, hT, q⟩ := h
    obtain ⟨aG, g0, g1, hd, hF⟩ := id hA
    have hact := act_can (d := d) (g := g) (a := xa) (b := xb) (c := ya) (e := yb)
    refine ⟨_, rfl, b, _, 0, _, rfl, rfl, hb, rfl, _, rfl, _, rfl, _, rfl, _, rfl, b, _, rfl, hb, fun o no => ?_⟩
    rw [cut1]
    have e0 := Same.new (o := .lst ((nV [g, xa, xb, ya, yb]).drop 1)) no
    have h0 : upd H o (.lst ((nV [g, xa, xb, ya, yb]).drop 1)) o = some (.lst (nV [xa, xb, ya, yb])) := upd_same
    generalize upd H o (.lst ((nV [g, xa, xb, ya, yb]).drop 1)) = H0 at e0 h0 ⊢
    refine ⟨o, xa, xb, ya, yb, rfl, SqL.of h0, a, aG, g0, g1, d, g, _, rfl, hd.same e0, fun H1 e1 => ?_⟩
    have e01 := e0.trans e1
    refine ⟨_, rfl, rfl, _, rfl, ?_⟩
    refine ifN (fun c => ?_) fun c => ?_
    · rw [if_neg (fun z => c (int_eq.mpr z))] at hact
      exact ⟨_, rfl, one_le, fun p np => ans_say hT (Same.grow e01) hA np hact rfl q⟩
    · have c := int_eq.mp c
      rw [if_pos c] at hact
      obtain ⟨hg, hparts, hfull⟩ := refO_zero c
      obtain ⟨hx, hy⟩ := Bool.and_eq_true_iff.mp hparts
      have hpos := full_pos hfull hg
      have hb1 := e01.seq hb
      refine ⟨_, rfl, b, _, 1, _, rfl, rfl, hb1, rfl, _, rfl, b, _, 2, _, rfl, rfl, hb1, rfl, xa, xb, rfl, (part_low hx).1, (part_low hx).2, fun p2 n2 => ?_⟩
      have e2 := Same.new (o := .tup (frV ((((xa : Nat) : Int) : Rat) / (((xb : Nat) : Int) : Rat)))) n2
      have f2 : Fr K (upd H1 p2 (.tup (frV ((((xa : Nat) : Int) : Rat) / (((xb : Nat) : Int) : Rat))))) (.ref p2) (Krdh.rat xa xb) := fr_rat
      generalize upd H1 p2 (.tup (frV ((((xa : Nat) : Int) : Rat) / (((xb : Nat) : Int) : Rat)))) = H2 at e2 f2 ⊢
      have hb2 := e2.seq hb1
      refine ⟨_, rfl, b, _, 3, _, rfl, rfl, hb2, rfl, _, rfl, b, _, 4, _, rfl, rfl, hb2, rfl, ya, yb, rfl, (part_low hy).1, (part_low hy).2, fun p3 n3 => ?_⟩
      have e3 := Same.new (o := .tup (frV ((((ya : Nat) : Int) : Rat) / (((yb : Nat) : Int) : Rat)))) n3
      have f3 : Fr K (upd H2 p3 (.tup (frV ((((ya : Nat) : Int) : Rat) / (((yb : Nat) : Int) : Rat))))) (.ref p3) (Krdh.rat ya yb) := fr_rat
      generalize upd H2 p3 (.tup (frV ((((ya : Nat) : Int) : Rat) / (((yb : Nat) : Int) : Rat)))) = H3 at e3 f3 ⊢
      have e03 := (e01.trans e2).trans e3
      have hd3 := hd.same e03
      obtain ⟨dx, hi⟩ := hd3.ins
      refine ⟨_, rfl, a, CT, dx, _, _, rfl, hi, TT.cl, TT.nG, tF_groups, _, rfl, aG, _, _, _, rfl, rfl, SqL.of hd3.grp, pick_at hg, _, rfl, _, rfl, pick g0 g1 g, d.t, g, _, _, _, Krdh.rat xa xb, Krdh.rat ya yb, rfl, hd3.pick hg, hd.ok.t, hpos.1, hpos.2, hT.ext e03, rat_xat hx (f2.same e3), f3, (rat_sm hy).mono (by decide), fun H4 e4 => ?_⟩
      have g04 : Grow T H H4 := (Same.grow e03).trans e4
      refine ⟨_, rfl, ?_⟩
      unfold Krdf.ask at hact
      refine ifB (fun t => ?_) fun t => ?_
      · rw [if_pos t] at hact
        exact ⟨one_le, fun p np => ans_say hT g04 hA np hact rfl q⟩
      · rw [if_neg (by rw [t]; exact Bool.false_ne_true)] at hact
        exact ⟨one_le, fun p np => ans_say hT g04 hA np hact rfl q⟩
/-! ### both -/
def shFour (ns : List Nat) : Prop := ∃ a b c e, ns = [a, b, c, e]
def decBoth (ns : List Nat) : Krdh.Call := .both (ns.getD 0 0) (ns.getD 1 0) (ns.getD 2 0) (ns.getD 3 0)
theorem scBoth : FnScope ["table", "numbers", "refusal", "x", "y", "group"] ["table", "numbers"] (defScope sAnswerBoth) := ⟨rfl, rfl, rfl, by decide +kernel, rfl, by decide +kernel, by decide +kernel⟩
theorem ok_answerBoth (D : Has K mg "answer_both" sAnswerBoth ["table", "numbers"]) (G : TxtG K mg CG) (TT : TxtT K mg CT) (RB : Kept P w K mg base 3 "refusal_of_both" ["table", "is_right"] (spRefB K CT CG)) (AP : Kept P w K mg base 3 "are_parts" ["numbers"] (spAreParts K)) (R : Kept P w K mg base 2 "reduced" ["upper", "lower"] spReduced) (CA : Kept P w K mg base 7 "can_reach" ["group", "x", "y"] (spCan K CG T)) :
    Kept P w K mg base 8 "answer_both" ["table", "numbers"] (spAns K CT CG T shFour decBoth) := by
  refine D.kept scBoth (fun vs H Q E h => ?_) (fun f cdv A outer s H vs Q E hr h => ⟨_, pss_cons (ps_set (i := 2) scBoth.nd rfl (Or.inl rfl) (pe_def RB (hr.mono (by decide)) rfl (pa_cons (pv 0) (pa_cons (pe_def AP (hr.mono (by decide)) rfl (pa_cons (pv 1) pa_nil)) pa_nil))))
    (pss_cons (ps_if (pt_cmpR op_ne (pv 2) (pe_num rfl TT.notRefused) (nomark _)) (pss_one (ps_ret (pe_lst (pa_cons (pv 2) pa_nil)))) pss_nil)
    (pss_cons (ps_set (i := 3) scBoth.nd rfl (Or.inr rfl) (pe_def R (hr.mono (by decide)) rfl (pa_cons (pe_ix ix_list (pv 1) pe_int (fun _ _ => rfl)) (pa_cons (pe_ix ix_list (pv 1) pe_int (fun _ _ => rfl)) pa_nil))))
    (pss_cons (ps_set (i := 4) scBoth.nd rfl (Or.inr rfl) (pe_def R (hr.mono (by decide)) rfl (pa_cons (pe_ix ix_list (pv 1) pe_int (fun _ _ => rfl)) (pa_cons (pe_ix ix_list (pv 1) pe_int (fun _ _ => rfl)) pa_nil))))
    (pss_one (ps_ret (pe_lst (pa_cons (pe_ifExp (pt_val (pe_callB (cr_all rfl) (by rfl) G.all boot_all (pa_cons (pe_lc (own := [("group", 5)]) (g := gName 5) (tt := tYes) (te := tCall (spCan K CG T) [] E0 (tCons (tVar 5) (tCons (tVar 3) (tCons (tVar 4) tNil)))) rfl scBoth.nd (pi_list (pe_fld (pv 0) rfl))
      (blkOk_by (N := ["table", "numbers", "refusal", "x", "y", "group"]) (sc := defScope sAnswerBoth) (by decide +kernel)) (fun _ _ _ _ _ => pg_name (i := 5) scBoth.nd rfl (Or.inl rfl)) (fun _ _ _ _ _ => pts_nil) (fun _ _ _ _ _ => pe_def CA hr rfl (pa_cons (pv 5) (pa_cons (pv 3) (pa_cons (pv 4) pa_nil))))) pa_nil))) pe_int pe_int) pa_nil))))))), ?_⟩)
  · obtain ⟨_, _, _, _, _, rfl, _⟩ := h
    rfl
  · obtain ⟨a, F, d, b, ns, rfl, hA, hb, ⟨xa, xb, ya, yb, rfl⟩, hT, q⟩ := h
    obtain ⟨aG, g0, g1, hd, hF⟩ := id hA
    have hact := act_both (d := d) (a := xa) (b := xb) (c := ya) (e := yb)
    refine ⟨_, rfl, _, rfl, b, xa, xb, ya, yb, rfl, hb, a, aG, g0, g1, d, _, rfl, hd, fun H1 e1 => ?_⟩
    refine ⟨_, rfl, rfl, _, rfl, ?_⟩
    refine ifN (fun c => ?_) fun c => ?_
    · rw [if_neg (fun z => c (int_eq.mpr z))] at hact
      exact ⟨_, rfl, one_le, fun p np => ans_say hT (Same.grow e1) hA np hact rfl q⟩
    · have c := int_eq.mp c
      rw [if_pos c] at hact
      obtain ⟨hparts, hfull⟩ := refB_zero c
      obtain ⟨hx, hy⟩ := Bool.and_eq_true_iff.mp hparts
      have ff := full_of hd.ok.t hfull
      have hb1 := e1.seq hb
      refine ⟨_, rfl, b, _, 0, _, rfl, rfl, hb1, rfl, _, rfl, b, _, 1, _, rfl, rfl, hb1, rfl, xa, xb, rfl, (part_low hx).1, (part_low hx).2, fun p2 n2 => ?_⟩
      have e2 := Same.new (o := .tup (frV ((((xa : Nat) : Int) : Rat) / (((xb : Nat) : Int) : Rat)))) n2
      have f2 : Fr K (upd H1 p2 (.tup (frV ((((xa : Nat) : Int) : Rat) / (((xb : Nat) : Int) : Rat))))) (.ref p2) (Krdh.rat xa xb) := fr_rat
      generalize upd H1 p2 (.tup (frV ((((xa : Nat) : Int) : Rat) / (((xb : Nat) : Int) : Rat)))) = H2 at e2 f2 ⊢
      have hb2 := e2.seq hb1
      refine ⟨_, rfl, b, _, 2, _, rfl, rfl, hb2, rfl, _, rfl, b, _, 3, _, rfl, rfl, hb2, rfl, ya, yb, rfl, (part_low hy).1, (part_low hy).2, fun p3 n3 => ?_⟩
      have e3 := Same.new (o := .tup (frV ((((ya : Nat) : Int) : Rat) / (((yb : Nat) : Int) : Rat)))) n3
      have f3 : Fr K (upd H2 p3 (.tup (frV ((((ya : Nat) : Int) : Rat) / (((yb : Nat) : Int) : Rat))))) (.ref p3) (Krdh.rat ya yb) := fr_rat
      generalize upd H2 p3 (.tup (frV ((((ya : Nat) : Int) : Rat) / (((yb : Nat) : Int) : Rat)))) = H3 at e3 f3 ⊢
      have e03 := (e1.trans e2).trans e3
      have hd3 := hd.same e03
      have hT3 := hT.ext e03
      have f23 := f2.same e3
      obtain ⟨dx, hi⟩ := hd3.ins
      have sy : Sm 1000 (Krdh.rat ya yb) := (rat_sm hy).mono (by decide)
      refine ⟨_, rfl, a, CT, dx, _, _, rfl, hi, TT.cl, TT.nG, tF_groups, aG, rfl, ⟨_, SqL.of hd3.grp⟩, fun D nD => ?_⟩
      refine lc_list (K := K) (a := aG) (xs := [V.ref g0.p, V.ref g1.p]) (fun i H' => Grow T H3 H' ∧ H' D = some (.lst (([Krdh.can d.t 0 (Krdh.rat xa xb) (Krdh.rat ya yb), Krdh.can d.t 1 (Krdh.rat xa xb) (Krdh.rat ya yb)].take i).map V.bl))) ⟨Same.grow (Same.new nD), upd_same⟩ (fun i H' _ z => SqL.of (z.1.at hd3.grp lst_tbl)) ?_ ?_
      · rintro i x H' hxi ⟨gr, hD⟩
        match i, hxi with
        | 0, hxi =>
          cases hxi
          refine ⟨rfl, _, rfl, _, rfl, _, rfl, g0, d.t, 0, _, _, _, Krdh.rat xa xb, Krdh.rat ya yb, rfl, hd3.gr0.grow gr, hd.ok.t, ff.y0, ff.n0, gr.tabs hT3, (rat_xat hx f23).grow gr, f3.grow gr, sy, fun H5 e5 => ?_⟩
          exact ⟨_, e5.at hD lst_tbl, (show 0 < sizeLine by decide), (gr.trans e5).upd (New.of nD) (e5.at hD lst_tbl), upd_same⟩
        | 1, hxi =>
          cases hxi
          refine ⟨rfl, _, rfl, _, rfl, _, rfl, g1, d.t, 1, _, _, _, Krdh.rat xa xb, Krdh.rat ya yb, rfl, hd3.gr1.grow gr, hd.ok.t, ff.y1, ff.n1, gr.tabs hT3, (rat_xat hx f23).grow gr, f3.grow gr, sy, fun H5 e5 => ?_⟩
          exact ⟨_, e5.at hD lst_tbl, (show 1 < sizeLine by decide), (gr.trans e5).upd (New.of nD) (e5.at hD lst_tbl), upd_same⟩
      · rintro H4 ⟨gr, hD⟩
        have g04 : Grow T H H4 := (Same.grow e03).trans gr
        refine ⟨D, [_, _], rfl, SqL.of hD, _, rfl, ?_⟩
        unfold Krdf.ask at hact
        have eb : ([Krdh.can d.t 0 (Krdh.rat xa xb) (Krdh.rat ya yb), Krdh.can d.t 1 (Krdh.rat xa xb) (Krdh.rat ya yb)].all id) = (Krdh.can d.t 0 (Krdh.rat xa xb) (Krdh.rat ya yb) && Krdh.can d.t 1 (Krdh.rat xa xb) (Krdh.rat ya yb)) := by
          simp
        rw [eb]
        refine ifB (fun t => ?_) fun t => ?_
        · rw [if_pos t] at hact
          exact ⟨one_le, fun p np => ans_say hT g04 hA np hact rfl q⟩
        · rw [if_neg (by rw [t]; exact Bool.false_ne_true)] at hact
          exact ⟨one_le, fun p np => ans_say hT g04 hA np hact rfl q⟩
end
end My

namespace My
open PySem PySem.Spec PyProof.Rows L2 LamX NdefX
section
variable {P : Program} {w : World} {K : PySem.W.Frag} {mg : Str → Option Value} {base : Heap} {CT CG aZ aO : Addr} {T : List (Addr × Str)}
/-! ### corners -/
def decCorners (ns : List Nat) : Krdh.Call := .corners (ns.getD 0 0)
theorem scCorn : FnScope ["table", "numbers", "g", "refusal", "group", "xs", "answer", "x"] ["table", "numbers"] (defScope sAnswerCorners) := ⟨rfl, rfl, rfl, by decide +kernel, rfl, by decide +kernel, by decide +kernel⟩
theorem flat4_len (t : Krdf.Table) (g : Nat) : ∀ l : List Rat, (l.flatMap fun v => Krdf.fr v ++ Krdf.fr (Krdh.upper t g v)).length = 4 * l.length
  | [] => rfl
  | r :: l => by
    rw [List.flatMap_cons, List.length_append, flat4_len t g l, List.length_cons]
    show 4 + _ = _
    omega
theorem ok_answerCorners (D : Has K mg "answer_corners" sAnswerCorners ["table", "numbers"]) (G : TxtG K mg CG) (TT : TxtT K mg CT) (RO : Kept P w K mg base 4 "refusal_of_one" ["table", "g", "is_right"] (spRefO K CT CG)) (CX : Kept P w K mg base 5 "corner_xs" ["group"] (spCorners K CG T)) (MY : Kept P w K mg base 6 "most_y" ["group", "x"] (spY K CG T Krdh.most)) (LO : Kept P w K mg base 1 "laid_out" ["parts"] (spLaid K)) :
    Kept P w K mg base 7 "answer_corners" ["table", "numbers"] (spAns K CT CG T shOne decCorners) := by
  refine D.kept scCorn (fun vs H Q E h => ?_) (fun f cdv A outer s H vs Q E hr h => ⟨_, pss_cons (ps_set (i := 2) scCorn.nd rfl (Or.inl rfl) (pe_ix ix_list (pv 1) pe_int (fun _ _ => rfl)))
    (pss_cons (ps_set (i := 3) scCorn.nd rfl (Or.inl rfl) (pe_def RO (hr.mono (by decide)) rfl (pa_cons (pv 0) (pa_cons (pv 2) (pa_cons pe_bl pa_nil)))))
    (pss_cons (ps_if (pt_cmpR op_ne (pv 3) (pe_num rfl TT.notRefused) (nomark _)) (pss_one (ps_ret (pe_lst (pa_cons (pv 3) pa_nil)))) pss_nil)
    (pss_cons (ps_set (i := 4) scCorn.nd rfl (Or.inl rfl) (pe_ix ix_list (pe_fld (pv 0) rfl) (pv 2) (fun _ _ => rfl)))
    (pss_cons (ps_set (i := 5) scCorn.nd rfl (Or.inl rfl) (pe_def CX (hr.mono (by decide)) rfl (pa_cons (pv 4) pa_nil)))
    (pss_cons (ps_set (i := 6) scCorn.nd rfl (Or.inl rfl) (pe_lst (pa_cons (pe_callB call_len_seq (by rfl) G.len PySem.boot_len (pa_cons (pv 5) pa_nil)) pa_nil)))
    (pss_cons (ps_for PassesOwn.never rfl (pi_list (pv 5)) (pg_name (i := 7) scCorn.nd rfl (Or.inl rfl))
      (pss_one (ps_expr (pe_bm PySem.F.plainAttrs_list PySem.F.slot_list_extend PySem.F.type_list_extend mt_extend (pv 6) (pa_cons (pe_def LO (hr.mono (by decide)) rfl (pa_cons (pe_lst (pa_cons (pv 7) (pa_cons (pe_def MY hr rfl (pa_cons (pv 4) (pa_cons (pv 7) pa_nil))) pa_nil))) pa_nil)) pa_nil)))))
    (pss_one (ps_ret (pv 6))))))))), ?_⟩)
  · obtain ⟨_, _, _, _, _, rfl, _⟩ := h
    rfl
  · obtain ⟨a, F, d, b, ns, rfl, hA, hb, ⟨g, rfl⟩, hT, q⟩ := h
    obtain ⟨aG, g0, g1, hd, hF⟩ := id hA
    have hact := act_corners (d := d) (g := g)
    refine ⟨_, rfl, b, _, 0, _, rfl, rfl, hb, rfl, _, rfl, _, rfl, a, aG, g0, g1, d, g, true, rfl, hd, fun H1 e1 => ?_⟩
    refine ⟨_, rfl, rfl, _, rfl, ?_⟩
    refine ifN (fun c => ?_) fun c => ?_
    · rw [if_neg (fun z => c (int_eq.mpr z))] at hact
      exact ⟨_, rfl, one_le, fun p np => ans_say hT (Same.grow e1) hA np hact rfl q⟩
    · have c := int_eq.mp c
      rw [if_pos c] at hact
      obtain ⟨hg, _, hfull⟩ := refO_zero c
      have hpos := full_pos hfull hg
      have hd1 := hd.same e1
      obtain ⟨dx, hi⟩ := hd1.ins
      have hP := hd1.pick hg
      refine ⟨_, rfl, a, CT, dx, _, _, rfl, hi, TT.cl, TT.nG, tF_groups, _, rfl, aG, _, _, _, rfl, rfl, SqL.of hd1.grp, pick_at hg, ?_⟩
      refine ⟨_, rfl, pick g0 g1 g, d.t, g, _, rfl, hP, hd.ok.t, hpos.2, hT.ext e1, fun px H2 cs e2 hpx fc => ?_⟩
      have g02 : Grow T H H2 := (Same.grow e1).trans e2
      have cl := corners_len (g := g) hd.ok.t
      have csl := fc.len
      have hin : ∀ x ∈ Krdh.corners d.t g, In 9 x := fun x hx => corners_in hd.ok.t hpos.2 hx
      generalize Krdh.corners d.t g = L at fc cl csl hin hact
      refine ⟨_, rfl, px, _, rfl, .inl (SqL.of hpx), one_le, fun pa npa => ?_⟩
      have e3 := Same.new (o := .lst [V.int (cs.length : Int)]) npa
      have h3 : upd H2 pa (.lst [V.int (cs.length : Int)]) pa = some (.lst [V.int (cs.length : Int)]) := upd_same
      generalize upd H2 pa (.lst [V.int (cs.length : Int)]) = H3 at e3 h3 ⊢
      refine ⟨_, rfl, px, rfl, ⟨_, SqL.of (e3 _ _ hpx)⟩, for_list (K := K) (a := px) (xs := cs) (fun i σ H' => ∃ (o7 : Option V), σ = [some (.ref a), some (.ref b), some (.int g), some (.int (refO d.t g true)), some (.ref (pick g0 g1 g).p), some (.ref px), some (.ref pa), o7] ∧ Grow T H2 H' ∧ H' pa = some (.lst (zV ((L.length : Int) :: (L.take i).flatMap fun v => Krdf.fr v ++ Krdf.fr (Krdh.upper d.t g v)))))
        ⟨none, rfl, Same.grow e3, ?_⟩ (fun i σ H' _ ⟨_, _, gr, _⟩ => SqL.of (gr.at hpx lst_tbl)) ?_ ?_⟩
      · rw [List.take_zero, ← csl]
        exact h3
      · rintro i vx σ H' hi' ⟨o7, rfl, gr, ha⟩
        have li : i < cs.length := (List.getElem?_eq_some_iff.mp hi').1
        obtain ⟨x, hx⟩ : ∃ x, L[i]? = some x := ⟨_, List.getElem?_eq_getElem (by omega)⟩
        have ix := hin x (List.mem_of_getElem? hx)
        have fx := (fc.each i vx x hi' hx).grow gr
        have g0' := g02.trans gr
        refine ⟨_, rfl, .inl ⟨rfl, _, SqL.of ha⟩, _, rfl, _, rfl, _, rfl, pick g0 g1 g, d.t, g, _, vx, x, rfl, (hd.pick hg).grow g0', hd.ok.t, hpos.1, hpos.2, g0'.tabs hT, ix.xat (by decide) fx, fun vy H4 e4 fy => ?_⟩
        have fy : Fr K H4 vy (Krdh.upper d.t g x) := fy
        refine ⟨two_le, fun pl npl => ?_⟩
        have e5 := Same.new (o := .lst [vx, vy]) npl
        have h5 : upd H4 pl (.lst [vx, vy]) pl = some (.lst [vx, vy]) := upd_same
        generalize upd H4 pl (.lst [vx, vy]) = H5 at e5 h5 ⊢
        refine ⟨pl, _, [_, _], rfl, SqL.of h5, frs_app (frs_one ((fx.grow e4).same e5)) (frs_one (fy.same e5)), (by show 2 ≤ 100; decide), fun pr H6 e6 n6 h6 => ?_⟩
        have e46 := e4.trans (Same.grow (T := T) (e5.trans e6))
        have ha6 := e46.at ha lst_tbl
        refine ⟨pa, pr, _, _, rfl, rfl, ha6, h6, ?_, ?_⟩
        · rw [zV_len, zV_len, List.length_cons, flat4_len, flatFr_len, List.length_take]
          show 4 * min i L.length + 1 + 2 * 2 ≤ sizeLine
          exact Nat.le_trans (show 4 * min i L.length + 1 + 2 * 2 ≤ 100 by omega) (by decide)
        · refine ⟨some vx, rfl, (gr.trans e46).upd (New.of npa) ha6, ?_⟩
          rw [upd_same, take_more hx, List.flatMap_append, ← zV_app]
          rfl
      · rintro σ H' ⟨o7, rfl, gr, ha⟩
        rw [csl, List.take_length] at ha
        exact ⟨_, rfl, ans_grow hT (g02.trans gr) hA hact ha (New.back g02 npa) q⟩
/-! ### best -/
def shTwo (ns : List Nat) : Prop := ∃ u v, ns = [u, v]
def decBest (ns : List Nat) : Krdh.Call := .best (ns.getD 0 0) (ns.getD 1 0)
theorem scBest : FnScope ["table", "numbers", "refusal"] ["table", "numbers"] (defScope sAnswerBest) := ⟨rfl, rfl, rfl, by decide +kernel, rfl, by decide +kernel, by decide +kernel⟩
theorem gain_le {u v : Nat} (h : gainOk u v = true) : u ≤ 100 ∧ v ≤ 100 := by
  unfold gainOk at h
  simpa using h
theorem DeskAt.two {H : Hp} {a aG : Addr} {g0 g1 : GA} {d : Krdh.Desk} (h : DeskAt K CT CG H a aG g0 g1 d) : Two K CG H aG g0 g1 d.t (d.chances.getD 0 []) (d.chances.getD 1 []) := ⟨h.grp, h.gr0, h.gr1⟩
theorem ok_answerBest (D : Has K mg "answer_best" sAnswerBest ["table", "numbers"]) (G : TxtG K mg CG) (TT : TxtT K mg CT) (RB : Kept P w K mg base 3 "refusal_of_both" ["table", "is_right"] (spRefB K CT CG)) (AG : Kept P w K mg base 1 "are_gain_and_loss" ["numbers"] (spAreGain K)) (BO : Kept P w K mg base 10 "best_of" ["groups", "gain", "loss"] (spBestOf K CG T)) (LT : Kept P w K mg base 1 "laid_out" ["parts"] (spLaidT K)) :
    Kept P w K mg base 11 "answer_best" ["table", "numbers"] (spAns K CT CG T shTwo decBest) := by
  refine D.kept scBest (fun vs H Q E h => ?_) (fun f cdv A outer s H vs Q E hr h => ⟨_, pss_cons (ps_set (i := 2) scBest.nd rfl (Or.inl rfl) (pe_def RB (hr.mono (by decide)) rfl (pa_cons (pv 0) (pa_cons (pe_def AG (hr.mono (by decide)) rfl (pa_cons (pv 1) pa_nil)) pa_nil))))
    (pss_cons (ps_if (pt_cmpR op_ne (pv 2) (pe_num rfl TT.notRefused) (nomark _)) (pss_one (ps_ret (pe_lst (pa_cons (pv 2) pa_nil)))) pss_nil)
    (pss_one (ps_ret (pe_op op_cat (pe_lst (pa_cons pe_int pa_nil)) (pe_def LT (hr.mono (by decide)) rfl (pa_cons (pe_def BO hr rfl (pa_cons (pe_fld (pv 0) rfl) (pa_cons (pe_ix ix_list (pv 1) pe_int (fun _ _ => rfl)) (pa_cons (pe_ix ix_list (pv 1) pe_int (fun _ _ => rfl)) pa_nil)))) pa_nil)))))), ?_⟩)
  · obtain ⟨_, _, _, _, _, rfl, _⟩ := h
    rfl
  · obtain ⟨a, F, d, b, ns, rfl, hA, hb, ⟨u, v, rfl⟩, hT, q⟩ := h
    obtain ⟨aG, g0, g1, hd, hF⟩ := id hA
    have hact := act_best (d := d) (u := u) (v := v)
    refine ⟨_, rfl, _, rfl, b, u, v, rfl, hb, a, aG, g0, g1, d, _, rfl, hd, fun H1 e1 => ?_⟩
    refine ⟨_, rfl, rfl, _, rfl, ?_⟩
    refine ifN (fun c => ?_) fun c => ?_
    · rw [if_neg (fun z => c (int_eq.mpr z))] at hact
      exact ⟨_, rfl, one_le, fun p np => ans_say hT (Same.grow e1) hA np hact rfl q⟩
    · have c := int_eq.mp c
      rw [if_pos c] at hact
      obtain ⟨hgain, hfull⟩ := refB_zero c
      have ff := full_of hd.ok.t hfull
      refine ⟨one_le, fun p0 n0 => ?_⟩
      have e2 := Same.new (o := .lst [V.int 0]) n0
      have h2 : upd H1 p0 (.lst [V.int 0]) p0 = some (.lst [V.int 0]) := upd_same
      generalize upd H1 p0 (.lst [V.int 0]) = H2 at e2 h2 ⊢
      have e02 := e1.trans e2
      have hd2 := hd.same e02
      obtain ⟨dx, hi⟩ := hd2.ins
      have hb2 := e02.seq hb
      refine ⟨_, rfl, a, CT, dx, _, _, rfl, hi, TT.cl, TT.nG, tF_groups, _, rfl, b, _, 0, _, rfl, rfl, hb2, rfl, _, rfl, b, _, 1, _, rfl, rfl, hb2, rfl, aG, g0, g1, d.t, _, _, u, v, rfl, hd2.two, ff, (gain_le hgain).1, (gain_le hgain).2, hT.ext e02, fun tb H3 vx vy vw x e3 htb hbest ix fx fy fw => ?_⟩
      rw [hbest] at hact
      have g03 : Grow T H H3 := (Same.grow e02).trans e3
      refine ⟨tb, _, [_, _, _], rfl, SqT.of htb, frs_app (frs_one fx) (frs_app (frs_one fy) (frs_one fw)), (by show 3 ≤ 100; decide), fun p4 H4 e4 n4 h4 => ?_⟩
      have g04 := g03.trans (Same.grow (T := T) e4)
      refine ⟨p0, p4, _, _, rfl, rfl, e4 _ _ (e3.at h2 lst_tbl), h4, ?_, fun p np => ?_⟩
      · rw [zV_len, flatFr_len]
        show 1 + 2 * 3 ≤ sizeLine
        decide
      · exact ans_say hT g04 hA np hact rfl q
/-! ### state -/
def shNone (ns : List Nat) : Prop := ns = []
def decState (_ : List Nat) : Krdh.Call := .state
theorem scState : FnScope ["table", "numbers"] ["table", "numbers"] (defScope sAnswerState) := ⟨rfl, rfl, rfl, by decide +kernel, rfl, by decide +kernel, by decide +kernel⟩
theorem ok_answerState (D : Has K mg "answer_state" sAnswerState ["table", "numbers"]) (G : TxtG K mg CG) (TT : TxtT K mg CT) (LO : Kept P w K mg base 1 "laid_out" ["parts"] (spLaid K)) :
    Kept P w K mg base 2 "answer_state" ["table", "numbers"] (spAns K CT CG T shNone decState) := by
  refine D.kept scState (fun vs H Q E h => ?_) (fun f cdv A outer s H vs Q E hr h => ⟨_, pss_one (ps_ret (pe_op op_cat (pe_lst (pa_cons (pe_fld (pv 0) rfl) pa_nil)) (pe_def LO hr rfl (pa_cons (pe_op op_cat (pe_fld (pe_ix ix_list (pe_fld (pv 0) rfl) pe_int (fun _ _ => rfl)) rfl) (pe_fld (pe_ix ix_list (pe_fld (pv 0) rfl) pe_int (fun _ _ => rfl)) rfl)) pa_nil)))), ?_⟩)
  · obtain ⟨_, _, _, _, _, rfl, _⟩ := h
    rfl
  · obtain ⟨a, F, d, b, ns, rfl, hA, hb, rfl, hT, q⟩ := h
    obtain ⟨aG, g0, g1, hd, hF⟩ := id hA
    obtain ⟨dx, hi⟩ := hd.ins
    have k4 := hd.ok.t.k4
    have l0 := hd.ok.hk 0 (by decide)
    have l1 := hd.ok.hk 1 (by decide)
    refine ⟨_, rfl, a, CT, dx, _, _, rfl, hi, TT.cl, TT.nS, tF_scores, one_le, fun p0 n0 => ?_⟩
    have e1 := Same.new (o := .lst [V.int (d.t.k : Int)]) n0
    have h1 : upd H p0 (.lst [V.int (d.t.k : Int)]) p0 = some (.lst [V.int (d.t.k : Int)]) := upd_same
    generalize upd H p0 (.lst [V.int (d.t.k : Int)]) = H1 at e1 h1 ⊢
    have hd1 := hd.same e1
    have hi1 := e1 _ _ hi
    have c0 := hd1.gr0.fr.len
    have c1 := hd1.gr1.fr.len
    refine ⟨_, rfl, a, CT, dx, _, _, rfl, hi1, TT.cl, TT.nG, tF_groups, aG, _, 0, _, rfl, rfl, SqL.of hd1.grp, rfl, _, CG, _, _, _, rfl, hd1.gr0.ins, G.cl, G.nC, gF_ch, _, rfl, a, CT, dx, _, _, rfl, hi1, TT.cl, TT.nG, tF_groups, aG, _, 1, _, rfl, rfl, SqL.of hd1.grp, rfl, _, CG, _, _, _, rfl, hd1.gr1.ins, G.cl, G.nC, gF_ch,
      g0.aC, g1.aC, _, _, rfl, rfl, hd1.gr0.ch, hd1.gr1.ch, Nat.le_trans (show g0.cs.length + g1.cs.length ≤ 8 by omega) (by decide), fun p2 n2 => ?_⟩
    have e2 := Same.new (o := .lst (g0.cs ++ g1.cs)) n2
    have h2 : upd H1 p2 (.lst (g0.cs ++ g1.cs)) p2 = some (.lst (g0.cs ++ g1.cs)) := upd_same
    generalize upd H1 p2 (.lst (g0.cs ++ g1.cs)) = H2 at e2 h2 ⊢
    have hd2 := hd1.same e2
    refine ⟨p2, _, _, rfl, SqL.of h2, frs_app hd2.gr0.fr hd2.gr1.fr, by rw [List.length_append]; omega, fun p3 H3 e3 n3 h3 => ?_⟩
    refine ⟨p0, p3, _, _, rfl, rfl, e3 _ _ (e2 _ _ h1), h3, ?_, fun p np => ?_⟩
    · rw [zV_len, flatFr_len, List.length_append]
      show 1 + 2 * _ ≤ sizeLine
      exact Nat.le_trans (show 1 + 2 * ((d.chances.getD 0 []).length + (d.chances.getD 1 []).length) ≤ 100 by omega) (by decide)
    · refine ans_say hT (Same.grow ((e1.trans e2).trans e3)) hA np act_state ?_ q
      rw [List.flatMap_append]
      rfl
end
end My

namespace My
open PySem PySem.Spec PyProof.Rows L2 LamX NdefX
theorem act_reach {d : Krdh.Desk} {g a b c e : Nat} : Krdh.act (some d) (.reach g a b c e) = if refO d.t g (Krdh.partOk a b && Krdh.partOk c e) = 0 then (if (!Krdh.can d.t g (Krdh.rat a b) (Krdh.rat c e)) = true then (some d, Krdf.say (-34)) else
    (some { d with chances := d.chances.set g (Krdh.chancesFor d.t g (Krdh.rat a b) (Krdh.rat c e)) }, { num := (d.t.k : Int), nums := (Krdh.chancesFor d.t g (Krdh.rat a b) (Krdh.rat c e)).flatMap Krdf.fr })) else (some d, Krdf.say (refO d.t g (Krdh.partOk a b && Krdh.partOk c e))) := by
  rw [← refO_is (f := fun z => (some d, Krdf.say z)), ← not_and]
  rfl
theorem act_take {d : Krdh.Desk} {u v : Nat} : Krdh.act (some d) (.take_ u v) = if refB d.t (gainOk u v) = 0 then (some { d with chances := [Krdh.chancesFor d.t 0 (Krdh.best d.t u v).1 (Krdh.best d.t u v).2, Krdh.chancesFor d.t 1 (Krdh.best d.t u v).1 (Krdh.best d.t u v).2] }, Krdf.say 0) else (some d, Krdf.say (refB d.t (gainOk u v))) := by
  rw [← refB_is (f := fun z => (some d, Krdf.say z)), ← gain_not]
  rfl
/-! ### what stays tracked -/
def Alive (H H' : Hp) : Prop := ∀ b o, H b = some o → (∀ ps, o ≠ .tbl ps) → ∃ o', H' b = some o' ∧ ∀ ps, o' ≠ .tbl ps
theorem Alive.trans {H H1 H2 : Hp} (a : Alive H H1) (b : Alive H1 H2) : Alive H H2 := fun c o e n => match a c o e n with
  | ⟨o1, e1, n1⟩ => b c o1 e1 n1
theorem Grow.alive {T : List (Addr × Str)} {H H' : Hp} (g : Grow T H H') : Alive H H' := fun b o e n => ⟨o, g.at e n, n⟩
theorem alive_upd {H : Hp} {q : Addr} {o' : HO} (n : ∀ ps, o' ≠ .tbl ps) : Alive H (upd H q o') := fun b o e ht => by
  by_cases hb : b = q
  · rw [hb]
    exact ⟨o', upd_same, n⟩
  · exact ⟨o, (upd_ne hb).trans e, ht⟩
theorem Alive.new {H H' : Hp} {p : Addr} (a : Alive H H') (n : H' p = none) : New H p := fun o e => by
  by_cases c : ∃ ps, o = .tbl ps
  · exact c
  · obtain ⟨o', e', _⟩ := a p o e fun ps z => c ⟨ps, z⟩
    rw [n] at e'
    cases e'
theorem Alive.pull {H H' : Hp} {p : Addr} (a : Alive H H') (n : New H' p) : New H p := fun o e => by
  by_cases c : ∃ ps, o = .tbl ps
  · exact c
  · obtain ⟨o', e', h⟩ := a p o e fun ps z => c ⟨ps, z⟩
    obtain ⟨ps, z⟩ := n o' e'
    exact absurd z (h ps)
theorem Chg.trans {T : List (Addr × Str)} {H H1 H2 : Hp} {F F1 F2 : List Addr} (a : Chg T H F H1 F1) (b : Chg T H1 F1 H2 F2) : Chg T H F H2 F2 := by
  refine ⟨fun c o e n ht => ?_, fun c hc => ?_, b.tabs⟩
  · refine b.keep c o (a.keep c o e n ht) (fun z => ?_) ht
    rcases a.foot c z with q | q
    · exact n q
    · obtain ⟨ps, z⟩ := q o e
      exact ht ps z
  · rcases b.foot c hc with q | q
    · exact a.foot c q
    · by_cases hF : c ∈ F
      · exact .inl hF
      · refine .inr fun o e => ?_
        by_cases ct : ∃ ps, o = .tbl ps
        · exact ct
        · exact q o (a.keep c o e hF fun ps z => ct ⟨ps, z⟩)
/-- one group's chances set anew, by a list that is new since H -/
theorem chg_set {T : List (Addr × Str)} {K : PySem.W.Frag} {CT CG : Addr} {H H4 : Hp} {a aG q : Addr} {g0 g1 : GA} {d : Krdh.Desk} {gi : Nat} {cs : List V} {rs : List Rat} (hT : Tabs T H) (hd : DeskAt K CT CG H a aG g0 g1 d) (g4 : Grow T H H4) (hg : gi < 2) (hn : New H q) (hq : H4 q = some (.lst cs)) (hr : Frs K H4 cs rs) (hl : rs.length = d.t.k) (hs : ∀ r ∈ rs, Sm 800 r) :
    ∃ g0' g1', DeskAt K CT CG (upd H4 (pick g0 g1 gi).p (.ins CG (pick g0 g1 gi).dx (gF (pick g0 g1 gi).aS (pick g0 g1 gi).aN q))) a aG g0' g1' { d with chances := d.chances.set gi rs } ∧ g0'.p = g0.p ∧ g1'.p = g1.p ∧
      Chg T H (foot a aG g0 g1) (upd H4 (pick g0 g1 gi).p (.ins CG (pick g0 g1 gi).dx (gF (pick g0 g1 gi).aS (pick g0 g1 gi).aN q))) (foot a aG g0' g1') ∧ Alive H (upd H4 (pick g0 g1 gi).p (.ins CG (pick g0 g1 gi).dx (gF (pick g0 g1 gi).aS (pick g0 g1 gi).aN q))) := by
  have hd4 := hd.grow g4
  have hP := hd4.pick hg
  obtain ⟨g0', g1', hd5, hft⟩ := desk_setC hd4 hg hq hr (hn.ne hd.gr0.so lst_tbl) (hn.ne hd.gr0.no lst_tbl) (hn.ne hd.gr1.so lst_tbl) (hn.ne hd.gr1.no lst_tbl) hl hs
  have inF : (pick g0 g1 gi).p ∈ foot a aG g0 g1 := by
    rcases (show gi = 0 ∨ gi = 1 by omega) with rfl | rfl
    · simp [foot, pick]
    · simp [foot, pick]
  have hgrp := hd5.grp
  rw [upd_ne (ne_of hd4.grp hP.ins (by intro z; cases z)), hd4.grp] at hgrp
  injection hgrp with hgrp
  injection hgrp with hgrp
  injection hgrp with e1 e2
  injection e2 with e2 _
  injection e1 with e1
  injection e2 with e2
  refine ⟨g0', g1', hd5, e1.symm, e2.symm, ⟨fun b o eb hb ht => ?_, fun b hb => ?_, tabs_upd hP.ins ins_tbl ins_code (g4.tabs hT)⟩, (g4.alive).trans (alive_upd ins_tbl)⟩
  · rw [upd_ne (fun z => hb (by rw [z]; exact inF))]
    exact g4.at eb ht
  · rcases hft b hb with z | z
    · exact .inl z
    · rw [z]
      exact .inr hn
theorem rat_sm10 {a b : Nat} (h : Krdh.partOk a b = true) : (Krdh.rat a b).den < 2 ^ 10 := by
  simp only [Krdh.partOk, Bool.and_eq_true, decide_eq_true_eq] at h
  unfold Krdh.rat
  rw [← natZ, ← natZ]
  exact (sm_div (n := 10) (by omega) (by rw [nab]; exact Nat.lt_of_le_of_lt (show a ≤ 1000 by omega) (by decide)) (by rw [nab]; exact Nat.lt_of_le_of_lt (show b ≤ 1000 by omega) (by decide))).2
section
variable {P : Program} {w : World} {K : PySem.W.Frag} {mg : Str → Option Value} {base : Heap} {CT CG aZ aO : Addr} {T : List (Addr × Str)}
/-! ### reach -/
def decReach (ns : List Nat) : Krdh.Call := .reach (ns.getD 0 0) (ns.getD 1 0) (ns.getD 2 0) (ns.getD 3 0) (ns.getD 4 0)
theorem scReach : FnScope ["table", "numbers", "g", "refusal", "group", "x", "y"] ["table", "numbers"] (defScope sAnswerReach) := ⟨rfl, rfl, rfl, by decide +kernel, rfl, by decide +kernel, by decide +kernel⟩
theorem ok_answerReach (D : Has K mg "answer_reach" sAnswerReach ["table", "numbers"]) (G : TxtG K mg CG) (TT : TxtT K mg CT) (RO : Kept P w K mg base 4 "refusal_of_one" ["table", "g", "is_right"] (spRefO K CT CG)) (AP : Kept P w K mg base 3 "are_parts" ["numbers"] (spAreParts K)) (R : Kept P w K mg base 2 "reduced" ["upper", "lower"] spReduced) (CA : Kept P w K mg base 7 "can_reach" ["group", "x", "y"] (spCan K CG T)) (FO : Kept P w K mg base 7 "chances_for" ["group", "x", "y"] (spFor K CG T)) (LO : Kept P w K mg base 1 "laid_out" ["parts"] (spLaid K)) :
    Kept P w K mg base 8 "answer_reach" ["table", "numbers"] (spAns K CT CG T shFive decReach) := by
  refine D.kept scReach (fun vs H Q E h => ?_) (fun f cdv A outer s H vs Q E hr h => ⟨_, pss_cons (ps_set (i := 2) scReach.nd rfl (Or.inl rfl) (pe_ix ix_list (pv 1) pe_int (fun _ _ => rfl)))
    (pss_cons (ps_set (i := 3) scReach.nd rfl (Or.inl rfl) (pe_def RO (hr.mono (by decide)) rfl (pa_cons (pv 0) (pa_cons (pv 2) (pa_cons (pe_def AP (hr.mono (by decide)) rfl (pa_cons (pe_slice sl_list (pv 1) (po_some pe_int) po_none) pa_nil)) pa_nil)))))
    (pss_cons (ps_if (pt_cmpR op_ne (pv 3) (pe_num rfl TT.notRefused) (nomark _)) (pss_one (ps_ret (pe_lst (pa_cons (pv 3) pa_nil)))) pss_nil)
    (pss_cons (ps_set (i := 4) scReach.nd rfl (Or.inl rfl) (pe_ix ix_list (pe_fld (pv 0) rfl) (pv 2) (fun _ _ => rfl)))
    (pss_cons (ps_set (i := 5) scReach.nd rfl (Or.inl rfl) (pe_def R (hr.mono (by decide)) rfl (pa_cons (pe_ix ix_list (pv 1) pe_int (fun _ _ => rfl)) (pa_cons (pe_ix ix_list (pv 1) pe_int (fun _ _ => rfl)) pa_nil))))
    (pss_cons (ps_set (i := 6) scReach.nd rfl (Or.inl rfl) (pe_def R (hr.mono (by decide)) rfl (pa_cons (pe_ix ix_list (pv 1) pe_int (fun _ _ => rfl)) (pa_cons (pe_ix ix_list (pv 1) pe_int (fun _ _ => rfl)) pa_nil))))
    (pss_cons (ps_if (pt_not (pt_val (pe_def CA hr rfl (pa_cons (pv 4) (pa_cons (pv 5) (pa_cons (pv 6) pa_nil)))))) (pss_one (ps_ret (pe_lst (pa_cons (pe_num rfl TT.notReached) pa_nil)))) pss_nil)
    (pss_cons (ps_fld (pv 4) (pe_def FO hr rfl (pa_cons (pv 4) (pa_cons (pv 5) (pa_cons (pv 6) pa_nil)))) rfl)
    (pss_one (ps_ret (pe_op op_cat (pe_lst (pa_cons (pe_fld (pv 0) rfl) pa_nil)) (pe_def LO (hr.mono (by decide)) rfl (pa_cons (pe_fld (pv 4) rfl) pa_nil)))))))))))), ?_⟩)
  · obtain ⟨_, _, _, _, _, rfl, _⟩ := h
    rfl
  · obtain ⟨a, F, d, b, ns, rfl, hA, hb, ⟨g, xa, xb, ya, yb, rfl⟩, hT, q⟩ := h
    obtain ⟨aG, g0, g1, hd, hF⟩ := id hA
    have hact := act_reach (d := d) (g := g) (a := xa) (b := xb) (c := ya) (e := yb)
    refine ⟨_, rfl, b, _, 0, _, rfl, rfl, hb, rfl, _, rfl, _, rfl, _, rfl, _, rfl, b, _, rfl, hb, fun o no => ?_⟩
    rw [cut1]
    have e0 := Same.new (o := .lst ((nV [g, xa, xb, ya, yb]).drop 1)) no
    have h0 : upd H o (.lst ((nV [g, xa, xb, ya, yb]).drop 1)) o = some (.lst (nV [xa, xb, ya, yb])) := upd_same
    generalize upd H o (.lst ((nV [g, xa, xb, ya, yb]).drop 1)) = H0 at e0 h0 ⊢
    refine ⟨o, xa, xb, ya, yb, rfl, SqL.of h0, a, aG, g0, g1, d, g, _, rfl, hd.same e0, fun H1 e1 => ?_⟩
    have e01 := e0.trans e1
    refine ⟨_, rfl, rfl, _, rfl, ?_⟩
    refine ifN (fun c => ?_) fun c => ?_
    · rw [if_neg (fun z => c (int_eq.mpr z))] at hact
      exact ⟨_, rfl, one_le, fun p np => ans_say hT (Same.grow e01) hA np hact rfl q⟩
    · have c := int_eq.mp c
      rw [if_pos c] at hact
      obtain ⟨hg, hparts, hfull⟩ := refO_zero c
      obtain ⟨hx, hy⟩ := Bool.and_eq_true_iff.mp hparts
      have hpos := full_pos hfull hg
      have hb1 := e01.seq hb
      have hd1 := hd.same e01
      obtain ⟨dx, hi⟩ := hd1.ins
      refine ⟨_, rfl, a, CT, dx, _, _, rfl, hi, TT.cl, TT.nG, tF_groups, _, rfl, aG, _, _, _, rfl, rfl, SqL.of hd1.grp, pick_at hg, ?_⟩
      refine ⟨_, rfl, b, _, 1, _, rfl, rfl, hb1, rfl, _, rfl, b, _, 2, _, rfl, rfl, hb1, rfl, xa, xb, rfl, (part_low hx).1, (part_low hx).2, fun p2 n2 => ?_⟩
      have e2 := Same.new (o := .tup (frV ((((xa : Nat) : Int) : Rat) / (((xb : Nat) : Int) : Rat)))) n2
      have f2 : Fr K (upd H1 p2 (.tup (frV ((((xa : Nat) : Int) : Rat) / (((xb : Nat) : Int) : Rat))))) (.ref p2) (Krdh.rat xa xb) := fr_rat
      generalize upd H1 p2 (.tup (frV ((((xa : Nat) : Int) : Rat) / (((xb : Nat) : Int) : Rat)))) = H2 at e2 f2 ⊢
      have hb2 := e2.seq hb1
      refine ⟨_, rfl, b, _, 3, _, rfl, rfl, hb2, rfl, _, rfl, b, _, 4, _, rfl, rfl, hb2, rfl, ya, yb, rfl, (part_low hy).1, (part_low hy).2, fun p3 n3 => ?_⟩
      have e3 := Same.new (o := .tup (frV ((((ya : Nat) : Int) : Rat) / (((yb : Nat) : Int) : Rat)))) n3
      have f3 : Fr K (upd H2 p3 (.tup (frV ((((ya : Nat) : Int) : Rat) / (((yb : Nat) : Int) : Rat))))) (.ref p3) (Krdh.rat ya yb) := fr_rat
      generalize upd H2 p3 (.tup (frV ((((ya : Nat) : Int) : Rat) / (((yb : Nat) : Int) : Rat)))) = H3 at e3 f3 ⊢
      have e03 := (e01.trans e2).trans e3
      have hd3 := hd.same e03
      have xx := rat_xat hx (f2.same e3)
      have sy := rat_sm hy
      refine ⟨_, rfl, _, rfl, _, rfl, pick g0 g1 g, d.t, g, _, _, _, Krdh.rat xa xb, Krdh.rat ya yb, rfl, hd3.pick hg, hd.ok.t, hpos.1, hpos.2, hT.ext e03, xx, f3, sy.mono (by decide), fun H4 e4 => ?_⟩
      have g04 : Grow T H H4 := (Same.grow e03).trans e4
      refine ⟨_, rfl, ?_⟩
      refine ifB (fun t => ?_) fun t => ?_
      · rw [if_pos t] at hact
        exact ⟨one_le, fun p np => ans_say hT g04 hA np hact rfl q⟩
      · rw [if_neg (by rw [t]; exact Bool.false_ne_true)] at hact
        have hcan := nF t
        have csm : ∀ r ∈ Krdh.chancesFor d.t g (Krdh.rat xa xb) (Krdh.rat ya yb), Sm 800 r := fun r hr => (chancesFor_sm hd.ok.t hpos.1 hpos.2 xx.nonneg hcan (rat_sm10 hx) (rat_sm10 hy) r hr).mono (by decide)
        have cln : (Krdh.chancesFor d.t g (Krdh.rat xa xb) (Krdh.rat ya yb)).length = d.t.k := chancesFor_length
        refine ⟨_, rfl, _, rfl, _, rfl, pick g0 g1 g, d.t, g, _, _, _, Krdh.rat xa xb, Krdh.rat ya yb, rfl, (hd.pick hg).grow g04, hd.ok.t, hpos.1, hpos.2, g04.tabs hT, xx.grow e4, f3.grow e4, sy.mono (by decide), hcan, fun pc H5 cs e5 npc hpc fc => ?_⟩
        have g05 := g04.trans e5
        have hP := (hd.pick hg).grow g05
        generalize Krdh.chancesFor d.t g (Krdh.rat xa xb) (Krdh.rat ya yb) = rs at hact csm cln fc
        refine ⟨_, rfl, _, CG, _, _, rfl, hP.ins, G.cl, G.nC, (by show 3 < 1000; decide), ?_⟩
        rw [gF_put]
        obtain ⟨g0', g1', hd6, _, _, chg, alv⟩ := chg_set hT hd g05 hg (New.pull g04 npc) hpc fc cln csm
        have hpc6 : upd H5 (pick g0 g1 g).p (.ins CG (pick g0 g1 g).dx (gF (pick g0 g1 g).aS (pick g0 g1 g).aN pc)) pc = some (.lst cs) := (upd_ne (ne_of hpc hP.ins (by intro z; cases z))).trans hpc
        have fc6 : Frs K (upd H5 (pick g0 g1 g).p (.ins CG (pick g0 g1 g).dx (gF (pick g0 g1 g).aS (pick g0 g1 g).aN pc))) cs rs := fc.upd hP.ins ins_tup ins_frz
        have hi6 : upd H5 (pick g0 g1 g).p (.ins CG (pick g0 g1 g).dx (gF (pick g0 g1 g).aS (pick g0 g1 g).aN pc)) (pick g0 g1 g).p = some (.ins CG (pick g0 g1 g).dx (gF (pick g0 g1 g).aS (pick g0 g1 g).aN pc)) := upd_same
        generalize upd H5 (pick g0 g1 g).p (.ins CG (pick g0 g1 g).dx (gF (pick g0 g1 g).aS (pick g0 g1 g).aN pc)) = H6 at hd6 chg alv hpc6 fc6 hi6 ⊢
        obtain ⟨dx6, ht6⟩ := hd6.ins
        refine ⟨_, rfl, a, CT, dx6, _, _, rfl, ht6, TT.cl, TT.nS, tF_scores, one_le, fun p0 n0 => ?_⟩
        have e7 := Same.new (o := .lst [V.int (d.t.k : Int)]) n0
        have h7 : upd H6 p0 (.lst [V.int (d.t.k : Int)]) p0 = some (.lst [V.int (d.t.k : Int)]) := upd_same
        show (tCall (spLaid K) [] E0 (tCons (tFld K (tVar 4) "chances") tNil)) _ (upd H6 p0 (.lst [V.int (d.t.k : Int)])) _
        generalize upd H6 p0 (.lst [V.int (d.t.k : Int)]) = H7 at e7 h7 ⊢
        have k4 := hd.ok.t.k4
        refine ⟨_, rfl, _, CG, _, _, _, rfl, e7 _ _ hi6, G.cl, G.nC, gF_ch, pc, cs, rs, rfl, SqL.of (e7 _ _ hpc6), fc6.same e7, by omega, fun p8 H8 e8 n8 h8 => ?_⟩
        refine ⟨p0, p8, _, _, rfl, rfl, e8 _ _ h7, h8, ?_, fun p np => ?_⟩
        · rw [zV_len, flatFr_len]
          show 1 + 2 * _ ≤ sizeLine
          exact Nat.le_trans (show 1 + 2 * rs.length ≤ 100 by omega) (by decide)
        · have e9 := Same.new (o := .lst ([V.int (d.t.k : Int)] ++ zV (rs.flatMap Krdf.fr))) np
          have e69 := (e7.trans e8).trans e9
          rw [show decReach [g, xa, xb, ya, yb] = .reach g xa xb ya yb from rfl, hact] at q
          refine q p _ (foot a aG g0' g1') ?_ ⟨aG, g0', g1', hd6.same e69, rfl⟩ upd_same (alv.new (e7.free (e8.free np)))
          rw [hF]
          exact chg.trans ((Same.grow e69).chg chg.tabs)
/-! ### take -/
def decTake (ns : List Nat) : Krdh.Call := .take_ (ns.getD 0 0) (ns.getD 1 0)
theorem scTake : FnScope ["table", "numbers", "refusal", "best", "group"] ["table", "numbers"] (defScope sAnswerTake) := ⟨rfl, rfl, rfl, by decide +kernel, rfl, by decide +kernel, by decide +kernel⟩
/-- the chances behind so many groups -/
def taken (c : List (List Rat)) (c0 c1 : List Rat) : Nat → List (List Rat)
  | 0 => c
  | 1 => c.set 0 c0
  | _ => (c.set 0 c0).set 1 c1
theorem taken_end {c : List (List Rat)} (h : c.length = 2) {c0 c1 : List Rat} : taken c c0 c1 2 = [c0, c1] := by
  match c, h with
  | [a, b], _ => rfl
theorem ok_answerTake (D : Has K mg "answer_take" sAnswerTake ["table", "numbers"]) (G : TxtG K mg CG) (TT : TxtT K mg CT) (RB : Kept P w K mg base 3 "refusal_of_both" ["table", "is_right"] (spRefB K CT CG)) (AG : Kept P w K mg base 1 "are_gain_and_loss" ["numbers"] (spAreGain K)) (BO : Kept P w K mg base 10 "best_of" ["groups", "gain", "loss"] (spBestOf K CG T)) (FO : Kept P w K mg base 7 "chances_for" ["group", "x", "y"] (spFor K CG T)) :
    Kept P w K mg base 11 "answer_take" ["table", "numbers"] (spAns K CT CG T shTwo decTake) := by
  refine D.kept scTake (fun vs H Q E h => ?_) (fun f cdv A outer s H vs Q E hr h => ⟨_, pss_cons (ps_set (i := 2) scTake.nd rfl (Or.inl rfl) (pe_def RB (hr.mono (by decide)) rfl (pa_cons (pv 0) (pa_cons (pe_def AG (hr.mono (by decide)) rfl (pa_cons (pv 1) pa_nil)) pa_nil))))
    (pss_cons (ps_if (pt_cmpR op_ne (pv 2) (pe_num rfl TT.notRefused) (nomark _)) (pss_one (ps_ret (pe_lst (pa_cons (pv 2) pa_nil)))) pss_nil)
    (pss_cons (ps_set (i := 3) scTake.nd rfl (Or.inl rfl) (pe_def BO hr rfl (pa_cons (pe_fld (pv 0) rfl) (pa_cons (pe_ix ix_list (pv 1) pe_int (fun _ _ => rfl)) (pa_cons (pe_ix ix_list (pv 1) pe_int (fun _ _ => rfl)) pa_nil)))))
    (pss_cons (ps_for PassesOwn.never rfl (pi_list (pe_fld (pv 0) rfl)) (pg_name (i := 4) scTake.nd rfl (Or.inl rfl))
      (pss_one (ps_fld (pv 4) (pe_def FO (hr.mono (by decide)) rfl (pa_cons (pv 4) (pa_cons (pe_ix ix_tup (pv 3) pe_int (fun _ _ => rfl)) (pa_cons (pe_ix ix_tup (pv 3) pe_int (fun _ _ => rfl)) pa_nil)))) rfl)))
    (pss_one (ps_ret (pe_lst (pa_cons pe_int pa_nil))))))), ?_⟩)
  · obtain ⟨_, _, _, _, _, rfl, _⟩ := h
    rfl
  · obtain ⟨a, F, d, b, ns, rfl, hA, hb, ⟨u, v, rfl⟩, hT, q⟩ := h
    obtain ⟨aG, g0, g1, hd, hF⟩ := id hA
    have hact := act_take (d := d) (u := u) (v := v)
    refine ⟨_, rfl, _, rfl, b, u, v, rfl, hb, a, aG, g0, g1, d, _, rfl, hd, fun H1 e1 => ?_⟩
    refine ⟨_, rfl, rfl, _, rfl, ?_⟩
    refine ifN (fun c => ?_) fun c => ?_
    · rw [if_neg (fun z => c (int_eq.mpr z))] at hact
      exact ⟨_, rfl, one_le, fun p np => ans_say hT (Same.grow e1) hA np hact rfl q⟩
    · have c := int_eq.mp c
      rw [if_pos c] at hact
      obtain ⟨hgain, hfull⟩ := refB_zero c
      have ff := full_of hd.ok.t hfull
      have hd1 := hd.same e1
      obtain ⟨dx, hi⟩ := hd1.ins
      have hb1 := e1.seq hb
      refine ⟨_, rfl, a, CT, dx, _, _, rfl, hi, TT.cl, TT.nG, tF_groups, _, rfl, b, _, 0, _, rfl, rfl, hb1, rfl, _, rfl, b, _, 1, _, rfl, rfl, hb1, rfl, aG, g0, g1, d.t, _, _, u, v, rfl, hd1.two, ff, (gain_le hgain).1, (gain_le hgain).2, hT.ext e1, fun tb H3 vx vy vw x e3 htb hbest ix fx fy fw => ?_⟩
      rw [hbest] at hact
      have g03 : Grow T H H3 := (Same.grow e1).trans e3
      have hd3 := hd.grow g03
      obtain ⟨dx3, hi3⟩ := hd3.ins
      obtain ⟨can0, can1⟩ := least_can ff ix.ge ix.le
      have sy : Sm 236 (Krdh.least d.t x) := least_sm ff ix
      have csm : ∀ gi, gi < 2 → ∀ r ∈ Krdh.chancesFor d.t gi x (Krdh.least d.t x), Sm 800 r := fun gi hg r hr => by
        rcases (show gi = 0 ∨ gi = 1 by omega) with rfl | rfl
        · exact (chancesFor_sm hd.ok.t ff.y0 ff.n0 ix.ge can0 ix.den sy.2 r hr).mono (by decide)
        · exact (chancesFor_sm hd.ok.t ff.y1 ff.n1 ix.ge can1 ix.den sy.2 r hr).mono (by decide)
      have cln : ∀ gi, (Krdh.chancesFor d.t gi x (Krdh.least d.t x)).length = d.t.k := fun gi => chancesFor_length
      refine ⟨_, rfl, a, CT, dx3, _, _, rfl, hi3, TT.cl, TT.nG, tF_groups, aG, rfl, ⟨_, SqL.of hd3.grp⟩, for_list (K := K) (a := aG) (xs := [V.ref g0.p, V.ref g1.p])
        (fun i σ H' => ∃ (o4 : Option V) (g0' g1' : GA), σ = [some (.ref a), some (.ref b), some (.int (refB d.t (gainOk u v))), some (.ref tb), o4] ∧ DeskAt K CT CG H' a aG g0' g1' { d with chances := taken d.chances (Krdh.chancesFor d.t 0 x (Krdh.least d.t x)) (Krdh.chancesFor d.t 1 x (Krdh.least d.t x)) i } ∧ g0'.p = g0.p ∧ g1'.p = g1.p ∧ Chg T H F H' (foot a aG g0' g1') ∧ Alive H H' ∧ H' tb = some (.tup [vx, vy, vw]) ∧ Fr K H' vx x ∧ Fr K H' vy (Krdh.least d.t x))
        ⟨none, g0, g1, rfl, hd3, rfl, rfl, by rw [hF]; exact g03.chg hT, g03.alive, htb, fx, fy⟩ (fun i σ H' _ ⟨_, _, _, _, hd', p0, p1, _⟩ => by
          have := hd'.grp
          rw [p0, p1] at this
          exact SqL.of this) ?_ ?_⟩
      · have turn : ∀ (gi : Nat) (hg : gi < 2) (H' : Hp) (g0' g1' : GA) (ch : List (List Rat)) (pg : Addr), (pick g0' g1' gi).p = pg → Krdh.can d.t gi x (Krdh.least d.t x) = true → 0 < d.t.yes gi → 0 < d.t.no gi → DeskAt K CT CG H' a aG g0' g1' { d with chances := ch } → g0'.p = g0.p → g1'.p = g1.p → Chg T H F H' (foot a aG g0' g1') → Alive H H' → H' tb = some (.tup [vx, vy, vw]) → Fr K H' vx x → Fr K H' vy (Krdh.least d.t x) →
            spFor K CG T [.ref pg, vx, vy] H' (fun v4 H4 => ∃ pc, v4 = .ref pc ∧ H4 pg = some (.ins CG (pick g0' g1' gi).dx (gF (pick g0' g1' gi).aS (pick g0' g1' gi).aN (pick g0' g1' gi).aC)) ∧ ∃ g0'' g1'', DeskAt K CT CG (upd H4 pg (.ins CG (pick g0' g1' gi).dx (gF (pick g0' g1' gi).aS (pick g0' g1' gi).aN pc))) a aG g0'' g1'' { d with chances := ch.set gi (Krdh.chancesFor d.t gi x (Krdh.least d.t x)) } ∧ g0''.p = g0.p ∧ g1''.p = g1.p ∧
              Chg T H F (upd H4 pg (.ins CG (pick g0' g1' gi).dx (gF (pick g0' g1' gi).aS (pick g0' g1' gi).aN pc))) (foot a aG g0'' g1'') ∧ Alive H (upd H4 pg (.ins CG (pick g0' g1' gi).dx (gF (pick g0' g1' gi).aS (pick g0' g1' gi).aN pc))) ∧ (upd H4 pg (.ins CG (pick g0' g1' gi).dx (gF (pick g0' g1' gi).aS (pick g0' g1' gi).aN pc))) tb = some (.tup [vx, vy, vw]) ∧ Fr K (upd H4 pg (.ins CG (pick g0' g1' gi).dx (gF (pick g0' g1' gi).aS (pick g0' g1' gi).aN pc))) vx x ∧ Fr K (upd H4 pg (.ins CG (pick g0' g1' gi).dx (gF (pick g0' g1' gi).aS (pick g0' g1' gi).aN pc))) vy (Krdh.least d.t x)) E0 := by
          intro gi hg H' g0' g1' ch pg hpg hcan hy hn hd' p0 p1 chg alv ht' fx' fy'
          subst hpg
          refine ⟨pick g0' g1' gi, d.t, gi, _, vx, vy, x, Krdh.least d.t x, rfl, hd'.pick hg, hd.ok.t, hy, hn, chg.tabs, ix.xat (by decide) fx', fy', sy.mono (by decide), hcan, fun pc H4 cs e4 npc hpc fc => ?_⟩
          have hP := (hd'.pick hg).grow e4
          obtain ⟨g0'', g1'', hd5, q0, q1, chg5, alv5⟩ := chg_set chg.tabs hd' e4 hg npc hpc fc (cln gi) (csm gi hg)
          refine ⟨pc, rfl, hP.ins, g0'', g1'', hd5, q0.trans p0, q1.trans p1, chg.trans chg5, alv.trans alv5, ?_, (fx'.grow e4).upd hP.ins ins_tup ins_frz, (fy'.grow e4).upd hP.ins ins_tup ins_frz⟩
          have ht4 := e4.at ht' (fun _ z => by cases z)
          exact (upd_ne (ne_of ht4 hP.ins (by intro z; cases z))).trans ht4
        rintro i vg σ H' hi' ⟨o4, g0', g1', rfl, hd', p0, p1, chg, alv, ht', fx', fy'⟩
        match i, hi' with
        | 0, hi' =>
          cases hi'
          refine ⟨_, rfl, _, rfl, tb, _, 0, _, rfl, rfl, SqT.of ht', rfl, _, rfl, tb, _, 1, _, rfl, rfl, SqT.of ht', rfl, ?_⟩
          obtain ⟨gg, tt, gi, ch, ux, uy, xx, yy, w1, w2, w3, w4, w5, w6, w7, w8, w9, w10, wq⟩ := turn 0 (by decide) H' g0' g1' _ g0.p p0 can0 ff.y0 ff.n0 hd' p0 p1 chg alv ht' fx' fy'
          refine ⟨gg, tt, gi, ch, ux, uy, xx, yy, w1, w2, w3, w4, w5, w6, w7, w8, w9, w10, fun pz H4 cs z1 z2 z3 z4 => ?_⟩
          obtain ⟨pc, ep, hins, g0'', g1'', hd5, q0, q1, chg5, alv5, ht5, fx5, fy5⟩ := wq pz H4 cs z1 z2 z3 z4
          cases ep
          refine ⟨_, rfl, _, CG, _, _, rfl, hins, G.cl, G.nC, (by show 3 < 1000; decide), ?_⟩
          rw [gF_put]
          exact ⟨_, g0'', g1'', rfl, hd5, q0, q1, chg5, alv5, ht5, fx5, fy5⟩
        | 1, hi' =>
          cases hi'
          refine ⟨_, rfl, _, rfl, tb, _, 0, _, rfl, rfl, SqT.of ht', rfl, _, rfl, tb, _, 1, _, rfl, rfl, SqT.of ht', rfl, ?_⟩
          obtain ⟨gg, tt, gi, ch, ux, uy, xx, yy, w1, w2, w3, w4, w5, w6, w7, w8, w9, w10, wq⟩ := turn 1 (by decide) H' g0' g1' _ g1.p p1 can1 ff.y1 ff.n1 hd' p0 p1 chg alv ht' fx' fy'
          refine ⟨gg, tt, gi, ch, ux, uy, xx, yy, w1, w2, w3, w4, w5, w6, w7, w8, w9, w10, fun pz H4 cs z1 z2 z3 z4 => ?_⟩
          obtain ⟨pc, ep, hins, g0'', g1'', hd5, q0, q1, chg5, alv5, ht5, fx5, fy5⟩ := wq pz H4 cs z1 z2 z3 z4
          cases ep
          refine ⟨_, rfl, _, CG, _, _, rfl, hins, G.cl, G.nC, (by show 3 < 1000; decide), ?_⟩
          rw [gF_put]
          exact ⟨_, g0'', g1'', rfl, hd5, q0, q1, chg5, alv5, ht5, fx5, fy5⟩
      · rintro σ H' ⟨o4, g0', g1', rfl, hd', p0, p1, chg, alv, ht', fx', fy'⟩
        have hd' : DeskAt K CT CG H' a aG g0' g1' { d with chances := taken d.chances (Krdh.chancesFor d.t 0 x (Krdh.least d.t x)) (Krdh.chancesFor d.t 1 x (Krdh.least d.t x)) 2 } := hd'
        rw [taken_end hd.ok.h2] at hd'
        refine ⟨one_le, fun p np => ?_⟩
        have e9 := Same.new (o := .lst [V.int 0]) np
        rw [show decTake [u, v] = .take_ u v from rfl, hact] at q
        exact q p _ (foot a aG g0' g1') (chg.trans ((Same.grow e9).chg chg.tabs)) ⟨aG, g0', g1', hd'.same e9, rfl⟩ upd_same (alv.new np)
end
end My

namespace My
/-! ### one list of numbers as calls, in plain Lean -/
def zs (l : List Nat) : List Int := l.map fun (n : Nat) => (n : Int)
/-- how many numbers stand behind a call's own, ahead of a row's -/
def sizes : List Nat := [1, 4, 2, 1, 3, 1, 3, 3, 5, 5, 4, 1, 2, 2, 0]
def size (p : Nat) : Nat := sizes.getD p 0
/-- how many numbers stand behind a call's own, the row's too -/
def extent (p : Nat) (r : List Nat) : Nat := size p + (if p = 4 then r.getD 2 0 else 0)
/-- the numbers ns of a call p are such as it has -/
def ShapeOk (p : Nat) (ns : List Nat) : Prop := p ≤ 14 ∧ if p = 4 then ∃ g b l, ns = g :: b :: l.length :: l ∧ l.length ≤ 255 else ns.length = size p
def Dec (p : Nat) (ns : List Nat) : Krdh.Call := match p with
  | 0 => .begin_ (ns.getD 0 0)
  | 1 => .count (ns.getD 0 0) (ns.getD 1 0) (ns.getD 2 0) (ns.getD 3 0)
  | 2 => .cell (ns.getD 0 0) (ns.getD 1 0)
  | 3 => .people (ns.getD 0 0)
  | 4 => .chances (ns.getD 0 0) (ns.getD 1 0) (ns.drop 3)
  | 5 => .point (ns.getD 0 0)
  | 6 => .upper (ns.getD 0 0) (ns.getD 1 0) (ns.getD 2 0)
  | 7 => .lower (ns.getD 0 0) (ns.getD 1 0) (ns.getD 2 0)
  | 8 => .can (ns.getD 0 0) (ns.getD 1 0) (ns.getD 2 0) (ns.getD 3 0) (ns.getD 4 0)
  | 9 => .reach (ns.getD 0 0) (ns.getD 1 0) (ns.getD 2 0) (ns.getD 3 0) (ns.getD 4 0)
  | 10 => .both (ns.getD 0 0) (ns.getD 1 0) (ns.getD 2 0) (ns.getD 3 0)
  | 11 => .corners (ns.getD 0 0)
  | 12 => .best (ns.getD 0 0) (ns.getD 1 0)
  | 13 => .take_ (ns.getD 0 0) (ns.getD 1 0)
  | _ => .state
theorem whole_id (c : List (List Int)) : PyKrdh.whole c = c := by
  unfold PyKrdh.whole
  split <;> rfl
/-- a call's shape, by its number -/
theorem shape_nat (p : Nat) : PyKrdh.shape (p : Int) = if p = 4 then some (2, 1) else if p ≤ 14 then some (size p, 0) else none := by
  by_cases h : p ≤ 14
  · have : p = 0 ∨ p = 1 ∨ p = 2 ∨ p = 3 ∨ p = 4 ∨ p = 5 ∨ p = 6 ∨ p = 7 ∨ p = 8 ∨ p = 9 ∨ p = 10 ∨ p = 11 ∨ p = 12 ∨ p = 13 ∨ p = 14 := by omega
    rcases this with rfl | rfl | rfl | rfl | rfl | rfl | rfl | rfl | rfl | rfl | rfl | rfl | rfl | rfl | rfl <;> decide
  · rw [if_neg (by omega), if_neg h]
    unfold PyKrdh.shape
    repeat rw [if_neg (by omega)]
theorem zs_take (r : List Nat) (n : Nat) : (zs r).take n = zs (r.take n) := by
  unfold zs
  rw [List.map_take]
theorem zs_drop (r : List Nat) (n : Nat) : (zs r).drop n = zs (r.drop n) := by
  unfold zs
  rw [List.map_drop]
theorem zs_length (r : List Nat) : (zs r).length = r.length := List.length_map ..
theorem zs_getD (r : List Nat) (i : Nat) : ((zs r).getD i 0).toNat = r.getD i 0 := by
  unfold zs
  rw [List.getD_eq_getElem?_getD, List.getD_eq_getElem?_getD, List.getElem?_map]
  cases r[i]? with
  | none => rfl
  | some n => rfl
theorem zs_toNat (r : List Nat) : (zs r).map Int.toNat = r := by
  unfold zs
  rw [List.map_map]
  conv => rhs; rw [← List.map_id r]
  rfl
/-- one call read off -/
theorem call_read {p : Nat} {r : List Nat} {c : List (List Int)} {t : List Int} (h : PyFlat.call PyKrdh.shape ((p : Int) :: zs r) = some (c, t)) :
    p ≤ 14 ∧ extent p r ≤ r.length ∧ t = zs (r.drop (extent p r)) ∧ KrdhNeutral.call c = Dec p (r.take (extent p r)) ∧ (KrdhNeutral.asked1 c = true → ShapeOk p (r.take (extent p r))) := by
  have h : (match PyKrdh.shape (p : Int) with | none => none | some (n, k) => if (zs r).length < n then none else match PyFlat.rows k ((zs r).drop n) with | none => none | some (xs, t) => some (((p : Int) :: (zs r).take n) :: xs, t)) = some (c, t) := h
  rw [shape_nat] at h
  by_cases h4 : p = 4
  · subst h4
    rw [if_pos rfl] at h
    simp only [zs_length] at h
    by_cases hl : r.length < 2
    · rw [if_pos hl] at h
      cases h
    · rw [if_neg hl] at h
      match r, hl with
      | g :: b :: rest, _ =>
        have h : (match PyFlat.rows 1 (zs rest) with | none => none | some (xs, t) => some (([(4 : Int), (g : Int), (b : Int)]) :: xs, t)) = some (c, t) := h
        match rest with
        | [] => cases h
        | m :: rest =>
          by_cases hm : 0 ≤ (m : Int) ∧ (m : Int).toNat ≤ (zs rest).length
          · have e : PyFlat.rows 1 (zs (m :: rest)) = some ([(zs rest).take (m : Int).toNat], (zs rest).drop (m : Int).toNat) := by
              show (match (if 0 ≤ (m : Int) ∧ (m : Int).toNat ≤ (zs rest).length then some ((zs rest).take (m : Int).toNat, (zs rest).drop (m : Int).toNat) else none) with | none => none | some (x, s) => match PyFlat.rows 0 s with | none => none | some (xs, t) => some (x :: xs, t)) = _
              rw [if_pos hm]
              rfl
            rw [e] at h
            have hmn : (m : Int).toNat = m := by omega
            rw [hmn, zs_take, zs_drop] at h
            rw [hmn, zs_length] at hm
            injection h with h
            injection h with h1 h2
            subst h1
            subst h2
            have ex : extent 4 (g :: b :: m :: rest) = 3 + m := rfl
            have tk : (g :: b :: m :: rest).take (3 + m) = g :: b :: m :: rest.take m := by
              rw [Nat.add_comm]
              rfl
            have dk : (g :: b :: m :: rest).drop (3 + m) = rest.drop m := by
              rw [Nat.add_comm]
              rfl
            have lm : (rest.take m).length = m := by rw [List.length_take]; omega
            rw [ex, tk, dk]
            refine ⟨by decide, by simp; omega, rfl, ?_, fun ha => ⟨by decide, ?_⟩⟩
            · show Krdh.Call.chances ((g : Int)).toNat ((b : Int)).toNat ((zs (rest.take m)).map Int.toNat) = Krdh.Call.chances g b (rest.take m)
              rw [zs_toNat]
              rfl
            · rw [if_pos rfl]
              have ha : (KrdhNeutral.natural (g : Int) 32 && KrdhNeutral.natural (b : Int) 32 && (zs (rest.take m)).all (fun (z : Int) => KrdhNeutral.natural z 32) && decide ((zs (rest.take m)).length < 256)) = true := ha
              rw [Bool.and_eq_true] at ha
              have := of_decide_eq_true ha.2
              rw [zs_length] at this
              exact ⟨g, b, rest.take m, by rw [lm], by omega⟩
          · have e : PyFlat.rows 1 (zs (m :: rest)) = none := by
              show (match (if 0 ≤ (m : Int) ∧ (m : Int).toNat ≤ (zs rest).length then some ((zs rest).take (m : Int).toNat, (zs rest).drop (m : Int).toNat) else none) with | none => none | some (x, s) => match PyFlat.rows 0 s with | none => none | some (xs, t) => some (x :: xs, t)) = _
              rw [if_neg hm]
            rw [e] at h
            cases h
  · rw [if_neg h4] at h
    by_cases h14 : p ≤ 14
    · rw [if_pos h14] at h
      simp only [zs_length] at h
      by_cases hl : r.length < size p
      · rw [if_pos hl] at h
        cases h
      · rw [if_neg hl] at h
        have h : some (((p : Int) :: (zs r).take (size p)) :: [], (zs r).drop (size p)) = some (c, t) := h
        rw [zs_take, zs_drop] at h
        injection h with h
        injection h with h1 h2
        subst h1
        subst h2
        have ex : extent p r = size p := by
          unfold extent
          rw [if_neg h4]
          rfl
        rw [ex]
        refine ⟨h14, by omega, rfl, ?_, fun _ => ⟨h14, ?_⟩⟩
        · have g : ∀ i, KrdhNeutral.n [(p : Int) :: zs (r.take (size p))] (i + 1) = (r.take (size p)).getD i 0 := fun i => zs_getD _ i
          generalize r.take (size p) = q at g ⊢
          have this : p = 0 ∨ p = 1 ∨ p = 2 ∨ p = 3 ∨ p = 5 ∨ p = 6 ∨ p = 7 ∨ p = 8 ∨ p = 9 ∨ p = 10 ∨ p = 11 ∨ p = 12 ∨ p = 13 ∨ p = 14 := by omega
          rcases this with rfl | rfl | rfl | rfl | rfl | rfl | rfl | rfl | rfl | rfl | rfl | rfl | rfl | rfl
          · show Krdh.Call.begin_ _ = _; rw [g]; rfl
          · show Krdh.Call.count _ _ _ _ = _; rw [g, g, g, g]; rfl
          · show Krdh.Call.cell _ _ = _; rw [g, g]; rfl
          · show Krdh.Call.people _ = _; rw [g]; rfl
          · show Krdh.Call.point _ = _; rw [g]; rfl
          · show Krdh.Call.upper _ _ _ = _; rw [g, g, g]; rfl
          · show Krdh.Call.lower _ _ _ = _; rw [g, g, g]; rfl
          · show Krdh.Call.can _ _ _ _ _ = _; rw [g, g, g, g, g]; rfl
          · show Krdh.Call.reach _ _ _ _ _ = _; rw [g, g, g, g, g]; rfl
          · show Krdh.Call.both _ _ _ _ = _; rw [g, g, g, g]; rfl
          · show Krdh.Call.corners _ = _; rw [g]; rfl
          · show Krdh.Call.best _ _ = _; rw [g, g]; rfl
          · show Krdh.Call.take_ _ _ = _; rw [g, g]; rfl
          · rfl
        · rw [if_neg h4, List.length_take]
          omega
    · rw [if_neg h14] at h
      cases h
/-- calls read off: the first one, and the rest -/
theorem calls_read {f p : Nat} {r : List Nat} {cs : List (List (List Int))} (h : PyFlat.calls PyKrdh.shape f ((p : Int) :: zs r) = some cs) :
    ∃ f' c cs', cs = c :: cs' ∧ PyFlat.calls PyKrdh.shape f' (zs (r.drop (extent p r))) = some cs' ∧ p ≤ 14 ∧ extent p r ≤ r.length ∧ KrdhNeutral.call c = Dec p (r.take (extent p r)) ∧ (KrdhNeutral.asked1 c = true → ShapeOk p (r.take (extent p r))) := by
  cases f with
  | zero => cases h
  | succ f =>
    unfold PyFlat.calls at h
    split at h
    · cases h
    · rename_i c t hc
      split at h
      · cases h
      · rename_i cs' hcs
        injection h with h
        obtain ⟨h1, h2, rfl, h4, h5⟩ := call_read hc
        exact ⟨f, c, cs', h.symm, hcs, h1, h2, h4, h5⟩
theorem calls_nil {f : Nat} {cs : List (List (List Int))} (h : PyFlat.calls PyKrdh.shape f [] = some cs) : cs = [] := by
  cases f with
  | zero =>
    injection h with h
    exact h.symm
  | succ f =>
    injection h with h
    exact h.symm
end My

namespace My
open PySem PySem.Spec PyProof.Rows L2 LamX NdefX
/-! ### promises by the calls' numbers -/
def spP (K : PySem.W.Frag) (CT CG : Addr) (T : List (Addr × Str)) (p : Nat) : Sp := if p = 0 then spBegin K CT CG T (ShapeOk 0) (Dec 0) else spAns K CT CG T (ShapeOk p) (Dec p)
theorem Kept.imp {P : Program} {w : World} {K : PySem.W.Frag} {mg : Str → Option Value} {base : Heap} {k : Nat} {x : Str} {ps : List Str} {sp sp' : Sp} (D : Kept P w K mg base k x ps sp) (h : ∀ vs H Q E, sp' vs H Q E → sp vs H Q E) : Kept P w K mg base k x ps sp' :=
  match D with
  | ⟨f, fd, F, m, kp, b⟩ => ⟨f, fd, ⟨fun vs H Q E q => F.len vs H Q E (h _ _ _ _ q), fun A outer s H args us vs Q E hr e0 hb r q => F.run A outer s H args us vs Q E hr e0 hb r (h _ _ _ _ q)⟩, m, kp, b⟩
/-- the defs that answer, and the tables that tell of them -/
structure TxtA (K : PySem.W.Frag) (mg : Str → Option Value) (aA aS : Addr) (fs : List Addr) : Prop where
  gA : mg "ANSWERING" = some (.ref aA)
  gS : mg "SIZES" = some (.ref aS)
  ans : ∀ H, SqT K H aA (fs.map V.ref)
  szs : ∀ H, SqT K H aS (nV sizes)
  n15 : fs.length = 15
  begin_ : ∃ t, mg "BEGIN" = some (.int 0 t)
  chances : ∃ t, mg "CHANCES" = some (.int 4 t)
section
variable {P : Program} {w : World} {K : PySem.W.Frag} {mg : Str → Option Value} {base : Heap} {CT CG aZ aO aA aS : Addr} {T : List (Addr × Str)} {fs : List Addr}
def AnsG (K : PySem.W.Frag) (CT CG : Addr) (T : List (Addr × Str)) (fs : List Addr) (f : Addr) (sp : Sp) : Prop := ∃ p, fs[p]? = some f ∧ sp = spP K CT CG T p
/-! ### answer_call -/
def spCall (K : PySem.W.Frag) (CT CG : Addr) (T : List (Addr × Str)) : Sp := fun vs H Q _ => ∃ (a : Addr) (F : List Addr) (x : Krdh.Abs) (b p : Nat) (ns : List Nat), vs = [.ref a, .int p, .ref b] ∧ TableAt K CT CG H a F x ∧ SqL K H b (nV ns) ∧ ShapeOk p ns ∧ Tabs T H ∧
  ∀ (r : Addr) (H' : Hp) (F' : List Addr), Chg T H F H' F' → TableAt K CT CG H' a F' (Krdh.act x (Dec p ns)).1 → H' r = some (.lst (zV (KrdhNeutral.told (Krdh.act x (Dec p ns)).2))) → New H r → Q (.ref r) H'
theorem scCall : FnScope ["table", "number", "numbers"] ["table", "number", "numbers"] (defScope sAnswerCall) := ⟨rfl, rfl, rfl, by decide +kernel, rfl, by decide +kernel, by decide +kernel⟩
theorem act_none {p : Nat} {ns : List Nat} (h0 : p ≠ 0) (h : p ≤ 14) : Krdh.act none (Dec p ns) = (none, Krdf.say (-11)) := by
  have this : p = 1 ∨ p = 2 ∨ p = 3 ∨ p = 4 ∨ p = 5 ∨ p = 6 ∨ p = 7 ∨ p = 8 ∨ p = 9 ∨ p = 10 ∨ p = 11 ∨ p = 12 ∨ p = 13 ∨ p = 14 := by omega
  rcases this with rfl | rfl | rfl | rfl | rfl | rfl | rfl | rfl | rfl | rfl | rfl | rfl | rfl | rfl <;> rfl
theorem ok_call {k : Nat} (D : Has K mg "answer_call" sAnswerCall ["table", "number", "numbers"]) (TT : TxtT K mg CT) (TA : TxtA K mg aA aS fs) (HB : ∀ f sp, AnsG K CT CG T fs f sp → Held P w K mg base k f sp) : Kept P w K mg base (k + 1) "answer_call" ["table", "number", "numbers"] (spCall K CT CG T) := by
  refine D.kept scCall (fun vs H Q E h => ?_) (fun f cdv A outer s H vs Q E hr h => ⟨_, pss_cons (ps_if (PW.pt (pw_and (pt_cmpR op_ne (pv 1) (pe_num rfl TA.begin_) (nomark _)) (pw_and1 (pt_cmpR op_eq (pe_fld (pv 0) rfl) pe_int (nomark _))))) (pss_one (ps_ret (pe_lst (pa_cons (pe_num rfl TT.notBegun) pa_nil)))) pss_nil)
    (pss_one (ps_ret (pe_callX HB hr (pe_ix ix_tup (pe_ref rfl TA.gA) (pv 1) (fun _ _ => rfl)) (pa_cons (pv 0) (pa_cons (pv 2) pa_nil))))), ?_⟩)
  · obtain ⟨_, _, _, _, _, _, rfl, _⟩ := h
    rfl
  · obtain ⟨a, F, x, b, p, ns, rfl, hA, hb, hS, hT, q⟩ := h
    have p14 := hS.1
    obtain ⟨fp, hfp⟩ : ∃ fp, fs[p]? = some fp := ⟨fs[p]'(by rw [TA.n15]; omega), List.getElem?_eq_getElem (by rw [TA.n15]; omega)⟩
    have hat : atI (fs.map V.ref) (p : Int) = some (.ref fp) := atI_nat (by rw [List.getElem?_map, hfp]; rfl)
    refine ⟨_, rfl, rfl, _, rfl, ?_⟩
    refine ifN (fun c => ?_) fun c => ?_
    · have p0 : p ≠ 0 := fun z => c (by rw [z]; rfl)
      cases x with
      | none =>
        obtain ⟨dx, aG, ⟨hi, hg⟩, hF⟩ := id hA
        refine ⟨_, rfl, a, CT, dx, _, _, rfl, hi, TT.cl, TT.nS, tF_scores, rfl, _, rfl, ?_⟩
        refine ifT (decide_eq_true rfl) ⟨one_le, fun r nr => ?_⟩
        exact ans_say hT (Same.grow (Same.refl H)) hA nr (act_none p0 p14) rfl q
      | some d =>
        obtain ⟨aG, g0, g1, hd, hF⟩ := id hA
        obtain ⟨dx, hi⟩ := hd.ins
        have k1 := hd.ok.k1
        refine ⟨_, rfl, a, CT, dx, _, _, rfl, hi, TT.cl, TT.nS, tF_scores, rfl, _, rfl, ?_⟩
        refine ifF (decide_eq_false fun z => by have := int_eq.mp z; omega) ?_
        refine ⟨_, rfl, aA, _, _, _, rfl, rfl, TA.ans H, hat, fp, _, rfl, ⟨p, hfp, rfl⟩, _, rfl, _, rfl, ?_⟩
        show spP K CT CG T p _ _ _ _
        unfold spP
        rw [if_neg p0]
        exact ⟨a, F, d, b, ns, rfl, hA, hb, hS, hT, q⟩
    · have p0 : p = 0 := by
        have := int_eq.mp c
        omega
      subst p0
      refine iteF ?_
      refine ⟨_, rfl, aA, _, _, _, rfl, rfl, TA.ans H, hat, fp, _, rfl, ⟨0, hfp, rfl⟩, _, rfl, _, rfl, ?_⟩
      exact ⟨a, F, x, b, ns, rfl, hA, hb, hS, hT, q⟩
/-! ### end_of_call -/
def spEnd (K : PySem.W.Frag) : Sp := fun vs H Q _ => ∃ (b : Addr) (l : List Nat) (i p : Nat) (r : List Nat), vs = [.ref b, .int i] ∧ SqL K H b (nV l) ∧ l.drop i = p :: r ∧ p ≤ 14 ∧ extent p r ≤ r.length ∧ Q (.int ((i + 1 + extent p r : Nat) : Int)) H
theorem scEnd : FnScope ["calls", "start", "number", "end"] ["calls", "start"] (defScope sEndOfCall) := ⟨rfl, rfl, rfl, by decide +kernel, rfl, by decide +kernel, by decide +kernel⟩
theorem drop_at {l : List Nat} {i p : Nat} {r : List Nat} (h : l.drop i = p :: r) : l[i]? = some p ∧ ∀ j, l[i + 1 + j]? = r[j]? := by
  have h1 : ∀ j, l[i + j]? = (p :: r)[j]? := fun j => by rw [← h, List.getElem?_drop]
  refine ⟨by simpa using h1 0, fun j => ?_⟩
  have := h1 (j + 1)
  rw [show i + 1 + j = i + (j + 1) by omega, this]
  rfl
theorem ok_end (D : Has K mg "end_of_call" sEndOfCall ["calls", "start"]) (TA : TxtA K mg aA aS fs) : Kept P w K mg base 1 "end_of_call" ["calls", "start"] (spEnd K) := by
  refine D.kept scEnd (fun vs H Q E h => ?_) (fun f cdv A outer s H vs Q E hr h => ⟨_, pss_cons (ps_set (i := 2) scEnd.nd rfl (Or.inl rfl) (pe_ix ix_list (pv 0) (pv 1) (fun _ _ => rfl)))
    (pss_cons (ps_set (i := 3) scEnd.nd rfl (Or.inl rfl) (pe_op op_add (pe_op op_add (pv 1) pe_int) (pe_ix ix_tup (pe_ref rfl TA.gS) (pv 2) (fun _ _ => rfl))))
    (pss_cons (ps_if (pt_cmpR op_eq (pv 2) (pe_num rfl TA.chances) (nomark _)) (pss_one (ps_set (i := 3) scEnd.nd rfl (Or.inl rfl) (pe_op op_add (pv 3) (pe_ix ix_list (pv 0) (pe_op op_sub (pv 3) pe_int) (fun _ _ => rfl))))) pss_nil)
    (pss_one (ps_ret (pv 3))))), ?_⟩)
  · obtain ⟨_, _, _, _, _, rfl, _⟩ := h
    rfl
  · obtain ⟨b, l, i, p, r, rfl, hb, hd, p14, hx, q⟩ := h
    obtain ⟨h0, hj⟩ := drop_at hd
    have hsz : sizes[p]? = some (size p) := by
      unfold size
      have hl : p < sizes.length := by show p < 15; omega
      rw [List.getD_eq_getElem?_getD, List.getElem?_eq_getElem hl]
      rfl
    refine ⟨_, rfl, _, rfl, b, _, _, _, rfl, rfl, hb, nV_at' h0, _, rfl, _, _, rfl, rfl, _, rfl, aS, _, _, _, rfl, rfl, TA.szs H, nV_at' hsz, _, _, rfl, rfl, _, rfl, rfl, _, rfl, ?_⟩
    refine ifD (fun c => ?_) fun c => ?_
    · have p4 : p = 4 := by
        have := int_eq.mp c
        omega
      subst p4
      have hlen : 3 ≤ r.length := by
        have : extent 4 r = 3 + r.getD 2 0 := rfl
        omega
      obtain ⟨m, hm⟩ : ∃ m, r[2]? = some m := ⟨r[2], List.getElem?_eq_getElem (by omega)⟩
      have ex : extent 4 r = 3 + m := by
        show 3 + r.getD 2 0 = 3 + m
        rw [List.getD_eq_getElem?_getD, hm]
        rfl
      have hl3 : l[i + 3]? = some m := by
        rw [show i + 3 = i + 1 + 2 by omega, hj 2]
        exact hm
      refine ⟨_, rfl, _, rfl, _, rfl, _, _, rfl, rfl, b, _, _, V.int (m : Int), rfl, rfl, hb, ?_, _, _, rfl, rfl, _, rfl, ?_⟩
      · show atI (nV l) ((i : Int) + 1 + ((size 4 : Nat) : Int) - 1) = _
        have e : (i : Int) + 1 + ((size 4 : Nat) : Int) - 1 = ((i + 3 : Nat) : Int) := by
          show (i : Int) + 1 + ((3 : Nat) : Int) - 1 = ((i + 3 : Nat) : Int)
          omega
        rw [e]
        exact nV_at' hl3
      · rw [ex] at q
        have e : ((i + 1 + (3 + m) : Nat) : Int) = (i : Int) + 1 + ((size 4 : Nat) : Int) + (m : Int) := by
          show ((i + 1 + (3 + m) : Nat) : Int) = (i : Int) + 1 + ((3 : Nat) : Int) + (m : Int)
          omega
        rw [e] at q
        exact q
    · have p4 : p ≠ 4 := fun z => c (by rw [z]; rfl)
      have ex : extent p r = size p := by
        unfold extent
        rw [if_neg p4]
        rfl
      rw [ex] at q
      have e : ((i + 1 + size p : Nat) : Int) = (i : Int) + 1 + ((size p : Nat) : Int) := by omega
      rw [e] at q
      exact ⟨_, rfl, q⟩
end
end My

namespace My
open PySem PySem.Spec PyProof.Rows L2 LamX NdefX
/-! ### the table beside a list that is none of its own -/
theorem TableAt.same {K : PySem.W.Frag} {CT CG : Addr} {H H' : Hp} {a : Addr} {F : List Addr} {x : Krdh.Abs} (h : TableAt K CT CG H a F x) (e : Same H H') : TableAt K CT CG H' a F x := by
  cases x with
  | none =>
    obtain ⟨dx, aG, ⟨h1, h2⟩, hF⟩ := h
    exact ⟨dx, aG, ⟨e _ _ h1, e _ _ h2⟩, hF⟩
  | some d =>
    obtain ⟨aG, g0, g1, hd, hF⟩ := h
    exact ⟨aG, g0, g1, hd.same e, hF⟩
theorem TableAt.upd {K : PySem.W.Frag} {CT CG : Addr} {H : Hp} {a q : Addr} {F : List Addr} {x : Krdh.Abs} {xs : List V} {o' : HO} (h : TableAt K CT CG H a F x) (hq : H q = some (.lst xs)) (nq : q ∉ F) : TableAt K CT CG (upd H q o') a F x := by
  cases x with
  | none =>
    obtain ⟨dx, aG, ⟨h1, h2⟩, rfl⟩ := h
    exact ⟨dx, aG, ⟨by rw [upd_ne (fun z => nq (by rw [← z]; simp))]; exact h1, by rw [upd_ne (fun z => nq (by rw [← z]; simp))]; exact h2⟩, rfl⟩
  | some d =>
    obtain ⟨aG, g0, g1, hd, rfl⟩ := h
    have ne : ∀ {b : Addr}, b ∈ foot a aG g0 g1 → b ≠ q := fun hb z => nq (by rw [← z]; exact hb)
    exact ⟨aG, g0, g1, ⟨hd.ins.imp fun _ h => (upd_ne (ne (by simp [foot]))).trans h, (upd_ne (ne (by simp [foot]))).trans hd.grp, hd.gr0.other hq (ne (by simp [foot])) (ne (by simp [foot])) (ne (by simp [foot])),
      hd.gr1.other hq (ne (by simp [foot])) (ne (by simp [foot])) (ne (by simp [foot])), hd.apart, hd.ok⟩, rfl⟩
theorem foot_all {K : PySem.W.Frag} {CT CG : Addr} {H : Hp} {a b : Addr} {F : List Addr} {x : Krdh.Abs} (h : TableAt K CT CG H a F x) (hb : b ∈ F) : ∃ o, H b = some o := by
  cases x with
  | none =>
    obtain ⟨dx, aG, ⟨h1, h2⟩, rfl⟩ := h
    simp only [List.mem_cons, List.not_mem_nil, or_false] at hb
    rcases hb with rfl | rfl
    · exact ⟨_, h1⟩
    · exact ⟨_, h2⟩
  | some d =>
    obtain ⟨aG, g0, g1, hd, rfl⟩ := h
    exact (foot_some hd hb).imp fun _ h => h.1
/-- the list that was handed in, apart from the table -/
def ReqAt (K : PySem.W.Frag) (H : Hp) (F : List Addr) (b : Addr) (xs : List V) : Prop := (Rd H b (.lst xs) ∧ b ∉ F) ∨ ∀ H', SqL K H' b xs
theorem ReqAt.sq {K : PySem.W.Frag} {H : Hp} {F : List Addr} {b : Addr} {xs : List V} (h : ReqAt K H F b xs) : SqL K H b xs := h.elim (fun h => .inl h.1) fun h => h H
theorem ReqAt.same {K : PySem.W.Frag} {H H' : Hp} {F : List Addr} {b : Addr} {xs : List V} (h : ReqAt K H F b xs) (e : Same H H') : ReqAt K H' F b xs := by
  rcases h with ⟨h | ⟨o, h⟩, n⟩ | h
  · exact .inl ⟨.inl (e _ _ h), n⟩
  · exact .inl ⟨.inr ⟨o, e _ _ h⟩, n⟩
  · exact .inr h
theorem not_foot {T : List (Addr × Str)} {H H' : Hp} {F F' : List Addr} {b : Addr} {o : HO} (c : Chg T H F H' F') (h : H b = some o) (ht : ∀ ps, o ≠ .tbl ps) (n : b ∉ F) : b ∉ F' := fun hb => by
  rcases c.foot b hb with z | z
  · exact n z
  · obtain ⟨ps, e⟩ := z o h
    exact ht ps e
theorem ReqAt.chg {T : List (Addr × Str)} {K : PySem.W.Frag} {H H' : Hp} {F F' : List Addr} {b : Addr} {xs : List V} (h : ReqAt K H F b xs) (c : Chg T H F H' F') : ReqAt K H' F' b xs := by
  rcases h with ⟨h | ⟨o, h⟩, n⟩ | h
  · exact .inl ⟨.inl (c.keep b _ h n lst_tbl), not_foot c h lst_tbl n⟩
  · exact .inl ⟨.inr ⟨o, c.keep b _ h n fun _ z => by cases z⟩, not_foot c h (fun _ z => by cases z) n⟩
  · exact .inr h
/-- .. a list changed that is not the one handed in -/
theorem ReqAt.upd {K : PySem.W.Frag} {H : Hp} {F : List Addr} {b q : Addr} {xs : List V} {o' : HO} (h : ReqAt K H F b xs) (n : b ≠ q ∨ ∀ H', SqL K H' b xs) : ReqAt K (upd H q o') F b xs := by
  rcases n with n | n
  · rcases h with ⟨h | ⟨o, h⟩, m⟩ | h
    · exact .inl ⟨.inl ((upd_ne n).trans h), m⟩
    · exact .inl ⟨.inr ⟨o, (upd_ne n).trans h⟩, m⟩
    · exact .inr h
  · exact .inr n
theorem cut_mid (l : List Nat) (i e : Nat) {p : Nat} {r : List Nat} (h : l.drop i = p :: r) (he : e ≤ r.length) : cutV (nV l) (some ((i + 1 : Nat) : Int)) (some ((i + 1 + e : Nat) : Int)) = nV (r.take e) := by
  have hl : l.length = i + 1 + r.length := by
    have := congrArg List.length h
    rw [List.length_drop, List.length_cons] at this
    omega
  unfold cutV
  rw [show HT.sIx (nV l).length 0 (some ((i + 1 : Nat) : Int)) = min (i + 1) (nV l).length from HT.sIx_nat _ 0 (i + 1), show HT.sIx (nV l).length (nV l).length (some ((i + 1 + e : Nat) : Int)) = min (i + 1 + e) (nV l).length from HT.sIx_nat _ _ (i + 1 + e), nV_len,
    show min (i + 1) l.length = i + 1 by omega, show min (i + 1 + e) l.length = i + 1 + e by omega, show i + 1 + e - (i + 1) = e by omega]
  unfold nV
  rw [← List.map_drop, ← List.map_take, ← List.drop_drop, h]
  rfl
section
variable {P : Program} {w : World} {K : PySem.W.Frag} {mg : Str → Option Value} {base : Heap} {CT CG aZ aO aA aS : Addr} {T : List (Addr × Str)} {fs : List Addr}
/-! ### Table.__init__ -/
def spTInit (CT : Addr) : Sp := fun vs H Q _ => ∃ (p dx : Addr), vs = [.ref p] ∧ H p = some (.ins CT dx []) ∧ ∀ (aG : Addr) (H' : Hp), H' p = some (.ins CT dx (tF 0 aG)) → H' aG = some (.lst []) → H aG = none → (∀ b o, H b = some o → b ≠ p → H' b = some o) → Q .non H'
theorem scTInit : FnScope ["self"] ["self"] (defScope sTableInit) := ⟨rfl, rfl, rfl, by decide +kernel, rfl, by decide +kernel, by decide +kernel⟩
theorem ok_tinit {f : Addr} {fd : FuncData} (F : Fun K "__init__" "Table.__init__" sTableInit f fd) (TT : TxtT K mg CT) : FnOk P w K mg base CX0 1 f fd ["self"] (spTInit CT) := by
  refine F.ok scTInit (fun vs H Q E h => ?_) (fun cdv A outer s H vs Q E hr h => ⟨_, pss_cons (ps_fld (pv 0) pe_int rfl) (pss_one (ps_fld (pv 0) (pe_lst pa_nil) rfl)), ?_⟩)
  · obtain ⟨_, _, rfl, _⟩ := h
    rfl
  · obtain ⟨p, dx, rfl, hp, q⟩ := h
    refine ⟨_, rfl, p, CT, dx, [], rfl, hp, TT.cl, TT.nS, (by show 0 < 1000; decide), ?_⟩
    refine ⟨Nat.zero_le _, fun aG nG => ?_⟩
    have hp1 : upd H p (.ins CT dx (putF "scores" (.int 0) [])) p = some (.ins CT dx (putF "scores" (.int 0) [])) := upd_same
    have hp2 := Same.new (o := .lst []) nG _ _ hp1
    refine ⟨_, rfl, p, CT, dx, _, rfl, hp2, TT.cl, TT.nG, (by show 1 < 1000; decide), ?_⟩
    rw [tF_new]
    have nap : aG ≠ p := (upd_back nG).2
    refine q aG _ upd_same (by rw [upd_ne nap]; exact upd_same) (upd_back nG).1 fun b o e hb => ?_
    rw [upd_ne hb]
    exact Same.new nG _ _ ((upd_ne hb).trans e)
/-! ### answers -/
def spAnswers (K : PySem.W.Frag) (T : List (Addr × Str)) : Sp := fun vs H Q _ => ∃ (b : Addr) (l : List Nat), vs = [.ref b] ∧ SqL K H b (nV l) ∧ l.length ≤ 10500 ∧ PyKrdh.answers_asked (zs l) = true ∧ Tabs T H ∧
  ∀ (p : Addr) (H' : Hp), H' p = some (.lst (zV (PyKrdh.answers (zs l)))) → Q (.ref p) H'
def TMake (P : Program) (w : World) (K : PySem.W.Frag) (mg : Str → Option Value) (base : Heap) (CT : Addr) : Prop := ∃ (fI : Addr) (fdI : FuncData), Mk K CT fI ∧ FnOk P w K mg base CX0 1 fI fdI ["self"] (spTInit CT) ∧ Binds K fdI ["self"] []
theorem pe_table {X : Cx} {p pos : Pos} (M : TMake X.prog X.w X.K X.mg X.base CT) (hr : Room 2 X.A) (hg : Gl X "Table") (hm : X.mg "Table" = some (.ref CT)) : PE X (.Call (.Name "Table" p) [] [] pos) (tMake CT (spTInit CT) [] E0 tNil) :=
  match M with
  | ⟨_, _, M, F, b⟩ => pe_make0 M F hr hg hm b .nil (fun _ _ _ _ _ _ _ h => h.elim)
theorem scAnswers : FnScope ["calls", "table", "answered", "start", "end", "answer"] ["calls"] (defScope sAnswers) := ⟨rfl, rfl, rfl, by decide +kernel, rfl, by decide +kernel, by decide +kernel⟩
theorem asked_raw {l : List Int} (h : PyKrdh.answers_asked l = true) : ∃ cs, PyFlat.calls PyKrdh.shape l.length l = some cs ∧ (∀ c ∈ cs, KrdhNeutral.asked1 c = true) ∧ PyKrdh.answers l = PyFlat.told (PyFlat.played KrdhNeutral.step KrdhNeutral.start cs) ∧ (PyKrdh.answers l).length ≤ 10000000 := by
  unfold PyKrdh.answers_asked at h
  split at h
  · cases h
  · rename_i raw hr
    have hw : raw.map PyKrdh.whole = raw := by
      conv => rhs; rw [← List.map_id raw]
      exact List.map_congr_left fun c _ => whole_id c
    rw [hw] at h
    simp only [Bool.and_eq_true] at h
    obtain ⟨⟨⟨_, _⟩, ha⟩, hs⟩ := h
    unfold KrdhNeutral.asked at ha
    rw [Bool.and_eq_true] at ha
    refine ⟨raw, hr, fun c hc => List.all_eq_true.mp ha.1 c hc, ?_, of_decide_eq_true hs⟩
    unfold PyKrdh.answers PyKrdh.calls
    rw [hr]
    show PyFlat.told (PyFlat.played KrdhNeutral.step KrdhNeutral.start (raw.map PyKrdh.whole)) = _
    rw [hw]
theorem ok_answers {k : Nat} {f : Addr} {fd : FuncData} (F : Fun K "answers" "answers" sAnswers f fd) (G : TxtG K mg CG) (TT : TxtT K mg CT) (M : TMake P w K mg base CT) (EC : Kept P w K mg base 1 "end_of_call" ["calls", "start"] (spEnd K)) (AC : Kept P w K mg base (k + 2) "answer_call" ["table", "number", "numbers"] (spCall K CT CG T)) :
    FnOk P w K mg base CX0 (k + 3) f fd ["calls"] (spAnswers K T) := by
  refine F.ok scAnswers (fun vs H Q E h => ?_) (fun cdv A outer s H vs Q E hr h => ⟨_, pss_cons (ps_set (i := 1) scAnswers.nd rfl (Or.inl rfl) (pe_table M (hr.mono (by omega)) rfl TT.gC)) (pss_cons (ps_set (i := 2) scAnswers.nd rfl (Or.inl rfl) (pe_lst pa_nil)) (pss_cons (ps_set (i := 3) scAnswers.nd rfl (Or.inl rfl) pe_int)
    (pss_cons (ps_while PassesOwn.never (pt_cmpR op_lt (pv 3) (pe_callB call_len_seq (by rfl) G.len PySem.boot_len (pa_cons (pv 0) pa_nil)) (nomark _))
      (pss_cons (ps_set (i := 4) scAnswers.nd rfl (Or.inl rfl) (pe_def EC (hr.mono (by omega)) rfl (pa_cons (pv 0) (pa_cons (pv 3) pa_nil))))
      (pss_cons (ps_set (i := 5) scAnswers.nd rfl (Or.inl rfl) (pe_def AC hr rfl (pa_cons (pv 1) (pa_cons (pe_ix ix_list (pv 0) (pv 3) (fun _ _ => rfl)) (pa_cons (pe_slice sl_list (pv 0) (po_some (pe_op op_add (pv 3) pe_int)) (po_some (pv 4))) pa_nil)))))
      (pss_cons (ps_expr (pe_bm PySem.F.plainAttrs_list PySem.F.slot_list_append PySem.F.type_list_append mt_append (pv 2) (pa_cons (pe_callB call_len_seq (by rfl) G.len PySem.boot_len (pa_cons (pv 5) pa_nil)) pa_nil)))
      (pss_cons (ps_expr (pe_bm PySem.F.plainAttrs_list PySem.F.slot_list_extend PySem.F.type_list_extend mt_extend (pv 2) (pa_cons (pv 5) pa_nil)))
      (pss_one (ps_set (i := 3) scAnswers.nd rfl (Or.inl rfl) (pv 4))))))))
    (pss_one (ps_ret (pv 2)))))), ?_⟩)
  · obtain ⟨_, _, rfl, _⟩ := h
    rfl
  · obtain ⟨b, l, rfl, hb, hlen, hask, hT, q⟩ := h
    obtain ⟨cs, hcs, hall, hans, h10⟩ := asked_raw hask
    -- table = Table()
    intro a dxa na nd ned
    refine ⟨a, dxa, rfl, upd_same, fun aG H1 hi hg nG kp => ⟨rfl, ?_⟩⟩
    have e1 : Same H H1 := Same.made na nd kp
    have nG' : H aG = none := (upd_back (upd_back nG).1).1
    -- answered = []
    refine ⟨Nat.zero_le _, fun r nr => ?_⟩
    have e2 := Same.new (o := .lst []) nr
    have hr0 : upd H1 r (.lst []) r = some (.lst []) := upd_same
    generalize upd H1 r (.lst []) = H2 at e2 hr0 ⊢
    have e12 := e1.trans e2
    have hreq : ReqAt K H2 [a, aG] b (nV l) := by
      have nb : ∀ {o : HO}, H b = some o → b ∉ [a, aG] := fun e hm => by
        simp only [List.mem_cons, List.not_mem_nil, or_false] at hm
        rcases hm with z | z
        · rw [z, na] at e
          cases e
        · rw [z, nG'] at e
          cases e
      rcases hb with (h | ⟨o, h⟩) | h
      · exact .inl ⟨.inl (e12 _ _ h), nb h⟩
      · exact .inl ⟨.inr ⟨o, e12 _ _ h⟩, nb h⟩
      · exact .inr fun _ => .inr h
    have rF : r ∉ [a, aG] := fun hm => by
      simp only [List.mem_cons, List.not_mem_nil, or_false] at hm
      rcases hm with z | z
      · rw [z, hi] at nr
        cases nr
      · rw [z, hg] at nr
        cases nr
    have nbr : b ≠ r ∨ ∀ H', SqL K H' b (nV l) := by
      rcases hb with (h | ⟨o, h⟩) | h
      · exact .inl fun z => by
          rw [← z, e1 _ _ h] at nr
          cases nr
      · exact .inl fun z => by
          rw [← z, e1 _ _ h] at nr
          cases nr
      · exact .inr fun _ => .inr h
    refine ⟨fun m σ H' => ∃ (i : Nat) (x : Krdh.Abs) (F : List Addr) (done : List Int) (fuel : Nat) (cs : List (List (List Int))) (o4 o5 : Option V), σ = [some (.ref b), some (.ref a), some (.ref r), some (.int i), o4, o5] ∧ m = l.length - i ∧ i ≤ l.length ∧ TableAt K CT CG H' a F x ∧ Tabs T H' ∧
        H' r = some (.lst (zV done)) ∧ r ∉ F ∧ ReqAt K H' F b (nV l) ∧ PyFlat.calls PyKrdh.shape fuel (zs (l.drop i)) = some cs ∧ (∀ c ∈ cs, KrdhNeutral.asked1 c = true) ∧ PyKrdh.answers (zs l) = done ++ PyFlat.told (PyFlat.played KrdhNeutral.step x cs),
      ⟨_, 0, none, [a, aG], [], (zs l).length, cs, none, none, rfl, rfl, Nat.zero_le _, ⟨dxa, aG, ⟨e2 _ _ hi, e2 _ _ hg⟩, rfl⟩, hT.ext e12, hr0, rF, hreq, hcs, hall, hans⟩, ?_⟩
    rintro m σ H3 ⟨i, x, F, done, fuel, cs, o4, o5, rfl, rfl, hil, hA, hT3, hr3, hrF, hreq3, hcs3, hall3, hans3⟩
    refine ⟨_, rfl, _, rfl, b, _, rfl, .inl hreq3.sq, _, _, rfl, rfl, _, rfl, ?_⟩
    refine ifD (fun c => ?_) fun c => ?_
    · rw [nV_len] at c
      have c : i < l.length := by omega
      obtain ⟨p, rest, hd⟩ : ∃ p rest, l.drop i = p :: rest := ⟨_, _, List.drop_eq_getElem_cons c⟩
      have hcs' : PyFlat.calls PyKrdh.shape fuel ((p : Int) :: zs rest) = some cs := by
        rw [hd] at hcs3
        exact hcs3
      obtain ⟨fuel', c1, cs', rfl, hcs4, p14, hext, hcall, hshape⟩ := calls_read hcs'
      have hsh := hshape (hall3 c1 (List.mem_cons_self ..))
      obtain ⟨hp0, _⟩ := drop_at hd
      generalize hex : extent p rest = ex at hext hcs4 hcall hsh
      refine ⟨fun σ' H' => ∃ (x' : Krdh.Abs) (F' : List Addr) (done' : List Int) (o4 o5 : Option V), σ' = [some (.ref b), some (.ref a), some (.ref r), some (.int ((i + 1 + ex : Nat) : Int)), o4, o5] ∧ TableAt K CT CG H' a F' x' ∧ Tabs T H' ∧
          H' r = some (.lst (zV done')) ∧ r ∉ F' ∧ ReqAt K H' F' b (nV l) ∧ PyKrdh.answers (zs l) = done' ++ PyFlat.told (PyFlat.played KrdhNeutral.step x' cs'),
        fun σ' H' ⟨x', F', done', q4, q5, z1, z2, z3, z4, z5, z6, z7⟩ => ?_, ?_⟩
      · have hl : l.length = i + 1 + rest.length := by
          have := congrArg List.length hd
          rw [List.length_drop, List.length_cons] at this
          omega
        refine ⟨l.length - (i + 1 + ex), by omega, i + 1 + ex, x', F', done', fuel', cs', q4, q5, z1, rfl, by omega, z2, z3, z4, z5, z6, ?_, fun c hc => hall3 c (List.mem_cons_of_mem _ hc), z7⟩
        rw [← List.drop_drop, ← List.drop_drop, hd]
        exact hcs4
      · refine ⟨_, rfl, _, rfl, b, l, i, p, rest, rfl, hreq3.sq, hd, p14, by rw [hex]; exact hext, ?_⟩
        rw [hex]
        refine ⟨_, rfl, _, rfl, _, rfl, b, _, _, _, rfl, rfl, hreq3.sq, nV_at' hp0, _, rfl, _, rfl, _, _, rfl, rfl, _, rfl, _, rfl, _, rfl, b, _, rfl, hreq3.sq, fun sl nsl => ?_⟩
        rw [show cutV (nV l) (some ((i : Int) + 1)) (some ((i + 1 + ex : Nat) : Int)) = nV (rest.take ex) from cut_mid l i ex hd hext]
        have e4 := Same.new (o := .lst (nV (rest.take ex))) nsl
        have hsl : upd H3 sl (.lst (nV (rest.take ex))) sl = some (.lst (nV (rest.take ex))) := upd_same
        generalize upd H3 sl (.lst (nV (rest.take ex))) = H4 at e4 hsl ⊢
        refine ⟨a, F, x, sl, p, rest.take ex, rfl, hA.same e4, SqL.of hsl, hsh, hT3.ext e4, fun ra H5 F5 chg hA5 hra hnew => ?_⟩
        have hr4 := e4 _ _ hr3
        have hr5 := chg.keep r _ hr4 hrF lst_tbl
        have hrF5 := not_foot chg hr4 lst_tbl hrF
        have hreq5 := (hreq3.same e4).chg chg
        have nra : ra ≠ r := fun z => by
          obtain ⟨ps, e⟩ := hnew _ (by rw [z]; exact hr4)
          cases e
        -- what the specification answers
        have hstep : KrdhNeutral.step x c1 = ((Krdh.act x (Dec p (rest.take ex))).1, KrdhNeutral.told (Krdh.act x (Dec p (rest.take ex))).2) := by
          unfold KrdhNeutral.step
          rw [hcall]
        have hans5 : PyKrdh.answers (zs l) = (done ++ ((KrdhNeutral.told (Krdh.act x (Dec p (rest.take ex))).2).length : Int) :: KrdhNeutral.told (Krdh.act x (Dec p (rest.take ex))).2) ++ PyFlat.told (PyFlat.played KrdhNeutral.step (Krdh.act x (Dec p (rest.take ex))).1 cs') := by
          rw [hans3]
          show done ++ PyFlat.told ((KrdhNeutral.step x c1).2 :: PyFlat.played KrdhNeutral.step (KrdhNeutral.step x c1).1 cs') = _
          rw [hstep, List.append_assoc]
          rfl
        generalize KrdhNeutral.told (Krdh.act x (Dec p (rest.take ex))).2 = ans at hra hans5
        generalize (Krdh.act x (Dec p (rest.take ex))).1 = x' at hA5 hans5
        have hsz : done.length + (ans.length + 1) ≤ 10000000 := by
          have := congrArg List.length hans5
          rw [List.length_append, List.length_append, List.length_cons] at this
          omega
        have zl : ∀ z : List Int, (zV z).length = z.length := fun z => List.length_map ..
        -- answered.append(len(answer))
        refine ⟨_, rfl, .inl ⟨rfl, _, SqL.of hr5⟩, _, rfl, ra, _, rfl, .inl (SqL.of hra), r, _, _, rfl, rfl, hr5, by rw [zl]; exact Nat.lt_of_le_of_lt (show done.length ≤ 10000000 by omega) (by decide), ?_⟩
        have hr6 : upd H5 r (.lst (zV done ++ [V.int ((zV ans).length : Int)])) r = some (.lst (zV done ++ [V.int ((zV ans).length : Int)])) := upd_same
        have hra6 : upd H5 r (.lst (zV done ++ [V.int ((zV ans).length : Int)])) ra = some (.lst (zV ans)) := (upd_ne nra).trans hra
        -- answered.extend(answer)
        refine ⟨_, rfl, .inl ⟨rfl, _, SqL.of hr6⟩, _, rfl, r, ra, _, _, rfl, rfl, hr6, hra6, by rw [List.length_append, zl, zl]; exact Nat.le_trans (show done.length + 1 + ans.length ≤ 10000000 by omega) (by decide), ?_⟩
        refine ⟨_, rfl, x', F5, done ++ ((ans.length : Int) :: ans), _, _, rfl, ?_, ?_, ?_, hrF5, ?_, hans5⟩
        · exact (hA5.upd hr5 hrF5).upd hr6 hrF5
        · exact tabs_upd hr6 lst_tbl lst_code (tabs_upd hr5 lst_tbl lst_code chg.tabs)
        · rw [upd_same, zV_app, List.append_assoc, zl]
          rfl
        · exact (hreq5.upd nbr).upd nbr
    · rw [nV_len] at c
      have hi : i = l.length := by omega
      rw [hi, List.drop_length] at hcs3
      have : cs = [] := calls_nil hcs3
      rw [this] at hans3
      have hd : PyKrdh.answers (zs l) = done := hans3.trans (List.append_nil _)
      refine ⟨_, rfl, q r H3 ?_⟩
      rw [hd]
      exact hr3
end
end My

namespace My
open PySem PySem.Spec PyProof.Rows L2 LamX NdefX
section
variable {K : PySem.W.Frag} {h : Heap} {mg : Str → Option Value}
/-- how a def's arguments bind, whatever the rest of its object is -/
def BindOk (x : Str) (st : Stmt) (ps : List Str) : Prop := ∀ (kV doc pm : Value) (an : Option Addr) (cdv ct : Value) (us : List Value), us.length = ps.length → bindArgs (PySem.W.fnOf x x (defArgs st) (defBody st) (defScope st) .none kV doc pm an cdv ct) ⟨us, []⟩ = pure (ps.zip us)
theorem has_mk {x : Str} {st : Stmt} {ps : List Str} {f : Addr} {oc : Value} {od an : Option Addr} {osl : Array (Option Value)} {kV doc pm cdv ct : Value} (X : K.In h) (G : h.Ns mainGlobals mg) (b : BindOk x st ps) (a : PySem.W.nsIn K mainGlobals x = some (some (.ref f)))
    (l : K.lookup f = some ⟨oc, od, .func (PySem.W.fnOf x x (defArgs st) (defBody st) (defScope st) .none kV doc pm an cdv ct), osl⟩) (c : PySem.W.codeIn K cdv x = true) (k : PySem.W.keepIn K (.ref f) = true) : Has K mg x st ps :=
  ⟨f, _, fun_mk l c k, PySem.W.mg_of X G a, (fun_mk l c k).binds b⟩
theorem num_mk {x : Str} {i : Int} {t : Tok} (X : K.In h) (G : h.Ns mainGlobals mg) (a : PySem.W.nsIn K mainGlobals x = some (some (.int i t))) : ∃ t, mg x = some (.int i t) := ⟨t, PySem.W.mg_of X G a⟩
theorem tup_mk {a : Addr} {oc : Value} {od : Option Addr} {its : Array Value} {n : Nat} {sl : Array (Option Value)} {xs : List V} (l : K.lookup a = some ⟨oc, od, .seq its n, sl⟩) (ho : oc = .type "tuple") (hs : its.size ≤ sizeLine) (hv : L2.Vals xs its.toList) (H : Hp) : SqT K H a xs := .inr ⟨_, its, n, l, ho, rfl, hs, hv⟩
theorem vals_nil : L2.Vals [] [] := .nil
theorem vals_int {i : Int} {t : Tok} {xs : List V} {us : List Value} (h : L2.Vals xs us) : L2.Vals (.int i :: xs) (.int i t :: us) := .cons ⟨t, rfl⟩ h
theorem vals_ref {a : Addr} {xs : List V} {us : List Value} (h : L2.Vals xs us) : L2.Vals (.ref a :: xs) (.ref a :: us) := .cons rfl h
/-- a class of the text: what its objects ask -/
theorem group_mk {C f1 : Addr} {oc1 : Value} {od1 an1 : Option Addr} {sl1 : Array (Option Value)} {kV1 dc1 pm1 cd1 ct1 : Value} (X : K.In h) (G : h.Ns mainGlobals mg)
    (b : ∀ (kV doc pm : Value) (an : Option Addr) (cdv ct : Value) (us : List Value), us.length = (["self", "scores"] : List Str).length → bindArgs (PySem.W.fnOf "__init__" "Group.__init__" (defArgs sGroupInit) (defBody sGroupInit) (defScope sGroupInit) .none kV doc pm an cdv ct) ⟨us, []⟩ = pure ((["self", "scores"] : List Str).zip us))
    (aC : PySem.W.nsIn K mainGlobals "Group" = some (some (.ref C))) (a1 : PySem.W.findIn K (.ref C) "__init__" = some (some (.ref f1))) (i1 : PySem.W.isFn K (.ref f1) = true)
    (l1 : K.lookup f1 = some ⟨oc1, od1, .func (PySem.W.fnOf "__init__" "Group.__init__" (defArgs sGroupInit) (defBody sGroupInit) (defScope sGroupInit) .none kV1 dc1 pm1 an1 cd1 ct1), sl1⟩) (c1 : PySem.W.codeIn K cd1 "Group.__init__" = true) (k1 : PySem.W.keepIn K (.ref f1) = true)
    (pg : PySem.W.plainGet K C Str.empty = true) (hd : PySem.W.hasDictIn K C = true) (po : PySem.W.plainOver K C = true) (sa : PySem.W.findIn K (.ref C) "__setattr__" = some (some (.builtin "object.__setattr__"))) (mk : PySem.W.makesIn K C = true) (kc : PySem.W.keepIn K (.ref C) = true)
    (nS : PySem.W.findIn K (.ref C) "so" = some none) (nN : PySem.W.findIn K (.ref C) "not_so" = some none) (nC : PySem.W.findIn K (.ref C) "chances" = some none)
    (bs : PySem.W.nsIn K mainGlobals "sum" = some none) (bz : PySem.W.nsIn K mainGlobals "zip" = some none) (bl : PySem.W.nsIn K mainGlobals "len" = some none) (br : PySem.W.nsIn K mainGlobals "range" = some none) (bm : PySem.W.nsIn K mainGlobals "min" = some none) (ba : PySem.W.nsIn K mainGlobals "any" = some none) (bb : PySem.W.nsIn K mainGlobals "all" = some none) :
    ∃ C, TxtG K mg C ∧ ∃ fI fdI, Mk K C fI ∧ Fun K "__init__" "Group.__init__" sGroupInit fI fdI ∧ Binds K fdI ["self", "scores"] [] :=
  ⟨C, ⟨⟨pg, hd, po, sa⟩, nS, nN, nC, PySem.W.mg_of X G aC, PySem.W.mg_none_of X G bs, PySem.W.mg_none_of X G bz, PySem.W.mg_none_of X G bl, PySem.W.mg_none_of X G br, PySem.W.mg_none_of X G bm, PySem.W.mg_none_of X G ba, PySem.W.mg_none_of X G bb⟩,
    f1, _, ⟨mk, a1, i1, kc⟩, fun_mk l1 c1 k1, (fun_mk l1 c1 k1).binds b⟩
theorem table_mk {C f1 : Addr} {oc1 : Value} {od1 an1 : Option Addr} {sl1 : Array (Option Value)} {kV1 dc1 pm1 cd1 ct1 : Value} (X : K.In h) (G : h.Ns mainGlobals mg)
    (b : ∀ (kV doc pm : Value) (an : Option Addr) (cdv ct : Value) (us : List Value), us.length = (["self"] : List Str).length → bindArgs (PySem.W.fnOf "__init__" "Table.__init__" (defArgs sTableInit) (defBody sTableInit) (defScope sTableInit) .none kV doc pm an cdv ct) ⟨us, []⟩ = pure ((["self"] : List Str).zip us))
    (aC : PySem.W.nsIn K mainGlobals "Table" = some (some (.ref C))) (a1 : PySem.W.findIn K (.ref C) "__init__" = some (some (.ref f1))) (i1 : PySem.W.isFn K (.ref f1) = true)
    (l1 : K.lookup f1 = some ⟨oc1, od1, .func (PySem.W.fnOf "__init__" "Table.__init__" (defArgs sTableInit) (defBody sTableInit) (defScope sTableInit) .none kV1 dc1 pm1 an1 cd1 ct1), sl1⟩) (c1 : PySem.W.codeIn K cd1 "Table.__init__" = true) (k1 : PySem.W.keepIn K (.ref f1) = true)
    (pg : PySem.W.plainGet K C Str.empty = true) (hd : PySem.W.hasDictIn K C = true) (po : PySem.W.plainOver K C = true) (sa : PySem.W.findIn K (.ref C) "__setattr__" = some (some (.builtin "object.__setattr__"))) (mk : PySem.W.makesIn K C = true) (kc : PySem.W.keepIn K (.ref C) = true)
    (nS : PySem.W.findIn K (.ref C) "scores" = some none) (nG : PySem.W.findIn K (.ref C) "groups" = some none) {t1 t2 t3 t4 t5 t6 t7 t8 t9 t10 : Tok}
    (n1 : PySem.W.nsIn K mainGlobals "NO_SUCH" = some (some (.int (-2) t1))) (n2 : PySem.W.nsIn K mainGlobals "NOT_BEGUN" = some (some (.int (-11) t2))) (n3 : PySem.W.nsIn K mainGlobals "NOT_RIGHT" = some (some (.int (-22) t3))) (n4 : PySem.W.nsIn K mainGlobals "LACKING" = some (some (.int (-33) t4)))
    (n5 : PySem.W.nsIn K mainGlobals "MOST_SCORES" = some (some (.int 4 t5))) (n6 : PySem.W.nsIn K mainGlobals "MOST_PEOPLE" = some (some (.int 99 t6))) (n7 : PySem.W.nsIn K mainGlobals "MOST_LOWER" = some (some (.int 1000 t7)))
    (n8 : PySem.W.nsIn K mainGlobals "NOT_REACHED" = some (some (.int (-34) t8))) (n9 : PySem.W.nsIn K mainGlobals "NOT_REFUSED" = some (some (.int 0 t9))) (n10 : PySem.W.nsIn K mainGlobals "MOST_GAIN" = some (some (.int 100 t10))) :
    ∃ C, TxtT K mg C ∧ ∃ fI fdI, Mk K C fI ∧ Fun K "__init__" "Table.__init__" sTableInit fI fdI ∧ Binds K fdI ["self"] [] :=
  ⟨C, ⟨⟨pg, hd, po, sa⟩, nS, nG, PySem.W.mg_of X G aC, num_mk X G n1, num_mk X G n2, num_mk X G n3, num_mk X G n4, num_mk X G n5, num_mk X G n6, num_mk X G n7, num_mk X G n8, num_mk X G n9, num_mk X G n10⟩,
    f1, _, ⟨mk, a1, i1, kc⟩, fun_mk l1 c1 k1, (fun_mk l1 c1 k1).binds b⟩
theorem zero_mk {aZ aO : Addr} {oz oo : Value} {dz do_ : Option Addr} {iz io : Array Value} {nz no : Nat} {sz so : Array (Option Value)} (X : K.In h) (G : h.Ns mainGlobals mg) (a1 : PySem.W.nsIn K mainGlobals "ZERO" = some (some (.ref aZ))) (a2 : PySem.W.nsIn K mainGlobals "ONE" = some (some (.ref aO)))
    (l1 : K.lookup aZ = some ⟨oz, dz, .seq iz nz, sz⟩) (l2 : K.lookup aO = some ⟨oo, do_, .seq io no, so⟩) (c1 : oz = .type "tuple") (c2 : oo = .type "tuple") (s1 : iz.size ≤ sizeLine) (s2 : io.size ≤ sizeLine) (v1 : L2.Vals [.int 0, .int 1] iz.toList) (v2 : L2.Vals [.int 1, .int 1] io.toList) :
    ∃ aZ aO, TxtZ K mg aZ aO := ⟨aZ, aO, PySem.W.mg_of X G a1, PySem.W.mg_of X G a2, tup_mk l1 c1 s1 v1, tup_mk l2 c2 s2 v2⟩
/-- the names stand for the addresses, one by one -/
def Named (mg : Str → Option Value) : List Str → List Addr → Prop
  | [], [] => True
  | x :: xs, f :: fs => mg x = some (.ref f) ∧ Named mg xs fs
  | _, _ => False
theorem ans_mk {aA aS f0 f1 f2 f3 f4 f5 f6 f7 f8 f9 f10 f11 f12 f13 f14 : Addr} {oA oS : Value} {dA dS : Option Addr} {iA iS : Array Value} {nA nS : Nat} {sA sS : Array (Option Value)} {tB tC : Tok} (X : K.In h) (G : h.Ns mainGlobals mg)
    (a0 : PySem.W.nsIn K mainGlobals "answer_begin" = some (some (.ref f0)))
    (a1 : PySem.W.nsIn K mainGlobals "answer_count" = some (some (.ref f1)))
    (a2 : PySem.W.nsIn K mainGlobals "answer_cell" = some (some (.ref f2)))
    (a3 : PySem.W.nsIn K mainGlobals "answer_people" = some (some (.ref f3)))
    (a4 : PySem.W.nsIn K mainGlobals "answer_chances" = some (some (.ref f4)))
    (a5 : PySem.W.nsIn K mainGlobals "answer_point" = some (some (.ref f5)))
    (a6 : PySem.W.nsIn K mainGlobals "answer_upper" = some (some (.ref f6)))
    (a7 : PySem.W.nsIn K mainGlobals "answer_lower" = some (some (.ref f7)))
    (a8 : PySem.W.nsIn K mainGlobals "answer_can" = some (some (.ref f8)))
    (a9 : PySem.W.nsIn K mainGlobals "answer_reach" = some (some (.ref f9)))
    (a10 : PySem.W.nsIn K mainGlobals "answer_both" = some (some (.ref f10)))
    (a11 : PySem.W.nsIn K mainGlobals "answer_corners" = some (some (.ref f11)))
    (a12 : PySem.W.nsIn K mainGlobals "answer_best" = some (some (.ref f12)))
    (a13 : PySem.W.nsIn K mainGlobals "answer_take" = some (some (.ref f13)))
    (a14 : PySem.W.nsIn K mainGlobals "answer_state" = some (some (.ref f14)))
    (gA : PySem.W.nsIn K mainGlobals "ANSWERING" = some (some (.ref aA))) (gS : PySem.W.nsIn K mainGlobals "SIZES" = some (some (.ref aS)))
    (lA : K.lookup aA = some ⟨oA, dA, .seq iA nA, sA⟩) (lS : K.lookup aS = some ⟨oS, dS, .seq iS nS, sS⟩) (cA : oA = .type "tuple") (cS : oS = .type "tuple") (zA : iA.size ≤ sizeLine) (zS : iS.size ≤ sizeLine)
    (vA : L2.Vals [.ref f0, .ref f1, .ref f2, .ref f3, .ref f4, .ref f5, .ref f6, .ref f7, .ref f8, .ref f9, .ref f10, .ref f11, .ref f12, .ref f13, .ref f14] iA.toList) (vS : L2.Vals (nV sizes) iS.toList) (nB : PySem.W.nsIn K mainGlobals "BEGIN" = some (some (.int 0 tB))) (nC : PySem.W.nsIn K mainGlobals "CHANCES" = some (some (.int 4 tC))) :
    ∃ aA aS fs, TxtA K mg aA aS fs ∧ Named mg ["answer_begin", "answer_count", "answer_cell", "answer_people", "answer_chances", "answer_point", "answer_upper", "answer_lower", "answer_can", "answer_reach", "answer_both", "answer_corners", "answer_best", "answer_take", "answer_state"] fs :=
  ⟨aA, aS, [f0, f1, f2, f3, f4, f5, f6, f7, f8, f9, f10, f11, f12, f13, f14], ⟨PySem.W.mg_of X G gA, PySem.W.mg_of X G gS, tup_mk lA cA zA vA, tup_mk lS cS zS vS, rfl, num_mk X G nB, num_mk X G nC⟩,
    ⟨PySem.W.mg_of X G a0, PySem.W.mg_of X G a1, PySem.W.mg_of X G a2, PySem.W.mg_of X G a3, PySem.W.mg_of X G a4, PySem.W.mg_of X G a5, PySem.W.mg_of X G a6, PySem.W.mg_of X G a7, PySem.W.mg_of X G a8, PySem.W.mg_of X G a9, PySem.W.mg_of X G a10, PySem.W.mg_of X G a11, PySem.W.mg_of X G a12, PySem.W.mg_of X G a13, PySem.W.mg_of X G a14, trivial⟩⟩
/-- a def that makes a lambda: its code object and that one's table -/
structure LamTab (K : PySem.W.Frag) (mg : Str → Option Value) (x : Str) (st : Stmt) (c Pt : Addr) : Prop where
  tab : PySem.W.tabIn K x = some (c, Pt)
  free : K.lookup Pt = none
  code : ∀ f fd, Fun K x x st f fd → mg x = some (.ref f) → fd.code = .ref c
theorem lam_mk {x : Str} {st : Stmt} {f c Pt : Addr} {oc oc2 : Value} {od od2 : Option Addr} {fd : FuncData} {vs : Array Value} {sl sl2 : Array (Option Value)} (X : K.In h) (G : h.Ns mainGlobals mg) (a : PySem.W.nsIn K mainGlobals x = some (some (.ref f))) (l : K.lookup f = some ⟨oc, od, .func fd, sl⟩) (e : fd.code = .ref c)
    (l2 : K.lookup c = some ⟨oc2, od2, .fields vs, sl2⟩) (v : vs[11]? = some (.ref Pt)) (n : K.lookup Pt = none) : ∃ c Pt, LamTab K mg x st c Pt :=
  ⟨c, Pt, tabIn_of a l e l2 v, n, fun f' fd' F m => by
    rw [PySem.W.mg_of X G a] at m
    cases m
    obtain ⟨_, _, _, _, _, _, _, _, _, _, lk, _⟩ := F.ex
    rw [l] at lk
    cases lk
    exact e⟩
/-- two such defs; their tables are two -/
theorem lam2_mk {x y : Str} {st su : Stmt} {f c Pt f' c' Pt' : Addr} {oc oc2 ob ob2 : Value} {od od2 oe oe2 : Option Addr} {fd fe : FuncData} {vs us : Array Value} {sl sl2 sm sm2 : Array (Option Value)} (X : K.In h) (G : h.Ns mainGlobals mg)
    (a : PySem.W.nsIn K mainGlobals x = some (some (.ref f))) (l : K.lookup f = some ⟨oc, od, .func fd, sl⟩) (e : fd.code = .ref c) (l2 : K.lookup c = some ⟨oc2, od2, .fields vs, sl2⟩) (v : vs[11]? = some (.ref Pt)) (n : K.lookup Pt = none)
    (a' : PySem.W.nsIn K mainGlobals y = some (some (.ref f'))) (l' : K.lookup f' = some ⟨ob, oe, .func fe, sm⟩) (e' : fe.code = .ref c') (l2' : K.lookup c' = some ⟨ob2, oe2, .fields us, sm2⟩) (v' : us[11]? = some (.ref Pt')) (n' : K.lookup Pt' = none) (ne : Pt ≠ Pt') :
    ∃ c Pt c' Pt', LamTab K mg x st c Pt ∧ LamTab K mg y su c' Pt' ∧ Pt ≠ Pt' := by
  have code : ∀ {x : Str} {st : Stmt} {f c : Addr} {oc : Value} {od : Option Addr} {fd : FuncData} {sl : Array (Option Value)}, PySem.W.nsIn K mainGlobals x = some (some (.ref f)) → K.lookup f = some ⟨oc, od, .func fd, sl⟩ → fd.code = .ref c → ∀ f' fd', Fun K x x st f' fd' → mg x = some (.ref f') → fd'.code = .ref c := fun a l e f' fd' F m => by
    rw [PySem.W.mg_of X G a] at m
    cases m
    obtain ⟨_, _, _, _, _, _, _, _, _, _, lk, _⟩ := F.ex
    rw [l] at lk
    cases lk
    exact e
  exact ⟨c, Pt, c', Pt', ⟨tabIn_of a l e l2 v, n, code a l e⟩, ⟨tabIn_of a' l' e' l2' v', n', code a' l' e'⟩, ne⟩
/-- the lambdas' names beside their tables -/
def tabsOf (cs : List (Addr × Addr)) : List (Addr × Str) := (cs.zip [lamName "scores_in_order", lamName "scores_from_other_end"]).map fun x => (x.1.2, x.2)
theorem tabs_start {cs : List (Addr × Addr)} {H : Hp} (h : ∀ p ∈ cs, H p.2 = some (.tbl #[])) : Tabs (tabsOf cs) H := fun p hp => by
  obtain ⟨x, hx, rfl⟩ := List.mem_map.mp hp
  exact TabS.nil (h x.1 (List.of_mem_zip (a := x.1) (b := x.2) hx).1)
end
/-- the request, read -/
theorem request {K : PySem.W.Frag} {cs : List (Addr × Addr)} {H : Hp} {a : Addr} {xs : List V} {ns : List Int} (hT : ∀ p ∈ cs, H p.2 = some (.tbl #[])) (hlen : ns.length ≤ 10500) (hb : ∀ z ∈ ns, 0 ≤ z) (hask : PyKrdh.answers_asked ns = true) (hs : SqL K H a xs) (ha : DwAll K H xs (ns.map PySem.W.WData.int)) :
    spAnswers K (tabsOf cs) [.ref a] H (fun v H' => Dw K H' v (.list ((PyKrdh.answers ns).map PySem.W.WData.int))) E0 := by
  have e := L2.ints_dw ns _ ha
  subst e
  have hz : zs (ns.map Int.toNat) = ns := by
    unfold zs
    rw [List.map_map]
    conv => rhs; rw [← List.map_id ns]
    exact List.map_congr_left fun z hz => by
      show ((z.toNat : Nat) : Int) = z
      have := hb z hz
      omega
  have hn : nV (ns.map Int.toNat) = ns.map V.int := by
    conv => rhs; rw [← hz]
    unfold nV zs
    rw [List.map_map, List.map_map, List.map_map]
    rfl
  refine ⟨a, ns.map Int.toNat, rfl, by rw [hn]; exact hs, by rw [List.length_map]; exact hlen, by rw [hz]; exact hask, tabs_start hT, fun p H' hp => ?_⟩
  rw [hz] at hp
  exact .lst (SqL.of hp) (dw_ints _)
end My

namespace My
open PySem L2
theorem bGreatestCommon : BindOk "greatest_common" sGreatestCommon ["first", "second"] := fun _ _ _ _ _ _ us hl => match us, hl with | [_, _], _ => rfl
theorem bReduced : BindOk "reduced" sReduced ["upper", "lower"] := fun _ _ _ _ _ _ us hl => match us, hl with | [_, _], _ => rfl
theorem bPlus : BindOk "plus" sPlus ["left", "right"] := fun _ _ _ _ _ _ us hl => match us, hl with | [_, _], _ => rfl
theorem bMinus : BindOk "minus" sMinus ["left", "right"] := fun _ _ _ _ _ _ us hl => match us, hl with | [_, _], _ => rfl
theorem bProduct : BindOk "product" sProduct ["left", "right"] := fun _ _ _ _ _ _ us hl => match us, hl with | [_, _], _ => rfl
theorem bQuotient : BindOk "quotient" sQuotient ["left", "right"] := fun _ _ _ _ _ _ us hl => match us, hl with | [_, _], _ => rfl
theorem bTimes : BindOk "times" sTimes ["part", "many"] := fun _ _ _ _ _ _ us hl => match us, hl with | [_, _], _ => rfl
theorem bDivided : BindOk "divided" sDivided ["part", "many"] := fun _ _ _ _ _ _ us hl => match us, hl with | [_, _], _ => rfl
theorem bSize : BindOk "size" sSize ["part"] := fun _ _ _ _ _ _ us hl => match us, hl with | [_], _ => rfl
theorem bIsLess : BindOk "is_less" sIsLess ["left", "right"] := fun _ _ _ _ _ _ us hl => match us, hl with | [_, _], _ => rfl
theorem bLesser : BindOk "lesser" sLesser ["left", "right"] := fun _ _ _ _ _ _ us hl => match us, hl with | [_, _], _ => rfl
theorem bGroupInit (kV doc pm : Value) (an : Option Addr) (cdv ct : Value) (us : List Value) (hl : us.length = (["self", "scores"] : List Str).length) : bindArgs (PySem.W.fnOf "__init__" "Group.__init__" (defArgs sGroupInit) (defBody sGroupInit) (defScope sGroupInit) .none kV doc pm an cdv ct) ⟨us, []⟩ = pure ((["self", "scores"] : List Str).zip us) := match us, hl with | [_, _], _ => rfl
theorem bLacksSomebody : BindOk "lacks_somebody" sLacksSomebody ["group"] := fun _ _ _ _ _ _ us hl => match us, hl with | [_], _ => rfl
theorem bPartChosen : BindOk "part_chosen" sPartChosen ["people", "chances"] := fun _ _ _ _ _ _ us hl => match us, hl with | [_, _], _ => rfl
theorem bHasMoreSo : BindOk "has_more_so" sHasMoreSo ["group", "first", "second"] := fun _ _ _ _ _ _ us hl => match us, hl with | [_, _, _], _ => rfl
theorem bPutInOrder : BindOk "put_in_order" sPutInOrder ["given", "is_ahead"] := fun _ _ _ _ _ _ us hl => match us, hl with | [_, _], _ => rfl
theorem bScoresInOrder : BindOk "scores_in_order" sScoresInOrder ["group"] := fun _ _ _ _ _ _ us hl => match us, hl with | [_], _ => rfl
theorem bScoresFromOtherEnd : BindOk "scores_from_other_end" sScoresFromOtherEnd ["group"] := fun _ _ _ _ _ _ us hl => match us, hl with | [_], _ => rfl
theorem bChancesAlong : BindOk "chances_along" sChancesAlong ["group", "order", "x"] := fun _ _ _ _ _ _ us hl => match us, hl with | [_, _, _], _ => rfl
theorem bMostChances : BindOk "most_chances" sMostChances ["group", "x"] := fun _ _ _ _ _ _ us hl => match us, hl with | [_, _], _ => rfl
theorem bFewestChances : BindOk "fewest_chances" sFewestChances ["group", "x"] := fun _ _ _ _ _ _ us hl => match us, hl with | [_, _], _ => rfl
theorem bMostY : BindOk "most_y" sMostY ["group", "x"] := fun _ _ _ _ _ _ us hl => match us, hl with | [_, _], _ => rfl
theorem bFewestY : BindOk "fewest_y" sFewestY ["group", "x"] := fun _ _ _ _ _ _ us hl => match us, hl with | [_, _], _ => rfl
theorem bCanReach : BindOk "can_reach" sCanReach ["group", "x", "y"] := fun _ _ _ _ _ _ us hl => match us, hl with | [_, _, _], _ => rfl
theorem bShareOfMost : BindOk "share_of_most" sShareOfMost ["low", "high", "y"] := fun _ _ _ _ _ _ us hl => match us, hl with | [_, _, _], _ => rfl
theorem bChancesFor : BindOk "chances_for" sChancesFor ["group", "x", "y"] := fun _ _ _ _ _ _ us hl => match us, hl with | [_, _, _], _ => rfl
theorem bCornerXs : BindOk "corner_xs" sCornerXs ["group"] := fun _ _ _ _ _ _ us hl => match us, hl with | [_], _ => rfl
theorem bWorthOf : BindOk "worth_of" sWorthOf ["groups", "gain", "loss", "x", "y"] := fun _ _ _ _ _ _ us hl => match us, hl with | [_, _, _, _, _], _ => rfl
theorem bLeadOfFirst : BindOk "lead_of_first" sLeadOfFirst ["groups", "x"] := fun _ _ _ _ _ _ us hl => match us, hl with | [_, _], _ => rfl
theorem bCrossingsBetween : BindOk "crossings_between" sCrossingsBetween ["groups", "left", "right"] := fun _ _ _ _ _ _ us hl => match us, hl with | [_, _, _], _ => rfl
theorem bTurningXs : BindOk "turning_xs" sTurningXs ["groups"] := fun _ _ _ _ _ _ us hl => match us, hl with | [_], _ => rfl
theorem bBestOf : BindOk "best_of" sBestOf ["groups", "gain", "loss"] := fun _ _ _ _ _ _ us hl => match us, hl with | [_, _, _], _ => rfl
theorem bTableInit (kV doc pm : Value) (an : Option Addr) (cdv ct : Value) (us : List Value) (hl : us.length = (["self"] : List Str).length) : bindArgs (PySem.W.fnOf "__init__" "Table.__init__" (defArgs sTableInit) (defBody sTableInit) (defScope sTableInit) .none kV doc pm an cdv ct) ⟨us, []⟩ = pure ((["self"] : List Str).zip us) := match us, hl with | [_], _ => rfl
theorem bHasGroup : BindOk "has_group" sHasGroup ["table", "g"] := fun _ _ _ _ _ _ us hl => match us, hl with | [_, _], _ => rfl
theorem bHasCell : BindOk "has_cell" sHasCell ["table", "g", "s"] := fun _ _ _ _ _ _ us hl => match us, hl with | [_, _, _], _ => rfl
theorem bIsLower : BindOk "is_lower" sIsLower ["number"] := fun _ _ _ _ _ _ us hl => match us, hl with | [_], _ => rfl
theorem bIsPart : BindOk "is_part" sIsPart ["upper", "lower"] := fun _ _ _ _ _ _ us hl => match us, hl with | [_, _], _ => rfl
theorem bAreParts : BindOk "are_parts" sAreParts ["numbers"] := fun _ _ _ _ _ _ us hl => match us, hl with | [_], _ => rfl
theorem bAreGainAndLoss : BindOk "are_gain_and_loss" sAreGainAndLoss ["numbers"] := fun _ _ _ _ _ _ us hl => match us, hl with | [_], _ => rfl
theorem bIsSomebodyLacking : BindOk "is_somebody_lacking" sIsSomebodyLacking ["table"] := fun _ _ _ _ _ _ us hl => match us, hl with | [_], _ => rfl
theorem bRefusalOfBoth : BindOk "refusal_of_both" sRefusalOfBoth ["table", "is_right"] := fun _ _ _ _ _ _ us hl => match us, hl with | [_, _], _ => rfl
theorem bRefusalOfOne : BindOk "refusal_of_one" sRefusalOfOne ["table", "g", "is_right"] := fun _ _ _ _ _ _ us hl => match us, hl with | [_, _, _], _ => rfl
theorem bLaidOut : BindOk "laid_out" sLaidOut ["parts"] := fun _ _ _ _ _ _ us hl => match us, hl with | [_], _ => rfl
theorem bAnswerBegin : BindOk "answer_begin" sAnswerBegin ["table", "numbers"] := fun _ _ _ _ _ _ us hl => match us, hl with | [_, _], _ => rfl
theorem bAnswerCount : BindOk "answer_count" sAnswerCount ["table", "numbers"] := fun _ _ _ _ _ _ us hl => match us, hl with | [_, _], _ => rfl
theorem bAnswerCell : BindOk "answer_cell" sAnswerCell ["table", "numbers"] := fun _ _ _ _ _ _ us hl => match us, hl with | [_, _], _ => rfl
theorem bAnswerPeople : BindOk "answer_people" sAnswerPeople ["table", "numbers"] := fun _ _ _ _ _ _ us hl => match us, hl with | [_, _], _ => rfl
theorem bAnswerChances : BindOk "answer_chances" sAnswerChances ["table", "numbers"] := fun _ _ _ _ _ _ us hl => match us, hl with | [_, _], _ => rfl
theorem bAnswerPoint : BindOk "answer_point" sAnswerPoint ["table", "numbers"] := fun _ _ _ _ _ _ us hl => match us, hl with | [_, _], _ => rfl
theorem bAnswerBound : BindOk "answer_bound" sAnswerBound ["table", "numbers", "bound"] := fun _ _ _ _ _ _ us hl => match us, hl with | [_, _, _], _ => rfl
theorem bAnswerUpper : BindOk "answer_upper" sAnswerUpper ["table", "numbers"] := fun _ _ _ _ _ _ us hl => match us, hl with | [_, _], _ => rfl
theorem bAnswerLower : BindOk "answer_lower" sAnswerLower ["table", "numbers"] := fun _ _ _ _ _ _ us hl => match us, hl with | [_, _], _ => rfl
theorem bAnswerCan : BindOk "answer_can" sAnswerCan ["table", "numbers"] := fun _ _ _ _ _ _ us hl => match us, hl with | [_, _], _ => rfl
theorem bAnswerReach : BindOk "answer_reach" sAnswerReach ["table", "numbers"] := fun _ _ _ _ _ _ us hl => match us, hl with | [_, _], _ => rfl
theorem bAnswerBoth : BindOk "answer_both" sAnswerBoth ["table", "numbers"] := fun _ _ _ _ _ _ us hl => match us, hl with | [_, _], _ => rfl
theorem bAnswerCorners : BindOk "answer_corners" sAnswerCorners ["table", "numbers"] := fun _ _ _ _ _ _ us hl => match us, hl with | [_, _], _ => rfl
theorem bAnswerBest : BindOk "answer_best" sAnswerBest ["table", "numbers"] := fun _ _ _ _ _ _ us hl => match us, hl with | [_, _], _ => rfl
theorem bAnswerTake : BindOk "answer_take" sAnswerTake ["table", "numbers"] := fun _ _ _ _ _ _ us hl => match us, hl with | [_, _], _ => rfl
theorem bAnswerState : BindOk "answer_state" sAnswerState ["table", "numbers"] := fun _ _ _ _ _ _ us hl => match us, hl with | [_, _], _ => rfl
theorem bEndOfCall : BindOk "end_of_call" sEndOfCall ["calls", "start"] := fun _ _ _ _ _ _ us hl => match us, hl with | [_, _], _ => rfl
theorem bAnswerCall : BindOk "answer_call" sAnswerCall ["table", "number", "numbers"] := fun _ _ _ _ _ _ us hl => match us, hl with | [_, _, _], _ => rfl
theorem bAnswers : BindOk "answers" sAnswers ["calls"] := fun _ _ _ _ _ _ us hl => match us, hl with | [_], _ => rfl
end My

namespace My
open PySem PySem.Spec PyProof.Rows L2 LamX NdefX
/-! ### each def's own promise, by its call's number -/
section
variable {P : Program} {w : World} {K : PySem.W.Frag} {mg : Str → Option Value} {base : Heap} {CT CG : Addr} {T : List (Addr × Str)}
theorem Kept.held {k : Nat} {x : Str} {ps : List Str} {sp : Sp} {f : Addr} (D : Kept P w K mg base k x ps sp) (m : mg x = some (.ref f)) : Held P w K mg base k f sp := by
  obtain ⟨f', fd, F, m', kp, b⟩ := D
  rw [m'] at m
  cases m
  exact ⟨fd, _, F, kp, b⟩
theorem ans_imp {sh sh' : List Nat → Prop} {dec dec' : List Nat → Krdh.Call} (h : ∀ ns, sh' ns → sh ns) (e : ∀ ns, dec' ns = dec ns) : ∀ vs H Q E, spAns K CT CG T sh' dec' vs H Q E → spAns K CT CG T sh dec vs H Q E := fun vs H Q E z => by
  obtain ⟨a, F, d, b, ns, h1, h2, h3, h4, h5, q⟩ := z
  refine ⟨a, F, d, b, ns, h1, h2, h3, h ns h4, h5, ?_⟩
  rw [← e ns]
  exact q
theorem begin_imp {sh sh' : List Nat → Prop} {dec dec' : List Nat → Krdh.Call} (h : ∀ ns, sh' ns → sh ns) (e : ∀ ns, dec' ns = dec ns) : ∀ vs H Q E, spBegin K CT CG T sh' dec' vs H Q E → spBegin K CT CG T sh dec vs H Q E := fun vs H Q E z => by
  obtain ⟨a, F, d, b, ns, h1, h2, h3, h4, h5, q⟩ := z
  refine ⟨a, F, d, b, ns, h1, h2, h3, h ns h4, h5, ?_⟩
  rw [← e ns]
  exact q
theorem len0 {l : List Nat} (h : l.length = 0) : l = [] := List.length_eq_zero_iff.mp h
theorem len1 : ∀ {l : List Nat}, l.length = 1 → ∃ a, l = [a]
  | [a], _ => ⟨a, rfl⟩
theorem len2 : ∀ {l : List Nat}, l.length = 2 → ∃ a b, l = [a, b]
  | [a, b], _ => ⟨a, b, rfl⟩
theorem len3 : ∀ {l : List Nat}, l.length = 3 → ∃ a b c, l = [a, b, c]
  | [a, b, c], _ => ⟨a, b, c, rfl⟩
theorem len4 : ∀ {l : List Nat}, l.length = 4 → ∃ a b c d, l = [a, b, c, d]
  | [a, b, c, d], _ => ⟨a, b, c, d, rfl⟩
theorem len5 : ∀ {l : List Nat}, l.length = 5 → ∃ a b c d e, l = [a, b, c, d, e]
  | [a, b, c, d, e], _ => ⟨a, b, c, d, e, rfl⟩
theorem shape_len {p n : Nat} {ns : List Nat} (h : ShapeOk p ns) (hp : p ≠ 4) (hn : size p = n) : ns.length = n := by
  have := h.2
  rw [if_neg hp] at this
  exact this.trans hn
theorem shape_4 {ns : List Nat} (h : ShapeOk 4 ns) : shChances ns := by
  have := h.2
  rw [if_pos rfl] at this
  obtain ⟨g, b, l, e, hl⟩ := this
  exact ⟨g, b, _, l, e, hl⟩
/-- a def that answers call p keeps that call's promise -/
theorem kept_p {k p : Nat} {x : Str} {sh : List Nat → Prop} {dec : List Nat → Krdh.Call} (D : Kept P w K mg base k x ["table", "numbers"] (spAns K CT CG T sh dec)) (hp : p ≠ 0) (h : ∀ ns, ShapeOk p ns → sh ns) (e : ∀ ns, Dec p ns = dec ns) : Kept P w K mg base k x ["table", "numbers"] (spP K CT CG T p) := by
  unfold spP
  rw [if_neg hp]
  exact D.imp (ans_imp h e)
end
theorem all_mk {P : Program} {w : World} {K : PySem.W.Frag} {h : Heap} {mg : Str → Option Value} {fa : Addr} (q : Program) (X : K.In h) (G : h.Ns mainGlobals mg) (hfa : mg "answers" = some (.ref fa))
    (hGreatestCommon : Has K mg "greatest_common" sGreatestCommon ["first", "second"])
    (hReduced : Has K mg "reduced" sReduced ["upper", "lower"])
    (hPlus : Has K mg "plus" sPlus ["left", "right"])
    (hMinus : Has K mg "minus" sMinus ["left", "right"])
    (hProduct : Has K mg "product" sProduct ["left", "right"])
    (hQuotient : Has K mg "quotient" sQuotient ["left", "right"])
    (hTimes : Has K mg "times" sTimes ["part", "many"])
    (hDivided : Has K mg "divided" sDivided ["part", "many"])
    (hSize : Has K mg "size" sSize ["part"])
    (hIsLess : Has K mg "is_less" sIsLess ["left", "right"])
    (hLesser : Has K mg "lesser" sLesser ["left", "right"])
    (hLacksSomebody : Has K mg "lacks_somebody" sLacksSomebody ["group"])
    (hPartChosen : Has K mg "part_chosen" sPartChosen ["people", "chances"])
    (hHasMoreSo : Has K mg "has_more_so" sHasMoreSo ["group", "first", "second"])
    (hPutInOrder : Has K mg "put_in_order" sPutInOrder ["given", "is_ahead"])
    (hScoresInOrder : Has K mg "scores_in_order" sScoresInOrder ["group"])
    (hScoresFromOtherEnd : Has K mg "scores_from_other_end" sScoresFromOtherEnd ["group"])
    (hChancesAlong : Has K mg "chances_along" sChancesAlong ["group", "order", "x"])
    (hMostChances : Has K mg "most_chances" sMostChances ["group", "x"])
    (hFewestChances : Has K mg "fewest_chances" sFewestChances ["group", "x"])
    (hMostY : Has K mg "most_y" sMostY ["group", "x"])
    (hFewestY : Has K mg "fewest_y" sFewestY ["group", "x"])
    (hCanReach : Has K mg "can_reach" sCanReach ["group", "x", "y"])
    (hShareOfMost : Has K mg "share_of_most" sShareOfMost ["low", "high", "y"])
    (hChancesFor : Has K mg "chances_for" sChancesFor ["group", "x", "y"])
    (hCornerXs : Has K mg "corner_xs" sCornerXs ["group"])
    (hWorthOf : Has K mg "worth_of" sWorthOf ["groups", "gain", "loss", "x", "y"])
    (hLeadOfFirst : Has K mg "lead_of_first" sLeadOfFirst ["groups", "x"])
    (hCrossingsBetween : Has K mg "crossings_between" sCrossingsBetween ["groups", "left", "right"])
    (hTurningXs : Has K mg "turning_xs" sTurningXs ["groups"])
    (hBestOf : Has K mg "best_of" sBestOf ["groups", "gain", "loss"])
    (hHasGroup : Has K mg "has_group" sHasGroup ["table", "g"])
    (hHasCell : Has K mg "has_cell" sHasCell ["table", "g", "s"])
    (hIsLower : Has K mg "is_lower" sIsLower ["number"])
    (hIsPart : Has K mg "is_part" sIsPart ["upper", "lower"])
    (hAreParts : Has K mg "are_parts" sAreParts ["numbers"])
    (hAreGainAndLoss : Has K mg "are_gain_and_loss" sAreGainAndLoss ["numbers"])
    (hIsSomebodyLacking : Has K mg "is_somebody_lacking" sIsSomebodyLacking ["table"])
    (hRefusalOfBoth : Has K mg "refusal_of_both" sRefusalOfBoth ["table", "is_right"])
    (hRefusalOfOne : Has K mg "refusal_of_one" sRefusalOfOne ["table", "g", "is_right"])
    (hLaidOut : Has K mg "laid_out" sLaidOut ["parts"])
    (hAnswerBegin : Has K mg "answer_begin" sAnswerBegin ["table", "numbers"])
    (hAnswerCount : Has K mg "answer_count" sAnswerCount ["table", "numbers"])
    (hAnswerCell : Has K mg "answer_cell" sAnswerCell ["table", "numbers"])
    (hAnswerPeople : Has K mg "answer_people" sAnswerPeople ["table", "numbers"])
    (hAnswerChances : Has K mg "answer_chances" sAnswerChances ["table", "numbers"])
    (hAnswerPoint : Has K mg "answer_point" sAnswerPoint ["table", "numbers"])
    (hAnswerBound : Has K mg "answer_bound" sAnswerBound ["table", "numbers", "bound"])
    (hAnswerUpper : Has K mg "answer_upper" sAnswerUpper ["table", "numbers"])
    (hAnswerLower : Has K mg "answer_lower" sAnswerLower ["table", "numbers"])
    (hAnswerCan : Has K mg "answer_can" sAnswerCan ["table", "numbers"])
    (hAnswerReach : Has K mg "answer_reach" sAnswerReach ["table", "numbers"])
    (hAnswerBoth : Has K mg "answer_both" sAnswerBoth ["table", "numbers"])
    (hAnswerCorners : Has K mg "answer_corners" sAnswerCorners ["table", "numbers"])
    (hAnswerBest : Has K mg "answer_best" sAnswerBest ["table", "numbers"])
    (hAnswerTake : Has K mg "answer_take" sAnswerTake ["table", "numbers"])
    (hAnswerState : Has K mg "answer_state" sAnswerState ["table", "numbers"])
    (hEndOfCall : Has K mg "end_of_call" sEndOfCall ["calls", "start"])
    (hAnswerCall : Has K mg "answer_call" sAnswerCall ["table", "number", "numbers"])
    (hAnswers : Has K mg "answers" sAnswers ["calls"])
    (hG : ∃ C, TxtG K mg C ∧ ∃ fI fdI, Mk K C fI ∧ Fun K "__init__" "Group.__init__" sGroupInit fI fdI ∧ Binds K fdI ["self", "scores"] [])
    (hT : ∃ C, TxtT K mg C ∧ ∃ fI fdI, Mk K C fI ∧ Fun K "__init__" "Table.__init__" sTableInit fI fdI ∧ Binds K fdI ["self"] [])
    (hZ : ∃ aZ aO, TxtZ K mg aZ aO) (hL : ∃ c Pt c' Pt', LamTab K mg "scores_in_order" sScoresInOrder c Pt ∧ LamTab K mg "scores_from_other_end" sScoresFromOtherEnd c' Pt' ∧ Pt ≠ Pt')
    (hA : ∃ aA aS fs, TxtA K mg aA aS fs ∧ Named mg ["answer_begin", "answer_count", "answer_cell", "answer_people", "answer_chances", "answer_point", "answer_upper", "answer_lower", "answer_can", "answer_reach", "answer_both", "answer_corners", "answer_best", "answer_take", "answer_state"] fs) (hAbs : PySem.W.nsIn K mainGlobals "abs" = some none)
    (r1 : ((recsOf q).find? (fun e => e.name == ("scores_in_order" : Str))).isSome = true) (r2 : ((recsOf q).find? (fun e => e.name == ("scores_from_other_end" : Str))).isSome = true) :
    ∃ (fd : FuncData) (cs : List (Addr × Addr)), (∀ p ∈ cs, (∃ x : Str, ((recsOf q).find? (fun e => e.name == x)).isSome = true ∧ PySem.W.tabIn K x = some p) ∧ K.lookup p.2 = Option.none) ∧
        (∀ (s : Shared) (us : List Value), us.length = (["calls"] : List Str).length → BindsTo s fd ⟨us, []⟩ ((["calls"] : List Str).zip us)) ∧
        ∀ base : Heap, K.In base → base.Ns mainGlobals mg → (∀ p ∈ cs, TabB base mg p.1 p.2) → FnOk P w K mg base CX0 13 fa fd ["calls"] (spAnswers K (tabsOf cs)) := by
  obtain ⟨CG, TG, fI, fdI, mkG, FG, bG⟩ := hG
  obtain ⟨CT, TT, fI', fdI', mkT, FT, bT⟩ := hT
  obtain ⟨aZ, aO, Z⟩ := hZ
  obtain ⟨c, Pt, c', Pt', L1, L2', ne⟩ := hL
  obtain ⟨aA, aS, fs, TA, NM⟩ := hA
  obtain ⟨fA, fdA, FA, mA, bA⟩ := hAnswers
  have ef : fA = fa := by
    rw [mA] at hfa
    cases hfa
    rfl
  subst ef
  have mAbs : mg "abs" = none := PySem.W.mg_none_of X G hAbs
  refine ⟨fdA, [(c, Pt), (c', Pt')], fun p hp => ?_, fun s us hl => ?_, fun base KB GB TB => ?_⟩
  · simp only [List.mem_cons, List.not_mem_nil, or_false] at hp
    rcases hp with rfl | rfl
    · exact ⟨⟨_, r1, L1.tab⟩, L1.free⟩
    · exact ⟨⟨_, r2, L2'.tab⟩, L2'.free⟩
  · obtain ⟨oc, od, kV, doc, pm, an, cdv, ct, osl, rfl, lk, hcd⟩ := FA.ex
    exact .of_eq (bAnswers kV doc pm an cdv ct us hl)
  · have TB1 := TB (c, Pt) (List.mem_cons_self ..)
    have TB2 := TB (c', Pt') (List.mem_cons_of_mem _ (List.mem_cons_self ..))
    have eT : tabsOf [(c, Pt), (c', Pt')] = [(Pt, lamName "scores_in_order"), (Pt', lamName "scores_from_other_end")] := rfl
    generalize tabsOf [(c, Pt), (c', Pt')] = T at eT ⊢
    have hm1 : (Pt, lamName "scores_in_order") ∈ T := by rw [eT]; exact List.mem_cons_self ..
    have hm2 : (Pt', lamName "scores_from_other_end") ∈ T := by rw [eT]; exact List.mem_cons_of_mem _ (List.mem_cons_self ..)
    have hu1 : ∀ p ∈ T, p.1 = Pt → p.2 = lamName "scores_in_order" := fun p hp e => by
      rw [eT] at hp
      simp only [List.mem_cons, List.not_mem_nil, or_false] at hp
      rcases hp with rfl | rfl
      · rfl
      · exact absurd e.symm ne
    have hu2 : ∀ p ∈ T, p.1 = Pt' → p.2 = lamName "scores_from_other_end" := fun p hp e => by
      rw [eT] at hp
      simp only [List.mem_cons, List.not_mem_nil, or_false] at hp
      rcases hp with rfl | rfl
      · exact absurd e ne
      · rfl
    have kGcd := ok_gcd (P := P) (w := w) (base := base) hGreatestCommon
    have kRed := ok_reduced hReduced kGcd
    have kPlus := ok_plus hPlus kRed
    have kMinus := ok_minus hMinus kRed
    have kProd := ok_product hProduct kRed
    have kQuot := ok_quotient hQuotient kRed
    have kTimes := ok_times hTimes kRed
    have kDiv := ok_divided hDivided kRed
    have kSize := ok_size (P := P) (w := w) (base := base) hSize mAbs
    have kLess := ok_less (P := P) (w := w) (base := base) hIsLess
    have kLesser := ok_lesser hLesser kLess
    have kLacks := ok_lacks (P := P) (w := w) (base := base) hLacksSomebody TG
    have kPart := ok_part hPartChosen TG Z kPlus kTimes kDiv
    have kMoreSo := ok_more (P := P) (w := w) (base := base) hHasMoreSo TG
    have kOrder := ok_order hScoresInOrder TG hPutInOrder kMoreSo TB1 L1.code hm1 hu1
    have kOther := ok_otherEnd hScoresFromOtherEnd TG hPutInOrder kMoreSo TB2 L2'.code hm2 hu2
    have kAlong := ok_along hChancesAlong TG Z kRed
    have kMost := ok_most hMostChances kOrder kAlong
    have kFew := ok_fewest hFewestChances kOther kAlong
    have kMostY := ok_mostY hMostY TG kPart kMost
    have kFewY := ok_fewestY hFewestY TG kPart kFew
    have kCan := ok_can hCanReach kLess kMostY kFewY
    have kShare := ok_share hShareOfMost Z kMinus kQuot
    have kFor := ok_for hChancesFor TG Z kPlus kMinus kProd kShare kMostY kFewY kMost kFew
    have kCorn := ok_cornerXs hCornerXs TG Z kRed kOrder
    have kPut := ok_put hPutInOrder TG kLess
    have kWorth := ok_worth hWorthOf TG kMinus kTimes
    have kLead := ok_lead hLeadOfFirst kMinus kMostY
    have kCross := ok_cross hCrossingsBetween kLead kPlus kMinus kProd kQuot kSize
    have kTurn := ok_turn hTurningXs TG kLess kPut kCorn kCross
    have kBestOf := ok_bestOf hBestOf kLess kLesser kMostY kWorth kTurn
    have kHasG := ok_hasGroup (P := P) (w := w) (base := base) hHasGroup TG TT
    have kHasC := ok_hasCell hHasCell TT kHasG
    have kIsL := ok_isLower (P := P) (w := w) (base := base) hIsLower TT
    have kIsP := ok_isPart hIsPart kIsL
    have kAreP := ok_areParts hAreParts kIsP
    have kAreG := ok_areGain (P := P) (w := w) (base := base) hAreGainAndLoss TT
    have kLacking := ok_lacking hIsSomebodyLacking TG TT kLacks
    have kRefB := ok_refB hRefusalOfBoth TT kLacking
    have kRefO := ok_refO hRefusalOfOne TT kHasG kRefB
    have kLaid := ok_laid (P := P) (w := w) (base := base) hLaidOut
    have kLaidT := ok_laidT (P := P) (w := w) (base := base) hLaidOut
    have GM : GMake P w K mg base CG := ⟨fI, fdI, mkG, ok_ginit FG TG Z, bG⟩
    have TM : TMake P w K mg base CT := ⟨fI', fdI', mkT, ok_tinit FT TT, bT⟩
    have kA0 := ok_begin (T := T) hAnswerBegin TG TT GM
    have kA1 := ok_count (T := T) hAnswerCount TG TT kHasC
    have kA2 := ok_cell (T := T) hAnswerCell TG TT kHasC
    have kA3 := ok_people (T := T) hAnswerPeople TG TT kHasG
    have kA4 := ok_chances (T := T) hAnswerChances TG TT kHasG kIsP kRed
    have kA5 := ok_point (T := T) hAnswerPoint TG TT kRefO kPart kLaid
    have kBound := ok_bound hAnswerBound TG TT kRefO kIsP kRed kLaid (bounds_held kMostY kFewY)
    have kA6 := ok_upper hAnswerUpper kMostY kBound
    have kA7 := ok_lower hAnswerLower kFewY kBound
    have kA8 := ok_answerCan hAnswerCan TG TT kRefO kAreP kRed kCan
    have kA9 := ok_answerReach hAnswerReach TG TT kRefO kAreP kRed kCan kFor kLaid
    have kA10 := ok_answerBoth hAnswerBoth TG TT kRefB kAreP kRed kCan
    have kA11 := ok_answerCorners hAnswerCorners TG TT kRefO kCorn kMostY kLaid
    have kA12 := ok_answerBest hAnswerBest TG TT kRefB kAreG kBestOf kLaidT
    have kA13 := ok_answerTake hAnswerTake TG TT kRefB kAreG kBestOf kFor
    have kA14 := ok_answerState (T := T) hAnswerState TG TT kLaid
    have HB : ∀ f sp, AnsG K CT CG T fs f sp → Held P w K mg base 11 f sp := by
      rintro f sp ⟨p, hf, rfl⟩
      have n15 := TA.n15
      match fs, n15, NM, hf with
      | [f0, f1, f2, f3, f4, f5, f6, f7, f8, f9, f10, f11, f12, f13, f14], _, ⟨m0, m1, m2, m3, m4, m5, m6, m7, m8, m9, m10, m11, m12, m13, m14, _⟩, hf =>
        match p, hf with
        | 0, hf =>
          cases hf
          have k0 : Kept P w K mg base 3 "answer_begin" ["table", "numbers"] (spP K CT CG T 0) := kA0.imp (begin_imp (fun ns z => len1 (shape_len z (by decide) rfl)) fun _ => rfl)
          exact (k0.mono (by decide)).held m0
        | 1, hf =>
          cases hf
          exact ((kept_p kA1 (p := 1) (by decide) (fun ns z => len4 (shape_len z (by decide) rfl)) fun _ => rfl).mono (by decide)).held m1
        | 2, hf =>
          cases hf
          exact ((kept_p kA2 (p := 2) (by decide) (fun ns z => len2 (shape_len z (by decide) rfl)) fun _ => rfl).mono (by decide)).held m2
        | 3, hf =>
          cases hf
          exact ((kept_p kA3 (p := 3) (by decide) (fun ns z => len1 (shape_len z (by decide) rfl)) fun _ => rfl).mono (by decide)).held m3
        | 4, hf =>
          cases hf
          exact ((kept_p kA4 (p := 4) (by decide) (fun ns z => shape_4 z) fun _ => rfl).mono (by decide)).held m4
        | 5, hf =>
          cases hf
          exact ((kept_p kA5 (p := 5) (by decide) (fun ns z => len1 (shape_len z (by decide) rfl)) fun _ => rfl).mono (by decide)).held m5
        | 6, hf =>
          cases hf
          exact ((kept_p kA6 (p := 6) (by decide) (fun ns z => len3 (shape_len z (by decide) rfl)) fun _ => rfl).mono (by decide)).held m6
        | 7, hf =>
          cases hf
          exact ((kept_p kA7 (p := 7) (by decide) (fun ns z => len3 (shape_len z (by decide) rfl)) fun _ => rfl).mono (by decide)).held m7
        | 8, hf =>
          cases hf
          exact ((kept_p kA8 (p := 8) (by decide) (fun ns z => len5 (shape_len z (by decide) rfl)) fun _ => rfl).mono (by decide)).held m8
        | 9, hf =>
          cases hf
          exact ((kept_p kA9 (p := 9) (by decide) (fun ns z => len5 (shape_len z (by decide) rfl)) fun _ => rfl).mono (by decide)).held m9
        | 10, hf =>
          cases hf
          exact ((kept_p kA10 (p := 10) (by decide) (fun ns z => len4 (shape_len z (by decide) rfl)) fun _ => rfl).mono (by decide)).held m10
        | 11, hf =>
          cases hf
          exact ((kept_p kA11 (p := 11) (by decide) (fun ns z => len1 (shape_len z (by decide) rfl)) fun _ => rfl).mono (by decide)).held m11
        | 12, hf =>
          cases hf
          exact ((kept_p kA12 (p := 12) (by decide) (fun ns z => len2 (shape_len z (by decide) rfl)) fun _ => rfl).mono (by decide)).held m12
        | 13, hf =>
          cases hf
          exact ((kept_p kA13 (p := 13) (by decide) (fun ns z => len2 (shape_len z (by decide) rfl)) fun _ => rfl).mono (by decide)).held m13
        | 14, hf =>
          cases hf
          exact ((kept_p kA14 (p := 14) (by decide) (fun ns z => len0 (shape_len z (by decide) rfl)) fun _ => rfl).mono (by decide)).held m14
        | p + 15, hf => cases hf
    have kEnd := ok_end (P := P) (w := w) (base := base) hEndOfCall TA
    have kCall := ok_call hAnswerCall TT TA HB
    exact ok_answers (k := 10) FA TG TT TM kEnd kCall
end My

open PySem PySem.W PyProof.Rows
set_option maxRecDepth 100000 in
set_option maxHeartbeats 8000000 in
theorem PySem.Challenge.cw_reachedchances_s01_answers_holds : PySem.Challenge.rw_reachedchances_s01_answers.Holds := by
  w_on; k_headS; (case hw => exact ⟨[.list [.int 0, .int 1]], by decide +kernel, by decide +kernel⟩)
  k_fillS
  refine My.walk_specT (r := PySem.Challenge.rw_reachedchances_s01_answers) (k := 13) (ps := ["calls"]) (sp := fun K cs => My.spAnswers K (My.tabsOf cs)) (by decide +kernel) rfl rfl ⟨rfl, by decide, by decide⟩ (fun w h Y => PySem.W.kIn_of Y) ?F ?S
  case F =>
    intro w mg fa h Y KX G hmg
    refine' My.all_mk _ KX G hmg ?hGreatestCommon ?hReduced ?hPlus ?hMinus ?hProduct ?hQuotient ?hTimes ?hDivided ?hSize ?hIsLess ?hLesser ?hLacksSomebody ?hPartChosen ?hHasMoreSo ?hPutInOrder ?hScoresInOrder ?hScoresFromOtherEnd ?hChancesAlong ?hMostChances ?hFewestChances ?hMostY ?hFewestY ?hCanReach ?hShareOfMost ?hChancesFor ?hCornerXs ?hWorthOf ?hLeadOfFirst ?hCrossingsBetween ?hTurningXs ?hBestOf ?hHasGroup ?hHasCell ?hIsLower ?hIsPart ?hAreParts ?hAreGainAndLoss ?hIsSomebodyLacking ?hRefusalOfBoth ?hRefusalOfOne ?hLaidOut ?hAnswerBegin ?hAnswerCount ?hAnswerCell ?hAnswerPeople ?hAnswerChances ?hAnswerPoint ?hAnswerBound ?hAnswerUpper ?hAnswerLower ?hAnswerCan ?hAnswerReach ?hAnswerBoth ?hAnswerCorners ?hAnswerBest ?hAnswerTake ?hAnswerState ?hEndOfCall ?hAnswerCall ?hAnswers ?hG ?hT ?hZ ?hL ?hA ?hAbs ?r1 ?r2
    (case hGreatestCommon => refine' My.has_mk KX G My.bGreatestCommon ?a ?l ?c ?k; (case a => k_is); (case l => k_is); (case c => k_is); (case k => k_is))
    (case hReduced => refine' My.has_mk KX G My.bReduced ?a ?l ?c ?k; (case a => k_is); (case l => k_is); (case c => k_is); (case k => k_is))
    (case hPlus => refine' My.has_mk KX G My.bPlus ?a ?l ?c ?k; (case a => k_is); (case l => k_is); (case c => k_is); (case k => k_is))
    (case hMinus => refine' My.has_mk KX G My.bMinus ?a ?l ?c ?k; (case a => k_is); (case l => k_is); (case c => k_is); (case k => k_is))
    (case hProduct => refine' My.has_mk KX G My.bProduct ?a ?l ?c ?k; (case a => k_is); (case l => k_is); (case c => k_is); (case k => k_is))
    (case hQuotient => refine' My.has_mk KX G My.bQuotient ?a ?l ?c ?k; (case a => k_is); (case l => k_is); (case c => k_is); (case k => k_is))
    (case hTimes => refine' My.has_mk KX G My.bTimes ?a ?l ?c ?k; (case a => k_is); (case l => k_is); (case c => k_is); (case k => k_is))
    (case hDivided => refine' My.has_mk KX G My.bDivided ?a ?l ?c ?k; (case a => k_is); (case l => k_is); (case c => k_is); (case k => k_is))
    (case hSize => refine' My.has_mk KX G My.bSize ?a ?l ?c ?k; (case a => k_is); (case l => k_is); (case c => k_is); (case k => k_is))
    (case hIsLess => refine' My.has_mk KX G My.bIsLess ?a ?l ?c ?k; (case a => k_is); (case l => k_is); (case c => k_is); (case k => k_is))
    (case hLesser => refine' My.has_mk KX G My.bLesser ?a ?l ?c ?k; (case a => k_is); (case l => k_is); (case c => k_is); (case k => k_is))
    (case hLacksSomebody => refine' My.has_mk KX G My.bLacksSomebody ?a ?l ?c ?k; (case a => k_is); (case l => k_is); (case c => k_is); (case k => k_is))
    (case hPartChosen => refine' My.has_mk KX G My.bPartChosen ?a ?l ?c ?k; (case a => k_is); (case l => k_is); (case c => k_is); (case k => k_is))
    (case hHasMoreSo => refine' My.has_mk KX G My.bHasMoreSo ?a ?l ?c ?k; (case a => k_is); (case l => k_is); (case c => k_is); (case k => k_is))
    (case hPutInOrder => refine' My.has_mk KX G My.bPutInOrder ?a ?l ?c ?k; (case a => k_is); (case l => k_is); (case c => k_is); (case k => k_is))
    (case hScoresInOrder => refine' My.has_mk KX G My.bScoresInOrder ?a ?l ?c ?k; (case a => k_is); (case l => k_is); (case c => k_is); (case k => k_is))
    (case hScoresFromOtherEnd => refine' My.has_mk KX G My.bScoresFromOtherEnd ?a ?l ?c ?k; (case a => k_is); (case l => k_is); (case c => k_is); (case k => k_is))
    (case hChancesAlong => refine' My.has_mk KX G My.bChancesAlong ?a ?l ?c ?k; (case a => k_is); (case l => k_is); (case c => k_is); (case k => k_is))
    (case hMostChances => refine' My.has_mk KX G My.bMostChances ?a ?l ?c ?k; (case a => k_is); (case l => k_is); (case c => k_is); (case k => k_is))
    (case hFewestChances => refine' My.has_mk KX G My.bFewestChances ?a ?l ?c ?k; (case a => k_is); (case l => k_is); (case c => k_is); (case k => k_is))
    (case hMostY => refine' My.has_mk KX G My.bMostY ?a ?l ?c ?k; (case a => k_is); (case l => k_is); (case c => k_is); (case k => k_is))
    (case hFewestY => refine' My.has_mk KX G My.bFewestY ?a ?l ?c ?k; (case a => k_is); (case l => k_is); (case c => k_is); (case k => k_is))
    (case hCanReach => refine' My.has_mk KX G My.bCanReach ?a ?l ?c ?k; (case a => k_is); (case l => k_is); (case c => k_is); (case k => k_is))
    (case hShareOfMost => refine' My.has_mk KX G My.bShareOfMost ?a ?l ?c ?k; (case a => k_is); (case l => k_is); (case c => k_is); (case k => k_is))
    (case hChancesFor => refine' My.has_mk KX G My.bChancesFor ?a ?l ?c ?k; (case a => k_is); (case l => k_is); (case c => k_is); (case k => k_is))
    (case hCornerXs => refine' My.has_mk KX G My.bCornerXs ?a ?l ?c ?k; (case a => k_is); (case l => k_is); (case c => k_is); (case k => k_is))
    (case hWorthOf => refine' My.has_mk KX G My.bWorthOf ?a ?l ?c ?k; (case a => k_is); (case l => k_is); (case c => k_is); (case k => k_is))
    (case hLeadOfFirst => refine' My.has_mk KX G My.bLeadOfFirst ?a ?l ?c ?k; (case a => k_is); (case l => k_is); (case c => k_is); (case k => k_is))
    (case hCrossingsBetween => refine' My.has_mk KX G My.bCrossingsBetween ?a ?l ?c ?k; (case a => k_is); (case l => k_is); (case c => k_is); (case k => k_is))
    (case hTurningXs => refine' My.has_mk KX G My.bTurningXs ?a ?l ?c ?k; (case a => k_is); (case l => k_is); (case c => k_is); (case k => k_is))
    (case hBestOf => refine' My.has_mk KX G My.bBestOf ?a ?l ?c ?k; (case a => k_is); (case l => k_is); (case c => k_is); (case k => k_is))
    (case hHasGroup => refine' My.has_mk KX G My.bHasGroup ?a ?l ?c ?k; (case a => k_is); (case l => k_is); (case c => k_is); (case k => k_is))
    (case hHasCell => refine' My.has_mk KX G My.bHasCell ?a ?l ?c ?k; (case a => k_is); (case l => k_is); (case c => k_is); (case k => k_is))
    (case hIsLower => refine' My.has_mk KX G My.bIsLower ?a ?l ?c ?k; (case a => k_is); (case l => k_is); (case c => k_is); (case k => k_is))
    (case hIsPart => refine' My.has_mk KX G My.bIsPart ?a ?l ?c ?k; (case a => k_is); (case l => k_is); (case c => k_is); (case k => k_is))
    (case hAreParts => refine' My.has_mk KX G My.bAreParts ?a ?l ?c ?k; (case a => k_is); (case l => k_is); (case c => k_is); (case k => k_is))
    (case hAreGainAndLoss => refine' My.has_mk KX G My.bAreGainAndLoss ?a ?l ?c ?k; (case a => k_is); (case l => k_is); (case c => k_is); (case k => k_is))
    (case hIsSomebodyLacking => refine' My.has_mk KX G My.bIsSomebodyLacking ?a ?l ?c ?k; (case a => k_is); (case l => k_is); (case c => k_is); (case k => k_is))
    (case hRefusalOfBoth => refine' My.has_mk KX G My.bRefusalOfBoth ?a ?l ?c ?k; (case a => k_is); (case l => k_is); (case c => k_is); (case k => k_is))
    (case hRefusalOfOne => refine' My.has_mk KX G My.bRefusalOfOne ?a ?l ?c ?k; (case a => k_is); (case l => k_is); (case c => k_is); (case k => k_is))
    (case hLaidOut => refine' My.has_mk KX G My.bLaidOut ?a ?l ?c ?k; (case a => k_is); (case l => k_is); (case c => k_is); (case k => k_is))
    (case hAnswerBegin => refine' My.has_mk KX G My.bAnswerBegin ?a ?l ?c ?k; (case a => k_is); (case l => k_is); (case c => k_is); (case k => k_is))
    (case hAnswerCount => refine' My.has_mk KX G My.bAnswerCount ?a ?l ?c ?k; (case a => k_is); (case l => k_is); (case c => k_is); (case k => k_is))
    (case hAnswerCell => refine' My.has_mk KX G My.bAnswerCell ?a ?l ?c ?k; (case a => k_is); (case l => k_is); (case c => k_is); (case k => k_is))
    (case hAnswerPeople => refine' My.has_mk KX G My.bAnswerPeople ?a ?l ?c ?k; (case a => k_is); (case l => k_is); (case c => k_is); (case k => k_is))
    (case hAnswerChances => refine' My.has_mk KX G My.bAnswerChances ?a ?l ?c ?k; (case a => k_is); (case l => k_is); (case c => k_is); (case k => k_is))
    (case hAnswerPoint => refine' My.has_mk KX G My.bAnswerPoint ?a ?l ?c ?k; (case a => k_is); (case l => k_is); (case c => k_is); (case k => k_is))
    (case hAnswerBound => refine' My.has_mk KX G My.bAnswerBound ?a ?l ?c ?k; (case a => k_is); (case l => k_is); (case c => k_is); (case k => k_is))
    (case hAnswerUpper => refine' My.has_mk KX G My.bAnswerUpper ?a ?l ?c ?k; (case a => k_is); (case l => k_is); (case c => k_is); (case k => k_is))
    (case hAnswerLower => refine' My.has_mk KX G My.bAnswerLower ?a ?l ?c ?k; (case a => k_is); (case l => k_is); (case c => k_is); (case k => k_is))
    (case hAnswerCan => refine' My.has_mk KX G My.bAnswerCan ?a ?l ?c ?k; (case a => k_is); (case l => k_is); (case c => k_is); (case k => k_is))
    (case hAnswerReach => refine' My.has_mk KX G My.bAnswerReach ?a ?l ?c ?k; (case a => k_is); (case l => k_is); (case c => k_is); (case k => k_is))
    (case hAnswerBoth => refine' My.has_mk KX G My.bAnswerBoth ?a ?l ?c ?k; (case a => k_is); (case l => k_is); (case c => k_is); (case k => k_is))
    (case hAnswerCorners => refine' My.has_mk KX G My.bAnswerCorners ?a ?l ?c ?k; (case a => k_is); (case l => k_is); (case c => k_is); (case k => k_is))
    (case hAnswerBest => refine' My.has_mk KX G My.bAnswerBest ?a ?l ?c ?k; (case a => k_is); (case l => k_is); (case c => k_is); (case k => k_is))
    (case hAnswerTake => refine' My.has_mk KX G My.bAnswerTake ?a ?l ?c ?k; (case a => k_is); (case l => k_is); (case c => k_is); (case k => k_is))
    (case hAnswerState => refine' My.has_mk KX G My.bAnswerState ?a ?l ?c ?k; (case a => k_is); (case l => k_is); (case c => k_is); (case k => k_is))
    (case hEndOfCall => refine' My.has_mk KX G My.bEndOfCall ?a ?l ?c ?k; (case a => k_is); (case l => k_is); (case c => k_is); (case k => k_is))
    (case hAnswerCall => refine' My.has_mk KX G My.bAnswerCall ?a ?l ?c ?k; (case a => k_is); (case l => k_is); (case c => k_is); (case k => k_is))
    (case hAnswers => refine' My.has_mk KX G My.bAnswers ?a ?l ?c ?k; (case a => k_is); (case l => k_is); (case c => k_is); (case k => k_is))
    (case hG => refine' My.group_mk KX G My.bGroupInit ?aC ?a1 ?i1 ?l1 ?c1 ?k1 ?pg ?hd ?po ?sa ?mk ?kc ?nS ?nN ?nC ?bs ?bz ?bl ?br ?bm ?ba ?bb; (case aC => k_is); (case a1 => k_is); (case i1 => k_is); (case l1 => k_is); (case c1 => k_is); (case k1 => k_is); (case pg => k_is); (case hd => k_is); (case po => k_is); (case sa => k_is); (case mk => k_is); (case kc => k_is); (case nS => k_is); (case nN => k_is); (case nC => k_is); (case bs => k_is); (case bz => k_is); (case bl => k_is); (case br => k_is); (case bm => k_is); (case ba => k_is); (case bb => k_is))
    (case hT => refine' My.table_mk KX G My.bTableInit ?aC ?a1 ?i1 ?l1 ?c1 ?k1 ?pg ?hd ?po ?sa ?mk ?kc ?nS ?nG ?n1 ?n2 ?n3 ?n4 ?n5 ?n6 ?n7 ?n8 ?n9 ?n10; (case aC => k_is); (case a1 => k_is); (case i1 => k_is); (case l1 => k_is); (case c1 => k_is); (case k1 => k_is); (case pg => k_is); (case hd => k_is); (case po => k_is); (case sa => k_is); (case mk => k_is); (case kc => k_is); (case nS => k_is); (case nG => k_is); (case n1 => k_is); (case n2 => k_is); (case n3 => k_is); (case n4 => k_is); (case n5 => k_is); (case n6 => k_is); (case n7 => k_is); (case n8 => k_is); (case n9 => k_is); (case n10 => k_is))
    (case hZ => refine' My.zero_mk KX G ?a1 ?a2 ?l1 ?l2 ?c1 ?c2 ?s1 ?s2 ?v1 ?v2; (case a1 => k_is); (case a2 => k_is); (case l1 => k_is); (case l2 => k_is); (case c1 => rfl); (case c2 => rfl); (case s1 => decide); (case s2 => decide); (case v1 => exact My.vals_int (My.vals_int My.vals_nil)); (case v2 => exact My.vals_int (My.vals_int My.vals_nil)))
    (case hL => refine' My.lam2_mk KX G ?a ?l ?e ?l2 ?v ?n ?a' ?l' ?e' ?l2' ?v' ?n' ?ne; (case a => k_is); (case l => k_is); (case e => rfl); (case l2 => k_is); (case v => rfl); (case n => first | rfl | kernel_rfl); (case a' => k_is); (case l' => k_is); (case e' => rfl); (case l2' => k_is); (case v' => rfl); (case n' => first | rfl | kernel_rfl); (case ne => decide))
    (case hA => refine' My.ans_mk KX G ?a0 ?a1 ?a2 ?a3 ?a4 ?a5 ?a6 ?a7 ?a8 ?a9 ?a10 ?a11 ?a12 ?a13 ?a14 ?gA ?gS ?lA ?lS ?cA ?cS ?zA ?zS ?vA ?vS ?nB ?nC; (case a0 => k_is); (case a1 => k_is); (case a2 => k_is); (case a3 => k_is); (case a4 => k_is); (case a5 => k_is); (case a6 => k_is); (case a7 => k_is); (case a8 => k_is); (case a9 => k_is); (case a10 => k_is); (case a11 => k_is); (case a12 => k_is); (case a13 => k_is); (case a14 => k_is); (case gA => k_is); (case gS => k_is); (case lA => k_is); (case lS => k_is); (case cA => rfl); (case cS => rfl); (case zA => decide); (case zS => decide); (case vA => exact My.vals_ref (My.vals_ref (My.vals_ref (My.vals_ref (My.vals_ref (My.vals_ref (My.vals_ref (My.vals_ref (My.vals_ref (My.vals_ref (My.vals_ref (My.vals_ref (My.vals_ref (My.vals_ref (My.vals_ref (My.vals_nil)))))))))))))))); (case vS => exact My.vals_int (My.vals_int (My.vals_int (My.vals_int (My.vals_int (My.vals_int (My.vals_int (My.vals_int (My.vals_int (My.vals_int (My.vals_int (My.vals_int (My.vals_int (My.vals_int (My.vals_int (My.vals_nil)))))))))))))))); (case nB => k_is); (case nC => k_is))
    (case hAbs => k_is)
    (case r1 => decide +kernel)
    (case r2 => decide +kernel)
  case S =>
    intro K cs H xs a hT hwi hask hx
    cases hx with
    | cons h1 h2 =>
      cases h2
      cases h1 with
      | lst hs ha =>
        have q : ((Codec.inLen 0 10500 a.1 && a.1.all (Codec.inInt 0 4294967295)) && true) = true := hwi
        rw [Bool.and_eq_true, Bool.and_eq_true] at q
        exact My.request hT (Codec.inNat_iff.mp q.1.1).2 (fun z hz => (Codec.inInt_iff.mp (List.all_eq_true.mp q.1.2 z hz)).1) hask hs ha
