import PyProof.Rows.All
import Wide.All
import OpenK.AllK
import Wide.FinOn
import KE.KExcInit
import KE.KExcIs
import HandS.ForMost
import HandS.ForExc
import HandS.ExcInit
import HandS.ExcIs
import HandS.ExcField
import HandS.ExcBuiltin
import HandS.MakeKwOnly
import HandS.TryOnly
import HandS.Wide
import HandS.IsInst
import HandS.Zip
import HandS.Conv
import HandS.Style
import HandS.Codes
import KE.KDictPairs
import HandS.Ends
import PySem.Challenge.RW_shownrun_k00_errors_and_primes
set_option Elab.async false
set_option linter.all false
set_option maxRecDepth 100000
namespace K0
/-! mathematics: primes by trial, the inverse, the power -/
def Prm (p : Int) : Prop := 1 < p ∧ ∀ d : Int, d ∣ p → d.natAbs = 1 ∨ d.natAbs = p.natAbs
/-- no d with lo ≤ d < lo + 2 ^ k divides n -/
def clear (n : Nat) : Nat → Nat → Bool
  | 0, lo => n % lo != 0
  | k + 1, lo => clear n k lo && clear n k (lo + 2 ^ k)
theorem clear_ok {n : Nat} : ∀ {k lo : Nat}, clear n k lo = true → ∀ d, lo ≤ d → d < lo + 2 ^ k → ¬ d ∣ n
  | 0, lo, h, d, h1, h2, hd => by
    have e : d = lo := by
      have : (2:Nat) ^ 0 = 1 := rfl
      omega
    subst e
    have := Nat.mod_eq_zero_of_dvd hd
    simp [clear, this] at h
  | k + 1, lo, h, d, h1, h2, hd => by
    unfold clear at h
    rw [Bool.and_eq_true] at h
    by_cases c : d < lo + 2 ^ k
    · exact clear_ok h.1 d h1 c hd
    · refine clear_ok h.2 d (by omega) ?_ hd
      have : (2:Nat) ^ (k + 1) = 2 ^ k + 2 ^ k := by rw [Nat.pow_succ]; omega
      omega
theorem prm_of {n k : Nat} (h1 : 1 < n) (hk : n < (2 + 2 ^ k) * (2 + 2 ^ k)) (h : clear n k 2 = true) : Prm (n : Int) := by
  refine ⟨by omega, fun d hd => ?_⟩
  have hd' : d.natAbs ∣ n := by
    have := Int.natAbs_dvd_natAbs.mpr hd
    simpa using this
  obtain ⟨c, hc⟩ := hd'
  have key : ∀ e : Nat, e ∣ n → 2 ≤ e → 2 + 2 ^ k ≤ e := fun e he h2 => by
    by_cases z : e < 2 + 2 ^ k
    · exact absurd he (clear_ok h e h2 z)
    · omega
  by_cases a1 : d.natAbs = 1
  · exact .inl a1
  · right
    have d0 : d.natAbs ≠ 0 := fun z => by rw [z, Nat.zero_mul] at hc; omega
    by_cases c1 : c = 1
    · rw [c1, Nat.mul_one] at hc
      simp [hc]
    · have c0 : c ≠ 0 := fun z => by rw [z, Nat.mul_zero] at hc; omega
      have k1 := key d.natAbs ⟨c, hc⟩ (by omega)
      have k2 := key c ⟨d.natAbs, by rw [Nat.mul_comm]; exact hc⟩ (by omega)
      have := Nat.mul_le_mul k1 k2
      omega
/-- small primes: every smaller number from 2 on tried -/
theorem prm_small {n : Nat} (h1 : 1 < n) (h : ∀ d, d < n → 2 ≤ d → n % d ≠ 0) : Prm (n : Int) := by
  refine ⟨by omega, fun d hd => ?_⟩
  have hd' : d.natAbs ∣ n := by
    have := Int.natAbs_dvd_natAbs.mpr hd
    simpa using this
  have le := Nat.le_of_dvd (by omega) hd'
  by_cases a1 : d.natAbs = 1
  · exact .inl a1
  · right
    by_cases c : d.natAbs = n
    · simpa using c
    · have d0 : d.natAbs ≠ 0 := fun z => by
        rw [z] at hd'
        have := Nat.eq_zero_of_zero_dvd hd'
        omega
      exact absurd (Nat.mod_eq_zero_of_dvd hd') (h d.natAbs (by omega) (by omega))
def primes : List Int := [2, 3, 5, 7, 11, 13, 17, 31, 97, 193, 257, 769, 7681, 12289, 998244353, 2013265921, 9999999967]
theorem prm_all : ∀ p ∈ primes, Prm p := by
  intro p hp
  simp only [primes, List.mem_cons, List.not_mem_nil, or_false] at hp
  rcases hp with rfl | rfl | rfl | rfl | rfl | rfl | rfl | rfl | rfl | rfl | rfl | rfl | rfl | rfl | rfl | rfl | rfl
  · exact prm_small (n := 2) (by decide) (by decide +kernel)
  · exact prm_small (n := 3) (by decide) (by decide +kernel)
  · exact prm_small (n := 5) (by decide) (by decide +kernel)
  · exact prm_small (n := 7) (by decide) (by decide +kernel)
  · exact prm_small (n := 11) (by decide) (by decide +kernel)
  · exact prm_small (n := 13) (by decide) (by decide +kernel)
  · exact prm_small (n := 17) (by decide) (by decide +kernel)
  · exact prm_small (n := 31) (by decide) (by decide +kernel)
  · exact prm_small (n := 97) (by decide) (by decide +kernel)
  · exact prm_small (n := 193) (by decide) (by decide +kernel)
  · exact prm_small (n := 257) (by decide) (by decide +kernel)
  · exact prm_small (n := 769) (by decide) (by decide +kernel)
  · exact prm_of (n := 7681) (k := 7) (by decide) (by decide +kernel) (by decide +kernel)
  · exact prm_of (n := 12289) (k := 7) (by decide) (by decide +kernel) (by decide +kernel)
  · exact prm_of (n := 998244353) (k := 15) (by decide) (by decide +kernel) (by decide +kernel)
  · exact prm_of (n := 2013265921) (k := 16) (by decide) (by decide +kernel) (by decide +kernel)
  · exact prm_of (n := 9999999967) (k := 17) (by decide) (by decide +kernel) (by decide +kernel)
theorem primes_lt : ∀ p ∈ primes, 1 < p ∧ p < 10 ^ 10 := by decide +kernel

/-! ### the inverse -/
theorem dvd_ml {a b : Int} (c : Int) (h : a ∣ b) : a ∣ c * b := by
  obtain ⟨k, rfl⟩ := h
  exact ⟨c * k, by rw [Int.mul_left_comm]⟩
/-- what holds between two turns -/
structure InvI (w p low high one other : Int) : Prop where
  l0 : 0 ≤ low
  lh : low < high
  hp : high ≤ p
  h1 : 1 < high
  e1 : p ∣ one * w - low
  e2 : p ∣ other * w - high
  co : ∀ d : Int, d ∣ low → d ∣ high → d ∣ 1
theorem inv_start {w p : Int} (P : Prm p) (h : w % p ≠ 0) : InvI w p (w % p) p 1 0 := by
  have p1 := P.1
  have a := Int.emod_nonneg w (show p ≠ 0 by omega)
  have b := Int.emod_lt_of_pos w (show 0 < p by omega)
  refine ⟨a, b, Int.le_refl _, p1, ?_, ?_, fun d h1 h2 => ?_⟩
  · rw [Int.one_mul]
    exact Int.dvd_self_sub_emod
  · rw [Int.zero_mul, Int.zero_sub]
    exact Int.dvd_neg.mpr (Int.dvd_refl p)
  · rcases P.2 d h2 with q | q
    · have : d ∣ 1 := Int.natAbs_dvd_natAbs.mp (by rw [q]; exact Nat.dvd_refl 1)
      exact this
    · exfalso
      have z : p.natAbs ∣ (w % p).natAbs := by rw [← q]; exact Int.natAbs_dvd_natAbs.mpr h1
      have le := Nat.le_of_dvd (by omega) z
      omega
theorem inv_turn {w p low high one other : Int} (I : InvI w p low high one other) (h : 1 < low) :
    InvI w p (high - high / low * low) low (other - high / low * one) one ∧ (high - high / low * low).toNat < low.toNat := by
  have m := Int.emod_nonneg high (show low ≠ 0 by omega)
  have m2 := Int.emod_lt_of_pos high (show 0 < low by omega)
  have e : high - high / low * low = high % low := by
    have := Int.mul_ediv_add_emod high low
    rw [Int.mul_comm]
    omega
  refine ⟨⟨by omega, by omega, by have := I.lh; have := I.hp; omega, h, ?_, I.e1, fun d h1 h2 => ?_⟩, by omega⟩
  · have q := Int.dvd_sub I.e2 (dvd_ml (high / low) I.e1)
    have e3 : (other - high / low * one) * w - (high - high / low * low) = other * w - high - high / low * (one * w - low) := by
      rw [Int.sub_mul, Int.mul_sub, Int.mul_assoc]
      omega
    rw [e3]
    exact q
  · refine I.co d h2 ?_
    have q := Int.dvd_add h1 (dvd_ml (high / low) h2)
    have : high - high / low * low + high / low * low = high := by omega
    rw [this] at q
    exact q
theorem inv_end {w p low high one other : Int} (I : InvI w p low high one other) (h : ¬ 1 < low) :
    0 < one % p ∧ one % p < p ∧ (one % p * w) % p = 1 := by
  have l0 := I.l0
  have p1 : 1 < p := Int.lt_of_lt_of_le I.h1 I.hp
  have l1 : low = 1 := by
    by_cases z : low = 0
    · exfalso
      have := I.co high (by rw [z]; exact Int.dvd_zero _) (Int.dvd_refl _)
      have := Int.le_of_dvd (by omega) this
      have := I.h1
      omega
    · omega
  have a := Int.emod_nonneg one (show p ≠ 0 by omega)
  have b := Int.emod_lt_of_pos one (show 0 < p by omega)
  have c : (one % p * w) % p = 1 := by
    have e1 := I.e1
    rw [l1] at e1
    have : (one * w) % p = 1 % p := Int.emod_eq_emod_iff_emod_sub_eq_zero.mpr (Int.emod_eq_zero_of_dvd e1)
    rw [Int.mul_emod, Int.emod_emod, ← Int.mul_emod, this]
    exact Int.emod_eq_of_lt (by omega) p1
  refine ⟨?_, b, c⟩
  by_cases z : one % p = 0
  · rw [z, Int.zero_mul, Int.zero_emod] at c
    omega
  · omega

/-! ### the power -/
theorem pow_turn1 {p made base : Int} {n : Nat} : (made * base ^ (2 * n + 1)) % p = ((made * base % p) * (base * base % p) ^ n) % p := by
  have e : made * base ^ (2 * n + 1) = (made * base) * (base * base) ^ n := by
    rw [Int.pow_succ, Int.pow_mul, show base ^ 2 = base * base by rw [Int.pow_succ, Int.pow_succ, Int.pow_zero, Int.one_mul]]
    rw [Int.mul_comm ((base * base) ^ n) base, Int.mul_assoc]
  have pm : ∀ m : Nat, ∀ x : Int, (x % p) ^ m % p = x ^ m % p := by
    intro m x
    induction m with
    | zero => rw [Int.pow_zero, Int.pow_zero]
    | succ m ih => rw [Int.pow_succ, Int.pow_succ, Int.mul_emod, ih, Int.emod_emod, ← Int.mul_emod]
  rw [e, Int.mul_emod, ← pm n (base * base), ← Int.mul_emod, Int.mul_emod (made * base % p), Int.emod_emod, ← Int.mul_emod]
theorem pow_turn0 {p made base : Int} {n : Nat} : (made * base ^ (2 * n)) % p = (made * (base * base % p) ^ n) % p := by
  have e : base ^ (2 * n) = (base * base) ^ n := by
    rw [Int.pow_mul, show base ^ 2 = base * base by rw [Int.pow_succ, Int.pow_succ, Int.pow_zero, Int.one_mul]]
  have pm : ∀ m : Nat, ∀ x : Int, (x % p) ^ m % p = x ^ m % p := by
    intro m x
    induction m with
    | zero => rw [Int.pow_zero, Int.pow_zero]
    | succ m ih => rw [Int.pow_succ, Int.pow_succ, Int.mul_emod, ih, Int.emod_emod, ← Int.mul_emod]
  rw [e, Int.mul_emod, ← pm n (base * base), ← Int.mul_emod]
theorem pow_mod (p x : Int) (m : Nat) : (x % p) ^ m % p = x ^ m % p := by
  induction m with
  | zero => rw [Int.pow_zero, Int.pow_zero]
  | succ m ih => rw [Int.pow_succ, Int.pow_succ, Int.mul_emod, ih, Int.emod_emod, ← Int.mul_emod]
structure InvP (w : Int) (n : Nat) (p made base left : Int) : Prop where
  m0 : 0 ≤ made
  m1 : made < p
  b0 : 0 ≤ base
  b1 : base < p
  l0 : 0 ≤ left
  e : (made * base ^ left.toNat) % p = w ^ n % p
theorem powi_start {w p : Int} (n : Nat) (h : 1 < p) : InvP w n p 1 (w % p) (n : Int) :=
  ⟨by omega, h, Int.emod_nonneg w (by omega), Int.emod_lt_of_pos w (by omega), by omega, by rw [Int.one_mul, Int.toNat_natCast, pow_mod]⟩
theorem powi_turn1 {w p made base left : Int} {n : Nat} (I : InvP w n p made base left) (h : 0 < left) (o : left % 2 = 1) : InvP w n p (made * base % p) (base * base % p) (left / 2) := by
  have p0 : 0 < p := Int.lt_of_le_of_lt I.m0 I.m1
  refine ⟨Int.emod_nonneg _ (by omega), Int.emod_lt_of_pos _ p0, Int.emod_nonneg _ (by omega), Int.emod_lt_of_pos _ p0, by omega, ?_⟩
  have q := I.e
  have : left.toNat = 2 * (left / 2).toNat + 1 := by omega
  rw [this, pow_turn1] at q
  exact q
theorem powi_turn0 {w p made base left : Int} {n : Nat} (I : InvP w n p made base left) (h : 0 < left) (o : ¬ left % 2 = 1) : InvP w n p made (base * base % p) (left / 2) := by
  have p0 : 0 < p := Int.lt_of_le_of_lt I.m0 I.m1
  refine ⟨I.m0, I.m1, Int.emod_nonneg _ (by omega), Int.emod_lt_of_pos _ p0, by omega, ?_⟩
  have q := I.e
  have : left.toNat = 2 * (left / 2).toNat := by omega
  rw [this, pow_turn0] at q
  exact q
theorem powi_end {w p made base left : Int} {n : Nat} (I : InvP w n p made base left) (h : ¬ 0 < left) : made = w ^ n % p := by
  have q := I.e
  have : left.toNat = 0 := by have := I.l0; omega
  rw [this, Int.pow_zero, Int.mul_one, Int.emod_eq_of_lt I.m0 I.m1] at q
  exact q
theorem due_start {w p : Int} (h : 1 < p) : (1 : Int) = w ^ 0 % p := by
  rw [Int.pow_zero, Int.emod_eq_of_lt (by omega) h]
theorem due_turn {w p : Int} (i : Nat) : (w ^ i % p * w) % p = w ^ (i + 1) % p := by
  rw [Int.pow_succ, Int.mul_emod, Int.emod_emod, ← Int.mul_emod]
end K0

set_option maxRecDepth 100000
set_option maxHeartbeats 4000000
namespace PySem
namespace XG
open PySem.W PySem.Calls PyProof.Rows PySem.HandSPX
/-! ### exceptions of the program's own classes, over any base, made with values and keywords -/
section
variable {M : Model} {A : Around} {E : Value → Shared → Prop} {h : Heap} {g : Array GenState} {d : Drawn} {t : Nat} {os : OsState}
variable {nm q : Str} {C N : Addr} {bs bm bmB : List Value} {hdct : Bool} {sn : List Str} {sub : List Value} {ab : Bool} {col : Option Bool} {dd : Option Addr} {k0 k1 k2 k3 k5 : Option Value} {B newId initId : String}
theorem check_new_kw (F : ExcBaseFacts B newId initId bmB) (hT : ∀ X : String, bm.contains (.type X) = bmB.contains (.type X)) {rest : List Value} {kw : List (Str × Value)} {Q : Unit → Shared → Prop}
    (hC : h.get? C = some (excClassObj nm q C N bs bm hdct sn sub ab col dd k0 k1 k2 k3 k5 newId)) (hq : Q () ⟨h, g, d, t, os⟩) : wpAny M A (checkBuiltinCall newId ⟨.ref C :: rest, kw⟩) Q E ⟨h, g, d, t, os⟩ := by
  have hcont : (Value.ref C :: bm).contains (.type B) = true := by rw [List.contains_cons, hT, F.hasB, Bool.or_true]
  have hstar := F.noStar
  simp only [checkBuiltinCall, F.newKind, F.newSplit, F.newRow]
  repeat (first | refine wpAny_loadPart_at hC ?_ | (refine wpAny_isSubtype_exc hC ?_; rw [hcont]) | refine wpAny_staticBase_exc hC ?_ | refine wpAny_madeBy_exc hC ?_ | simp only [bne_self_eq_false, Bool.false_eq_true, if_false] | wp_step)
  exact hq
end
section
variable {prog : Program} {w : World} {A : Around} {E : Value → Shared → Prop} {R : Result → Shared → Prop} {h : Heap} {g : Array GenState} {d : Drawn} {t : Nat} {os : OsState}
variable {nm q : Str} {C N : Addr} {bs bm bmB : List Value} {hdct : Bool} {sn : List Str} {sub : List Value} {ab : Bool} {col : Option Bool} {dd : Option Addr} {k0 k1 k2 k3 k5 : Option Value} {B newId initId : String}
theorem new_kw (F : ExcBaseFacts B newId initId bmB) (hT : ∀ X : String, bm.contains (.type X) = bmB.contains (.type X)) {rest : List Value} {kw : List (Str × Value)}
    (hC : h.get? C = some (excClassObj nm q C N bs bm hdct sn sub ab col dd k0 k1 k2 k3 k5 newId))
    (hq : R (.ok (.ret (.ref (h.objs.size + 1)))) ⟨(h.push { cls := .type "tuple", data := .seq rest.toArray }).push
      { cls := .ref C, data := .fields #[.ref h.objs.size, .none, .none, .none, .bool false, .none] }, g, d, t, os⟩) (hrest : rest.length ≤ sizeLine) :
    codeAny (model prog w) A (.builtin newId ⟨.ref C :: rest, kw⟩) R ⟨h, g, d, t, os⟩ := by
  have hends := F.ends
  have hcB : (Value.ref C :: bm).contains (.type B) = true := by rw [List.contains_cons, hT, F.hasB, Bool.or_true]
  have hcA : (Value.ref C :: bm).contains (.type "AttributeError") = false := by rw [List.contains_cons, hT, F.noAttr]; rfl
  have hcN : (Value.ref C :: bm).contains (.type "NameError") = false := by rw [List.contains_cons, hT, F.noName]; rfl
  refine codeAny_builtinAt F.entry ?_
  unfold Builtin.«BaseException.__new__»
  refine wpAt_bind ?_
  show wpAt _ _ _ (stack >>= _) _ _ _
  refine wpAt_bind (wpAt_stack fun p below => wpAt_of_wpAny ?_)
  wp_walk
  refine wpAt_of_wpAny ?_
  rw [F.owner]
  repeat (first | with_reducible refine wpAny_madeHere_exc F.canon hC ?_ | with_reducible refine wpAny_loadPart_at hC ?_ | (with_reducible refine wpAny_isSubtype_exc hC ?_; first | rw [hcB] | rw [hcA] | rw [hcN]) | wp_step)
  show R _ _
  rw [Heap.size_push]
  exact hq
theorem type_call_kw (F : ExcBaseFacts B newId initId bmB) (hT : ∀ X : String, bm.contains (.type X) = bmB.contains (.type X)) {rest : List Value} {kw : List (Str × Value)} {fI : Addr} {Q : Fin → Shared → Prop}
    (hC : h.get? C = some (excClassObj nm q C N bs bm hdct sn sub ab col dd k0 k1 k2 k3 k5 newId))
    (hi : W.Looks (model prog w) h (typeLookup (.ref C) "__init__") (some (.ref fI))) (hb : ∀ self, W.Looks (model prog w) h (bindSpecial (.ref fI) self) (.ref fI, [self])) (hrest : rest.length ≤ sizeLine)
    (hq : codeAny (model prog w) A (.call (.ref fI) ⟨.ref (h.objs.size + 1) :: rest, kw⟩)
      (fun r s' => match r with | .ok (.ret v) => v = .none ∧ Q (.done (.ret (.ref (h.objs.size + 1)))) s' | .ok _ => False | .error e => E e s')
      ⟨(h.push (W.kdv_tup rest)).push (excO C h.objs.size), g, d, t, os⟩) :
    wpAny (model prog w) A (Builtin.«type.__call__» ⟨.ref C :: rest, kw⟩) Q E ⟨h, g, d, t, os⟩ := by
  repeat (first | with_reducible refine wpAny_loadPart_at hC ?_ | with_reducible refine wpAny_madeBy_exc hC ?_ | wp_step)
  refine codeAny_call_builtin_code (Code.quiet_builtin _ F.quiet) (check_new_kw F hT hC ?_)
  refine new_kw F hT hC ?_ hrest
  show wpAny _ _ _ _ _ _
  have k : ∀ b o, h.get? b = some o → ((h.push (W.kdv_tup rest)).push (excO C h.objs.size)).get? b = some o := fun b o e => Heap.get?_push_of_some _ (Heap.get?_push_of_some _ e)
  have hC₁ := k _ _ hC
  have hget : ((h.push (W.kdv_tup rest)).push (excO C h.objs.size)).get? (h.objs.size + 1) = some (excO C h.objs.size) := by heap_get
  have hcC : (Value.ref C :: bm).contains (.ref C) = true := by simp
  have i1 := hi.keeps k
  have b1 := (hb (.ref (h.objs.size + 1))).keeps k
  unfold isInstance
  repeat (first | with_reducible refine wpAny_loadPart_at hget ?_ | (with_reducible refine wpAny_isSubtype_exc hC₁ ?_; rw [hcC]) | wp_step)
  show wpAny _ _ (typeLookup (.ref C) _) _ _ _
  refine i1.at ?_
  refine wpAny_holding (wpAny_bind (b1.at ?_))
  refine wpAny_bind (wpAny_call (codeAny_mono hq fun r s' z => ?_))
  rcases r with e | (v | _ | _ | _) <;> first | exact z | exact z.elim | skip
  obtain ⟨rfl, z⟩ := z
  first
    | exact wpAny_pure (wpAny_pure z)
    | (wp_walk; exact z)
theorem check_tc_kw {M : Model} {A : Around} {E : Value → Shared → Prop} {h : Heap} {g : Array GenState} {d : Drawn} {t : Nat} {os : OsState} {nm q : Str} {C N : Addr} {bs bm : List Value} {hdct : Bool} {sn : List Str} {sub : List Value} {ab : Bool} {col : Option Bool} {dd : Option Addr} {k0 k1 k2 k3 k5 : Option Value} {newId : String} {rest : List Value} {kw : List (Str × Value)} {Q : Unit → Shared → Prop} (hC : h.get? C = some (excClassObj nm q C N bs bm hdct sn sub ab col dd k0 k1 k2 k3 k5 newId))
    (hq : Q () ⟨h, g, d, t, os⟩) : wpAny M A (checkBuiltinCall "type.__call__" ⟨.ref C :: rest, kw⟩) Q E ⟨h, g, d, t, os⟩ := by
  have f3 := tc_sub
  have hT : (⟨h, g, d, t, os⟩ : Shared).TypeIs (.ref C) "type" := ⟨_, hC, rfl⟩
  simp only [checkBuiltinCall, tc_kind, tc_split]
  repeat (any_goals (first | assumption | with_reducible refine wpAny_loadPart_at hC ?_ | with_reducible refine wpAny_onRaise ?_ | with_reducible refine wpAny_map ?_ | wp_step))
theorem call_kw (F : ExcBaseFacts B newId initId bmB) (hT : ∀ X : String, bm.contains (.type X) = bmB.contains (.type X)) {rest : List Value} {kw : List (Str × Value)} {fI : Addr}
    (hC : h.get? C = some (excClassObj nm q C N bs bm hdct sn sub ab col dd k0 k1 k2 k3 k5 newId))
    (hi : W.Looks (model prog w) h (typeLookup (.ref C) "__init__") (some (.ref fI))) (hb : ∀ self, W.Looks (model prog w) h (bindSpecial (.ref fI) self) (.ref fI, [self])) (hrest : rest.length ≤ sizeLine)
    (hq : codeAny (model prog w) (A.under (.builtin "type.__call__" ⟨.ref C :: rest, kw⟩)) (.call (.ref fI) ⟨.ref (h.objs.size + 1) :: rest, kw⟩) (W.InitBack (h.objs.size + 1) R)
      ⟨(h.push (W.kdv_tup rest)).push (excO C h.objs.size), g, d, t, os⟩) :
    codeAny (model prog w) A (.call (.ref C) ⟨rest, kw⟩) R ⟨h, g, d, t, os⟩ := by
  have f1 := tc_lookup
  have f2 := tc_bind (.ref C)
  have hTy : (⟨h, g, d, t, os⟩ : Shared).TypeIs (.ref C) "type" := ⟨_, hC, rfl⟩
  refine codeAny_of_tree ?_
  show wpAny _ _ (callAny (.ref C) _) _ _ _
  repeat (any_goals (first | assumption | with_reducible refine wpAny_loadPart_at hC ?_ | wp_step))
  refine ⟨rfl, ?_⟩
  refine codeAny_call_builtin_at (Code.quiet_builtin _ (by decide +kernel)) entry_typeCall (check_tc_kw hC (type_call_kw F hT hC hi hb hrest ?_))
  refine codeAny_mono hq fun r s' z => ?_
  rcases r with e | (v | _ | _ | _) <;> exact z
end
section
open Builtin Builtin.ObjectAttr
variable {prog : Program} {w : World} {A : Around} {E : Value → Shared → Prop} {R : Result → Shared → Prop} {hp : Heap} {g : Array GenState} {d : Drawn} {t : Nat} {os : OsState}
/-- self.f = v on an exception: the walk to its own dict -/
theorem osa_g {K : W.Frag} {name : Str} {tk : Tok} {v : Value} {x C : Addr} {ox : Obj} {od : Option Obj} {cd : ClassData}
    (X : K.In hp) (I : W.InstAt hp x ox C od) (hcd : W.clsIn K C = some cd) (hne : cd.mro.isEmpty = false) (hob : cd.mro.contains (.type "object") = true) (hpass : ∀ self, refuseLoop self "__setattr__" cd.mro = pure ()) (ha : W.findIn K (.ref C) name = some none)
    (hq : wpAny (model prog w) A.in1 (storeInOwnDict (.ref x) (.ref C) (.str name tk) name v false)
      (fun fin s' => match fin with | .done f => R (.ok f) s' | .again c' => c'.quiet = true ∧ codeAny (model prog w) A c' R s') (fun e s' => R (.error e) s') ⟨hp, g, d, t, os⟩) :
    codeAny (model prog w) A (.call (.builtin "object.__setattr__") ⟨[.ref x, .str name tk, v], []⟩) R ⟨hp, g, d, t, os⟩ := by
  have SF := F.store_object
  have sub : W.Looks (model prog w) hp (isInstance (.ref x) (.type "object")) true := I.type.andThen (W.looks_mroIn X (by unfold W.mroIn; rw [hcd, Option.bind_some, if_neg (by rw [hne]; decide), hob]))
  refine codeAny_call_builtin SF.slot.plain SF.entry (@W.check_slot (model prog w) _ _ ⟨hp, g, d, t, os⟩ "object.__setattr__" "object" "__setattr__" (.ref x) [.str name tk, v] [] _ SF.kind SF.split sub (SF.args (.ref x) (.str name tk) v) ?_)
  have hmr : W.Looks (model prog w) hp (mroOf (.ref C)) cd.mro := (W.looks_clsIn X hcd).andThen .now
  have L3 : W.Looks (model prog w) hp (storeTaker? none) none := .now
  rw [W.osa_eq, refuse_eq]
  refine wpAny_bind (wpAny_bind (I.type.at (wpAny_bind (hmr.at ?_))))
  rw [hpass]
  refine wpAny_pure (wpAny_bind (I.type.at (wpAny_bind ((W.looks_findIn X ha).at (wpAny_bind (L3.at ?_))))))
  exact hq
theorem osa_gnew {K : W.Frag} {name : Str} {tk : Tok} {v : Value} {x C : Addr} {fv : Array Value} {cd : ClassData}
    (X : K.In hp) (hx : hp.get? x = some { cls := .ref C, data := .fields fv }) (hcd : W.clsIn K C = some cd) (hne : cd.mro.isEmpty = false) (hob : cd.mro.contains (.type "object") = true) (hpass : ∀ self, refuseLoop self "__setattr__" cd.mro = pure ()) (hh : cd.hasDict = true) (ha : W.findIn K (.ref C) name = some none)
    (hq : ∀ h' tk' dx, (∀ b o, b ≠ x → hp.get? b = some o → h'.get? b = some o) → hp.objs.size ≤ dx → dx ≠ x → h'.get? x = some { cls := .ref C, dict := some dx, data := .fields fv } →
      h'.Ns1 dx (fun y => if y = name then some v else none) → R (.ok (.ret .none)) ⟨h', g, d, tk', os⟩) :
    codeAny (model prog w) A (.call (.builtin "object.__setattr__") ⟨[.ref x, .str name tk, v], []⟩) R ⟨hp, g, d, t, os⟩ := by
  have I : W.InstAt hp x { cls := .ref C, data := .fields fv } C none := ⟨hx, rfl, rfl, trivial⟩
  have hxs : x ≠ hp.objs.size := Nat.ne_of_lt (Heap.lt_size hx)
  refine osa_g X I hcd hne hob hpass ha ?_
  have hcls : W.Looks (model prog w) hp (classData C) cd := W.looks_clsIn X hcd
  obtain ⟨nm, bs, mro, ns, qn, hd, sn, sb, ab, col, del⟩ := cd
  dsimp only at hh
  subst hh
  unfold storeInOwnDict ownDictForStores
  repeat (first | with_reducible refine HandSPX.store_in_new ?_ ?_ | with_reducible refine wpAny_loadPart_at hx ?_ | with_reducible refine hcls.at ?_ | wp_step)
  · exact ⟨_, #[], _, (Heap.get?_update_ne _ _ _ _ hxs.symm).trans (Heap.get?_push_at rfl rfl), rfl, fun e he => absurd he (by simp), fun _ => rfl⟩
  · intro h' tk' hn' hs
    have hx₁ : (hp.push { cls := .type "dict", data := .dict #[] }).get? x = some { cls := .ref C, data := .fields fv } := Heap.get?_push_of_some _ hx
    refine hq h' tk' hp.objs.size (fun b o hb ho => ?_) (Nat.le_refl _) hxs.symm ?_ hn'
    · exact (hs.2 b (Nat.ne_of_lt (Heap.lt_size ho))).trans ((Heap.get?_update_ne _ _ _ _ hb).trans (Heap.get?_push_of_some _ ho))
    · exact (hs.2 x hxs).trans (Heap.get?_update_self _ hx₁ rfl)
theorem osa_gold {K : W.Frag} {name : Str} {tk : Tok} {v : Value} {x C dx : Addr} {fv : Array Value} {cd : ClassData} {m0 : Str → Option Value} {nl : List Str}
    (X : K.In hp) (hx : hp.get? x = some { cls := .ref C, dict := some dx, data := .fields fv }) (hns : hp.Ns1 dx m0) (hw : Within m0 nl) (hz : nl.length ≤ 1000) (hcd : W.clsIn K C = some cd) (hne : cd.mro.isEmpty = false) (hob : cd.mro.contains (.type "object") = true) (hpass : ∀ self, refuseLoop self "__setattr__" cd.mro = pure ()) (hh : cd.hasDict = true)
    (ha : W.findIn K (.ref C) name = some none)
    (hq : ∀ h' tk', (∀ b o, b ≠ dx → hp.get? b = some o → h'.get? b = some o) → h'.Ns1 dx (fun y => if y = name then some v else m0 y) → R (.ok (.ret .none)) ⟨h', g, d, tk', os⟩) :
    codeAny (model prog w) A (.call (.builtin "object.__setattr__") ⟨[.ref x, .str name tk, v], []⟩) R ⟨hp, g, d, t, os⟩ := by
  obtain ⟨oD, esD, epD, hoD, hdD, _⟩ := hns.count hw
  have I : W.InstAt hp x { cls := .ref C, dict := some dx, data := .fields fv } C (some oD) := ⟨hx, rfl, rfl, hoD⟩
  refine osa_g X I hcd hne hob hpass ha ?_
  have hcls : W.Looks (model prog w) hp (classData C) cd := W.looks_clsIn X hcd
  obtain ⟨nm, bs, mro, ns, qn, hd, sn, sb, ab, col, del⟩ := cd
  dsimp only at hh
  subst hh
  unfold storeInOwnDict ownDictForStores
  repeat (first | with_reducible refine PySem.OEX.store_in_old hns hw hz ?_ | with_reducible refine wpAny_loadPart_at hx ?_ | with_reducible refine hcls.at ?_ | wp_step)
  intro h' tk' hn' hs
  exact hq h' tk' (fun b o hb ho => (hs.2 b hb).trans ho) hn'
end
end XG
end PySem
namespace L2
open PySem PySem.Spec PyProof.Rows
/-- what the written part says of an own exception class at C, whatever its base -/
structure XgC (K : PySem.W.Frag) (C : Addr) : Prop where
  cls : ∃ (nm q : Str) (N : Addr) (bs bm : List Value) (sn : List Str) (sub : List Value) (ab : Bool) (col : Option Bool) (dd : Option Addr) (k0 k1 k2 k3 k5 : Option Value) (B newId initId : String) (bmB : List Value),
    PySem.ExcBaseFacts B newId initId bmB ∧ (∀ X : String, bm.contains (.type X) = bmB.contains (.type X)) ∧ bm.contains (.type "object") = true ∧ (∀ self, refuseLoop self "__setattr__" (.ref C :: bm) = pure ()) ∧
    K.lookup C = some (excClassObj nm q C N bs bm true sn sub ab col dd k0 k1 k2 k3 k5 newId)
  sa : PySem.W.findIn K (.ref C) "__setattr__" = some (some (.builtin "object.__setattr__"))
  exC : PySem.W.subIn K (.ref C) (.type "BaseException") = some true
  tyC : PySem.W.typeIn K (.ref C) = some (.type "type")
  kC : PySem.W.keepIn K (.ref C) = true
  ga : PySem.W.findIn K (.ref C) "__getattribute__" = some (some (.builtin "BaseException.__getattribute__"))
  gg : PySem.W.findIn K (.ref C) "__getattr__" = some none
  hd : PySem.W.hasDictIn K C = true
  ha : PySem.W.findIn K (.ref C) "__class__" = some (some (.builtin "object.__class__"))
  hn : PySem.W.specialIn K (.builtin "object.__class__") "__get__" = some (some (.builtin "getset_descriptor.__get__"))
  ht : PySem.W.takesIn K (.builtin "object.__class__") = some true
  hm : PySem.W.mroIn K C (.type "object") = some true
section
variable {X : Cx} {pins : List (Addr × Obj)} {σ : St} {H : Hp} {s : Shared} {a C dx : Addr} {f : Str} {y : V} {u : Value} {fs : List (Str × V)} {Q : Unit → Shared → Prop} {E : Value → Shared → Prop} {A : Around}
theorem xst_new (T : XgC X.K C) (I : Inv X pins σ H s) (e : H a = some (exo a C none)) (hno : PySem.W.findIn X.K (.ref C) f = some none) (ry : RelV y u)
    (h : ∀ dx s', H dx = none → dx ≠ a → Inv X pins σ (upd (upd H dx (exd dx [(f, y)])) a (exo a C (some dx))) s' → Q () s') : wpAny (model X.prog X.w) A (setAttr (.ref a) f u) Q E s := by
  obtain ⟨nm, q, N, bs, bm, sn, sub, ab, col, dd, k0, k1, k2, k3, k5, B, newId, initId, bmB, FB, hT, hob, hpass, hC⟩ := T.cls
  have hcl : PySem.W.clsIn X.K C = some { name := nm, bases := bs, mro := .ref C :: bm, ns := N, qualname := q, hasDict := true, slotNames := sn, subclasses := sub, abstract := ab, collection := col, hasDel := false } := by unfold PySem.W.clsIn; rw [hC] <;> rfl
  obtain ⟨t1, ho⟩ := exo_at I.hok e
  obtain ⟨hp, g, d, t, os⟩ := s
  refine PySem.W.set_plain I.kIn (ox := { cls := .ref C, dict := none, data := .fields #[.ref t1, .none, .none, .none, .bool false, .none] }) (od := none) ⟨ho, rfl, rfl, trivial⟩ T.sa ?_
  refine PySem.XG.osa_gnew I.kIn ho hcl rfl (by show List.contains (Value.ref C :: bm) _ = true; rw [List.contains_cons, hob, Bool.or_true]) hpass rfl hno (fun h' tk' dx k dn dne hx hn => ?_)
  have hnd : H dx = none := I.hok.fresh dn
  have nd : ∀ {b : Addr} {o : Obj}, hp.get? b = some o → b ≠ dx := fun {b o} q => Nat.ne_of_lt (Nat.lt_of_lt_of_le (Heap.lt_size q) dn)
  have na : ∀ {b : Addr}, H b = none → b ≠ a := fun {b} n z => by
    rw [z, e] at n
    cases n
  have Un1 : Un X.fs [] H (upd (upd H dx (exd dx [(f, y)])) a (exo a C (some dx))) hp h' := {
    keep := fun b o q n _ _ => k b o (na n) q
    slot := fun b o q n _ _ => ⟨o.slots, k b o (na n) q⟩
    free := fun b o q n _ => by rw [upd_ne (na n), upd_ne (nd q)]; exact n
    there := fun b o q _ => by
      by_cases hb : b = a
      · exact ⟨_, by rw [hb]; exact hx⟩
      · exact ⟨o, k b o hb q⟩
    tups := fun b xs q => by rw [upd_ne (at_ne e q exo_tup), upd_ne (ne_of_none q hnd)]; exact q
    frzs := fun b o v q => by rw [upd_ne (at_ne e q exo_frz), upd_ne (ne_of_none q hnd)]; exact q
    tbls := fun b ps q => ⟨#[], by rw [upd_ne (at_ne e q exo_tbl), upd_ne (ne_of_none q hnd), q]; simp⟩ }
  refine h dx _ hnd dne (I.un (t' := tk') Un1 fun b o q => ?_)
  by_cases hb : b = a
  · subst hb
    rw [upd_same] at q
    cases q
    exact exo_ok hx
  · rw [upd_ne hb] at q
    by_cases hd : b = dx
    · subst hd
      rw [upd_same] at q
      cases q
      exact exd_ok hn (relO_put (fs := []) ry fun g => True.intro)
    · rw [upd_ne hd] at q
      exact (I.hok b o q).stay (fun c v hc z => k c v (by
          rcases hc with hc | hc
          · rw [hc]
            exact hb
          · exact at_ne e hc exo_own) z)
        (fun c hc => by rw [upd_ne (at_ne e hc exo_own), upd_ne (ne_of_none hc hnd)]; exact hc) (fun c xs hc => by rw [upd_ne (at_ne e hc exo_tup), upd_ne (ne_of_none hc hnd)]; exact hc)
theorem xst_old (T : XgC X.K C) (I : Inv X pins σ H s) (e : H a = some (exo a C (some dx))) (ed : H dx = some (exd dx fs)) (hl : fs.length ≤ 900) (hno : PySem.W.findIn X.K (.ref C) f = some none) (ry : RelV y u)
    (h : ∀ s', Inv X pins σ (upd H dx (exd dx ((f, y) :: fs))) s' → Q () s') : wpAny (model X.prog X.w) A (setAttr (.ref a) f u) Q E s := by
  obtain ⟨nm, q, N, bs, bm, sn, sub, ab, col, dd, k0, k1, k2, k3, k5, B, newId, initId, bmB, FB, hT, hob, hpass, hC⟩ := T.cls
  have hcl : PySem.W.clsIn X.K C = some { name := nm, bases := bs, mro := .ref C :: bm, ns := N, qualname := q, hasDict := true, slotNames := sn, subclasses := sub, abstract := ab, collection := col, hasDel := false } := by unfold PySem.W.clsIn; rw [hC] <;> rfl
  obtain ⟨t1, ho⟩ := exo_at I.hok e
  obtain ⟨mA, hns, rel⟩ := exd_at I.hok ed
  have hw := within_of rel
  obtain ⟨hp, g, d, t, os⟩ := s
  obtain ⟨oD, _, _, hoD, _, _⟩ := hns.count hw
  refine PySem.W.set_plain I.kIn (ox := { cls := .ref C, dict := some dx, data := .fields #[.ref t1, .none, .none, .none, .bool false, .none] }) (od := some oD) ⟨ho, rfl, rfl, hoD⟩ T.sa ?_
  refine PySem.XG.osa_gold I.kIn ho hns hw (by rw [List.length_map]; omega) hcl rfl (by show List.contains (Value.ref C :: bm) _ = true; rw [List.contains_cons, hob, Bool.or_true]) hpass rfl hno (fun h' tk' k hn => ?_)
  have hd : ∃ o, h'.get? dx = some o := by
    obtain ⟨o, _, _, e', _⟩ := hn
    exact ⟨o, e'⟩
  exact h _ (I.write (t' := tk') (x := dx) (e := dx) (o := exd dx ((f, y) :: fs)) (by rw [ed]; exact True.intro) (.inl rfl) k hd (exd_ok hn (relO_put ry rel)))
end
/-- self.f = e in such an __init__ -/
def tXst (K : PySem.W.Frag) (f : Str) (to te : TE) : TS := fun D σ H => te σ H fun y H1 => to σ H1 fun x H2 => ∃ a C : Addr, x = .ref a ∧ XgC K C ∧ PySem.W.findIn K (.ref C) f = some none ∧
  ((H2 a = some (exo a C none) ∧ ∀ dx, H2 dx = none → dx ≠ a → D.nx σ (upd (upd H2 dx (exd dx [(f, y)])) a (exo a C (some dx)))) ∨
    ∃ (dx : Addr) (fs : List (Str × V)), H2 a = some (exo a C (some dx)) ∧ H2 dx = some (exd dx fs) ∧ fs.length ≤ 900 ∧ D.nx σ (upd H2 dx (exd dx ((f, y) :: fs))))
/-- C(..): the made exception, tracked -/
def rMkX (C : Addr) (sp : Sp) (Q : VK) : List V → Hp → Prop := fun zs H1 => ∀ a, H1 a = none → sp (.ref a :: zs) (upd H1 a (exo a C none)) (fun v H2 => v = .non ∧ Q (.ref a) H2) (fun _ _ _ => False)
def tMkX (C : Addr) (sp : Sp) (ta : TA) : TE := fun σ H Q => ta σ H fun vs H1 => vs.length ≤ 1000 ∧ rMkX C sp Q vs H1
def tMkXK (C : Addr) (n : Nat) (sp : Sp) (gV : List V → List V) (tk : TA) : TE := fun σ H Q => tk σ H fun zs H1 => zs.length = n ∧ rMkX C sp Q (gV zs) H1
/-- e.f of a tracked exception -/
def tXat (K : PySem.W.Frag) (f : Str) (te : TE) : TE := fun σ H Q => te σ H fun x H1 => ∃ (a C dx : Addr) (fs : List (Str × V)) (v : V), x = .ref a ∧ XgC K C ∧ PySem.W.findIn K (.ref C) f = some none ∧ H1 a = some (exo a C (some dx)) ∧ H1 dx = some (exd dx fs) ∧ fs.lookup f = some v ∧ Q v H1
/-- isinstance(e, c), e such an exception -/
def rIsX (K : PySem.W.Frag) : List V → Hp → VK → Prop := fun xs H Q => ∃ (a C : Addr) (d : Option Addr) (c : V) (cv : Value) (b : Bool), xs = [.ref a, c] ∧ XgC K C ∧ H a = some (exo a C d) ∧ (∀ dx, d = some dx → ∃ fs, H dx = some (exd dx fs)) ∧ (∀ u, RelV c u → u = cv) ∧ PySem.W.kitOne K (.ref C) cv = some b ∧ Q (.bl b) H
section
variable {X : Cx} {o e : Expr} {es : List Expr} {to te : TE} {ta tk : TA} {f : Str} {p p' p1 p2 pos : Pos}
theorem ps_xst (ho : PE X o to) (he : PE X e te) (hs : swapsWith e (some (.Attribute o f p')) pos.line X.env = pure false := by rfl) : PS X (.Assign [.Attribute o f p'] e pos) (tXst X.K f to te) := by
  refine ⟨fun pins s σ H D I h => ?_⟩
  refine plainObj_wpAny_Assign_Attribute (thn (he.run pins s σ H _ I h) fun v s1 ⟨y, H1, I1, r1, q1⟩ => thn (ho.run pins s1 σ H1 _ I1 q1) fun u s2 ⟨x, H2, I2, r2, a, C, ex, T, hno, q⟩ => ?_) hs
  subst ex
  obtain rfl : u = Value.ref a := r2
  rcases q with ⟨ea, q⟩ | ⟨dx, fs, ea, ed, hl, q⟩
  · exact xst_new T I2 ea hno r1 fun dx s' n ne J => ⟨σ, _, J, q dx n ne⟩
  · exact xst_old T I2 ea ed hl hno r1 fun s' J => ⟨σ, _, J, q⟩
theorem exo_inst {pins : List (Addr × Obj)} {σ : St} {H : Hp} {s : Shared} {a C : Addr} {d : Option Addr} (I : Inv X pins σ H s) (e : H a = some (exo a C d)) (hd : ∀ dx, d = some dx → ∃ fs, H dx = some (exd dx fs)) :
    ∃ ox od, PySem.W.InstAt s.heap a ox C od := by
  obtain ⟨t1, ho⟩ := exo_at I.hok e
  cases d with
  | none => exact ⟨_, none, ho, rfl, rfl, trivial⟩
  | some dx =>
    obtain ⟨fs, ed⟩ := hd dx rfl
    obtain ⟨mA, hns, rel⟩ := exd_at I.hok ed
    obtain ⟨oD, _, _, hoD, _, _⟩ := hns.count (within_of rel)
    exact ⟨_, some oD, ho, rfl, rfl, hoD⟩
theorem pe_xat {n : Str} (he : PE X e te) (hb : attributeBase e n X.env (eval e X.env) = eval e X.env := by rfl) : PE X (.Attribute e n pos) (tXat X.K n te) := by
  refine ⟨fun pins s σ H Q I h => ?_⟩
  refine attr_of hb (thn (he.run pins s σ H _ I h) fun u s1 hh => ?_)
  obtain ⟨x, H1, I1, rx, a, C, dd, fs, v, ex, T, hno, ea, ed, l, q⟩ := hh
  subst ex
  obtain rfl : u = Value.ref a := rx
  obtain ⟨t1, ho⟩ := exo_at I1.hok ea
  obtain ⟨mA, hns, hr⟩ := exd_at I1.hok ed
  obtain ⟨od, hod, hl⟩ := lookIn_ns hns
  obtain ⟨u, hu, ru⟩ := RelO.some_of (v := v) (o := mA n) (by rw [← l]; exact hr n)
  have J : PySem.W.InstAt s1.heap a _ C (some od) := ⟨ho, rfl, rfl, hod⟩
  exact HandSPX.exc_get I1.kIn J T.ga T.gg T.exC (PySem.W.findObj_own T.hd hno rfl (by rw [hl, hu])) (handed_of ru) ⟨v, H1, I1.tok _, ru, q⟩
theorem call_isX : CallR X (.builtin "isinstance") (rIsX X.K) := by
  intro pins s σ H xs us Q I r h
  obtain ⟨a, C, d, c, cv, b, rfl, T, ea, hd, hcv, e, q⟩ := h
  obtain ⟨u1, u2, rfl, r1, r2⟩ := vals2 r
  cases (show u1 = Value.ref a from r1)
  have ec := hcv _ r2
  subst ec
  obtain ⟨ox, od, J⟩ := exo_inst I ea hd
  have hcl : (PySem.W.clsIn X.K C).isSome = true := by
    obtain ⟨cd, hc, _⟩ := PySem.W.any_some T.hd
    rw [hc]; rfl
  exact PySem.W.kia_one (PySem.W.kitx_exc hcl T.ga T.gg T.exC T.ha T.hn T.ht T.hm) I.kIn J e (fun z => nomatch z) fun tk => ⟨.bl b, H, I.tok tk, rfl, q⟩
/-- the run of C(..) -/
theorem run_mkX {pins : List (Addr × Obj)} {σ : St} {H1 : Hp} {s1 : Shared} {Q : VK} {C fI : Addr} {k : Nat} {fd : FuncData} {ps : List Str} {sp : Sp} (T : XgC X.K C) (iC : PySem.W.findIn X.K (.ref C) "__init__" = some (some (.ref fI))) (tI : PySem.W.typeIn X.K (.ref fI) = some (.type "function"))
    (F1 : FnOk X.prog X.w X.K X.mg X.base CX0 k fI fd ps sp) (hr : Room (k + 1) X.A) {us : List Value} {kw : List (Str × Value)} {gs : List Value} {zs : List V} (I1 : Inv X pins σ H1 s1) (hus : us.length ≤ sizeLine)
    (hb : ∀ (s : Shared) (a : Addr), X.K.In s.heap → BindsTo s fd ⟨.ref a :: us, kw⟩ (ps.zip (.ref a :: gs))) (hv : Vals zs gs) (q1 : rMkX C sp Q zs H1) :
    wpAny (model X.prog X.w) X.A (call (.ref C) us kw) (EP X pins σ Q) X.xe s1 := by
  obtain ⟨nm, q, N, bs, bm, sn, sub, ab, col, dd, k0, k1, k2, k3, k5, B, newId, initId, bmB, FB, hT, hob, hpass, hC⟩ := T.cls
  obtain ⟨hp, g, dr, tk, os⟩ := s1
  have hsz : hp.objs.size ≤ hp.objs.size + 1 := Nat.le_succ _
  have hn : H1 (hp.objs.size + 1) = none := I1.hok.fresh hsz
  have hq := q1 (hp.objs.size + 1) hn
  have kk : ∀ b o, hp.get? b = some o → ((hp.push (PySem.W.kdv_tup us)).push (PySem.HandSPX.excO C hp.objs.size)).get? b = some o := fun b o e => Heap.get?_push_of_some _ (Heap.get?_push_of_some _ e)
  have hget : ((hp.push (PySem.W.kdv_tup us)).push (PySem.HandSPX.excO C hp.objs.size)).get? (hp.objs.size + 1) = some (PySem.HandSPX.excO C hp.objs.size) := by heap_get
  have I2 : Inv X pins σ (upd H1 (hp.objs.size + 1) (exo (hp.objs.size + 1) C none)) ⟨(hp.push (PySem.W.kdv_tup us)).push (PySem.HandSPX.excO C hp.objs.size), g, dr, tk, os⟩ :=
    I1.laid (t' := tk) (a := hp.objs.size + 1) (o := exo (hp.objs.size + 1) C none) (h' := (hp.push (PySem.W.kdv_tup us)).push (PySem.HandSPX.excO C hp.objs.size)) kk hsz (exo_ok hget)
  refine wpAny_call (PySem.XG.call_kw FB hT (I1.kIn _ _ hC) (PySem.W.looks_findIn I1.kIn iC) (fun self => PySem.W.bind_fn I1.kIn self tI) hus
    (codeAny_mono (F1.run _ X.stack _ _ ⟨Value.ref (hp.objs.size + 1) :: us, kw⟩ (Value.ref (hp.objs.size + 1) :: gs) _ _ (fun _ _ _ => False) (hr.make C us kw) (I2.env0.make C us kw) (hb _ _ I2.kIn) (show Vals (V.ref (hp.objs.size + 1) :: zs) (Value.ref (hp.objs.size + 1) :: gs) from .cons rfl hv) hq) fun r s' hq' => ?_))
  cases r with
  | error er => exact hq'.elim
  | ok fl =>
    cases fl with
    | ret u =>
      obtain ⟨v, H', I3, rv, ev, q3⟩ := I2.after hq'
      subst ev
      exact ⟨rv, ⟨V.ref (hp.objs.size + 1), H', I3, rfl, q3⟩⟩
    | next => exact False.elim hq'
    | brk => exact False.elim hq'
    | cont => exact False.elim hq'
/-- C(e, ..) as a value -/
theorem pe_mkX {x : Str} {C fI : Addr} {k : Nat} {fd : FuncData} {ps : List Str} {sp : Sp} (T : XgC X.K C) (iC : PySem.W.findIn X.K (.ref C) "__init__" = some (some (.ref fI))) (tI : PySem.W.typeIn X.K (.ref fI) = some (.type "function"))
    (F1 : FnOk X.prog X.w X.K X.mg X.base CX0 k fI fd ps sp) (hr : Room (k + 1) X.A) (hb : Binds X.K fd ps []) (hg : Gl X x) (hm : X.mg x = some (.ref C)) (ha : PA X (e :: es) ta)
    (hdb : (x == ("__debug__" : Str)) = false := by decide) (he : starEach (e :: es) X.env = (false, eval e X.env) :: starEach es X.env := by rfl) (hpl : (backTo pos (starEach es X.env)).any (·.1) = false := by rfl) :
    PE X (.Call (.Name x p) (e :: es) [] pos) (tMkX C sp ta) := by
  refine ⟨fun pins s σ H Q I h => ?_⟩
  refine wpAny_Call_Name_kw (ld_glob I hg hm ?_ hdb)
  refine PySem.W.callWith_K (h₀ := X.base) I.ok.mod.kin T.kC (thn (ha.run pos pins s σ H _ I h) fun us s1 ⟨vs, H1, I1, r1, hz, q1⟩ => ⟨I1.kIn, ?_⟩) he hpl
  have hl : (Value.ref 0 :: us).length = ps.length := by
    obtain ⟨l0, n0⟩ : ∃ a, H1 a = none := ⟨s1.heap.objs.size, I1.hok.fresh (Nat.le_refl _)⟩
    have e := F1.len _ _ _ _ (q1 l0 n0)
    rw [← e, List.length_cons, List.length_cons, Paired.length r1]
  show wpAny _ _ (call (.ref C) us) _ _ _
  refine run_mkX T iC tI F1 hr (gs := us) (zs := vs) I1 (by rw [← Paired.length r1, sizeLine_eq]; omega) (fun s a k => ?_) r1 q1
  have q := hb s (Value.ref a :: us) k (by rw [List.append_nil]; exact hl)
  rw [List.append_nil] at q
  exact q
/-- C(k = v, ..) as a value -/
theorem pe_mkXK {x : Str} {C fI : Addr} {k n : Nat} {fd : FuncData} {ps ks : List Str} {sp : Sp} {kws : List Keyword} {g : List Value → List Value} {gV : List V → List V} (T : XgC X.K C) (iC : PySem.W.findIn X.K (.ref C) "__init__" = some (some (.ref fI))) (tI : PySem.W.typeIn X.K (.ref fI) = some (.type "function"))
    (F1 : FnOk X.prog X.w X.K X.mg X.base CX0 k fI fd ps sp) (hr : Room (k + 1) X.A) (hg : Gl X x) (hm : X.mg x = some (.ref C)) (hn : ks.length = n)
    (hb : ∀ (s : Shared) (a : Addr) (ws : List Value), X.K.In s.heap → ws.length = n → BindsTo s fd ⟨[.ref a], ks.zip ws⟩ (ps.zip (.ref a :: g ws))) (hrel : ∀ {zs : List V} {ws : List Value}, zs.length = n → Vals zs ws → Vals (gV zs) (g ws)) (hkw : PK X kws tk)
    (hall : (backToKw pos (keywordEach kws X.env)).all (·.1.isSome) = true := by rfl) (hks : (backToKw pos (keywordEach kws X.env)).filterMap (·.1) = ks := by rfl) (hdb : (x == ("__debug__" : Str)) = false := by decide)
    (hpl : ((backTo pos (starEach [] X.env)).any (·.1) || (backToKw pos (keywordEach kws X.env)).any (·.1.isNone)) = false := by rfl) :
    PE X (.Call (.Name x p) [] kws pos) (tMkXK C n sp gV tk) := by
  refine ⟨fun pins s σ H Q I h => ?_⟩
  refine wpAny_Call_Name_kw (ld_glob I hg hm ?_ hdb)
  refine PySem.W.callWith_KW0 (h₀ := X.base) I.ok.mod.kin T.kC hall ?_ hpl
  refine thn (hkw.run pos pins s σ H _ I h) fun ws s2 ⟨zs, H2, I2, rz, l2, q2⟩ => ⟨I2.kIn, ?_⟩
  rw [hks]
  exact run_mkX T iC tI F1 hr (us := []) (gs := g ws) (zs := gV zs) I2 (Nat.zero_le _) (fun s a k => hb s a ws k (rz.length.symm.trans l2)) (hrel l2 rz) q2
/-- f(k = v, ..), no value by position -/
theorem pe_callN0 {CX : CXT} {x : Str} {f : Addr} {k : Nat} {fd : FuncData} {ps ks : List Str} {sp : Sp} {E : XK} {kws : List Keyword} {g : List Value → List Value → List Value} {gV : List V → List V → List V} (F : FnOk X.prog X.w X.K X.mg X.base CX k f fd ps sp) (hr : Room k X.A) (hg : Gl X x) (hm : X.mg x = some (.ref f)) (hk : PySem.W.keepIn X.K (.ref f) = true) (hb : KBn X.K fd ps 0 ks g gV) (hx : Passes CX X E)
    (hkw : PK X kws tk) (hall : (backToKw pos (keywordEach kws X.env)).all (·.1.isSome) = true := by rfl) (hks : (backToKw pos (keywordEach kws X.env)).filterMap (·.1) = ks := by rfl)
    (hdb : (x == ("__debug__" : Str)) = false := by decide)
    (hpl : ((backTo pos (starEach [] X.env)).any (·.1) || (backToKw pos (keywordEach kws X.env)).any (·.1.isNone)) = false := by rfl) :
    PE X (.Call (.Name x p) [] kws pos) (tCallN 0 ks.length sp gV E tNil tk) := by
  refine ⟨fun pins s σ H Q I h => ?_⟩
  refine wpAny_Call_Name_kw (ld_glob I hg hm ?_ hdb)
  refine PySem.W.callWith_KW0 (h₀ := X.base) I.ok.mod.kin hk hall ?_ hpl
  refine thn (hkw.run pos pins s σ H _ I h) fun ws s2 ⟨zs, H2, I2, rz, l1, l2, q2⟩ => ⟨I2.kIn, ?_⟩
  rw [hks]
  exact run_fnN (us := []) (vs := []) F hr hb hx I2 .nil rz l1 l2 q2
/-- raise of such an exception: C(e, ..) -/
theorem pmk_x {x : Str} {C fI : Addr} {k : Nat} {fd : FuncData} {ps : List Str} {sp : Sp} (T : XgC X.K C) (iC : PySem.W.findIn X.K (.ref C) "__init__" = some (some (.ref fI))) (tI : PySem.W.typeIn X.K (.ref fI) = some (.type "function"))
    (F1 : FnOk X.prog X.w X.K X.mg X.base CX0 k fI fd ps sp) (hr : Room (k + 1) X.A) (hb : Binds X.K fd ps []) (hg : Gl X x) (hm : X.mg x = some (.ref C)) (ha : PA X (e :: es) ta)
    (hdb : (x == ("__debug__" : Str)) = false := by decide) (he : starEach (e :: es) X.env = (false, eval e X.env) :: starEach es X.env := by rfl) (hpl : (backTo pos (starEach es X.env)).any (·.1) = false := by rfl) :
    PMk X (.Call (.Name x p) (e :: es) [] pos) (tMkO C sp [] ta) := by
  intro pins s σ H Q I h
  obtain ⟨nm, q, N, bs, bm, sn, sub, ab, col, dd, k0, k1, k2, k3, k5, B, newId, initId, bmB, FB, hT, hob, hpass, hC⟩ := T.cls
  refine wpAny_Call_Name_kw (ld_glob I hg hm ?_ hdb)
  refine PySem.W.callWith_K (h₀ := X.base) I.ok.mod.kin T.kC (thn (ha.run pos pins s σ H _ I h) fun us s1 ⟨vs, H1, I1, r1, hz, q1⟩ => ⟨I1.kIn, ?_⟩) he hpl
  show wpAny _ _ (call (.ref C) us) _ _ _
  obtain ⟨hp, g, dr, tk, os⟩ := s1
  have hsz : hp.objs.size ≤ hp.objs.size + 1 := Nat.le_succ _
  have hn : H1 (hp.objs.size + 1) = none := I1.hok.fresh hsz
  have hq := q1 (hp.objs.size + 1) hn
  rw [List.append_nil] at hq
  have kk : ∀ b o, hp.get? b = some o → ((hp.push (PySem.W.kdv_tup us)).push (PySem.HandSPX.excO C hp.objs.size)).get? b = some o := fun b o e => Heap.get?_push_of_some _ (Heap.get?_push_of_some _ e)
  have hget : ((hp.push (PySem.W.kdv_tup us)).push (PySem.HandSPX.excO C hp.objs.size)).get? (hp.objs.size + 1) = some (PySem.HandSPX.excO C hp.objs.size) := by heap_get
  have I2 : Inv X pins σ (upd H1 (hp.objs.size + 1) (exo (hp.objs.size + 1) C none)) ⟨(hp.push (PySem.W.kdv_tup us)).push (PySem.HandSPX.excO C hp.objs.size), g, dr, tk, os⟩ :=
    I1.laid (t' := tk) (a := hp.objs.size + 1) (o := exo (hp.objs.size + 1) C none) (h' := (hp.push (PySem.W.kdv_tup us)).push (PySem.HandSPX.excO C hp.objs.size)) kk hsz (exo_ok hget)
  have r2 : Vals (V.ref (hp.objs.size + 1) :: vs) (Value.ref (hp.objs.size + 1) :: us) := .cons rfl r1
  have hl : (Value.ref (hp.objs.size + 1) :: us).length = ps.length := by
    have e := r2.length
    rw [F1.len _ _ _ _ hq] at e
    exact e.symm
  have hus : us.length ≤ sizeLine := by
    rw [← Paired.length r1, sizeLine_eq]
    omega
  have hbb := hb ⟨(hp.push (PySem.W.kdv_tup us)).push (PySem.HandSPX.excO C hp.objs.size), g, dr, tk, os⟩ (Value.ref (hp.objs.size + 1) :: us) I2.kIn (by rw [List.append_nil]; exact hl)
  rw [List.append_nil] at hbb
  refine wpAny_call (PySem.XG.call_kw FB hT (I1.kIn _ _ hC) (PySem.W.looks_findIn I1.kIn iC) (fun self => PySem.W.bind_fn I1.kIn self tI) hus
    (codeAny_mono (F1.run _ X.stack _ _ ⟨Value.ref (hp.objs.size + 1) :: us, []⟩ (Value.ref (hp.objs.size + 1) :: us) _ _ (fun _ _ _ => False) (hr.make C us []) (I2.env0.make C us []) hbb r2 hq) fun r s' hq' => ?_))
  cases r with
  | error er => exact hq'.elim
  | ok fl =>
    cases fl with
    | ret u =>
      obtain ⟨v, H2, os2, bare2, un2, hok2, rv, ev, d, fs, ea, ed, hd1, q2⟩ := hq'
      subst ev
      obtain ⟨h2, g2, d2, t2, os'⟩ := s'
      exact ⟨rv, mk_end (raises_own T.exC T.tyC) I1 hsz kk un2 hok2 os2 bare2 ea ed hd1 q2⟩
    | next => exact False.elim hq'
    | brk => exact False.elim hq'
    | cont => exact False.elim hq'
end
end L2

set_option maxRecDepth 100000
set_option maxHeartbeats 4000000
namespace K0
open PySem L2
def top (i : Nat) : Stmt := PySem.Challenge.pw_shownrun_k00_errors_and_primes.main.body.getD i (.Pass ⟨0, 0, 0, 0⟩)

abbrev s_is_whole : Stmt := top 15
abbrev s_is_number : Stmt := top 19
abbrev s_fits : Stmt := top 20
abbrev s_generator : Stmt := top 21
abbrev s_inverse : Stmt := top 22
abbrev s_power : Stmt := top 23
abbrev s_box : Stmt := top 25
abbrev s_draw : Stmt := top 26
abbrev s_of : Stmt := top 27
abbrev s_same : Stmt := top 28
abbrev s_prime : Stmt := top 29
abbrev s_number : Stmt := top 30
abbrev s_anything : Stmt := top 31
abbrev s_made : Stmt := top 32
abbrev s_named : Stmt := top 33
abbrev s_told : Stmt := top 34
abbrev s_bases : Stmt := top 35
abbrev s_roots : Stmt := top 36
abbrev s_classes : Stmt := top 37
abbrev s_errors : Stmt := top 38
abbrev s_is_plain : Stmt := top 39
abbrev s_listed : Stmt := top 40
abbrev s_fitting : Stmt := top 41
abbrev s_generators : Stmt := top 42
abbrev s_numbers : Stmt := top 43
abbrev s_turned : Stmt := top 44
abbrev s_powers : Stmt := top 45
abbrev s_law : Stmt := top 46
abbrev s_iBadProgram : Stmt := inClass (top 4) 0
abbrev s_iBadLine : Stmt := inClass (top 5) 0
abbrev s_iBadPrime : Stmt := inClass (top 6) 0
abbrev s_iBadShape : Stmt := inClass (top 7) 0
abbrev s_iBadBook : Stmt := inClass (top 8) 0
abbrev s_iTooMany : Stmt := inClass (top 9) 0
abbrev s_iNotNear : Stmt := inClass (top 10) 0
abbrev s_iUnknownName : Stmt := inClass (top 11) 0
abbrev s_iBroken : Stmt := inClass (top 12) 0
abbrev s_iNotWaiting : Stmt := inClass (top 13) 0
theorem sc_is_whole : FnScope ["value"] ["value"] (defScope s_is_whole) := ⟨rfl, rfl, rfl, by decide +kernel, rfl, by decide +kernel, by decide +kernel⟩
theorem sc_is_number : FnScope ["value", "least", "most"] ["value", "least", "most"] (defScope s_is_number) := ⟨rfl, rfl, rfl, by decide +kernel, rfl, by decide +kernel, by decide +kernel⟩
theorem sc_fits : FnScope ["p", "rows", "size"] ["p", "rows"] (defScope s_fits) := ⟨rfl, rfl, rfl, by decide +kernel, rfl, by decide +kernel, by decide +kernel⟩
theorem sc_generator : FnScope ["p", "generators"] ["p"] (defScope s_generator) := ⟨rfl, rfl, rfl, by decide +kernel, rfl, by decide +kernel, by decide +kernel⟩
theorem sc_inverse : FnScope ["worth", "p", "low", "high", "one", "other", "times"] ["worth", "p"] (defScope s_inverse) := ⟨rfl, rfl, rfl, by decide +kernel, rfl, by decide +kernel, by decide +kernel⟩
theorem sc_power : FnScope ["worth", "count", "p", "made", "base", "left"] ["worth", "count", "p"] (defScope s_power) := ⟨rfl, rfl, rfl, by decide +kernel, rfl, by decide +kernel, by decide +kernel⟩
theorem sc_box : FnScope ["script", "mixed", "cell"] ["script"] (defScope s_box) := ⟨rfl, rfl, rfl, by decide +kernel, rfl, by decide +kernel, by decide +kernel⟩
theorem sc_draw : FnScope ["box", "sides", "cell", "digit", "seed"] ["box", "sides"] (defScope s_draw) := ⟨rfl, rfl, rfl, by decide +kernel, rfl, by decide +kernel, by decide +kernel⟩
theorem sc_of : FnScope ["box", "things"] ["box", "things"] (defScope s_of) := ⟨rfl, rfl, rfl, by decide +kernel, rfl, by decide +kernel, by decide +kernel⟩
theorem sc_same : FnScope ["found", "due", "a", "b"] ["found", "due"] (defScope s_same) := ⟨rfl, rfl, rfl, by decide +kernel, rfl, by decide +kernel, by decide +kernel⟩
theorem sc_prime : FnScope ["box", "way"] ["box"] (defScope s_prime) := ⟨rfl, rfl, rfl, by decide +kernel, rfl, by decide +kernel, by decide +kernel⟩
theorem sc_number : FnScope ["box", "prime", "way"] ["box", "prime"] (defScope s_number) := ⟨rfl, rfl, rfl, by decide +kernel, rfl, by decide +kernel, by decide +kernel⟩
theorem sc_anything : FnScope ["box", "way"] ["box"] (defScope s_anything) := ⟨rfl, rfl, rfl, by decide +kernel, rfl, by decide +kernel, by decide +kernel⟩
theorem sc_made : FnScope ["pick", "one", "two", "named"] ["pick", "one", "two", "named"] (defScope s_made) := ⟨rfl, rfl, rfl, by decide +kernel, rfl, by decide +kernel, by decide +kernel⟩
theorem sc_named : FnScope ["pick", "one", "two"] ["pick", "one", "two"] (defScope s_named) := ⟨rfl, rfl, rfl, by decide +kernel, rfl, by decide +kernel, by decide +kernel⟩
theorem sc_told : FnScope ["pick", "error"] ["pick", "error"] (defScope s_told) := ⟨rfl, rfl, rfl, by decide +kernel, rfl, by decide +kernel, by decide +kernel⟩
theorem sc_bases : FnScope ["error"] ["error"] (defScope s_bases) := ⟨rfl, rfl, rfl, by decide +kernel, rfl, by decide +kernel, by decide +kernel⟩
theorem sc_roots : FnScope ["error"] ["error"] (defScope s_roots) := ⟨rfl, rfl, rfl, by decide +kernel, rfl, by decide +kernel, by decide +kernel⟩
theorem sc_classes : FnScope ["error", "first", "second", "third"] ["error"] (defScope s_classes) := ⟨rfl, rfl, rfl, by decide +kernel, rfl, by decide +kernel, by decide +kernel⟩
theorem sc_errors : FnScope ["box", "drawn", "pick", "one", "two", "error", "other", "due", "group", "k"] ["box"] (defScope s_errors) := ⟨rfl, rfl, rfl, by decide +kernel, rfl, by decide +kernel, by decide +kernel⟩
theorem sc_is_plain : FnScope ["thing"] ["thing"] (defScope s_is_plain) := ⟨rfl, rfl, rfl, by decide +kernel, rfl, by decide +kernel, by decide +kernel⟩
theorem sc_listed : FnScope [] [] (defScope s_listed) := ⟨rfl, rfl, rfl, by decide +kernel, rfl, by decide +kernel, by decide +kernel⟩
theorem sc_fitting : FnScope ["first", "second", "pair"] ["first", "second"] (defScope s_fitting) := ⟨rfl, rfl, rfl, by decide +kernel, rfl, by decide +kernel, by decide +kernel⟩
theorem sc_generators : FnScope ["thing", "caught"] ["thing"] (defScope s_generators) := ⟨rfl, rfl, rfl, by decide +kernel, rfl, by decide +kernel, by decide +kernel⟩
theorem sc_numbers : FnScope ["box", "k", "thing", "low", "high", "due", "first", "second", "told", "pair"] ["box"] (defScope s_numbers) := ⟨rfl, rfl, rfl, by decide +kernel, rfl, by decide +kernel, by decide +kernel⟩
theorem sc_turned : FnScope ["digit", "prime", "named"] ["digit", "prime", "named"] (defScope s_turned) := ⟨rfl, rfl, rfl, by decide +kernel, rfl, by decide +kernel, by decide +kernel⟩
theorem sc_powers : FnScope ["box", "k", "prime", "digit", "told", "times", "due", "step"] ["box"] (defScope s_powers) := ⟨rfl, rfl, rfl, by decide +kernel, rfl, by decide +kernel, by decide +kernel⟩
theorem sc_law : FnScope ["script", "box", "first", "root", "second"] ["script"] (defScope s_law) := ⟨rfl, rfl, rfl, by decide +kernel, rfl, by decide +kernel, by decide +kernel⟩
theorem sc_iBadProgram : FnScope ["self", "line", "why"] ["self", "line", "why"] (defScope s_iBadProgram) := ⟨rfl, rfl, rfl, by decide +kernel, rfl, by decide +kernel, by decide +kernel⟩
theorem sc_iBadLine : FnScope ["self", "field"] ["self", "field"] (defScope s_iBadLine) := ⟨rfl, rfl, rfl, by decide +kernel, rfl, by decide +kernel, by decide +kernel⟩
theorem sc_iBadPrime : FnScope ["self", "p", "rows"] ["self", "p", "rows"] (defScope s_iBadPrime) := ⟨rfl, rfl, rfl, by decide +kernel, rfl, by decide +kernel, by decide +kernel⟩
theorem sc_iBadShape : FnScope ["self", "what", "count"] ["self", "what", "count"] (defScope s_iBadShape) := ⟨rfl, rfl, rfl, by decide +kernel, rfl, by decide +kernel, by decide +kernel⟩
theorem sc_iBadBook : FnScope ["self", "line"] ["self", "line"] (defScope s_iBadBook) := ⟨rfl, rfl, rfl, by decide +kernel, rfl, by decide +kernel, by decide +kernel⟩
theorem sc_iTooMany : FnScope ["self", "what", "most"] ["self", "what", "most"] (defScope s_iTooMany) := ⟨rfl, rfl, rfl, by decide +kernel, rfl, by decide +kernel, by decide +kernel⟩
theorem sc_iNotNear : FnScope ["self", "e"] ["self", "e"] (defScope s_iNotNear) := ⟨rfl, rfl, rfl, by decide +kernel, rfl, by decide +kernel, by decide +kernel⟩
theorem sc_iUnknownName : FnScope ["self", "name"] ["self", "name"] (defScope s_iUnknownName) := ⟨rfl, rfl, rfl, by decide +kernel, rfl, by decide +kernel, by decide +kernel⟩
theorem sc_iBroken : FnScope ["self", "line", "why"] ["self", "line", "why"] (defScope s_iBroken) := ⟨rfl, rfl, rfl, by decide +kernel, rfl, by decide +kernel, by decide +kernel⟩
theorem sc_iNotWaiting : FnScope ["self", "what"] ["self", "what"] (defScope s_iNotWaiting) := ⟨rfl, rfl, rfl, by decide +kernel, rfl, by decide +kernel, by decide +kernel⟩
def kg_is_number {α : Type} : List α → List α → List α
  | _, [m, v, l] => [v, l, m]
  | _, l => l
def kg_fits {α : Type} : List α → List α → List α
  | _, [r, p] => [p, r]
  | _, l => l
def kg_inverse {α : Type} : List α → List α → List α
  | _, [p, x] => [x, p]
  | _, l => l
def kg_power {α : Type} : List α → List α → List α
  | _, [p, c, x] => [x, c, p]
  | _, l => l
def kg_generator {α : Type} : List α → List α → List α
  | _, [p] => [p]
  | _, l => l
def sw2 {α : Type} : List α → List α
  | [a, b] => [b, a]
  | l => l
theorem kr2 {zs : List V} {ws : List Value} (h : zs.length = 2) (r : Vals zs ws) : Vals (sw2 zs) (sw2 ws) := by
  match zs, ws, h, r with
  | [_, _], [_, _], _, .cons a (.cons b .nil) => exact .cons b (.cons a .nil)
theorem kr1 {zs : List V} {ws : List Value} (h : zs.length = 1) (r : Vals zs ws) : Vals (id zs) (id ws) := r
theorem Fun.kwb {K : PySem.W.Frag} {x qual : Str} {st : Stmt} {f : Addr} {fd : FuncData} {ps ks : List Str} {n : Nat} {g : List Value → List Value} (F : Fun K x qual st f fd)
    (h : ∀ (kV doc pm : Value) (an : Option Addr) (cdv ct : Value) (a : Addr) (ws : List Value), ws.length = n → bindArgs (PySem.W.fnOf x qual (defArgs st) (defBody st) (defScope st) .none kV doc pm an cdv ct) ⟨[.ref a], ks.zip ws⟩ = pure (ps.zip (.ref a :: g ws))) :
    ∀ (s : Shared) (a : Addr) (ws : List Value), K.In s.heap → ws.length = n → BindsTo s fd ⟨[.ref a], ks.zip ws⟩ (ps.zip (.ref a :: g ws)) := fun s a ws _ hl => by
  obtain ⟨oc, od, kV, doc, pm, an, cdv, ct, osl, rfl, lk, hcd⟩ := F.ex
  exact .of_eq (h kV doc pm an cdv ct a ws hl)
theorem Fun.kbn {K : PySem.W.Frag} {x qual : Str} {st : Stmt} {f : Addr} {fd : FuncData} {ps ks : List Str} {g : {α : Type} → List α → List α → List α} (F : Fun K x qual st f fd)
    (h : ∀ (kV doc pm : Value) (an : Option Addr) (cdv ct : Value) (ws : List Value), ws.length = ks.length → bindArgs (PySem.W.fnOf x qual (defArgs st) (defBody st) (defScope st) .none kV doc pm an cdv ct) ⟨[], ks.zip ws⟩ = pure (ps.zip (g [] ws)))
    (hr : ∀ {vs : List V} {us : List Value} {zs : List V} {ws : List Value}, Vals vs us → Vals zs ws → Vals (g vs zs) (g us ws)) : KBn K fd ps 0 ks g g := by
  obtain ⟨oc, od, kV, doc, pm, an, cdv, ct, osl, rfl, lk, hcd⟩ := F.ex
  refine ⟨fun s us ws _ hu hl => ?_, hr⟩
  have e : us = [] := List.length_eq_zero_iff.mp hu
  subst e
  exact .of_eq (h kV doc pm an cdv ct ws hl)
def listedP : List (Int × Int) := [(193, 5), (257, 3), (769, 11), (7681, 17), (12289, 11), (998244353, 3), (2013265921, 31)]
/-- what the top has written -/
structure Txt (K : PySem.W.Frag) (mg : Str → Option Value) where
  f_is_whole : Addr
  fd_is_whole : FuncData
  F_is_whole : Fun K "is_whole" "is_whole" s_is_whole f_is_whole fd_is_whole
  g_is_whole : mg "is_whole" = some (.ref f_is_whole)
  b_is_whole : Binds K fd_is_whole ["value"] []
  f_is_number : Addr
  fd_is_number : FuncData
  F_is_number : Fun K "is_number" "is_number" s_is_number f_is_number fd_is_number
  g_is_number : mg "is_number" = some (.ref f_is_number)
  b_is_number : Binds K fd_is_number ["value", "least", "most"] []
  kb_is_number : KBn K fd_is_number ["value", "least", "most"] 0 ["most", "value", "least"] kg_is_number kg_is_number
  f_fits : Addr
  fd_fits : FuncData
  F_fits : Fun K "fits" "fits" s_fits f_fits fd_fits
  g_fits : mg "fits" = some (.ref f_fits)
  b_fits : Binds K fd_fits ["p", "rows"] []
  kb_fits : KBn K fd_fits ["p", "rows"] 0 ["rows", "p"] kg_fits kg_fits
  f_generator : Addr
  fd_generator : FuncData
  F_generator : Fun K "generator" "generator" s_generator f_generator fd_generator
  g_generator : mg "generator" = some (.ref f_generator)
  b_generator : Binds K fd_generator ["p"] []
  kb_generator : KBn K fd_generator ["p"] 0 ["p"] kg_generator kg_generator
  f_inverse : Addr
  fd_inverse : FuncData
  F_inverse : Fun K "inverse" "inverse" s_inverse f_inverse fd_inverse
  g_inverse : mg "inverse" = some (.ref f_inverse)
  b_inverse : Binds K fd_inverse ["worth", "p"] []
  kb_inverse : KBn K fd_inverse ["worth", "p"] 0 ["p", "worth"] kg_inverse kg_inverse
  f_power : Addr
  fd_power : FuncData
  F_power : Fun K "power" "power" s_power f_power fd_power
  g_power : mg "power" = some (.ref f_power)
  b_power : Binds K fd_power ["worth", "count", "p"] []
  kb_power : KBn K fd_power ["worth", "count", "p"] 0 ["p", "count", "worth"] kg_power kg_power
  f_box : Addr
  fd_box : FuncData
  F_box : Fun K "_law_box" "_law_box" s_box f_box fd_box
  g_box : mg "_law_box" = some (.ref f_box)
  b_box : Binds K fd_box ["script"] []
  f_draw : Addr
  fd_draw : FuncData
  F_draw : Fun K "_law_draw" "_law_draw" s_draw f_draw fd_draw
  g_draw : mg "_law_draw" = some (.ref f_draw)
  b_draw : Binds K fd_draw ["box", "sides"] []
  f_of : Addr
  fd_of : FuncData
  F_of : Fun K "_law_of" "_law_of" s_of f_of fd_of
  g_of : mg "_law_of" = some (.ref f_of)
  b_of : Binds K fd_of ["box", "things"] []
  f_same : Addr
  fd_same : FuncData
  F_same : Fun K "_law_same" "_law_same" s_same f_same fd_same
  g_same : mg "_law_same" = some (.ref f_same)
  b_same : Binds K fd_same ["found", "due"] []
  f_prime : Addr
  fd_prime : FuncData
  F_prime : Fun K "_law_prime" "_law_prime" s_prime f_prime fd_prime
  g_prime : mg "_law_prime" = some (.ref f_prime)
  b_prime : Binds K fd_prime ["box"] []
  f_number : Addr
  fd_number : FuncData
  F_number : Fun K "_law_number" "_law_number" s_number f_number fd_number
  g_number : mg "_law_number" = some (.ref f_number)
  b_number : Binds K fd_number ["box", "prime"] []
  f_anything : Addr
  fd_anything : FuncData
  F_anything : Fun K "_law_anything" "_law_anything" s_anything f_anything fd_anything
  g_anything : mg "_law_anything" = some (.ref f_anything)
  b_anything : Binds K fd_anything ["box"] []
  f_made : Addr
  fd_made : FuncData
  F_made : Fun K "_law_made" "_law_made" s_made f_made fd_made
  g_made : mg "_law_made" = some (.ref f_made)
  b_made : Binds K fd_made ["pick", "one", "two", "named"] []
  f_named : Addr
  fd_named : FuncData
  F_named : Fun K "_law_named" "_law_named" s_named f_named fd_named
  g_named : mg "_law_named" = some (.ref f_named)
  b_named : Binds K fd_named ["pick", "one", "two"] []
  f_told : Addr
  fd_told : FuncData
  F_told : Fun K "_law_told" "_law_told" s_told f_told fd_told
  g_told : mg "_law_told" = some (.ref f_told)
  b_told : Binds K fd_told ["pick", "error"] []
  f_bases : Addr
  fd_bases : FuncData
  F_bases : Fun K "_law_bases" "_law_bases" s_bases f_bases fd_bases
  g_bases : mg "_law_bases" = some (.ref f_bases)
  b_bases : Binds K fd_bases ["error"] []
  f_roots : Addr
  fd_roots : FuncData
  F_roots : Fun K "_law_roots" "_law_roots" s_roots f_roots fd_roots
  g_roots : mg "_law_roots" = some (.ref f_roots)
  b_roots : Binds K fd_roots ["error"] []
  f_classes : Addr
  fd_classes : FuncData
  F_classes : Fun K "_law_classes" "_law_classes" s_classes f_classes fd_classes
  g_classes : mg "_law_classes" = some (.ref f_classes)
  b_classes : Binds K fd_classes ["error"] []
  f_errors : Addr
  fd_errors : FuncData
  F_errors : Fun K "_law_errors" "_law_errors" s_errors f_errors fd_errors
  g_errors : mg "_law_errors" = some (.ref f_errors)
  b_errors : Binds K fd_errors ["box"] []
  f_is_plain : Addr
  fd_is_plain : FuncData
  F_is_plain : Fun K "_law_is_plain" "_law_is_plain" s_is_plain f_is_plain fd_is_plain
  g_is_plain : mg "_law_is_plain" = some (.ref f_is_plain)
  b_is_plain : Binds K fd_is_plain ["thing"] []
  f_listed : Addr
  fd_listed : FuncData
  F_listed : Fun K "_law_listed" "_law_listed" s_listed f_listed fd_listed
  g_listed : mg "_law_listed" = some (.ref f_listed)
  b_listed : Binds K fd_listed [] []
  f_fitting : Addr
  fd_fitting : FuncData
  F_fitting : Fun K "_law_fitting" "_law_fitting" s_fitting f_fitting fd_fitting
  g_fitting : mg "_law_fitting" = some (.ref f_fitting)
  b_fitting : Binds K fd_fitting ["first", "second"] []
  f_generators : Addr
  fd_generators : FuncData
  F_generators : Fun K "_law_generators" "_law_generators" s_generators f_generators fd_generators
  g_generators : mg "_law_generators" = some (.ref f_generators)
  b_generators : Binds K fd_generators ["thing"] []
  f_numbers : Addr
  fd_numbers : FuncData
  F_numbers : Fun K "_law_numbers" "_law_numbers" s_numbers f_numbers fd_numbers
  g_numbers : mg "_law_numbers" = some (.ref f_numbers)
  b_numbers : Binds K fd_numbers ["box"] []
  f_turned : Addr
  fd_turned : FuncData
  F_turned : Fun K "_law_turned" "_law_turned" s_turned f_turned fd_turned
  g_turned : mg "_law_turned" = some (.ref f_turned)
  b_turned : Binds K fd_turned ["digit", "prime", "named"] []
  f_powers : Addr
  fd_powers : FuncData
  F_powers : Fun K "_law_powers" "_law_powers" s_powers f_powers fd_powers
  g_powers : mg "_law_powers" = some (.ref f_powers)
  b_powers : Binds K fd_powers ["box"] []
  f_law : Addr
  fd_law : FuncData
  F_law : Fun K "law" "law" s_law f_law fd_law
  g_law : mg "law" = some (.ref f_law)
  b_law : Binds K fd_law ["script"] []
  C_InvalidError : Addr
  gC_InvalidError : mg "InvalidError" = some (.ref C_InvalidError)
  C_UnknownError : Addr
  gC_UnknownError : mg "UnknownError" = some (.ref C_UnknownError)
  C_StateError : Addr
  gC_StateError : mg "StateError" = some (.ref C_StateError)
  C_BadProgram : Addr
  gC_BadProgram : mg "BadProgram" = some (.ref C_BadProgram)
  C_BadLine : Addr
  gC_BadLine : mg "BadLine" = some (.ref C_BadLine)
  C_BadPrime : Addr
  gC_BadPrime : mg "BadPrime" = some (.ref C_BadPrime)
  C_BadShape : Addr
  gC_BadShape : mg "BadShape" = some (.ref C_BadShape)
  C_BadBook : Addr
  gC_BadBook : mg "BadBook" = some (.ref C_BadBook)
  C_TooMany : Addr
  gC_TooMany : mg "TooMany" = some (.ref C_TooMany)
  C_NotNear : Addr
  gC_NotNear : mg "NotNear" = some (.ref C_NotNear)
  C_UnknownName : Addr
  gC_UnknownName : mg "UnknownName" = some (.ref C_UnknownName)
  C_Broken : Addr
  gC_Broken : mg "Broken" = some (.ref C_Broken)
  C_NotWaiting : Addr
  gC_NotWaiting : mg "NotWaiting" = some (.ref C_NotWaiting)
  x_BadProgram : XgC K C_BadProgram
  fI_BadProgram : Addr
  fdI_BadProgram : FuncData
  FI_BadProgram : Fun K "__init__" "BadProgram.__init__" s_iBadProgram fI_BadProgram fdI_BadProgram
  bI_BadProgram : Binds K fdI_BadProgram ["self", "line", "why"] []
  iC_BadProgram : PySem.W.findIn K (.ref C_BadProgram) "__init__" = some (some (.ref fI_BadProgram))
  tI_BadProgram : PySem.W.typeIn K (.ref fI_BadProgram) = some (.type "function")
  kb_BadProgram : ∀ (s : Shared) (a : Addr) (ws : List Value), K.In s.heap → ws.length = 2 → BindsTo s fdI_BadProgram ⟨[.ref a], (["why", "line"] : List Str).zip ws⟩ ((["self", "line", "why"] : List Str).zip (.ref a :: sw2 ws))
  no_BadProgram_line : PySem.W.findIn K (.ref C_BadProgram) "line" = some none
  no_BadProgram_why : PySem.W.findIn K (.ref C_BadProgram) "why" = some none
  x_BadLine : XgC K C_BadLine
  fI_BadLine : Addr
  fdI_BadLine : FuncData
  FI_BadLine : Fun K "__init__" "BadLine.__init__" s_iBadLine fI_BadLine fdI_BadLine
  bI_BadLine : Binds K fdI_BadLine ["self", "field"] []
  iC_BadLine : PySem.W.findIn K (.ref C_BadLine) "__init__" = some (some (.ref fI_BadLine))
  tI_BadLine : PySem.W.typeIn K (.ref fI_BadLine) = some (.type "function")
  kb_BadLine : ∀ (s : Shared) (a : Addr) (ws : List Value), K.In s.heap → ws.length = 1 → BindsTo s fdI_BadLine ⟨[.ref a], (["field"] : List Str).zip ws⟩ ((["self", "field"] : List Str).zip (.ref a :: id ws))
  no_BadLine_field : PySem.W.findIn K (.ref C_BadLine) "field" = some none
  x_BadPrime : XgC K C_BadPrime
  fI_BadPrime : Addr
  fdI_BadPrime : FuncData
  FI_BadPrime : Fun K "__init__" "BadPrime.__init__" s_iBadPrime fI_BadPrime fdI_BadPrime
  bI_BadPrime : Binds K fdI_BadPrime ["self", "p", "rows"] []
  iC_BadPrime : PySem.W.findIn K (.ref C_BadPrime) "__init__" = some (some (.ref fI_BadPrime))
  tI_BadPrime : PySem.W.typeIn K (.ref fI_BadPrime) = some (.type "function")
  kb_BadPrime : ∀ (s : Shared) (a : Addr) (ws : List Value), K.In s.heap → ws.length = 2 → BindsTo s fdI_BadPrime ⟨[.ref a], (["rows", "p"] : List Str).zip ws⟩ ((["self", "p", "rows"] : List Str).zip (.ref a :: sw2 ws))
  no_BadPrime_p : PySem.W.findIn K (.ref C_BadPrime) "p" = some none
  no_BadPrime_rows : PySem.W.findIn K (.ref C_BadPrime) "rows" = some none
  x_BadShape : XgC K C_BadShape
  fI_BadShape : Addr
  fdI_BadShape : FuncData
  FI_BadShape : Fun K "__init__" "BadShape.__init__" s_iBadShape fI_BadShape fdI_BadShape
  bI_BadShape : Binds K fdI_BadShape ["self", "what", "count"] []
  iC_BadShape : PySem.W.findIn K (.ref C_BadShape) "__init__" = some (some (.ref fI_BadShape))
  tI_BadShape : PySem.W.typeIn K (.ref fI_BadShape) = some (.type "function")
  kb_BadShape : ∀ (s : Shared) (a : Addr) (ws : List Value), K.In s.heap → ws.length = 2 → BindsTo s fdI_BadShape ⟨[.ref a], (["count", "what"] : List Str).zip ws⟩ ((["self", "what", "count"] : List Str).zip (.ref a :: sw2 ws))
  no_BadShape_what : PySem.W.findIn K (.ref C_BadShape) "what" = some none
  no_BadShape_count : PySem.W.findIn K (.ref C_BadShape) "count" = some none
  x_BadBook : XgC K C_BadBook
  fI_BadBook : Addr
  fdI_BadBook : FuncData
  FI_BadBook : Fun K "__init__" "BadBook.__init__" s_iBadBook fI_BadBook fdI_BadBook
  bI_BadBook : Binds K fdI_BadBook ["self", "line"] []
  iC_BadBook : PySem.W.findIn K (.ref C_BadBook) "__init__" = some (some (.ref fI_BadBook))
  tI_BadBook : PySem.W.typeIn K (.ref fI_BadBook) = some (.type "function")
  kb_BadBook : ∀ (s : Shared) (a : Addr) (ws : List Value), K.In s.heap → ws.length = 1 → BindsTo s fdI_BadBook ⟨[.ref a], (["line"] : List Str).zip ws⟩ ((["self", "line"] : List Str).zip (.ref a :: id ws))
  no_BadBook_line : PySem.W.findIn K (.ref C_BadBook) "line" = some none
  x_TooMany : XgC K C_TooMany
  fI_TooMany : Addr
  fdI_TooMany : FuncData
  FI_TooMany : Fun K "__init__" "TooMany.__init__" s_iTooMany fI_TooMany fdI_TooMany
  bI_TooMany : Binds K fdI_TooMany ["self", "what", "most"] []
  iC_TooMany : PySem.W.findIn K (.ref C_TooMany) "__init__" = some (some (.ref fI_TooMany))
  tI_TooMany : PySem.W.typeIn K (.ref fI_TooMany) = some (.type "function")
  kb_TooMany : ∀ (s : Shared) (a : Addr) (ws : List Value), K.In s.heap → ws.length = 2 → BindsTo s fdI_TooMany ⟨[.ref a], (["most", "what"] : List Str).zip ws⟩ ((["self", "what", "most"] : List Str).zip (.ref a :: sw2 ws))
  no_TooMany_what : PySem.W.findIn K (.ref C_TooMany) "what" = some none
  no_TooMany_most : PySem.W.findIn K (.ref C_TooMany) "most" = some none
  x_NotNear : XgC K C_NotNear
  fI_NotNear : Addr
  fdI_NotNear : FuncData
  FI_NotNear : Fun K "__init__" "NotNear.__init__" s_iNotNear fI_NotNear fdI_NotNear
  bI_NotNear : Binds K fdI_NotNear ["self", "e"] []
  iC_NotNear : PySem.W.findIn K (.ref C_NotNear) "__init__" = some (some (.ref fI_NotNear))
  tI_NotNear : PySem.W.typeIn K (.ref fI_NotNear) = some (.type "function")
  kb_NotNear : ∀ (s : Shared) (a : Addr) (ws : List Value), K.In s.heap → ws.length = 1 → BindsTo s fdI_NotNear ⟨[.ref a], (["e"] : List Str).zip ws⟩ ((["self", "e"] : List Str).zip (.ref a :: id ws))
  no_NotNear_e : PySem.W.findIn K (.ref C_NotNear) "e" = some none
  x_UnknownName : XgC K C_UnknownName
  fI_UnknownName : Addr
  fdI_UnknownName : FuncData
  FI_UnknownName : Fun K "__init__" "UnknownName.__init__" s_iUnknownName fI_UnknownName fdI_UnknownName
  bI_UnknownName : Binds K fdI_UnknownName ["self", "name"] []
  iC_UnknownName : PySem.W.findIn K (.ref C_UnknownName) "__init__" = some (some (.ref fI_UnknownName))
  tI_UnknownName : PySem.W.typeIn K (.ref fI_UnknownName) = some (.type "function")
  kb_UnknownName : ∀ (s : Shared) (a : Addr) (ws : List Value), K.In s.heap → ws.length = 1 → BindsTo s fdI_UnknownName ⟨[.ref a], (["name"] : List Str).zip ws⟩ ((["self", "name"] : List Str).zip (.ref a :: id ws))
  no_UnknownName_name : PySem.W.findIn K (.ref C_UnknownName) "name" = some none
  x_Broken : XgC K C_Broken
  fI_Broken : Addr
  fdI_Broken : FuncData
  FI_Broken : Fun K "__init__" "Broken.__init__" s_iBroken fI_Broken fdI_Broken
  bI_Broken : Binds K fdI_Broken ["self", "line", "why"] []
  iC_Broken : PySem.W.findIn K (.ref C_Broken) "__init__" = some (some (.ref fI_Broken))
  tI_Broken : PySem.W.typeIn K (.ref fI_Broken) = some (.type "function")
  kb_Broken : ∀ (s : Shared) (a : Addr) (ws : List Value), K.In s.heap → ws.length = 2 → BindsTo s fdI_Broken ⟨[.ref a], (["why", "line"] : List Str).zip ws⟩ ((["self", "line", "why"] : List Str).zip (.ref a :: sw2 ws))
  no_Broken_line : PySem.W.findIn K (.ref C_Broken) "line" = some none
  no_Broken_why : PySem.W.findIn K (.ref C_Broken) "why" = some none
  x_NotWaiting : XgC K C_NotWaiting
  fI_NotWaiting : Addr
  fdI_NotWaiting : FuncData
  FI_NotWaiting : Fun K "__init__" "NotWaiting.__init__" s_iNotWaiting fI_NotWaiting fdI_NotWaiting
  bI_NotWaiting : Binds K fdI_NotWaiting ["self", "what"] []
  iC_NotWaiting : PySem.W.findIn K (.ref C_NotWaiting) "__init__" = some (some (.ref fI_NotWaiting))
  tI_NotWaiting : PySem.W.typeIn K (.ref fI_NotWaiting) = some (.type "function")
  kb_NotWaiting : ∀ (s : Shared) (a : Addr) (ws : List Value), K.In s.heap → ws.length = 1 → BindsTo s fdI_NotWaiting ⟨[.ref a], (["what"] : List Str).zip ws⟩ ((["self", "what"] : List Str).zip (.ref a :: id ws))
  no_NotWaiting_what : PySem.W.findIn K (.ref C_NotWaiting) "what" = some none
  k_BadProgram_InvalidError : PySem.W.kitOne K (.ref C_BadProgram) (.ref C_InvalidError) = some true
  k_BadProgram_UnknownError : PySem.W.kitOne K (.ref C_BadProgram) (.ref C_UnknownError) = some false
  k_BadProgram_StateError : PySem.W.kitOne K (.ref C_BadProgram) (.ref C_StateError) = some false
  k_BadProgram_ValueError : PySem.W.kitOne K (.ref C_BadProgram) (.type "ValueError") = some true
  k_BadProgram_LookupError : PySem.W.kitOne K (.ref C_BadProgram) (.type "LookupError") = some false
  k_BadProgram_RuntimeError : PySem.W.kitOne K (.ref C_BadProgram) (.type "RuntimeError") = some false
  k_BadProgram_BadProgram : PySem.W.kitOne K (.ref C_BadProgram) (.ref C_BadProgram) = some true
  k_BadProgram_BadLine : PySem.W.kitOne K (.ref C_BadProgram) (.ref C_BadLine) = some false
  k_BadProgram_BadPrime : PySem.W.kitOne K (.ref C_BadProgram) (.ref C_BadPrime) = some false
  k_BadProgram_BadShape : PySem.W.kitOne K (.ref C_BadProgram) (.ref C_BadShape) = some false
  k_BadProgram_BadBook : PySem.W.kitOne K (.ref C_BadProgram) (.ref C_BadBook) = some false
  k_BadProgram_TooMany : PySem.W.kitOne K (.ref C_BadProgram) (.ref C_TooMany) = some false
  k_BadProgram_NotNear : PySem.W.kitOne K (.ref C_BadProgram) (.ref C_NotNear) = some false
  k_BadProgram_UnknownName : PySem.W.kitOne K (.ref C_BadProgram) (.ref C_UnknownName) = some false
  k_BadProgram_Broken : PySem.W.kitOne K (.ref C_BadProgram) (.ref C_Broken) = some false
  k_BadProgram_NotWaiting : PySem.W.kitOne K (.ref C_BadProgram) (.ref C_NotWaiting) = some false
  k_BadLine_InvalidError : PySem.W.kitOne K (.ref C_BadLine) (.ref C_InvalidError) = some true
  k_BadLine_UnknownError : PySem.W.kitOne K (.ref C_BadLine) (.ref C_UnknownError) = some false
  k_BadLine_StateError : PySem.W.kitOne K (.ref C_BadLine) (.ref C_StateError) = some false
  k_BadLine_ValueError : PySem.W.kitOne K (.ref C_BadLine) (.type "ValueError") = some true
  k_BadLine_LookupError : PySem.W.kitOne K (.ref C_BadLine) (.type "LookupError") = some false
  k_BadLine_RuntimeError : PySem.W.kitOne K (.ref C_BadLine) (.type "RuntimeError") = some false
  k_BadLine_BadProgram : PySem.W.kitOne K (.ref C_BadLine) (.ref C_BadProgram) = some false
  k_BadLine_BadLine : PySem.W.kitOne K (.ref C_BadLine) (.ref C_BadLine) = some true
  k_BadLine_BadPrime : PySem.W.kitOne K (.ref C_BadLine) (.ref C_BadPrime) = some false
  k_BadLine_BadShape : PySem.W.kitOne K (.ref C_BadLine) (.ref C_BadShape) = some false
  k_BadLine_BadBook : PySem.W.kitOne K (.ref C_BadLine) (.ref C_BadBook) = some false
  k_BadLine_TooMany : PySem.W.kitOne K (.ref C_BadLine) (.ref C_TooMany) = some false
  k_BadLine_NotNear : PySem.W.kitOne K (.ref C_BadLine) (.ref C_NotNear) = some false
  k_BadLine_UnknownName : PySem.W.kitOne K (.ref C_BadLine) (.ref C_UnknownName) = some false
  k_BadLine_Broken : PySem.W.kitOne K (.ref C_BadLine) (.ref C_Broken) = some false
  k_BadLine_NotWaiting : PySem.W.kitOne K (.ref C_BadLine) (.ref C_NotWaiting) = some false
  k_BadPrime_InvalidError : PySem.W.kitOne K (.ref C_BadPrime) (.ref C_InvalidError) = some true
  k_BadPrime_UnknownError : PySem.W.kitOne K (.ref C_BadPrime) (.ref C_UnknownError) = some false
  k_BadPrime_StateError : PySem.W.kitOne K (.ref C_BadPrime) (.ref C_StateError) = some false
  k_BadPrime_ValueError : PySem.W.kitOne K (.ref C_BadPrime) (.type "ValueError") = some true
  k_BadPrime_LookupError : PySem.W.kitOne K (.ref C_BadPrime) (.type "LookupError") = some false
  k_BadPrime_RuntimeError : PySem.W.kitOne K (.ref C_BadPrime) (.type "RuntimeError") = some false
  k_BadPrime_BadProgram : PySem.W.kitOne K (.ref C_BadPrime) (.ref C_BadProgram) = some false
  k_BadPrime_BadLine : PySem.W.kitOne K (.ref C_BadPrime) (.ref C_BadLine) = some false
  k_BadPrime_BadPrime : PySem.W.kitOne K (.ref C_BadPrime) (.ref C_BadPrime) = some true
  k_BadPrime_BadShape : PySem.W.kitOne K (.ref C_BadPrime) (.ref C_BadShape) = some false
  k_BadPrime_BadBook : PySem.W.kitOne K (.ref C_BadPrime) (.ref C_BadBook) = some false
  k_BadPrime_TooMany : PySem.W.kitOne K (.ref C_BadPrime) (.ref C_TooMany) = some false
  k_BadPrime_NotNear : PySem.W.kitOne K (.ref C_BadPrime) (.ref C_NotNear) = some false
  k_BadPrime_UnknownName : PySem.W.kitOne K (.ref C_BadPrime) (.ref C_UnknownName) = some false
  k_BadPrime_Broken : PySem.W.kitOne K (.ref C_BadPrime) (.ref C_Broken) = some false
  k_BadPrime_NotWaiting : PySem.W.kitOne K (.ref C_BadPrime) (.ref C_NotWaiting) = some false
  k_BadShape_InvalidError : PySem.W.kitOne K (.ref C_BadShape) (.ref C_InvalidError) = some true
  k_BadShape_UnknownError : PySem.W.kitOne K (.ref C_BadShape) (.ref C_UnknownError) = some false
  k_BadShape_StateError : PySem.W.kitOne K (.ref C_BadShape) (.ref C_StateError) = some false
  k_BadShape_ValueError : PySem.W.kitOne K (.ref C_BadShape) (.type "ValueError") = some true
  k_BadShape_LookupError : PySem.W.kitOne K (.ref C_BadShape) (.type "LookupError") = some false
  k_BadShape_RuntimeError : PySem.W.kitOne K (.ref C_BadShape) (.type "RuntimeError") = some false
  k_BadShape_BadProgram : PySem.W.kitOne K (.ref C_BadShape) (.ref C_BadProgram) = some false
  k_BadShape_BadLine : PySem.W.kitOne K (.ref C_BadShape) (.ref C_BadLine) = some false
  k_BadShape_BadPrime : PySem.W.kitOne K (.ref C_BadShape) (.ref C_BadPrime) = some false
  k_BadShape_BadShape : PySem.W.kitOne K (.ref C_BadShape) (.ref C_BadShape) = some true
  k_BadShape_BadBook : PySem.W.kitOne K (.ref C_BadShape) (.ref C_BadBook) = some false
  k_BadShape_TooMany : PySem.W.kitOne K (.ref C_BadShape) (.ref C_TooMany) = some false
  k_BadShape_NotNear : PySem.W.kitOne K (.ref C_BadShape) (.ref C_NotNear) = some false
  k_BadShape_UnknownName : PySem.W.kitOne K (.ref C_BadShape) (.ref C_UnknownName) = some false
  k_BadShape_Broken : PySem.W.kitOne K (.ref C_BadShape) (.ref C_Broken) = some false
  k_BadShape_NotWaiting : PySem.W.kitOne K (.ref C_BadShape) (.ref C_NotWaiting) = some false
  k_BadBook_InvalidError : PySem.W.kitOne K (.ref C_BadBook) (.ref C_InvalidError) = some true
  k_BadBook_UnknownError : PySem.W.kitOne K (.ref C_BadBook) (.ref C_UnknownError) = some false
  k_BadBook_StateError : PySem.W.kitOne K (.ref C_BadBook) (.ref C_StateError) = some false
  k_BadBook_ValueError : PySem.W.kitOne K (.ref C_BadBook) (.type "ValueError") = some true
  k_BadBook_LookupError : PySem.W.kitOne K (.ref C_BadBook) (.type "LookupError") = some false
  k_BadBook_RuntimeError : PySem.W.kitOne K (.ref C_BadBook) (.type "RuntimeError") = some false
  k_BadBook_BadProgram : PySem.W.kitOne K (.ref C_BadBook) (.ref C_BadProgram) = some false
  k_BadBook_BadLine : PySem.W.kitOne K (.ref C_BadBook) (.ref C_BadLine) = some false
  k_BadBook_BadPrime : PySem.W.kitOne K (.ref C_BadBook) (.ref C_BadPrime) = some false
  k_BadBook_BadShape : PySem.W.kitOne K (.ref C_BadBook) (.ref C_BadShape) = some false
  k_BadBook_BadBook : PySem.W.kitOne K (.ref C_BadBook) (.ref C_BadBook) = some true
  k_BadBook_TooMany : PySem.W.kitOne K (.ref C_BadBook) (.ref C_TooMany) = some false
  k_BadBook_NotNear : PySem.W.kitOne K (.ref C_BadBook) (.ref C_NotNear) = some false
  k_BadBook_UnknownName : PySem.W.kitOne K (.ref C_BadBook) (.ref C_UnknownName) = some false
  k_BadBook_Broken : PySem.W.kitOne K (.ref C_BadBook) (.ref C_Broken) = some false
  k_BadBook_NotWaiting : PySem.W.kitOne K (.ref C_BadBook) (.ref C_NotWaiting) = some false
  k_TooMany_InvalidError : PySem.W.kitOne K (.ref C_TooMany) (.ref C_InvalidError) = some true
  k_TooMany_UnknownError : PySem.W.kitOne K (.ref C_TooMany) (.ref C_UnknownError) = some false
  k_TooMany_StateError : PySem.W.kitOne K (.ref C_TooMany) (.ref C_StateError) = some false
  k_TooMany_ValueError : PySem.W.kitOne K (.ref C_TooMany) (.type "ValueError") = some true
  k_TooMany_LookupError : PySem.W.kitOne K (.ref C_TooMany) (.type "LookupError") = some false
  k_TooMany_RuntimeError : PySem.W.kitOne K (.ref C_TooMany) (.type "RuntimeError") = some false
  k_TooMany_BadProgram : PySem.W.kitOne K (.ref C_TooMany) (.ref C_BadProgram) = some false
  k_TooMany_BadLine : PySem.W.kitOne K (.ref C_TooMany) (.ref C_BadLine) = some false
  k_TooMany_BadPrime : PySem.W.kitOne K (.ref C_TooMany) (.ref C_BadPrime) = some false
  k_TooMany_BadShape : PySem.W.kitOne K (.ref C_TooMany) (.ref C_BadShape) = some false
  k_TooMany_BadBook : PySem.W.kitOne K (.ref C_TooMany) (.ref C_BadBook) = some false
  k_TooMany_TooMany : PySem.W.kitOne K (.ref C_TooMany) (.ref C_TooMany) = some true
  k_TooMany_NotNear : PySem.W.kitOne K (.ref C_TooMany) (.ref C_NotNear) = some false
  k_TooMany_UnknownName : PySem.W.kitOne K (.ref C_TooMany) (.ref C_UnknownName) = some false
  k_TooMany_Broken : PySem.W.kitOne K (.ref C_TooMany) (.ref C_Broken) = some false
  k_TooMany_NotWaiting : PySem.W.kitOne K (.ref C_TooMany) (.ref C_NotWaiting) = some false
  k_NotNear_InvalidError : PySem.W.kitOne K (.ref C_NotNear) (.ref C_InvalidError) = some false
  k_NotNear_UnknownError : PySem.W.kitOne K (.ref C_NotNear) (.ref C_UnknownError) = some true
  k_NotNear_StateError : PySem.W.kitOne K (.ref C_NotNear) (.ref C_StateError) = some false
  k_NotNear_ValueError : PySem.W.kitOne K (.ref C_NotNear) (.type "ValueError") = some false
  k_NotNear_LookupError : PySem.W.kitOne K (.ref C_NotNear) (.type "LookupError") = some true
  k_NotNear_RuntimeError : PySem.W.kitOne K (.ref C_NotNear) (.type "RuntimeError") = some false
  k_NotNear_BadProgram : PySem.W.kitOne K (.ref C_NotNear) (.ref C_BadProgram) = some false
  k_NotNear_BadLine : PySem.W.kitOne K (.ref C_NotNear) (.ref C_BadLine) = some false
  k_NotNear_BadPrime : PySem.W.kitOne K (.ref C_NotNear) (.ref C_BadPrime) = some false
  k_NotNear_BadShape : PySem.W.kitOne K (.ref C_NotNear) (.ref C_BadShape) = some false
  k_NotNear_BadBook : PySem.W.kitOne K (.ref C_NotNear) (.ref C_BadBook) = some false
  k_NotNear_TooMany : PySem.W.kitOne K (.ref C_NotNear) (.ref C_TooMany) = some false
  k_NotNear_NotNear : PySem.W.kitOne K (.ref C_NotNear) (.ref C_NotNear) = some true
  k_NotNear_UnknownName : PySem.W.kitOne K (.ref C_NotNear) (.ref C_UnknownName) = some false
  k_NotNear_Broken : PySem.W.kitOne K (.ref C_NotNear) (.ref C_Broken) = some false
  k_NotNear_NotWaiting : PySem.W.kitOne K (.ref C_NotNear) (.ref C_NotWaiting) = some false
  k_UnknownName_InvalidError : PySem.W.kitOne K (.ref C_UnknownName) (.ref C_InvalidError) = some false
  k_UnknownName_UnknownError : PySem.W.kitOne K (.ref C_UnknownName) (.ref C_UnknownError) = some true
  k_UnknownName_StateError : PySem.W.kitOne K (.ref C_UnknownName) (.ref C_StateError) = some false
  k_UnknownName_ValueError : PySem.W.kitOne K (.ref C_UnknownName) (.type "ValueError") = some false
  k_UnknownName_LookupError : PySem.W.kitOne K (.ref C_UnknownName) (.type "LookupError") = some true
  k_UnknownName_RuntimeError : PySem.W.kitOne K (.ref C_UnknownName) (.type "RuntimeError") = some false
  k_UnknownName_BadProgram : PySem.W.kitOne K (.ref C_UnknownName) (.ref C_BadProgram) = some false
  k_UnknownName_BadLine : PySem.W.kitOne K (.ref C_UnknownName) (.ref C_BadLine) = some false
  k_UnknownName_BadPrime : PySem.W.kitOne K (.ref C_UnknownName) (.ref C_BadPrime) = some false
  k_UnknownName_BadShape : PySem.W.kitOne K (.ref C_UnknownName) (.ref C_BadShape) = some false
  k_UnknownName_BadBook : PySem.W.kitOne K (.ref C_UnknownName) (.ref C_BadBook) = some false
  k_UnknownName_TooMany : PySem.W.kitOne K (.ref C_UnknownName) (.ref C_TooMany) = some false
  k_UnknownName_NotNear : PySem.W.kitOne K (.ref C_UnknownName) (.ref C_NotNear) = some false
  k_UnknownName_UnknownName : PySem.W.kitOne K (.ref C_UnknownName) (.ref C_UnknownName) = some true
  k_UnknownName_Broken : PySem.W.kitOne K (.ref C_UnknownName) (.ref C_Broken) = some false
  k_UnknownName_NotWaiting : PySem.W.kitOne K (.ref C_UnknownName) (.ref C_NotWaiting) = some false
  k_Broken_InvalidError : PySem.W.kitOne K (.ref C_Broken) (.ref C_InvalidError) = some false
  k_Broken_UnknownError : PySem.W.kitOne K (.ref C_Broken) (.ref C_UnknownError) = some false
  k_Broken_StateError : PySem.W.kitOne K (.ref C_Broken) (.ref C_StateError) = some true
  k_Broken_ValueError : PySem.W.kitOne K (.ref C_Broken) (.type "ValueError") = some false
  k_Broken_LookupError : PySem.W.kitOne K (.ref C_Broken) (.type "LookupError") = some false
  k_Broken_RuntimeError : PySem.W.kitOne K (.ref C_Broken) (.type "RuntimeError") = some true
  k_Broken_BadProgram : PySem.W.kitOne K (.ref C_Broken) (.ref C_BadProgram) = some false
  k_Broken_BadLine : PySem.W.kitOne K (.ref C_Broken) (.ref C_BadLine) = some false
  k_Broken_BadPrime : PySem.W.kitOne K (.ref C_Broken) (.ref C_BadPrime) = some false
  k_Broken_BadShape : PySem.W.kitOne K (.ref C_Broken) (.ref C_BadShape) = some false
  k_Broken_BadBook : PySem.W.kitOne K (.ref C_Broken) (.ref C_BadBook) = some false
  k_Broken_TooMany : PySem.W.kitOne K (.ref C_Broken) (.ref C_TooMany) = some false
  k_Broken_NotNear : PySem.W.kitOne K (.ref C_Broken) (.ref C_NotNear) = some false
  k_Broken_UnknownName : PySem.W.kitOne K (.ref C_Broken) (.ref C_UnknownName) = some false
  k_Broken_Broken : PySem.W.kitOne K (.ref C_Broken) (.ref C_Broken) = some true
  k_Broken_NotWaiting : PySem.W.kitOne K (.ref C_Broken) (.ref C_NotWaiting) = some false
  k_NotWaiting_InvalidError : PySem.W.kitOne K (.ref C_NotWaiting) (.ref C_InvalidError) = some false
  k_NotWaiting_UnknownError : PySem.W.kitOne K (.ref C_NotWaiting) (.ref C_UnknownError) = some false
  k_NotWaiting_StateError : PySem.W.kitOne K (.ref C_NotWaiting) (.ref C_StateError) = some true
  k_NotWaiting_ValueError : PySem.W.kitOne K (.ref C_NotWaiting) (.type "ValueError") = some false
  k_NotWaiting_LookupError : PySem.W.kitOne K (.ref C_NotWaiting) (.type "LookupError") = some false
  k_NotWaiting_RuntimeError : PySem.W.kitOne K (.ref C_NotWaiting) (.type "RuntimeError") = some true
  k_NotWaiting_BadProgram : PySem.W.kitOne K (.ref C_NotWaiting) (.ref C_BadProgram) = some false
  k_NotWaiting_BadLine : PySem.W.kitOne K (.ref C_NotWaiting) (.ref C_BadLine) = some false
  k_NotWaiting_BadPrime : PySem.W.kitOne K (.ref C_NotWaiting) (.ref C_BadPrime) = some false
  k_NotWaiting_BadShape : PySem.W.kitOne K (.ref C_NotWaiting) (.ref C_BadShape) = some false
  k_NotWaiting_BadBook : PySem.W.kitOne K (.ref C_NotWaiting) (.ref C_BadBook) = some false
  k_NotWaiting_TooMany : PySem.W.kitOne K (.ref C_NotWaiting) (.ref C_TooMany) = some false
  k_NotWaiting_NotNear : PySem.W.kitOne K (.ref C_NotWaiting) (.ref C_NotNear) = some false
  k_NotWaiting_UnknownName : PySem.W.kitOne K (.ref C_NotWaiting) (.ref C_UnknownName) = some false
  k_NotWaiting_Broken : PySem.W.kitOne K (.ref C_NotWaiting) (.ref C_Broken) = some false
  k_NotWaiting_NotWaiting : PySem.W.kitOne K (.ref C_NotWaiting) (.ref C_NotWaiting) = some true
  k_NotNear_int : PySem.W.kitOne K (.ref C_NotNear) (.type "int") = some false
  k_NotNear_bool : PySem.W.kitOne K (.ref C_NotNear) (.type "bool") = some false
  k_NotNear_str : PySem.W.kitOne K (.ref C_NotNear) (.type "str") = some false
  k_NotNear_list : PySem.W.kitOne K (.ref C_NotNear) (.type "list") = some false
  k_NotNear_tuple : PySem.W.kitOne K (.ref C_NotNear) (.type "tuple") = some false
  k_NoneType_NotNear : PySem.W.kitOne K (.type "NoneType") (.ref C_NotNear) = some false
  k_bool_NotNear : PySem.W.kitOne K (.type "bool") (.ref C_NotNear) = some false
  k_int_NotNear : PySem.W.kitOne K (.type "int") (.ref C_NotNear) = some false
  k_str_NotNear : PySem.W.kitOne K (.type "str") (.ref C_NotNear) = some false
  k_list_NotNear : PySem.W.kitOne K (.type "list") (.ref C_NotNear) = some false
  k_tuple_NotNear : PySem.W.kitOne K (.type "tuple") (.ref C_NotNear) = some false
  s_UnknownName : PySem.W.subIn K (.ref C_UnknownName) (.ref C_UnknownName) = some true
  t_PRIMES : Addr
  gP : mg "PRIMES" = some (.ref t_PRIMES)
  pairs : List Addr
  t_ROWS : Addr
  gR : mg "ROWS" = some (.ref t_ROWS)
  lP : ∃ (o : Obj) (its : Array Value) (n : Nat), K.lookup t_PRIMES = some o ∧ o.cls = .type "tuple" ∧ o.dict = none ∧ o.data = .seq its n ∧ its.size ≤ sizeLine ∧ Vals (pairs.map V.ref) its.toList
  lPs : Paired (fun p kv => ∃ (o : Obj) (its : Array Value) (n : Nat), K.lookup p = some o ∧ o.cls = .type "tuple" ∧ o.data = .seq its n ∧ its.size ≤ sizeLine ∧ Vals [.int kv.1, .int kv.2] its.toList) pairs listedP
  lR : ∃ (o : Obj) (its : Array Value) (n : Nat), K.lookup t_ROWS = some o ∧ o.cls = .type "tuple" ∧ o.data = .seq its n ∧ its.size ≤ sizeLine ∧ Vals [.int 4, .int 8, .int 16, .int 32, .int 64] its.toList
  z_LookupError : mg "LookupError" = none
  z_RuntimeError : mg "RuntimeError" = none
  z_ValueError : mg "ValueError" = none
  z_ZeroDivisionError : mg "ZeroDivisionError" = none
  z_abs : mg "abs" = none
  z_all : mg "all" = none
  z_bool : mg "bool" = none
  z_dict : mg "dict" = none
  z_int : mg "int" = none
  z_isinstance : mg "isinstance" = none
  z_len : mg "len" = none
  z_list : mg "list" = none
  z_max : mg "max" = none
  z_min : mg "min" = none
  z_range : mg "range" = none
  z_str : mg "str" = none
  z_tuple : mg "tuple" = none
  z_zip : mg "zip" = none
end K0

set_option maxRecDepth 100000
set_option maxHeartbeats 4000000
namespace K0
open PySem L2

/-! ### the box of draws -/
/-- at b: the law's box -/
def BoxAt (H : Hp) (b : Addr) : Prop := ∃ (l : Addr) (ns : List Int) (pos rest seed cnt : Int), H b = some (.lst [.ref l, .int pos, .int rest, .int seed, .int cnt]) ∧ H l = some (.lst (ns.map V.int)) ∧ ns.length ≤ 63 ∧ 0 ≤ pos ∧ 0 ≤ rest ∧ 0 ≤ seed ∧ seed < 2147483563
/-- all that is tracked but b stands -/
def Keep (b : Addr) (H H' : Hp) : Prop := ∀ x o, x ≠ b → H x = some o → H' x = some o
theorem Keep.refl {b : Addr} {H : Hp} : Keep b H H := fun _ _ _ h => h
theorem Keep.trans {b : Addr} {H H1 H2 : Hp} (a : Keep b H H1) (c : Keep b H1 H2) : Keep b H H2 := fun x o n h => c x o n (a x o n h)
theorem Keep.of_same {b : Addr} {H H1 : Hp} (a : Same H H1) : Keep b H H1 := fun x o _ h => a x o h
theorem Keep.upd {b : Addr} {H : Hp} {o : HO} : Keep b H (upd H b o) := fun x u n h => by rw [upd_ne n]; exact h
theorem same_new {H : Hp} {p : Addr} (h : H p = none) (o : HO) : Same H (upd H p o) := fun b u q => by rw [upd_ne (ne_of_none q h)]; exact q
theorem BoxAt.same {H H' : Hp} {b : Addr} (h : BoxAt H b) (s : Same H H') : BoxAt H' b := by
  obtain ⟨l, ns, p, r, sd, c, h1, h2, h3⟩ := h
  exact ⟨l, ns, p, r, sd, c, s _ _ h1, s _ _ h2, h3⟩
theorem BoxAt.some {H : Hp} {b : Addr} (h : BoxAt H b) : ∃ o, H b = some o := by
  obtain ⟨l, ns, p, r, sd, c, h1, _⟩ := h
  exact ⟨_, h1⟩
theorem BoxAt.ne {H : Hp} {b p : Addr} (h : BoxAt H b) (n : H p = none) : p ≠ b := by
  obtain ⟨o, e⟩ := h.some
  exact fun z => by rw [z, e] at n; cases n
theorem ne_cells {H : Hp} {b l : Addr} {ns : List Int} {r : List V} {a : Addr} (hb : H b = some (.lst (.ref a :: r))) (hl : H l = some (.lst (ns.map V.int))) : l ≠ b := fun z => by
  rw [z, hb] at hl
  cases ns with
  | nil => simp at hl
  | cons n ns => simp at hl
def spDraw : Sp := fun vs H Q _ => ∃ (b : Addr) (m : Int), vs = [.ref b, .int m] ∧ 0 < m ∧ m < 2 ^ 64 ∧ BoxAt H b ∧ ∀ (d : Int) (H' : Hp), 0 ≤ d → d < m → BoxAt H' b → Keep b H H' → Q (.int d) H'
theorem setq {H : Hp} {b : Addr} {o o' : HO} : upd (upd H b o) b o' = upd H b o' := by
  funext x
  by_cases h : x = b
  · rw [h, upd_same, upd_same]
  · rw [upd_ne h, upd_ne h, upd_ne h]
section
variable {P : Program} {w : World} {K : PySem.W.Frag} {mg : Str → Option Value} {base : Heap}
theorem ok_draw (T : Txt K mg) : FnOk P w K mg base CX0 1 T.f_draw T.fd_draw ["box", "sides"] (spDraw) := by
  refine T.F_draw.ok sc_draw (fun vs H Q E h => ?_) (fun cdv A outer s H vs Q E hr h => ?_)
  · obtain ⟨b, m, rfl, _⟩ := h
    rfl
  · obtain ⟨b, m, rfl, m0, m1, ⟨l, ns, pos, rest, seed, cnt, hb, hl, h63, p0, r0, s0, s1⟩, k⟩ := h
    have hlb : l ≠ b := ne_cells hb hl
    refine ⟨_, (pss_cons (ps_asg (pe_op op_add (pe_ix ix_list (pv 0) pe_int (fun _ _ => rfl)) pe_int) (pg_sub (pv 0) pe_int set_list))
      (C8.pss_cut (ps_if (PW.pt (pw_and (pt_cmpR op_eq (pe_ix ix_list (pv 0) pe_int (fun _ _ => rfl)) pe_int (nomark _)) (pw_and1 (pt_cmpR op_lt (pe_ix ix_list (pv 0) pe_int (fun _ _ => rfl)) (pe_callB call_len_seq (by rfl) T.z_len PySem.boot_len (pa_cons (pe_ix ix_list (pv 0) pe_int (fun _ _ => rfl)) pa_nil)) (nomark _))))) (pss_cons (ps_set (i := 2) sc_draw.nd rfl (Or.inl rfl) (pe_callB call_abs (by rfl) T.z_abs (by decide +kernel) (pa_cons (pe_callTy call_int1 (by rfl) T.z_int (by decide +kernel) (pa_cons (pe_ix ix_list (pe_ix ix_list (pv 0) pe_int (fun _ _ => rfl)) (pe_ix ix_list (pv 0) pe_int (fun _ _ => rfl)) (fun _ _ => rfl)) pa_nil)) pa_nil)))
      (pss_cons (ps_asg (pe_op op_add (pe_ix ix_list (pv 0) pe_int (fun _ _ => rfl)) pe_int) (pg_sub (pv 0) pe_int set_list))
      (pss_one (ps_if (pt_cmpR op_ge (pv 2) (pe_op op_pow pe_int pe_int) (nomark _)) (pss_one (ps_asg (pv 2) (pg_sub (pv 0) pe_int set_list))) (pss_one (ps_asg (pe_op op_mod (pe_callTy call_int1 (by rfl) T.z_int (by decide +kernel) (pa_cons (pe_op op_add (pe_op op_add (pe_op op_mul (pe_ix ix_list (pv 0) pe_int (fun _ _ => rfl)) pe_int) (pe_op op_mul (pe_op op_mod (pv 2) pe_int) pe_int)) pe_int) pa_nil)) pe_int) (pg_sub (pv 0) pe_int set_list))))))) pss_nil)
      (pss_cons (ps_if (pt_cmpR op_gt (pe_ix ix_list (pv 0) pe_int (fun _ _ => rfl)) pe_int (nomark _)) (pss_cons (ps_set (i := 3) sc_draw.nd rfl (Or.inl rfl) (pe_op op_mod (pe_callTy call_int1 (by rfl) T.z_int (by decide +kernel) (pa_cons (pe_ix ix_list (pv 0) pe_int (fun _ _ => rfl)) pa_nil)) (pv 1)))
      (pss_cons (ps_asg (pe_op op_fdivW (pe_callTy call_int1 (by rfl) T.z_int (by decide +kernel) (pa_cons (pe_ix ix_list (pv 0) pe_int (fun _ _ => rfl)) pa_nil)) (pv 1)) (pg_sub (pv 0) pe_int set_list))
      (pss_one (ps_ret (pv 3))))) pss_nil)
      (pss_cons (ps_set (i := 4) sc_draw.nd rfl (Or.inl rfl) (pe_callTy call_int1 (by rfl) T.z_int (by decide +kernel) (pa_cons (pe_ix ix_list (pv 0) pe_int (fun _ _ => rfl)) pa_nil)))
      (pss_cons (ps_asg (pe_op op_mod (pe_callTy call_int1 (by rfl) T.z_int (by decide +kernel) (pa_cons (pe_op op_add (pe_op op_add (pe_op op_add (pe_op op_mul (pe_op op_mul (pv 4) (pv 4)) pe_int) (pe_op op_mul (pv 4) pe_int)) (pe_op op_mul (pe_ix ix_list (pv 0) pe_int (fun _ _ => rfl)) pe_int)) pe_int) pa_nil)) pe_int) (pg_sub (pv 0) pe_int set_list))
      (pss_one (ps_ret (pe_op op_mod (pe_callTy call_int1 (by rfl) T.z_int (by decide +kernel) (pa_cons (pe_op op_add (pe_op op_mul (pe_ix ix_list (pv 0) pe_int (fun _ _ => rfl)) pe_int) (pe_op op_fdivW (pe_ix ix_list (pv 0) pe_int (fun _ _ => rfl)) pe_int)) pa_nil)) (pv 1))))))))), ?_⟩
    refine ⟨_, rfl, b, _, _, _, rfl, rfl, SqL.of hb, rfl, _, _, rfl, rfl, _, rfl, b, _, _, _, rfl, rfl, hb, rfl, ?_⟩
    have hl1 : ∀ o, upd H b o l = some (.lst (ns.map V.int)) := fun o => by rw [upd_ne hlb]; exact hl
    -- the rest, from any state of the box
    refine ⟨fun σ H' => ∃ (v : Option V) (pos' rest' seed' c1 : Int), σ = [some (.ref b), some (.int m), v, none, none] ∧ H' = upd H b (.lst [.ref l, .int pos', .int rest', .int seed', .int c1]) ∧ 0 ≤ pos' ∧ 0 ≤ rest' ∧ 0 ≤ seed' ∧ seed' < 2147483563, ?_, ?_⟩
    · refine ⟨_, rfl, b, _, _, _, rfl, rfl, SqL.of upd_same, rfl, rfl, _, rfl, ?_⟩
      refine ite2 (fun c => ?_) (fun c => ?_)
      · refine ⟨_, rfl, b, _, _, _, rfl, rfl, SqL.of upd_same, rfl, _, rfl, b, _, _, _, rfl, rfl, SqL.of upd_same, rfl, l, _, rfl, .inl (SqL.of (hl1 _)), _, _, rfl, rfl, _, rfl, ?_⟩
        refine ite2 (fun c2 => ?_) (fun c2 => ?_)
        · have hp : pos < ((ns.map V.int).length : Int) := of_decide_eq_true c2
          rw [List.length_map] at hp
          have ek : pos = ((pos.toNat : Nat) : Int) := by omega
          have q : atI (ns.map V.int) ((pos.toNat : Nat) : Int) = some (.int ns[pos.toNat]) := atI_nat (by rw [List.getElem?_map, List.getElem?_eq_getElem (by omega)] <;> rfl)
          rw [← ek] at q
          generalize ns[pos.toNat] = n at q
          refine ⟨_, rfl, b, _, _, _, rfl, rfl, SqL.of upd_same, rfl, _, rfl, b, _, _, _, rfl, rfl, SqL.of upd_same, rfl, l, _, _, _, rfl, rfl, SqL.of (hl1 _), q, .inl ⟨_, rfl, _, rfl, ?_⟩⟩
          have a0 : 0 ≤ (if n < 0 then -n else n) := by split <;> omega
          generalize (if n < 0 then -n else n) = cell at a0
          refine ⟨_, rfl, b, _, _, _, rfl, rfl, SqL.of upd_same, rfl, _, _, rfl, rfl, _, rfl, b, _, _, _, rfl, rfl, upd_same, rfl, ?_⟩
          rw [setq]
          refine ⟨_, rfl, _, _, rfl, rfl, ⟨by decide, by decide, by decide⟩, _, _, rfl, rfl, _, rfl, ?_⟩
          refine ite2 (fun c3 => ?_) (fun c3 => ?_)
          · refine ⟨_, rfl, _, rfl, b, _, _, _, rfl, rfl, upd_same, rfl, ?_⟩
            rw [setq]
            exact ⟨_, _, _, _, _, rfl, rfl, by omega, a0, s0, s1⟩
          · refine ⟨_, rfl, b, _, _, _, rfl, rfl, SqL.of upd_same, rfl, _, _, rfl, rfl, .inr ⟨by decide, by decide⟩, _, rfl, _, _, rfl, rfl, (by show (0 : Int) < 1000667; decide), _, _, rfl, rfl, .inr ⟨by decide, by decide⟩, _, _, rfl, rfl, _, _, rfl, rfl, .inl ⟨_, rfl, _, _, rfl, rfl, (by show (0 : Int) < 2147483549; decide), _, rfl, b, _, _, _, rfl, rfl, upd_same, rfl, ?_⟩⟩
            rw [setq]
            exact ⟨_, _, _, _, _, rfl, rfl, by omega, r0, by omega, by omega⟩
        · exact ⟨_, _, _, _, _, rfl, rfl, p0, r0, s0, s1⟩
      · exact ⟨_, _, _, _, _, rfl, rfl, p0, r0, s0, s1⟩
    · rintro σ H' ⟨v, pos', rest', seed', c1, rfl, rfl, p0, r0, s0, s1⟩
      have fin : ∀ (d p r sd : Int), 0 ≤ d → d < m → 0 ≤ p → 0 ≤ r → 0 ≤ sd → sd < 2147483563 → Q (.int d) (upd H b (.lst [.ref l, .int p, .int r, .int sd, .int c1])) := fun d p r sd d0 d1 p0 r0 s0 s1 =>
        k d _ d0 d1 ⟨l, ns, p, r, sd, c1, upd_same, hl1 _, h63, p0, r0, s0, s1⟩ Keep.upd
      refine ⟨_, rfl, b, _, _, _, rfl, rfl, SqL.of upd_same, rfl, _, _, rfl, rfl, _, rfl, ?_⟩
      refine ite2 (fun c => ?_) (fun c => ?_)
      · refine ⟨_, rfl, b, _, _, _, rfl, rfl, SqL.of upd_same, rfl, .inl ⟨_, rfl, _, rfl, _, _, rfl, rfl, m0, ?_⟩⟩
        refine ⟨_, rfl, b, _, _, _, rfl, rfl, SqL.of upd_same, rfl, .inl ⟨_, rfl, _, rfl, _, _, rfl, rfl, ⟨m0, ?_⟩, _, rfl, b, _, _, _, rfl, rfl, upd_same, rfl, ?_⟩⟩
        · exact Nat.lt_trans (PySem.Flt.log2_lt_of (by decide : 0 < 64) (by omega)) (by decide)
        · rw [setq]
          refine ⟨_, rfl, ?_⟩
          exact fin _ _ _ _ (Int.emod_nonneg _ (by omega)) (Int.emod_lt_of_pos _ m0) p0 (Int.ediv_nonneg r0 (by omega)) s0 s1
      · refine ⟨_, rfl, b, _, _, _, rfl, rfl, SqL.of upd_same, rfl, .inl ⟨_, rfl, ?_⟩⟩
        refine ⟨_, rfl, _, rfl, _, _, rfl, rfl, .inl ⟨by omega, by omega⟩, _, _, rfl, rfl, .inr ⟨by decide, by decide⟩, _, rfl, _, _, rfl, rfl, .inr ⟨by decide, by decide⟩, _, _, rfl, rfl, _, rfl, b, _, _, _, rfl, rfl, SqL.of upd_same, rfl, _, _, rfl, rfl, .inr ⟨by decide, by decide⟩, _, _, rfl, rfl, _, _, rfl, rfl, .inl ⟨_, rfl, _, _, rfl, rfl, (by show (0 : Int) < 2147483563; decide), _, rfl, b, _, _, _, rfl, rfl, upd_same, rfl, ?_⟩⟩
        rw [setq]
        refine ⟨_, rfl, b, _, _, _, rfl, rfl, SqL.of upd_same, rfl, _, _, rfl, rfl, .inr ⟨by decide, by decide⟩, _, rfl, b, _, _, _, rfl, rfl, SqL.of upd_same, rfl, _, _, rfl, rfl, ⟨by decide, by decide⟩, _, _, rfl, rfl, .inl ⟨_, rfl, _, rfl, _, _, rfl, rfl, m0, ?_⟩⟩
        exact fin _ _ _ _ (Int.emod_nonneg _ (by omega)) (Int.emod_lt_of_pos _ m0) p0 r0 (Int.emod_nonneg _ (by decide)) (Int.emod_lt_of_pos _ (by decide))
end
end K0

set_option maxRecDepth 100000
set_option maxHeartbeats 4000000
namespace K0
open PySem L2

theorem Keep.seqL {K : PySem.W.Frag} {b a : Addr} {H H' : Hp} {xs : List V} (k : Keep b H H') (n : a ≠ b) (h : SqL K H a xs) : SqL K H' a xs := by
  rcases h with (h | ⟨o, h⟩) | h
  · exact .inl (.inl (k _ _ n h))
  · exact .inl (.inr ⟨o, k _ _ n h⟩)
  · exact .inr h
theorem Keep.seqT {K : PySem.W.Frag} {b a : Addr} {H H' : Hp} {xs : List V} (k : Keep b H H') (n : a ≠ b) (h : SqT K H a xs) : SqT K H' a xs := by
  rcases h with (h | ⟨o, h⟩) | h
  · exact .inl (.inl (k _ _ n h))
  · exact .inl (.inr ⟨o, k _ _ n h⟩)
  · exact .inr h
theorem Same.seqT' {K : PySem.W.Frag} {a : Addr} {H H' : Hp} {xs : List V} (k : Same H H') (h : SqT K H a xs) : SqT K H' a xs := by
  rcases h with (h | ⟨o, h⟩) | h
  · exact .inl (.inl (k _ _ h))
  · exact .inl (.inr ⟨o, k _ _ h⟩)
  · exact .inr h
theorem cut_ints (ns : List Int) (lo hi : Option Int) : ∃ ns' : List Int, cutV (ns.map V.int) lo hi = ns'.map V.int ∧ ns'.length ≤ ns.length := by
  refine ⟨(ns.drop (HT.sIx (ns.map V.int).length 0 lo)).take (HT.sIx (ns.map V.int).length (ns.map V.int).length hi - HT.sIx (ns.map V.int).length 0 lo), ?_, ?_⟩
  · unfold cutV
    rw [List.map_take, List.map_drop]
  · rw [List.length_take, List.length_drop]
    omega
theorem at_int {ns : List Int} {i : Nat} {v : V} (h : (ns.map V.int)[i]? = some v) : ∃ n, ns[i]? = some n ∧ v = .int n := by
  rw [List.getElem?_map] at h
  cases e : ns[i]? with
  | none => rw [e] at h; cases h
  | some n => rw [e] at h; exact ⟨n, rfl, (Option.some.inj h).symm⟩
theorem ints_of {l : List Int} {i : Nat} {v : V} (h : (l.map V.int)[i]? = some v) : ∃ p ∈ l, v = .int p := by
  obtain ⟨n, h1, h2⟩ := at_int h
  exact ⟨n, List.mem_of_getElem? h1, h2⟩
def spBox (K : PySem.W.Frag) : Sp := fun vs H Q _ => ∃ (a : Addr) (ns : List Int), vs = [.ref a] ∧ SqL K H a (ns.map V.int) ∧ ns.length ≤ 63 ∧ ∀ (b : Addr) (H' : Hp), Same H H' → H b = none → BoxAt H' b → Q (.ref b) H'
def spOf (K : PySem.W.Frag) : Sp := fun vs H Q _ => ∃ (b t : Addr) (xs : List V), vs = [.ref b, .ref t] ∧ BoxAt H b ∧ t ≠ b ∧ SqL K H t xs ∧ xs ≠ [] ∧ xs.length ≤ 1000 ∧ ∀ (i : Nat) (v : V) (H' : Hp), xs[i]? = some v → BoxAt H' b → Keep b H H' → Q v H'
def spPrime : Sp := fun vs H Q _ => ∃ (b : Addr), vs = [.ref b] ∧ BoxAt H b ∧ ∀ (p : Int) (H' : Hp), p ∈ primes → BoxAt H' b → Keep b H H' → Q (.int p) H'
def spNumber : Sp := fun vs H Q _ => ∃ (b : Addr) (p : Int), vs = [.ref b, .int p] ∧ BoxAt H b ∧ 0 < p ∧ p < 10000000000 ∧ ∀ (n : Int) (H' : Hp), -10000000000 ≤ n → n ≤ 10000000002 → BoxAt H' b → Keep b H H' → Q (.int n) H'
section
variable {P : Program} {w : World} {K : PySem.W.Frag} {mg : Str → Option Value} {base : Heap}
theorem ok_box (T : Txt K mg) : FnOk P w K mg base CX0 1 T.f_box T.fd_box ["script"] (spBox K) := by
  refine T.F_box.ok sc_box (fun vs H Q E h => ?_) (fun cdv A outer s H vs Q E hr h => ?_)
  · obtain ⟨b, m, rfl, _⟩ := h
    rfl
  · obtain ⟨a, ns, rfl, hS, h63, k⟩ := h
    refine ⟨_, (pss_cons (ps_set (i := 1) sc_box.nd rfl (Or.inl rfl) pe_int)
      (pss_cons (ps_for PassesOwn.never rfl (pi_list (pe_slice sl_list (pv 0) po_none (po_some pe_int))) (pg_name (i := 2) sc_box.nd rfl (Or.inl rfl)) (pss_one (ps_set (i := 1) sc_box.nd rfl (Or.inl rfl) (pe_op op_mod (pe_callTy call_int1 (by rfl) T.z_int (by decide +kernel) (pa_cons (pe_op op_add (pe_op op_add (pe_op op_mul (pv 1) pe_int) (pe_op op_mul (pe_op op_mod (pe_callTy call_int1 (by rfl) T.z_int (by decide +kernel) (pa_cons (pv 2) pa_nil)) pe_int) pe_int)) pe_int) pa_nil)) pe_int))))
      (pss_one (ps_ret (pe_lst (pa_cons (pe_callTy call_list_of (by rfl) T.z_list (by decide +kernel) (pa_cons (pe_slice sl_list (pv 0) po_none (po_some pe_int)) pa_nil)) (pa_cons pe_int (pa_cons pe_int (pa_cons (pv 1) (pa_cons pe_int pa_nil)))))))))), ?_⟩
    refine ⟨_, rfl, _, rfl, a, _, rfl, hS, fun p hp => ?_⟩
    obtain ⟨n1, e1, l1⟩ := cut_ints ns none (some 63)
    have g1 : Same H (upd H p (.lst (cutV (ns.map V.int) none (some 63)))) := same_new hp _
    have hp1 : upd H p (.lst (cutV (ns.map V.int) none (some 63))) p = some (.lst (n1.map V.int)) := by rw [upd_same, e1]
    generalize upd H p (.lst (cutV (ns.map V.int) none (some 63))) = H1 at g1 hp1
    refine ⟨p, rfl, ⟨_, SqL.of hp1⟩, for_list (K := K) (a := p) (xs := n1.map V.int) (fun i σ H' => ∃ (m : Int) (v : Option V), σ = [some (.ref a), some (.int m), v] ∧ H' = H1 ∧ 0 ≤ m ∧ m < 2147483543)
      ⟨_, _, rfl, rfl, by decide, by decide⟩ (fun i σ H' _ ⟨_, _, _, e, _⟩ => by rw [e]; exact SqL.of hp1) ?_ ?_⟩
    · rintro i y σ H' hi ⟨m, v, rfl, rfl, m0, m1⟩
      obtain ⟨z, _, rfl⟩ := at_int hi
      refine ⟨_, rfl, _, _, rfl, rfl, .inr ⟨by decide, by decide⟩, _, rfl, .inl ⟨_, rfl, _, _, rfl, rfl, (by show (0 : Int) < 1000667; decide), _, _, rfl, rfl, .inr ⟨by decide, by decide⟩, _, _, rfl, rfl, _, _, rfl, rfl, .inl ⟨_, rfl, _, _, rfl, rfl, (by show (0 : Int) < 2147483543; decide), ?_⟩⟩⟩
      exact ⟨_, _, rfl, rfl, Int.emod_nonneg _ (by decide), Int.emod_lt_of_pos _ (by decide)⟩
    · rintro σ H' ⟨m, v, rfl, rfl, m0, m1⟩
      refine ⟨_, rfl, _, rfl, a, _, rfl, g1.seq hS, fun q hq => ?_⟩
      obtain ⟨n2, e2, l2⟩ := cut_ints ns none (some 63)
      refine ⟨q, _, rfl, .inl (SqL.of upd_same), fun l hl => ?_⟩
      refine ⟨_, rfl, (by show 5 ≤ sizeLine; decide), fun b hb => ?_⟩
      have hq1 : H q = none := g1.free hq
      have g2 := same_new hq (.lst (cutV (ns.map V.int) none (some 63)))
      have g3 := same_new hl (.lst (cutV (ns.map V.int) none (some 63)))
      have g4 := same_new hb (.lst [.ref l, .int 0, .int 0, .int m, .int 0])
      refine k b _ (g1.trans (g2.trans (g3.trans g4))) (g1.free (g2.free (g3.free hb))) ⟨l, n2, 0, 0, m, 0, upd_same, ?_, by omega, by decide, by decide, m0, by omega⟩
      refine g4 _ _ ?_
      rw [upd_same, e2]
theorem ok_of (T : Txt K mg) : FnOk P w K mg base CX0 2 T.f_of T.fd_of ["box", "things"] (spOf K) := by
  refine T.F_of.ok sc_of (fun vs H Q E h => ?_) (fun cdv A outer s H vs Q E hr h => ?_)
  · obtain ⟨b, t, xs, rfl, _⟩ := h
    rfl
  · obtain ⟨b, t, xs, rfl, hB, hn, hS, h0, h1, k⟩ := h
    refine ⟨_, (pss_one (ps_ret (pe_ix ix_list (pv 1) (pe_call (ok_draw T) (hr.mono (by decide)) (by rfl) T.g_draw T.F_draw.kp T.b_draw .nil pass0 (pa_cons (pv 0) (pa_cons (pe_callB call_len_seq (by rfl) T.z_len PySem.boot_len (pa_cons (pv 1) pa_nil)) pa_nil))) (fun _ _ => rfl)))), ?_⟩
    have hpos : 0 < xs.length := List.length_pos_iff.mpr h0
    refine ⟨_, rfl, _, rfl, _, rfl, t, _, rfl, .inl hS, b, _, rfl, by omega, by omega, hB, fun d H' d0 d1 hB' hK => ?_⟩
    have ed : d = ((d.toNat : Nat) : Int) := by omega
    have q : xs[d.toNat]? = some xs[d.toNat] := List.getElem?_eq_getElem (by omega)
    refine ⟨t, xs, d, _, rfl, rfl, hK.seqL hn hS, ?_, k d.toNat _ H' q hB' hK⟩
    have z := atI_nat q
    rw [← ed] at z
    exact z
theorem ok_prime (T : Txt K mg) : FnOk P w K mg base CX0 3 T.f_prime T.fd_prime ["box"] (spPrime) := by
  refine T.F_prime.ok sc_prime (fun vs H Q E h => ?_) (fun cdv A outer s H vs Q E hr h => ?_)
  · obtain ⟨b, rfl, _⟩ := h
    rfl
  · obtain ⟨b, rfl, hB, k⟩ := h
    refine ⟨_, (pss_cons (ps_set (i := 1) sc_prime.nd rfl (Or.inl rfl) (pe_call (ok_draw T) (hr.mono (by decide)) (by rfl) T.g_draw T.F_draw.kp T.b_draw .nil pass0 (pa_cons (pv 0) (pa_cons pe_int pa_nil))))
      (pss_cons (ps_if (pt_cmpR op_lt (pv 1) pe_int (nomark _)) (pss_one (ps_ret (pe_call (ok_of T) (hr.mono (by decide)) (by rfl) T.g_of T.F_of.kp T.b_of .nil pass0 (pa_cons (pv 0) (pa_cons (pe_lst (pa_cons pe_int (pa_cons pe_int (pa_cons pe_int (pa_cons pe_int (pa_cons pe_int (pa_cons pe_int (pa_cons pe_int (pa_cons pe_int pa_nil))))))))) pa_nil))))) pss_nil)
      (pss_cons (ps_if (pt_cmpR op_lt (pv 1) pe_int (nomark _)) (pss_one (ps_ret (pe_call (ok_of T) (hr.mono (by decide)) (by rfl) T.g_of T.F_of.kp T.b_of .nil pass0 (pa_cons (pv 0) (pa_cons (pe_lst (pa_cons pe_int (pa_cons pe_int (pa_cons pe_int (pa_cons pe_int pa_nil))))) pa_nil))))) pss_nil)
      (pss_one (ps_ret (pe_call (ok_of T) (hr.mono (by decide)) (by rfl) T.g_of T.F_of.kp T.b_of .nil pass0 (pa_cons (pv 0) (pa_cons (pe_lst (pa_cons pe_int (pa_cons pe_int (pa_cons pe_int (pa_cons pe_int (pa_cons pe_int pa_nil)))))) pa_nil)))))))), ?_⟩
    have fin : ∀ (l : List Int), l ≠ [] → l.length ≤ 1000 → (∀ p ∈ l, p ∈ primes) → ∀ (H1 : Hp), BoxAt H1 b → Keep b H H1 → ∀ p, H1 p = none → spOf K [.ref b, .ref p] (upd H1 p (.lst (l.map V.int))) Q E := fun l l0 l1 lp H1 hB1 hK1 p hp => by
      have g := same_new hp (.lst (l.map V.int))
      refine ⟨b, p, _, rfl, hB1.same g, hB1.ne hp, SqL.of upd_same, by simpa using l0, by simpa using l1, fun i v H' hi hB' hK => ?_⟩
      obtain ⟨n, hn, rfl⟩ := ints_of hi
      exact k n H' (lp n hn) hB' (hK1.trans ((Keep.of_same g).trans hK))
    refine ⟨_, rfl, b, _, rfl, by decide, by decide, hB, fun d H1 d0 d1 hB1 hK1 => ?_⟩
    refine ⟨_, rfl, _, _, rfl, rfl, _, rfl, ite2 (fun c => ?_) (fun c => ?_)⟩
    · exact ⟨_, rfl, (by show 8 ≤ sizeLine; decide), fun p hp => fin [2, 3, 5, 7, 11, 13, 17, 31] (by decide) (by decide) (by decide +kernel) H1 hB1 hK1 p hp⟩
    · refine ⟨_, rfl, _, _, rfl, rfl, _, rfl, ite2 (fun c => ?_) (fun c => ?_)⟩
      · exact ⟨_, rfl, (by show 4 ≤ sizeLine; decide), fun p hp => fin [97, 193, 257, 769] (by decide) (by decide) (by decide +kernel) H1 hB1 hK1 p hp⟩
      · exact ⟨_, rfl, (by show 5 ≤ sizeLine; decide), fun p hp => fin [7681, 12289, 998244353, 2013265921, 9999999967] (by decide) (by decide) (by decide +kernel) H1 hB1 hK1 p hp⟩
theorem ok_number (T : Txt K mg) : FnOk P w K mg base CX0 2 T.f_number T.fd_number ["box", "prime"] (spNumber) := by
  refine T.F_number.ok sc_number (fun vs H Q E h => ?_) (fun cdv A outer s H vs Q E hr h => ?_)
  · obtain ⟨b, p, rfl, _⟩ := h
    rfl
  · obtain ⟨b, p, rfl, hB, p0, p1, k⟩ := h
    refine ⟨_, (pss_cons (ps_set (i := 2) sc_number.nd rfl (Or.inl rfl) (pe_call (ok_draw T) (hr.mono (by decide)) (by rfl) T.g_draw T.F_draw.kp T.b_draw .nil pass0 (pa_cons (pv 0) (pa_cons pe_int pa_nil))))
      (pss_cons (ps_if (pt_cmpR op_lt (pv 2) pe_int (nomark _)) (pss_one (ps_ret (pe_call (ok_draw T) (hr.mono (by decide)) (by rfl) T.g_draw T.F_draw.kp T.b_draw .nil pass0 (pa_cons (pv 0) (pa_cons (pv 1) pa_nil))))) pss_nil)
      (pss_cons (ps_if (pt_cmpR op_eq (pv 2) pe_int (nomark _)) (pss_one (ps_ret pe_int)) pss_nil)
      (pss_cons (ps_if (pt_cmpR op_eq (pv 2) pe_int (nomark _)) (pss_one (ps_ret (pe_op op_sub (pe_call (ok_draw T) (hr.mono (by decide)) (by rfl) T.g_draw T.F_draw.kp T.b_draw .nil pass0 (pa_cons (pv 0) (pa_cons pe_int pa_nil))) pe_int))) pss_nil)
      (pss_cons (ps_if (pt_cmpR op_eq (pv 2) pe_int (nomark _)) (pss_one (ps_ret (pe_op op_add (pe_op op_sub (pv 1) pe_int) (pe_call (ok_draw T) (hr.mono (by decide)) (by rfl) T.g_draw T.F_draw.kp T.b_draw .nil pass0 (pa_cons (pv 0) (pa_cons pe_int pa_nil)))))) pss_nil)
      (pss_cons (ps_if (pt_cmpR op_eq (pv 2) pe_int (nomark _)) (pss_one (ps_ret (pe_op op_sub pe_int (pe_call (ok_draw T) (hr.mono (by decide)) (by rfl) T.g_draw T.F_draw.kp T.b_draw .nil pass0 (pa_cons (pv 0) (pa_cons (pe_op op_pow pe_int pe_int) pa_nil)))))) pss_nil)
      (pss_one (ps_ret (pe_call (ok_draw T) (hr.mono (by decide)) (by rfl) T.g_draw T.F_draw.kp T.b_draw .nil pass0 (pa_cons (pv 0) (pa_cons (pe_op op_pow pe_int pe_int) pa_nil))))))))))), ?_⟩
    refine ⟨_, rfl, b, _, rfl, by decide, by decide, hB, fun d H1 d0 d1 hB1 hK1 => ?_⟩
    have e10 : (10 : Int) ^ (Int.toNat 10) = 10000000000 := by decide
    refine ⟨_, rfl, _, _, rfl, rfl, _, rfl, ite2 (fun c => ?_) (fun c => ?_)⟩
    · exact ⟨_, rfl, _, rfl, b, _, rfl, p0, by omega, hB1, fun n H' n0 n1 hB' hK => k n H' (by omega) (by omega) hB' (hK1.trans hK)⟩
    refine ⟨_, rfl, rfl, _, rfl, ite2 (fun c => ?_) (fun c => ?_)⟩
    · exact k 0 H1 (by decide) (by decide) hB1 hK1
    refine ⟨_, rfl, rfl, _, rfl, ite2 (fun c => ?_) (fun c => ?_)⟩
    · refine ⟨_, rfl, b, _, rfl, by decide, by decide, hB1, fun n H' n0 n1 hB' hK => ⟨_, _, rfl, rfl, ?_⟩⟩
      exact k (n - 1) H' (by omega) (by omega) hB' (hK1.trans hK)
    refine ⟨_, rfl, rfl, _, rfl, ite2 (fun c => ?_) (fun c => ?_)⟩
    · refine ⟨_, rfl, _, _, rfl, rfl, _, rfl, b, _, rfl, by decide, by decide, hB1, fun n H' n0 n1 hB' hK => ⟨_, _, rfl, rfl, ?_⟩⟩
      exact k (p - 1 + n) H' (by omega) (by omega) hB' (hK1.trans hK)
    refine ⟨_, rfl, rfl, _, rfl, ite2 (fun c => ?_) (fun c => ?_)⟩
    · refine ⟨_, rfl, _, _, rfl, rfl, ⟨by decide, by decide, by decide⟩, b, _, rfl, by decide, by decide, hB1, fun n H' n0 n1 hB' hK => ⟨_, _, rfl, rfl, ?_⟩⟩
      exact k (0 - n) H' (by omega) (by omega) hB' (hK1.trans hK)
    · refine ⟨_, rfl, _, _, rfl, rfl, ⟨by decide, by decide, by decide⟩, b, _, rfl, by decide, by decide, hB1, fun n H' n0 n1 hB' hK => ?_⟩
      exact k n H' (by omega) (by omega) hB' (hK1.trans hK)
end
end K0

set_option maxRecDepth 100000
set_option maxHeartbeats 4000000
namespace K0
open PySem L2

def spPower : Sp := fun vs H Q _ => ∃ (x : Int) (n : Nat) (p : Int), vs = [.int x, .int (n : Int), .int p] ∧ 1 < p ∧ p < 2 ^ 64 ∧ Q (.int (x ^ n % p)) H
def spInv : Sp := fun vs H Q E => ∃ (x p : Int), vs = [.int x, .int p] ∧ Prm p ∧ p < 2 ^ 64 ∧ (x % p = 0 → E (.type "ZeroDivisionError") none H) ∧ (x % p ≠ 0 → ∀ (r : Int) (H' : Hp), 0 < r → r < p → (r * x) % p = 1 → Same H H' → Q (.int r) H')
/-! ### values of any kind -/
def Sc (x : V) : Prop := match x with | .non => True | .bl _ => True | .int _ => True | .str _ => True | _ => False
/-- two values that are alike, n deep; none of their parts is the box at b -/
def EqV (K : PySem.W.Frag) (b : Addr) (H : Hp) : Nat → V → V → Prop
  | 0, x, y => Sc x ∧ x = y
  | n + 1, x, y => (Sc x ∧ x = y) ∨ ∃ (a c : Addr) (xs ys : List V), x = .ref a ∧ y = .ref c ∧ a ≠ b ∧ c ≠ b ∧ ((SqL K H a xs ∧ SqL K H c ys) ∨ (SqT K H a xs ∧ SqT K H c ys)) ∧ xs.length ≤ 1000 ∧ xs.length = ys.length ∧
      ∀ (i : Nat) (u v : V), xs[i]? = some u → ys[i]? = some v → EqV K b H n u v
theorem EqV.keep {K : PySem.W.Frag} {b : Addr} {H H' : Hp} (k : Keep b H H') : ∀ {n : Nat} {x y : V}, EqV K b H n x y → EqV K b H' n x y
  | 0, _, _, h => h
  | n + 1, x, y, h => by
    rcases h with h | ⟨a, c, xs, ys, e1, e2, n1, n2, h, l1, l2, r⟩
    · exact .inl h
    · refine .inr ⟨a, c, xs, ys, e1, e2, n1, n2, ?_, l1, l2, fun i u v hu hv => (r i u v hu hv).keep k⟩
      rcases h with ⟨h1, h2⟩ | ⟨h1, h2⟩
      · exact .inl ⟨k.seqL n1 h1, k.seqL n2 h2⟩
      · exact .inr ⟨k.seqT n1 h1, k.seqT n2 h2⟩
theorem EqV.sc {K : PySem.W.Frag} {b : Addr} {H : Hp} {x : V} (h : Sc x) : ∀ {n : Nat}, EqV K b H n x x
  | 0 => ⟨h, rfl⟩
  | _ + 1 => .inl ⟨h, rfl⟩
theorem EqV.up {K : PySem.W.Frag} {b : Addr} {H : Hp} : ∀ {n : Nat} {x y : V}, EqV K b H n x y → EqV K b H (n + 1) x y
  | 0, _, _, h => .inl h
  | n + 1, x, y, h => by
    rcases h with h | ⟨a, c, xs, ys, e1, e2, n1, n2, h, l1, l2, r⟩
    · exact .inl h
    · exact .inr ⟨a, c, xs, ys, e1, e2, n1, n2, h, l1, l2, fun i u v hu hv => (r i u v hu hv).up⟩
/-- its type's name -/
def Kd (K : PySem.W.Frag) (H : Hp) (x : V) (k : String) : Prop := TyX K H x (.type k)
theorem kdL {K : PySem.W.Frag} {H : Hp} {a : Addr} {xs : List V} (h : SqL K H a xs) : Kd K H (.ref a) "list" := by
  rcases h with (h | ⟨o, h⟩) | ⟨o, its, n, h, hc, _⟩
  · exact .base (.lst h)
  · exact .base (.frz h)
  · exact .kList h hc
theorem kdT {K : PySem.W.Frag} {H : Hp} {a : Addr} {xs : List V} (h : SqT K H a xs) : Kd K H (.ref a) "tuple" := by
  rcases h with (h | ⟨o, h⟩) | ⟨o, its, n, h, hc, _⟩
  · exact .base (.tup h)
  · exact .fTuple h
  · exact .kTuple h hc
def kinds : List String := ["NoneType", "bool", "int", "str", "list", "tuple"]
/-- data, by its kind -/
theorem EqV.kd {K : PySem.W.Frag} {b : Addr} {H : Hp} {n : Nat} {x y : V} (h : EqV K b H n x y) : ∃ k, k ∈ kinds ∧ Kd K H x k ∧ (k = "int" ↔ ∃ i, x = .int i) ∧ (k = "bool" ↔ ∃ i, x = .bl i) := by
  have sc : Sc x → ∃ k, k ∈ kinds ∧ Kd K H x k ∧ (k = "int" ↔ ∃ i, x = .int i) ∧ (k = "bool" ↔ ∃ i, x = .bl i) := fun s => by
    match x, s with
    | .non, _ => exact ⟨"NoneType", by decide, .base .non, by simp, by simp⟩
    | .bl c, _ => exact ⟨"bool", by decide, .base (.bl c), by simp, by simp⟩
    | .int c, _ => exact ⟨"int", by decide, .base (.int c), by simp, by simp⟩
    | .str c, _ => exact ⟨"str", by decide, .base (.str c), by simp, by simp⟩
  cases n with
  | zero => exact sc h.1
  | succ n =>
    rcases h with h | ⟨a, c, xs, ys, rfl, _, _, _, h, _⟩
    · exact sc h.1
    · rcases h with ⟨h, _⟩ | ⟨h, _⟩
      · exact ⟨"list", by decide, kdL h, by simp, by simp⟩
      · exact ⟨"tuple", by decide, kdT h, by simp, by simp⟩
/-- a value of any kind that the law draws: data, or a NotNear -/
def AnyV (K : PySem.W.Frag) (C : Addr) (b : Addr) (H : Hp) (x : V) : Prop := EqV K b H 5 x x ∨ ∃ (a d : Addr) (fs : List (Str × V)), x = .ref a ∧ a ≠ b ∧ d ≠ b ∧ H a = some (exo a C (some d)) ∧ H d = some (exd d fs)
theorem AnyV.keep {K : PySem.W.Frag} {C b : Addr} {H H' : Hp} {x : V} (k : Keep b H H') (h : AnyV K C b H x) : AnyV K C b H' x := by
  rcases h with h | ⟨a, d, fs, e, n1, n2, h1, h2⟩
  · exact .inl (h.keep k)
  · exact .inr ⟨a, d, fs, e, n1, n2, k _ _ n1 h1, k _ _ n2 h2⟩
def isI (x : V) : Bool := match x with | .int _ => true | _ => false
def isB (x : V) : Bool := match x with | .bl _ => true | _ => false
/-- isinstance of data and of exceptions -/
theorem call_isY {X : Cx} : CallR X (.builtin "isinstance") (fun xs H Q => rIsi X.K xs H Q ∨ rIsX X.K xs H Q) := fun pins s σ H xs us Q I r h => by
  rcases h with h | h
  · exact call_isi pins s σ H xs us Q I r h
  · exact call_isX pins s σ H xs us Q I r h
theorem kit_all : ∀ k ∈ kinds, ∀ t ∈ ["int", "bool", "str", "list", "tuple"], kitB k t = some (decide (k = t) || (decide (k = "bool") && decide (t = "int"))) := by decide +kernel
section
variable {K : PySem.W.Frag} {mg : Str → Option Value}
theorem ask (T : Txt K mg) {b : Addr} {H : Hp} {x : V} (h : AnyV K T.C_NotNear b H x) : ∃ f : String → Bool, (∀ t ∈ ["int", "bool", "str", "list", "tuple"], ∀ Q : VK, Q (.bl (f t)) H → rIsi K [x, .ty t] H Q ∨ rIsX K [x, .ty t] H Q) ∧ f "int" = (isI x || isB x) ∧ f "bool" = isB x := by
  rcases h with h | ⟨a, d, fs, rfl, n1, n2, h1, h2⟩
  · obtain ⟨k, hk, ty, i1, i2⟩ := h.kd
    refine ⟨fun t => decide (k = t) || (decide (k = "bool") && decide (t = "int")), fun t ht Q q => .inl ⟨x, .ty t, _, _, _, rfl, .ty t, ty, kit_ty (kit_all k hk t ht), q⟩, ?_, ?_⟩
    · show (decide (k = "int") || (decide (k = "bool") && true)) = _
      by_cases c1 : k = "int"
      · obtain ⟨i, rfl⟩ := i1.mp c1
        simp [c1, isI]
      · by_cases c2 : k = "bool"
        · obtain ⟨i, rfl⟩ := i2.mp c2
          simp [c2, isI, isB]
        · have e1 : isI x = false := by
            cases x <;> first | rfl | exact absurd (i1.mpr ⟨_, rfl⟩) c1
          have e2 : isB x = false := by
            cases x <;> first | rfl | exact absurd (i2.mpr ⟨_, rfl⟩) c2
          simp [c1, c2, e1, e2]
    · show (decide (k = "bool") || (decide (k = "bool") && false)) = _
      by_cases c2 : k = "bool"
      · obtain ⟨i, rfl⟩ := i2.mp c2
        simp [c2, isB]
      · have e2 : isB x = false := by
          cases x <;> first | rfl | exact absurd (i2.mpr ⟨_, rfl⟩) c2
        simp [c2, e2]
  · refine ⟨fun _ => false, fun t ht Q q => .inr ⟨a, _, _, .ty t, .type t, false, rfl, T.x_NotNear, h1, fun dx e => ⟨fs, by cases e; exact h2⟩, fun u r => r, ?_, q⟩, rfl, rfl⟩
    simp only [List.mem_cons, List.not_mem_nil, or_false] at ht
    rcases ht with rfl | rfl | rfl | rfl | rfl
    · exact T.k_NotNear_int
    · exact T.k_NotNear_bool
    · exact T.k_NotNear_str
    · exact T.k_NotNear_list
    · exact T.k_NotNear_tuple
end
def spPlain (K : PySem.W.Frag) (C : Addr) : Sp := fun vs H Q _ => ∃ (b : Addr) (x : V), vs = [x] ∧ AnyV K C b H x ∧ Q (.bl (isI x)) H
def isN (x : V) (lo hi : Int) : Bool := match x with | .int i => decide (lo ≤ i) && decide (i ≤ hi) | _ => false
def spIsN (K : PySem.W.Frag) (C : Addr) : Sp := fun vs H Q _ => ∃ (b : Addr) (x : V) (lo hi : Int), vs = [x, .int lo, .int hi] ∧ AnyV K C b H x ∧ Q (.bl (isN x lo hi)) H
def spListed : Sp := fun vs H Q _ => vs = [] ∧ ∀ (a : Addr) (ps : List Addr) (H' : Hp), Same H H' → H a = none → (∀ p ∈ ps, H p = none) → H' a = some (.lst (ps.map V.ref)) → Paired (fun p kv => H' p = some (.tup [.int kv.1, .int kv.2])) ps listedP → Q (.ref a) H'
section
variable {P : Program} {w : World} {K : PySem.W.Frag} {mg : Str → Option Value} {base : Heap}
theorem ok_power (T : Txt K mg) : FnOk P w K mg base CX0 1 T.f_power T.fd_power ["worth", "count", "p"] (spPower) := by
  refine T.F_power.ok sc_power (fun vs H Q E h => ?_) (fun cdv A outer s H vs Q E hr h => ?_)
  · obtain ⟨b, m, p, rfl, _⟩ := h
    rfl
  · obtain ⟨x, n, p, rfl, p1, p2, k⟩ := h
    refine ⟨_, (pss_cons (ps_par3 (i := 3) (j := 4) (l := 5) (by rfl) sc_power.nd rfl rfl rfl (by decide) (by decide) (by decide) rfl rfl rfl (pa_cons pe_int (pa_cons (pe_op op_mod (pv 0) (pv 2)) (pa_cons (pv 1) pa_nil))) (by rfl))
      (pss_cons (ps_while PassesOwn.never (pt_cmpR op_gt (pv 5) pe_int (nomark _)) (pss_cons (ps_if (pt_cmpR op_eq (pe_op op_mod (pv 5) pe_int) pe_int (nomark _)) (pss_one (ps_set (i := 3) sc_power.nd rfl (Or.inl rfl) (pe_op op_mod (pe_op op_mul (pv 3) (pv 4)) (pv 2)))) pss_nil)
      (pss_cons (ps_set (i := 4) sc_power.nd rfl (Or.inl rfl) (pe_op op_mod (pe_op op_mul (pv 4) (pv 4)) (pv 2)))
      (pss_one (ps_set (i := 5) sc_power.nd rfl (Or.inl rfl) (pe_op op_fdivW (pv 5) pe_int))))))
      (pss_one (ps_ret (pv 3))))), ?_⟩
    refine ⟨_, rfl, _, rfl, _, _, rfl, rfl, (by show (0 : Int) < p; omega), _, rfl, _, _, _, rfl, ?_⟩
    refine while_by (fun σ H' => ∃ made bs left : Int, σ = [some (.int x), some (.int (n : Int)), some (.int p), some (.int made), some (.int bs), some (.int left)] ∧ H' = H ∧ InvP x n p made bs left) (fun σ _ => match σ with | [_, _, _, _, _, some (.int l)] => l.toNat | _ => 0)
      ⟨1, x % p, n, rfl, rfl, powi_start n p1⟩ ?_ (fun σ H Q Q' hq ⟨v, e, i, j, e1, e2, k, e3, q⟩ => ⟨v, e, i, j, e1, e2, k, e3, hq _ _ q⟩)
    rintro σ H' ⟨made, bs, left, rfl, rfl, I⟩
    have m0 := I.m0
    have m1 := I.m1
    have b0 := I.b0
    have b1 := I.b1
    refine ⟨_, rfl, _, _, rfl, rfl, _, rfl, ite2 (fun c => ?_) (fun c => ?_)⟩
    · have lp : 0 < left := of_decide_eq_true c
      refine ⟨_, rfl, _, _, rfl, rfl, (by show (0 : Int) < 2; decide), rfl, _, rfl, ite2 (fun c2 => ?_) (fun c2 => ?_)⟩
      · have o : left % 2 = 1 := V.int.inj (of_decide_eq_true c2)
        refine ⟨_, rfl, _, rfl, _, _, rfl, rfl, .inl ⟨by omega, by omega⟩, _, rfl, _, _, rfl, rfl, (by show (0 : Int) < p; omega), ?_⟩
        refine ⟨_, rfl, _, rfl, _, _, rfl, rfl, .inl ⟨by omega, by omega⟩, _, rfl, _, _, rfl, rfl, (by show (0 : Int) < p; omega), ?_⟩
        refine ⟨_, rfl, _, _, rfl, rfl, ⟨by decide, by decide⟩, ?_⟩
        exact ⟨⟨_, _, _, rfl, rfl, powi_turn1 I lp o⟩, by show (left / 2).toNat < left.toNat; omega⟩
      · have o : ¬ left % 2 = 1 := fun z => c2 (decide_eq_true (congrArg V.int z))
        refine ⟨_, rfl, _, rfl, _, _, rfl, rfl, .inl ⟨by omega, by omega⟩, _, rfl, _, _, rfl, rfl, (by show (0 : Int) < p; omega), ?_⟩
        refine ⟨_, rfl, _, _, rfl, rfl, ⟨by decide, by decide⟩, ?_⟩
        exact ⟨⟨_, _, _, rfl, rfl, powi_turn0 I lp o⟩, by show (left / 2).toNat < left.toNat; omega⟩
    · have lp : ¬ 0 < left := fun z => c (decide_eq_true z)
      refine ⟨_, rfl, ?_⟩
      rw [powi_end I lp]
      exact k
theorem ok_inverse (T : Txt K mg) : FnOk P w K mg base (L2.CX P w) 1 T.f_inverse T.fd_inverse ["worth", "p"] (spInv) := by
  refine T.F_inverse.okX sc_inverse (fun vs H Q E h => ?_) (fun cdv A outer s H vs Q E hr h => ?_)
  · obtain ⟨b, m, rfl, _⟩ := h
    rfl
  · obtain ⟨x, p, rfl, P1, p2, kE, k⟩ := h
    have p1 := P1.1
    refine ⟨_, (pss_cons (ps_par (i := 2) (j := 3) (by rfl) sc_inverse.nd rfl rfl (by decide) rfl rfl (pa_cons (pe_op op_mod (pv 0) (pv 1)) (pa_cons (pv 1) pa_nil)) (by rfl))
      (pss_cons (ps_if (pt_cmpR op_eq (pv 2) pe_int (nomark _)) (pss_one (ps_raise rfl (takes_of rfl rfl rfl rfl) (pmk_exbS exb_ZeroDivisionError (by rfl) T.z_ZeroDivisionError (by decide +kernel)))) pss_nil)
      (pss_cons (ps_asg (pe_tup (pa_cons pe_int (pa_cons pe_int pa_nil))) (pg_tup (by rfl) (pgs_cons (pg_name (i := 4) sc_inverse.nd rfl (Or.inl rfl)) (pgs_cons (pg_name (i := 5) sc_inverse.nd rfl (Or.inl rfl)) pgs_nil))))
      (pss_cons (ps_while (passes_of rfl) (pt_cmpR op_gt (pv 2) pe_int (nomark _)) (pss_cons (ps_set (i := 6) sc_inverse.nd rfl (Or.inl rfl) (pe_op op_fdivW (pv 3) (pv 2)))
      (pss_cons (ps_par (i := 2) (j := 3) (by rfl) sc_inverse.nd rfl rfl (by decide) rfl rfl (pa_cons (pe_op op_sub (pv 3) (pe_op op_mul (pv 6) (pv 2))) (pa_cons (pv 2) pa_nil)) (by rfl))
      (pss_one (ps_par (i := 4) (j := 5) (by rfl) sc_inverse.nd rfl rfl (by decide) rfl rfl (pa_cons (pe_op op_sub (pv 5) (pe_op op_mul (pv 6) (pv 4))) (pa_cons (pv 4) pa_nil)) (by rfl))))))
      (pss_one (ps_ret (pe_op op_mod (pv 4) (pv 1)))))))), ?_⟩
    refine ⟨_, rfl, _, rfl, _, _, rfl, rfl, (by show (0 : Int) < p; omega), _, rfl, _, _, rfl, ?_⟩
    refine ⟨_, rfl, rfl, _, rfl, ite2 (fun c => ?_) (fun c => ?_)⟩
    · exact kE (V.int.inj (of_decide_eq_true c))
    have nz : x % p ≠ 0 := fun z => c (decide_eq_true (congrArg V.int z))
    refine ⟨(by show 2 ≤ sizeLine; decide), fun tp htp => ⟨tp, _, rfl, SqT.of upd_same, rfl, _, _, rfl, _, _, rfl, rfl, ?_⟩⟩
    have gS := same_new htp (.tup [.int 1, .int 0])
    generalize upd H tp (.tup [.int 1, .int 0]) = HH at gS ⊢
    refine ⟨fun m σ H' => ∃ low high one other : Int, ∃ v : Option V, σ = [some (.int x), some (.int p), some (.int low), some (.int high), some (.int one), some (.int other), v] ∧ H' = HH ∧ InvI x p low high one other ∧ m = low.toNat,
      ⟨_, _, _, _, _, _, rfl, rfl, inv_start P1 nz, rfl⟩, ?_⟩
    rintro m σ H' ⟨low, high, one, other, v, rfl, rfl, I, rfl⟩
    have l0 := I.l0
    have lh := I.lh
    have hp := I.hp
    refine ⟨_, rfl, _, _, rfl, rfl, _, rfl, ite2 (fun c => ?_) (fun c => ?_)⟩
    · have l1 : 1 < low := of_decide_eq_true c
      refine ⟨fun σ' H'' => ∃ low' high' one' other' : Int, ∃ v : Option V, σ' = [some (.int x), some (.int p), some (.int low'), some (.int high'), some (.int one'), some (.int other'), v] ∧ H'' = H' ∧ InvI x p low' high' one' other' ∧ low'.toNat < low.toNat, ?_, ?_⟩
      · rintro σ' H'' ⟨low', high', one', other', v, rfl, rfl, I', hl⟩
        exact ⟨_, hl, _, _, _, _, _, rfl, rfl, I', rfl⟩
      · have q0 : 0 ≤ high / low := Int.ediv_nonneg (by omega) l0
        have q1 : high / low ≤ high := Int.ediv_le_self _ (by omega)
        refine ⟨_, rfl, _, rfl, _, _, rfl, rfl, ⟨by omega, Nat.lt_trans (PySem.Flt.log2_lt_of (by decide : 0 < 64) (by omega)) (by decide)⟩, ?_⟩
        refine ⟨_, rfl, _, rfl, _, rfl, _, _, rfl, rfl, .inl ⟨by omega, by omega⟩, _, _, rfl, rfl, _, rfl, _, _, rfl, ?_⟩
        refine ⟨_, rfl, _, rfl, _, rfl, _, _, rfl, rfl, .inl ⟨by omega, by omega⟩, _, _, rfl, rfl, _, rfl, _, _, rfl, ?_⟩
        obtain ⟨I', hl⟩ := inv_turn I l1
        exact ⟨_, _, _, _, _, rfl, rfl, I', hl⟩
    · have l1 : ¬ 1 < low := fun z => c (decide_eq_true z)
      obtain ⟨r0, r1, r2⟩ := inv_end I l1
      exact ⟨_, rfl, _, rfl, _, _, rfl, rfl, (by show (0 : Int) < p; omega), k nz _ _ r0 r1 r2 gS⟩
theorem ok_is_whole (T : Txt K mg) : FnOk P w K mg base CX0 1 T.f_is_whole T.fd_is_whole ["value"] (spPlain K T.C_NotNear) := by
  refine T.F_is_whole.ok sc_is_whole (fun vs H Q E h => ?_) (fun cdv A outer s H vs Q E hr h => ?_)
  · obtain ⟨b, x, rfl, _⟩ := h
    rfl
  · obtain ⟨b, x, rfl, hA, k⟩ := h
    refine ⟨_, (pss_one (ps_ret (pe_and (pe_callB call_isY (by rfl) T.z_isinstance (by decide +kernel) (pa_cons (pv 0) (pa_cons (pe_bltn (v := .ty "int") (by rfl) T.z_int (by decide +kernel) rfl) pa_nil))) (pe_one (pe_not (pe_callB call_isY (by rfl) T.z_isinstance (by decide +kernel) (pa_cons (pv 0) (pa_cons (pe_bltn (v := .ty "bool") (by rfl) T.z_bool (by decide +kernel) rfl) pa_nil)))))))), ?_⟩
    obtain ⟨f, fq, f1, f2⟩ := ask T hA
    refine ⟨_, rfl, fq "int" (by decide) _ ?_⟩
    refine ⟨_, rfl, ?_⟩
    rw [f1]
    have e2 : isI x = (if (isI x || isB x) = true then !isB x else false) := by cases x <;> rfl
    rw [e2] at k
    refine ite2 (fun c => ?_) (fun c => ?_)
    · rw [if_pos c] at k
      refine ⟨_, rfl, fq "bool" (by decide) _ ⟨_, rfl, ?_⟩⟩
      rw [f2]
      exact k
    · rw [if_neg c] at k
      exact k
theorem ok_is_plain (T : Txt K mg) : FnOk P w K mg base CX0 1 T.f_is_plain T.fd_is_plain ["thing"] (spPlain K T.C_NotNear) := by
  refine T.F_is_plain.ok sc_is_plain (fun vs H Q E h => ?_) (fun cdv A outer s H vs Q E hr h => ?_)
  · obtain ⟨b, x, rfl, _⟩ := h
    rfl
  · obtain ⟨b, x, rfl, hA, k⟩ := h
    refine ⟨_, (pss_one (ps_ret (pe_and (pe_callB call_isY (by rfl) T.z_isinstance (by decide +kernel) (pa_cons (pv 0) (pa_cons (pe_bltn (v := .ty "int") (by rfl) T.z_int (by decide +kernel) rfl) pa_nil))) (pe_one (pe_not (pe_callB call_isY (by rfl) T.z_isinstance (by decide +kernel) (pa_cons (pv 0) (pa_cons (pe_bltn (v := .ty "bool") (by rfl) T.z_bool (by decide +kernel) rfl) pa_nil)))))))), ?_⟩
    obtain ⟨f, fq, f1, f2⟩ := ask T hA
    refine ⟨_, rfl, fq "int" (by decide) _ ?_⟩
    refine ⟨_, rfl, ?_⟩
    rw [f1]
    have e2 : isI x = (if (isI x || isB x) = true then !isB x else false) := by cases x <;> rfl
    rw [e2] at k
    refine ite2 (fun c => ?_) (fun c => ?_)
    · rw [if_pos c] at k
      refine ⟨_, rfl, fq "bool" (by decide) _ ⟨_, rfl, ?_⟩⟩
      rw [f2]
      exact k
    · rw [if_neg c] at k
      exact k
theorem ok_is_number (T : Txt K mg) : FnOk P w K mg base CX0 2 T.f_is_number T.fd_is_number ["value", "least", "most"] (spIsN K T.C_NotNear) := by
  refine T.F_is_number.ok sc_is_number (fun vs H Q E h => ?_) (fun cdv A outer s H vs Q E hr h => ?_)
  · obtain ⟨b, x, lo, hi, rfl, _⟩ := h
    rfl
  · obtain ⟨b, x, lo, hi, rfl, hA, k⟩ := h
    refine ⟨_, (pss_one (ps_ret (pe_and (pe_call (ok_is_whole T) (hr.mono (by decide)) (by rfl) T.g_is_whole T.F_is_whole.kp T.b_is_whole .nil pass0 (pa_cons (pv 0) pa_nil)) (pe_one (pe_chain op_le op_le (pv 1) (pv 0) (pv 2)))))), ?_⟩
    refine ⟨_, rfl, b, x, rfl, hA, _, rfl, ?_⟩
    cases x with
    | int i =>
      refine iteT ⟨_, rfl, _, rfl, _, _, rfl, rfl, _, rfl, ?_⟩
      refine ite2 (fun c => ?_) (fun c => ?_)
      · have c' : decide (lo ≤ i) = true := c
        refine ⟨_, rfl, _, _, rfl, rfl, ?_⟩
        have e : isN (.int i) lo hi = decide (i ≤ hi) := by show (decide (lo ≤ i) && decide (i ≤ hi)) = _; rw [c']; rfl
        rw [e] at k
        exact k
      · have c' : decide (lo ≤ i) = false := Bool.eq_false_iff.mpr c
        have e : isN (.int i) lo hi = false := by show (decide (lo ≤ i) && decide (i ≤ hi)) = _; rw [c']; rfl
        rw [e] at k
        exact k
    | _ => exact iteF k
theorem ok_listed (T : Txt K mg) : FnOk P w K mg base CX0 1 T.f_listed T.fd_listed [] (spListed) := by
  refine T.F_listed.ok sc_listed (fun vs H Q E h => ?_) (fun cdv A outer s H vs Q E hr h => ?_)
  · obtain ⟨rfl, _⟩ := h
    rfl
  · obtain ⟨rfl, k⟩ := h
    refine ⟨_, (pss_one (ps_ret (pe_lst (pa_cons (pe_tup (pa_cons pe_int (pa_cons pe_int pa_nil))) (pa_cons (pe_tup (pa_cons pe_int (pa_cons pe_int pa_nil))) (pa_cons (pe_tup (pa_cons pe_int (pa_cons pe_int pa_nil))) (pa_cons (pe_tup (pa_cons pe_int (pa_cons pe_int pa_nil))) (pa_cons (pe_tup (pa_cons pe_int (pa_cons pe_int pa_nil))) (pa_cons (pe_tup (pa_cons pe_int (pa_cons pe_int pa_nil))) (pa_cons (pe_tup (pa_cons pe_int (pa_cons pe_int pa_nil))) pa_nil)))))))))), ?_⟩
    have gg0 : Same H H := Same.refl H
    refine ⟨(by show 2 ≤ sizeLine; decide), fun p0 h0 => ?_⟩
    have g0 : Same H (upd H p0 (.tup [.int 193, .int 5])) := same_new h0 _
    have e0 : upd H p0 (.tup [.int 193, .int 5]) p0 = some (.tup [.int 193, .int 5]) := upd_same
    replace h0 : H p0 = none := gg0.free h0
    generalize upd H p0 (.tup [.int 193, .int 5]) = H0 at g0 e0 ⊢
    have gg1 : Same H H0 := gg0.trans g0
    refine ⟨(by show 2 ≤ sizeLine; decide), fun p1 h1 => ?_⟩
    have g1 : Same H0 (upd H0 p1 (.tup [.int 257, .int 3])) := same_new h1 _
    have e1 : upd H0 p1 (.tup [.int 257, .int 3]) p1 = some (.tup [.int 257, .int 3]) := upd_same
    replace h1 : H p1 = none := gg1.free h1
    generalize upd H0 p1 (.tup [.int 257, .int 3]) = H1 at g1 e1 ⊢
    have gg2 : Same H H1 := gg1.trans g1
    replace e0 := g1 _ _ e0
    refine ⟨(by show 2 ≤ sizeLine; decide), fun p2 h2 => ?_⟩
    have g2 : Same H1 (upd H1 p2 (.tup [.int 769, .int 11])) := same_new h2 _
    have e2 : upd H1 p2 (.tup [.int 769, .int 11]) p2 = some (.tup [.int 769, .int 11]) := upd_same
    replace h2 : H p2 = none := gg2.free h2
    generalize upd H1 p2 (.tup [.int 769, .int 11]) = H2 at g2 e2 ⊢
    have gg3 : Same H H2 := gg2.trans g2
    replace e0 := g2 _ _ e0
    replace e1 := g2 _ _ e1
    refine ⟨(by show 2 ≤ sizeLine; decide), fun p3 h3 => ?_⟩
    have g3 : Same H2 (upd H2 p3 (.tup [.int 7681, .int 17])) := same_new h3 _
    have e3 : upd H2 p3 (.tup [.int 7681, .int 17]) p3 = some (.tup [.int 7681, .int 17]) := upd_same
    replace h3 : H p3 = none := gg3.free h3
    generalize upd H2 p3 (.tup [.int 7681, .int 17]) = H3 at g3 e3 ⊢
    have gg4 : Same H H3 := gg3.trans g3
    replace e0 := g3 _ _ e0
    replace e1 := g3 _ _ e1
    replace e2 := g3 _ _ e2
    refine ⟨(by show 2 ≤ sizeLine; decide), fun p4 h4 => ?_⟩
    have g4 : Same H3 (upd H3 p4 (.tup [.int 12289, .int 11])) := same_new h4 _
    have e4 : upd H3 p4 (.tup [.int 12289, .int 11]) p4 = some (.tup [.int 12289, .int 11]) := upd_same
    replace h4 : H p4 = none := gg4.free h4
    generalize upd H3 p4 (.tup [.int 12289, .int 11]) = H4 at g4 e4 ⊢
    have gg5 : Same H H4 := gg4.trans g4
    replace e0 := g4 _ _ e0
    replace e1 := g4 _ _ e1
    replace e2 := g4 _ _ e2
    replace e3 := g4 _ _ e3
    refine ⟨(by show 2 ≤ sizeLine; decide), fun p5 h5 => ?_⟩
    have g5 : Same H4 (upd H4 p5 (.tup [.int 998244353, .int 3])) := same_new h5 _
    have e5 : upd H4 p5 (.tup [.int 998244353, .int 3]) p5 = some (.tup [.int 998244353, .int 3]) := upd_same
    replace h5 : H p5 = none := gg5.free h5
    generalize upd H4 p5 (.tup [.int 998244353, .int 3]) = H5 at g5 e5 ⊢
    have gg6 : Same H H5 := gg5.trans g5
    replace e0 := g5 _ _ e0
    replace e1 := g5 _ _ e1
    replace e2 := g5 _ _ e2
    replace e3 := g5 _ _ e3
    replace e4 := g5 _ _ e4
    refine ⟨(by show 2 ≤ sizeLine; decide), fun p6 h6 => ?_⟩
    have g6 : Same H5 (upd H5 p6 (.tup [.int 2013265921, .int 31])) := same_new h6 _
    have e6 : upd H5 p6 (.tup [.int 2013265921, .int 31]) p6 = some (.tup [.int 2013265921, .int 31]) := upd_same
    replace h6 : H p6 = none := gg6.free h6
    generalize upd H5 p6 (.tup [.int 2013265921, .int 31]) = H6 at g6 e6 ⊢
    have gg7 : Same H H6 := gg6.trans g6
    replace e0 := g6 _ _ e0
    replace e1 := g6 _ _ e1
    replace e2 := g6 _ _ e2
    replace e3 := g6 _ _ e3
    replace e4 := g6 _ _ e4
    replace e5 := g6 _ _ e5
    refine ⟨(by show 7 ≤ sizeLine; decide), fun a ha => ?_⟩
    have g := same_new ha (.lst [.ref p0, .ref p1, .ref p2, .ref p3, .ref p4, .ref p5, .ref p6])
    refine k a [p0, p1, p2, p3, p4, p5, p6] _ (gg7.trans g) (gg7.free ha) ?_ upd_same ?_
    · intro p hp
      simp only [List.mem_cons, List.not_mem_nil, or_false] at hp
      rcases hp with rfl | rfl | rfl | rfl | rfl | rfl | rfl <;> assumption
    · exact (.cons (g _ _ e0) (.cons (g _ _ e1) (.cons (g _ _ e2) (.cons (g _ _ e3) (.cons (g _ _ e4) (.cons (g _ _ e5) (.cons (g _ _ e6) .nil)))))))
end
end K0

set_option maxRecDepth 100000
set_option maxHeartbeats 4000000
namespace K0
open PySem L2

def ItzS (Sq : Hp → Addr → List V → Prop) (a b : Addr) : It :=
  ⟨fun i H => ∃ (xs ys : List V) (x y : V), Sq H a xs ∧ Sq H b ys ∧ xs[i]? = some x ∧ ys[i]? = some y,
    fun i H v H' => ∃ T x y, v = .ref T ∧ H T = none ∧ H' = upd H T (.tup [x, y]) ∧ (∀ xs, Sq H a xs → xs[i]? = some x) ∧ ∀ ys, Sq H b ys → ys[i]? = some y,
    fun i H => ∃ xs ys : List V, Sq H a xs ∧ Sq H b ys ∧ (xs.length ≤ i ∨ ys.length ≤ i)⟩
theorem lc_zipS {Sq : Hp → Addr → List V → Prop} {a b : Addr} {xs ys : List V} {g : TG} {tt : TT} {te : TE} {vs : List Nat} {σ : L2.St} {H1 : Hp} {D : Addr} {Qd : Hp → Prop} (hl : xs.length = ys.length) (Pv : Nat → Hp → Prop) (h0 : Pv 0 (upd H1 D (.lst []))) (hq : ∀ i H, Pv i H → Sq H a xs ∧ Sq H b ys)
    (hs : ∀ (i : Nat) (x y : V) (T : Addr) (H : Hp), xs[i]? = some x → ys[i]? = some y → Pv i H → H T = none → g (.ref T) (wipe σ vs) (upd H T (.tup [x, y])) fun σ2 H2 => wipe σ2 vs = wipe σ vs ∧ tt σ2 H2 fun b H3 =>
      if b = true then te σ2 H3 fun y H4 => ∃ acc, H4 D = some (.lst acc) ∧ acc.length < sizeLine ∧ Pv (i + 1) (upd H4 D (.lst (acc ++ [y]))) else Pv (i + 1) H3) (hd : ∀ H, Pv xs.length H → Qd H) :
    ∃ W : Nat → Nat → Hp → Prop, (∃ m, W 0 m (upd H1 D (.lst []))) ∧ ∀ i m H, W i m H →
      ((ItzS Sq a b).stop i H ∧ Qd H) ∨ ((ItzS Sq a b).go i H ∧ ∃ Nx : Hp → Prop, (∀ H', Nx H' → ∃ m', m' < m ∧ W (i + 1) m' H') ∧ ∀ x H', (ItzS Sq a b).yld i H x H' → g x (wipe σ vs) H' fun σ2 H2 => wipe σ2 vs = wipe σ vs ∧ tt σ2 H2 fun b H3 =>
        if b = true then te σ2 H3 fun y H4 => ∃ acc, H4 D = some (.lst acc) ∧ acc.length < sizeLine ∧ Nx (upd H4 D (.lst (acc ++ [y]))) else Nx H3) := by
  refine ⟨fun i m H => m = xs.length - i ∧ i ≤ xs.length ∧ Pv i H, ⟨xs.length, rfl, Nat.zero_le _, h0⟩, ?_⟩
  rintro i m H ⟨rfl, hi, p⟩
  obtain ⟨qx, qy⟩ := hq i H p
  by_cases hlt : i < xs.length
  · have hx : xs[i]? = some xs[i] := List.getElem?_eq_getElem hlt
    have hy : ys[i]? = some ys[i] := List.getElem?_eq_getElem (by omega)
    refine .inr ⟨⟨xs, ys, _, _, qx, qy, hx, hy⟩, Pv (i + 1), fun H' p' => ⟨xs.length - (i + 1), by omega, rfl, hlt, p'⟩, fun v H' y => ?_⟩
    obtain ⟨T, x, y, rfl, hT, rfl, ex, ey⟩ := y
    exact hs i x y T H (ex xs qx) (ey ys qy) p hT
  · have e : i = xs.length := by omega
    subst e
    exact .inl ⟨⟨xs, ys, qx, qy, .inl (Nat.le_refl _)⟩, hd H p⟩
theorem isi_b {K : PySem.W.Frag} {H : Hp} {x : V} {k t : String} {r : Bool} {Q : VK} (ty : Kd K H x k) (h : kitB k t = some r) (q : Q (.bl r) H) : rIsi K [x, .ty t] H Q := ⟨x, .ty t, _, _, r, rfl, .ty t, ty, kit_ty h, q⟩
theorem kit_lt {K : PySem.W.Frag} {k : String} {r1 r2 : Bool} (h1 : kitB k "list" = some r1) (h2 : kitB k "tuple" = some r2) : PySem.W.kitAny K (.type k) [.type "list", .type "tuple"] = some (r1 || r2) := by
  refine kitAny_cons (kit_ty h1) (fun e => ?_) (fun e => by rw [e]; rfl)
  rw [e, Bool.false_or]
  exact kitAny_cons (kit_ty h2) (fun e => by rw [e]; exact kitAny_nil) (fun e => e)
theorem EqV.cs {K : PySem.W.Frag} {b : Addr} {H : Hp} {n : Nat} {x y : V} (h : EqV K b H n x y) : (Sc x ∧ x = y) ∨ ∃ (m : Nat) (a c : Addr) (xs ys : List V), n = m + 1 ∧ x = .ref a ∧ y = .ref c ∧ a ≠ b ∧ c ≠ b ∧ ((SqL K H a xs ∧ SqL K H c ys) ∨ (SqT K H a xs ∧ SqT K H c ys)) ∧ xs.length ≤ 1000 ∧ xs.length = ys.length ∧
      ∀ (i : Nat) (u v : V), xs[i]? = some u → ys[i]? = some v → EqV K b H m u v := by
  cases n with
  | zero => exact .inl h
  | succ m =>
    rcases h with h | ⟨a, c, xs, ys, h⟩
    · exact .inl h
    · exact .inr ⟨m, a, c, xs, ys, rfl, h⟩
def spSame (K : PySem.W.Frag) : Nat → Sp
  | 0 => fun _ _ _ _ => False
  | n + 1 => fun vs H Q _ => ∃ (b : Addr) (x y : V), vs = [x, y] ∧ EqV K b H n x y ∧ ∀ H', Same H H' → Q (.bl true) H'
section
variable {P : Program} {w : World} {K : PySem.W.Frag} {mg : Str → Option Value} {base : Heap}
theorem ok_same_step (T : Txt K mg) {n : Nat} (G : FnOk P w K mg base CX0 n T.f_same T.fd_same ["found", "due"] (spSame K n)) : FnOk P w K mg base CX0 (n + 1) T.f_same T.fd_same ["found", "due"] (spSame K (n + 1)) := by
  refine T.F_same.ok sc_same (fun vs H Q E h => ?_) (fun cdv A outer s H vs Q E hr h => ?_)
  · obtain ⟨b, x, y, rfl, _⟩ := h
    rfl
  · obtain ⟨b, x, y, rfl, hE, k⟩ := h
    refine ⟨_, (pss_cons (ps_if (pt_val (pe_callB call_isiT (by rfl) T.z_isinstance (by decide +kernel) (pa_cons (pv 1) (pa_cons (pe_tup (pa_cons (pe_bltn (v := .ty "list") (by rfl) T.z_list (by decide +kernel) rfl) (pa_cons (pe_bltn (v := .ty "tuple") (by rfl) T.z_tuple (by decide +kernel) rfl) pa_nil))) pa_nil)))) (pss_cons (ps_if (PW.pt (pw_or (pt_cmpR op_ne (pe_callB call_isi (by rfl) T.z_isinstance (by decide +kernel) (pa_cons (pv 0) (pa_cons (pe_bltn (v := .ty "list") (by rfl) T.z_list (by decide +kernel) rfl) pa_nil))) (pe_callB call_isi (by rfl) T.z_isinstance (by decide +kernel) (pa_cons (pv 1) (pa_cons (pe_bltn (v := .ty "list") (by rfl) T.z_list (by decide +kernel) rfl) pa_nil))) (nomark _)) (pw_or1 (pt_cmpR op_ne (pe_callB call_isi (by rfl) T.z_isinstance (by decide +kernel) (pa_cons (pv 0) (pa_cons (pe_bltn (v := .ty "tuple") (by rfl) T.z_tuple (by decide +kernel) rfl) pa_nil))) (pe_callB call_isi (by rfl) T.z_isinstance (by decide +kernel) (pa_cons (pv 1) (pa_cons (pe_bltn (v := .ty "tuple") (by rfl) T.z_tuple (by decide +kernel) rfl) pa_nil))) (nomark _))))) (pss_one (ps_ret pe_bl)) pss_nil)
      (pss_one (ps_ret (pe_and (pe_cmpR op_eq (pe_callB call_len_seq (by rfl) T.z_len PySem.boot_len (pa_cons (pv 0) pa_nil)) (pe_callB call_len_seq (by rfl) T.z_len PySem.boot_len (pa_cons (pv 1) pa_nil)) (nomark _)) (pe_one (pe_callB (cr_all rfl) (by rfl) T.z_all (by decide +kernel) (pa_cons (pe_lc (own := [("a", 2), ("b", 3)]) (g := gTup K 2 (gCons (gName 2) (gCons (gName 3) gNil))) (tt := tYes) (by rfl) sc_same.nd (RZ.pi_zipA (by rfl) T.z_zip (pa_cons (pv 0) (pa_cons (pv 1) pa_nil))) (blkOk_by (own := [("a", 2), ("b", 3)]) (N := ["found", "due", "a", "b"]) (sc := defScope s_same) (by decide +kernel)) (fun _ _ _ _ _ => (pg_tup (by rfl) (pgs_cons (pg_name (i := 2) sc_same.nd rfl (Or.inl rfl)) (pgs_cons (pg_name (i := 3) sc_same.nd rfl (Or.inl rfl)) pgs_nil)))) (fun _ _ _ _ _ => pts_nil) (fun _ _ _ _ _ => (pe_call G hr (by rfl) T.g_same T.F_same.kp T.b_same .nil pass0 (pa_cons (pv 2) (pa_cons (pv 3) pa_nil))))) pa_nil))))))) pss_nil)
      (pss_cons (ps_if (PW.pt (pw_or (pt_cmpR op_isN (pv 1) pe_non (nomark _)) (pw_or1 (pt_cmpR op_isN (pv 0) pe_non (nomark _))))) (pss_one (ps_ret (pe_and (pe_cmpR op_isN (pv 1) pe_non (nomark _)) (pe_one (pe_cmpR op_isN (pv 0) pe_non (nomark _)))))) pss_nil)
      (pss_cons (ps_if (PW.pt (pw_or (pt_val (pe_callB call_isi (by rfl) T.z_isinstance (by decide +kernel) (pa_cons (pv 1) (pa_cons (pe_bltn (v := .ty "bool") (by rfl) T.z_bool (by decide +kernel) rfl) pa_nil)))) (pw_or1 (pt_val (pe_callB call_isi (by rfl) T.z_isinstance (by decide +kernel) (pa_cons (pv 0) (pa_cons (pe_bltn (v := .ty "bool") (by rfl) T.z_bool (by decide +kernel) rfl) pa_nil))))))) (pss_one (ps_ret (pe_and (pe_callB call_isi (by rfl) T.z_isinstance (by decide +kernel) (pa_cons (pv 1) (pa_cons (pe_bltn (v := .ty "bool") (by rfl) T.z_bool (by decide +kernel) rfl) pa_nil))) (pe_and (pe_callB call_isi (by rfl) T.z_isinstance (by decide +kernel) (pa_cons (pv 0) (pa_cons (pe_bltn (v := .ty "bool") (by rfl) T.z_bool (by decide +kernel) rfl) pa_nil))) (pe_one (pe_cmpR op_eq (pv 0) (pv 1) (nomark _))))))) pss_nil)
      (pss_cons (ps_if (pt_val (pe_callB call_isi (by rfl) T.z_isinstance (by decide +kernel) (pa_cons (pv 1) (pa_cons (pe_bltn (v := .ty "int") (by rfl) T.z_int (by decide +kernel) rfl) pa_nil)))) (pss_one (ps_ret (pe_and (pe_callB call_isi (by rfl) T.z_isinstance (by decide +kernel) (pa_cons (pv 0) (pa_cons (pe_bltn (v := .ty "int") (by rfl) T.z_int (by decide +kernel) rfl) pa_nil))) (pe_one (pe_cmpR op_eq (pv 0) (pv 1) (nomark _)))))) pss_nil)
      (pss_one (ps_ret (pe_and (pe_callB call_isi (by rfl) T.z_isinstance (by decide +kernel) (pa_cons (pv 0) (pa_cons (pe_bltn (v := .ty "str") (by rfl) T.z_str (by decide +kernel) rfl) pa_nil))) (pe_one (pe_cmpR op_eq (pv 0) (pv 1) (nomark _)))))))))), ?_⟩
    rcases hE.cs with ⟨hs, rfl⟩ | ⟨m, a, c, xs, ys, rfl, rfl, rfl, na, nc, hq, l1, l2, hr2⟩
    · -- scalars
      have top : ∀ (kd : String), Kd K H x kd → (∀ H1, Same H H1 → Kd K H1 x kd) → True := fun _ _ _ => trivial
      refine ⟨_, rfl, (by show 2 ≤ sizeLine; decide), fun tp htp => ?_⟩
      have g1 := same_new htp (.tup [.ty "list", .ty "tuple"])
      have e1 : upd H tp (.tup [.ty "list", .ty "tuple"]) tp = some (.tup [.ty "list", .ty "tuple"]) := upd_same
      generalize upd H tp (.tup [.ty "list", .ty "tuple"]) = H1 at g1 e1 ⊢
      match x, hs with
      | .non, _ =>
        refine ⟨_, tp, _, .type "NoneType", [.type "list", .type "tuple"], false, rfl, e1, .cons (.ty _) (.cons (.ty _) .nil), .base .non, kit_lt (r1 := false) (r2 := false) (by decide +kernel) (by decide +kernel), ?_⟩
        refine ⟨_, rfl, iteF ?_⟩
        refine ⟨_, rfl, rfl, _, rfl, iteT ?_⟩
        exact ⟨_, rfl, rfl, _, rfl, iteT ⟨_, rfl, rfl, k _ g1⟩⟩
      | .bl z, _ =>
        have ty : Kd K H1 (.bl z) "bool" := .base (.bl z)
        refine ⟨_, tp, _, _, [.type "list", .type "tuple"], false, rfl, e1, .cons (.ty _) (.cons (.ty _) .nil), ty, kit_lt (r1 := false) (r2 := false) (by decide +kernel) (by decide +kernel), ?_⟩
        refine ⟨_, rfl, iteF ?_⟩
        refine ⟨_, rfl, rfl, _, rfl, iteF ⟨_, rfl, rfl, _, rfl, iteF ?_⟩⟩
        refine ⟨_, rfl, _, _, _, _, true, rfl, .ty _, ty, kit_ty (by decide +kernel), _, rfl, iteT ?_⟩
        refine ⟨_, rfl, _, _, _, _, true, rfl, .ty _, ty, kit_ty (by decide +kernel), _, rfl, iteT ?_⟩
        refine ⟨_, rfl, _, _, _, _, true, rfl, .ty _, ty, kit_ty (by decide +kernel), _, rfl, iteT ?_⟩
        refine ⟨_, rfl, _, rfl, rfl, ?_⟩
        have e : decide (V.bl z = V.bl z) = true := decide_eq_true rfl
        show Q (.bl (decide (V.bl z = V.bl z))) H1
        rw [e]
        exact k _ g1
      | .int z, _ =>
        have ty : Kd K H1 (.int z) "int" := .base (.int z)
        refine ⟨_, tp, _, _, [.type "list", .type "tuple"], false, rfl, e1, .cons (.ty _) (.cons (.ty _) .nil), ty, kit_lt (r1 := false) (r2 := false) (by decide +kernel) (by decide +kernel), ?_⟩
        refine ⟨_, rfl, iteF ?_⟩
        refine ⟨_, rfl, rfl, _, rfl, iteF ⟨_, rfl, rfl, _, rfl, iteF ?_⟩⟩
        refine ⟨_, rfl, _, _, _, _, false, rfl, .ty _, ty, kit_ty (by decide +kernel), _, rfl, iteF ?_⟩
        refine ⟨_, rfl, _, _, _, _, false, rfl, .ty _, ty, kit_ty (by decide +kernel), _, rfl, iteF ?_⟩
        refine ⟨_, rfl, _, _, _, _, true, rfl, .ty _, ty, kit_ty (by decide +kernel), _, rfl, iteT ?_⟩
        refine ⟨_, rfl, _, _, _, _, true, rfl, .ty _, ty, kit_ty (by decide +kernel), _, rfl, iteT ?_⟩
        refine ⟨_, rfl, _, rfl, rfl, ?_⟩
        have e : decide (V.int z = V.int z) = true := decide_eq_true rfl
        show Q (.bl (decide (V.int z = V.int z))) H1
        rw [e]
        exact k _ g1
      | .str z, _ =>
        have ty : Kd K H1 (.str z) "str" := .base (.str z)
        refine ⟨_, tp, _, _, [.type "list", .type "tuple"], false, rfl, e1, .cons (.ty _) (.cons (.ty _) .nil), ty, kit_lt (r1 := false) (r2 := false) (by decide +kernel) (by decide +kernel), ?_⟩
        refine ⟨_, rfl, iteF ?_⟩
        refine ⟨_, rfl, rfl, _, rfl, iteF ⟨_, rfl, rfl, _, rfl, iteF ?_⟩⟩
        refine ⟨_, rfl, _, _, _, _, false, rfl, .ty _, ty, kit_ty (by decide +kernel), _, rfl, iteF ?_⟩
        refine ⟨_, rfl, _, _, _, _, false, rfl, .ty _, ty, kit_ty (by decide +kernel), _, rfl, iteF ?_⟩
        refine ⟨_, rfl, _, _, _, _, false, rfl, .ty _, ty, kit_ty (by decide +kernel), _, rfl, iteF ?_⟩
        refine ⟨_, rfl, _, _, _, _, true, rfl, .ty _, ty, kit_ty (by decide +kernel), _, rfl, iteT ?_⟩
        refine ⟨_, rfl, _, rfl, rfl, ?_⟩
        have e : decide (V.str z = V.str z) = true := decide_eq_true rfl
        show Q (.bl (decide (V.str z = V.str z))) H1
        rw [e]
        exact k _ g1
    · refine ⟨_, rfl, (by show 2 ≤ sizeLine; decide), fun tp htp => ?_⟩
      have g1 := same_new htp (.tup [.ty "list", .ty "tuple"])
      have e1 : upd H tp (.tup [.ty "list", .ty "tuple"]) tp = some (.tup [.ty "list", .ty "tuple"]) := upd_same
      generalize upd H tp (.tup [.ty "list", .ty "tuple"]) = H1 at g1 e1 ⊢
      rcases hq with ⟨q1, q2⟩ | ⟨q1, q2⟩
      · have t1 : Kd K H1 (.ref a) "list" := kdL (g1.seq q1)
        have t2 : Kd K H1 (.ref c) "list" := kdL (g1.seq q2)
        refine ⟨_, tp, _, _, [.type "list", .type "tuple"], true, rfl, e1, .cons (.ty _) (.cons (.ty _) .nil), t2, kit_lt (r1 := true) (r2 := false) (by decide +kernel) (by decide +kernel), ?_⟩
        refine ⟨_, rfl, iteT ?_⟩
        refine ⟨_, rfl, _, _, _, _, true, rfl, .ty _, t1, kit_ty (by decide +kernel), _, rfl, _, _, _, _, true, rfl, .ty _, t2, kit_ty (by decide +kernel), rfl, _, rfl, iteF ?_⟩
        refine ⟨_, rfl, _, _, _, _, false, rfl, .ty _, t1, kit_ty (by decide +kernel), _, rfl, _, _, _, _, false, rfl, .ty _, t2, kit_ty (by decide +kernel), rfl, _, rfl, iteF ?_⟩
        refine ⟨_, rfl, a, _, rfl, .inl (g1.seq q1), _, rfl, c, _, rfl, .inl (g1.seq q2), rfl, _, rfl, ?_⟩
        have e : decide (V.int ((xs.length : Nat) : Int) = V.int ((ys.length : Nat) : Int)) = true := decide_eq_true (by rw [l2])
        rw [e]
        refine iteT ?_
        refine ⟨_, rfl, _, rfl, a, c, xs, ys, rfl, .inl ⟨g1.seq q1, g1.seq q2, fun D hD => lc_zipS (Sq := SqL K) (a := a) (b := c) (xs := xs) (ys := ys) l2 (fun i H' => Same H1 H' ∧ H' D = some (.lst ((List.replicate i true).map V.bl)))
          ⟨same_new hD _, upd_same⟩ (fun i H' ⟨gs, _⟩ => ⟨(g1.trans gs).seq q1, (g1.trans gs).seq q2⟩) ?_ ?_⟩⟩
        · rintro i u v T' Hx hu hv ⟨gs, eD⟩ hT
          have gT := same_new hT (.tup [u, v])
          refine ⟨T', _, rfl, SqT.of upd_same, rfl, u, _, rfl, v, _, rfl, rfl, rfl, ?_⟩
          refine ⟨_, rfl, _, rfl, b, u, v, rfl, (hr2 i u v hu hv).keep (Keep.of_same (g1.trans (gs.trans gT))), fun H3 g3 => ?_⟩
          have hi : i < xs.length := (List.getElem?_eq_some_iff.mp hu).1
          refine ⟨_, g3 _ _ (gT _ _ eD), by rw [List.length_map, List.length_replicate]; exact small1000 (by omega), fun x o ho => ?_, ?_⟩
          · rw [upd_ne (ne_of_none ho hD)]
            exact g3 _ _ (gT _ _ (gs _ _ ho))
          · rw [upd_same, List.replicate_succ', List.map_append]
            rfl
        · rintro H' ⟨gs, eD⟩
          refine ⟨D, List.replicate xs.length true, rfl, SqL.of eD, ?_⟩
          have ea : (List.replicate xs.length true).all id = true := by simp
          rw [ea]
          exact k _ (g1.trans gs)
      · have t1 : Kd K H1 (.ref a) "tuple" := kdT (Same.seqT' g1 q1)
        have t2 : Kd K H1 (.ref c) "tuple" := kdT (Same.seqT' g1 q2)
        refine ⟨_, tp, _, _, [.type "list", .type "tuple"], true, rfl, e1, .cons (.ty _) (.cons (.ty _) .nil), t2, kit_lt (r1 := false) (r2 := true) (by decide +kernel) (by decide +kernel), ?_⟩
        refine ⟨_, rfl, iteT ?_⟩
        refine ⟨_, rfl, _, _, _, _, false, rfl, .ty _, t1, kit_ty (by decide +kernel), _, rfl, _, _, _, _, false, rfl, .ty _, t2, kit_ty (by decide +kernel), rfl, _, rfl, iteF ?_⟩
        refine ⟨_, rfl, _, _, _, _, true, rfl, .ty _, t1, kit_ty (by decide +kernel), _, rfl, _, _, _, _, true, rfl, .ty _, t2, kit_ty (by decide +kernel), rfl, _, rfl, iteF ?_⟩
        refine ⟨_, rfl, a, _, rfl, .inr (Same.seqT' g1 q1), _, rfl, c, _, rfl, .inr (Same.seqT' g1 q2), rfl, _, rfl, ?_⟩
        have e : decide (V.int ((xs.length : Nat) : Int) = V.int ((ys.length : Nat) : Int)) = true := decide_eq_true (by rw [l2])
        rw [e]
        refine iteT ?_
        refine ⟨_, rfl, _, rfl, a, c, xs, ys, rfl, .inr ⟨Same.seqT' g1 q1, Same.seqT' g1 q2, fun D hD => lc_zipS (Sq := SqT K) (a := a) (b := c) (xs := xs) (ys := ys) l2 (fun i H' => Same H1 H' ∧ H' D = some (.lst ((List.replicate i true).map V.bl)))
          ⟨same_new hD _, upd_same⟩ (fun i H' ⟨gs, _⟩ => ⟨Same.seqT' (g1.trans gs) q1, Same.seqT' (g1.trans gs) q2⟩) ?_ ?_⟩⟩
        · rintro i u v T' Hx hu hv ⟨gs, eD⟩ hT
          have gT := same_new hT (.tup [u, v])
          refine ⟨T', _, rfl, SqT.of upd_same, rfl, u, _, rfl, v, _, rfl, rfl, rfl, ?_⟩
          refine ⟨_, rfl, _, rfl, b, u, v, rfl, (hr2 i u v hu hv).keep (Keep.of_same (g1.trans (gs.trans gT))), fun H3 g3 => ?_⟩
          have hi : i < xs.length := (List.getElem?_eq_some_iff.mp hu).1
          refine ⟨_, g3 _ _ (gT _ _ eD), by rw [List.length_map, List.length_replicate]; exact small1000 (by omega), fun x o ho => ?_, ?_⟩
          · rw [upd_ne (ne_of_none ho hD)]
            exact g3 _ _ (gT _ _ (gs _ _ ho))
          · rw [upd_same, List.replicate_succ', List.map_append]
            rfl
        · rintro H' ⟨gs, eD⟩
          refine ⟨D, List.replicate xs.length true, rfl, SqL.of eD, ?_⟩
          have ea : (List.replicate xs.length true).all id = true := by simp
          rw [ea]
          exact k _ (g1.trans gs)
theorem ok_same (T : Txt K mg) : ∀ n : Nat, FnOk P w K mg base CX0 n T.f_same T.fd_same ["found", "due"] (spSame K n)
  | 0 => ⟨fun vs H Q E h => h.elim, fun A outer s H args us vs Q E _ _ _ _ h => h.elim⟩
  | n + 1 => ok_same_step T (ok_same T n)
end
end K0

set_option maxRecDepth 100000
set_option maxHeartbeats 4000000
namespace K0
open PySem L2

/-! ### dict(t), t a tuple of pairs that the top wrote -/
def SqTP (K : PySem.W.Frag) (a : Addr) (xs : List V) : Prop := ∃ (o : Obj) (its : Array Value) (n : Nat), K.lookup a = some o ∧ o.cls = .type "tuple" ∧ o.dict = none ∧ o.data = .seq its n ∧ its.size ≤ sizeLine ∧ Vals xs its.toList
theorem SqTP.sq {K : PySem.W.Frag} {a : Addr} {xs : List V} {H : Hp} (h : SqTP K a xs) : SqT K H a xs := by
  obtain ⟨o, its, n, h1, h2, _, h3, h4, h5⟩ := h
  exact .inr ⟨o, its, n, h1, h2, h3, h4, h5⟩
section
variable {X : Cx}
theorem pairs_of2 {pins : List (Addr × Obj)} {σ : L2.St} {H : Hp} {s : Shared} (I : Inv X pins σ H s) : ∀ {ps : List Addr} {kvs : List (Key × V)}, Paired (fun p kv => SqT X.K H p [kV kv.1, kv.2]) ps kvs →
    ∃ (prs : List (Key × Value)) (uvs : List (Value × Value)), KV kvs prs ∧ prs.length = ps.length ∧ uvs.length = ps.length ∧ ∀ (j : Nat) (u v : Value), uvs[j]? = some (u, v) → ∃ (b : Addr) (k : Key), ps[j]? = some b ∧ prs[j]? = some (k, v) ∧ s.heap.IsTuple b #[u, v] ∧ keyIs k u = true
  | _, _, .nil => ⟨[], [], .nil, rfl, rfl, fun j u v e => by simp at e⟩
  | _, _, .cons (a := p) (b := kv) h t => by
    obtain ⟨prs, uvs, r, hl, hl2, hp⟩ := pairs_of2 I t
    obtain ⟨its, rv, ht, _⟩ := I.tuple h
    obtain ⟨u, y, ei, ru, ry⟩ := vals2 rv
    subst ei
    refine ⟨(kv.1, y) :: prs, (u, y) :: uvs, .cons ⟨rfl, ry⟩ r, by rw [List.length_cons, List.length_cons, hl], by rw [List.length_cons, List.length_cons, hl2], fun j u' v' e => ?_⟩
    cases j with
    | zero =>
      have e' : (u, y) = (u', v') := Option.some.inj e
      cases e'
      exact ⟨p, kv.1, rfl, rfl, ht, kV_is (P := X.prog) (w := X.w) ru⟩
    | succ j =>
      obtain ⟨b, k, e1, e2, e3⟩ := hp j u' v' (by simpa using e)
      exact ⟨b, k, by simpa using e1, by simpa using e2, e3⟩
theorem call_dictKT (hcalm : X.calm = true) : CallR X (.type "dict") (fun xs H Q => ∃ (a : Addr) (ps : List Addr) (kvs : List (Key × V)), xs = [.ref a] ∧ SqTP X.K a (ps.map V.ref) ∧ Paired (fun p kv => SqT X.K H p [kV kv.1, kv.2]) ps kvs ∧
    ∀ p, H p = none → Q (.ref p) (upd H p (.dK (mergeK [] kvs)))) := by
  intro pins s σ H xs us Q I r q
  obtain ⟨a, ps, kvs, ex, ⟨o, its, n, hk, hc, hd, hdat, hsz, hv⟩, hp, q⟩ := q
  subst ex
  obtain ⟨u, eu, rx⟩ := vals1 r
  subst eu
  cases rx
  have ei := refs_at hv
  obtain ⟨prs, uvs, rel, hl, hl2, hpr⟩ := pairs_of2 I hp
  have hzl : its.size = ps.length := by
    have := congrArg List.length ei
    rw [List.length_map] at this
    simpa using this
  refine PySem.call_dict_pairs (knd := mixKind X.prog X.w) (kvs := prs) (PairArg.tuple a its (fun j => (ps[j]?).getD 0) uvs) (I.ok.hd hcalm) ⟨⟨o, n, I.kIn _ _ hk, hc, hd, hdat⟩, ⟨by rw [hzl, hl2], fun j u v e => ?_⟩⟩ ⟨by rw [hl, hl2], fun j u v e => ?_⟩ (by rw [hl2, ← hzl]; exact hsz) fun h' tk hd' k => ?_
  · obtain ⟨b, k, e1, e2, e3, e4⟩ := hpr j u v e
    refine ⟨?_, .inl ?_⟩
    · have z : its.toList[j]? = some (.ref ((ps[j]?).getD 0)) := by rw [ei, List.getElem?_map, e1]; rfl
      simpa using z
    · show s.heap.IsTuple ((ps[j]?).getD 0) _
      rw [e1]
      exact e3
  · obtain ⟨b, k, e1, e2, e3, e4⟩ := hpr j u v e
    exact ⟨k, e2, e4⟩
  · have hm : (s.heap.objs.size == sysModules) = false := beq_eq_false_iff_ne.mpr (Nat.ne_of_gt I.big)
    have hlen : (mergeK [] kvs).length ≤ sizeLine := by
      refine Nat.le_trans (length_mergeK kvs []) ?_
      rw [List.length_nil, Nat.zero_add, rel.length, hl, ← hzl]
      exact hsz
    exact ⟨.ref s.heap.objs.size, upd H s.heap.objs.size (.dK (mergeK [] kvs)), I.laid (t' := tk) (fun b o e => k b o (by simp) e) (Nat.le_refl _) (show ObjOk X.prog X.w _ _ _ (.dK (mergeK [] kvs)) from ⟨hlen, hm, merged [] prs, KV.merge rel .nil, hd'⟩), rfl, q _ (I.hok.fresh (Nat.le_refl _))⟩
end
def kvP : List (Key × V) := listedP.map fun kv => (Sum.inl kv.1, V.int kv.2)
theorem kvP_merge : mergeK [] kvP = kvP := by
  simp [kvP, listedP, mergeK, putK]
theorem kvP_at (p : Int) : valV kvP (Sum.inl p) = ((listedP.find? fun kv => decide (kv.1 = p)).map fun kv => V.int kv.2) := by
  unfold valV kvP
  rw [List.find?_map, Option.map_map]
  have e : ((fun kv : Key × V => decide (kv.1 = Sum.inl p)) ∘ fun kv : Int × Int => ((Sum.inl kv.1 : Key), V.int kv.2)) = fun kv : Int × Int => decide (kv.1 = p) := by
    funext kv
    simp
  rw [e]
  rfl
def rootOf (p : Int) : Option Int := (listedP.find? fun kv => decide (kv.1 = p)).map (·.2)
theorem kvP_root (p : Int) : valV kvP (Sum.inl p) = (rootOf p).map V.int := by
  rw [kvP_at, rootOf, Option.map_map]
  rfl
section
variable {K : PySem.W.Frag} {mg : Str → Option Value}
theorem Txt.pP (T : Txt K mg) (H : Hp) : Paired (fun p kv => SqT K H p [kV kv.1, kv.2]) T.pairs kvP := by
  have h := T.lPs
  unfold kvP
  revert h
  generalize listedP = l
  generalize T.pairs = ps
  intro h
  induction h with
  | nil => exact .nil
  | cons h _ ih => exact .cons (.inr h) ih
end
def inRows (r : Int) : Bool := [4, 8, 16, 32, 64].contains r
def fitsB (p r : V) : Bool := match p, r with
  | .int p, .int r => (rootOf p).isSome && (inRows r && (decide ((p - 1) % (16 * r) = 0) && !decide (p - 1 = 16 * r)))
  | _, _ => false
def spFits (K : PySem.W.Frag) (C : Addr) : Sp := fun vs H Q _ => ∃ (b : Addr) (x y : V), vs = [x, y] ∧ AnyV K C b H x ∧ AnyV K C b H y ∧ BoxAt H b ∧ ∀ H', Same H H' → Q (.bl (fitsB x y)) H'
theorem inV_int (r : Int) (l : List Int) : inV (.int r) (l.map V.int) = l.contains r := by
  unfold inV
  induction l with
  | nil => rfl
  | cons a l ih =>
    rw [List.map_cons, List.any_cons, ih, List.contains_cons]
    congr 1
    show eqV (.int a) (.int r) = (r == a)
    by_cases h : a = r
    · subst h; simp [eqV]
    · have h1 : (a == r) = false := by simpa using h
      have h2 : (r == a) = false := by simpa using fun z : r = a => h z.symm
      rw [h2]
      simp [eqV, h1, h]
/-! ### the exceptions' own __init__ -/
def spI (C : Addr) (n : Nat) (fs : List V → List (Str × V)) : Sp := fun vs H Q _ => ∃ (a : Addr) (ys : List V), vs = .ref a :: ys ∧ ys.length = n ∧ H a = some (exo a C none) ∧
  ∀ (dx : Addr) (H' : Hp), H dx = none → dx ≠ a → (∀ x o, x ≠ a → H x = some o → H' x = some o) → H' a = some (exo a C (some dx)) → H' dx = some (exd dx (fs ys)) → Q .non H'
def fs1 (f : Str) : List V → List (Str × V)
  | [y] => [(f, y)]
  | _ => []
def fs2 (f g : Str) : List V → List (Str × V)
  | [y, z] => [(g, z), (f, y)]
  | _ => []
section
variable {P : Program} {w : World} {K : PySem.W.Frag} {mg : Str → Option Value} {base : Heap}
theorem ok_iBadProgram (T : Txt K mg) : FnOk P w K mg base CX0 1 T.fI_BadProgram T.fdI_BadProgram ["self", "line", "why"] (spI T.C_BadProgram 2 (fs2 "line" "why")) := by
  refine T.FI_BadProgram.ok sc_iBadProgram (fun vs H Q E h => ?_) (fun cdv A outer s H vs Q E hr h => ?_)
  · obtain ⟨a, ys, rfl, hl, _⟩ := h
    rw [List.length_cons, hl]
    rfl
  · obtain ⟨a, ys, rfl, hl, ha, k⟩ := h
    match ys, hl, k with
    | [y, z], _, k =>
      refine ⟨_, pss_cons (ps_xst (pv 0) (pv 1)) (pss_one (ps_xst (pv 0) (pv 2))), ?_⟩
      refine ⟨_, rfl, _, rfl, a, T.C_BadProgram, rfl, T.x_BadProgram, T.no_BadProgram_line, .inl ⟨ha, fun dx hd ne => ?_⟩⟩
      refine ⟨_, rfl, _, rfl, a, T.C_BadProgram, rfl, T.x_BadProgram, T.no_BadProgram_why, .inr ⟨dx, _, upd_same, by rw [upd_ne ne]; exact upd_same, (by show 1 ≤ 900; decide), ?_⟩⟩
      exact k dx _ hd ne (fun x o nx hx => by rw [upd_ne (ne_of_none hx hd), upd_ne nx, upd_ne (ne_of_none hx hd)]; exact hx) (by rw [upd_ne ne.symm]; exact upd_same) upd_same
theorem ok_iBadLine (T : Txt K mg) : FnOk P w K mg base CX0 1 T.fI_BadLine T.fdI_BadLine ["self", "field"] (spI T.C_BadLine 1 (fs1 "field")) := by
  refine T.FI_BadLine.ok sc_iBadLine (fun vs H Q E h => ?_) (fun cdv A outer s H vs Q E hr h => ?_)
  · obtain ⟨a, ys, rfl, hl, _⟩ := h
    rw [List.length_cons, hl]
    rfl
  · obtain ⟨a, ys, rfl, hl, ha, k⟩ := h
    match ys, hl, k with
    | [y], _, k =>
      refine ⟨_, pss_one (ps_xst (pv 0) (pv 1)), ?_⟩
      refine ⟨_, rfl, _, rfl, a, T.C_BadLine, rfl, T.x_BadLine, T.no_BadLine_field, .inl ⟨ha, fun dx hd ne => ?_⟩⟩
      exact k dx _ hd ne (fun x o nx hx => by rw [upd_ne nx, upd_ne (ne_of_none hx hd)]; exact hx) upd_same (by rw [upd_ne ne]; exact upd_same)
theorem ok_iBadPrime (T : Txt K mg) : FnOk P w K mg base CX0 1 T.fI_BadPrime T.fdI_BadPrime ["self", "p", "rows"] (spI T.C_BadPrime 2 (fs2 "p" "rows")) := by
  refine T.FI_BadPrime.ok sc_iBadPrime (fun vs H Q E h => ?_) (fun cdv A outer s H vs Q E hr h => ?_)
  · obtain ⟨a, ys, rfl, hl, _⟩ := h
    rw [List.length_cons, hl]
    rfl
  · obtain ⟨a, ys, rfl, hl, ha, k⟩ := h
    match ys, hl, k with
    | [y, z], _, k =>
      refine ⟨_, pss_cons (ps_xst (pv 0) (pv 1)) (pss_one (ps_xst (pv 0) (pv 2))), ?_⟩
      refine ⟨_, rfl, _, rfl, a, T.C_BadPrime, rfl, T.x_BadPrime, T.no_BadPrime_p, .inl ⟨ha, fun dx hd ne => ?_⟩⟩
      refine ⟨_, rfl, _, rfl, a, T.C_BadPrime, rfl, T.x_BadPrime, T.no_BadPrime_rows, .inr ⟨dx, _, upd_same, by rw [upd_ne ne]; exact upd_same, (by show 1 ≤ 900; decide), ?_⟩⟩
      exact k dx _ hd ne (fun x o nx hx => by rw [upd_ne (ne_of_none hx hd), upd_ne nx, upd_ne (ne_of_none hx hd)]; exact hx) (by rw [upd_ne ne.symm]; exact upd_same) upd_same
theorem ok_iBadShape (T : Txt K mg) : FnOk P w K mg base CX0 1 T.fI_BadShape T.fdI_BadShape ["self", "what", "count"] (spI T.C_BadShape 2 (fs2 "what" "count")) := by
  refine T.FI_BadShape.ok sc_iBadShape (fun vs H Q E h => ?_) (fun cdv A outer s H vs Q E hr h => ?_)
  · obtain ⟨a, ys, rfl, hl, _⟩ := h
    rw [List.length_cons, hl]
    rfl
  · obtain ⟨a, ys, rfl, hl, ha, k⟩ := h
    match ys, hl, k with
    | [y, z], _, k =>
      refine ⟨_, pss_cons (ps_xst (pv 0) (pv 1)) (pss_one (ps_xst (pv 0) (pv 2))), ?_⟩
      refine ⟨_, rfl, _, rfl, a, T.C_BadShape, rfl, T.x_BadShape, T.no_BadShape_what, .inl ⟨ha, fun dx hd ne => ?_⟩⟩
      refine ⟨_, rfl, _, rfl, a, T.C_BadShape, rfl, T.x_BadShape, T.no_BadShape_count, .inr ⟨dx, _, upd_same, by rw [upd_ne ne]; exact upd_same, (by show 1 ≤ 900; decide), ?_⟩⟩
      exact k dx _ hd ne (fun x o nx hx => by rw [upd_ne (ne_of_none hx hd), upd_ne nx, upd_ne (ne_of_none hx hd)]; exact hx) (by rw [upd_ne ne.symm]; exact upd_same) upd_same
theorem ok_iBadBook (T : Txt K mg) : FnOk P w K mg base CX0 1 T.fI_BadBook T.fdI_BadBook ["self", "line"] (spI T.C_BadBook 1 (fs1 "line")) := by
  refine T.FI_BadBook.ok sc_iBadBook (fun vs H Q E h => ?_) (fun cdv A outer s H vs Q E hr h => ?_)
  · obtain ⟨a, ys, rfl, hl, _⟩ := h
    rw [List.length_cons, hl]
    rfl
  · obtain ⟨a, ys, rfl, hl, ha, k⟩ := h
    match ys, hl, k with
    | [y], _, k =>
      refine ⟨_, pss_one (ps_xst (pv 0) (pv 1)), ?_⟩
      refine ⟨_, rfl, _, rfl, a, T.C_BadBook, rfl, T.x_BadBook, T.no_BadBook_line, .inl ⟨ha, fun dx hd ne => ?_⟩⟩
      exact k dx _ hd ne (fun x o nx hx => by rw [upd_ne nx, upd_ne (ne_of_none hx hd)]; exact hx) upd_same (by rw [upd_ne ne]; exact upd_same)
theorem ok_iTooMany (T : Txt K mg) : FnOk P w K mg base CX0 1 T.fI_TooMany T.fdI_TooMany ["self", "what", "most"] (spI T.C_TooMany 2 (fs2 "what" "most")) := by
  refine T.FI_TooMany.ok sc_iTooMany (fun vs H Q E h => ?_) (fun cdv A outer s H vs Q E hr h => ?_)
  · obtain ⟨a, ys, rfl, hl, _⟩ := h
    rw [List.length_cons, hl]
    rfl
  · obtain ⟨a, ys, rfl, hl, ha, k⟩ := h
    match ys, hl, k with
    | [y, z], _, k =>
      refine ⟨_, pss_cons (ps_xst (pv 0) (pv 1)) (pss_one (ps_xst (pv 0) (pv 2))), ?_⟩
      refine ⟨_, rfl, _, rfl, a, T.C_TooMany, rfl, T.x_TooMany, T.no_TooMany_what, .inl ⟨ha, fun dx hd ne => ?_⟩⟩
      refine ⟨_, rfl, _, rfl, a, T.C_TooMany, rfl, T.x_TooMany, T.no_TooMany_most, .inr ⟨dx, _, upd_same, by rw [upd_ne ne]; exact upd_same, (by show 1 ≤ 900; decide), ?_⟩⟩
      exact k dx _ hd ne (fun x o nx hx => by rw [upd_ne (ne_of_none hx hd), upd_ne nx, upd_ne (ne_of_none hx hd)]; exact hx) (by rw [upd_ne ne.symm]; exact upd_same) upd_same
theorem ok_iNotNear (T : Txt K mg) : FnOk P w K mg base CX0 1 T.fI_NotNear T.fdI_NotNear ["self", "e"] (spI T.C_NotNear 1 (fs1 "e")) := by
  refine T.FI_NotNear.ok sc_iNotNear (fun vs H Q E h => ?_) (fun cdv A outer s H vs Q E hr h => ?_)
  · obtain ⟨a, ys, rfl, hl, _⟩ := h
    rw [List.length_cons, hl]
    rfl
  · obtain ⟨a, ys, rfl, hl, ha, k⟩ := h
    match ys, hl, k with
    | [y], _, k =>
      refine ⟨_, pss_one (ps_xst (pv 0) (pv 1)), ?_⟩
      refine ⟨_, rfl, _, rfl, a, T.C_NotNear, rfl, T.x_NotNear, T.no_NotNear_e, .inl ⟨ha, fun dx hd ne => ?_⟩⟩
      exact k dx _ hd ne (fun x o nx hx => by rw [upd_ne nx, upd_ne (ne_of_none hx hd)]; exact hx) upd_same (by rw [upd_ne ne]; exact upd_same)
theorem ok_iUnknownName (T : Txt K mg) : FnOk P w K mg base CX0 1 T.fI_UnknownName T.fdI_UnknownName ["self", "name"] (spI T.C_UnknownName 1 (fs1 "name")) := by
  refine T.FI_UnknownName.ok sc_iUnknownName (fun vs H Q E h => ?_) (fun cdv A outer s H vs Q E hr h => ?_)
  · obtain ⟨a, ys, rfl, hl, _⟩ := h
    rw [List.length_cons, hl]
    rfl
  · obtain ⟨a, ys, rfl, hl, ha, k⟩ := h
    match ys, hl, k with
    | [y], _, k =>
      refine ⟨_, pss_one (ps_xst (pv 0) (pv 1)), ?_⟩
      refine ⟨_, rfl, _, rfl, a, T.C_UnknownName, rfl, T.x_UnknownName, T.no_UnknownName_name, .inl ⟨ha, fun dx hd ne => ?_⟩⟩
      exact k dx _ hd ne (fun x o nx hx => by rw [upd_ne nx, upd_ne (ne_of_none hx hd)]; exact hx) upd_same (by rw [upd_ne ne]; exact upd_same)
theorem ok_iBroken (T : Txt K mg) : FnOk P w K mg base CX0 1 T.fI_Broken T.fdI_Broken ["self", "line", "why"] (spI T.C_Broken 2 (fs2 "line" "why")) := by
  refine T.FI_Broken.ok sc_iBroken (fun vs H Q E h => ?_) (fun cdv A outer s H vs Q E hr h => ?_)
  · obtain ⟨a, ys, rfl, hl, _⟩ := h
    rw [List.length_cons, hl]
    rfl
  · obtain ⟨a, ys, rfl, hl, ha, k⟩ := h
    match ys, hl, k with
    | [y, z], _, k =>
      refine ⟨_, pss_cons (ps_xst (pv 0) (pv 1)) (pss_one (ps_xst (pv 0) (pv 2))), ?_⟩
      refine ⟨_, rfl, _, rfl, a, T.C_Broken, rfl, T.x_Broken, T.no_Broken_line, .inl ⟨ha, fun dx hd ne => ?_⟩⟩
      refine ⟨_, rfl, _, rfl, a, T.C_Broken, rfl, T.x_Broken, T.no_Broken_why, .inr ⟨dx, _, upd_same, by rw [upd_ne ne]; exact upd_same, (by show 1 ≤ 900; decide), ?_⟩⟩
      exact k dx _ hd ne (fun x o nx hx => by rw [upd_ne (ne_of_none hx hd), upd_ne nx, upd_ne (ne_of_none hx hd)]; exact hx) (by rw [upd_ne ne.symm]; exact upd_same) upd_same
theorem ok_iNotWaiting (T : Txt K mg) : FnOk P w K mg base CX0 1 T.fI_NotWaiting T.fdI_NotWaiting ["self", "what"] (spI T.C_NotWaiting 1 (fs1 "what")) := by
  refine T.FI_NotWaiting.ok sc_iNotWaiting (fun vs H Q E h => ?_) (fun cdv A outer s H vs Q E hr h => ?_)
  · obtain ⟨a, ys, rfl, hl, _⟩ := h
    rw [List.length_cons, hl]
    rfl
  · obtain ⟨a, ys, rfl, hl, ha, k⟩ := h
    match ys, hl, k with
    | [y], _, k =>
      refine ⟨_, pss_one (ps_xst (pv 0) (pv 1)), ?_⟩
      refine ⟨_, rfl, _, rfl, a, T.C_NotWaiting, rfl, T.x_NotWaiting, T.no_NotWaiting_what, .inl ⟨ha, fun dx hd ne => ?_⟩⟩
      exact k dx _ hd ne (fun x o nx hx => by rw [upd_ne nx, upd_ne (ne_of_none hx hd)]; exact hx) upd_same (by rw [upd_ne ne]; exact upd_same)
theorem ok_fits (T : Txt K mg) : FnOk P w K mg base CX0 2 T.f_fits T.fd_fits ["p", "rows"] (spFits K T.C_NotNear) := by
  refine T.F_fits.ok sc_fits (fun vs H Q E h => ?_) (fun cdv A outer s H vs Q E hr h => ?_)
  · obtain ⟨b, x, y, rfl, _⟩ := h
    rfl
  · obtain ⟨b, x, y, rfl, hx, hy, hB, k⟩ := h
    refine ⟨_, (pss_cons (ps_if (PW.pt (pw_or (pt_not (pt_val (pe_call (ok_is_whole T) (hr.mono (by decide)) (by rfl) T.g_is_whole T.F_is_whole.kp T.b_is_whole .nil pass0 (pa_cons (pv 0) pa_nil)))) (pw_or1 (pt_not (pt_val (pe_call (ok_is_whole T) (hr.mono (by decide)) (by rfl) T.g_is_whole T.F_is_whole.kp T.b_is_whole .nil pass0 (pa_cons (pv 1) pa_nil))))))) (pss_one (ps_ret pe_bl)) pss_nil)
      (pss_cons (ps_set (i := 2) sc_fits.nd rfl (Or.inl rfl) (pe_op op_mul pe_int (pv 1)))
      (pss_one (ps_ret (pe_and (pe_cmp (pc_din (hu_of hr) (pv 0) (pe_callTy (call_dictKT rfl) (by rfl) T.z_dict (by decide +kernel) (pa_cons (pe_glob (v := .ref T.t_PRIMES) (by rfl) T.gP rfl) pa_nil))) rfl) (pe_and (pe_cmpR op_in_seq (pv 1) (pe_glob (v := .ref T.t_ROWS) (by rfl) T.gR rfl) (by rfl)) (pe_and (pe_cmpR op_eq (pe_op op_mod (pe_op op_sub (pv 0) pe_int) (pv 2)) pe_int (nomark _)) (pe_one (pe_cmpR op_ne (pe_op op_sub (pv 0) pe_int) (pv 2) (nomark _)))))))))), ?_⟩
    refine ⟨_, rfl, b, x, rfl, hx, _, rfl, ?_⟩
    have notI : ∀ v : V, isI v = true → ∃ i, v = .int i := fun v e => by cases v <;> first | exact ⟨_, rfl⟩ | cases e
    refine ite2 (fun c => ?_) (fun c => ?_)
    · have c' : isI x = false := by simpa using c
      have e : fitsB x y = false := by cases x <;> first | rfl | cases c'
      rw [e] at k
      exact k H (Same.refl H)
    obtain ⟨p, rfl⟩ := notI x (by simpa using c)
    refine ⟨_, rfl, b, y, rfl, hy, _, rfl, ?_⟩
    refine ite2 (fun c => ?_) (fun c => ?_)
    · have c' : isI y = false := by simpa using c
      have e : fitsB (.int p) y = false := by cases y <;> first | rfl | cases c'
      rw [e] at k
      exact k H (Same.refl H)
    obtain ⟨r, rfl⟩ := notI y (by simpa using c)
    refine ⟨_, rfl, _, _, rfl, rfl, .inl ⟨by decide, by decide⟩, ?_⟩
    refine ⟨_, rfl, T.t_PRIMES, T.pairs, kvP, rfl, T.lP, T.pP _, fun d hd => ?_⟩
    have g := same_new hd (.dK (mergeK [] kvP))
    refine ⟨d, _, rfl, DGet.k (k := Sum.inl p) upd_same, _, rfl, ?_⟩
    rw [kvP_merge] at g
    rw [kvP_merge, kvP_root, Option.isSome_map]
    have ek : fitsB (.int p) (.int r) = ((rootOf p).isSome && (inRows r && (decide ((p - 1) % (16 * r) = 0) && !decide (p - 1 = 16 * r)))) := rfl
    rw [ek] at k
    refine ite2 (fun c1 => ?_) (fun c1 => ?_)
    · rw [c1] at k
      refine ⟨_, rfl, T.t_ROWS, _, rfl, .inr (.inr T.lR), rfl, rfl, _, rfl, ?_⟩
      have ei : inV (.int r) [.int 4, .int 8, .int 16, .int 32, .int 64] = inRows r := inV_int r [4, 8, 16, 32, 64]
      rw [ei]
      refine ite2 (fun c2 => ?_) (fun c2 => ?_)
      · replace c2 : inRows r = true := c2
        rw [c2] at k
        have r4 : 4 ≤ r := by
          unfold inRows at c2
          simp at c2
          omega
        refine ⟨_, rfl, _, _, rfl, rfl, _, rfl, _, _, rfl, rfl, (by show (0 : Int) < 16 * r; omega), rfl, _, rfl, ?_⟩
        have e3 : decide (V.int ((p - 1) % (16 * r)) = V.int 0) = decide ((p - 1) % (16 * r) = 0) := by simp
        rw [e3]
        refine ite2 (fun c3 => ?_) (fun c3 => ?_)
        · rw [c3] at k
          refine ⟨_, rfl, _, _, rfl, rfl, _, rfl, rfl, ?_⟩
          have e4 : (!decide (V.int (p - 1) = V.int (16 * r))) = !decide (p - 1 = 16 * r) := by simp
          rw [e4]
          exact k _ g
        · have c3' : decide ((p - 1) % (16 * r) = 0) = false := Bool.eq_false_iff.mpr c3
          rw [c3'] at k
          exact k _ g
      · have c2' : inRows r = false := Bool.eq_false_iff.mpr (show ¬ inRows r = true from c2)
        rw [c2'] at k
        exact k _ g
    · have c1' : (rootOf p).isSome = false := Bool.eq_false_iff.mpr c1
      rw [c1'] at k
      exact k _ g
end
end K0

set_option maxRecDepth 100000
set_option maxHeartbeats 4000000
namespace K0
open PySem L2

theorem paired_at {α β : Type} {R : α → β → Prop} : ∀ {xs : List α} {ys : List β}, Paired R xs ys → xs.length = ys.length ∧ ∀ (i : Nat) (x : α) (y : β), xs[i]? = some x → ys[i]? = some y → R x y
  | _, _, .nil => ⟨rfl, fun i x y h _ => by simp at h⟩
  | _, _, .cons h t => by
    obtain ⟨l, r⟩ := paired_at t
    refine ⟨by simp [l], fun i x y hx hy => ?_⟩
    cases i with
    | zero =>
      cases (Option.some.inj hx)
      cases (Option.some.inj hy)
      exact h
    | succ i => exact r i x y (by simpa using hx) (by simpa using hy)
def firsts : List Int := listedP.map (·.1)
theorem find_some (l : List (Int × Int)) (p : Int) : ((l.find? fun kv => decide (kv.1 = p)).isSome) = (l.map (·.1)).contains p := by
  induction l with
  | nil => rfl
  | cons a l ih =>
    rw [List.map_cons, List.contains_cons, List.find?_cons]
    by_cases h : a.1 = p
    · have h2 : (p == a.1) = true := by simpa using h.symm
      rw [h2, decide_eq_true h]
      rfl
    · have h2 : (p == a.1) = false := by simpa using fun z : p = a.1 => h z.symm
      rw [h2, decide_eq_false h, Bool.false_or]
      exact ih
theorem rootOf_some (p : Int) : (rootOf p).isSome = firsts.contains p := by
  unfold rootOf firsts
  rw [Option.isSome_map]
  exact find_some _ p
theorem take_map {α β : Type} {l : List α} {f : α → β} {i : Nat} {x : α} (h : l[i]? = some x) : (l.take i).map f ++ [f x] = (l.take (i + 1)).map f := by
  rw [List.take_add_one, h, List.map_append]
  rfl
theorem notI {v : V} (e : isI v = true) : ∃ i, v = .int i := by cases v <;> first | exact ⟨_, rfl⟩ | cases e
def spGen0 : Sp := fun vs H Q _ => ∃ (b : Addr) (p r : Int), vs = [.int p] ∧ BoxAt H b ∧ rootOf p = some r ∧ ∀ H', Same H H' → Q (.int r) H'
def spGenX (K : PySem.W.Frag) (CN CU : Addr) : Sp := fun vs H Q E => ∃ (b : Addr) (x : V), vs = [x] ∧ BoxAt H b ∧ AnyV K CN b H x ∧ (∀ i r, x = .int i → rootOf i = some r → ∀ H', Same H H' → Q (.int r) H') ∧
  ((∀ i, x = .int i → rootOf i = none) → ∀ H' d, Same H H' → H d = none → H' d = some (.xd [("name", x)]) → E (.ref CU) (some d) H')
/-- what law_generators hands back: (root, None) or ('unknown', x) -/
def spGens (K : PySem.W.Frag) (CN : Addr) : Sp := fun vs H Q _ => ∃ (b : Addr) (x : V), vs = [x] ∧ BoxAt H b ∧ AnyV K CN b H x ∧ ∀ (H' : Hp) (p : Addr) (y z : V), Same H H' → H p = none → H' p = some (.tup [y, z]) →
  ((∃ i r, x = .int i ∧ rootOf i = some r ∧ y = .int r ∧ z = .non) ∨ ((∀ i, x = .int i → rootOf i = none) ∧ y = .str "unknown" ∧ z = x)) → Q (.ref p) H'
def spTurned : Sp := fun vs H Q _ => ∃ (x p : Int) (nm : Bool), vs = [.int x, .int p, .bl nm] ∧ Prm p ∧ p < 2 ^ 64 ∧ (x % p = 0 → ∀ H', Same H H' → Q .non H') ∧ (x % p ≠ 0 → ∀ (r : Int) (H' : Hp), 0 < r → r < p → (r * x) % p = 1 → Same H H' → Q (.int r) H')
section
variable {X : Cx} {k : Nat} {f : Addr} {fd : FuncData} {ps ks : List Str} {sp : Sp} {E : St → XK} {x : Str} {p pos : Pos} {kws : List Keyword} {tk : TA} {CX : CXT} {g : List Value → List Value → List Value} {gV : List V → List V → List V}
def tCallNS0 (m : Nat) (sp : Sp) (gV : List V → List V → List V) (E : St → XK) (tk : TA) : TE := fun σ H Q => tk σ H fun zs H2 => zs.length = m ∧ sp (gV [] zs) H2 Q (E σ)
/-- f(k = v, ..) where what is raised is wished for at the slots -/
theorem pe_callNS0 (F : FnOk X.prog X.w X.K X.mg X.base CX k f fd ps sp) (hr : Room k X.A) (hg : Gl X x) (hm : X.mg x = some (.ref f)) (hk : PySem.W.keepIn X.K (.ref f) = true) (hb : KBn X.K fd ps 0 ks g gV) (hx : ∀ σ, PassesAt CX X σ (E σ))
    (hkw : PK X kws tk) (hall : (backToKw pos (keywordEach kws X.env)).all (·.1.isSome) = true := by rfl) (hks : (backToKw pos (keywordEach kws X.env)).filterMap (·.1) = ks := by rfl)
    (hdb : (x == ("__debug__" : Str)) = false := by decide)
    (hpl : ((backTo pos (starEach [] X.env)).any (·.1) || (backToKw pos (keywordEach kws X.env)).any (·.1.isNone)) = false := by rfl) :
    PE X (.Call (.Name x p) [] kws pos) (tCallNS0 ks.length sp gV E tk) := by
  refine ⟨fun pins s σ H Q I h => ?_⟩
  refine wpAny_Call_Name_kw (ld_glob I hg hm ?_ hdb)
  refine PySem.W.callWith_KW0 (h₀ := X.base) I.ok.mod.kin hk hall ?_ hpl
  refine thn (hkw.run pos pins s σ H _ I h) fun ws s2 ⟨zs, H2, I2, rz, l2, q2⟩ => ⟨I2.kIn, ?_⟩
  rw [hks]
  have r2 : Vals (gV [] zs) (g [] ws) := hb.rel .nil rz
  refine wpAny_call (codeAny_mono (F.run X.A X.stack s2 H2 ⟨[], ks.zip ws⟩ (g [] ws) (gV [] zs) Q (E σ) hr I2.env0 (hb.to s2 [] ws I2.kIn rfl (rz.length.symm.trans l2)) r2 q2) fun r s' hq => ?_)
  cases r with
  | error e => exact hx σ pins H2 s2 e s' I2 hq
  | ok fl =>
    cases fl with
    | ret u => exact I2.after hq
    | next => exact False.elim hq
    | brk => exact False.elim hq
    | cont => exact False.elim hq
end
section
variable {P : Program} {w : World} {K : PySem.W.Frag} {mg : Str → Option Value} {base : Heap}
theorem ok_fitting (T : Txt K mg) : FnOk P w K mg base CX0 2 T.f_fitting T.fd_fitting ["first", "second"] (spFits K T.C_NotNear) := by
  refine T.F_fitting.ok sc_fitting (fun vs H Q E h => ?_) (fun cdv A outer s H vs Q E hr h => ?_)
  · obtain ⟨b, x, y, rfl, _⟩ := h
    rfl
  · obtain ⟨b, x, y, rfl, hx, hy, hB, k⟩ := h
    refine ⟨_, (pss_cons (ps_if (PW.pt (pw_or (pt_not (pt_val (pe_call (ok_is_plain T) (hr.mono (by decide)) (by rfl) T.g_is_plain T.F_is_plain.kp T.b_is_plain .nil pass0 (pa_cons (pv 0) pa_nil)))) (pw_or1 (pt_not (pt_val (pe_call (ok_is_plain T) (hr.mono (by decide)) (by rfl) T.g_is_plain T.F_is_plain.kp T.b_is_plain .nil pass0 (pa_cons (pv 1) pa_nil))))))) (pss_one (ps_ret pe_bl)) pss_nil)
      (pss_cons (ps_if (PW.pt (pw_or (pt_cmpR op_notIn_seq (pv 0) (pe_lc (own := [("pair", 2)]) (g := gName 2) (tt := tYes) (te := tOp (rIxT K) (tVar 2) (tC (.int 0))) (by rfl) sc_fitting.nd (pi_list (pe_call0 (ok_listed T) (hr.mono (by decide)) (by rfl) T.g_listed T.F_listed.kp T.b_listed .nil pass0)) (blkOk_by (own := [("pair", 2)]) (N := ["first", "second", "pair"]) (sc := defScope s_fitting) (by decide +kernel)) (fun _ _ _ _ _ => (pg_name (i := 2) sc_fitting.nd rfl (Or.inl rfl))) (fun _ _ _ _ _ => pts_nil) (fun _ _ _ _ _ => (pe_ix ix_tup (pv 2) pe_int (fun _ _ => rfl)))) (by rfl)) (pw_or1 (pt_cmpR op_notIn_seq (pv 1) (pe_lst (pa_cons pe_int (pa_cons pe_int (pa_cons pe_int (pa_cons pe_int (pa_cons pe_int pa_nil)))))) (by rfl))))) (pss_one (ps_ret pe_bl)) pss_nil)
      (pss_one (ps_ret (pe_and (pe_cmpR op_eq (pe_op op_mod (pe_callTy call_int1 (by rfl) T.z_int (by decide +kernel) (pa_cons (pe_op op_sub (pv 0) pe_int) pa_nil)) (pe_op op_mul pe_int (pv 1))) pe_int (nomark _)) (pe_one (pe_cmpR op_ne (pe_op op_mul pe_int (pv 1)) (pe_op op_sub (pv 0) pe_int) (nomark _)))))))), ?_⟩
    refine ⟨_, rfl, b, x, rfl, hx, _, rfl, ?_⟩
    refine ite2 (fun c => ?_) (fun c => ?_)
    · have c' : isI x = false := by simpa using c
      have e : fitsB x y = false := by cases x <;> first | rfl | cases c'
      rw [e] at k
      exact k H (Same.refl H)
    obtain ⟨p, rfl⟩ := notI (v := x) (by simpa using c)
    refine ⟨_, rfl, b, y, rfl, hy, _, rfl, ?_⟩
    refine ite2 (fun c => ?_) (fun c => ?_)
    · have c' : isI y = false := by simpa using c
      have e : fitsB (.int p) y = false := by cases y <;> first | rfl | cases c'
      rw [e] at k
      exact k H (Same.refl H)
    obtain ⟨r, rfl⟩ := notI (v := y) (by simpa using c)
    have ek : fitsB (.int p) (.int r) = (firsts.contains p && (inRows r && (decide ((p - 1) % (16 * r) = 0) && !decide (p - 1 = 16 * r)))) := by
      rw [← rootOf_some]
      rfl
    rw [ek] at k
    refine ⟨_, rfl, rfl, fun a ps H1 g1 ha hps ea hp => ?_⟩
    obtain ⟨hl, hat⟩ := paired_at hp
    refine ⟨a, rfl, ⟨_, SqL.of ea⟩, fun D hD => lc_list (K := K) (a := a) (xs := ps.map V.ref) (fun i Hx => Same H1 Hx ∧ Hx D = some (.lst ((listedP.take i).map fun kv => V.int kv.1)))
      ⟨same_new hD _, upd_same⟩ (fun i Hx _ ⟨gs, _⟩ => SqL.of (gs _ _ ea)) ?_ ?_⟩
    · rintro i z Hx hi ⟨gs, eD⟩
      have hi2 : i < ps.length := by
        have := (List.getElem?_eq_some_iff.mp hi).1
        rwa [List.length_map] at this
      have e1 : ps[i]? = some ps[i] := List.getElem?_eq_getElem hi2
      have e2 : listedP[i]? = some listedP[i] := List.getElem?_eq_getElem (by omega)
      have ez : z = .ref ps[i] := by
        rw [List.getElem?_map, e1] at hi
        exact (Option.some.inj hi).symm
      subst ez
      have et := gs _ _ (hat i _ _ e1 e2)
      refine ⟨rfl, ?_⟩
      refine ⟨_, rfl, ps[i], _, _, _, rfl, rfl, SqT.of et, rfl, _, eD, ?_, fun x o ho => ?_, ?_⟩
      · rw [List.length_map, List.length_take]
        have : listedP.length = 7 := rfl
        exact small1000 (by omega)
      · rw [upd_ne (ne_of_none ho hD)]
        exact gs _ _ ho
      · rw [upd_same]
        exact congrArg (fun l => some (HO.lst l)) (take_map (f := fun kv : Int × Int => V.int kv.1) e2)
    · rintro Hx ⟨gs, eD⟩
      have eD' : Hx D = some (.lst (firsts.map V.int)) := by
        rw [eD, List.length_map, hl, List.take_length]
        unfold firsts
        rw [List.map_map]
        rfl
      refine ⟨D, _, rfl, .inl (SqL.of eD'), rfl, rfl, _, rfl, ?_⟩
      rw [inV_int]
      have gx := g1.trans gs
      refine ite2 (fun c1 => ?_) (fun c1 => ?_)
      · have c1' : firsts.contains p = false := Bool.eq_false_iff.mpr fun z => by
          rw [z] at c1
          cases c1
        rw [c1'] at k
        exact k _ gx
      have c1' : firsts.contains p = true := by
        cases z : firsts.contains p with
        | true => rfl
        | false =>
          rw [z] at c1
          exact absurd rfl c1
      rw [c1'] at k
      refine ⟨_, rfl, (by show 5 ≤ sizeLine; decide), fun q hq => ?_⟩
      have g2 := gx.trans (same_new hq (.lst [.int 4, .int 8, .int 16, .int 32, .int 64]))
      refine ⟨q, _, rfl, .inl (SqL.of upd_same), rfl, rfl, _, rfl, ?_⟩
      have ei : inV (.int r) [.int 4, .int 8, .int 16, .int 32, .int 64] = inRows r := inV_int r [4, 8, 16, 32, 64]
      rw [ei]
      refine ite2 (fun c2 => ?_) (fun c2 => ?_)
      · have c2' : inRows r = false := Bool.eq_false_iff.mpr fun z => by
          rw [z] at c2
          cases c2
        rw [c2'] at k
        exact k _ g2
      have c2' : inRows r = true := by
        cases z : inRows r with
        | true => rfl
        | false =>
          rw [z] at c2
          exact absurd rfl c2
      rw [c2'] at k
      have r4 : 4 ≤ r := by
        unfold inRows at c2'
        simp at c2'
        omega
      refine ⟨_, rfl, _, _, rfl, rfl, .inl ⟨_, rfl, _, rfl, _, _, rfl, rfl, .inl ⟨by decide, by decide⟩, _, _, rfl, rfl, (by show (0 : Int) < 16 * r; omega), rfl, _, rfl, ?_⟩⟩
      have e3 : decide (V.int ((p - 1) % (16 * r)) = V.int 0) = decide ((p - 1) % (16 * r) = 0) := by simp
      show (if decide (V.int ((p - 1) % (16 * r)) = V.int 0) = true then _ else _)
      rw [e3]
      refine ite2 (fun c3 => ?_) (fun c3 => ?_)
      · rw [c3] at k
        refine ⟨_, rfl, _, _, rfl, rfl, .inl ⟨by decide, by decide⟩, _, rfl, _, _, rfl, rfl, rfl, ?_⟩
        have e4 : (!decide (V.int (16 * r) = V.int (p - 1))) = !decide (p - 1 = 16 * r) := by
          congr 1
          simp [eq_comm]
        show Q (.bl (!decide (V.int (16 * r) = V.int (p - 1)))) _
        rw [e4]
        exact k _ g2
      · have c3' : decide ((p - 1) % (16 * r) = 0) = false := Bool.eq_false_iff.mpr c3
        rw [c3'] at k
        exact k _ g2
theorem ok_generator0 (T : Txt K mg) : FnOk P w K mg base CX0 3 T.f_generator T.fd_generator ["p"] (spGen0) := by
  refine T.F_generator.ok sc_generator (fun vs H Q E h => ?_) (fun cdv A outer s H vs Q E hr h => ?_)
  · obtain ⟨b, p, r, rfl, _⟩ := h
    rfl
  · obtain ⟨b, p, r, rfl, hB, er, k⟩ := h
    refine ⟨_, (pss_cons (ps_set (i := 1) sc_generator.nd rfl (Or.inl rfl) (pe_callTy (call_dictKT rfl) (by rfl) T.z_dict (by decide +kernel) (pa_cons (pe_glob (v := .ref T.t_PRIMES) (by rfl) T.gP rfl) pa_nil)))
      (pss_cons (ps_if (PW.pt (pw_or (pt_not (pt_val (pe_call (ok_is_whole T) (hr.mono (by decide)) (by rfl) T.g_is_whole T.F_is_whole.kp T.b_is_whole .nil pass0 (pa_cons (pv 0) pa_nil)))) (pw_or1 (pt_cmp (pc_dnotin (hu_of hr) (pv 0) (pv 1)))))) (pss_one ps_never) pss_nil)
      (pss_one (ps_ret (pe_dget (hu_of hr) (pv 1) (pv 0) (fun _ _ => rfl)))))), ?_⟩
    refine ⟨T.t_PRIMES, T.pairs, kvP, rfl, T.lP, T.pP _, fun d hd => ?_⟩
    have g := same_new hd (.dK (mergeK [] kvP))
    rw [kvP_merge] at g
    rw [kvP_merge]
    have ed : upd H d (.dK kvP) d = some (.dK kvP) := upd_same
    generalize upd H d (.dK kvP) = H1 at g ed ⊢
    refine ⟨_, rfl, b, _, rfl, .inl (EqV.sc (x := .int p) trivial), _, rfl, iteF ?_⟩
    refine ⟨_, rfl, _, rfl, d, _, rfl, DGet.k (k := Sum.inl p) ed, _, rfl, ?_⟩
    rw [kvP_root, er]
    refine iteF ?_
    refine ⟨_, rfl, _, rfl, d, .int r, rfl, ?_, k _ g⟩
    have z := DGet.k (k := Sum.inl p) ed
    rw [kvP_root, er] at z
    exact z
theorem ok_generatorX (T : Txt K mg) : FnOk P w K mg base (L2.CX P w) 3 T.f_generator T.fd_generator ["p"] (spGenX K T.C_NotNear T.C_UnknownName) := by
  refine T.F_generator.okX sc_generator (fun vs H Q E h => ?_) (fun cdv A outer s H vs Q E hr h => ?_)
  · obtain ⟨b, x, rfl, _⟩ := h
    rfl
  · obtain ⟨b, x, rfl, hB, hA, k, kE⟩ := h
    refine ⟨_, (pss_cons (ps_set (i := 1) sc_generator.nd rfl (Or.inl rfl) (pe_callTy (call_dictKT rfl) (by rfl) T.z_dict (by decide +kernel) (pa_cons (pe_glob (v := .ref T.t_PRIMES) (by rfl) T.gP rfl) pa_nil)))
      (pss_cons (ps_if (PW.pt (pw_or (pt_not (pt_val (pe_call (ok_is_whole T) (hr.mono (by decide)) (by rfl) T.g_is_whole T.F_is_whole.kp T.b_is_whole .nil pass0 (pa_cons (pv 0) pa_nil)))) (pw_or1 (pt_cmp (pc_dnotin (hu_of hr) (pv 0) (pv 1)))))) (pss_one (ps_raise rfl (takes_of rfl rfl rfl rfl) (pmk_x T.x_UnknownName T.iC_UnknownName T.tI_UnknownName (ok_iUnknownName T) hr T.bI_UnknownName (by rfl) T.gC_UnknownName (pa_cons (pv 0) pa_nil)))) pss_nil)
      (pss_one (ps_ret (pe_dget (hu_of hr) (pv 1) (pv 0) (fun _ _ => rfl)))))), ?_⟩
    refine ⟨T.t_PRIMES, T.pairs, kvP, rfl, T.lP, T.pP _, fun d hd => ?_⟩
    have g := same_new hd (.dK (mergeK [] kvP))
    rw [kvP_merge] at g
    rw [kvP_merge]
    have ed : upd H d (.dK kvP) d = some (.dK kvP) := upd_same
    generalize upd H d (.dK kvP) = H1 at g ed ⊢
    have out : (∀ i, x = .int i → rootOf i = none) → ∀ (a : Addr), H1 a = none → ∀ (E2 : XK), spI T.C_UnknownName 1 (fs1 "name") [.ref a, x] (upd H1 a (exo a T.C_UnknownName none)) (fun v H2 => v = .non ∧ ∃ (d : Addr) (fs : List (Str × V)), H2 a = some (exo a T.C_UnknownName (some d)) ∧ H2 d = some (exd d fs) ∧ H1 d = none ∧ E (.ref T.C_UnknownName) (some d) (upd (del H2 a) d (.xd fs))) E2 := fun no a ha E2 => by
      refine ⟨a, [x], rfl, rfl, upd_same, fun dx H' hd' ne kp ea edx => ⟨rfl, dx, _, ea, edx, ?_, ?_⟩⟩
      · rw [upd_ne ne] at hd'
        exact hd'
      · have hd0 : H1 dx = none := by
          rw [upd_ne ne] at hd'
          exact hd'
        refine kE no _ dx (fun y o hy => ?_) (g.free hd0) upd_same
        have hy1 := g _ _ hy
        have ny : y ≠ a := ne_of_none hy1 ha
        rw [upd_ne (ne_of_none hy1 hd0), del_ne ny]
        exact kp y o ny (by rw [upd_ne ny]; exact hy1)
    refine ⟨_, rfl, b, _, rfl, hA.keep (Keep.of_same g), _, rfl, ?_⟩
    refine ite2 (fun c => ?_) (fun c => ?_)
    · have c' : isI x = false := by simpa using c
      exact ⟨_, rfl, (by show 1 ≤ 1000; decide), fun a ha => out (fun i e => by rw [e] at c'; cases c') a ha _⟩
    obtain ⟨p, rfl⟩ := notI (v := x) (by simpa using c)
    refine ⟨_, rfl, _, rfl, d, _, rfl, DGet.k (k := Sum.inl p) ed, _, rfl, ?_⟩
    rw [kvP_root]
    cases er : rootOf p with
    | none => exact iteT ⟨_, rfl, (by show 1 ≤ 1000; decide), fun a ha => out (fun i e => by cases e; exact er) a ha _⟩
    | some r =>
      refine iteF ?_
      refine ⟨_, rfl, _, rfl, d, .int r, rfl, ?_, k p r rfl er _ g⟩
      have z := DGet.k (k := Sum.inl p) ed
      rw [kvP_root, er] at z
      exact z
end
end K0

set_option maxRecDepth 100000
set_option maxHeartbeats 4000000
namespace K0
open PySem L2
section
variable {P : Program} {w : World} {K : PySem.W.Frag} {mg : Str → Option Value} {base : Heap}
theorem ok_generators (T : Txt K mg) : FnOk P w K mg base CX0 4 T.f_generators T.fd_generators ["thing"] (spGens K T.C_NotNear) := by
  refine T.F_generators.ok sc_generators (fun vs H Q E h => ?_) (fun cdv A outer s H vs Q E hr h => ?_)
  · obtain ⟨b, x, rfl, _⟩ := h
    rfl
  · obtain ⟨b, x, rfl, hB, hA, k⟩ := h
    refine ⟨_, pss_one (ps_try_as (i := 1) (tb := fun W => tRet (tTup (tCons (tCallS (spGenX K T.C_NotNear T.C_UnknownName) (WE W) (tCons (tVar 0) tNil)) (tCons (tC .non) tNil)))) (ts := fun a cls d => tRet (tTup (tCons (tC (.str "unknown")) (tCons (tXf a cls d T.C_UnknownName "name" (tVar 1)) tNil)))) (Wout := fun _ _ _ _ => False) rfl rfl sc_generators.nd rfl rfl ⟨rfl, by decide, Or.inl T.gC_UnknownName⟩ takes0
      (fun W pn xe tk _ => pss_one (ps_ret (by exact (pe_tup (pa_cons (pe_callS (ok_generatorX T) (hr.mono (by decide)) (by rfl) T.g_generator T.F_generator.kp T.b_generator (fun σ => passAt tk σ) (by exact (pa_cons (pv 0) pa_nil))) (pa_cons pe_non pa_nil))))))
      (fun a oe cls d pn hz hf => pss_one (ps_ret (by exact (pe_tup (pa_cons pe_str (pa_cons (pe_xf ⟨T.x_UnknownName.ga, T.x_UnknownName.gg, T.x_UnknownName.exC, T.x_UnknownName.hd⟩ T.no_UnknownName_name hz hf (pv 1)) pa_nil))))))), ?_⟩
    refine ⟨_, rfl, b, x, rfl, hB, hA, fun i r ei er H' g => ⟨(by show 2 ≤ sizeLine; decide), fun p hp => k _ p _ _ (g.trans (same_new hp _)) (g.free hp) upd_same (.inl ⟨i, r, ei, er, rfl, rfl⟩)⟩, fun no H' d g hd ed => ?_⟩
    refine ⟨true, PySem.W.exm_ref T.x_UnknownName.exC T.x_UnknownName.hd T.x_UnknownName.tyC T.s_UnknownName, fun _ a ha => ?_, fun q => nomatch q⟩
    refine ⟨_, rfl, rfl, rfl, d, _, _, rfl, ed, rfl, (by show 2 ≤ sizeLine; decide), fun p hp => ?_⟩
    exact k _ p _ _ (g.trans (same_new hp _)) (g.free hp) upd_same (.inr ⟨no, rfl, rfl⟩)
theorem ok_turned (T : Txt K mg) : FnOk P w K mg base CX0 2 T.f_turned T.fd_turned ["digit", "prime", "named"] (spTurned) := by
  refine T.F_turned.ok sc_turned (fun vs H Q E h => ?_) (fun cdv A outer s H vs Q E hr h => ?_)
  · obtain ⟨x, p, nm, rfl, _⟩ := h
    rfl
  · obtain ⟨x, p, nm, rfl, P1, p2, kE, k⟩ := h
    refine ⟨_, pss_one (ps_try_only (c := .type "ZeroDivisionError") (tb := fun W => tSeq (tIfS (tB (tVar 2)) (tRet (tCallNS0 2 spInv kg_inverse (WE W) (tCons (tVar 1) (tCons (tVar 0) tNil)))) tNext) (tRet (tCallS spInv (WE W) (tCons (tVar 0) (tCons (tVar 1) tNil))))) (ts := fun _ _ _ => tRet (tC .non)) (Wout := fun _ _ _ _ => False) rfl rfl ⟨rfl, by decide, Or.inr ⟨T.z_ZeroDivisionError, by decide +kernel, by decide⟩⟩ takes0
      (fun W pn xe tk _ => by exact pss_cons (ps_if (pt_val (pv 2)) (pss_one (ps_ret (pe_callNS0 (ok_inverse T) (hr.mono (by decide)) (by rfl) T.g_inverse T.F_inverse.kp T.kb_inverse (fun σ => passAt tk σ) (pk_cons (pv 1) (pk_cons (pv 0) pk_nil))))) pss_nil) (pss_one (ps_ret (by exact (pe_callS (ok_inverse T) (hr.mono (by decide)) (by rfl) T.g_inverse T.F_inverse.kp T.b_inverse (fun σ => passAt tk σ) (by exact (pa_cons (pv 0) (pa_cons (pv 1) pa_nil))))))))
      (fun a oe cls d pn hz hf => pss_one (ps_ret pe_non))), ?_⟩
    have ez : PySem.W.exmOne K (.type "ZeroDivisionError") (.type "ZeroDivisionError") = some true := by first | rfl | decide +kernel
    refine ⟨_, rfl, nm, rfl, ?_⟩
    cases nm with
    | true => exact ⟨_, rfl, _, rfl, rfl, x, p, rfl, P1, p2, fun e => ⟨true, ez, fun _ a ha => kE e _ (Same.refl _), fun q => nomatch q⟩, fun e r H' r0 r1 r2 g => k e r H' r0 r1 r2 g⟩
    | false => exact ⟨_, rfl, _, rfl, x, p, rfl, P1, p2, fun e => ⟨true, ez, fun _ a ha => kE e _ (Same.refl _), fun q => nomatch q⟩, fun e r H' r0 r1 r2 g => k e r H' r0 r1 r2 g⟩
end
end K0

set_option maxRecDepth 100000
set_option maxHeartbeats 4000000
namespace K0
open PySem L2

def spYes : Sp := fun vs H Q _ => ∃ (b : Addr), vs = [.ref b] ∧ BoxAt H b ∧ ∀ (H' : Hp), BoxAt H' b → Keep b H H' → Q (.bl true) H'
theorem anyI {K : PySem.W.Frag} {C b : Addr} {H : Hp} (i : Int) : AnyV K C b H (.int i) := .inl (EqV.sc (x := .int i) trivial)
theorem eqI {K : PySem.W.Frag} {b : Addr} {H : Hp} {n : Nat} (i : Int) : EqV K b H n (.int i) (.int i) := EqV.sc (x := .int i) trivial
section
variable {P : Program} {w : World} {K : PySem.W.Frag} {mg : Str → Option Value} {base : Heap}
theorem ok_powers (T : Txt K mg) : FnOk P w K mg base CX0 9 T.f_powers T.fd_powers ["box"] (spYes) := by
  refine T.F_powers.ok sc_powers (fun vs H Q E h => ?_) (fun cdv A outer s H vs Q E hr h => ?_)
  · obtain ⟨b, rfl, _⟩ := h
    rfl
  · obtain ⟨b, rfl, hB, k⟩ := h
    refine ⟨_, (pss_cons (ps_for PassesOwn.never rfl (pi_range1 (by rfl) T.z_range (pa_cons pe_int pa_nil)) (pg_name (i := 1) sc_powers.nd rfl (Or.inl rfl)) (pss_cons (ps_set (i := 2) sc_powers.nd rfl (Or.inl rfl) (pe_call (ok_prime T) (hr.mono (by decide)) (by rfl) T.g_prime T.F_prime.kp T.b_prime .nil pass0 (pa_cons (pv 0) pa_nil)))
      (pss_cons (ps_set (i := 3) sc_powers.nd rfl (Or.inl rfl) (pe_call (ok_number T) (hr.mono (by decide)) (by rfl) T.g_number T.F_number.kp T.b_number .nil pass0 (pa_cons (pv 0) (pa_cons (pv 2) pa_nil))))
      (C8.pss_cut (ps_if (pt_cmpR op_eq (pe_call (ok_draw T) (hr.mono (by decide)) (by rfl) T.g_draw T.F_draw.kp T.b_draw .nil pass0 (pa_cons (pv 0) (pa_cons pe_int pa_nil))) pe_int (nomark _)) (pss_one (ps_set (i := 3) sc_powers.nd rfl (Or.inl rfl) (pe_op op_mul (pv 2) (pe_op op_sub (pe_call (ok_draw T) (hr.mono (by decide)) (by rfl) T.g_draw T.F_draw.kp T.b_draw .nil pass0 (pa_cons (pv 0) (pa_cons pe_int pa_nil))) pe_int)))) pss_nil)
      (C8.pss_cut (ps_set (i := 4) sc_powers.nd rfl (Or.inl rfl) (pe_call (ok_turned T) (hr.mono (by decide)) (by rfl) T.g_turned T.F_turned.kp T.b_turned .nil pass0 (pa_cons (pv 3) (pa_cons (pv 2) (pa_cons (pe_cmpR op_eq (pe_call (ok_draw T) (hr.mono (by decide)) (by rfl) T.g_draw T.F_draw.kp T.b_draw .nil pass0 (pa_cons (pv 0) (pa_cons pe_int pa_nil))) pe_int (nomark _)) pa_nil)))))
      (C8.pss_cut (ps_if (pt_cmpR op_eq (pe_op op_mod (pe_callTy call_int1 (by rfl) T.z_int (by decide +kernel) (pa_cons (pv 3) pa_nil)) (pv 2)) pe_int (nomark _)) (pss_one (ps_if (pt_cmpR op_notN (pv 4) pe_non (nomark _)) (pss_one (ps_ret pe_bl)) pss_nil)) (pss_one (ps_if (PW.pt (pw_or (pt_not (pt_val (pe_call (ok_is_plain T) (hr.mono (by decide)) (by rfl) T.g_is_plain T.F_is_plain.kp T.b_is_plain .nil pass0 (pa_cons (pv 4) pa_nil)))) (pw_or (pt_not (pt_chain op_lt op_lt pe_int (pv 4) (pv 2))) (pw_or1 (pt_cmpR op_ne (pe_op op_mod (pe_callTy call_int1 (by rfl) T.z_int (by decide +kernel) (pa_cons (pe_op op_mul (pv 4) (pv 3)) pa_nil)) (pv 2)) pe_int (nomark _)))))) (pss_one (ps_ret pe_bl)) pss_nil)))
      (pss_cons (ps_par (i := 5) (j := 6) (by rfl) sc_powers.nd rfl rfl (by decide) rfl rfl (pa_cons (pe_call (ok_draw T) (hr.mono (by decide)) (by rfl) T.g_draw T.F_draw.kp T.b_draw .nil pass0 (pa_cons (pv 0) (pa_cons pe_int pa_nil))) (pa_cons pe_int pa_nil)) (by rfl))
      (C8.pss_cut (ps_if (pt_cmpR op_eq (pe_call (ok_draw T) (hr.mono (by decide)) (by rfl) T.g_draw T.F_draw.kp T.b_draw .nil pass0 (pa_cons (pv 0) (pa_cons pe_int pa_nil))) pe_int (nomark _)) (pss_one (ps_set (i := 5) sc_powers.nd rfl (Or.inl rfl) (pe_op op_add pe_int (pe_call (ok_draw T) (hr.mono (by decide)) (by rfl) T.g_draw T.F_draw.kp T.b_draw .nil pass0 (pa_cons (pv 0) (pa_cons pe_int pa_nil)))))) pss_nil)
      (pss_cons (ps_for PassesOwn.never rfl (pi_range1 (by rfl) T.z_range (pa_cons (pv 5) pa_nil)) (pg_name (i := 7) sc_powers.nd rfl (Or.inl rfl)) (pss_one (ps_set (i := 6) sc_powers.nd rfl (Or.inl rfl) (pe_op op_mod (pe_callTy call_int1 (by rfl) T.z_int (by decide +kernel) (pa_cons (pe_op op_mul (pv 6) (pv 3)) pa_nil)) (pv 2)))))
      (C8.pss_cut (ps_if (PW.pt (pw_or (pt_not (pt_val (pe_call (ok_same T 8) (hr.mono (by decide)) (by rfl) T.g_same T.F_same.kp T.b_same .nil pass0 (pa_cons (pe_call (ok_power T) (hr.mono (by decide)) (by rfl) T.g_power T.F_power.kp T.b_power .nil pass0 (pa_cons (pv 3) (pa_cons (pv 5) (pa_cons (pv 2) pa_nil)))) (pa_cons (pv 6) pa_nil))))) (pw_or1 (pt_not (pt_val (pe_call (ok_same T 8) (hr.mono (by decide)) (by rfl) T.g_same T.F_same.kp T.b_same .nil pass0 (pa_cons (pe_call (ok_power T) (hr.mono (by decide)) (by rfl) T.g_power T.F_power.kp T.b_power .nil pass0 (pa_cons (pv 3) (pa_cons pe_int (pa_cons (pv 2) pa_nil)))) (pa_cons pe_int pa_nil)))))))) (pss_one (ps_ret pe_bl)) pss_nil)
      (pss_one (ps_if (pt_not (pt_val (pe_call (ok_same T 8) (hr.mono (by decide)) (by rfl) T.g_same T.F_same.kp T.b_same .nil pass0 (pa_cons (pe_callN0 (ok_power T) (hr.mono (by decide)) (by rfl) T.g_power T.F_power.kp T.kb_power pass0 (pk_cons (pv 2) (pk_cons (pv 5) (pk_cons (pv 3) pk_nil)))) (pa_cons (pv 6) pa_nil))))) (pss_one (ps_ret pe_bl)) pss_nil))))))))))))
      (pss_one (ps_ret pe_bl))), ?_⟩
    refine ⟨4, rfl, by decide, by decide, for_range (lo := 0) (n := 4) (fun _ σ H' => (∃ v1 v2 v3 v4 v5 v6 v7 : Option V, σ = [some (.ref b), v1, v2, v3, v4, v5, v6, v7]) ∧ BoxAt H' b ∧ Keep b H H')
      ⟨⟨_, _, _, _, _, _, _, rfl⟩, hB, Keep.refl⟩ ?_ (fun σ H' ⟨⟨_, _, _, _, _, _, _, e⟩, hB', hK'⟩ => k H' hB' hK')⟩
    rintro i σ H0 hi ⟨⟨v1, v2, v3, v4, v5, v6, v7, rfl⟩, hB0, hK0⟩
    refine ⟨_, rfl, b, rfl, hB0, fun p H1 hp hB1 hK1 => ?_⟩
    replace hK1 := hK0.trans hK1
    have P1 := prm_all p hp
    obtain ⟨p1, p2⟩ := primes_lt p hp
    refine ⟨_, rfl, _, rfl, b, p, rfl, hB1, by omega, by omega, fun x H2 x0 x1 hB2 hK2 => ?_⟩
    replace hK2 := hK1.trans hK2
    refine ⟨fun σ H' => (∃ x : Int, σ = [some (.ref b), some (.int (0 + (i : Nat))), some (.int p), some (.int x), v4, v5, v6, v7]) ∧ BoxAt H' b ∧ Keep b H H', ?_, ?_⟩
    · refine ⟨_, rfl, b, _, rfl, by decide, by decide, hB2, fun d H3 d0 d1 hB3 hK3 => ⟨rfl, _, rfl, ite2 (fun c => ?_) (fun c => ?_)⟩⟩
      · refine ⟨_, rfl, _, rfl, b, _, rfl, by decide, by decide, hB3, fun e H4 e0 e1 hB4 hK4 => ?_⟩
        exact ⟨_, _, rfl, rfl, _, _, rfl, rfl, .inl ⟨by omega, by omega⟩, ⟨_, rfl⟩, hB4, hK2.trans (hK3.trans hK4)⟩
      · exact ⟨⟨_, rfl⟩, hB3, hK2.trans hK3⟩
    rintro σ H3 ⟨⟨x, rfl⟩, hB3, hK3⟩
    refine ⟨fun σ H' => (∃ v : V, σ = [some (.ref b), some (.int (0 + (i : Nat))), some (.int p), some (.int x), some v, v5, v6, v7] ∧ (x % p = 0 → v = .non) ∧ (x % p ≠ 0 → ∃ r : Int, v = .int r ∧ 0 < r ∧ r < p ∧ (r * x) % p = 1)) ∧ BoxAt H' b ∧ Keep b H H', ?_, ?_⟩
    · refine ⟨_, rfl, _, rfl, _, rfl, b, _, rfl, by decide, by decide, hB3, fun d H4 d0 d1 hB4 hK4 => ⟨rfl, ?_⟩⟩
      replace hK4 := hK3.trans hK4
      refine ⟨x, p, _, rfl, P1, by omega, fun e H5 g => ?_, fun e r H5 r0 r1 r2 g => ?_⟩
      · exact ⟨⟨_, rfl, fun _ => rfl, fun n => absurd e n⟩, hB4.same g, hK4.trans (Keep.of_same g)⟩
      · exact ⟨⟨_, rfl, fun z => absurd z e, fun _ => ⟨r, rfl, r0, r1, r2⟩⟩, hB4.same g, hK4.trans (Keep.of_same g)⟩
    rintro σ H4 ⟨⟨v, rfl, vz, vn⟩, hB4, hK4⟩
    refine ⟨fun σ H' => σ = [some (.ref b), some (.int (0 + (i : Nat))), some (.int p), some (.int x), some v, v5, v6, v7] ∧ BoxAt H' b ∧ Keep b H H', ?_, ?_⟩
    · refine ⟨_, rfl, .inl ⟨_, rfl, _, rfl, _, _, rfl, rfl, (by show (0 : Int) < p; omega), rfl, _, rfl, ite2 (fun c => ?_) (fun c => ?_)⟩⟩
      · have e : x % p = 0 := V.int.inj (of_decide_eq_true c)
        have ev := vz e
        subst ev
        exact ⟨_, rfl, rfl, _, rfl, iteF ⟨rfl, hB4, hK4⟩⟩
      · have e : x % p ≠ 0 := fun z => c (decide_eq_true (congrArg V.int z))
        obtain ⟨r, rfl, r0, r1, r2⟩ := vn e
        refine ⟨_, rfl, b, _, rfl, anyI r, _, rfl, iteF ?_⟩
        refine ⟨_, rfl, _, _, rfl, rfl, _, rfl, ?_⟩
        rw [decide_eq_true (show (0 : Int) < r from r0)]
        refine iteT ⟨_, rfl, _, _, rfl, rfl, _, rfl, ?_⟩
        rw [decide_eq_true (show r < p from r1)]
        refine iteF ?_
        refine ⟨_, rfl, _, rfl, _, _, rfl, rfl, .inl ⟨by omega, by omega⟩, .inl ⟨_, rfl, _, rfl, _, _, rfl, rfl, (by show (0 : Int) < p; omega), rfl, _, rfl, ?_⟩⟩
        have e2 : decide (V.int (r * x % p) = V.int 1) = true := decide_eq_true (congrArg V.int r2)
        show (if (!decide (V.int (r * x % p) = V.int 1)) = true then _ else _)
        rw [e2]
        exact iteF ⟨rfl, hB4, hK4⟩
    rintro σ H5 ⟨rfl, hB5, hK5⟩
    refine ⟨_, rfl, b, _, rfl, by decide, by decide, hB5, fun n H6 n0 n1 hB6 hK6 => ⟨_, _, rfl, ?_⟩⟩
    replace hK6 := hK5.trans hK6
    refine ⟨fun σ H' => (∃ n : Nat, n < 400 ∧ σ = [some (.ref b), some (.int (0 + (i : Nat))), some (.int p), some (.int x), some v, some (.int (n : Int)), some (.int 1), v7]) ∧ BoxAt H' b ∧ Keep b H H', ?_, ?_⟩
    · refine ⟨_, rfl, b, _, rfl, by decide, by decide, hB6, fun d H7 d0 d1 hB7 hK7 => ⟨rfl, _, rfl, ite2 (fun c => ?_) (fun c => ?_)⟩⟩
      · refine ⟨_, rfl, b, _, rfl, by decide, by decide, hB7, fun e H8 e0 e1 hB8 hK8 => ⟨_, _, rfl, rfl, ?_⟩⟩
        refine ⟨⟨(40 + e).toNat, by omega, ?_⟩, hB8, hK6.trans (hK7.trans hK8)⟩
        have : 40 + e = (((40 + e).toNat : Nat) : Int) := by omega
        rw [← this]
        rfl
      · refine ⟨⟨n.toNat, by omega, ?_⟩, hB7, hK6.trans hK7⟩
        have : n = ((n.toNat : Nat) : Int) := by omega
        rw [← this]
        rfl
    rintro σ H7 ⟨⟨n, hn, rfl⟩, hB7, hK7⟩
    refine ⟨_, rfl, _, rfl, by omega, by omega, for_range (lo := 0) (n := n) (fun i' σ H' => (∃ v7 : Option V, σ = [some (.ref b), some (.int (0 + (i : Nat))), some (.int p), some (.int x), some v, some (.int (n : Int)), some (.int (x ^ i' % p)), v7]) ∧ H' = H7)
      ⟨⟨v7, by rw [← due_start p1]⟩, rfl⟩ ?_ ?_⟩
    · rintro i' σ H' hi' ⟨⟨v7, rfl⟩, rfl⟩
      have q0 := Int.emod_nonneg (x ^ i') (show p ≠ 0 by omega)
      have q1 := Int.emod_lt_of_pos (x ^ i') (show 0 < p by omega)
      refine ⟨_, rfl, _, rfl, _, _, rfl, rfl, .inl ⟨by omega, by omega⟩, .inl ⟨_, rfl, _, rfl, _, _, rfl, rfl, (by show (0 : Int) < p; omega), ⟨some (.int (0 + (i' : Nat))), ?_⟩, rfl⟩⟩
      rw [← due_turn]
      rfl
    rintro σ H' ⟨⟨v7, rfl⟩, rfl⟩
    refine ⟨fun σ H'' => (∃ u7 : Option V, σ = [some (.ref b), some (.int (0 + (i : Nat))), some (.int p), some (.int x), some v, some (.int (n : Int)), some (.int (x ^ n % p)), u7]) ∧ BoxAt H'' b ∧ Keep b H H'', ?_, ?_⟩
    · refine ⟨_, rfl, _, rfl, _, rfl, x, n, p, rfl, p1, by omega, _, rfl, b, _, _, rfl, eqI _, fun H8 g8 => ⟨_, rfl, iteF ?_⟩⟩
      refine ⟨_, rfl, _, rfl, x, 0, p, rfl, p1, by omega, b, _, _, rfl, ?_, fun H9 g9 => ⟨_, rfl, iteF ?_⟩⟩
      · rw [← due_start p1]
        exact eqI 1
      · exact ⟨⟨_, rfl⟩, hB7.same (g8.trans g9), hK7.trans (Keep.of_same (g8.trans g9))⟩
    rintro σ H8 ⟨⟨u7, rfl⟩, hB8, hK8⟩
    refine ⟨_, rfl, _, rfl, _, rfl, rfl, rfl, x, n, p, rfl, p1, by omega, _, rfl, b, _, _, rfl, eqI _, fun H9 g9 => ⟨_, rfl, iteF ?_⟩⟩
    exact ⟨⟨_, _, _, _, _, _, _, rfl⟩, hB8.same g9, hK8.trans (Keep.of_same g9)⟩
end
end K0

set_option maxRecDepth 100000
set_option maxHeartbeats 4000000
namespace K0
open PySem L2

section
variable {K : PySem.W.Frag} {mg : Str → Option Value}
def fieldsOf : Nat → V → V → List (Str × V)
  | 0, one, two => fs2 "line" "why" [one, two]
  | 1, one, two => fs1 "field" [two]
  | 2, one, two => fs2 "p" "rows" [one, two]
  | 3, one, two => fs2 "what" "count" [two, one]
  | 4, one, two => fs1 "line" [one]
  | 5, one, two => fs2 "what" "most" [two, one]
  | 6, one, two => fs1 "e" [one]
  | 7, one, two => fs1 "name" [two]
  | 8, one, two => fs2 "line" "why" [one, two]
  | 9, one, two => fs1 "what" [two]
  | _, _, _ => []
def Txt.CP (T : Txt K mg) : Nat → Addr
  | 0 => T.C_BadProgram
  | 1 => T.C_BadLine
  | 2 => T.C_BadPrime
  | 3 => T.C_BadShape
  | 4 => T.C_BadBook
  | 5 => T.C_TooMany
  | 6 => T.C_NotNear
  | 7 => T.C_UnknownName
  | 8 => T.C_Broken
  | 9 => T.C_NotWaiting
  | _ => 0
def Txt.xP (T : Txt K mg) : ∀ i : Nat, i < 10 → XgC K (T.CP i)
  | 0, _ => T.x_BadProgram
  | 1, _ => T.x_BadLine
  | 2, _ => T.x_BadPrime
  | 3, _ => T.x_BadShape
  | 4, _ => T.x_BadBook
  | 5, _ => T.x_TooMany
  | 6, _ => T.x_NotNear
  | 7, _ => T.x_UnknownName
  | 8, _ => T.x_Broken
  | 9, _ => T.x_NotWaiting
  | _ + 10, h => absurd h (by omega)
end
/-- at a: the exception of the class at C, its fields fs, its dict at d -/
def ExA (C : Addr) (H : Hp) (a d : Addr) (fs : List (Str × V)) : Prop := H a = some (exo a C (some d)) ∧ H d = some (exd d fs)
theorem ExA.same {C : Addr} {H H' : Hp} {a d : Addr} {fs : List (Str × V)} (h : ExA C H a d fs) (s : Same H H') : ExA C H' a d fs := ⟨s _ _ h.1, s _ _ h.2⟩
theorem ExA.keep {C b : Addr} {H H' : Hp} {a d : Addr} {fs : List (Str × V)} (h : ExA C H a d fs) (na : a ≠ b) (nd : d ≠ b) (s : Keep b H H') : ExA C H' a d fs := ⟨s _ _ na h.1, s _ _ nd h.2⟩
theorem mk_rd {C : Addr} {n : Nat} {fsf : List V → List (Str × V)} {ys : List V} {H1 : Hp} {Q : VK} (hl : ys.length = n) (k : ∀ (a d : Addr) (H' : Hp), Same H1 H' → H1 a = none → H1 d = none → ExA C H' a d (fsf ys) → Q (.ref a) H') : rMkX C (spI C n fsf) Q ys H1 := fun a ha => by
  refine ⟨a, ys, rfl, hl, upd_same, fun dx H' hd ne kp ea ed => ⟨rfl, k a dx H' (fun x o hx => ?_) ha ?_ ⟨ea, ed⟩⟩⟩
  · have nx := ne_of_none hx ha
    exact kp x o nx (by rw [upd_ne nx]; exact hx)
  · rw [upd_ne ne] at hd
    exact hd
theorem isx {K : PySem.W.Frag} {C : Addr} {H : Hp} {a d : Addr} {fs : List (Str × V)} (h : ExA C H a d fs) : ∀ dx, some d = some dx → ∃ fs, H dx = some (exd dx fs) := fun dx e => by
  cases e
  exact ⟨fs, h.2⟩
def toldOf (i : Nat) (one two : V) : List V := if i = 4 ∨ i = 6 then [one] else if i = 1 ∨ i = 7 ∨ i = 9 then [two] else [one, two]
def groupOf (i : Nat) : Nat := if i < 6 then 0 else if i < 8 then 1 else 2
def spMade {K : PySem.W.Frag} {mg : Str → Option Value} (T : Txt K mg) : Sp := fun vs H Q _ => ∃ (i : Nat) (one two : V) (nm : Bool), vs = [.int (i : Int), one, two, .bl nm] ∧ i < 10 ∧ ∀ (a d : Addr) (H' : Hp), Same H H' → H a = none → H d = none → ExA (T.CP i) H' a d (fieldsOf i one two) → Q (.ref a) H'
def spNamed {K : PySem.W.Frag} {mg : Str → Option Value} (T : Txt K mg) : Sp := fun vs H Q _ => ∃ (i : Nat) (one two : V), vs = [.int (i : Int), one, two] ∧ i < 10 ∧ ∀ (a d : Addr) (H' : Hp), Same H H' → H a = none → H d = none → ExA (T.CP i) H' a d (fieldsOf i one two) → Q (.ref a) H'
def spTold {K : PySem.W.Frag} {mg : Str → Option Value} (T : Txt K mg) : Sp := fun vs H Q _ => ∃ (i : Nat) (a d : Addr) (one two : V), vs = [.int (i : Int), .ref a] ∧ i < 10 ∧ ExA (T.CP i) H a d (fieldsOf i one two) ∧ ∀ (p : Addr) (H' : Hp), Same H H' → H p = none → H' p = some (.lst (toldOf i one two)) → Q (.ref p) H'
def spAsk {K : PySem.W.Frag} {mg : Str → Option Value} (T : Txt K mg) (f : Nat → List V) : Sp := fun vs H Q _ => ∃ (i : Nat) (a d : Addr) (fs : List (Str × V)), vs = [.ref a] ∧ i < 10 ∧ ExA (T.CP i) H a d fs ∧ ∀ (p : Addr) (H' : Hp), Same H H' → H p = none → H' p = some (.lst (f i)) → Q (.ref p) H'
def grpL (i : Nat) : List V := [.bl (decide (groupOf i = 0)), .bl (decide (groupOf i = 1)), .bl (decide (groupOf i = 2))]
def clsL (i : Nat) : List V := (List.range 10).map fun k => .bl (decide (i = k))
theorem ten {i : Nat} (h : i < 10) : i = 0 ∨ i = 1 ∨ i = 2 ∨ i = 3 ∨ i = 4 ∨ i = 5 ∨ i = 6 ∨ i = 7 ∨ i = 8 ∨ i = 9 := by omega
section
variable {P : Program} {w : World} {K : PySem.W.Frag} {mg : Str → Option Value} {base : Heap}
theorem ok_named (T : Txt K mg) : FnOk P w K mg base CX0 3 T.f_named T.fd_named ["pick", "one", "two"] (spNamed T) := by
  refine T.F_named.ok sc_named (fun vs H Q E h => ?_) (fun cdv A outer s H vs Q E hr h => ?_)
  · obtain ⟨i, one, two, rfl, _⟩ := h
    rfl
  · obtain ⟨i, one, two, rfl, hi, k⟩ := h
    refine ⟨_, (pss_cons (ps_if (pt_cmpR op_eq (pv 0) pe_int (nomark _)) (pss_one (ps_ret (pe_mkXK (n := 2) T.x_BadProgram T.iC_BadProgram T.tI_BadProgram (ok_iBadProgram T) (hr.mono (by decide)) (by rfl) T.gC_BadProgram rfl T.kb_BadProgram kr2 (pk_cons (pv 2) (pk_cons (pv 1) pk_nil))))) pss_nil)
      (pss_cons (ps_if (pt_cmpR op_eq (pv 0) pe_int (nomark _)) (pss_one (ps_ret (pe_mkXK (n := 1) T.x_BadLine T.iC_BadLine T.tI_BadLine (ok_iBadLine T) (hr.mono (by decide)) (by rfl) T.gC_BadLine rfl T.kb_BadLine kr1 (pk_cons (pv 2) pk_nil)))) pss_nil)
      (pss_cons (ps_if (pt_cmpR op_eq (pv 0) pe_int (nomark _)) (pss_one (ps_ret (pe_mkXK (n := 2) T.x_BadPrime T.iC_BadPrime T.tI_BadPrime (ok_iBadPrime T) (hr.mono (by decide)) (by rfl) T.gC_BadPrime rfl T.kb_BadPrime kr2 (pk_cons (pv 2) (pk_cons (pv 1) pk_nil))))) pss_nil)
      (pss_cons (ps_if (pt_cmpR op_eq (pv 0) pe_int (nomark _)) (pss_one (ps_ret (pe_mkXK (n := 2) T.x_BadShape T.iC_BadShape T.tI_BadShape (ok_iBadShape T) (hr.mono (by decide)) (by rfl) T.gC_BadShape rfl T.kb_BadShape kr2 (pk_cons (pv 1) (pk_cons (pv 2) pk_nil))))) pss_nil)
      (pss_cons (ps_if (pt_cmpR op_eq (pv 0) pe_int (nomark _)) (pss_one (ps_ret (pe_mkXK (n := 1) T.x_BadBook T.iC_BadBook T.tI_BadBook (ok_iBadBook T) (hr.mono (by decide)) (by rfl) T.gC_BadBook rfl T.kb_BadBook kr1 (pk_cons (pv 1) pk_nil)))) pss_nil)
      (pss_cons (ps_if (pt_cmpR op_eq (pv 0) pe_int (nomark _)) (pss_one (ps_ret (pe_mkXK (n := 2) T.x_TooMany T.iC_TooMany T.tI_TooMany (ok_iTooMany T) (hr.mono (by decide)) (by rfl) T.gC_TooMany rfl T.kb_TooMany kr2 (pk_cons (pv 1) (pk_cons (pv 2) pk_nil))))) pss_nil)
      (pss_cons (ps_if (pt_cmpR op_eq (pv 0) pe_int (nomark _)) (pss_one (ps_ret (pe_mkXK (n := 1) T.x_NotNear T.iC_NotNear T.tI_NotNear (ok_iNotNear T) (hr.mono (by decide)) (by rfl) T.gC_NotNear rfl T.kb_NotNear kr1 (pk_cons (pv 1) pk_nil)))) pss_nil)
      (pss_cons (ps_if (pt_cmpR op_eq (pv 0) pe_int (nomark _)) (pss_one (ps_ret (pe_mkXK (n := 1) T.x_UnknownName T.iC_UnknownName T.tI_UnknownName (ok_iUnknownName T) (hr.mono (by decide)) (by rfl) T.gC_UnknownName rfl T.kb_UnknownName kr1 (pk_cons (pv 2) pk_nil)))) pss_nil)
      (pss_cons (ps_if (pt_cmpR op_eq (pv 0) pe_int (nomark _)) (pss_one (ps_ret (pe_mkXK (n := 2) T.x_Broken T.iC_Broken T.tI_Broken (ok_iBroken T) (hr.mono (by decide)) (by rfl) T.gC_Broken rfl T.kb_Broken kr2 (pk_cons (pv 2) (pk_cons (pv 1) pk_nil))))) pss_nil)
      (pss_one (ps_ret (pe_mkXK (n := 1) T.x_NotWaiting T.iC_NotWaiting T.tI_NotWaiting (ok_iNotWaiting T) (hr.mono (by decide)) (by rfl) T.gC_NotWaiting rfl T.kb_NotWaiting kr1 (pk_cons (pv 2) pk_nil))))))))))))), ?_⟩
    rcases ten hi with rfl | rfl | rfl | rfl | rfl | rfl | rfl | rfl | rfl | rfl
    · refine ⟨_, rfl, rfl, _, rfl, iteT ?_⟩
      exact ⟨_, rfl, _, rfl, rfl, mk_rd rfl (fun a d H' g ha hd hE => k a d H' g ha hd hE)⟩
    · refine ⟨_, rfl, rfl, _, rfl, iteF ?_⟩
      refine ⟨_, rfl, rfl, _, rfl, iteT ?_⟩
      exact ⟨_, rfl, rfl, mk_rd rfl (fun a d H' g ha hd hE => k a d H' g ha hd hE)⟩
    · refine ⟨_, rfl, rfl, _, rfl, iteF ?_⟩
      refine ⟨_, rfl, rfl, _, rfl, iteF ?_⟩
      refine ⟨_, rfl, rfl, _, rfl, iteT ?_⟩
      exact ⟨_, rfl, _, rfl, rfl, mk_rd rfl (fun a d H' g ha hd hE => k a d H' g ha hd hE)⟩
    · refine ⟨_, rfl, rfl, _, rfl, iteF ?_⟩
      refine ⟨_, rfl, rfl, _, rfl, iteF ?_⟩
      refine ⟨_, rfl, rfl, _, rfl, iteF ?_⟩
      refine ⟨_, rfl, rfl, _, rfl, iteT ?_⟩
      exact ⟨_, rfl, _, rfl, rfl, mk_rd rfl (fun a d H' g ha hd hE => k a d H' g ha hd hE)⟩
    · refine ⟨_, rfl, rfl, _, rfl, iteF ?_⟩
      refine ⟨_, rfl, rfl, _, rfl, iteF ?_⟩
      refine ⟨_, rfl, rfl, _, rfl, iteF ?_⟩
      refine ⟨_, rfl, rfl, _, rfl, iteF ?_⟩
      refine ⟨_, rfl, rfl, _, rfl, iteT ?_⟩
      exact ⟨_, rfl, rfl, mk_rd rfl (fun a d H' g ha hd hE => k a d H' g ha hd hE)⟩
    · refine ⟨_, rfl, rfl, _, rfl, iteF ?_⟩
      refine ⟨_, rfl, rfl, _, rfl, iteF ?_⟩
      refine ⟨_, rfl, rfl, _, rfl, iteF ?_⟩
      refine ⟨_, rfl, rfl, _, rfl, iteF ?_⟩
      refine ⟨_, rfl, rfl, _, rfl, iteF ?_⟩
      refine ⟨_, rfl, rfl, _, rfl, iteT ?_⟩
      exact ⟨_, rfl, _, rfl, rfl, mk_rd rfl (fun a d H' g ha hd hE => k a d H' g ha hd hE)⟩
    · refine ⟨_, rfl, rfl, _, rfl, iteF ?_⟩
      refine ⟨_, rfl, rfl, _, rfl, iteF ?_⟩
      refine ⟨_, rfl, rfl, _, rfl, iteF ?_⟩
      refine ⟨_, rfl, rfl, _, rfl, iteF ?_⟩
      refine ⟨_, rfl, rfl, _, rfl, iteF ?_⟩
      refine ⟨_, rfl, rfl, _, rfl, iteF ?_⟩
      refine ⟨_, rfl, rfl, _, rfl, iteT ?_⟩
      exact ⟨_, rfl, rfl, mk_rd rfl (fun a d H' g ha hd hE => k a d H' g ha hd hE)⟩
    · refine ⟨_, rfl, rfl, _, rfl, iteF ?_⟩
      refine ⟨_, rfl, rfl, _, rfl, iteF ?_⟩
      refine ⟨_, rfl, rfl, _, rfl, iteF ?_⟩
      refine ⟨_, rfl, rfl, _, rfl, iteF ?_⟩
      refine ⟨_, rfl, rfl, _, rfl, iteF ?_⟩
      refine ⟨_, rfl, rfl, _, rfl, iteF ?_⟩
      refine ⟨_, rfl, rfl, _, rfl, iteF ?_⟩
      refine ⟨_, rfl, rfl, _, rfl, iteT ?_⟩
      exact ⟨_, rfl, rfl, mk_rd rfl (fun a d H' g ha hd hE => k a d H' g ha hd hE)⟩
    · refine ⟨_, rfl, rfl, _, rfl, iteF ?_⟩
      refine ⟨_, rfl, rfl, _, rfl, iteF ?_⟩
      refine ⟨_, rfl, rfl, _, rfl, iteF ?_⟩
      refine ⟨_, rfl, rfl, _, rfl, iteF ?_⟩
      refine ⟨_, rfl, rfl, _, rfl, iteF ?_⟩
      refine ⟨_, rfl, rfl, _, rfl, iteF ?_⟩
      refine ⟨_, rfl, rfl, _, rfl, iteF ?_⟩
      refine ⟨_, rfl, rfl, _, rfl, iteF ?_⟩
      refine ⟨_, rfl, rfl, _, rfl, iteT ?_⟩
      exact ⟨_, rfl, _, rfl, rfl, mk_rd rfl (fun a d H' g ha hd hE => k a d H' g ha hd hE)⟩
    · refine ⟨_, rfl, rfl, _, rfl, iteF ?_⟩
      refine ⟨_, rfl, rfl, _, rfl, iteF ?_⟩
      refine ⟨_, rfl, rfl, _, rfl, iteF ?_⟩
      refine ⟨_, rfl, rfl, _, rfl, iteF ?_⟩
      refine ⟨_, rfl, rfl, _, rfl, iteF ?_⟩
      refine ⟨_, rfl, rfl, _, rfl, iteF ?_⟩
      refine ⟨_, rfl, rfl, _, rfl, iteF ?_⟩
      refine ⟨_, rfl, rfl, _, rfl, iteF ?_⟩
      refine ⟨_, rfl, rfl, _, rfl, iteF ?_⟩
      exact ⟨_, rfl, rfl, mk_rd rfl (fun a d H' g ha hd hE => k a d H' g ha hd hE)⟩
theorem ok_made (T : Txt K mg) : FnOk P w K mg base CX0 4 T.f_made T.fd_made ["pick", "one", "two", "named"] (spMade T) := by
  refine T.F_made.ok sc_made (fun vs H Q E h => ?_) (fun cdv A outer s H vs Q E hr h => ?_)
  · obtain ⟨i, one, two, nm, rfl, _⟩ := h
    rfl
  · obtain ⟨i, one, two, nm, rfl, hi, k⟩ := h
    refine ⟨_, (pss_cons (ps_if (pt_val (pv 3)) (pss_one (ps_ret (pe_call (ok_named T) (hr.mono (by decide)) (by rfl) T.g_named T.F_named.kp T.b_named .nil pass0 (pa_cons (pv 0) (pa_cons (pv 1) (pa_cons (pv 2) pa_nil)))))) pss_nil)
      (pss_cons (ps_if (pt_cmpR op_eq (pv 0) pe_int (nomark _)) (pss_one (ps_ret (pe_mkX T.x_BadProgram T.iC_BadProgram T.tI_BadProgram (ok_iBadProgram T) (hr.mono (by decide)) T.bI_BadProgram (by rfl) T.gC_BadProgram (pa_cons (pv 1) (pa_cons (pv 2) pa_nil))))) pss_nil)
      (pss_cons (ps_if (pt_cmpR op_eq (pv 0) pe_int (nomark _)) (pss_one (ps_ret (pe_mkX T.x_BadLine T.iC_BadLine T.tI_BadLine (ok_iBadLine T) (hr.mono (by decide)) T.bI_BadLine (by rfl) T.gC_BadLine (pa_cons (pv 2) pa_nil)))) pss_nil)
      (pss_cons (ps_if (pt_cmpR op_eq (pv 0) pe_int (nomark _)) (pss_one (ps_ret (pe_mkX T.x_BadPrime T.iC_BadPrime T.tI_BadPrime (ok_iBadPrime T) (hr.mono (by decide)) T.bI_BadPrime (by rfl) T.gC_BadPrime (pa_cons (pv 1) (pa_cons (pv 2) pa_nil))))) pss_nil)
      (pss_cons (ps_if (pt_cmpR op_eq (pv 0) pe_int (nomark _)) (pss_one (ps_ret (pe_mkX T.x_BadShape T.iC_BadShape T.tI_BadShape (ok_iBadShape T) (hr.mono (by decide)) T.bI_BadShape (by rfl) T.gC_BadShape (pa_cons (pv 2) (pa_cons (pv 1) pa_nil))))) pss_nil)
      (pss_cons (ps_if (pt_cmpR op_eq (pv 0) pe_int (nomark _)) (pss_one (ps_ret (pe_mkX T.x_BadBook T.iC_BadBook T.tI_BadBook (ok_iBadBook T) (hr.mono (by decide)) T.bI_BadBook (by rfl) T.gC_BadBook (pa_cons (pv 1) pa_nil)))) pss_nil)
      (pss_cons (ps_if (pt_cmpR op_eq (pv 0) pe_int (nomark _)) (pss_one (ps_ret (pe_mkX T.x_TooMany T.iC_TooMany T.tI_TooMany (ok_iTooMany T) (hr.mono (by decide)) T.bI_TooMany (by rfl) T.gC_TooMany (pa_cons (pv 2) (pa_cons (pv 1) pa_nil))))) pss_nil)
      (pss_cons (ps_if (pt_cmpR op_eq (pv 0) pe_int (nomark _)) (pss_one (ps_ret (pe_mkX T.x_NotNear T.iC_NotNear T.tI_NotNear (ok_iNotNear T) (hr.mono (by decide)) T.bI_NotNear (by rfl) T.gC_NotNear (pa_cons (pv 1) pa_nil)))) pss_nil)
      (pss_cons (ps_if (pt_cmpR op_eq (pv 0) pe_int (nomark _)) (pss_one (ps_ret (pe_mkX T.x_UnknownName T.iC_UnknownName T.tI_UnknownName (ok_iUnknownName T) (hr.mono (by decide)) T.bI_UnknownName (by rfl) T.gC_UnknownName (pa_cons (pv 2) pa_nil)))) pss_nil)
      (pss_cons (ps_if (pt_cmpR op_eq (pv 0) pe_int (nomark _)) (pss_one (ps_ret (pe_mkX T.x_Broken T.iC_Broken T.tI_Broken (ok_iBroken T) (hr.mono (by decide)) T.bI_Broken (by rfl) T.gC_Broken (pa_cons (pv 1) (pa_cons (pv 2) pa_nil))))) pss_nil)
      (pss_one (ps_ret (pe_mkX T.x_NotWaiting T.iC_NotWaiting T.tI_NotWaiting (ok_iNotWaiting T) (hr.mono (by decide)) T.bI_NotWaiting (by rfl) T.gC_NotWaiting (pa_cons (pv 2) pa_nil)))))))))))))), ?_⟩
    refine ⟨_, rfl, nm, rfl, ?_⟩
    cases nm with
    | true => exact ⟨_, rfl, _, rfl, _, rfl, i, one, two, rfl, hi, fun a d H' g ha hd hE => k a d H' g ha hd hE⟩
    | false =>
      refine iteF ?_
      rcases ten hi with rfl | rfl | rfl | rfl | rfl | rfl | rfl | rfl | rfl | rfl
      · refine ⟨_, rfl, rfl, _, rfl, iteT ?_⟩
        exact ⟨_, rfl, _, rfl, (by show 2 ≤ 1000; decide), mk_rd rfl (fun a d H' g ha hd hE => k a d H' g ha hd hE)⟩
      · refine ⟨_, rfl, rfl, _, rfl, iteF ?_⟩
        refine ⟨_, rfl, rfl, _, rfl, iteT ?_⟩
        exact ⟨_, rfl, (by show 1 ≤ 1000; decide), mk_rd rfl (fun a d H' g ha hd hE => k a d H' g ha hd hE)⟩
      · refine ⟨_, rfl, rfl, _, rfl, iteF ?_⟩
        refine ⟨_, rfl, rfl, _, rfl, iteF ?_⟩
        refine ⟨_, rfl, rfl, _, rfl, iteT ?_⟩
        exact ⟨_, rfl, _, rfl, (by show 2 ≤ 1000; decide), mk_rd rfl (fun a d H' g ha hd hE => k a d H' g ha hd hE)⟩
      · refine ⟨_, rfl, rfl, _, rfl, iteF ?_⟩
        refine ⟨_, rfl, rfl, _, rfl, iteF ?_⟩
        refine ⟨_, rfl, rfl, _, rfl, iteF ?_⟩
        refine ⟨_, rfl, rfl, _, rfl, iteT ?_⟩
        exact ⟨_, rfl, _, rfl, (by show 2 ≤ 1000; decide), mk_rd rfl (fun a d H' g ha hd hE => k a d H' g ha hd hE)⟩
      · refine ⟨_, rfl, rfl, _, rfl, iteF ?_⟩
        refine ⟨_, rfl, rfl, _, rfl, iteF ?_⟩
        refine ⟨_, rfl, rfl, _, rfl, iteF ?_⟩
        refine ⟨_, rfl, rfl, _, rfl, iteF ?_⟩
        refine ⟨_, rfl, rfl, _, rfl, iteT ?_⟩
        exact ⟨_, rfl, (by show 1 ≤ 1000; decide), mk_rd rfl (fun a d H' g ha hd hE => k a d H' g ha hd hE)⟩
      · refine ⟨_, rfl, rfl, _, rfl, iteF ?_⟩
        refine ⟨_, rfl, rfl, _, rfl, iteF ?_⟩
        refine ⟨_, rfl, rfl, _, rfl, iteF ?_⟩
        refine ⟨_, rfl, rfl, _, rfl, iteF ?_⟩
        refine ⟨_, rfl, rfl, _, rfl, iteF ?_⟩
        refine ⟨_, rfl, rfl, _, rfl, iteT ?_⟩
        exact ⟨_, rfl, _, rfl, (by show 2 ≤ 1000; decide), mk_rd rfl (fun a d H' g ha hd hE => k a d H' g ha hd hE)⟩
      · refine ⟨_, rfl, rfl, _, rfl, iteF ?_⟩
        refine ⟨_, rfl, rfl, _, rfl, iteF ?_⟩
        refine ⟨_, rfl, rfl, _, rfl, iteF ?_⟩
        refine ⟨_, rfl, rfl, _, rfl, iteF ?_⟩
        refine ⟨_, rfl, rfl, _, rfl, iteF ?_⟩
        refine ⟨_, rfl, rfl, _, rfl, iteF ?_⟩
        refine ⟨_, rfl, rfl, _, rfl, iteT ?_⟩
        exact ⟨_, rfl, (by show 1 ≤ 1000; decide), mk_rd rfl (fun a d H' g ha hd hE => k a d H' g ha hd hE)⟩
      · refine ⟨_, rfl, rfl, _, rfl, iteF ?_⟩
        refine ⟨_, rfl, rfl, _, rfl, iteF ?_⟩
        refine ⟨_, rfl, rfl, _, rfl, iteF ?_⟩
        refine ⟨_, rfl, rfl, _, rfl, iteF ?_⟩
        refine ⟨_, rfl, rfl, _, rfl, iteF ?_⟩
        refine ⟨_, rfl, rfl, _, rfl, iteF ?_⟩
        refine ⟨_, rfl, rfl, _, rfl, iteF ?_⟩
        refine ⟨_, rfl, rfl, _, rfl, iteT ?_⟩
        exact ⟨_, rfl, (by show 1 ≤ 1000; decide), mk_rd rfl (fun a d H' g ha hd hE => k a d H' g ha hd hE)⟩
      · refine ⟨_, rfl, rfl, _, rfl, iteF ?_⟩
        refine ⟨_, rfl, rfl, _, rfl, iteF ?_⟩
        refine ⟨_, rfl, rfl, _, rfl, iteF ?_⟩
        refine ⟨_, rfl, rfl, _, rfl, iteF ?_⟩
        refine ⟨_, rfl, rfl, _, rfl, iteF ?_⟩
        refine ⟨_, rfl, rfl, _, rfl, iteF ?_⟩
        refine ⟨_, rfl, rfl, _, rfl, iteF ?_⟩
        refine ⟨_, rfl, rfl, _, rfl, iteF ?_⟩
        refine ⟨_, rfl, rfl, _, rfl, iteT ?_⟩
        exact ⟨_, rfl, _, rfl, (by show 2 ≤ 1000; decide), mk_rd rfl (fun a d H' g ha hd hE => k a d H' g ha hd hE)⟩
      · refine ⟨_, rfl, rfl, _, rfl, iteF ?_⟩
        refine ⟨_, rfl, rfl, _, rfl, iteF ?_⟩
        refine ⟨_, rfl, rfl, _, rfl, iteF ?_⟩
        refine ⟨_, rfl, rfl, _, rfl, iteF ?_⟩
        refine ⟨_, rfl, rfl, _, rfl, iteF ?_⟩
        refine ⟨_, rfl, rfl, _, rfl, iteF ?_⟩
        refine ⟨_, rfl, rfl, _, rfl, iteF ?_⟩
        refine ⟨_, rfl, rfl, _, rfl, iteF ?_⟩
        refine ⟨_, rfl, rfl, _, rfl, iteF ?_⟩
        exact ⟨_, rfl, (by show 1 ≤ 1000; decide), mk_rd rfl (fun a d H' g ha hd hE => k a d H' g ha hd hE)⟩
theorem ok_told (T : Txt K mg) : FnOk P w K mg base CX0 1 T.f_told T.fd_told ["pick", "error"] (spTold T) := by
  refine T.F_told.ok sc_told (fun vs H Q E h => ?_) (fun cdv A outer s H vs Q E hr h => ?_)
  · obtain ⟨i, a, d, one, two, rfl, _⟩ := h
    rfl
  · obtain ⟨i, a, d, one, two, rfl, hi, hE, k⟩ := h
    refine ⟨_, (pss_cons (ps_if (PW.pt (pw_or (pt_cmpR op_eq (pv 0) pe_int (nomark _)) (pw_or1 (pt_cmpR op_eq (pv 0) pe_int (nomark _))))) (pss_one (ps_ret (pe_lst (pa_cons (pe_xat (pv 1)) (pa_cons (pe_xat (pv 1)) pa_nil))))) pss_nil)
      (pss_cons (ps_if (pt_cmpR op_eq (pv 0) pe_int (nomark _)) (pss_one (ps_ret (pe_lst (pa_cons (pe_xat (pv 1)) pa_nil)))) pss_nil)
      (pss_cons (ps_if (pt_cmpR op_eq (pv 0) pe_int (nomark _)) (pss_one (ps_ret (pe_lst (pa_cons (pe_xat (pv 1)) (pa_cons (pe_xat (pv 1)) pa_nil))))) pss_nil)
      (pss_cons (ps_if (pt_cmpR op_eq (pv 0) pe_int (nomark _)) (pss_one (ps_ret (pe_lst (pa_cons (pe_xat (pv 1)) (pa_cons (pe_xat (pv 1)) pa_nil))))) pss_nil)
      (pss_cons (ps_if (pt_cmpR op_eq (pv 0) pe_int (nomark _)) (pss_one (ps_ret (pe_lst (pa_cons (pe_xat (pv 1)) pa_nil)))) pss_nil)
      (pss_cons (ps_if (pt_cmpR op_eq (pv 0) pe_int (nomark _)) (pss_one (ps_ret (pe_lst (pa_cons (pe_xat (pv 1)) (pa_cons (pe_xat (pv 1)) pa_nil))))) pss_nil)
      (pss_cons (ps_if (pt_cmpR op_eq (pv 0) pe_int (nomark _)) (pss_one (ps_ret (pe_lst (pa_cons (pe_xat (pv 1)) pa_nil)))) pss_nil)
      (pss_cons (ps_if (pt_cmpR op_eq (pv 0) pe_int (nomark _)) (pss_one (ps_ret (pe_lst (pa_cons (pe_xat (pv 1)) pa_nil)))) pss_nil)
      (pss_one (ps_ret (pe_lst (pa_cons (pe_xat (pv 1)) pa_nil)))))))))))), ?_⟩
    rcases ten hi with rfl | rfl | rfl | rfl | rfl | rfl | rfl | rfl | rfl | rfl
    · refine ⟨_, rfl, rfl, _, rfl, iteT (iteT ?_)⟩
      refine ⟨_, rfl, a, T.C_BadProgram, d, _, _, rfl, T.x_BadProgram, T.no_BadProgram_line, hE.1, hE.2, (by first | rfl | simp [fieldsOf, fs1, fs2, List.lookup]), _, rfl, a, T.C_BadProgram, d, _, _, rfl, T.x_BadProgram, T.no_BadProgram_why, hE.1, hE.2, (by first | rfl | simp [fieldsOf, fs1, fs2, List.lookup]), (by show 2 ≤ sizeLine; decide), fun p hp => ?_⟩
      exact k p _ (same_new hp _) hp upd_same
    · refine ⟨_, rfl, rfl, _, rfl, iteF ⟨_, rfl, rfl, _, rfl, iteF ?_⟩⟩
      refine ⟨_, rfl, rfl, _, rfl, iteT ?_⟩
      refine ⟨_, rfl, a, T.C_BadLine, d, _, _, rfl, T.x_BadLine, T.no_BadLine_field, hE.1, hE.2, (by first | rfl | simp [fieldsOf, fs1, fs2, List.lookup]), (by show 1 ≤ sizeLine; decide), fun p hp => ?_⟩
      exact k p _ (same_new hp _) hp upd_same
    · refine ⟨_, rfl, rfl, _, rfl, iteF ⟨_, rfl, rfl, _, rfl, iteF ?_⟩⟩
      refine ⟨_, rfl, rfl, _, rfl, iteF ?_⟩
      refine ⟨_, rfl, rfl, _, rfl, iteT ?_⟩
      refine ⟨_, rfl, a, T.C_BadPrime, d, _, _, rfl, T.x_BadPrime, T.no_BadPrime_p, hE.1, hE.2, (by first | rfl | simp [fieldsOf, fs1, fs2, List.lookup]), _, rfl, a, T.C_BadPrime, d, _, _, rfl, T.x_BadPrime, T.no_BadPrime_rows, hE.1, hE.2, (by first | rfl | simp [fieldsOf, fs1, fs2, List.lookup]), (by show 2 ≤ sizeLine; decide), fun p hp => ?_⟩
      exact k p _ (same_new hp _) hp upd_same
    · refine ⟨_, rfl, rfl, _, rfl, iteF ⟨_, rfl, rfl, _, rfl, iteF ?_⟩⟩
      refine ⟨_, rfl, rfl, _, rfl, iteF ?_⟩
      refine ⟨_, rfl, rfl, _, rfl, iteF ?_⟩
      refine ⟨_, rfl, rfl, _, rfl, iteT ?_⟩
      refine ⟨_, rfl, a, T.C_BadShape, d, _, _, rfl, T.x_BadShape, T.no_BadShape_count, hE.1, hE.2, (by first | rfl | simp [fieldsOf, fs1, fs2, List.lookup]), _, rfl, a, T.C_BadShape, d, _, _, rfl, T.x_BadShape, T.no_BadShape_what, hE.1, hE.2, (by first | rfl | simp [fieldsOf, fs1, fs2, List.lookup]), (by show 2 ≤ sizeLine; decide), fun p hp => ?_⟩
      exact k p _ (same_new hp _) hp upd_same
    · refine ⟨_, rfl, rfl, _, rfl, iteF ⟨_, rfl, rfl, _, rfl, iteF ?_⟩⟩
      refine ⟨_, rfl, rfl, _, rfl, iteF ?_⟩
      refine ⟨_, rfl, rfl, _, rfl, iteF ?_⟩
      refine ⟨_, rfl, rfl, _, rfl, iteF ?_⟩
      refine ⟨_, rfl, rfl, _, rfl, iteT ?_⟩
      refine ⟨_, rfl, a, T.C_BadBook, d, _, _, rfl, T.x_BadBook, T.no_BadBook_line, hE.1, hE.2, (by first | rfl | simp [fieldsOf, fs1, fs2, List.lookup]), (by show 1 ≤ sizeLine; decide), fun p hp => ?_⟩
      exact k p _ (same_new hp _) hp upd_same
    · refine ⟨_, rfl, rfl, _, rfl, iteF ⟨_, rfl, rfl, _, rfl, iteF ?_⟩⟩
      refine ⟨_, rfl, rfl, _, rfl, iteF ?_⟩
      refine ⟨_, rfl, rfl, _, rfl, iteF ?_⟩
      refine ⟨_, rfl, rfl, _, rfl, iteF ?_⟩
      refine ⟨_, rfl, rfl, _, rfl, iteF ?_⟩
      refine ⟨_, rfl, rfl, _, rfl, iteT ?_⟩
      refine ⟨_, rfl, a, T.C_TooMany, d, _, _, rfl, T.x_TooMany, T.no_TooMany_most, hE.1, hE.2, (by first | rfl | simp [fieldsOf, fs1, fs2, List.lookup]), _, rfl, a, T.C_TooMany, d, _, _, rfl, T.x_TooMany, T.no_TooMany_what, hE.1, hE.2, (by first | rfl | simp [fieldsOf, fs1, fs2, List.lookup]), (by show 2 ≤ sizeLine; decide), fun p hp => ?_⟩
      exact k p _ (same_new hp _) hp upd_same
    · refine ⟨_, rfl, rfl, _, rfl, iteF ⟨_, rfl, rfl, _, rfl, iteF ?_⟩⟩
      refine ⟨_, rfl, rfl, _, rfl, iteF ?_⟩
      refine ⟨_, rfl, rfl, _, rfl, iteF ?_⟩
      refine ⟨_, rfl, rfl, _, rfl, iteF ?_⟩
      refine ⟨_, rfl, rfl, _, rfl, iteF ?_⟩
      refine ⟨_, rfl, rfl, _, rfl, iteF ?_⟩
      refine ⟨_, rfl, rfl, _, rfl, iteT ?_⟩
      refine ⟨_, rfl, a, T.C_NotNear, d, _, _, rfl, T.x_NotNear, T.no_NotNear_e, hE.1, hE.2, (by first | rfl | simp [fieldsOf, fs1, fs2, List.lookup]), (by show 1 ≤ sizeLine; decide), fun p hp => ?_⟩
      exact k p _ (same_new hp _) hp upd_same
    · refine ⟨_, rfl, rfl, _, rfl, iteF ⟨_, rfl, rfl, _, rfl, iteF ?_⟩⟩
      refine ⟨_, rfl, rfl, _, rfl, iteF ?_⟩
      refine ⟨_, rfl, rfl, _, rfl, iteF ?_⟩
      refine ⟨_, rfl, rfl, _, rfl, iteF ?_⟩
      refine ⟨_, rfl, rfl, _, rfl, iteF ?_⟩
      refine ⟨_, rfl, rfl, _, rfl, iteF ?_⟩
      refine ⟨_, rfl, rfl, _, rfl, iteF ?_⟩
      refine ⟨_, rfl, rfl, _, rfl, iteT ?_⟩
      refine ⟨_, rfl, a, T.C_UnknownName, d, _, _, rfl, T.x_UnknownName, T.no_UnknownName_name, hE.1, hE.2, (by first | rfl | simp [fieldsOf, fs1, fs2, List.lookup]), (by show 1 ≤ sizeLine; decide), fun p hp => ?_⟩
      exact k p _ (same_new hp _) hp upd_same
    · refine ⟨_, rfl, rfl, _, rfl, iteF ⟨_, rfl, rfl, _, rfl, iteT ?_⟩⟩
      refine ⟨_, rfl, a, T.C_Broken, d, _, _, rfl, T.x_Broken, T.no_Broken_line, hE.1, hE.2, (by first | rfl | simp [fieldsOf, fs1, fs2, List.lookup]), _, rfl, a, T.C_Broken, d, _, _, rfl, T.x_Broken, T.no_Broken_why, hE.1, hE.2, (by first | rfl | simp [fieldsOf, fs1, fs2, List.lookup]), (by show 2 ≤ sizeLine; decide), fun p hp => ?_⟩
      exact k p _ (same_new hp _) hp upd_same
    · refine ⟨_, rfl, rfl, _, rfl, iteF ⟨_, rfl, rfl, _, rfl, iteF ?_⟩⟩
      refine ⟨_, rfl, rfl, _, rfl, iteF ?_⟩
      refine ⟨_, rfl, rfl, _, rfl, iteF ?_⟩
      refine ⟨_, rfl, rfl, _, rfl, iteF ?_⟩
      refine ⟨_, rfl, rfl, _, rfl, iteF ?_⟩
      refine ⟨_, rfl, rfl, _, rfl, iteF ?_⟩
      refine ⟨_, rfl, rfl, _, rfl, iteF ?_⟩
      refine ⟨_, rfl, rfl, _, rfl, iteF ?_⟩
      refine ⟨_, rfl, a, T.C_NotWaiting, d, _, _, rfl, T.x_NotWaiting, T.no_NotWaiting_what, hE.1, hE.2, (by first | rfl | simp [fieldsOf, fs1, fs2, List.lookup]), (by show 1 ≤ sizeLine; decide), fun p hp => ?_⟩
      exact k p _ (same_new hp _) hp upd_same
theorem ok_bases (T : Txt K mg) : FnOk P w K mg base CX0 1 T.f_bases T.fd_bases ["error"] (spAsk T grpL) := by
  refine T.F_bases.ok sc_bases (fun vs H Q E h => ?_) (fun cdv A outer s H vs Q E hr h => ?_)
  · obtain ⟨i, a, d, fs, rfl, _⟩ := h
    rfl
  · obtain ⟨i, a, d, fs, rfl, hi, hE, k⟩ := h
    refine ⟨_, (pss_one (ps_ret (pe_lst (pa_cons (pe_callB call_isX (by rfl) T.z_isinstance (by decide +kernel) (pa_cons (pv 0) (pa_cons (pe_glob (v := .ref T.C_InvalidError) (by rfl) T.gC_InvalidError rfl) pa_nil))) (pa_cons (pe_callB call_isX (by rfl) T.z_isinstance (by decide +kernel) (pa_cons (pv 0) (pa_cons (pe_glob (v := .ref T.C_UnknownError) (by rfl) T.gC_UnknownError rfl) pa_nil))) (pa_cons (pe_callB call_isX (by rfl) T.z_isinstance (by decide +kernel) (pa_cons (pv 0) (pa_cons (pe_glob (v := .ref T.C_StateError) (by rfl) T.gC_StateError rfl) pa_nil))) pa_nil)))))), ?_⟩
    rcases ten hi with rfl | rfl | rfl | rfl | rfl | rfl | rfl | rfl | rfl | rfl
    · refine ⟨_, rfl, a, T.C_BadProgram, some d, .ref T.C_InvalidError, .ref T.C_InvalidError, _, rfl, T.x_BadProgram, hE.1, isx (K := K) hE, (fun u r => r), T.k_BadProgram_InvalidError, _, rfl, a, T.C_BadProgram, some d, .ref T.C_UnknownError, .ref T.C_UnknownError, _, rfl, T.x_BadProgram, hE.1, isx (K := K) hE, (fun u r => r), T.k_BadProgram_UnknownError, _, rfl, a, T.C_BadProgram, some d, .ref T.C_StateError, .ref T.C_StateError, _, rfl, T.x_BadProgram, hE.1, isx (K := K) hE, (fun u r => r), T.k_BadProgram_StateError, (by show 3 ≤ sizeLine; decide), fun p hp => ?_⟩
      exact k p _ (same_new hp _) hp upd_same
    · refine ⟨_, rfl, a, T.C_BadLine, some d, .ref T.C_InvalidError, .ref T.C_InvalidError, _, rfl, T.x_BadLine, hE.1, isx (K := K) hE, (fun u r => r), T.k_BadLine_InvalidError, _, rfl, a, T.C_BadLine, some d, .ref T.C_UnknownError, .ref T.C_UnknownError, _, rfl, T.x_BadLine, hE.1, isx (K := K) hE, (fun u r => r), T.k_BadLine_UnknownError, _, rfl, a, T.C_BadLine, some d, .ref T.C_StateError, .ref T.C_StateError, _, rfl, T.x_BadLine, hE.1, isx (K := K) hE, (fun u r => r), T.k_BadLine_StateError, (by show 3 ≤ sizeLine; decide), fun p hp => ?_⟩
      exact k p _ (same_new hp _) hp upd_same
    · refine ⟨_, rfl, a, T.C_BadPrime, some d, .ref T.C_InvalidError, .ref T.C_InvalidError, _, rfl, T.x_BadPrime, hE.1, isx (K := K) hE, (fun u r => r), T.k_BadPrime_InvalidError, _, rfl, a, T.C_BadPrime, some d, .ref T.C_UnknownError, .ref T.C_UnknownError, _, rfl, T.x_BadPrime, hE.1, isx (K := K) hE, (fun u r => r), T.k_BadPrime_UnknownError, _, rfl, a, T.C_BadPrime, some d, .ref T.C_StateError, .ref T.C_StateError, _, rfl, T.x_BadPrime, hE.1, isx (K := K) hE, (fun u r => r), T.k_BadPrime_StateError, (by show 3 ≤ sizeLine; decide), fun p hp => ?_⟩
      exact k p _ (same_new hp _) hp upd_same
    · refine ⟨_, rfl, a, T.C_BadShape, some d, .ref T.C_InvalidError, .ref T.C_InvalidError, _, rfl, T.x_BadShape, hE.1, isx (K := K) hE, (fun u r => r), T.k_BadShape_InvalidError, _, rfl, a, T.C_BadShape, some d, .ref T.C_UnknownError, .ref T.C_UnknownError, _, rfl, T.x_BadShape, hE.1, isx (K := K) hE, (fun u r => r), T.k_BadShape_UnknownError, _, rfl, a, T.C_BadShape, some d, .ref T.C_StateError, .ref T.C_StateError, _, rfl, T.x_BadShape, hE.1, isx (K := K) hE, (fun u r => r), T.k_BadShape_StateError, (by show 3 ≤ sizeLine; decide), fun p hp => ?_⟩
      exact k p _ (same_new hp _) hp upd_same
    · refine ⟨_, rfl, a, T.C_BadBook, some d, .ref T.C_InvalidError, .ref T.C_InvalidError, _, rfl, T.x_BadBook, hE.1, isx (K := K) hE, (fun u r => r), T.k_BadBook_InvalidError, _, rfl, a, T.C_BadBook, some d, .ref T.C_UnknownError, .ref T.C_UnknownError, _, rfl, T.x_BadBook, hE.1, isx (K := K) hE, (fun u r => r), T.k_BadBook_UnknownError, _, rfl, a, T.C_BadBook, some d, .ref T.C_StateError, .ref T.C_StateError, _, rfl, T.x_BadBook, hE.1, isx (K := K) hE, (fun u r => r), T.k_BadBook_StateError, (by show 3 ≤ sizeLine; decide), fun p hp => ?_⟩
      exact k p _ (same_new hp _) hp upd_same
    · refine ⟨_, rfl, a, T.C_TooMany, some d, .ref T.C_InvalidError, .ref T.C_InvalidError, _, rfl, T.x_TooMany, hE.1, isx (K := K) hE, (fun u r => r), T.k_TooMany_InvalidError, _, rfl, a, T.C_TooMany, some d, .ref T.C_UnknownError, .ref T.C_UnknownError, _, rfl, T.x_TooMany, hE.1, isx (K := K) hE, (fun u r => r), T.k_TooMany_UnknownError, _, rfl, a, T.C_TooMany, some d, .ref T.C_StateError, .ref T.C_StateError, _, rfl, T.x_TooMany, hE.1, isx (K := K) hE, (fun u r => r), T.k_TooMany_StateError, (by show 3 ≤ sizeLine; decide), fun p hp => ?_⟩
      exact k p _ (same_new hp _) hp upd_same
    · refine ⟨_, rfl, a, T.C_NotNear, some d, .ref T.C_InvalidError, .ref T.C_InvalidError, _, rfl, T.x_NotNear, hE.1, isx (K := K) hE, (fun u r => r), T.k_NotNear_InvalidError, _, rfl, a, T.C_NotNear, some d, .ref T.C_UnknownError, .ref T.C_UnknownError, _, rfl, T.x_NotNear, hE.1, isx (K := K) hE, (fun u r => r), T.k_NotNear_UnknownError, _, rfl, a, T.C_NotNear, some d, .ref T.C_StateError, .ref T.C_StateError, _, rfl, T.x_NotNear, hE.1, isx (K := K) hE, (fun u r => r), T.k_NotNear_StateError, (by show 3 ≤ sizeLine; decide), fun p hp => ?_⟩
      exact k p _ (same_new hp _) hp upd_same
    · refine ⟨_, rfl, a, T.C_UnknownName, some d, .ref T.C_InvalidError, .ref T.C_InvalidError, _, rfl, T.x_UnknownName, hE.1, isx (K := K) hE, (fun u r => r), T.k_UnknownName_InvalidError, _, rfl, a, T.C_UnknownName, some d, .ref T.C_UnknownError, .ref T.C_UnknownError, _, rfl, T.x_UnknownName, hE.1, isx (K := K) hE, (fun u r => r), T.k_UnknownName_UnknownError, _, rfl, a, T.C_UnknownName, some d, .ref T.C_StateError, .ref T.C_StateError, _, rfl, T.x_UnknownName, hE.1, isx (K := K) hE, (fun u r => r), T.k_UnknownName_StateError, (by show 3 ≤ sizeLine; decide), fun p hp => ?_⟩
      exact k p _ (same_new hp _) hp upd_same
    · refine ⟨_, rfl, a, T.C_Broken, some d, .ref T.C_InvalidError, .ref T.C_InvalidError, _, rfl, T.x_Broken, hE.1, isx (K := K) hE, (fun u r => r), T.k_Broken_InvalidError, _, rfl, a, T.C_Broken, some d, .ref T.C_UnknownError, .ref T.C_UnknownError, _, rfl, T.x_Broken, hE.1, isx (K := K) hE, (fun u r => r), T.k_Broken_UnknownError, _, rfl, a, T.C_Broken, some d, .ref T.C_StateError, .ref T.C_StateError, _, rfl, T.x_Broken, hE.1, isx (K := K) hE, (fun u r => r), T.k_Broken_StateError, (by show 3 ≤ sizeLine; decide), fun p hp => ?_⟩
      exact k p _ (same_new hp _) hp upd_same
    · refine ⟨_, rfl, a, T.C_NotWaiting, some d, .ref T.C_InvalidError, .ref T.C_InvalidError, _, rfl, T.x_NotWaiting, hE.1, isx (K := K) hE, (fun u r => r), T.k_NotWaiting_InvalidError, _, rfl, a, T.C_NotWaiting, some d, .ref T.C_UnknownError, .ref T.C_UnknownError, _, rfl, T.x_NotWaiting, hE.1, isx (K := K) hE, (fun u r => r), T.k_NotWaiting_UnknownError, _, rfl, a, T.C_NotWaiting, some d, .ref T.C_StateError, .ref T.C_StateError, _, rfl, T.x_NotWaiting, hE.1, isx (K := K) hE, (fun u r => r), T.k_NotWaiting_StateError, (by show 3 ≤ sizeLine; decide), fun p hp => ?_⟩
      exact k p _ (same_new hp _) hp upd_same
theorem ok_roots (T : Txt K mg) : FnOk P w K mg base CX0 1 T.f_roots T.fd_roots ["error"] (spAsk T grpL) := by
  refine T.F_roots.ok sc_roots (fun vs H Q E h => ?_) (fun cdv A outer s H vs Q E hr h => ?_)
  · obtain ⟨i, a, d, fs, rfl, _⟩ := h
    rfl
  · obtain ⟨i, a, d, fs, rfl, hi, hE, k⟩ := h
    refine ⟨_, (pss_one (ps_ret (pe_lst (pa_cons (pe_callB call_isX (by rfl) T.z_isinstance (by decide +kernel) (pa_cons (pv 0) (pa_cons (pe_bltn (v := .ty "ValueError") (by rfl) T.z_ValueError (by decide +kernel) rfl) pa_nil))) (pa_cons (pe_callB call_isX (by rfl) T.z_isinstance (by decide +kernel) (pa_cons (pv 0) (pa_cons (pe_bltn (v := .ty "LookupError") (by rfl) T.z_LookupError (by decide +kernel) rfl) pa_nil))) (pa_cons (pe_callB call_isX (by rfl) T.z_isinstance (by decide +kernel) (pa_cons (pv 0) (pa_cons (pe_bltn (v := .ty "RuntimeError") (by rfl) T.z_RuntimeError (by decide +kernel) rfl) pa_nil))) pa_nil)))))), ?_⟩
    rcases ten hi with rfl | rfl | rfl | rfl | rfl | rfl | rfl | rfl | rfl | rfl
    · refine ⟨_, rfl, a, T.C_BadProgram, some d, .ty "ValueError", .type "ValueError", _, rfl, T.x_BadProgram, hE.1, isx (K := K) hE, (fun u r => r), T.k_BadProgram_ValueError, _, rfl, a, T.C_BadProgram, some d, .ty "LookupError", .type "LookupError", _, rfl, T.x_BadProgram, hE.1, isx (K := K) hE, (fun u r => r), T.k_BadProgram_LookupError, _, rfl, a, T.C_BadProgram, some d, .ty "RuntimeError", .type "RuntimeError", _, rfl, T.x_BadProgram, hE.1, isx (K := K) hE, (fun u r => r), T.k_BadProgram_RuntimeError, (by show 3 ≤ sizeLine; decide), fun p hp => ?_⟩
      exact k p _ (same_new hp _) hp upd_same
    · refine ⟨_, rfl, a, T.C_BadLine, some d, .ty "ValueError", .type "ValueError", _, rfl, T.x_BadLine, hE.1, isx (K := K) hE, (fun u r => r), T.k_BadLine_ValueError, _, rfl, a, T.C_BadLine, some d, .ty "LookupError", .type "LookupError", _, rfl, T.x_BadLine, hE.1, isx (K := K) hE, (fun u r => r), T.k_BadLine_LookupError, _, rfl, a, T.C_BadLine, some d, .ty "RuntimeError", .type "RuntimeError", _, rfl, T.x_BadLine, hE.1, isx (K := K) hE, (fun u r => r), T.k_BadLine_RuntimeError, (by show 3 ≤ sizeLine; decide), fun p hp => ?_⟩
      exact k p _ (same_new hp _) hp upd_same
    · refine ⟨_, rfl, a, T.C_BadPrime, some d, .ty "ValueError", .type "ValueError", _, rfl, T.x_BadPrime, hE.1, isx (K := K) hE, (fun u r => r), T.k_BadPrime_ValueError, _, rfl, a, T.C_BadPrime, some d, .ty "LookupError", .type "LookupError", _, rfl, T.x_BadPrime, hE.1, isx (K := K) hE, (fun u r => r), T.k_BadPrime_LookupError, _, rfl, a, T.C_BadPrime, some d, .ty "RuntimeError", .type "RuntimeError", _, rfl, T.x_BadPrime, hE.1, isx (K := K) hE, (fun u r => r), T.k_BadPrime_RuntimeError, (by show 3 ≤ sizeLine; decide), fun p hp => ?_⟩
      exact k p _ (same_new hp _) hp upd_same
    · refine ⟨_, rfl, a, T.C_BadShape, some d, .ty "ValueError", .type "ValueError", _, rfl, T.x_BadShape, hE.1, isx (K := K) hE, (fun u r => r), T.k_BadShape_ValueError, _, rfl, a, T.C_BadShape, some d, .ty "LookupError", .type "LookupError", _, rfl, T.x_BadShape, hE.1, isx (K := K) hE, (fun u r => r), T.k_BadShape_LookupError, _, rfl, a, T.C_BadShape, some d, .ty "RuntimeError", .type "RuntimeError", _, rfl, T.x_BadShape, hE.1, isx (K := K) hE, (fun u r => r), T.k_BadShape_RuntimeError, (by show 3 ≤ sizeLine; decide), fun p hp => ?_⟩
      exact k p _ (same_new hp _) hp upd_same
    · refine ⟨_, rfl, a, T.C_BadBook, some d, .ty "ValueError", .type "ValueError", _, rfl, T.x_BadBook, hE.1, isx (K := K) hE, (fun u r => r), T.k_BadBook_ValueError, _, rfl, a, T.C_BadBook, some d, .ty "LookupError", .type "LookupError", _, rfl, T.x_BadBook, hE.1, isx (K := K) hE, (fun u r => r), T.k_BadBook_LookupError, _, rfl, a, T.C_BadBook, some d, .ty "RuntimeError", .type "RuntimeError", _, rfl, T.x_BadBook, hE.1, isx (K := K) hE, (fun u r => r), T.k_BadBook_RuntimeError, (by show 3 ≤ sizeLine; decide), fun p hp => ?_⟩
      exact k p _ (same_new hp _) hp upd_same
    · refine ⟨_, rfl, a, T.C_TooMany, some d, .ty "ValueError", .type "ValueError", _, rfl, T.x_TooMany, hE.1, isx (K := K) hE, (fun u r => r), T.k_TooMany_ValueError, _, rfl, a, T.C_TooMany, some d, .ty "LookupError", .type "LookupError", _, rfl, T.x_TooMany, hE.1, isx (K := K) hE, (fun u r => r), T.k_TooMany_LookupError, _, rfl, a, T.C_TooMany, some d, .ty "RuntimeError", .type "RuntimeError", _, rfl, T.x_TooMany, hE.1, isx (K := K) hE, (fun u r => r), T.k_TooMany_RuntimeError, (by show 3 ≤ sizeLine; decide), fun p hp => ?_⟩
      exact k p _ (same_new hp _) hp upd_same
    · refine ⟨_, rfl, a, T.C_NotNear, some d, .ty "ValueError", .type "ValueError", _, rfl, T.x_NotNear, hE.1, isx (K := K) hE, (fun u r => r), T.k_NotNear_ValueError, _, rfl, a, T.C_NotNear, some d, .ty "LookupError", .type "LookupError", _, rfl, T.x_NotNear, hE.1, isx (K := K) hE, (fun u r => r), T.k_NotNear_LookupError, _, rfl, a, T.C_NotNear, some d, .ty "RuntimeError", .type "RuntimeError", _, rfl, T.x_NotNear, hE.1, isx (K := K) hE, (fun u r => r), T.k_NotNear_RuntimeError, (by show 3 ≤ sizeLine; decide), fun p hp => ?_⟩
      exact k p _ (same_new hp _) hp upd_same
    · refine ⟨_, rfl, a, T.C_UnknownName, some d, .ty "ValueError", .type "ValueError", _, rfl, T.x_UnknownName, hE.1, isx (K := K) hE, (fun u r => r), T.k_UnknownName_ValueError, _, rfl, a, T.C_UnknownName, some d, .ty "LookupError", .type "LookupError", _, rfl, T.x_UnknownName, hE.1, isx (K := K) hE, (fun u r => r), T.k_UnknownName_LookupError, _, rfl, a, T.C_UnknownName, some d, .ty "RuntimeError", .type "RuntimeError", _, rfl, T.x_UnknownName, hE.1, isx (K := K) hE, (fun u r => r), T.k_UnknownName_RuntimeError, (by show 3 ≤ sizeLine; decide), fun p hp => ?_⟩
      exact k p _ (same_new hp _) hp upd_same
    · refine ⟨_, rfl, a, T.C_Broken, some d, .ty "ValueError", .type "ValueError", _, rfl, T.x_Broken, hE.1, isx (K := K) hE, (fun u r => r), T.k_Broken_ValueError, _, rfl, a, T.C_Broken, some d, .ty "LookupError", .type "LookupError", _, rfl, T.x_Broken, hE.1, isx (K := K) hE, (fun u r => r), T.k_Broken_LookupError, _, rfl, a, T.C_Broken, some d, .ty "RuntimeError", .type "RuntimeError", _, rfl, T.x_Broken, hE.1, isx (K := K) hE, (fun u r => r), T.k_Broken_RuntimeError, (by show 3 ≤ sizeLine; decide), fun p hp => ?_⟩
      exact k p _ (same_new hp _) hp upd_same
    · refine ⟨_, rfl, a, T.C_NotWaiting, some d, .ty "ValueError", .type "ValueError", _, rfl, T.x_NotWaiting, hE.1, isx (K := K) hE, (fun u r => r), T.k_NotWaiting_ValueError, _, rfl, a, T.C_NotWaiting, some d, .ty "LookupError", .type "LookupError", _, rfl, T.x_NotWaiting, hE.1, isx (K := K) hE, (fun u r => r), T.k_NotWaiting_LookupError, _, rfl, a, T.C_NotWaiting, some d, .ty "RuntimeError", .type "RuntimeError", _, rfl, T.x_NotWaiting, hE.1, isx (K := K) hE, (fun u r => r), T.k_NotWaiting_RuntimeError, (by show 3 ≤ sizeLine; decide), fun p hp => ?_⟩
      exact k p _ (same_new hp _) hp upd_same
theorem ok_classes (T : Txt K mg) : FnOk P w K mg base CX0 1 T.f_classes T.fd_classes ["error"] (spAsk T clsL) := by
  refine T.F_classes.ok sc_classes (fun vs H Q E h => ?_) (fun cdv A outer s H vs Q E hr h => ?_)
  · obtain ⟨i, a, d, fs, rfl, _⟩ := h
    rfl
  · obtain ⟨i, a, d, fs, rfl, hi, hE, k⟩ := h
    refine ⟨_, (pss_cons (ps_set (i := 1) sc_classes.nd rfl (Or.inl rfl) (pe_lst (pa_cons (pe_callB call_isX (by rfl) T.z_isinstance (by decide +kernel) (pa_cons (pv 0) (pa_cons (pe_glob (v := .ref T.C_BadProgram) (by rfl) T.gC_BadProgram rfl) pa_nil))) (pa_cons (pe_callB call_isX (by rfl) T.z_isinstance (by decide +kernel) (pa_cons (pv 0) (pa_cons (pe_glob (v := .ref T.C_BadLine) (by rfl) T.gC_BadLine rfl) pa_nil))) (pa_cons (pe_callB call_isX (by rfl) T.z_isinstance (by decide +kernel) (pa_cons (pv 0) (pa_cons (pe_glob (v := .ref T.C_BadPrime) (by rfl) T.gC_BadPrime rfl) pa_nil))) pa_nil)))))
      (pss_cons (ps_set (i := 2) sc_classes.nd rfl (Or.inl rfl) (pe_lst (pa_cons (pe_callB call_isX (by rfl) T.z_isinstance (by decide +kernel) (pa_cons (pv 0) (pa_cons (pe_glob (v := .ref T.C_BadShape) (by rfl) T.gC_BadShape rfl) pa_nil))) (pa_cons (pe_callB call_isX (by rfl) T.z_isinstance (by decide +kernel) (pa_cons (pv 0) (pa_cons (pe_glob (v := .ref T.C_BadBook) (by rfl) T.gC_BadBook rfl) pa_nil))) (pa_cons (pe_callB call_isX (by rfl) T.z_isinstance (by decide +kernel) (pa_cons (pv 0) (pa_cons (pe_glob (v := .ref T.C_TooMany) (by rfl) T.gC_TooMany rfl) pa_nil))) pa_nil)))))
      (pss_cons (ps_set (i := 3) sc_classes.nd rfl (Or.inl rfl) (pe_lst (pa_cons (pe_callB call_isX (by rfl) T.z_isinstance (by decide +kernel) (pa_cons (pv 0) (pa_cons (pe_glob (v := .ref T.C_NotNear) (by rfl) T.gC_NotNear rfl) pa_nil))) (pa_cons (pe_callB call_isX (by rfl) T.z_isinstance (by decide +kernel) (pa_cons (pv 0) (pa_cons (pe_glob (v := .ref T.C_UnknownName) (by rfl) T.gC_UnknownName rfl) pa_nil))) (pa_cons (pe_callB call_isX (by rfl) T.z_isinstance (by decide +kernel) (pa_cons (pv 0) (pa_cons (pe_glob (v := .ref T.C_Broken) (by rfl) T.gC_Broken rfl) pa_nil))) pa_nil)))))
      (pss_one (ps_ret (pe_op op_cat (pe_op op_cat (pe_op op_cat (pv 1) (pv 2)) (pv 3)) (pe_lst (pa_cons (pe_callB call_isX (by rfl) T.z_isinstance (by decide +kernel) (pa_cons (pv 0) (pa_cons (pe_glob (v := .ref T.C_NotWaiting) (by rfl) T.gC_NotWaiting rfl) pa_nil))) pa_nil)))))))), ?_⟩
    rcases ten hi with rfl | rfl | rfl | rfl | rfl | rfl | rfl | rfl | rfl | rfl
    · refine ⟨_, rfl, a, T.C_BadProgram, some d, .ref T.C_BadProgram, .ref T.C_BadProgram, _, rfl, T.x_BadProgram, hE.1, isx (K := K) hE, (fun u r => r), T.k_BadProgram_BadProgram, _, rfl, a, T.C_BadProgram, some d, .ref T.C_BadLine, .ref T.C_BadLine, _, rfl, T.x_BadProgram, hE.1, isx (K := K) hE, (fun u r => r), T.k_BadProgram_BadLine, _, rfl, a, T.C_BadProgram, some d, .ref T.C_BadPrime, .ref T.C_BadPrime, _, rfl, T.x_BadProgram, hE.1, isx (K := K) hE, (fun u r => r), T.k_BadProgram_BadPrime, (by show 3 ≤ sizeLine; decide), fun p1 h1 => ?_⟩
      have g1 := same_new h1 (.lst [.bl true, .bl false, .bl false])
      have e1 : upd H p1 (.lst [.bl true, .bl false, .bl false]) p1 = some (.lst [.bl true, .bl false, .bl false]) := upd_same
      replace hE := hE.same g1
      generalize upd H p1 (.lst [.bl true, .bl false, .bl false]) = H1 at g1 e1 hE ⊢
      refine ⟨_, rfl, a, T.C_BadProgram, some d, .ref T.C_BadShape, .ref T.C_BadShape, _, rfl, T.x_BadProgram, hE.1, isx (K := K) hE, (fun u r => r), T.k_BadProgram_BadShape, _, rfl, a, T.C_BadProgram, some d, .ref T.C_BadBook, .ref T.C_BadBook, _, rfl, T.x_BadProgram, hE.1, isx (K := K) hE, (fun u r => r), T.k_BadProgram_BadBook, _, rfl, a, T.C_BadProgram, some d, .ref T.C_TooMany, .ref T.C_TooMany, _, rfl, T.x_BadProgram, hE.1, isx (K := K) hE, (fun u r => r), T.k_BadProgram_TooMany, (by show 3 ≤ sizeLine; decide), fun p2 h2 => ?_⟩
      have g2 := same_new h2 (.lst [.bl false, .bl false, .bl false])
      have e2 : upd H1 p2 (.lst [.bl false, .bl false, .bl false]) p2 = some (.lst [.bl false, .bl false, .bl false]) := upd_same
      replace hE := hE.same g2
      replace e1 := g2 _ _ e1
      generalize upd H1 p2 (.lst [.bl false, .bl false, .bl false]) = H2 at g2 e1 e2 hE ⊢
      refine ⟨_, rfl, a, T.C_BadProgram, some d, .ref T.C_NotNear, .ref T.C_NotNear, _, rfl, T.x_BadProgram, hE.1, isx (K := K) hE, (fun u r => r), T.k_BadProgram_NotNear, _, rfl, a, T.C_BadProgram, some d, .ref T.C_UnknownName, .ref T.C_UnknownName, _, rfl, T.x_BadProgram, hE.1, isx (K := K) hE, (fun u r => r), T.k_BadProgram_UnknownName, _, rfl, a, T.C_BadProgram, some d, .ref T.C_Broken, .ref T.C_Broken, _, rfl, T.x_BadProgram, hE.1, isx (K := K) hE, (fun u r => r), T.k_BadProgram_Broken, (by show 3 ≤ sizeLine; decide), fun p3 h3 => ?_⟩
      have g3 := same_new h3 (.lst [.bl false, .bl false, .bl false])
      have e3 : upd H2 p3 (.lst [.bl false, .bl false, .bl false]) p3 = some (.lst [.bl false, .bl false, .bl false]) := upd_same
      replace hE := hE.same g3
      replace e1 := g3 _ _ e1
      replace e2 := g3 _ _ e2
      generalize upd H2 p3 (.lst [.bl false, .bl false, .bl false]) = H3 at g3 e1 e2 e3 hE ⊢
      refine ⟨_, rfl, _, rfl, p1, p2, _, _, rfl, rfl, e1, e2, (by show 6 ≤ sizeLine; decide), fun p4 h4 => ?_⟩
      have g4 := same_new h4 (.lst ([.bl true, .bl false, .bl false] ++ [.bl false, .bl false, .bl false]))
      refine ⟨_, rfl, p4, p3, _, _, rfl, rfl, upd_same, g4 _ _ e3, (by show 9 ≤ sizeLine; decide), fun p5 h5 => ?_⟩
      have g5 := same_new h5 (.lst (([.bl true, .bl false, .bl false] ++ [.bl false, .bl false, .bl false]) ++ [.bl false, .bl false, .bl false]))
      replace hE := (hE.same g4).same g5
      refine ⟨_, rfl, a, T.C_BadProgram, some d, .ref T.C_NotWaiting, .ref T.C_NotWaiting, _, rfl, T.x_BadProgram, hE.1, isx (K := K) hE, (fun u r => r), T.k_BadProgram_NotWaiting, (by show 1 ≤ sizeLine; decide), fun p6 h6 => ?_⟩
      have g6 := same_new h6 (.lst [.bl false])
      refine ⟨p5, p6, _, _, rfl, rfl, g6 _ _ upd_same, upd_same, (by show 10 ≤ sizeLine; decide), fun p7 h7 => ?_⟩
      exact k p7 _ (g1.trans (g2.trans (g3.trans (g4.trans (g5.trans (g6.trans (same_new h7 _))))))) (g1.free (g2.free (g3.free (g4.free (g5.free (g6.free h7)))))) upd_same
    · refine ⟨_, rfl, a, T.C_BadLine, some d, .ref T.C_BadProgram, .ref T.C_BadProgram, _, rfl, T.x_BadLine, hE.1, isx (K := K) hE, (fun u r => r), T.k_BadLine_BadProgram, _, rfl, a, T.C_BadLine, some d, .ref T.C_BadLine, .ref T.C_BadLine, _, rfl, T.x_BadLine, hE.1, isx (K := K) hE, (fun u r => r), T.k_BadLine_BadLine, _, rfl, a, T.C_BadLine, some d, .ref T.C_BadPrime, .ref T.C_BadPrime, _, rfl, T.x_BadLine, hE.1, isx (K := K) hE, (fun u r => r), T.k_BadLine_BadPrime, (by show 3 ≤ sizeLine; decide), fun p1 h1 => ?_⟩
      have g1 := same_new h1 (.lst [.bl false, .bl true, .bl false])
      have e1 : upd H p1 (.lst [.bl false, .bl true, .bl false]) p1 = some (.lst [.bl false, .bl true, .bl false]) := upd_same
      replace hE := hE.same g1
      generalize upd H p1 (.lst [.bl false, .bl true, .bl false]) = H1 at g1 e1 hE ⊢
      refine ⟨_, rfl, a, T.C_BadLine, some d, .ref T.C_BadShape, .ref T.C_BadShape, _, rfl, T.x_BadLine, hE.1, isx (K := K) hE, (fun u r => r), T.k_BadLine_BadShape, _, rfl, a, T.C_BadLine, some d, .ref T.C_BadBook, .ref T.C_BadBook, _, rfl, T.x_BadLine, hE.1, isx (K := K) hE, (fun u r => r), T.k_BadLine_BadBook, _, rfl, a, T.C_BadLine, some d, .ref T.C_TooMany, .ref T.C_TooMany, _, rfl, T.x_BadLine, hE.1, isx (K := K) hE, (fun u r => r), T.k_BadLine_TooMany, (by show 3 ≤ sizeLine; decide), fun p2 h2 => ?_⟩
      have g2 := same_new h2 (.lst [.bl false, .bl false, .bl false])
      have e2 : upd H1 p2 (.lst [.bl false, .bl false, .bl false]) p2 = some (.lst [.bl false, .bl false, .bl false]) := upd_same
      replace hE := hE.same g2
      replace e1 := g2 _ _ e1
      generalize upd H1 p2 (.lst [.bl false, .bl false, .bl false]) = H2 at g2 e1 e2 hE ⊢
      refine ⟨_, rfl, a, T.C_BadLine, some d, .ref T.C_NotNear, .ref T.C_NotNear, _, rfl, T.x_BadLine, hE.1, isx (K := K) hE, (fun u r => r), T.k_BadLine_NotNear, _, rfl, a, T.C_BadLine, some d, .ref T.C_UnknownName, .ref T.C_UnknownName, _, rfl, T.x_BadLine, hE.1, isx (K := K) hE, (fun u r => r), T.k_BadLine_UnknownName, _, rfl, a, T.C_BadLine, some d, .ref T.C_Broken, .ref T.C_Broken, _, rfl, T.x_BadLine, hE.1, isx (K := K) hE, (fun u r => r), T.k_BadLine_Broken, (by show 3 ≤ sizeLine; decide), fun p3 h3 => ?_⟩
      have g3 := same_new h3 (.lst [.bl false, .bl false, .bl false])
      have e3 : upd H2 p3 (.lst [.bl false, .bl false, .bl false]) p3 = some (.lst [.bl false, .bl false, .bl false]) := upd_same
      replace hE := hE.same g3
      replace e1 := g3 _ _ e1
      replace e2 := g3 _ _ e2
      generalize upd H2 p3 (.lst [.bl false, .bl false, .bl false]) = H3 at g3 e1 e2 e3 hE ⊢
      refine ⟨_, rfl, _, rfl, p1, p2, _, _, rfl, rfl, e1, e2, (by show 6 ≤ sizeLine; decide), fun p4 h4 => ?_⟩
      have g4 := same_new h4 (.lst ([.bl false, .bl true, .bl false] ++ [.bl false, .bl false, .bl false]))
      refine ⟨_, rfl, p4, p3, _, _, rfl, rfl, upd_same, g4 _ _ e3, (by show 9 ≤ sizeLine; decide), fun p5 h5 => ?_⟩
      have g5 := same_new h5 (.lst (([.bl false, .bl true, .bl false] ++ [.bl false, .bl false, .bl false]) ++ [.bl false, .bl false, .bl false]))
      replace hE := (hE.same g4).same g5
      refine ⟨_, rfl, a, T.C_BadLine, some d, .ref T.C_NotWaiting, .ref T.C_NotWaiting, _, rfl, T.x_BadLine, hE.1, isx (K := K) hE, (fun u r => r), T.k_BadLine_NotWaiting, (by show 1 ≤ sizeLine; decide), fun p6 h6 => ?_⟩
      have g6 := same_new h6 (.lst [.bl false])
      refine ⟨p5, p6, _, _, rfl, rfl, g6 _ _ upd_same, upd_same, (by show 10 ≤ sizeLine; decide), fun p7 h7 => ?_⟩
      exact k p7 _ (g1.trans (g2.trans (g3.trans (g4.trans (g5.trans (g6.trans (same_new h7 _))))))) (g1.free (g2.free (g3.free (g4.free (g5.free (g6.free h7)))))) upd_same
    · refine ⟨_, rfl, a, T.C_BadPrime, some d, .ref T.C_BadProgram, .ref T.C_BadProgram, _, rfl, T.x_BadPrime, hE.1, isx (K := K) hE, (fun u r => r), T.k_BadPrime_BadProgram, _, rfl, a, T.C_BadPrime, some d, .ref T.C_BadLine, .ref T.C_BadLine, _, rfl, T.x_BadPrime, hE.1, isx (K := K) hE, (fun u r => r), T.k_BadPrime_BadLine, _, rfl, a, T.C_BadPrime, some d, .ref T.C_BadPrime, .ref T.C_BadPrime, _, rfl, T.x_BadPrime, hE.1, isx (K := K) hE, (fun u r => r), T.k_BadPrime_BadPrime, (by show 3 ≤ sizeLine; decide), fun p1 h1 => ?_⟩
      have g1 := same_new h1 (.lst [.bl false, .bl false, .bl true])
      have e1 : upd H p1 (.lst [.bl false, .bl false, .bl true]) p1 = some (.lst [.bl false, .bl false, .bl true]) := upd_same
      replace hE := hE.same g1
      generalize upd H p1 (.lst [.bl false, .bl false, .bl true]) = H1 at g1 e1 hE ⊢
      refine ⟨_, rfl, a, T.C_BadPrime, some d, .ref T.C_BadShape, .ref T.C_BadShape, _, rfl, T.x_BadPrime, hE.1, isx (K := K) hE, (fun u r => r), T.k_BadPrime_BadShape, _, rfl, a, T.C_BadPrime, some d, .ref T.C_BadBook, .ref T.C_BadBook, _, rfl, T.x_BadPrime, hE.1, isx (K := K) hE, (fun u r => r), T.k_BadPrime_BadBook, _, rfl, a, T.C_BadPrime, some d, .ref T.C_TooMany, .ref T.C_TooMany, _, rfl, T.x_BadPrime, hE.1, isx (K := K) hE, (fun u r => r), T.k_BadPrime_TooMany, (by show 3 ≤ sizeLine; decide), fun p2 h2 => ?_⟩
      have g2 := same_new h2 (.lst [.bl false, .bl false, .bl false])
      have e2 : upd H1 p2 (.lst [.bl false, .bl false, .bl false]) p2 = some (.lst [.bl false, .bl false, .bl false]) := upd_same
      replace hE := hE.same g2
      replace e1 := g2 _ _ e1
      generalize upd H1 p2 (.lst [.bl false, .bl false, .bl false]) = H2 at g2 e1 e2 hE ⊢
      refine ⟨_, rfl, a, T.C_BadPrime, some d, .ref T.C_NotNear, .ref T.C_NotNear, _, rfl, T.x_BadPrime, hE.1, isx (K := K) hE, (fun u r => r), T.k_BadPrime_NotNear, _, rfl, a, T.C_BadPrime, some d, .ref T.C_UnknownName, .ref T.C_UnknownName, _, rfl, T.x_BadPrime, hE.1, isx (K := K) hE, (fun u r => r), T.k_BadPrime_UnknownName, _, rfl, a, T.C_BadPrime, some d, .ref T.C_Broken, .ref T.C_Broken, _, rfl, T.x_BadPrime, hE.1, isx (K := K) hE, (fun u r => r), T.k_BadPrime_Broken, (by show 3 ≤ sizeLine; decide), fun p3 h3 => ?_⟩
      have g3 := same_new h3 (.lst [.bl false, .bl false, .bl false])
      have e3 : upd H2 p3 (.lst [.bl false, .bl false, .bl false]) p3 = some (.lst [.bl false, .bl false, .bl false]) := upd_same
      replace hE := hE.same g3
      replace e1 := g3 _ _ e1
      replace e2 := g3 _ _ e2
      generalize upd H2 p3 (.lst [.bl false, .bl false, .bl false]) = H3 at g3 e1 e2 e3 hE ⊢
      refine ⟨_, rfl, _, rfl, p1, p2, _, _, rfl, rfl, e1, e2, (by show 6 ≤ sizeLine; decide), fun p4 h4 => ?_⟩
      have g4 := same_new h4 (.lst ([.bl false, .bl false, .bl true] ++ [.bl false, .bl false, .bl false]))
      refine ⟨_, rfl, p4, p3, _, _, rfl, rfl, upd_same, g4 _ _ e3, (by show 9 ≤ sizeLine; decide), fun p5 h5 => ?_⟩
      have g5 := same_new h5 (.lst (([.bl false, .bl false, .bl true] ++ [.bl false, .bl false, .bl false]) ++ [.bl false, .bl false, .bl false]))
      replace hE := (hE.same g4).same g5
      refine ⟨_, rfl, a, T.C_BadPrime, some d, .ref T.C_NotWaiting, .ref T.C_NotWaiting, _, rfl, T.x_BadPrime, hE.1, isx (K := K) hE, (fun u r => r), T.k_BadPrime_NotWaiting, (by show 1 ≤ sizeLine; decide), fun p6 h6 => ?_⟩
      have g6 := same_new h6 (.lst [.bl false])
      refine ⟨p5, p6, _, _, rfl, rfl, g6 _ _ upd_same, upd_same, (by show 10 ≤ sizeLine; decide), fun p7 h7 => ?_⟩
      exact k p7 _ (g1.trans (g2.trans (g3.trans (g4.trans (g5.trans (g6.trans (same_new h7 _))))))) (g1.free (g2.free (g3.free (g4.free (g5.free (g6.free h7)))))) upd_same
    · refine ⟨_, rfl, a, T.C_BadShape, some d, .ref T.C_BadProgram, .ref T.C_BadProgram, _, rfl, T.x_BadShape, hE.1, isx (K := K) hE, (fun u r => r), T.k_BadShape_BadProgram, _, rfl, a, T.C_BadShape, some d, .ref T.C_BadLine, .ref T.C_BadLine, _, rfl, T.x_BadShape, hE.1, isx (K := K) hE, (fun u r => r), T.k_BadShape_BadLine, _, rfl, a, T.C_BadShape, some d, .ref T.C_BadPrime, .ref T.C_BadPrime, _, rfl, T.x_BadShape, hE.1, isx (K := K) hE, (fun u r => r), T.k_BadShape_BadPrime, (by show 3 ≤ sizeLine; decide), fun p1 h1 => ?_⟩
      have g1 := same_new h1 (.lst [.bl false, .bl false, .bl false])
      have e1 : upd H p1 (.lst [.bl false, .bl false, .bl false]) p1 = some (.lst [.bl false, .bl false, .bl false]) := upd_same
      replace hE := hE.same g1
      generalize upd H p1 (.lst [.bl false, .bl false, .bl false]) = H1 at g1 e1 hE ⊢
      refine ⟨_, rfl, a, T.C_BadShape, some d, .ref T.C_BadShape, .ref T.C_BadShape, _, rfl, T.x_BadShape, hE.1, isx (K := K) hE, (fun u r => r), T.k_BadShape_BadShape, _, rfl, a, T.C_BadShape, some d, .ref T.C_BadBook, .ref T.C_BadBook, _, rfl, T.x_BadShape, hE.1, isx (K := K) hE, (fun u r => r), T.k_BadShape_BadBook, _, rfl, a, T.C_BadShape, some d, .ref T.C_TooMany, .ref T.C_TooMany, _, rfl, T.x_BadShape, hE.1, isx (K := K) hE, (fun u r => r), T.k_BadShape_TooMany, (by show 3 ≤ sizeLine; decide), fun p2 h2 => ?_⟩
      have g2 := same_new h2 (.lst [.bl true, .bl false, .bl false])
      have e2 : upd H1 p2 (.lst [.bl true, .bl false, .bl false]) p2 = some (.lst [.bl true, .bl false, .bl false]) := upd_same
      replace hE := hE.same g2
      replace e1 := g2 _ _ e1
      generalize upd H1 p2 (.lst [.bl true, .bl false, .bl false]) = H2 at g2 e1 e2 hE ⊢
      refine ⟨_, rfl, a, T.C_BadShape, some d, .ref T.C_NotNear, .ref T.C_NotNear, _, rfl, T.x_BadShape, hE.1, isx (K := K) hE, (fun u r => r), T.k_BadShape_NotNear, _, rfl, a, T.C_BadShape, some d, .ref T.C_UnknownName, .ref T.C_UnknownName, _, rfl, T.x_BadShape, hE.1, isx (K := K) hE, (fun u r => r), T.k_BadShape_UnknownName, _, rfl, a, T.C_BadShape, some d, .ref T.C_Broken, .ref T.C_Broken, _, rfl, T.x_BadShape, hE.1, isx (K := K) hE, (fun u r => r), T.k_BadShape_Broken, (by show 3 ≤ sizeLine; decide), fun p3 h3 => ?_⟩
      have g3 := same_new h3 (.lst [.bl false, .bl false, .bl false])
      have e3 : upd H2 p3 (.lst [.bl false, .bl false, .bl false]) p3 = some (.lst [.bl false, .bl false, .bl false]) := upd_same
      replace hE := hE.same g3
      replace e1 := g3 _ _ e1
      replace e2 := g3 _ _ e2
      generalize upd H2 p3 (.lst [.bl false, .bl false, .bl false]) = H3 at g3 e1 e2 e3 hE ⊢
      refine ⟨_, rfl, _, rfl, p1, p2, _, _, rfl, rfl, e1, e2, (by show 6 ≤ sizeLine; decide), fun p4 h4 => ?_⟩
      have g4 := same_new h4 (.lst ([.bl false, .bl false, .bl false] ++ [.bl true, .bl false, .bl false]))
      refine ⟨_, rfl, p4, p3, _, _, rfl, rfl, upd_same, g4 _ _ e3, (by show 9 ≤ sizeLine; decide), fun p5 h5 => ?_⟩
      have g5 := same_new h5 (.lst (([.bl false, .bl false, .bl false] ++ [.bl true, .bl false, .bl false]) ++ [.bl false, .bl false, .bl false]))
      replace hE := (hE.same g4).same g5
      refine ⟨_, rfl, a, T.C_BadShape, some d, .ref T.C_NotWaiting, .ref T.C_NotWaiting, _, rfl, T.x_BadShape, hE.1, isx (K := K) hE, (fun u r => r), T.k_BadShape_NotWaiting, (by show 1 ≤ sizeLine; decide), fun p6 h6 => ?_⟩
      have g6 := same_new h6 (.lst [.bl false])
      refine ⟨p5, p6, _, _, rfl, rfl, g6 _ _ upd_same, upd_same, (by show 10 ≤ sizeLine; decide), fun p7 h7 => ?_⟩
      exact k p7 _ (g1.trans (g2.trans (g3.trans (g4.trans (g5.trans (g6.trans (same_new h7 _))))))) (g1.free (g2.free (g3.free (g4.free (g5.free (g6.free h7)))))) upd_same
    · refine ⟨_, rfl, a, T.C_BadBook, some d, .ref T.C_BadProgram, .ref T.C_BadProgram, _, rfl, T.x_BadBook, hE.1, isx (K := K) hE, (fun u r => r), T.k_BadBook_BadProgram, _, rfl, a, T.C_BadBook, some d, .ref T.C_BadLine, .ref T.C_BadLine, _, rfl, T.x_BadBook, hE.1, isx (K := K) hE, (fun u r => r), T.k_BadBook_BadLine, _, rfl, a, T.C_BadBook, some d, .ref T.C_BadPrime, .ref T.C_BadPrime, _, rfl, T.x_BadBook, hE.1, isx (K := K) hE, (fun u r => r), T.k_BadBook_BadPrime, (by show 3 ≤ sizeLine; decide), fun p1 h1 => ?_⟩
      have g1 := same_new h1 (.lst [.bl false, .bl false, .bl false])
      have e1 : upd H p1 (.lst [.bl false, .bl false, .bl false]) p1 = some (.lst [.bl false, .bl false, .bl false]) := upd_same
      replace hE := hE.same g1
      generalize upd H p1 (.lst [.bl false, .bl false, .bl false]) = H1 at g1 e1 hE ⊢
      refine ⟨_, rfl, a, T.C_BadBook, some d, .ref T.C_BadShape, .ref T.C_BadShape, _, rfl, T.x_BadBook, hE.1, isx (K := K) hE, (fun u r => r), T.k_BadBook_BadShape, _, rfl, a, T.C_BadBook, some d, .ref T.C_BadBook, .ref T.C_BadBook, _, rfl, T.x_BadBook, hE.1, isx (K := K) hE, (fun u r => r), T.k_BadBook_BadBook, _, rfl, a, T.C_BadBook, some d, .ref T.C_TooMany, .ref T.C_TooMany, _, rfl, T.x_BadBook, hE.1, isx (K := K) hE, (fun u r => r), T.k_BadBook_TooMany, (by show 3 ≤ sizeLine; decide), fun p2 h2 => ?_⟩
      have g2 := same_new h2 (.lst [.bl false, .bl true, .bl false])
      have e2 : upd H1 p2 (.lst [.bl false, .bl true, .bl false]) p2 = some (.lst [.bl false, .bl true, .bl false]) := upd_same
      replace hE := hE.same g2
      replace e1 := g2 _ _ e1
      generalize upd H1 p2 (.lst [.bl false, .bl true, .bl false]) = H2 at g2 e1 e2 hE ⊢
      refine ⟨_, rfl, a, T.C_BadBook, some d, .ref T.C_NotNear, .ref T.C_NotNear, _, rfl, T.x_BadBook, hE.1, isx (K := K) hE, (fun u r => r), T.k_BadBook_NotNear, _, rfl, a, T.C_BadBook, some d, .ref T.C_UnknownName, .ref T.C_UnknownName, _, rfl, T.x_BadBook, hE.1, isx (K := K) hE, (fun u r => r), T.k_BadBook_UnknownName, _, rfl, a, T.C_BadBook, some d, .ref T.C_Broken, .ref T.C_Broken, _, rfl, T.x_BadBook, hE.1, isx (K := K) hE, (fun u r => r), T.k_BadBook_Broken, (by show 3 ≤ sizeLine; decide), fun p3 h3 => ?_⟩
      have g3 := same_new h3 (.lst [.bl false, .bl false, .bl false])
      have e3 : upd H2 p3 (.lst [.bl false, .bl false, .bl false]) p3 = some (.lst [.bl false, .bl false, .bl false]) := upd_same
      replace hE := hE.same g3
      replace e1 := g3 _ _ e1
      replace e2 := g3 _ _ e2
      generalize upd H2 p3 (.lst [.bl false, .bl false, .bl false]) = H3 at g3 e1 e2 e3 hE ⊢
      refine ⟨_, rfl, _, rfl, p1, p2, _, _, rfl, rfl, e1, e2, (by show 6 ≤ sizeLine; decide), fun p4 h4 => ?_⟩
      have g4 := same_new h4 (.lst ([.bl false, .bl false, .bl false] ++ [.bl false, .bl true, .bl false]))
      refine ⟨_, rfl, p4, p3, _, _, rfl, rfl, upd_same, g4 _ _ e3, (by show 9 ≤ sizeLine; decide), fun p5 h5 => ?_⟩
      have g5 := same_new h5 (.lst (([.bl false, .bl false, .bl false] ++ [.bl false, .bl true, .bl false]) ++ [.bl false, .bl false, .bl false]))
      replace hE := (hE.same g4).same g5
      refine ⟨_, rfl, a, T.C_BadBook, some d, .ref T.C_NotWaiting, .ref T.C_NotWaiting, _, rfl, T.x_BadBook, hE.1, isx (K := K) hE, (fun u r => r), T.k_BadBook_NotWaiting, (by show 1 ≤ sizeLine; decide), fun p6 h6 => ?_⟩
      have g6 := same_new h6 (.lst [.bl false])
      refine ⟨p5, p6, _, _, rfl, rfl, g6 _ _ upd_same, upd_same, (by show 10 ≤ sizeLine; decide), fun p7 h7 => ?_⟩
      exact k p7 _ (g1.trans (g2.trans (g3.trans (g4.trans (g5.trans (g6.trans (same_new h7 _))))))) (g1.free (g2.free (g3.free (g4.free (g5.free (g6.free h7)))))) upd_same
    · refine ⟨_, rfl, a, T.C_TooMany, some d, .ref T.C_BadProgram, .ref T.C_BadProgram, _, rfl, T.x_TooMany, hE.1, isx (K := K) hE, (fun u r => r), T.k_TooMany_BadProgram, _, rfl, a, T.C_TooMany, some d, .ref T.C_BadLine, .ref T.C_BadLine, _, rfl, T.x_TooMany, hE.1, isx (K := K) hE, (fun u r => r), T.k_TooMany_BadLine, _, rfl, a, T.C_TooMany, some d, .ref T.C_BadPrime, .ref T.C_BadPrime, _, rfl, T.x_TooMany, hE.1, isx (K := K) hE, (fun u r => r), T.k_TooMany_BadPrime, (by show 3 ≤ sizeLine; decide), fun p1 h1 => ?_⟩
      have g1 := same_new h1 (.lst [.bl false, .bl false, .bl false])
      have e1 : upd H p1 (.lst [.bl false, .bl false, .bl false]) p1 = some (.lst [.bl false, .bl false, .bl false]) := upd_same
      replace hE := hE.same g1
      generalize upd H p1 (.lst [.bl false, .bl false, .bl false]) = H1 at g1 e1 hE ⊢
      refine ⟨_, rfl, a, T.C_TooMany, some d, .ref T.C_BadShape, .ref T.C_BadShape, _, rfl, T.x_TooMany, hE.1, isx (K := K) hE, (fun u r => r), T.k_TooMany_BadShape, _, rfl, a, T.C_TooMany, some d, .ref T.C_BadBook, .ref T.C_BadBook, _, rfl, T.x_TooMany, hE.1, isx (K := K) hE, (fun u r => r), T.k_TooMany_BadBook, _, rfl, a, T.C_TooMany, some d, .ref T.C_TooMany, .ref T.C_TooMany, _, rfl, T.x_TooMany, hE.1, isx (K := K) hE, (fun u r => r), T.k_TooMany_TooMany, (by show 3 ≤ sizeLine; decide), fun p2 h2 => ?_⟩
      have g2 := same_new h2 (.lst [.bl false, .bl false, .bl true])
      have e2 : upd H1 p2 (.lst [.bl false, .bl false, .bl true]) p2 = some (.lst [.bl false, .bl false, .bl true]) := upd_same
      replace hE := hE.same g2
      replace e1 := g2 _ _ e1
      generalize upd H1 p2 (.lst [.bl false, .bl false, .bl true]) = H2 at g2 e1 e2 hE ⊢
      refine ⟨_, rfl, a, T.C_TooMany, some d, .ref T.C_NotNear, .ref T.C_NotNear, _, rfl, T.x_TooMany, hE.1, isx (K := K) hE, (fun u r => r), T.k_TooMany_NotNear, _, rfl, a, T.C_TooMany, some d, .ref T.C_UnknownName, .ref T.C_UnknownName, _, rfl, T.x_TooMany, hE.1, isx (K := K) hE, (fun u r => r), T.k_TooMany_UnknownName, _, rfl, a, T.C_TooMany, some d, .ref T.C_Broken, .ref T.C_Broken, _, rfl, T.x_TooMany, hE.1, isx (K := K) hE, (fun u r => r), T.k_TooMany_Broken, (by show 3 ≤ sizeLine; decide), fun p3 h3 => ?_⟩
      have g3 := same_new h3 (.lst [.bl false, .bl false, .bl false])
      have e3 : upd H2 p3 (.lst [.bl false, .bl false, .bl false]) p3 = some (.lst [.bl false, .bl false, .bl false]) := upd_same
      replace hE := hE.same g3
      replace e1 := g3 _ _ e1
      replace e2 := g3 _ _ e2
      generalize upd H2 p3 (.lst [.bl false, .bl false, .bl false]) = H3 at g3 e1 e2 e3 hE ⊢
      refine ⟨_, rfl, _, rfl, p1, p2, _, _, rfl, rfl, e1, e2, (by show 6 ≤ sizeLine; decide), fun p4 h4 => ?_⟩
      have g4 := same_new h4 (.lst ([.bl false, .bl false, .bl false] ++ [.bl false, .bl false, .bl true]))
      refine ⟨_, rfl, p4, p3, _, _, rfl, rfl, upd_same, g4 _ _ e3, (by show 9 ≤ sizeLine; decide), fun p5 h5 => ?_⟩
      have g5 := same_new h5 (.lst (([.bl false, .bl false, .bl false] ++ [.bl false, .bl false, .bl true]) ++ [.bl false, .bl false, .bl false]))
      replace hE := (hE.same g4).same g5
      refine ⟨_, rfl, a, T.C_TooMany, some d, .ref T.C_NotWaiting, .ref T.C_NotWaiting, _, rfl, T.x_TooMany, hE.1, isx (K := K) hE, (fun u r => r), T.k_TooMany_NotWaiting, (by show 1 ≤ sizeLine; decide), fun p6 h6 => ?_⟩
      have g6 := same_new h6 (.lst [.bl false])
      refine ⟨p5, p6, _, _, rfl, rfl, g6 _ _ upd_same, upd_same, (by show 10 ≤ sizeLine; decide), fun p7 h7 => ?_⟩
      exact k p7 _ (g1.trans (g2.trans (g3.trans (g4.trans (g5.trans (g6.trans (same_new h7 _))))))) (g1.free (g2.free (g3.free (g4.free (g5.free (g6.free h7)))))) upd_same
    · refine ⟨_, rfl, a, T.C_NotNear, some d, .ref T.C_BadProgram, .ref T.C_BadProgram, _, rfl, T.x_NotNear, hE.1, isx (K := K) hE, (fun u r => r), T.k_NotNear_BadProgram, _, rfl, a, T.C_NotNear, some d, .ref T.C_BadLine, .ref T.C_BadLine, _, rfl, T.x_NotNear, hE.1, isx (K := K) hE, (fun u r => r), T.k_NotNear_BadLine, _, rfl, a, T.C_NotNear, some d, .ref T.C_BadPrime, .ref T.C_BadPrime, _, rfl, T.x_NotNear, hE.1, isx (K := K) hE, (fun u r => r), T.k_NotNear_BadPrime, (by show 3 ≤ sizeLine; decide), fun p1 h1 => ?_⟩
      have g1 := same_new h1 (.lst [.bl false, .bl false, .bl false])
      have e1 : upd H p1 (.lst [.bl false, .bl false, .bl false]) p1 = some (.lst [.bl false, .bl false, .bl false]) := upd_same
      replace hE := hE.same g1
      generalize upd H p1 (.lst [.bl false, .bl false, .bl false]) = H1 at g1 e1 hE ⊢
      refine ⟨_, rfl, a, T.C_NotNear, some d, .ref T.C_BadShape, .ref T.C_BadShape, _, rfl, T.x_NotNear, hE.1, isx (K := K) hE, (fun u r => r), T.k_NotNear_BadShape, _, rfl, a, T.C_NotNear, some d, .ref T.C_BadBook, .ref T.C_BadBook, _, rfl, T.x_NotNear, hE.1, isx (K := K) hE, (fun u r => r), T.k_NotNear_BadBook, _, rfl, a, T.C_NotNear, some d, .ref T.C_TooMany, .ref T.C_TooMany, _, rfl, T.x_NotNear, hE.1, isx (K := K) hE, (fun u r => r), T.k_NotNear_TooMany, (by show 3 ≤ sizeLine; decide), fun p2 h2 => ?_⟩
      have g2 := same_new h2 (.lst [.bl false, .bl false, .bl false])
      have e2 : upd H1 p2 (.lst [.bl false, .bl false, .bl false]) p2 = some (.lst [.bl false, .bl false, .bl false]) := upd_same
      replace hE := hE.same g2
      replace e1 := g2 _ _ e1
      generalize upd H1 p2 (.lst [.bl false, .bl false, .bl false]) = H2 at g2 e1 e2 hE ⊢
      refine ⟨_, rfl, a, T.C_NotNear, some d, .ref T.C_NotNear, .ref T.C_NotNear, _, rfl, T.x_NotNear, hE.1, isx (K := K) hE, (fun u r => r), T.k_NotNear_NotNear, _, rfl, a, T.C_NotNear, some d, .ref T.C_UnknownName, .ref T.C_UnknownName, _, rfl, T.x_NotNear, hE.1, isx (K := K) hE, (fun u r => r), T.k_NotNear_UnknownName, _, rfl, a, T.C_NotNear, some d, .ref T.C_Broken, .ref T.C_Broken, _, rfl, T.x_NotNear, hE.1, isx (K := K) hE, (fun u r => r), T.k_NotNear_Broken, (by show 3 ≤ sizeLine; decide), fun p3 h3 => ?_⟩
      have g3 := same_new h3 (.lst [.bl true, .bl false, .bl false])
      have e3 : upd H2 p3 (.lst [.bl true, .bl false, .bl false]) p3 = some (.lst [.bl true, .bl false, .bl false]) := upd_same
      replace hE := hE.same g3
      replace e1 := g3 _ _ e1
      replace e2 := g3 _ _ e2
      generalize upd H2 p3 (.lst [.bl true, .bl false, .bl false]) = H3 at g3 e1 e2 e3 hE ⊢
      refine ⟨_, rfl, _, rfl, p1, p2, _, _, rfl, rfl, e1, e2, (by show 6 ≤ sizeLine; decide), fun p4 h4 => ?_⟩
      have g4 := same_new h4 (.lst ([.bl false, .bl false, .bl false] ++ [.bl false, .bl false, .bl false]))
      refine ⟨_, rfl, p4, p3, _, _, rfl, rfl, upd_same, g4 _ _ e3, (by show 9 ≤ sizeLine; decide), fun p5 h5 => ?_⟩
      have g5 := same_new h5 (.lst (([.bl false, .bl false, .bl false] ++ [.bl false, .bl false, .bl false]) ++ [.bl true, .bl false, .bl false]))
      replace hE := (hE.same g4).same g5
      refine ⟨_, rfl, a, T.C_NotNear, some d, .ref T.C_NotWaiting, .ref T.C_NotWaiting, _, rfl, T.x_NotNear, hE.1, isx (K := K) hE, (fun u r => r), T.k_NotNear_NotWaiting, (by show 1 ≤ sizeLine; decide), fun p6 h6 => ?_⟩
      have g6 := same_new h6 (.lst [.bl false])
      refine ⟨p5, p6, _, _, rfl, rfl, g6 _ _ upd_same, upd_same, (by show 10 ≤ sizeLine; decide), fun p7 h7 => ?_⟩
      exact k p7 _ (g1.trans (g2.trans (g3.trans (g4.trans (g5.trans (g6.trans (same_new h7 _))))))) (g1.free (g2.free (g3.free (g4.free (g5.free (g6.free h7)))))) upd_same
    · refine ⟨_, rfl, a, T.C_UnknownName, some d, .ref T.C_BadProgram, .ref T.C_BadProgram, _, rfl, T.x_UnknownName, hE.1, isx (K := K) hE, (fun u r => r), T.k_UnknownName_BadProgram, _, rfl, a, T.C_UnknownName, some d, .ref T.C_BadLine, .ref T.C_BadLine, _, rfl, T.x_UnknownName, hE.1, isx (K := K) hE, (fun u r => r), T.k_UnknownName_BadLine, _, rfl, a, T.C_UnknownName, some d, .ref T.C_BadPrime, .ref T.C_BadPrime, _, rfl, T.x_UnknownName, hE.1, isx (K := K) hE, (fun u r => r), T.k_UnknownName_BadPrime, (by show 3 ≤ sizeLine; decide), fun p1 h1 => ?_⟩
      have g1 := same_new h1 (.lst [.bl false, .bl false, .bl false])
      have e1 : upd H p1 (.lst [.bl false, .bl false, .bl false]) p1 = some (.lst [.bl false, .bl false, .bl false]) := upd_same
      replace hE := hE.same g1
      generalize upd H p1 (.lst [.bl false, .bl false, .bl false]) = H1 at g1 e1 hE ⊢
      refine ⟨_, rfl, a, T.C_UnknownName, some d, .ref T.C_BadShape, .ref T.C_BadShape, _, rfl, T.x_UnknownName, hE.1, isx (K := K) hE, (fun u r => r), T.k_UnknownName_BadShape, _, rfl, a, T.C_UnknownName, some d, .ref T.C_BadBook, .ref T.C_BadBook, _, rfl, T.x_UnknownName, hE.1, isx (K := K) hE, (fun u r => r), T.k_UnknownName_BadBook, _, rfl, a, T.C_UnknownName, some d, .ref T.C_TooMany, .ref T.C_TooMany, _, rfl, T.x_UnknownName, hE.1, isx (K := K) hE, (fun u r => r), T.k_UnknownName_TooMany, (by show 3 ≤ sizeLine; decide), fun p2 h2 => ?_⟩
      have g2 := same_new h2 (.lst [.bl false, .bl false, .bl false])
      have e2 : upd H1 p2 (.lst [.bl false, .bl false, .bl false]) p2 = some (.lst [.bl false, .bl false, .bl false]) := upd_same
      replace hE := hE.same g2
      replace e1 := g2 _ _ e1
      generalize upd H1 p2 (.lst [.bl false, .bl false, .bl false]) = H2 at g2 e1 e2 hE ⊢
      refine ⟨_, rfl, a, T.C_UnknownName, some d, .ref T.C_NotNear, .ref T.C_NotNear, _, rfl, T.x_UnknownName, hE.1, isx (K := K) hE, (fun u r => r), T.k_UnknownName_NotNear, _, rfl, a, T.C_UnknownName, some d, .ref T.C_UnknownName, .ref T.C_UnknownName, _, rfl, T.x_UnknownName, hE.1, isx (K := K) hE, (fun u r => r), T.k_UnknownName_UnknownName, _, rfl, a, T.C_UnknownName, some d, .ref T.C_Broken, .ref T.C_Broken, _, rfl, T.x_UnknownName, hE.1, isx (K := K) hE, (fun u r => r), T.k_UnknownName_Broken, (by show 3 ≤ sizeLine; decide), fun p3 h3 => ?_⟩
      have g3 := same_new h3 (.lst [.bl false, .bl true, .bl false])
      have e3 : upd H2 p3 (.lst [.bl false, .bl true, .bl false]) p3 = some (.lst [.bl false, .bl true, .bl false]) := upd_same
      replace hE := hE.same g3
      replace e1 := g3 _ _ e1
      replace e2 := g3 _ _ e2
      generalize upd H2 p3 (.lst [.bl false, .bl true, .bl false]) = H3 at g3 e1 e2 e3 hE ⊢
      refine ⟨_, rfl, _, rfl, p1, p2, _, _, rfl, rfl, e1, e2, (by show 6 ≤ sizeLine; decide), fun p4 h4 => ?_⟩
      have g4 := same_new h4 (.lst ([.bl false, .bl false, .bl false] ++ [.bl false, .bl false, .bl false]))
      refine ⟨_, rfl, p4, p3, _, _, rfl, rfl, upd_same, g4 _ _ e3, (by show 9 ≤ sizeLine; decide), fun p5 h5 => ?_⟩
      have g5 := same_new h5 (.lst (([.bl false, .bl false, .bl false] ++ [.bl false, .bl false, .bl false]) ++ [.bl false, .bl true, .bl false]))
      replace hE := (hE.same g4).same g5
      refine ⟨_, rfl, a, T.C_UnknownName, some d, .ref T.C_NotWaiting, .ref T.C_NotWaiting, _, rfl, T.x_UnknownName, hE.1, isx (K := K) hE, (fun u r => r), T.k_UnknownName_NotWaiting, (by show 1 ≤ sizeLine; decide), fun p6 h6 => ?_⟩
      have g6 := same_new h6 (.lst [.bl false])
      refine ⟨p5, p6, _, _, rfl, rfl, g6 _ _ upd_same, upd_same, (by show 10 ≤ sizeLine; decide), fun p7 h7 => ?_⟩
      exact k p7 _ (g1.trans (g2.trans (g3.trans (g4.trans (g5.trans (g6.trans (same_new h7 _))))))) (g1.free (g2.free (g3.free (g4.free (g5.free (g6.free h7)))))) upd_same
    · refine ⟨_, rfl, a, T.C_Broken, some d, .ref T.C_BadProgram, .ref T.C_BadProgram, _, rfl, T.x_Broken, hE.1, isx (K := K) hE, (fun u r => r), T.k_Broken_BadProgram, _, rfl, a, T.C_Broken, some d, .ref T.C_BadLine, .ref T.C_BadLine, _, rfl, T.x_Broken, hE.1, isx (K := K) hE, (fun u r => r), T.k_Broken_BadLine, _, rfl, a, T.C_Broken, some d, .ref T.C_BadPrime, .ref T.C_BadPrime, _, rfl, T.x_Broken, hE.1, isx (K := K) hE, (fun u r => r), T.k_Broken_BadPrime, (by show 3 ≤ sizeLine; decide), fun p1 h1 => ?_⟩
      have g1 := same_new h1 (.lst [.bl false, .bl false, .bl false])
      have e1 : upd H p1 (.lst [.bl false, .bl false, .bl false]) p1 = some (.lst [.bl false, .bl false, .bl false]) := upd_same
      replace hE := hE.same g1
      generalize upd H p1 (.lst [.bl false, .bl false, .bl false]) = H1 at g1 e1 hE ⊢
      refine ⟨_, rfl, a, T.C_Broken, some d, .ref T.C_BadShape, .ref T.C_BadShape, _, rfl, T.x_Broken, hE.1, isx (K := K) hE, (fun u r => r), T.k_Broken_BadShape, _, rfl, a, T.C_Broken, some d, .ref T.C_BadBook, .ref T.C_BadBook, _, rfl, T.x_Broken, hE.1, isx (K := K) hE, (fun u r => r), T.k_Broken_BadBook, _, rfl, a, T.C_Broken, some d, .ref T.C_TooMany, .ref T.C_TooMany, _, rfl, T.x_Broken, hE.1, isx (K := K) hE, (fun u r => r), T.k_Broken_TooMany, (by show 3 ≤ sizeLine; decide), fun p2 h2 => ?_⟩
      have g2 := same_new h2 (.lst [.bl false, .bl false, .bl false])
      have e2 : upd H1 p2 (.lst [.bl false, .bl false, .bl false]) p2 = some (.lst [.bl false, .bl false, .bl false]) := upd_same
      replace hE := hE.same g2
      replace e1 := g2 _ _ e1
      generalize upd H1 p2 (.lst [.bl false, .bl false, .bl false]) = H2 at g2 e1 e2 hE ⊢
      refine ⟨_, rfl, a, T.C_Broken, some d, .ref T.C_NotNear, .ref T.C_NotNear, _, rfl, T.x_Broken, hE.1, isx (K := K) hE, (fun u r => r), T.k_Broken_NotNear, _, rfl, a, T.C_Broken, some d, .ref T.C_UnknownName, .ref T.C_UnknownName, _, rfl, T.x_Broken, hE.1, isx (K := K) hE, (fun u r => r), T.k_Broken_UnknownName, _, rfl, a, T.C_Broken, some d, .ref T.C_Broken, .ref T.C_Broken, _, rfl, T.x_Broken, hE.1, isx (K := K) hE, (fun u r => r), T.k_Broken_Broken, (by show 3 ≤ sizeLine; decide), fun p3 h3 => ?_⟩
      have g3 := same_new h3 (.lst [.bl false, .bl false, .bl true])
      have e3 : upd H2 p3 (.lst [.bl false, .bl false, .bl true]) p3 = some (.lst [.bl false, .bl false, .bl true]) := upd_same
      replace hE := hE.same g3
      replace e1 := g3 _ _ e1
      replace e2 := g3 _ _ e2
      generalize upd H2 p3 (.lst [.bl false, .bl false, .bl true]) = H3 at g3 e1 e2 e3 hE ⊢
      refine ⟨_, rfl, _, rfl, p1, p2, _, _, rfl, rfl, e1, e2, (by show 6 ≤ sizeLine; decide), fun p4 h4 => ?_⟩
      have g4 := same_new h4 (.lst ([.bl false, .bl false, .bl false] ++ [.bl false, .bl false, .bl false]))
      refine ⟨_, rfl, p4, p3, _, _, rfl, rfl, upd_same, g4 _ _ e3, (by show 9 ≤ sizeLine; decide), fun p5 h5 => ?_⟩
      have g5 := same_new h5 (.lst (([.bl false, .bl false, .bl false] ++ [.bl false, .bl false, .bl false]) ++ [.bl false, .bl false, .bl true]))
      replace hE := (hE.same g4).same g5
      refine ⟨_, rfl, a, T.C_Broken, some d, .ref T.C_NotWaiting, .ref T.C_NotWaiting, _, rfl, T.x_Broken, hE.1, isx (K := K) hE, (fun u r => r), T.k_Broken_NotWaiting, (by show 1 ≤ sizeLine; decide), fun p6 h6 => ?_⟩
      have g6 := same_new h6 (.lst [.bl false])
      refine ⟨p5, p6, _, _, rfl, rfl, g6 _ _ upd_same, upd_same, (by show 10 ≤ sizeLine; decide), fun p7 h7 => ?_⟩
      exact k p7 _ (g1.trans (g2.trans (g3.trans (g4.trans (g5.trans (g6.trans (same_new h7 _))))))) (g1.free (g2.free (g3.free (g4.free (g5.free (g6.free h7)))))) upd_same
    · refine ⟨_, rfl, a, T.C_NotWaiting, some d, .ref T.C_BadProgram, .ref T.C_BadProgram, _, rfl, T.x_NotWaiting, hE.1, isx (K := K) hE, (fun u r => r), T.k_NotWaiting_BadProgram, _, rfl, a, T.C_NotWaiting, some d, .ref T.C_BadLine, .ref T.C_BadLine, _, rfl, T.x_NotWaiting, hE.1, isx (K := K) hE, (fun u r => r), T.k_NotWaiting_BadLine, _, rfl, a, T.C_NotWaiting, some d, .ref T.C_BadPrime, .ref T.C_BadPrime, _, rfl, T.x_NotWaiting, hE.1, isx (K := K) hE, (fun u r => r), T.k_NotWaiting_BadPrime, (by show 3 ≤ sizeLine; decide), fun p1 h1 => ?_⟩
      have g1 := same_new h1 (.lst [.bl false, .bl false, .bl false])
      have e1 : upd H p1 (.lst [.bl false, .bl false, .bl false]) p1 = some (.lst [.bl false, .bl false, .bl false]) := upd_same
      replace hE := hE.same g1
      generalize upd H p1 (.lst [.bl false, .bl false, .bl false]) = H1 at g1 e1 hE ⊢
      refine ⟨_, rfl, a, T.C_NotWaiting, some d, .ref T.C_BadShape, .ref T.C_BadShape, _, rfl, T.x_NotWaiting, hE.1, isx (K := K) hE, (fun u r => r), T.k_NotWaiting_BadShape, _, rfl, a, T.C_NotWaiting, some d, .ref T.C_BadBook, .ref T.C_BadBook, _, rfl, T.x_NotWaiting, hE.1, isx (K := K) hE, (fun u r => r), T.k_NotWaiting_BadBook, _, rfl, a, T.C_NotWaiting, some d, .ref T.C_TooMany, .ref T.C_TooMany, _, rfl, T.x_NotWaiting, hE.1, isx (K := K) hE, (fun u r => r), T.k_NotWaiting_TooMany, (by show 3 ≤ sizeLine; decide), fun p2 h2 => ?_⟩
      have g2 := same_new h2 (.lst [.bl false, .bl false, .bl false])
      have e2 : upd H1 p2 (.lst [.bl false, .bl false, .bl false]) p2 = some (.lst [.bl false, .bl false, .bl false]) := upd_same
      replace hE := hE.same g2
      replace e1 := g2 _ _ e1
      generalize upd H1 p2 (.lst [.bl false, .bl false, .bl false]) = H2 at g2 e1 e2 hE ⊢
      refine ⟨_, rfl, a, T.C_NotWaiting, some d, .ref T.C_NotNear, .ref T.C_NotNear, _, rfl, T.x_NotWaiting, hE.1, isx (K := K) hE, (fun u r => r), T.k_NotWaiting_NotNear, _, rfl, a, T.C_NotWaiting, some d, .ref T.C_UnknownName, .ref T.C_UnknownName, _, rfl, T.x_NotWaiting, hE.1, isx (K := K) hE, (fun u r => r), T.k_NotWaiting_UnknownName, _, rfl, a, T.C_NotWaiting, some d, .ref T.C_Broken, .ref T.C_Broken, _, rfl, T.x_NotWaiting, hE.1, isx (K := K) hE, (fun u r => r), T.k_NotWaiting_Broken, (by show 3 ≤ sizeLine; decide), fun p3 h3 => ?_⟩
      have g3 := same_new h3 (.lst [.bl false, .bl false, .bl false])
      have e3 : upd H2 p3 (.lst [.bl false, .bl false, .bl false]) p3 = some (.lst [.bl false, .bl false, .bl false]) := upd_same
      replace hE := hE.same g3
      replace e1 := g3 _ _ e1
      replace e2 := g3 _ _ e2
      generalize upd H2 p3 (.lst [.bl false, .bl false, .bl false]) = H3 at g3 e1 e2 e3 hE ⊢
      refine ⟨_, rfl, _, rfl, p1, p2, _, _, rfl, rfl, e1, e2, (by show 6 ≤ sizeLine; decide), fun p4 h4 => ?_⟩
      have g4 := same_new h4 (.lst ([.bl false, .bl false, .bl false] ++ [.bl false, .bl false, .bl false]))
      refine ⟨_, rfl, p4, p3, _, _, rfl, rfl, upd_same, g4 _ _ e3, (by show 9 ≤ sizeLine; decide), fun p5 h5 => ?_⟩
      have g5 := same_new h5 (.lst (([.bl false, .bl false, .bl false] ++ [.bl false, .bl false, .bl false]) ++ [.bl false, .bl false, .bl false]))
      replace hE := (hE.same g4).same g5
      refine ⟨_, rfl, a, T.C_NotWaiting, some d, .ref T.C_NotWaiting, .ref T.C_NotWaiting, _, rfl, T.x_NotWaiting, hE.1, isx (K := K) hE, (fun u r => r), T.k_NotWaiting_NotWaiting, (by show 1 ≤ sizeLine; decide), fun p6 h6 => ?_⟩
      have g6 := same_new h6 (.lst [.bl true])
      refine ⟨p5, p6, _, _, rfl, rfl, g6 _ _ upd_same, upd_same, (by show 10 ≤ sizeLine; decide), fun p7 h7 => ?_⟩
      exact k p7 _ (g1.trans (g2.trans (g3.trans (g4.trans (g5.trans (g6.trans (same_new h7 _))))))) (g1.free (g2.free (g3.free (g4.free (g5.free (g6.free h7)))))) upd_same
end
end K0

set_option maxRecDepth 100000
set_option maxHeartbeats 4000000
namespace K0
open PySem L2

theorem EqV.le {K : PySem.W.Frag} {b : Addr} {H : Hp} {n m : Nat} {x y : V} (h : EqV K b H n x y) (hl : n ≤ m) : EqV K b H m x y := by
  induction hl with
  | refl => exact h
  | step _ ih => exact ih.up
theorem an {P : V → Prop} : ∀ v ∈ ([] : List V), P v := fun _ h => by cases h
theorem ac {P : V → Prop} {x : V} {xs : List V} (h : P x) (t : ∀ v ∈ xs, P v) : ∀ v ∈ x :: xs, P v := fun v hv => by
  rcases List.mem_cons.mp hv with rfl | hv
  · exact h
  · exact t v hv
theorem eq_seq {K : PySem.W.Frag} {b : Addr} {H : Hp} {n : Nat} {p : Addr} {xs : List V} (nb : p ≠ b) (hq : SqL K H p xs ∨ SqT K H p xs) (hl : xs.length ≤ 1000) (hx : ∀ v ∈ xs, EqV K b H n v v) : EqV K b H (n + 1) (.ref p) (.ref p) := by
  refine .inr ⟨p, p, xs, xs, rfl, rfl, nb, nb, ?_, hl, rfl, fun i u v hu hv => ?_⟩
  · rcases hq with h | h
    · exact .inl ⟨h, h⟩
    · exact .inr ⟨h, h⟩
  · have e : u = v := Option.some.inj (hu.symm.trans hv)
    subst e
    exact hx u (List.mem_of_getElem? hu)
theorem tup_new {K : PySem.W.Frag} {b : Addr} {H : Hp} {n : Nat} {p : Addr} {xs : List V} (hp : H p = none) (nb : p ≠ b) (hl : xs.length ≤ 1000) (hx : ∀ v ∈ xs, EqV K b H n v v) : EqV K b (upd H p (.tup xs)) (n + 1) (.ref p) (.ref p) :=
  eq_seq nb (.inr (SqT.of upd_same)) hl fun v hv => (hx v hv).keep (Keep.of_same (same_new hp _))
theorem lst_new {K : PySem.W.Frag} {b : Addr} {H : Hp} {n : Nat} {p : Addr} {xs : List V} (hp : H p = none) (nb : p ≠ b) (hl : xs.length ≤ 1000) (hx : ∀ v ∈ xs, EqV K b H n v v) : EqV K b (upd H p (.lst xs)) (n + 1) (.ref p) (.ref p) :=
  eq_seq nb (.inl (SqL.of upd_same)) hl fun v hv => (hx v hv).keep (Keep.of_same (same_new hp _))
def spAnything (K : PySem.W.Frag) (C : Addr) : Sp := fun vs H Q _ => ∃ (b : Addr), vs = [.ref b] ∧ BoxAt H b ∧ ∀ (v : V) (H' : Hp), BoxAt H' b → Keep b H H' → AnyV K C b H' v → Q v H'
theorem of_any {K : PySem.W.Frag} {C b p : Addr} {H0 H : Hp} {Q : VK} {E : XK} {xs : List V} (hB : BoxAt H b) (hK : Keep b H0 H) (hp : H p = none) (h0 : xs ≠ []) (hl : xs.length ≤ 1000) (hx : ∀ v ∈ xs, EqV K b H 5 v v) (k : ∀ (v : V) (H' : Hp), BoxAt H' b → Keep b H0 H' → AnyV K C b H' v → Q v H') :
    spOf K [.ref b, .ref p] (upd H p (.lst xs)) Q E := by
  have g := same_new hp (.lst xs)
  refine ⟨b, p, xs, rfl, hB.same g, hB.ne hp, SqL.of upd_same, h0, hl, fun i v H' hi hB' hK' => k v H' hB' (hK.trans ((Keep.of_same g).trans hK')) (.inl ?_)⟩
  exact ((hx v (List.mem_of_getElem? hi)).keep (Keep.of_same g)).keep hK'
section
variable {P : Program} {w : World} {K : PySem.W.Frag} {mg : Str → Option Value} {base : Heap}
theorem ok_anything (T : Txt K mg) : FnOk P w K mg base CX0 3 T.f_anything T.fd_anything ["box"] (spAnything K T.C_NotNear) := by
  refine T.F_anything.ok sc_anything (fun vs H Q E h => ?_) (fun cdv A outer s H vs Q E hr h => ?_)
  · obtain ⟨b, rfl, _⟩ := h
    rfl
  · obtain ⟨b, rfl, hB, k⟩ := h
    refine ⟨_, (pss_cons (ps_set (i := 1) sc_anything.nd rfl (Or.inl rfl) (pe_call (ok_draw T) (hr.mono (by decide)) (by rfl) T.g_draw T.F_draw.kp T.b_draw .nil pass0 (pa_cons (pv 0) (pa_cons pe_int pa_nil))))
      (pss_cons (ps_if (pt_cmpR op_lt (pv 1) pe_int (nomark _)) (pss_one (ps_ret (pe_ix ix_list (pe_lst (pa_cons pe_non (pa_cons pe_bl (pa_cons pe_bl pa_nil)))) (pv 1) (fun _ _ => rfl)))) pss_nil)
      (pss_cons (ps_if (pt_cmpR op_lt (pv 1) pe_int (nomark _)) (pss_one (ps_ret (pe_call (ok_of T) (hr.mono (by decide)) (by rfl) T.g_of T.F_of.kp T.b_of .nil pass0 (pa_cons (pv 0) (pa_cons (pe_lst (pa_cons pe_str (pa_cons pe_str (pa_cons pe_str (pa_cons pe_str (pa_cons pe_str (pa_cons pe_str (pa_cons pe_str pa_nil)))))))) pa_nil))))) pss_nil)
      (pss_cons (ps_if (pt_cmpR op_lt (pv 1) pe_int (nomark _)) (pss_one (ps_ret (pe_call (ok_of T) (hr.mono (by decide)) (by rfl) T.g_of T.F_of.kp T.b_of .nil pass0 (pa_cons (pv 0) (pa_cons (pe_lst (pa_cons (pe_tup pa_nil) (pa_cons (pe_tup (pa_cons pe_int (pa_cons pe_int pa_nil))) (pa_cons (pe_tup (pa_cons pe_int (pa_cons pe_int (pa_cons (pe_tup (pa_cons pe_non (pa_cons pe_str pa_nil))) pa_nil)))) (pa_cons (pe_tup (pa_cons pe_bl pa_nil)) (pa_cons (pe_tup (pa_cons (pe_tup (pa_cons pe_int (pa_cons pe_int pa_nil))) (pa_cons (pe_tup (pa_cons pe_int pa_nil)) pa_nil))) pa_nil)))))) pa_nil))))) pss_nil)
      (pss_cons (ps_if (pt_cmpR op_lt (pv 1) pe_int (nomark _)) (pss_one (ps_ret (pe_call (ok_of T) (hr.mono (by decide)) (by rfl) T.g_of T.F_of.kp T.b_of .nil pass0 (pa_cons (pv 0) (pa_cons (pe_lst (pa_cons (pe_lst pa_nil) (pa_cons (pe_lst (pa_cons pe_int pa_nil)) (pa_cons (pe_lst (pa_cons pe_int (pa_cons (pe_lst (pa_cons pe_int (pa_cons (pe_lst pa_nil) pa_nil))) pa_nil))) (pa_cons (pe_lst (pa_cons pe_non pa_nil)) (pa_cons (pe_lst (pa_cons (pe_tup (pa_cons pe_int (pa_cons pe_int pa_nil))) pa_nil)) pa_nil)))))) pa_nil))))) pss_nil)
      (pss_cons (ps_if (pt_cmpR op_eq (pv 1) pe_int (nomark _)) (pss_one (ps_ret (pe_mkX T.x_NotNear T.iC_NotNear T.tI_NotNear (ok_iNotNear T) (hr.mono (by decide)) T.bI_NotNear (by rfl) T.gC_NotNear (pa_cons (pe_call (ok_draw T) (hr.mono (by decide)) (by rfl) T.g_draw T.F_draw.kp T.b_draw .nil pass0 (pa_cons (pv 0) (pa_cons pe_int pa_nil))) pa_nil)))) pss_nil)
      (pss_cons (ps_if (pt_cmpR op_lt (pv 1) pe_int (nomark _)) (pss_one (ps_ret (pe_call (ok_of T) (hr.mono (by decide)) (by rfl) T.g_of T.F_of.kp T.b_of .nil pass0 (pa_cons (pv 0) (pa_cons (pe_lst (pa_cons pe_int (pa_cons pe_int (pa_cons pe_int (pa_cons pe_int (pa_cons pe_int (pa_cons pe_int (pa_cons pe_int (pa_cons pe_int (pa_cons pe_int (pa_cons pe_int (pa_cons pe_int (pa_cons pe_int pa_nil))))))))))))) pa_nil))))) pss_nil)
      (pss_cons (ps_if (pt_cmpR op_eq (pv 1) pe_int (nomark _)) (pss_one (ps_ret (pe_op op_sub (pe_call (ok_draw T) (hr.mono (by decide)) (by rfl) T.g_draw T.F_draw.kp T.b_draw .nil pass0 (pa_cons (pv 0) (pa_cons pe_int pa_nil))) pe_int))) pss_nil)
      (pss_one (ps_ret (pe_call (ok_number T) (hr.mono (by decide)) (by rfl) T.g_number T.F_number.kp T.b_number .nil pass0 (pa_cons (pv 0) (pa_cons (pe_call (ok_of T) (hr.mono (by decide)) (by rfl) T.g_of T.F_of.kp T.b_of .nil pass0 (pa_cons (pv 0) (pa_cons (pe_lst (pa_cons pe_int (pa_cons pe_int (pa_cons pe_int (pa_cons pe_int pa_nil))))) pa_nil))) pa_nil))))))))))))), ?_⟩
    refine ⟨_, rfl, b, _, rfl, by decide, by decide, hB, fun d H1 d0 d1 hB1 hK1 => ?_⟩
    refine ⟨_, rfl, _, _, rfl, rfl, _, rfl, ite2 (fun c => ?_) (fun c => ?_)⟩
    · have d3 : d < 3 := of_decide_eq_true c
      refine ⟨(by show 3 ≤ sizeLine; decide), fun p hp => ?_⟩
      have g := same_new hp (.lst [.non, .bl true, .bl false])
      have fin : ∀ v : V, Sc v → Q v (upd H1 p (.lst [.non, .bl true, .bl false])) := fun v hv => k v _ (hB1.same g) (hK1.trans (Keep.of_same g)) (.inl (EqV.sc hv))
      rcases (show d = 0 ∨ d = 1 ∨ d = 2 by omega) with rfl | rfl | rfl
      · exact ⟨_, rfl, p, _, _, _, rfl, rfl, SqL.of upd_same, rfl, fin .non trivial⟩
      · exact ⟨_, rfl, p, _, _, _, rfl, rfl, SqL.of upd_same, rfl, fin (.bl true) trivial⟩
      · exact ⟨_, rfl, p, _, _, _, rfl, rfl, SqL.of upd_same, rfl, fin (.bl false) trivial⟩
    refine ⟨_, rfl, _, _, rfl, rfl, _, rfl, ite2 (fun c => ?_) (fun c => ?_)⟩
    · refine ⟨_, rfl, ?_⟩
      exact ⟨(by show 7 ≤ sizeLine; decide), fun q hq => of_any (E := E0) hB1 hK1 hq (by simp) (by simp) (ac ((EqV.sc (x := .str "") trivial)) (ac ((EqV.sc (x := .str "4") trivial)) (ac ((EqV.sc (x := .str "193") trivial)) (ac ((EqV.sc (x := .str "a") trivial)) (ac ((EqV.sc (x := .str "step") trivial)) (ac ((EqV.sc (x := .str "None") trivial)) (ac ((EqV.sc (x := .str "(257, 5)") trivial)) an))))))) k⟩
    refine ⟨_, rfl, _, _, rfl, rfl, _, rfl, ite2 (fun c => ?_) (fun c => ?_)⟩
    · refine ⟨_, rfl, ?_⟩
      refine ⟨(by show 0 ≤ sizeLine; decide), fun q1 hq1 => ?_⟩
      have gq1 := same_new hq1 (.tup [])
      have fq1 : EqV K b (upd H1 q1 (.tup [])) 1 (.ref q1) (.ref q1) := tup_new hq1 (hB1.ne hq1) (by simp) an
      have hKq1 := hK1.trans (Keep.of_same gq1)
      have hBq1 := hB1.same gq1
      generalize upd H1 q1 (.tup []) = Hq1 at gq1 fq1 hBq1  hKq1 ⊢
      refine ⟨(by show 2 ≤ sizeLine; decide), fun q2 hq2 => ?_⟩
      have gq2 := same_new hq2 (.tup [.int 193, .int 5])
      have fq2 : EqV K b (upd Hq1 q2 (.tup [.int 193, .int 5])) 1 (.ref q2) (.ref q2) := tup_new hq2 (hBq1.ne hq2) (by simp) (ac ((eqI 193)) (ac ((eqI 5)) an))
      replace fq1 := fq1.keep (Keep.of_same gq2)
      have hKq2 := hKq1.trans (Keep.of_same gq2)
      have hBq2 := hBq1.same gq2
      generalize upd Hq1 q2 (.tup [.int 193, .int 5]) = Hq2 at gq2 fq2 hBq2 fq1 hKq2 ⊢
      refine ⟨(by show 2 ≤ sizeLine; decide), fun q3 hq3 => ?_⟩
      have gq3 := same_new hq3 (.tup [.non, .str "x"])
      have fq3 : EqV K b (upd Hq2 q3 (.tup [.non, .str "x"])) 1 (.ref q3) (.ref q3) := tup_new hq3 (hBq2.ne hq3) (by simp) (ac ((EqV.sc (x := .non) trivial)) (ac ((EqV.sc (x := .str "x") trivial)) an))
      replace fq1 := fq1.keep (Keep.of_same gq3)
      replace fq2 := fq2.keep (Keep.of_same gq3)
      have hKq3 := hKq2.trans (Keep.of_same gq3)
      have hBq3 := hBq2.same gq3
      generalize upd Hq2 q3 (.tup [.non, .str "x"]) = Hq3 at gq3 fq3 hBq3 fq1 fq2 hKq3 ⊢
      refine ⟨(by show 3 ≤ sizeLine; decide), fun q4 hq4 => ?_⟩
      have gq4 := same_new hq4 (.tup [.int 4, .int 8, .ref q3])
      have fq4 : EqV K b (upd Hq3 q4 (.tup [.int 4, .int 8, .ref q3])) 2 (.ref q4) (.ref q4) := tup_new hq4 (hBq3.ne hq4) (by simp) (ac ((eqI 4)) (ac ((eqI 8)) (ac (fq3) an)))
      replace fq1 := fq1.keep (Keep.of_same gq4)
      replace fq2 := fq2.keep (Keep.of_same gq4)
      replace fq3 := fq3.keep (Keep.of_same gq4)
      have hKq4 := hKq3.trans (Keep.of_same gq4)
      have hBq4 := hBq3.same gq4
      generalize upd Hq3 q4 (.tup [.int 4, .int 8, .ref q3]) = Hq4 at gq4 fq4 hBq4 fq1 fq2 fq3 hKq4 ⊢
      refine ⟨(by show 1 ≤ sizeLine; decide), fun q5 hq5 => ?_⟩
      have gq5 := same_new hq5 (.tup [.bl true])
      have fq5 : EqV K b (upd Hq4 q5 (.tup [.bl true])) 1 (.ref q5) (.ref q5) := tup_new hq5 (hBq4.ne hq5) (by simp) (ac ((EqV.sc (x := .bl true) trivial)) an)
      replace fq1 := fq1.keep (Keep.of_same gq5)
      replace fq2 := fq2.keep (Keep.of_same gq5)
      replace fq3 := fq3.keep (Keep.of_same gq5)
      replace fq4 := fq4.keep (Keep.of_same gq5)
      have hKq5 := hKq4.trans (Keep.of_same gq5)
      have hBq5 := hBq4.same gq5
      generalize upd Hq4 q5 (.tup [.bl true]) = Hq5 at gq5 fq5 hBq5 fq1 fq2 fq3 fq4 hKq5 ⊢
      refine ⟨(by show 2 ≤ sizeLine; decide), fun q6 hq6 => ?_⟩
      have gq6 := same_new hq6 (.tup [.int 1, .int 2])
      have fq6 : EqV K b (upd Hq5 q6 (.tup [.int 1, .int 2])) 1 (.ref q6) (.ref q6) := tup_new hq6 (hBq5.ne hq6) (by simp) (ac ((eqI 1)) (ac ((eqI 2)) an))
      replace fq1 := fq1.keep (Keep.of_same gq6)
      replace fq2 := fq2.keep (Keep.of_same gq6)
      replace fq3 := fq3.keep (Keep.of_same gq6)
      replace fq4 := fq4.keep (Keep.of_same gq6)
      replace fq5 := fq5.keep (Keep.of_same gq6)
      have hKq6 := hKq5.trans (Keep.of_same gq6)
      have hBq6 := hBq5.same gq6
      generalize upd Hq5 q6 (.tup [.int 1, .int 2]) = Hq6 at gq6 fq6 hBq6 fq1 fq2 fq3 fq4 fq5 hKq6 ⊢
      refine ⟨(by show 1 ≤ sizeLine; decide), fun q7 hq7 => ?_⟩
      have gq7 := same_new hq7 (.tup [.int 3])
      have fq7 : EqV K b (upd Hq6 q7 (.tup [.int 3])) 1 (.ref q7) (.ref q7) := tup_new hq7 (hBq6.ne hq7) (by simp) (ac ((eqI 3)) an)
      replace fq1 := fq1.keep (Keep.of_same gq7)
      replace fq2 := fq2.keep (Keep.of_same gq7)
      replace fq3 := fq3.keep (Keep.of_same gq7)
      replace fq4 := fq4.keep (Keep.of_same gq7)
      replace fq5 := fq5.keep (Keep.of_same gq7)
      replace fq6 := fq6.keep (Keep.of_same gq7)
      have hKq7 := hKq6.trans (Keep.of_same gq7)
      have hBq7 := hBq6.same gq7
      generalize upd Hq6 q7 (.tup [.int 3]) = Hq7 at gq7 fq7 hBq7 fq1 fq2 fq3 fq4 fq5 fq6 hKq7 ⊢
      refine ⟨(by show 2 ≤ sizeLine; decide), fun q8 hq8 => ?_⟩
      have gq8 := same_new hq8 (.tup [.ref q6, .ref q7])
      have fq8 : EqV K b (upd Hq7 q8 (.tup [.ref q6, .ref q7])) 2 (.ref q8) (.ref q8) := tup_new hq8 (hBq7.ne hq8) (by simp) (ac (fq6) (ac (fq7) an))
      replace fq1 := fq1.keep (Keep.of_same gq8)
      replace fq2 := fq2.keep (Keep.of_same gq8)
      replace fq3 := fq3.keep (Keep.of_same gq8)
      replace fq4 := fq4.keep (Keep.of_same gq8)
      replace fq5 := fq5.keep (Keep.of_same gq8)
      replace fq6 := fq6.keep (Keep.of_same gq8)
      replace fq7 := fq7.keep (Keep.of_same gq8)
      have hKq8 := hKq7.trans (Keep.of_same gq8)
      have hBq8 := hBq7.same gq8
      generalize upd Hq7 q8 (.tup [.ref q6, .ref q7]) = Hq8 at gq8 fq8 hBq8 fq1 fq2 fq3 fq4 fq5 fq6 fq7 hKq8 ⊢
      exact ⟨(by show 5 ≤ sizeLine; decide), fun q hq => of_any (E := E0) hBq8 hKq8 hq (by simp) (by simp) (ac (fq1.le (by decide)) (ac (fq2.le (by decide)) (ac (fq4.le (by decide)) (ac (fq5.le (by decide)) (ac (fq8.le (by decide)) an))))) k⟩
    refine ⟨_, rfl, _, _, rfl, rfl, _, rfl, ite2 (fun c => ?_) (fun c => ?_)⟩
    · refine ⟨_, rfl, ?_⟩
      refine ⟨(by show 0 ≤ sizeLine; decide), fun q10 hq10 => ?_⟩
      have gq10 := same_new hq10 (.lst [])
      have fq10 : EqV K b (upd H1 q10 (.lst [])) 1 (.ref q10) (.ref q10) := lst_new hq10 (hB1.ne hq10) (by simp) an
      have hKq10 := hK1.trans (Keep.of_same gq10)
      have hBq10 := hB1.same gq10
      generalize upd H1 q10 (.lst []) = Hq10 at gq10 fq10 hBq10  hKq10 ⊢
      refine ⟨(by show 1 ≤ sizeLine; decide), fun q11 hq11 => ?_⟩
      have gq11 := same_new hq11 (.lst [.int 4])
      have fq11 : EqV K b (upd Hq10 q11 (.lst [.int 4])) 1 (.ref q11) (.ref q11) := lst_new hq11 (hBq10.ne hq11) (by simp) (ac ((eqI 4)) an)
      replace fq10 := fq10.keep (Keep.of_same gq11)
      have hKq11 := hKq10.trans (Keep.of_same gq11)
      have hBq11 := hBq10.same gq11
      generalize upd Hq10 q11 (.lst [.int 4]) = Hq11 at gq11 fq11 hBq11 fq10 hKq11 ⊢
      refine ⟨(by show 0 ≤ sizeLine; decide), fun q12 hq12 => ?_⟩
      have gq12 := same_new hq12 (.lst [])
      have fq12 : EqV K b (upd Hq11 q12 (.lst [])) 1 (.ref q12) (.ref q12) := lst_new hq12 (hBq11.ne hq12) (by simp) an
      replace fq10 := fq10.keep (Keep.of_same gq12)
      replace fq11 := fq11.keep (Keep.of_same gq12)
      have hKq12 := hKq11.trans (Keep.of_same gq12)
      have hBq12 := hBq11.same gq12
      generalize upd Hq11 q12 (.lst []) = Hq12 at gq12 fq12 hBq12 fq10 fq11 hKq12 ⊢
      refine ⟨(by show 2 ≤ sizeLine; decide), fun q13 hq13 => ?_⟩
      have gq13 := same_new hq13 (.lst [.int 4, .ref q12])
      have fq13 : EqV K b (upd Hq12 q13 (.lst [.int 4, .ref q12])) 2 (.ref q13) (.ref q13) := lst_new hq13 (hBq12.ne hq13) (by simp) (ac ((eqI 4)) (ac (fq12) an))
      replace fq10 := fq10.keep (Keep.of_same gq13)
      replace fq11 := fq11.keep (Keep.of_same gq13)
      replace fq12 := fq12.keep (Keep.of_same gq13)
      have hKq13 := hKq12.trans (Keep.of_same gq13)
      have hBq13 := hBq12.same gq13
      generalize upd Hq12 q13 (.lst [.int 4, .ref q12]) = Hq13 at gq13 fq13 hBq13 fq10 fq11 fq12 hKq13 ⊢
      refine ⟨(by show 2 ≤ sizeLine; decide), fun q14 hq14 => ?_⟩
      have gq14 := same_new hq14 (.lst [.int 257, .ref q13])
      have fq14 : EqV K b (upd Hq13 q14 (.lst [.int 257, .ref q13])) 3 (.ref q14) (.ref q14) := lst_new hq14 (hBq13.ne hq14) (by simp) (ac ((eqI 257)) (ac (fq13) an))
      replace fq10 := fq10.keep (Keep.of_same gq14)
      replace fq11 := fq11.keep (Keep.of_same gq14)
      replace fq12 := fq12.keep (Keep.of_same gq14)
      replace fq13 := fq13.keep (Keep.of_same gq14)
      have hKq14 := hKq13.trans (Keep.of_same gq14)
      have hBq14 := hBq13.same gq14
      generalize upd Hq13 q14 (.lst [.int 257, .ref q13]) = Hq14 at gq14 fq14 hBq14 fq10 fq11 fq12 fq13 hKq14 ⊢
      refine ⟨(by show 1 ≤ sizeLine; decide), fun q15 hq15 => ?_⟩
      have gq15 := same_new hq15 (.lst [.non])
      have fq15 : EqV K b (upd Hq14 q15 (.lst [.non])) 1 (.ref q15) (.ref q15) := lst_new hq15 (hBq14.ne hq15) (by simp) (ac ((EqV.sc (x := .non) trivial)) an)
      replace fq10 := fq10.keep (Keep.of_same gq15)
      replace fq11 := fq11.keep (Keep.of_same gq15)
      replace fq12 := fq12.keep (Keep.of_same gq15)
      replace fq13 := fq13.keep (Keep.of_same gq15)
      replace fq14 := fq14.keep (Keep.of_same gq15)
      have hKq15 := hKq14.trans (Keep.of_same gq15)
      have hBq15 := hBq14.same gq15
      generalize upd Hq14 q15 (.lst [.non]) = Hq15 at gq15 fq15 hBq15 fq10 fq11 fq12 fq13 fq14 hKq15 ⊢
      refine ⟨(by show 2 ≤ sizeLine; decide), fun q16 hq16 => ?_⟩
      have gq16 := same_new hq16 (.tup [.int 193, .int 5])
      have fq16 : EqV K b (upd Hq15 q16 (.tup [.int 193, .int 5])) 1 (.ref q16) (.ref q16) := tup_new hq16 (hBq15.ne hq16) (by simp) (ac ((eqI 193)) (ac ((eqI 5)) an))
      replace fq10 := fq10.keep (Keep.of_same gq16)
      replace fq11 := fq11.keep (Keep.of_same gq16)
      replace fq12 := fq12.keep (Keep.of_same gq16)
      replace fq13 := fq13.keep (Keep.of_same gq16)
      replace fq14 := fq14.keep (Keep.of_same gq16)
      replace fq15 := fq15.keep (Keep.of_same gq16)
      have hKq16 := hKq15.trans (Keep.of_same gq16)
      have hBq16 := hBq15.same gq16
      generalize upd Hq15 q16 (.tup [.int 193, .int 5]) = Hq16 at gq16 fq16 hBq16 fq10 fq11 fq12 fq13 fq14 fq15 hKq16 ⊢
      refine ⟨(by show 1 ≤ sizeLine; decide), fun q17 hq17 => ?_⟩
      have gq17 := same_new hq17 (.lst [.ref q16])
      have fq17 : EqV K b (upd Hq16 q17 (.lst [.ref q16])) 2 (.ref q17) (.ref q17) := lst_new hq17 (hBq16.ne hq17) (by simp) (ac (fq16) an)
      replace fq10 := fq10.keep (Keep.of_same gq17)
      replace fq11 := fq11.keep (Keep.of_same gq17)
      replace fq12 := fq12.keep (Keep.of_same gq17)
      replace fq13 := fq13.keep (Keep.of_same gq17)
      replace fq14 := fq14.keep (Keep.of_same gq17)
      replace fq15 := fq15.keep (Keep.of_same gq17)
      replace fq16 := fq16.keep (Keep.of_same gq17)
      have hKq17 := hKq16.trans (Keep.of_same gq17)
      have hBq17 := hBq16.same gq17
      generalize upd Hq16 q17 (.lst [.ref q16]) = Hq17 at gq17 fq17 hBq17 fq10 fq11 fq12 fq13 fq14 fq15 fq16 hKq17 ⊢
      exact ⟨(by show 5 ≤ sizeLine; decide), fun q hq => of_any (E := E0) hBq17 hKq17 hq (by simp) (by simp) (ac (fq10.le (by decide)) (ac (fq11.le (by decide)) (ac (fq14.le (by decide)) (ac (fq15.le (by decide)) (ac (fq17.le (by decide)) an))))) k⟩
    refine ⟨_, rfl, rfl, _, rfl, ite2 (fun c => ?_) (fun c => ?_)⟩
    · refine ⟨_, rfl, b, _, rfl, by decide, by decide, hB1, fun n H2 n0 n1 hB2 hK2 => ⟨(by show 1 ≤ 1000; decide), mk_rd rfl (fun a dd H' g ha hd hE => ?_)⟩⟩
      exact k _ H' (hB2.same g) (hK1.trans (hK2.trans (Keep.of_same g))) (.inr ⟨a, dd, _, rfl, hB2.ne ha, hB2.ne hd, hE.1, hE.2⟩)
    refine ⟨_, rfl, _, _, rfl, rfl, _, rfl, ite2 (fun c => ?_) (fun c => ?_)⟩
    · refine ⟨_, rfl, ?_⟩
      exact ⟨(by show 12 ≤ sizeLine; decide), fun q hq => of_any (E := E0) hB1 hK1 hq (by simp) (by simp) (ac ((eqI 193)) (ac ((eqI 257)) (ac ((eqI 769)) (ac ((eqI 7681)) (ac ((eqI 12289)) (ac ((eqI 998244353)) (ac ((eqI 2013265921)) (ac ((eqI 4)) (ac ((eqI 8)) (ac ((eqI 16)) (ac ((eqI 32)) (ac ((eqI 64)) an)))))))))))) k⟩
    refine ⟨_, rfl, rfl, _, rfl, ite2 (fun c => ?_) (fun c => ?_)⟩
    · refine ⟨_, rfl, b, _, rfl, by decide, by decide, hB1, fun n H2 n0 n1 hB2 hK2 => ⟨_, _, rfl, rfl, ?_⟩⟩
      exact k _ H2 hB2 (hK1.trans hK2) (anyI _)
    refine ⟨_, rfl, _, rfl, (by show 4 ≤ sizeLine; decide), fun p hp => ?_⟩
    have g := same_new hp (.lst [.int 97, .int 193, .int 257, .int 769])
    refine ⟨b, p, _, rfl, hB1.same g, hB1.ne hp, SqL.of upd_same, by simp, by decide, fun i v H' hi hB' hK' => ?_⟩
    obtain ⟨n, hn, rfl⟩ := ints_of (l := [97, 193, 257, 769]) hi
    have n0 : 0 < n ∧ n < 10000000000 := by
      simp only [List.mem_cons, List.not_mem_nil, or_false] at hn
      omega
    exact ⟨b, n, rfl, hB', n0.1, n0.2, fun m H2 m0 m1 hB2 hK2 => k _ H2 hB2 (hK1.trans ((Keep.of_same g).trans (hK'.trans hK2))) (anyI _)⟩
end
end K0

set_option maxRecDepth 100000
set_option maxHeartbeats 4000000
namespace K0
open PySem L2

theorem root_mem {p r : Int} (h : rootOf p = some r) : r ∈ [5, 3, 11, 17, 31] := by
  unfold rootOf at h
  cases e : listedP.find? fun kv => decide (kv.1 = p) with
  | none => rw [e] at h; cases h
  | some kv =>
    rw [e] at h
    have e2 : kv.2 = r := Option.some.inj h
    have hm := List.mem_of_find?_eq_some e
    rw [← e2]
    simp only [listedP, List.mem_cons, List.not_mem_nil, or_false] at hm
    rcases hm with rfl | rfl | rfl | rfl | rfl | rfl | rfl <;> decide
def dueL (x : V) : List Int := match x with | .int i => (rootOf i).toList | _ => []
def keepP (x : V) (kv : Int × Int) : Bool := match x with | .int i => decide (kv.1 = i) | _ => false
theorem dueL_eq (x : V) : (listedP.filter (keepP x)).map (·.2) = dueL x := by
  cases x with
  | int i =>
    show (listedP.filter fun kv => decide (kv.1 = i)).map (·.2) = (rootOf i).toList
    unfold rootOf listedP
    by_cases h1 : 193 = i
    · subst h1; decide
    by_cases h2 : 257 = i
    · subst h2; decide
    by_cases h3 : 769 = i
    · subst h3; decide
    by_cases h4 : 7681 = i
    · subst h4; decide
    by_cases h5 : 12289 = i
    · subst h5; decide
    by_cases h6 : 998244353 = i
    · subst h6; decide
    by_cases h7 : 2013265921 = i
    · subst h7; decide
    simp [h1, h2, h3, h4, h5, h6, h7]
  | _ => rfl
theorem filter_take {i : Nat} {x : V} {kv : Int × Int} (h : listedP[i]? = some kv) : ((listedP.take (i + 1)).filter (keepP x)).map (fun kv => V.int kv.2) = if keepP x kv = true then ((listedP.take i).filter (keepP x)).map (fun kv => V.int kv.2) ++ [V.int kv.2] else ((listedP.take i).filter (keepP x)).map (fun kv => V.int kv.2) := by
  rw [List.take_add_one, h, List.filter_append, List.map_append]
  by_cases c : keepP x kv = true
  · rw [if_pos c]
    simp [c]
  · rw [if_neg c]
    simp [c]
theorem ne_due {K : PySem.W.Frag} {H : Hp} {D e : Addr} {x : V} {Q : VK} (h1 : H D = some (.lst ((dueL x).map V.int))) (h2 : H e = some (.lst [])) (q : Q (.bl (!(dueL x).isEmpty)) H) : rNeD K (.ref D) (.ref e) H Q := by
  cases er : dueL x with
  | nil =>
    rw [er] at h1 q
    exact ⟨.list [], .list [], .lst (SqL.of h1) .nil, .lst (SqL.of h2) .nil, rfl, rfl, q⟩
  | cons r rs =>
    have : rs = [] ∧ ∃ p, rootOf p = some r := by
      cases x with
      | int i =>
        have er' : (rootOf i).toList = r :: rs := er
        cases e2 : rootOf i with
        | none => rw [e2] at er'; cases er'
        | some z =>
          rw [e2] at er'
          cases er'
          exact ⟨rfl, i, e2⟩
      | _ => cases er
    obtain ⟨rfl, p, hp⟩ := this
    have hm := root_mem hp
    rw [er] at h1 q
    refine ⟨.list [.int r], .list [], .lst (SqL.of h1) (.cons (.int r) .nil), .lst (SqL.of h2) .nil, ?_, rfl, q⟩
    simp only [List.mem_cons, List.not_mem_nil, or_false] at hm
    rcases hm with rfl | rfl | rfl | rfl | rfl <;> decide
theorem ask2 {K : PySem.W.Frag} {mg : Str → Option Value} (T : Txt K mg) {b : Addr} {H : Hp} {x : V} (h : AnyV K T.C_NotNear b H x) :
    (EqV K b H 5 x x ∧ ∀ Q : VK, Q (.bl false) H → rIsi K [x, .ref T.C_NotNear] H Q ∨ rIsX K [x, .ref T.C_NotNear] H Q) ∨ (∀ Q : VK, Q (.bl true) H → rIsi K [x, .ref T.C_NotNear] H Q ∨ rIsX K [x, .ref T.C_NotNear] H Q) := by
  rcases h with h | ⟨a, d, fs, rfl, n1, n2, h1, h2⟩
  · obtain ⟨k, hk, ty, i1, i2⟩ := h.kd
    refine .inl ⟨h, fun Q q => .inl ⟨x, .ref T.C_NotNear, _, _, false, rfl, .own _, ty, ?_, q⟩⟩
    simp only [kinds, List.mem_cons, List.not_mem_nil, or_false] at hk
    rcases hk with rfl | rfl | rfl | rfl | rfl | rfl
    · exact T.k_NoneType_NotNear
    · exact T.k_bool_NotNear
    · exact T.k_int_NotNear
    · exact T.k_str_NotNear
    · exact T.k_list_NotNear
    · exact T.k_tuple_NotNear
  · exact .inr fun Q q => .inr ⟨a, _, _, .ref T.C_NotNear, .ref T.C_NotNear, true, rfl, T.x_NotNear, h1, fun dx e => ⟨fs, by cases e; exact h2⟩, fun u r => r, T.k_NotNear_NotNear, q⟩
theorem isN_int {i lo hi : Int} : isN (.int i) lo hi = (decide (lo ≤ i) && decide (i ≤ hi)) := rfl
theorem root_due {x : V} {i r : Int} (e : x = .int i) (h : rootOf i = some r) : dueL x = [r] := by
  subst e
  show (rootOf i).toList = [r]
  rw [h]
  rfl
theorem due_none {x : V} (h : ∀ i, x = .int i → rootOf i = none) : dueL x = [] := by
  cases x with
  | int i =>
    show (rootOf i).toList = []
    rw [h i rfl]
    rfl
  | _ => rfl
theorem eqB {K : PySem.W.Frag} {b : Addr} {H : Hp} {n : Nat} (i : Bool) : EqV K b H n (.bl i) (.bl i) := EqV.sc (x := .bl i) trivial
section
variable {P : Program} {w : World} {K : PySem.W.Frag} {mg : Str → Option Value} {base : Heap}
theorem ok_numbers (T : Txt K mg) : FnOk P w K mg base CX0 9 T.f_numbers T.fd_numbers ["box"] (spYes) := by
  refine T.F_numbers.ok sc_numbers (fun vs H Q E h => ?_) (fun cdv A outer s H vs Q E hr h => ?_)
  · obtain ⟨b, rfl, _⟩ := h
    rfl
  · obtain ⟨b, rfl, hB, k⟩ := h
    refine ⟨_, (pss_cons (ps_for PassesOwn.never rfl (pi_range1 (by rfl) T.z_range (pa_cons pe_int pa_nil)) (pg_name (i := 1) sc_numbers.nd rfl (Or.inl rfl)) (pss_cons (ps_set (i := 2) sc_numbers.nd rfl (Or.inl rfl) (pe_call (ok_anything T) (hr.mono (by decide)) (by rfl) T.g_anything T.F_anything.kp T.b_anything .nil pass0 (pa_cons (pv 0) pa_nil)))
      (pss_cons (ps_set (i := 3) sc_numbers.nd rfl (Or.inl rfl) (pe_callB (call_max2 rfl) (by rfl) T.z_max (by decide +kernel) (pa_cons (pe_un un_neg pe_int) (pa_cons (pe_callB (call_min2 rfl) (by rfl) T.z_min (by decide +kernel) (pa_cons pe_int (pa_cons (pe_call (ok_number T) (hr.mono (by decide)) (by rfl) T.g_number T.F_number.kp T.b_number .nil pass0 (pa_cons (pv 0) (pa_cons pe_int pa_nil))) pa_nil))) pa_nil))))
      (pss_cons (ps_set (i := 4) sc_numbers.nd rfl (Or.inl rfl) (pe_op op_sub (pe_op op_add (pv 3) (pe_call (ok_draw T) (hr.mono (by decide)) (by rfl) T.g_draw T.F_draw.kp T.b_draw .nil pass0 (pa_cons (pv 0) (pa_cons pe_int pa_nil)))) pe_int))
      (C8.pss_cut (ps_if (pt_cmpR op_eq (pe_call (ok_draw T) (hr.mono (by decide)) (by rfl) T.g_draw T.F_draw.kp T.b_draw .nil pass0 (pa_cons (pv 0) (pa_cons pe_int pa_nil))) pe_int (nomark _)) (pss_one (ps_set (i := 4) sc_numbers.nd rfl (Or.inl rfl) (pe_call (ok_number T) (hr.mono (by decide)) (by rfl) T.g_number T.F_number.kp T.b_number .nil pass0 (pa_cons (pv 0) (pa_cons pe_int pa_nil))))) pss_nil)
      (C8.pss_cut (ps_if (pt_cmpR op_eq (pe_call (ok_draw T) (hr.mono (by decide)) (by rfl) T.g_draw T.F_draw.kp T.b_draw .nil pass0 (pa_cons (pv 0) (pa_cons pe_int pa_nil))) pe_int (nomark _)) (pss_one (ps_set (i := 2) sc_numbers.nd rfl (Or.inl rfl) (pe_call (ok_of T) (hr.mono (by decide)) (by rfl) T.g_of T.F_of.kp T.b_of .nil pass0 (pa_cons (pv 0) (pa_cons (pe_lst (pa_cons (pe_op op_sub (pv 3) pe_int) (pa_cons (pv 3) (pa_cons (pv 4) (pa_cons (pe_callB (call_min2 rfl) (by rfl) T.z_min (by decide +kernel) (pa_cons pe_int (pa_cons (pe_op op_add (pv 4) pe_int) pa_nil))) pa_nil))))) pa_nil))))) pss_nil)
      (C8.pss_cut (ps_set (i := 5) sc_numbers.nd rfl (Or.inl rfl) (pe_and (pe_call (ok_is_plain T) (hr.mono (by decide)) (by rfl) T.g_is_plain T.F_is_plain.kp T.b_is_plain .nil pass0 (pa_cons (pv 2) pa_nil)) (pe_one (pe_chain op_le op_le (pv 3) (pv 2) (pv 4)))))
      (pss_cons (ps_if (pt_not (pt_val (pe_call (ok_same T 8) (hr.mono (by decide)) (by rfl) T.g_same T.F_same.kp T.b_same .nil pass0 (pa_cons (pe_call (ok_is_number T) (hr.mono (by decide)) (by rfl) T.g_is_number T.F_is_number.kp T.b_is_number .nil pass0 (pa_cons (pv 2) (pa_cons (pv 3) (pa_cons (pv 4) pa_nil)))) (pa_cons (pv 5) pa_nil))))) (pss_one (ps_ret pe_bl)) pss_nil)
      (pss_cons (ps_if (pt_not (pt_val (pe_call (ok_same T 8) (hr.mono (by decide)) (by rfl) T.g_same T.F_same.kp T.b_same .nil pass0 (pa_cons (pe_callN0 (ok_is_number T) (hr.mono (by decide)) (by rfl) T.g_is_number T.F_is_number.kp T.kb_is_number pass0 (pk_cons (pv 4) (pk_cons (pv 2) (pk_cons (pv 3) pk_nil)))) (pa_cons (pv 5) pa_nil))))) (pss_one (ps_ret pe_bl)) pss_nil)
      (pss_cons (ps_asg (pe_tup (pa_cons (pe_call (ok_anything T) (hr.mono (by decide)) (by rfl) T.g_anything T.F_anything.kp T.b_anything .nil pass0 (pa_cons (pv 0) pa_nil)) (pa_cons (pe_call (ok_anything T) (hr.mono (by decide)) (by rfl) T.g_anything T.F_anything.kp T.b_anything .nil pass0 (pa_cons (pv 0) pa_nil)) pa_nil))) (pg_tup (by rfl) (pgs_cons (pg_name (i := 6) sc_numbers.nd rfl (Or.inr rfl)) (pgs_cons (pg_name (i := 7) sc_numbers.nd rfl (Or.inl rfl)) pgs_nil))))
      (C8.pss_cut (ps_if (pt_cmpR op_eq (pe_call (ok_draw T) (hr.mono (by decide)) (by rfl) T.g_draw T.F_draw.kp T.b_draw .nil pass0 (pa_cons (pv 0) (pa_cons pe_int pa_nil))) pe_int (nomark _)) (pss_one (ps_set (i := 6) sc_numbers.nd rfl (Or.inr rfl) (pe_call (ok_of T) (hr.mono (by decide)) (by rfl) T.g_of T.F_of.kp T.b_of .nil pass0 (pa_cons (pv 0) (pa_cons (pe_lst (pa_cons pe_int (pa_cons pe_int (pa_cons pe_int (pa_cons pe_int (pa_cons pe_int (pa_cons pe_int (pa_cons pe_int (pa_cons pe_int (pa_cons pe_int (pa_cons pe_int (pa_cons pe_int (pa_cons pe_int (pa_cons pe_int pa_nil)))))))))))))) pa_nil))))) pss_nil)
      (C8.pss_cut (ps_if (pt_cmpR op_eq (pe_call (ok_draw T) (hr.mono (by decide)) (by rfl) T.g_draw T.F_draw.kp T.b_draw .nil pass0 (pa_cons (pv 0) (pa_cons pe_int pa_nil))) pe_int (nomark _)) (pss_one (ps_set (i := 7) sc_numbers.nd rfl (Or.inl rfl) (pe_call (ok_of T) (hr.mono (by decide)) (by rfl) T.g_of T.F_of.kp T.b_of .nil pass0 (pa_cons (pv 0) (pa_cons (pe_lst (pa_cons pe_int (pa_cons pe_int (pa_cons pe_int (pa_cons pe_int (pa_cons pe_int (pa_cons pe_int (pa_cons pe_int (pa_cons pe_int (pa_cons pe_int (pa_cons pe_int (pa_cons pe_int (pa_cons pe_int (pa_cons pe_int (pa_cons pe_int (pa_cons pe_int (pa_cons (pe_un un_neg pe_int) (pa_cons pe_str (pa_cons pe_bl pa_nil))))))))))))))))))) pa_nil))))) pss_nil)
      (pss_cons (ps_if (pt_not (pt_val (pe_call (ok_same T 8) (hr.mono (by decide)) (by rfl) T.g_same T.F_same.kp T.b_same .nil pass0 (pa_cons (pe_call (ok_fits T) (hr.mono (by decide)) (by rfl) T.g_fits T.F_fits.kp T.b_fits .nil pass0 (pa_cons (pv 6) (pa_cons (pv 7) pa_nil))) (pa_cons (pe_call (ok_fitting T) (hr.mono (by decide)) (by rfl) T.g_fitting T.F_fitting.kp T.b_fitting .nil pass0 (pa_cons (pv 6) (pa_cons (pv 7) pa_nil))) pa_nil))))) (pss_one (ps_ret pe_bl)) pss_nil)
      (pss_cons (ps_if (pt_not (pt_val (pe_call (ok_same T 8) (hr.mono (by decide)) (by rfl) T.g_same T.F_same.kp T.b_same .nil pass0 (pa_cons (pe_callN0 (ok_fits T) (hr.mono (by decide)) (by rfl) T.g_fits T.F_fits.kp T.kb_fits pass0 (pk_cons (pv 7) (pk_cons (pv 6) pk_nil))) (pa_cons (pe_call (ok_fitting T) (hr.mono (by decide)) (by rfl) T.g_fitting T.F_fitting.kp T.b_fitting .nil pass0 (pa_cons (pv 6) (pa_cons (pv 7) pa_nil))) pa_nil))))) (pss_one (ps_ret pe_bl)) pss_nil)
      (pss_cons (ps_set (i := 8) sc_numbers.nd rfl (Or.inl rfl) (pe_call (ok_generators T) (hr.mono (by decide)) (by rfl) T.g_generators T.F_generators.kp T.b_generators .nil pass0 (pa_cons (pv 6) pa_nil)))
      (pss_cons (ps_setLc (i := 5) (own := [("pair", 9)]) (g := gName 9) (tt := (tAnd (tB (tCall (spPlain K T.C_NotNear) [] E0 (tCons (tVar 6) tNil))) (tTest (tOp rEq (tOp (rIxT K) (tVar 9) (tC (.int 0))) (tVar 6))))) (te := tOp (rIxT K) (tVar 9) (tC (.int 1))) (by rfl) sc_numbers.nd rfl rfl (sw_true rfl rfl rfl (by decide +kernel)) (pi_list (pe_call0 (ok_listed T) (hr.mono (by decide)) (by rfl) T.g_listed T.F_listed.kp T.b_listed .nil pass0)) (blkOk_by (own := [("pair", 9)]) (N := ["box", "k", "thing", "low", "high", "due", "first", "second", "told", "pair"]) (sc := defScope s_numbers) (by decide +kernel)) (fun _ _ _ _ _ => (pg_name (i := 9) sc_numbers.nd rfl (Or.inl rfl))) (fun _ _ _ _ _ => pts_one (PW.pt (pw_and (pt_val (pe_call (ok_is_plain T) (hr.mono (by decide)) (by rfl) T.g_is_plain T.F_is_plain.kp T.b_is_plain .nil pass0 (pa_cons (pv 6) pa_nil))) (pw_and1 (pt_cmpR op_eq (pe_ix ix_tup (pv 9) pe_int (fun _ _ => rfl)) (pv 6) (nomark _)))))) (fun _ _ _ _ _ => (pe_ix ix_tup (pv 9) pe_int (fun _ _ => rfl))))
      (pss_one (ps_if (pt_cmpR (op_neD hr.units) (pv 5) (pe_lst pa_nil) (nomark _)) (pss_one (ps_if (pt_not (pt_val (pe_call (ok_same T 8) (hr.mono (by decide)) (by rfl) T.g_same T.F_same.kp T.b_same .nil pass0 (pa_cons (pv 8) (pa_cons (pe_tup (pa_cons (pe_ix ix_list (pv 5) pe_int (fun _ _ => rfl)) (pa_cons pe_non pa_nil))) pa_nil))))) (pss_one (ps_ret pe_bl)) pss_nil)) (pss_one (ps_if (pt_not (pt_val (pe_call (ok_same T 8) (hr.mono (by decide)) (by rfl) T.g_same T.F_same.kp T.b_same .nil pass0 (pa_cons (pe_ix ix_tup (pv 8) pe_int (fun _ _ => rfl)) (pa_cons pe_str pa_nil))))) (pss_one (ps_ret pe_bl)) (pss_one (ps_if (PW.pt (pw_and (pt_not (pt_val (pe_callB call_isY (by rfl) T.z_isinstance (by decide +kernel) (pa_cons (pv 6) (pa_cons (pe_glob (v := .ref T.C_NotNear) (by rfl) T.gC_NotNear rfl) pa_nil))))) (pw_and1 (pt_not (pt_val (pe_call (ok_same T 8) (hr.mono (by decide)) (by rfl) T.g_same T.F_same.kp T.b_same .nil pass0 (pa_cons (pe_ix ix_tup (pv 8) pe_int (fun _ _ => rfl)) (pa_cons (pv 6) pa_nil)))))))) (pss_one (ps_ret pe_bl)) pss_nil))))))))))))))))))))))
      (pss_one (ps_ret pe_bl))), ?_⟩
    refine ⟨4, rfl, by decide, by decide, for_range (lo := 0) (n := 4) (fun _ σ H' => (∃ v1 v2 v3 v4 v5 v6 v7 v8 v9 : Option V, σ = [some (.ref b), v1, v2, v3, v4, v5, v6, v7, v8, v9]) ∧ BoxAt H' b ∧ Keep b H H')
      ⟨⟨_, _, _, _, _, _, _, _, _, rfl⟩, hB, Keep.refl⟩ ?_ (fun σ H' ⟨⟨_, _, _, _, _, _, _, _, _, e⟩, hB', hK'⟩ => k H' hB' hK')⟩
    rintro i σ H0 hi ⟨⟨v1, v2, v3, v4, v5, v6, v7, v8, v9, rfl⟩, hB0, hK0⟩
    refine ⟨_, rfl, b, rfl, hB0, fun th H1 hB1 hK1 hA1 => ?_⟩
    replace hK1 := hK0.trans hK1
    refine ⟨_, rfl, _, rfl, b, _, rfl, hB1, by decide, by decide, fun n H2 n0 n1 hB2 hK2 => ⟨_, _, rfl, _, _, rfl, ?_⟩⟩
    refine ⟨_, rfl, _, rfl, b, _, rfl, by decide, by decide, hB2, fun d H3 d0 d1 hB3 hK3 => ⟨_, _, rfl, rfl, _, _, rfl, rfl, ?_⟩⟩
    have hK3' := hK1.trans (hK2.trans hK3)
    have hA3 := (hA1.keep hK2).keep hK3
    -- if draw: high = number
    refine ⟨fun σ H' => (∃ lo hi : Int, σ = [some (.ref b), some (.int (0 + (i : Nat))), some th, some (.int lo), some (.int hi), v5, v6, v7, v8, v9]) ∧ AnyV K T.C_NotNear b H' th ∧ BoxAt H' b ∧ Keep b H H', ?_, ?_⟩
    · refine ⟨_, rfl, b, _, rfl, by decide, by decide, hB3, fun d H4 d0 d1 hB4 hK4 => ⟨rfl, _, rfl, ite2 (fun c => ?_) (fun c => ?_)⟩⟩
      · refine ⟨_, rfl, b, _, rfl, hB4, by decide, by decide, fun n H5 n0 n1 hB5 hK5 => ?_⟩
        exact ⟨⟨_, _, rfl⟩, (hA3.keep hK4).keep hK5, hB5, hK3'.trans (hK4.trans hK5)⟩
      · exact ⟨⟨_, _, rfl⟩, hA3.keep hK4, hB4, hK3'.trans hK4⟩
    clear hA1 hA3 hB1 hB2 hB3 hK1 hK2 hK3 hK3' hB0 hK0
    rintro σ H1 ⟨⟨lo, hi', rfl⟩, hA1, hB1, hK1⟩
    -- if draw: thing = of
    refine ⟨fun σ H' => (∃ th : V, σ = [some (.ref b), some (.int (0 + (i : Nat))), some th, some (.int lo), some (.int hi'), v5, v6, v7, v8, v9] ∧ AnyV K T.C_NotNear b H' th) ∧ BoxAt H' b ∧ Keep b H H', ?_, ?_⟩
    · refine ⟨_, rfl, b, _, rfl, by decide, by decide, hB1, fun d H4 d0 d1 hB4 hK4 => ⟨rfl, _, rfl, ite2 (fun c => ?_) (fun c => ?_)⟩⟩
      · refine ⟨_, rfl, _, rfl, _, _, rfl, rfl, _, rfl, _, rfl, _, rfl, _, _, rfl, rfl, _, _, rfl, (by show 4 ≤ sizeLine; decide), fun p hp => ?_⟩
        exact of_any (K := K) (C := T.C_NotNear) (E := E0) hB4 (hK1.trans hK4) hp (by simp) (by simp) (ac (eqI _) (ac (eqI _) (ac (eqI _) (ac (eqI _) an)))) (fun v H' hB' hK' hv => ⟨⟨v, rfl, hv⟩, hB', hK'⟩)
      · exact ⟨⟨_, rfl, hA1.keep hK4⟩, hB4, hK1.trans hK4⟩
    clear hA1 hB1 hK1
    rintro σ H1 ⟨⟨th, rfl, hA1⟩, hB1, hK1⟩
    -- due
    refine ⟨fun σ H' => σ = [some (.ref b), some (.int (0 + (i : Nat))), some th, some (.int lo), some (.int hi'), some (.bl (isN th lo hi')), v6, v7, v8, v9] ∧ H' = H1, ?_, ?_⟩
    · refine ⟨_, rfl, b, th, rfl, hA1, _, rfl, ?_⟩
      cases th with
      | int z =>
        refine iteT ⟨_, rfl, _, rfl, _, _, rfl, rfl, _, rfl, ?_⟩
        rw [isN_int]
        refine ite2 (fun c => ?_) (fun c => ?_)
        · have c' : decide (lo ≤ z) = true := c
          refine ⟨_, rfl, _, _, rfl, rfl, ?_, rfl⟩
          rw [c', Bool.true_and]
          rfl
        · have c' : decide (lo ≤ z) = false := Bool.eq_false_iff.mpr c
          refine ⟨?_, rfl⟩
          rw [c', Bool.false_and]
          rfl
      | _ => exact iteF ⟨rfl, rfl⟩
    rintro σ H' ⟨rfl, rfl⟩
    refine ⟨_, rfl, _, rfl, _, rfl, b, th, lo, hi', rfl, hA1, _, rfl, b, _, _, rfl, eqB _, fun H2 g2 => ⟨_, rfl, iteF ?_⟩⟩
    refine ⟨_, rfl, _, rfl, _, rfl, rfl, rfl, b, th, lo, hi', rfl, hA1.keep (Keep.of_same g2), _, rfl, b, _, _, rfl, eqB _, fun H3 g3 => ⟨_, rfl, iteF ?_⟩⟩
    have hK3 := hK1.trans (Keep.of_same (g2.trans g3))
    have hB3 := hB1.same (g2.trans g3)
    clear hA1 hB1 hK1 g2 g3
    refine ⟨_, rfl, b, rfl, hB3, fun f H4 hB4 hK4 hf => ⟨_, rfl, b, rfl, hB4, fun s2 H5 hB5 hK5 hs => ⟨(by show 2 ≤ sizeLine; decide), fun tp htp => ⟨tp, _, rfl, SqT.of upd_same, rfl, _, _, rfl, _, _, rfl, rfl, ?_⟩⟩⟩⟩
    have gt := same_new htp (.tup [f, s2])
    have hB6 := hB5.same gt
    have hK6 := hK3.trans (hK4.trans (hK5.trans (Keep.of_same gt)))
    replace hf := (hf.keep hK5).keep (Keep.of_same gt)
    replace hs := hs.keep (Keep.of_same gt)
    generalize upd H5 tp (.tup [f, s2]) = H6 at gt hB6 hK6 hf hs ⊢
    clear hB3 hK3 hB4 hK4 hB5 hK5
    -- if draw: first = of
    refine ⟨fun σ H' => (∃ f : V, σ = [some (.ref b), some (.int (0 + (i : Nat))), some th, some (.int lo), some (.int hi'), some (.bl (isN th lo hi')), some f, some s2, v8, v9] ∧ AnyV K T.C_NotNear b H' f) ∧ AnyV K T.C_NotNear b H' s2 ∧ BoxAt H' b ∧ Keep b H H', ?_, ?_⟩
    · refine ⟨_, rfl, b, _, rfl, by decide, by decide, hB6, fun d H7 d0 d1 hB7 hK7 => ⟨rfl, _, rfl, ite2 (fun c => ?_) (fun c => ?_)⟩⟩
      · refine ⟨_, rfl, (by show 13 ≤ sizeLine; decide), fun p hp => ?_⟩
        have g := same_new hp (.lst ([97, 193, 257, 641, 769, 1153, 7681, 12289, 40961, 998244353, 2013265921, 17, 65537].map V.int))
        refine ⟨b, p, _, rfl, hB7.same g, hB7.ne hp, SqL.of upd_same, by simp, by simp, fun j v H' hj hB' hK' => ?_⟩
        obtain ⟨z, _, rfl⟩ := ints_of (l := [97, 193, 257, 641, 769, 1153, 7681, 12289, 40961, 998244353, 2013265921, 17, 65537]) hj
        exact ⟨⟨_, rfl, anyI z⟩, ((hs.keep hK7).keep (Keep.of_same g)).keep hK', hB', hK6.trans (hK7.trans ((Keep.of_same g).trans hK'))⟩
      · exact ⟨⟨_, rfl, hf.keep hK7⟩, hs.keep hK7, hB7, hK6.trans hK7⟩
    clear hf hs hB6 hK6
    rintro σ H7 ⟨⟨f, rfl, hf⟩, hs, hB7, hK7⟩
    refine ⟨fun σ H' => (∃ s2 : V, σ = [some (.ref b), some (.int (0 + (i : Nat))), some th, some (.int lo), some (.int hi'), some (.bl (isN th lo hi')), some f, some s2, v8, v9] ∧ AnyV K T.C_NotNear b H' s2) ∧ AnyV K T.C_NotNear b H' f ∧ BoxAt H' b ∧ Keep b H H', ?_, ?_⟩
    · refine ⟨_, rfl, b, _, rfl, by decide, by decide, hB7, fun d H8 d0 d1 hB8 hK8 => ⟨rfl, _, rfl, ite2 (fun c => ?_) (fun c => ?_)⟩⟩
      · refine ⟨_, rfl, _, rfl, (by show 18 ≤ sizeLine; decide), fun p hp => ?_⟩
        have g := same_new hp (.lst [.int 0, .int 1, .int 2, .int 3, .int 4, .int 5, .int 6, .int 8, .int 12, .int 16, .int 24, .int 32, .int 48, .int 64, .int 128, .int (-4), .str "4", .bl true])
        refine ⟨b, p, _, rfl, hB8.same g, hB8.ne hp, SqL.of upd_same, by simp, by simp, fun j v H' hj hB' hK' => ?_⟩
        have hv : EqV K b H' 5 v v := by
          have hm := List.mem_of_getElem? hj
          have all : ∀ v ∈ [V.int 0, V.int 1, V.int 2, V.int 3, V.int 4, V.int 5, V.int 6, V.int 8, V.int 12, V.int 16, V.int 24, V.int 32, V.int 48, V.int 64, V.int 128, V.int (-4), V.str "4", V.bl true], EqV K b H' 5 v v :=
            ac (eqI _) (ac (eqI _) (ac (eqI _) (ac (eqI _) (ac (eqI _) (ac (eqI _) (ac (eqI _) (ac (eqI _) (ac (eqI _) (ac (eqI _) (ac (eqI _) (ac (eqI _) (ac (eqI _) (ac (eqI _) (ac (eqI _) (ac (eqI _) (ac (EqV.sc (x := .str "4") trivial) (ac (eqB _) an)))))))))))))))))
          exact all v hm
        exact ⟨⟨_, rfl, .inl hv⟩, ((hf.keep hK8).keep (Keep.of_same g)).keep hK', hB', hK7.trans (hK8.trans ((Keep.of_same g).trans hK'))⟩
      · exact ⟨⟨_, rfl, hs.keep hK8⟩, hf.keep hK8, hB8, hK7.trans hK8⟩
    clear hf hs hB7 hK7
    rintro σ H8 ⟨⟨s2, rfl, hs⟩, hf, hB8, hK8⟩
    -- fits
    refine ⟨_, rfl, _, rfl, b, f, s2, rfl, hf, hs, hB8, fun H1 g1 => ⟨_, rfl, _, rfl, b, f, s2, rfl, hf.keep (Keep.of_same g1), hs.keep (Keep.of_same g1), hB8.same g1, fun H2 g2 => ⟨b, _, _, rfl, eqB _, fun H3 g3 => ⟨_, rfl, iteF ?_⟩⟩⟩⟩
    have g13 := g1.trans (g2.trans g3)
    replace hf := hf.keep (Keep.of_same g13)
    replace hs := hs.keep (Keep.of_same g13)
    replace hB8 := hB8.same g13
    replace hK8 := hK8.trans (Keep.of_same g13)
    clear g1 g2 g3 g13
    refine ⟨_, rfl, _, rfl, rfl, rfl, b, f, s2, rfl, hf, hs, hB8, fun H1 g1 => ⟨_, rfl, _, rfl, b, f, s2, rfl, hf.keep (Keep.of_same g1), hs.keep (Keep.of_same g1), hB8.same g1, fun H2 g2 => ⟨b, _, _, rfl, eqB _, fun H4 g3 => ⟨_, rfl, iteF ?_⟩⟩⟩⟩
    have g13 := g1.trans (g2.trans g3)
    replace hf := hf.keep (Keep.of_same g13)
    replace hB8 := hB8.same g13
    replace hK8 := hK8.trans (Keep.of_same g13)
    clear g1 g2 g3 g13 hs
    -- told
    refine ⟨_, rfl, b, f, rfl, hB8, hf, fun H5 p y z g5 hp5 ep hc => ?_⟩
    have np : p ≠ b := hB8.ne hp5
    replace hf := hf.keep (Keep.of_same g5)
    replace hB8 := hB8.same g5
    replace hK8 := hK8.trans (Keep.of_same g5)
    refine ⟨rfl, fun a ps H6 g6 ha hps ea hp => ?_⟩
    obtain ⟨hl, hat⟩ := paired_at hp
    replace hf := hf.keep (Keep.of_same g6)
    replace hB8 := hB8.same g6
    replace hK8 := hK8.trans (Keep.of_same g6)
    replace ep := g6 _ _ ep
    refine ⟨a, rfl, ⟨_, SqL.of ea⟩, fun D hD => lc_list (K := K) (a := a) (xs := ps.map V.ref) (fun i Hx => Same H6 Hx ∧ Hx D = some (.lst (((listedP.take i).filter (keepP f)).map fun kv => V.int kv.2)))
      ⟨same_new hD _, upd_same⟩ (fun i Hx _ ⟨gs, _⟩ => SqL.of (gs _ _ ea)) ?_ ?_⟩
    · rintro j w' Hx hj ⟨gs, eD⟩
      have hj2 : j < ps.length := by
        have := (List.getElem?_eq_some_iff.mp hj).1
        rwa [List.length_map] at this
      have e1 : ps[j]? = some ps[j] := List.getElem?_eq_getElem hj2
      have e2 : listedP[j]? = some listedP[j] := List.getElem?_eq_getElem (by omega)
      have ez : w' = .ref ps[j] := by
        rw [List.getElem?_map, e1] at hj
        exact (Option.some.inj hj).symm
      subst ez
      have et := gs _ _ (hat j _ _ e1 e2)
      generalize listedP[j] = kv at e2 et
      have ft := filter_take (x := f) e2
      refine ⟨rfl, _, rfl, b, f, rfl, hf.keep (Keep.of_same gs), _, rfl, ?_⟩
      cases ef : isI f with
      | false =>
        refine iteF (iteF ⟨gs, ?_⟩)
        rw [ft, if_neg (by cases f <;> first | exact Bool.false_ne_true | cases ef)]
        exact eD
      | true =>
        obtain ⟨z, rfl⟩ := notI ef
        refine iteT ⟨_, rfl, ps[j], _, _, _, rfl, rfl, SqT.of et, rfl, _, rfl, rfl, _, rfl, ?_⟩
        have ek : decide (V.int kv.1 = V.int z) = keepP (.int z) kv := by
          show decide (V.int kv.1 = V.int z) = decide (kv.1 = z)
          simp
        rw [ek]
        refine ite2 (fun c => ?_) (fun c => ?_)
        · refine ⟨_, rfl, ps[j], _, _, _, rfl, rfl, SqT.of et, rfl, _, eD, ?_, fun x o ho => ?_, ?_⟩
          · rw [List.length_map]
            have q1 := List.length_filter_le (keepP (.int z)) (listedP.take j)
            rw [List.length_take] at q1
            have : listedP.length = 7 := rfl
            exact small1000 (by omega)
          · rw [upd_ne (ne_of_none ho hD)]
            exact gs _ _ ho
          · rw [upd_same, ft, if_pos c]
        · refine ⟨gs, ?_⟩
          rw [ft, if_neg c]
          exact eD
    rintro Hx ⟨gs, eD⟩
    have eD' : Hx D = some (.lst ((dueL f).map V.int)) := by
      rw [eD, List.length_map, hl, List.take_length, ← dueL_eq, List.map_map]
      rfl
    clear eD
    have hD6 : H6 D = none := hD
    replace hf := hf.keep (Keep.of_same gs)
    replace hB8 := hB8.same gs
    replace hK8 := hK8.trans (Keep.of_same gs)
    replace ep := gs _ _ ep
    refine ⟨_, rfl, (by show 0 ≤ sizeLine; decide), fun e he => ?_⟩
    have ge := same_new he (.lst [])
    have ee : upd Hx e (.lst []) e = some (.lst []) := upd_same
    generalize upd Hx e (.lst []) = H9 at ge ee ⊢
    replace hf := hf.keep (Keep.of_same ge)
    replace hB8 := hB8.same ge
    replace hK8 := hK8.trans (Keep.of_same ge)
    replace ep := ge _ _ ep
    replace eD' := ge _ _ eD'
    refine ne_due eD' ee ⟨_, rfl, ?_⟩
    rcases hc with ⟨z1, r, rfl, er, rfl, rfl⟩ | ⟨no, rfl, rfl⟩
    · have ed := root_due (x := .int z1) rfl er
      rw [ed] at eD' ⊢
      refine iteT ?_
      refine ⟨_, rfl, _, rfl, D, _, _, _, rfl, rfl, SqL.of eD', rfl, (by show 2 ≤ sizeLine; decide), fun q hq => ?_⟩
      have gq := same_new hq (.tup [.int r, .non])
      refine ⟨b, .ref p, .ref q, rfl, .inr ⟨p, q, [.int r, .non], [.int r, .non], rfl, rfl, np, hB8.ne hq, .inr ⟨SqT.of (gq _ _ ep), SqT.of upd_same⟩, by simp, rfl, fun j u v hu hv => ?_⟩, fun H10 g10 => ⟨_, rfl, iteF ?_⟩⟩
      · have e : u = v := Option.some.inj (hu.symm.trans hv)
        subst e
        exact (ac (P := fun v => EqV K b (upd H9 q (.tup [.int r, .non])) 6 v v) (eqI r) (ac (EqV.sc (x := .non) trivial) an)) u (List.mem_of_getElem? hu)
      · exact ⟨⟨_, _, _, _, _, _, _, _, _, rfl⟩, hB8.same (gq.trans g10), hK8.trans (Keep.of_same (gq.trans g10))⟩
    · have ed := due_none no
      rw [ed]
      refine iteF ?_
      refine ⟨_, rfl, p, _, _, _, rfl, rfl, SqT.of ep, rfl, b, _, _, rfl, EqV.sc (x := .str "unknown") trivial, fun H10 g10 => ⟨_, rfl, iteF ?_⟩⟩
      have hf10 := hf.keep (Keep.of_same g10)
      rcases ask2 T hf10 with ⟨hd, hq⟩ | hq
      · refine ⟨_, rfl, hq _ ⟨_, rfl, iteT ?_⟩⟩
        refine ⟨_, rfl, p, _, _, _, rfl, rfl, SqT.of (g10 _ _ ep), rfl, _, rfl, b, _, _, rfl, hd.le (by decide), fun H11 g11 => ⟨_, rfl, iteF ?_⟩⟩
        exact ⟨⟨_, _, _, _, _, _, _, _, _, rfl⟩, hB8.same (g10.trans g11), hK8.trans (Keep.of_same (g10.trans g11))⟩
      · refine ⟨_, rfl, hq _ ⟨_, rfl, iteF (iteF ?_)⟩⟩
        exact ⟨⟨_, _, _, _, _, _, _, _, _, rfl⟩, hB8.same g10, hK8.trans (Keep.of_same g10)⟩
end
end K0

set_option maxRecDepth 100000
set_option maxHeartbeats 4000000
namespace K0
open PySem L2

theorem in46 {i : Nat} (h : i < 10) : inV (.int (i : Nat)) [.int 4, .int 6] = decide (i = 4 ∨ i = 6) := by
  rcases ten h with rfl | rfl | rfl | rfl | rfl | rfl | rfl | rfl | rfl | rfl <;> rfl
theorem in179 {i : Nat} (h : i < 10) : inV (.int (i : Nat)) [.int 1, .int 7, .int 9] = decide (i = 1 ∨ i = 7 ∨ i = 9) := by
  rcases ten h with rfl | rfl | rfl | rfl | rfl | rfl | rfl | rfl | rfl | rfl <;> rfl
theorem grp_eq {i : Nat} (h : i < 10) : [V.bl (decide (V.int (groupOf i : Nat) = V.int 0)), .bl (decide (V.int (groupOf i : Nat) = V.int 1)), .bl (decide (V.int (groupOf i : Nat) = V.int 2))] = grpL i := by
  rcases ten h with rfl | rfl | rfl | rfl | rfl | rfl | rfl | rfl | rfl | rfl <;> rfl
theorem told_all {P : V → Prop} {i : Nat} {one two : V} (h1 : P one) (h2 : P two) : ∀ v ∈ toldOf i one two, P v := by
  unfold toldOf
  split
  · exact ac h1 an
  · split
    · exact ac h2 an
    · exact ac h1 (ac h2 an)
theorem told_len {i : Nat} {one two : V} : (toldOf i one two).length ≤ 1000 := by
  unfold toldOf
  split
  · show 1 ≤ 1000
    decide
  · split
    · show 1 ≤ 1000
      decide
    · show 2 ≤ 1000
      decide
theorem eq_two {K : PySem.W.Frag} {b : Addr} {H : Hp} {n : Nat} {p q : Addr} {xs : List V} (np : p ≠ b) (nq : q ≠ b) (hp : H p = some (.lst xs)) (hq : H q = some (.lst xs)) (hl : xs.length ≤ 1000) (hx : ∀ v ∈ xs, EqV K b H n v v) : EqV K b H (n + 1) (.ref p) (.ref q) := by
  refine .inr ⟨p, q, xs, xs, rfl, rfl, np, nq, .inl ⟨SqL.of hp, SqL.of hq⟩, hl, rfl, fun j u v hu hv => ?_⟩
  have e : u = v := Option.some.inj (hu.symm.trans hv)
  subst e
  exact hx u (List.mem_of_getElem? hu)
theorem of_eq {K : PySem.W.Frag} {b p : Addr} {H0 H : Hp} {Q : VK} {E : XK} {xs : List V} (hB : BoxAt H b) (hK : Keep b H0 H) (hp : H p = none) (h0 : xs ≠ []) (hl : xs.length ≤ 1000) (hx : ∀ v ∈ xs, EqV K b H 5 v v) (k : ∀ (v : V) (H' : Hp), BoxAt H' b → Keep b H0 H' → Keep b H H' → EqV K b H' 5 v v → Q v H') :
    spOf K [.ref b, .ref p] (upd H p (.lst xs)) Q E := by
  have g := Keep.of_same (b := b) (same_new hp (.lst xs))
  exact ⟨b, p, xs, rfl, hB.same (same_new hp (.lst xs)), hB.ne hp, SqL.of upd_same, h0, hl, fun i v H' hi hB' hK' => k v H' hB' (hK.trans (g.trans hK')) (g.trans hK') (((hx v (List.mem_of_getElem? hi)).keep g).keep hK')⟩
theorem range_map {α : Type} (f : Nat → α) (i : Nat) : (List.range (i + 1)).map f = (List.range i).map f ++ [f i] := by
  rw [List.range_succ, List.map_append]
  rfl
theorem bl_all {K : PySem.W.Frag} {b : Addr} {H : Hp} {n : Nat} (l : List Bool) : ∀ v ∈ l.map V.bl, EqV K b H n v v := fun v hv => by
  obtain ⟨z, _, rfl⟩ := List.mem_map.mp hv
  exact eqB z
section
variable {P : Program} {w : World} {K : PySem.W.Frag} {mg : Str → Option Value} {base : Heap}
theorem ok_errors (T : Txt K mg) : FnOk P w K mg base CX0 9 T.f_errors T.fd_errors ["box"] (spYes) := by
  refine T.F_errors.ok sc_errors (fun vs H Q E h => ?_) (fun cdv A outer s H vs Q E hr h => ?_)
  · obtain ⟨b, rfl, _⟩ := h
    rfl
  · obtain ⟨b, rfl, hB, k⟩ := h
    refine ⟨_, (pss_cons (ps_set (i := 1) sc_errors.nd rfl (Or.inl rfl) (pe_call (ok_draw T) (hr.mono (by decide)) (by rfl) T.g_draw T.F_draw.kp T.b_draw .nil pass0 (pa_cons (pv 0) (pa_cons pe_int pa_nil))))
      (pss_cons (ps_for PassesOwn.never rfl (pi_range1 (by rfl) T.z_range (pa_cons pe_int pa_nil)) (pg_name (i := 2) sc_errors.nd rfl (Or.inr rfl)) (pss_cons (ps_par (i := 3) (j := 4) (by rfl) sc_errors.nd rfl rfl (by decide) rfl rfl (pa_cons (pe_op op_add (pv 2) pe_int) (pa_cons pe_str pa_nil)) (by rfl))
      (C8.pss_cut (ps_if (pt_cmpR op_eq (pv 2) (pv 1) (nomark _)) (pss_cons (ps_par (i := 3) (j := 4) (by rfl) sc_errors.nd rfl rfl (by decide) rfl rfl (pa_cons (pe_call (ok_number T) (hr.mono (by decide)) (by rfl) T.g_number T.F_number.kp T.b_number .nil pass0 (pa_cons (pv 0) (pa_cons pe_int pa_nil))) (pa_cons (pe_call (ok_of T) (hr.mono (by decide)) (by rfl) T.g_of T.F_of.kp T.b_of .nil pass0 (pa_cons (pv 0) (pa_cons (pe_lst (pa_cons pe_str (pa_cons pe_str (pa_cons pe_str (pa_cons pe_str (pa_cons pe_str pa_nil)))))) pa_nil))) pa_nil)) (by rfl))
      (C8.pss_cut (ps_if (PW.pt (pw_or (pt_cmpR op_eq (pv 2) pe_int (nomark _)) (pw_or1 (pt_cmpR op_eq (pv 2) pe_int (nomark _))))) (pss_one (ps_set (i := 4) sc_errors.nd rfl (Or.inl rfl) (pe_call (ok_of T) (hr.mono (by decide)) (by rfl) T.g_of T.F_of.kp T.b_of .nil pass0 (pa_cons (pv 0) (pa_cons (pe_lst (pa_cons pe_non (pa_cons pe_bl (pa_cons pe_bl (pa_cons pe_int (pa_cons (pe_tup (pa_cons pe_int (pa_cons pe_str pa_nil))) (pa_cons pe_str (pa_cons (pe_un un_neg pe_int) (pa_cons (pe_lst (pa_cons pe_int (pa_cons pe_non pa_nil))) (pa_cons (pe_lst pa_nil) pa_nil)))))))))) pa_nil))))) pss_nil)
      (pss_one (ps_if (PW.pt (pw_or (pt_cmpR op_eq (pv 2) pe_int (nomark _)) (pw_or1 (pt_cmpR op_eq (pv 2) pe_int (nomark _))))) (pss_one (ps_set (i := 3) sc_errors.nd rfl (Or.inl rfl) (pe_call (ok_of T) (hr.mono (by decide)) (by rfl) T.g_of T.F_of.kp T.b_of .nil pass0 (pa_cons (pv 0) (pa_cons (pe_lst (pa_cons pe_non (pa_cons pe_bl (pa_cons (pv 3) (pa_cons pe_str (pa_cons (pe_tup (pa_cons pe_int (pa_cons (pe_tup (pa_cons pe_int pa_nil)) pa_nil))) (pa_cons (pe_lst (pa_cons pe_int (pa_cons (pe_lst (pa_cons pe_str pa_nil)) pa_nil))) pa_nil))))))) pa_nil))))) pss_nil)))) pss_nil)
      (pss_cons (ps_set (i := 5) sc_errors.nd rfl (Or.inl rfl) (pe_call (ok_made T) (hr.mono (by decide)) (by rfl) T.g_made T.F_made.kp T.b_made .nil pass0 (pa_cons (pv 2) (pa_cons (pv 3) (pa_cons (pv 4) (pa_cons (pe_cmpR op_eq (pe_call (ok_draw T) (hr.mono (by decide)) (by rfl) T.g_draw T.F_draw.kp T.b_draw .nil pass0 (pa_cons (pv 0) (pa_cons pe_int pa_nil))) pe_int (nomark _)) pa_nil))))))
      (pss_cons (ps_set (i := 6) sc_errors.nd rfl (Or.inl rfl) (pe_call (ok_made T) (hr.mono (by decide)) (by rfl) T.g_made T.F_made.kp T.b_made .nil pass0 (pa_cons (pv 2) (pa_cons pe_int (pa_cons pe_str (pa_cons (pe_cmpR op_eq (pv 2) (pv 1) (nomark _)) pa_nil))))))
      (pss_cons (ps_set (i := 7) sc_errors.nd rfl (Or.inl rfl) (pe_lst (pa_cons (pv 3) (pa_cons (pv 4) pa_nil))))
      (C8.pss_cut (ps_if (pt_cmpR op_in_seq (pv 2) (pe_lst (pa_cons pe_int (pa_cons pe_int pa_nil))) (by rfl)) (pss_one (ps_set (i := 7) sc_errors.nd rfl (Or.inl rfl) (pe_lst (pa_cons (pv 3) pa_nil)))) (pss_one (ps_if (pt_cmpR op_in_seq (pv 2) (pe_lst (pa_cons pe_int (pa_cons pe_int (pa_cons pe_int pa_nil)))) (by rfl)) (pss_one (ps_set (i := 7) sc_errors.nd rfl (Or.inl rfl) (pe_lst (pa_cons (pv 4) pa_nil)))) pss_nil)))
      (pss_cons (ps_if (pt_not (pt_val (pe_call (ok_same T 8) (hr.mono (by decide)) (by rfl) T.g_same T.F_same.kp T.b_same .nil pass0 (pa_cons (pe_call (ok_told T) (hr.mono (by decide)) (by rfl) T.g_told T.F_told.kp T.b_told .nil pass0 (pa_cons (pv 2) (pa_cons (pv 5) pa_nil))) (pa_cons (pv 7) pa_nil))))) (pss_one (ps_ret pe_bl)) pss_nil)
      (C8.pss_cut (ps_if (pt_not (pt_val (pe_call (ok_same T 8) (hr.mono (by decide)) (by rfl) T.g_same T.F_same.kp T.b_same .nil pass0 (pa_cons (pe_call (ok_told T) (hr.mono (by decide)) (by rfl) T.g_told T.F_told.kp T.b_told .nil pass0 (pa_cons (pv 2) (pa_cons (pv 6) pa_nil))) (pa_cons (pe_ifExp (pt_cmpR op_in_seq (pv 2) (pe_lst (pa_cons pe_int (pa_cons pe_int pa_nil))) (by rfl)) (pe_lst (pa_cons pe_int pa_nil)) (pe_ifExp (pt_cmpR op_in_seq (pv 2) (pe_lst (pa_cons pe_int (pa_cons pe_int (pa_cons pe_int pa_nil)))) (by rfl)) (pe_lst (pa_cons pe_str pa_nil)) (pe_lst (pa_cons pe_int (pa_cons pe_str pa_nil))))) pa_nil))))) (pss_one (ps_ret pe_bl)) pss_nil)
      (C8.pss_cut (ps_set (i := 8) sc_errors.nd rfl (Or.inl rfl) (pe_ifExp (pt_cmpR op_lt (pv 2) pe_int (nomark _)) pe_int (pe_ifExp (pt_cmpR op_lt (pv 2) pe_int (nomark _)) pe_int pe_int)))
      (pss_cons (ps_if (pt_not (pt_val (pe_call (ok_same T 8) (hr.mono (by decide)) (by rfl) T.g_same T.F_same.kp T.b_same .nil pass0 (pa_cons (pe_call (ok_bases T) (hr.mono (by decide)) (by rfl) T.g_bases T.F_bases.kp T.b_bases .nil pass0 (pa_cons (pv 5) pa_nil)) (pa_cons (pe_lst (pa_cons (pe_cmpR op_eq (pv 8) pe_int (nomark _)) (pa_cons (pe_cmpR op_eq (pv 8) pe_int (nomark _)) (pa_cons (pe_cmpR op_eq (pv 8) pe_int (nomark _)) pa_nil)))) pa_nil))))) (pss_one (ps_ret pe_bl)) pss_nil)
      (pss_cons (ps_if (pt_not (pt_val (pe_call (ok_same T 8) (hr.mono (by decide)) (by rfl) T.g_same T.F_same.kp T.b_same .nil pass0 (pa_cons (pe_call (ok_roots T) (hr.mono (by decide)) (by rfl) T.g_roots T.F_roots.kp T.b_roots .nil pass0 (pa_cons (pv 5) pa_nil)) (pa_cons (pe_lst (pa_cons (pe_cmpR op_eq (pv 8) pe_int (nomark _)) (pa_cons (pe_cmpR op_eq (pv 8) pe_int (nomark _)) (pa_cons (pe_cmpR op_eq (pv 8) pe_int (nomark _)) pa_nil)))) pa_nil))))) (pss_one (ps_ret pe_bl)) pss_nil)
      (pss_one (ps_if (pt_not (pt_val (pe_call (ok_same T 8) (hr.mono (by decide)) (by rfl) T.g_same T.F_same.kp T.b_same .nil pass0 (pa_cons (pe_call (ok_classes T) (hr.mono (by decide)) (by rfl) T.g_classes T.F_classes.kp T.b_classes .nil pass0 (pa_cons (pv 5) pa_nil)) (pa_cons (pe_lc (own := [("k", 9)]) (g := gName 9) (tt := tYes) (te := (tOp rEq (tVar 2) (tVar 9))) (by rfl) sc_errors.nd (pi_range1 (by rfl) T.z_range (pa_cons pe_int pa_nil)) (blkOk_by (own := [("k", 9)]) (N := ["box", "drawn", "pick", "one", "two", "error", "other", "due", "group", "k"]) (sc := defScope s_errors) (by decide +kernel)) (fun _ _ _ _ _ => (pg_name (i := 9) sc_errors.nd rfl (Or.inl rfl))) (fun _ _ _ _ _ => pts_nil) (fun _ _ _ _ _ => (pe_cmpR op_eq (pv 2) (pv 9) (nomark _)))) pa_nil))))) (pss_one (ps_ret pe_bl)) pss_nil))))))))))))))
      (pss_one (ps_ret pe_bl)))), ?_⟩
    refine ⟨_, rfl, b, _, rfl, by decide, by decide, hB, fun dr H1 d0 d1 hB1 hK1 => ?_⟩
    refine ⟨10, rfl, by decide, by decide, for_range (lo := 0) (n := 10) (fun _ σ H' => (∃ v2 v3 v4 v5 v6 v7 v8 v9 : Option V, σ = [some (.ref b), some (.int dr), v2, v3, v4, v5, v6, v7, v8, v9]) ∧ BoxAt H' b ∧ Keep b H H')
      ⟨⟨_, _, _, _, _, _, _, _, rfl⟩, hB1, hK1⟩ ?_ (fun σ H' ⟨⟨_, _, _, _, _, _, _, _, e⟩, hB', hK'⟩ => k H' hB' hK')⟩
    rintro i σ H0 hi ⟨⟨v2, v3, v4, v5, v6, v7, v8, v9, rfl⟩, hB0, hK0⟩
    rw [show (0 : Int) + (i : Nat) = (i : Nat) from Int.zero_add _]
    refine ⟨_, rfl, _, _, rfl, rfl, _, _, rfl, ?_⟩
    refine ⟨fun σ H' => (∃ one two : V, σ = [some (.ref b), some (.int dr), some (.int (i : Nat)), some one, some two, v5, v6, v7, v8, v9] ∧ EqV K b H' 5 one one ∧ EqV K b H' 5 two two) ∧ BoxAt H' b ∧ Keep b H H', ?_, ?_⟩
    · refine ⟨_, rfl, _, rfl, rfl, _, rfl, ite2 (fun c => ?_) (fun c => ?_)⟩
      · refine ⟨_, rfl, b, _, rfl, hB0, by decide, by decide, fun n H2 n0 n1 hB2 hK2 => ?_⟩
        refine ⟨_, rfl, (by show 5 ≤ sizeLine; decide), fun p hp => ?_⟩
        have g := same_new hp (.lst [.str "", .str "form", .str "secrets", .str "x y", .str "0"])
        refine ⟨b, p, _, rfl, hB2.same g, hB2.ne hp, SqL.of upd_same, by simp, by simp, fun j v H' hj hB' hK' => ?_⟩
        have hv : EqV K b H' 5 v v := ac (P := fun v => EqV K b H' 5 v v) (EqV.sc (x := .str "") trivial) (ac (EqV.sc (x := .str "form") trivial) (ac (EqV.sc (x := .str "secrets") trivial) (ac (EqV.sc (x := .str "x y") trivial) (ac (EqV.sc (x := .str "0") trivial) an)))) v (List.mem_of_getElem? hj)
        replace hK' := hK0.trans (hK2.trans ((Keep.of_same g).trans hK'))
        refine ⟨_, _, rfl, ?_⟩
        clear hK2 g hj
        refine ⟨fun σ H' => (∃ two : V, σ = [some (.ref b), some (.int dr), some (.int (i : Nat)), some (.int n), some two, v5, v6, v7, v8, v9] ∧ EqV K b H' 5 two two) ∧ BoxAt H' b ∧ Keep b H H', ?_, ?_⟩
        · refine ⟨_, rfl, rfl, _, rfl, ite2 (fun c => iteT ?_) (fun c => ⟨_, rfl, rfl, _, rfl, ite2 (fun c => ?_) (fun c => ?_)⟩)⟩
          · refine ⟨_, rfl, (by show 2 ≤ sizeLine; decide), fun p1 hp1 => ?_⟩
            have g1 := same_new hp1 (.tup [.int 4, .str "a"])
            have e1 : EqV K b (upd H' p1 (.tup [.int 4, .str "a"])) 5 (.ref p1) (.ref p1) := EqV.le (tup_new (n := 4) hp1 (hB'.ne hp1) (by decide) (ac (eqI _) (ac (EqV.sc (x := .str "a") trivial) an))) (by decide)
            have hB1 := hB'.same g1
            generalize upd H' p1 (.tup [.int 4, .str "a"]) = G1 at *
            refine ⟨_, rfl, (by show 2 ≤ sizeLine; decide), fun p2 hp2 => ?_⟩
            have g2 := same_new hp2 (.lst [.int 4, .non])
            have e2 : EqV K b (upd G1 p2 (.lst [.int 4, .non])) 5 (.ref p2) (.ref p2) := EqV.le (lst_new (n := 4) hp2 (hB1.ne hp2) (by decide) (ac (eqI _) (ac (EqV.sc (x := .non) trivial) an))) (by decide)
            have hB2 := hB1.same g2
            generalize upd G1 p2 (.lst [.int 4, .non]) = G2 at *
            refine ⟨(by show 0 ≤ sizeLine; decide), fun p3 hp3 => ?_⟩
            have g3 := same_new hp3 (.lst [])
            have e3 : EqV K b (upd G2 p3 (.lst [])) 5 (.ref p3) (.ref p3) := EqV.le (lst_new (n := 4) hp3 (hB2.ne hp3) (by decide) an) (by decide)
            have hB3 := hB2.same g3
            generalize upd G2 p3 (.lst []) = G3 at *
            have f1 := (e1.keep (Keep.of_same g2)).keep (Keep.of_same g3)
            have f2 := e2.keep (Keep.of_same g3)
            refine ⟨(by show 9 ≤ sizeLine; decide), fun p hp => ?_⟩
            exact of_eq (K := K) (E := E0) hB3 (hK'.trans (Keep.of_same (g1.trans (g2.trans g3)))) hp (by simp) (by simp) (ac (EqV.sc (x := .non) trivial) (ac (eqB _) (ac (eqB _) (ac (eqI _) (ac f1 (ac (EqV.sc (x := .str "T") trivial) (ac (eqI _) (ac f2 (ac e3 an))))))))) (fun v H' hB' hK' _ hv => ⟨⟨v, rfl, hv⟩, hB', hK'⟩)
          · refine ⟨_, rfl, (by show 2 ≤ sizeLine; decide), fun p1 hp1 => ?_⟩
            have g1 := same_new hp1 (.tup [.int 4, .str "a"])
            have e1 : EqV K b (upd H' p1 (.tup [.int 4, .str "a"])) 5 (.ref p1) (.ref p1) := EqV.le (tup_new (n := 4) hp1 (hB'.ne hp1) (by decide) (ac (eqI _) (ac (EqV.sc (x := .str "a") trivial) an))) (by decide)
            have hB1 := hB'.same g1
            generalize upd H' p1 (.tup [.int 4, .str "a"]) = G1 at *
            refine ⟨_, rfl, (by show 2 ≤ sizeLine; decide), fun p2 hp2 => ?_⟩
            have g2 := same_new hp2 (.lst [.int 4, .non])
            have e2 : EqV K b (upd G1 p2 (.lst [.int 4, .non])) 5 (.ref p2) (.ref p2) := EqV.le (lst_new (n := 4) hp2 (hB1.ne hp2) (by decide) (ac (eqI _) (ac (EqV.sc (x := .non) trivial) an))) (by decide)
            have hB2 := hB1.same g2
            generalize upd G1 p2 (.lst [.int 4, .non]) = G2 at *
            refine ⟨(by show 0 ≤ sizeLine; decide), fun p3 hp3 => ?_⟩
            have g3 := same_new hp3 (.lst [])
            have e3 : EqV K b (upd G2 p3 (.lst [])) 5 (.ref p3) (.ref p3) := EqV.le (lst_new (n := 4) hp3 (hB2.ne hp3) (by decide) an) (by decide)
            have hB3 := hB2.same g3
            generalize upd G2 p3 (.lst []) = G3 at *
            have f1 := (e1.keep (Keep.of_same g2)).keep (Keep.of_same g3)
            have f2 := e2.keep (Keep.of_same g3)
            refine ⟨(by show 9 ≤ sizeLine; decide), fun p hp => ?_⟩
            exact of_eq (K := K) (E := E0) hB3 (hK'.trans (Keep.of_same (g1.trans (g2.trans g3)))) hp (by simp) (by simp) (ac (EqV.sc (x := .non) trivial) (ac (eqB _) (ac (eqB _) (ac (eqI _) (ac f1 (ac (EqV.sc (x := .str "T") trivial) (ac (eqI _) (ac f2 (ac e3 an))))))))) (fun v H' hB' hK' _ hv => ⟨⟨v, rfl, hv⟩, hB', hK'⟩)
          · exact ⟨⟨_, rfl, hv⟩, hB', hK'⟩
        rintro σ H2 ⟨⟨two, rfl, h2⟩, hB2, hK2⟩
        refine ⟨_, rfl, rfl, _, rfl, ite2 (fun c => iteT ?_) (fun c => ⟨_, rfl, rfl, _, rfl, ite2 (fun c => ?_) (fun c => ?_)⟩)⟩
        · refine ⟨_, rfl, _, rfl, (by show 1 ≤ sizeLine; decide), fun p1 hp1 => ?_⟩
          have g1 := same_new hp1 (.tup [.int 2])
          have e1 : EqV K b (upd H2 p1 (.tup [.int 2])) 3 (.ref p1) (.ref p1) := EqV.le (tup_new (n := 2) hp1 (hB2.ne hp1) (by decide) (ac (eqI _) an)) (by decide)
          have hB1 := hB2.same g1
          generalize upd H2 p1 (.tup [.int 2]) = G1 at *
          refine ⟨(by show 2 ≤ sizeLine; decide), fun p2 hp2 => ?_⟩
          have g2 := same_new hp2 (.tup [.int 1, .ref p1])
          have e2 : EqV K b (upd G1 p2 (.tup [.int 1, .ref p1])) 5 (.ref p2) (.ref p2) := EqV.le (tup_new (n := 3) hp2 (hB1.ne hp2) (by simp) (ac (eqI _) (ac e1 an))) (by decide)
          have hB3 := hB1.same g2
          generalize upd G1 p2 (.tup [.int 1, .ref p1]) = G2 at *
          refine ⟨(by show 1 ≤ sizeLine; decide), fun p3 hp3 => ?_⟩
          have g3 := same_new hp3 (.lst [.str "x"])
          have e3 : EqV K b (upd G2 p3 (.lst [.str "x"])) 3 (.ref p3) (.ref p3) := EqV.le (lst_new (n := 2) hp3 (hB3.ne hp3) (by decide) (ac (EqV.sc (x := .str "x") trivial) an)) (by decide)
          have hB4 := hB3.same g3
          generalize upd G2 p3 (.lst [.str "x"]) = G3 at *
          refine ⟨(by show 2 ≤ sizeLine; decide), fun p4 hp4 => ?_⟩
          have g4 := same_new hp4 (.lst [.int 1, .ref p3])
          have e4 : EqV K b (upd G3 p4 (.lst [.int 1, .ref p3])) 5 (.ref p4) (.ref p4) := EqV.le (lst_new (n := 3) hp4 (hB4.ne hp4) (by simp) (ac (eqI _) (ac e3 an))) (by decide)
          have hB5 := hB4.same g4
          generalize upd G3 p4 (.lst [.int 1, .ref p3]) = G4 at *
          have g34 := Keep.of_same (b := b) (g3.trans g4)
          have f2 := e2.keep g34
          have gg := Keep.of_same (b := b) (g1.trans (g2.trans (g3.trans g4)))
          refine ⟨(by show 6 ≤ sizeLine; decide), fun p hp => ?_⟩
          exact of_eq (K := K) (E := E0) hB5 (hK2.trans gg) hp (by simp) (by simp) (ac (EqV.sc (x := .non) trivial) (ac (eqB _) (ac (eqI _) (ac (EqV.sc (x := .str "257") trivial) (ac f2 (ac e4 an)))))) (fun v H' hB' hK' kk hv => ⟨⟨v, _, rfl, hv, (h2.keep gg).keep kk⟩, hB', hK'⟩)
        · refine ⟨_, rfl, _, rfl, (by show 1 ≤ sizeLine; decide), fun p1 hp1 => ?_⟩
          have g1 := same_new hp1 (.tup [.int 2])
          have e1 : EqV K b (upd H2 p1 (.tup [.int 2])) 3 (.ref p1) (.ref p1) := EqV.le (tup_new (n := 2) hp1 (hB2.ne hp1) (by decide) (ac (eqI _) an)) (by decide)
          have hB1 := hB2.same g1
          generalize upd H2 p1 (.tup [.int 2]) = G1 at *
          refine ⟨(by show 2 ≤ sizeLine; decide), fun p2 hp2 => ?_⟩
          have g2 := same_new hp2 (.tup [.int 1, .ref p1])
          have e2 : EqV K b (upd G1 p2 (.tup [.int 1, .ref p1])) 5 (.ref p2) (.ref p2) := EqV.le (tup_new (n := 3) hp2 (hB1.ne hp2) (by simp) (ac (eqI _) (ac e1 an))) (by decide)
          have hB3 := hB1.same g2
          generalize upd G1 p2 (.tup [.int 1, .ref p1]) = G2 at *
          refine ⟨(by show 1 ≤ sizeLine; decide), fun p3 hp3 => ?_⟩
          have g3 := same_new hp3 (.lst [.str "x"])
          have e3 : EqV K b (upd G2 p3 (.lst [.str "x"])) 3 (.ref p3) (.ref p3) := EqV.le (lst_new (n := 2) hp3 (hB3.ne hp3) (by decide) (ac (EqV.sc (x := .str "x") trivial) an)) (by decide)
          have hB4 := hB3.same g3
          generalize upd G2 p3 (.lst [.str "x"]) = G3 at *
          refine ⟨(by show 2 ≤ sizeLine; decide), fun p4 hp4 => ?_⟩
          have g4 := same_new hp4 (.lst [.int 1, .ref p3])
          have e4 : EqV K b (upd G3 p4 (.lst [.int 1, .ref p3])) 5 (.ref p4) (.ref p4) := EqV.le (lst_new (n := 3) hp4 (hB4.ne hp4) (by simp) (ac (eqI _) (ac e3 an))) (by decide)
          have hB5 := hB4.same g4
          generalize upd G3 p4 (.lst [.int 1, .ref p3]) = G4 at *
          have g34 := Keep.of_same (b := b) (g3.trans g4)
          have f2 := e2.keep g34
          have gg := Keep.of_same (b := b) (g1.trans (g2.trans (g3.trans g4)))
          refine ⟨(by show 6 ≤ sizeLine; decide), fun p hp => ?_⟩
          exact of_eq (K := K) (E := E0) hB5 (hK2.trans gg) hp (by simp) (by simp) (ac (EqV.sc (x := .non) trivial) (ac (eqB _) (ac (eqI _) (ac (EqV.sc (x := .str "257") trivial) (ac f2 (ac e4 an)))))) (fun v H' hB' hK' kk hv => ⟨⟨v, _, rfl, hv, (h2.keep gg).keep kk⟩, hB', hK'⟩)
        · exact ⟨⟨_, _, rfl, eqI _, h2⟩, hB2, hK2⟩
      · exact ⟨⟨_, _, rfl, eqI _, EqV.sc (x := .str "tables") trivial⟩, hB0, hK0⟩
    clear hB1 hK1
    clear hB0 hK0
    rintro σ H1 ⟨⟨one, two, rfl, h1, h2⟩, hB1, hK1⟩
    refine ⟨_, rfl, _, rfl, _, rfl, _, rfl, b, _, rfl, by decide, by decide, hB1, fun d H2 d0 d1 hB2 hK2 => ⟨rfl, i, one, two, _, rfl, hi, fun e de H3 g3 he0 hde0 hE => ?_⟩⟩
    have nde : de ≠ b := hB2.ne hde0
    have ne : e ≠ b := hB2.ne he0
    replace h1 := (h1.keep hK2).keep (Keep.of_same g3)
    replace h2 := (h2.keep hK2).keep (Keep.of_same g3)
    replace hK2 := hK1.trans (hK2.trans (Keep.of_same g3))
    replace hB2 := hB2.same g3
    clear g3 hB1 hK1 he0 hde0
    refine ⟨_, rfl, _, rfl, _, rfl, rfl, i, .int 77, .str "other", _, rfl, hi, fun o od H4 g4 ho0 hod0 hO => ?_⟩
    replace hE := hE.same g4
    replace h1 := h1.keep (Keep.of_same g4)
    replace h2 := h2.keep (Keep.of_same g4)
    replace hK2 := hK2.trans (Keep.of_same g4)
    replace hB2 := hB2.same g4
    clear g4 ho0 hod0
    refine ⟨_, rfl, _, rfl, (by show 2 ≤ sizeLine; decide), fun q hq => ?_⟩
    have g5 := same_new hq (.lst [one, two])
    have eq : upd H4 q (.lst [one, two]) q = some (.lst [one, two]) := upd_same
    have nq : q ≠ b := hB2.ne hq
    replace hE := hE.same g5
    replace hO := hO.same g5
    replace h1 := h1.keep (Keep.of_same g5)
    replace h2 := h2.keep (Keep.of_same g5)
    replace hK2 := hK2.trans (Keep.of_same g5)
    replace hB2 := hB2.same g5
    clear hq
    generalize upd H4 q (.lst [one, two]) = H5 at *
    clear g5
    refine ⟨fun σ H' => Same H5 H' ∧ ∃ q : Addr, q ≠ b ∧ σ = [some (.ref b), some (.int dr), some (.int (i : Nat)), some one, some two, some (.ref e), some (.ref o), some (.ref q), v8, v9] ∧ H' q = some (.lst (toldOf i one two)), ?_, ?_⟩
    · refine ⟨_, rfl, (by show 2 ≤ sizeLine; decide), fun l hl => ⟨l, _, rfl, .inl (SqL.of upd_same), rfl, rfl, _, rfl, ?_⟩⟩
      have gl := same_new hl (.lst [.int 4, .int 6])
      rw [show (if false = true then !inV (.int (i : Nat)) [.int 4, .int 6] else inV (.int (i : Nat)) [.int 4, .int 6]) = decide (i = 4 ∨ i = 6) from in46 hi]
      refine ite2 (fun c => ?_) (fun c => ?_)
      · have c' : i = 4 ∨ i = 6 := by simpa using c
        refine ⟨_, rfl, (by show 1 ≤ sizeLine; decide), fun m hm => ⟨gl.trans (same_new hm _), m, (hB2.same gl).ne hm, rfl, ?_⟩⟩
        unfold toldOf
        rw [if_pos c', upd_same]
      have c1 : ¬ (i = 4 ∨ i = 6) := by simpa using c
      refine ⟨_, rfl, (by show 3 ≤ sizeLine; decide), fun m hm => ⟨m, _, rfl, .inl (SqL.of upd_same), rfl, rfl, _, rfl, ?_⟩⟩
      have gm := gl.trans (same_new hm (.lst [.int 1, .int 7, .int 9]))
      rw [show (if false = true then !inV (.int (i : Nat)) [.int 1, .int 7, .int 9] else inV (.int (i : Nat)) [.int 1, .int 7, .int 9]) = decide (i = 1 ∨ i = 7 ∨ i = 9) from in179 hi]
      refine ite2 (fun c => ?_) (fun c => ?_)
      · have c' : i = 1 ∨ i = 7 ∨ i = 9 := by simpa using c
        refine ⟨_, rfl, (by show 1 ≤ sizeLine; decide), fun n hn => ⟨gm.trans (same_new hn _), n, (hB2.same gm).ne hn, rfl, ?_⟩⟩
        unfold toldOf
        rw [if_neg c1, if_pos c', upd_same]
      have c2 : ¬ (i = 1 ∨ i = 7 ∨ i = 9) := by simpa using c
      refine ⟨gm, q, nq, rfl, ?_⟩
      unfold toldOf
      rw [if_neg c1, if_neg c2]
      exact gm _ _ eq
    clear eq nq
    clear q
    rintro σ H6 ⟨g6, q, nq, rfl, eq⟩
    replace hE := hE.same g6
    replace hO := hO.same g6
    replace h1 := h1.keep (Keep.of_same g6)
    replace h2 := h2.keep (Keep.of_same g6)
    replace hK2 := hK2.trans (Keep.of_same g6)
    replace hB2 := hB2.same g6
    clear g6
    refine ⟨_, rfl, _, rfl, i, e, de, one, two, rfl, hi, hE, fun p H7 g7 hp ep => ⟨_, rfl, b, _, _, rfl, EqV.le (eq_two (n := 5) (hB2.ne hp) nq ep (g7 _ _ eq) told_len (told_all (h1.keep (Keep.of_same g7)) (h2.keep (Keep.of_same g7)))) (by decide), fun H8 g8 => ⟨_, rfl, iteF ?_⟩⟩⟩
    replace g8 := g7.trans g8
    replace hE := hE.same g8
    replace hO := hO.same g8
    replace hK2 := hK2.trans (Keep.of_same g8)
    replace hB2 := hB2.same g8
    clear g7 g8 ep hp h1 h2 eq
    refine ⟨fun σ H' => Same H8 H' ∧ σ = [some (.ref b), some (.int dr), some (.int (i : Nat)), some one, some two, some (.ref e), some (.ref o), some (.ref q), v8, v9], ?_, ?_⟩
    · refine ⟨_, rfl, _, rfl, i, o, od, .int 77, .str "other", rfl, hi, hO, fun p H9 g9 hp ep => ?_⟩
      have hB9 := hB2.same g9
      have np : p ≠ b := hB2.ne hp
      refine ⟨_, rfl, (by show 2 ≤ sizeLine; decide), fun l hl => ⟨l, _, rfl, .inl (SqL.of upd_same), rfl, rfl, _, rfl, ?_⟩⟩
      have gl := same_new hl (.lst [.int 4, .int 6])
      rw [show (if false = true then !inV (.int (i : Nat)) [.int 4, .int 6] else inV (.int (i : Nat)) [.int 4, .int 6]) = decide (i = 4 ∨ i = 6) from in46 hi]
      refine ite2 (fun c => ?_) (fun c => ?_)
      · have c' : i = 4 ∨ i = 6 := by simpa using c
        refine ⟨(by show 1 ≤ sizeLine; decide), fun m hm => ?_⟩
        have gm := gl.trans (same_new hm (.lst [.int 77]))
        have ep' := gm _ _ ep
        unfold toldOf at ep'
        rw [if_pos c'] at ep'
        exact ⟨b, _, _, rfl, EqV.le (eq_two (n := 5) np ((hB9.same gl).ne hm) ep' upd_same (by decide) (ac (eqI _) an)) (by decide), fun H8 g8 => ⟨_, rfl, iteF ⟨g9.trans (gm.trans g8), rfl⟩⟩⟩
      have c1 : ¬ (i = 4 ∨ i = 6) := by simpa using c
      refine ⟨_, rfl, (by show 3 ≤ sizeLine; decide), fun m hm => ⟨m, _, rfl, .inl (SqL.of upd_same), rfl, rfl, _, rfl, ?_⟩⟩
      have gm := gl.trans (same_new hm (.lst [.int 1, .int 7, .int 9]))
      rw [show (if false = true then !inV (.int (i : Nat)) [.int 1, .int 7, .int 9] else inV (.int (i : Nat)) [.int 1, .int 7, .int 9]) = decide (i = 1 ∨ i = 7 ∨ i = 9) from in179 hi]
      refine ite2 (fun c => ?_) (fun c => ?_)
      · have c' : i = 1 ∨ i = 7 ∨ i = 9 := by simpa using c
        refine ⟨(by show 1 ≤ sizeLine; decide), fun n hn => ?_⟩
        have gn := gm.trans (same_new hn (.lst [.str "other"]))
        have ep' := gn _ _ ep
        unfold toldOf at ep'
        rw [if_neg c1, if_pos c'] at ep'
        exact ⟨b, _, _, rfl, EqV.le (eq_two (n := 5) np ((hB9.same gm).ne hn) ep' upd_same (by decide) (ac (EqV.sc (x := .str "other") trivial) an)) (by decide), fun H8 g8 => ⟨_, rfl, iteF ⟨g9.trans (gn.trans g8), rfl⟩⟩⟩
      have c2 : ¬ (i = 1 ∨ i = 7 ∨ i = 9) := by simpa using c
      refine ⟨(by show 2 ≤ sizeLine; decide), fun n hn => ?_⟩
      have gn := gm.trans (same_new hn (.lst [.int 77, .str "other"]))
      have ep' := gn _ _ ep
      unfold toldOf at ep'
      rw [if_neg c1, if_neg c2] at ep'
      exact ⟨b, _, _, rfl, EqV.le (eq_two (n := 5) np ((hB9.same gm).ne hn) ep' upd_same (by decide) (ac (eqI _) (ac (EqV.sc (x := .str "other") trivial) an))) (by decide), fun H8 g8 => ⟨_, rfl, iteF ⟨g9.trans (gn.trans g8), rfl⟩⟩⟩
    rintro σ H9 ⟨g9, rfl⟩
    replace hE := hE.same g9
    replace hK2 := hK2.trans (Keep.of_same g9)
    replace hB2 := hB2.same g9
    clear g9 hO
    refine ⟨fun σ H' => H9 = H' ∧ σ = [some (.ref b), some (.int dr), some (.int (i : Nat)), some one, some two, some (.ref e), some (.ref o), some (.ref q), some (.int (groupOf i : Nat)), v9], ?_, ?_⟩
    · refine ⟨_, rfl, _, _, rfl, rfl, _, rfl, ite2 (fun c => ?_) (fun c => ?_)⟩
      · have c' : i < 6 := by
          have : (i : Int) < 6 := of_decide_eq_true c
          omega
        refine ⟨rfl, ?_⟩
        unfold groupOf
        rw [if_pos c']
        rfl
      have c1 : ¬ i < 6 := fun z => c (decide_eq_true (by omega))
      refine ⟨_, rfl, _, _, rfl, rfl, _, rfl, ite2 (fun c => ?_) (fun c => ?_)⟩
      · have c' : i < 8 := by
          have : (i : Int) < 8 := of_decide_eq_true c
          omega
        refine ⟨rfl, ?_⟩
        unfold groupOf
        rw [if_neg c1, if_pos c']
        rfl
      have c2 : ¬ i < 8 := fun z => c (decide_eq_true (by omega))
      refine ⟨rfl, ?_⟩
      unfold groupOf
      rw [if_neg c1, if_neg c2]
      rfl
    rintro σ H' ⟨rfl, rfl⟩
    have gl3 : grpL i = [decide (groupOf i = 0), decide (groupOf i = 1), decide (groupOf i = 2)].map V.bl := rfl
    -- bases
    refine ⟨_, rfl, i, e, de, _, rfl, hi, hE, fun p H7 g7 hp ep => ⟨_, rfl, rfl, _, rfl, rfl, _, rfl, rfl, (by show 3 ≤ sizeLine; decide), fun l hl => ?_⟩⟩
    rw [grp_eq hi]
    have gl := same_new hl (.lst (grpL i))
    refine ⟨b, _, _, rfl, EqV.le (eq_two (n := 5) (hB2.ne hp) ((hB2.same g7).ne hl) (gl _ _ ep) upd_same (by show 3 ≤ 1000; decide) (gl3 ▸ bl_all _)) (by decide), fun H8 g8 => ⟨_, rfl, iteF ?_⟩⟩
    replace g8 := g7.trans (gl.trans g8)
    replace hE := hE.same g8
    replace hK2 := hK2.trans (Keep.of_same g8)
    replace hB2 := hB2.same g8
    clear gl g7 g8 hp ep hl
    refine ⟨_, rfl, i, e, de, _, rfl, hi, hE, fun p H7 g7 hp ep => ⟨_, rfl, rfl, _, rfl, rfl, _, rfl, rfl, (by show 3 ≤ sizeLine; decide), fun l hl => ?_⟩⟩
    rw [grp_eq hi]
    have gl := same_new hl (.lst (grpL i))
    refine ⟨b, _, _, rfl, EqV.le (eq_two (n := 5) (hB2.ne hp) ((hB2.same g7).ne hl) (gl _ _ ep) upd_same (by show 3 ≤ 1000; decide) (gl3 ▸ bl_all _)) (by decide), fun H8 g8 => ⟨_, rfl, iteF ?_⟩⟩
    replace g8 := g7.trans (gl.trans g8)
    replace hE := hE.same g8
    replace hK2 := hK2.trans (Keep.of_same g8)
    replace hB2 := hB2.same g8
    clear gl g7 g8 hp ep hl
    refine ⟨_, rfl, i, e, de, _, rfl, hi, hE, fun p H7 g7 hp ep => ⟨10, rfl, by decide, by decide, fun D hD => lc_range (lo := 0) (n := 10) (fun j Hx => Same H7 Hx ∧ Hx D = some (.lst ((List.range j).map fun k => .bl (decide (i = k)))))
      ⟨same_new hD _, upd_same⟩ ?_ ?_⟩⟩
    · rintro j Hx hj ⟨gs, eD⟩
      refine ⟨rfl, _, rfl, _, rfl, rfl, _, eD, ?_, fun x o ho => ?_, ?_⟩
      · rw [List.length_map, List.length_range]
        exact small1000 (by omega)
      · rw [upd_ne (ne_of_none ho hD)]
        exact gs _ _ ho
      · rw [upd_same, range_map]
        have : decide (V.int (i : Nat) = V.int (0 + (j : Nat))) = decide (i = j) := by
          rw [Int.zero_add]
          simp
          omega
        rw [this]
    rintro Hx ⟨gs, eD⟩
    refine ⟨b, _, _, rfl, EqV.le (eq_two (n := 5) (hB2.ne hp) ((hB2.same g7).ne hD) (gs _ _ ep) eD (by show 10 ≤ 1000; decide) (fun v hv => ?_)) (by decide), fun H8 g8 => ⟨_, rfl, iteF ?_⟩⟩
    · obtain ⟨z, _, rfl⟩ := List.mem_map.mp hv
      exact eqB _
    replace g8 := g7.trans (gs.trans g8)
    exact ⟨⟨_, _, _, _, _, _, _, _, rfl⟩, hB2.same g8, hK2.trans (Keep.of_same g8)⟩
end
end K0

set_option maxRecDepth 100000
set_option maxHeartbeats 4000000
namespace K0
open PySem L2

theorem off (l : List Addr) : ∃ b : Addr, ∀ a ∈ l, a ≠ b := by
  have h : ∃ b : Addr, ∀ a ∈ l, a < b := by
    induction l with
    | nil => exact ⟨0, fun a h => by cases h⟩
    | cons x l ih =>
      obtain ⟨b, h⟩ := ih
      refine ⟨max b (x + 1), fun a ha => ?_⟩
      rcases List.mem_cons.mp ha with rfl | ha
      · exact Nat.lt_of_lt_of_le (Nat.lt_succ_self _) (Nat.le_max_right _ _)
      · exact Nat.lt_of_lt_of_le (h a ha) (Nat.le_max_left _ _)
  obtain ⟨b, h⟩ := h
  exact ⟨b, fun a ha => Nat.ne_of_lt (h a ha)⟩
theorem root_listed : ∀ kv ∈ listedP, rootOf kv.1 = some kv.2 := by decide
theorem anyI' {K : PySem.W.Frag} {C b : Addr} {H : Hp} (i : Int) : AnyV K C b H (.int i) := .inl (eqI i)
theorem eq_self2 {K : PySem.W.Frag} {b : Addr} {H : Hp} {n : Nat} {xs : List V} (hx : ∀ v ∈ xs, EqV K b H n v v) : ∀ (i : Nat) (u v : V), xs[i]? = some u → xs[i]? = some v → EqV K b H n u v := fun i u v hu hv => by
  have e : u = v := Option.some.inj (hu.symm.trans hv)
  subst e
  exact hx u (List.mem_of_getElem? hu)
def spLaw (K : PySem.W.Frag) : Sp := fun vs H Q _ => ∃ (a : Addr) (ns : List Int), vs = [.ref a] ∧ SqL K H a (ns.map V.int) ∧ ns.length ≤ 63 ∧ ∀ H', Q (.bl true) H'
section
variable {P : Program} {w : World} {K : PySem.W.Frag} {mg : Str → Option Value} {base : Heap}
theorem ok_law (T : Txt K mg) : FnOk P w K mg base CX0 10 T.f_law T.fd_law ["script"] (spLaw K) := by
  refine T.F_law.ok sc_law (fun vs H Q E h => ?_) (fun cdv A outer s H vs Q E hr h => ?_)
  · obtain ⟨a, ns, rfl, _⟩ := h
    rfl
  · obtain ⟨a, ns, rfl, ha, hn, k⟩ := h
    refine ⟨_, (pss_cons (ps_set (i := 1) sc_law.nd rfl (Or.inl rfl) (pe_call (ok_box T) (hr.mono (by decide)) (by rfl) T.g_box T.F_box.kp T.b_box .nil pass0 (pa_cons (pv 0) pa_nil)))
      (pss_cons (ps_if (pt_not (pt_val (pe_call (ok_errors T) (hr.mono (by decide)) (by rfl) T.g_errors T.F_errors.kp T.b_errors .nil pass0 (pa_cons (pv 1) pa_nil)))) (pss_one (ps_ret pe_bl)) pss_nil)
      (C8.pss_cut (ps_if (PW.pt (pw_or (pt_not (pt_val (pe_call (ok_same T 8) (hr.mono (by decide)) (by rfl) T.g_same T.F_same.kp T.b_same .nil pass0 (pa_cons (pe_glob (v := .ref T.t_PRIMES) (by rfl) T.gP rfl) (pa_cons (pe_callTy call_tuple_of (by rfl) T.z_tuple (by decide +kernel) (pa_cons (pe_call0 (ok_listed T) (hr.mono (by decide)) (by rfl) T.g_listed T.F_listed.kp T.b_listed .nil pass0) pa_nil)) pa_nil))))) (pw_or1 (pt_not (pt_val (pe_call (ok_same T 8) (hr.mono (by decide)) (by rfl) T.g_same T.F_same.kp T.b_same .nil pass0 (pa_cons (pe_glob (v := .ref T.t_ROWS) (by rfl) T.gR rfl) (pa_cons (pe_tup (pa_cons pe_int (pa_cons pe_int (pa_cons pe_int (pa_cons pe_int (pa_cons pe_int pa_nil)))))) pa_nil)))))))) (pss_one (ps_ret pe_bl)) pss_nil)
      (pss_cons (ps_for PassesOwn.never rfl (pi_list (pe_call0 (ok_listed T) (hr.mono (by decide)) (by rfl) T.g_listed T.F_listed.kp T.b_listed .nil pass0)) (pg_tup (by rfl) (pgs_cons (pg_name (i := 2) sc_law.nd rfl (Or.inl rfl)) (pgs_cons (pg_name (i := 3) sc_law.nd rfl (Or.inl rfl)) pgs_nil))) (pss_cons (ps_if (pt_not (pt_val (pe_call (ok_same T 8) (hr.mono (by decide)) (by rfl) T.g_same T.F_same.kp T.b_same .nil pass0 (pa_cons (pe_call (ok_generator0 T) (hr.mono (by decide)) (by rfl) T.g_generator T.F_generator.kp T.b_generator .nil pass0 (pa_cons (pv 2) pa_nil)) (pa_cons (pv 3) pa_nil))))) (pss_one (ps_ret pe_bl)) pss_nil)
      (pss_one (ps_for PassesOwn.never rfl (pi_tup (pe_glob (v := .ref T.t_ROWS) (by rfl) T.gR rfl)) (pg_name (i := 4) sc_law.nd rfl (Or.inl rfl)) (pss_one (ps_if (pt_not (pt_val (pe_call (ok_same T 8) (hr.mono (by decide)) (by rfl) T.g_same T.F_same.kp T.b_same .nil pass0 (pa_cons (pe_call (ok_fits T) (hr.mono (by decide)) (by rfl) T.g_fits T.F_fits.kp T.b_fits .nil pass0 (pa_cons (pv 2) (pa_cons (pv 4) pa_nil))) (pa_cons (pe_call (ok_fitting T) (hr.mono (by decide)) (by rfl) T.g_fitting T.F_fitting.kp T.b_fitting .nil pass0 (pa_cons (pv 2) (pa_cons (pv 4) pa_nil))) pa_nil))))) (pss_one (ps_ret pe_bl)) pss_nil))))))
      (pss_cons (ps_if (PW.pt (pw_or (pt_not (pt_val (pe_call (ok_numbers T) (hr.mono (by decide)) (by rfl) T.g_numbers T.F_numbers.kp T.b_numbers .nil pass0 (pa_cons (pv 1) pa_nil)))) (pw_or1 (pt_not (pt_val (pe_call (ok_powers T) (hr.mono (by decide)) (by rfl) T.g_powers T.F_powers.kp T.b_powers .nil pass0 (pa_cons (pv 1) pa_nil))))))) (pss_one (ps_ret pe_bl)) pss_nil)
      (pss_one (ps_ret (pe_and (pe_call (ok_same T 8) (hr.mono (by decide)) (by rfl) T.g_same T.F_same.kp T.b_same .nil pass0 (pa_cons (pe_callN0 (ok_generator0 T) (hr.mono (by decide)) (by rfl) T.g_generator T.F_generator.kp T.kb_generator pass0 (pk_cons pe_int pk_nil)) (pa_cons pe_int pa_nil))) (pe_one (pe_call (ok_same T 8) (hr.mono (by decide)) (by rfl) T.g_same T.F_same.kp T.b_same .nil pass0 (pa_cons (pe_call (ok_fits T) (hr.mono (by decide)) (by rfl) T.g_fits T.F_fits.kp T.b_fits .nil pass0 (pa_cons pe_int (pa_cons pe_int pa_nil))) (pa_cons pe_bl pa_nil)))))))))))), ?_⟩
    refine ⟨_, rfl, a, ns, rfl, ha, hn, fun b H1 g1 hb1 hB1 => ?_⟩
    refine ⟨_, rfl, b, rfl, hB1, fun H2 hB2 hK2 => ⟨_, rfl, iteF ?_⟩⟩
    refine ⟨fun σ H' => σ = [some (.ref a), some (.ref b), none, none, none] ∧ Same H2 H', ?_, ?_⟩
    · refine ⟨rfl, fun l ps H4 g4 hl0 hps el hp => ⟨l, _, rfl, .inl ⟨SqL.of el, fun q hq => ?_⟩⟩⟩
      obtain ⟨hl, hat⟩ := paired_at hp
      obtain ⟨hl2, hat2⟩ := paired_at T.lPs
      have g5 := same_new hq (.tup (ps.map V.ref))
      have eq : upd H4 q (.tup (ps.map V.ref)) q = some (.tup (ps.map V.ref)) := upd_same
      generalize upd H4 q (.tup (ps.map V.ref)) = H5 at g5 eq ⊢
      obtain ⟨bb, hbb⟩ := off (T.t_PRIMES :: q :: (T.pairs ++ ps))
      have n1 : T.t_PRIMES ≠ bb := hbb _ List.mem_cons_self
      have n2 : q ≠ bb := hbb _ (List.mem_cons_of_mem _ List.mem_cons_self)
      have l7 : listedP.length = 7 := rfl
      obtain ⟨o, its, m, q1, q2, _, q3, q4, q5⟩ := T.lP
      refine ⟨bb, .ref T.t_PRIMES, .ref q, rfl, .inr ⟨T.t_PRIMES, q, T.pairs.map V.ref, ps.map V.ref, rfl, rfl, n1, n2, .inr ⟨.inr ⟨o, its, m, q1, q2, q3, q4, q5⟩, SqT.of eq⟩, ?_, ?_, fun i u v hu hv => ?_⟩, fun H6 g6 => ⟨_, rfl, iteF ?_⟩⟩
      · rw [List.length_map, hl2, l7]
        decide
      · rw [List.length_map, List.length_map, hl2, hl]
      · rw [List.getElem?_map] at hu hv
        obtain ⟨p1, e1, rfl⟩ := Option.map_eq_some_iff.mp hu
        obtain ⟨p2, e2, rfl⟩ := Option.map_eq_some_iff.mp hv
        have i7 : i < listedP.length := by
          have := (List.getElem?_eq_some_iff.mp e1).1
          omega
        have e3 : listedP[i]? = some listedP[i] := List.getElem?_eq_getElem i7
        refine .inr ⟨p1, p2, _, _, rfl, rfl, hbb _ ?_, hbb _ ?_, .inr ⟨.inr (hat2 i _ _ e1 e3), SqT.of (g5 _ _ (hat i _ _ e2 e3))⟩, by simp, rfl, eq_self2 (ac (eqI _) (ac (eqI _) an))⟩
        · exact List.mem_cons_of_mem _ (List.mem_cons_of_mem _ (List.mem_append_left _ (List.mem_of_getElem? e1)))
        · exact List.mem_cons_of_mem _ (List.mem_cons_of_mem _ (List.mem_append_right _ (List.mem_of_getElem? e2)))
      refine ⟨(by show 5 ≤ sizeLine; decide), fun r hr => ?_⟩
      obtain ⟨bc, hbc⟩ := off [T.t_ROWS, r]
      have g7 := same_new hr (.tup [.int 4, .int 8, .int 16, .int 32, .int 64])
      refine ⟨bc, _, _, rfl, .inr ⟨T.t_ROWS, r, [.int 4, .int 8, .int 16, .int 32, .int 64], _, rfl, rfl, hbc _ List.mem_cons_self, hbc _ (List.mem_cons_of_mem _ List.mem_cons_self), .inr ⟨.inr T.lR, SqT.of upd_same⟩, by decide, rfl, eq_self2 (ac (eqI _) (ac (eqI _) (ac (eqI _) (ac (eqI _) (ac (eqI _) an)))))⟩, fun H8 g8 => ⟨_, rfl, iteF ?_⟩⟩
      exact ⟨rfl, g4.trans (g5.trans (g6.trans (g7.trans g8)))⟩
    rintro σ H3 ⟨rfl, g3⟩
    have hB3 := hB2.same g3
    clear g3 hB2
    refine ⟨rfl, fun l ps H4 g4 hl0 hps el hp => ?_⟩
    obtain ⟨hl, hat⟩ := paired_at hp
    replace hB3 := hB3.same g4
    refine ⟨l, rfl, ⟨_, SqL.of el⟩, for_list (K := K) (a := l) (xs := ps.map V.ref) (fun i σ Hx => (∃ v2 v3 v4, σ = [some (.ref a), some (.ref b), v2, v3, v4]) ∧ Same H4 Hx)
      ⟨⟨_, _, _, rfl⟩, Same.refl _⟩ (fun i σ Hx _ ⟨_, gs⟩ => SqL.of (gs _ _ el)) ?_ ?_⟩
    · rintro j w' σ Hx hj ⟨⟨v2, v3, v4, rfl⟩, gs⟩
      have hj2 : j < ps.length := by
        have := (List.getElem?_eq_some_iff.mp hj).1
        rwa [List.length_map] at this
      have e1 : ps[j]? = some ps[j] := List.getElem?_eq_getElem hj2
      have e2 : listedP[j]? = some listedP[j] := List.getElem?_eq_getElem (by omega)
      have ez : w' = .ref ps[j] := by
        rw [List.getElem?_map, e1] at hj
        exact (Option.some.inj hj).symm
      subst ez
      have et := gs _ _ (hat j _ _ e1 e2)
      have er := root_listed _ (List.mem_of_getElem? e2)
      generalize listedP[j] = kv at *
      have hBx := hB3.same gs
      refine ⟨ps[j], _, rfl, SqT.of et, rfl, _, _, rfl, _, _, rfl, rfl, ?_⟩
      refine ⟨_, rfl, b, kv.1, kv.2, rfl, hBx, er, fun H5 g5 => ⟨_, rfl, b, _, _, rfl, eqI _, fun H6 g6 => ⟨_, rfl, iteF ?_⟩⟩⟩
      replace gs := gs.trans (g5.trans g6)
      replace hBx := hBx.same (g5.trans g6)
      clear g5 g6 et er
      refine ⟨T.t_ROWS, rfl, ⟨_, .inr T.lR⟩, for_tup (K := K) (a := T.t_ROWS) (xs := [.int 4, .int 8, .int 16, .int 32, .int 64]) (fun i σ Hy => (∃ v4, σ = [some (.ref a), some (.ref b), some (.int kv.1), some (.int kv.2), v4]) ∧ Same H4 Hy ∧ BoxAt Hy b)
        ⟨⟨_, rfl⟩, gs, hBx⟩ (fun i σ Hy _ _ => .inr T.lR) ?_ (fun σ Hy ⟨⟨v4, e⟩, gy, _⟩ => ⟨⟨_, _, _, e⟩, gy⟩)⟩
      rintro jj x σ Hy hjj ⟨⟨v4, rfl⟩, gy, hBy⟩
      obtain ⟨z, _, rfl⟩ := ints_of (l := [4, 8, 16, 32, 64]) hjj
      refine ⟨_, rfl, _, rfl, b, _, _, rfl, anyI' _, anyI' _, hBy, fun H7 g7 => ⟨_, rfl, _, rfl, b, _, _, rfl, anyI' _, anyI' _, hBy.same g7, fun H8 g8 => ⟨b, _, _, rfl, eqB _, fun H9 g9 => ⟨_, rfl, iteF ?_⟩⟩⟩⟩
      exact ⟨⟨_, rfl⟩, gy.trans (g7.trans (g8.trans g9)), hBy.same (g7.trans (g8.trans g9))⟩
    rintro σ Hx ⟨⟨v2, v3, v4, rfl⟩, gs⟩
    have hBx := hB3.same gs
    refine ⟨_, rfl, b, rfl, hBx, fun H5 hB5 hK5 => ⟨_, rfl, iteF ⟨_, rfl, b, rfl, hB5, fun H6 hB6 hK6 => ⟨_, rfl, iteF ?_⟩⟩⟩⟩
    have r257 : rootOf 257 = some 3 := by decide
    refine ⟨rfl, rfl, b, 257, 3, rfl, hB6, r257, fun H7 g7 => ⟨b, _, _, rfl, eqI _, fun H8 g8 => ⟨_, rfl, iteT ?_⟩⟩⟩
    have f193 : fitsB (.int 193) (.int 4) = true := by decide
    refine ⟨b, _, _, rfl, anyI' _, anyI' _, hB6.same (g7.trans g8), fun H9 g9 => ?_⟩
    rw [f193]
    exact ⟨b, _, _, rfl, eqB _, fun H10 _ => k H10⟩
end
end K0

set_option maxRecDepth 100000
set_option maxHeartbeats 4000000
namespace K0
open PySem L2
/-! ### from what the top has written to Txt -/
theorem def_ex {K : PySem.W.Frag} {h : Heap} {mg : Str → Option Value} (X : K.In h) (G : h.Ns mainGlobals mg) {x : Str} {st : Stmt} {f : Addr} {oc : Value} {od an : Option Addr} {osl : Array (Option Value)} {kV doc pm cdv ct : Value}
    (a : PySem.W.nsIn K mainGlobals x = some (some (.ref f)))
    (l : K.lookup f = some ⟨oc, od, .func (PySem.W.fnOf x x (defArgs st) (defBody st) (defScope st) .none kV doc pm an cdv ct), osl⟩)
    (c : PySem.W.codeIn K cdv x = true) (k : PySem.W.keepIn K (.ref f) = true) : ∃ (f : Addr) (fd : FuncData), Fun K x x st f fd ∧ mg x = some (.ref f) :=
  ⟨f, _, fun_mk l c k, PySem.W.mg_of X G a⟩
theorem ini_ex {K : PySem.W.Frag} {C : Addr} {q : Str} {st : Stmt} {f : Addr} {oc : Value} {od an : Option Addr} {osl : Array (Option Value)} {kV doc pm cdv ct : Value}
    (a : PySem.W.findIn K (.ref C) "__init__" = some (some (.ref f))) (t : PySem.W.typeIn K (.ref f) = some (.type "function"))
    (l : K.lookup f = some ⟨oc, od, .func (PySem.W.fnOf "__init__" q (defArgs st) (defBody st) (defScope st) .none kV doc pm an cdv ct), osl⟩)
    (c : PySem.W.codeIn K cdv q = true) (k : PySem.W.keepIn K (.ref f) = true) : ∃ (f : Addr) (fd : FuncData), Fun K "__init__" q st f fd ∧ PySem.W.findIn K (.ref C) "__init__" = some (some (.ref f)) ∧ PySem.W.typeIn K (.ref f) = some (.type "function") :=
  ⟨f, _, fun_mk l c k, a, t⟩
/-- the mro of a class of the program: itself, its base, a built-in error and that one's own -/
abbrev mroL (C B : Addr) (R : String) : List Value := [.ref C, .ref B, .type R, .type "Exception", .type "BaseException", .type "object"]
structure CP (K : PySem.W.Frag) (mg : Str → Option Value) (nm : Str) (C B : Addr) (R : String) : Prop where
  g : mg nm = some (.ref C)
  x : XgC K C
  subs : ∀ v, PySem.W.subIn K (.ref C) v = some ((mroL C B R).contains v)
  cl : PySem.W.isClsIn K C = true
structure BP (K : PySem.W.Frag) (mg : Str → Option Value) (nm : Str) (C : Addr) : Prop where
  g : mg nm = some (.ref C)
  cl : PySem.W.isClsIn K C = true
  ty : PySem.W.typeIn K (.ref C) = some (.type "type")
theorem bp_mk {K : PySem.W.Frag} {h : Heap} {mg : Str → Option Value} (X : K.In h) (G : h.Ns mainGlobals mg) {x : Str} {C : Addr} (a : PySem.W.nsIn K mainGlobals x = some (some (.ref C))) (cl : PySem.W.isClsIn K C = true) (ty : PySem.W.typeIn K (.ref C) = some (.type "type")) : BP K mg x C :=
  ⟨PySem.W.mg_of X G a, cl, ty⟩
theorem cp_mk {K : PySem.W.Frag} {h : Heap} {mg : Str → Option Value} (X : K.In h) (G : h.Ns mainGlobals mg) {R newId initId : String}
    (hR : PySem.ExcBaseFacts R newId initId [.type R, .type "Exception", .type "BaseException", .type "object"]) (hS : PySem.StoreFacts R [.type R, .type "Exception", .type "BaseException", .type "object"] "object.__setattr__" "object")
    (ho : ([.type R, .type "Exception", .type "BaseException", .type "object"] : List Value).contains (.type "object") = true)
    {x nm q : Str} {C B N : Addr} {bs : List Value} {sn : List Str} {sub : List Value} {ab : Bool} {col : Option Bool} {dd : Option Addr} {k0 k1 k2 k3 k5 : Option Value}
    (a : PySem.W.nsIn K mainGlobals x = some (some (.ref C)))
    (l : K.lookup C = some (excClassObj nm q C N bs [.ref B, .type R, .type "Exception", .type "BaseException", .type "object"] true sn sub ab col dd k0 k1 k2 k3 k5 newId))
    (sa : PySem.W.findIn K (.ref C) "__setattr__" = some (some (.builtin "object.__setattr__"))) (eC : PySem.W.subIn K (.ref C) (.type "BaseException") = some true) (tC : PySem.W.typeIn K (.ref C) = some (.type "type")) (kC : PySem.W.keepIn K (.ref C) = true)
    (ga : PySem.W.findIn K (.ref C) "__getattribute__" = some (some (.builtin "BaseException.__getattribute__"))) (gg : PySem.W.findIn K (.ref C) "__getattr__" = some none) (hd : PySem.W.hasDictIn K C = true)
    (ha : PySem.W.findIn K (.ref C) "__class__" = some (some (.builtin "object.__class__")))
    (hn : PySem.W.specialIn K (.builtin "object.__class__") "__get__" = some (some (.builtin "getset_descriptor.__get__"))) (ht : PySem.W.takesIn K (.builtin "object.__class__") = some true)
    (hm : PySem.W.mroIn K C (.type "object") = some true) (cl : PySem.W.isClsIn K C = true) : CP K mg x C B R := by
  refine ⟨PySem.W.mg_of X G a, ⟨⟨nm, q, N, bs, _, sn, sub, ab, col, dd, k0, k1, k2, k3, k5, R, newId, initId, _, hR, fun Y => ?_, ?_, fun self => ?_, l⟩, sa, eC, tC, kC, ga, gg, hd, ha, hn, ht, hm⟩, fun v => ?_, cl⟩
  · rw [List.contains_cons]
    rfl
  · rw [List.contains_cons, ho]
    rfl
  · rw [refuseLoop_ref, refuseLoop_ref]
    exact hS.passes self
  · show PySem.W.mroIn K C v = _
    unfold PySem.W.mroIn PySem.W.clsIn
    rw [l]
    rfl
theorem kit_ref {K : PySem.W.Frag} {mg : Str → Option Value} {nm : Str} {A B C : Addr} {R : String} (P : CP K mg nm A B R) (cl : PySem.W.isClsIn K C = true) (ty : PySem.W.typeIn K (.ref C) = some (.type "type")) :
    PySem.W.kitOne K (.ref A) (.ref C) = some (decide (C = A) || decide (C = B)) := by
  unfold PySem.W.kitOne
  by_cases e : A = C
  · subst e
    rw [if_pos (beq_self_eq_true _), decide_eq_true rfl]
    rfl
  · have e1 : ¬ ((Value.ref A == Value.ref C) = true) := fun z => e (by
      have := eq_of_beq z
      cases this
      rfl)
    rw [if_neg e1]
    unfold PySem.W.kitCls
    have e2 : ((PySem.W.clsIn K C).isSome && PySem.W.typeIn K (.ref C) == some (.type "type")) = true := by
      have cl' : (PySem.W.clsIn K C).isSome = true := cl
      rw [cl', ty]
      rfl
    show (if ((PySem.W.clsIn K C).isSome && PySem.W.typeIn K (.ref C) == some (.type "type")) = true then PySem.W.subIn K (.ref A) (.ref C) else none) = _
    rw [if_pos e2, P.subs]
    have c1 : (Value.ref C == Value.ref A) = decide (C = A) := by
      by_cases z : C = A
      · rw [z, decide_eq_true rfl]
        exact beq_self_eq_true _
      · rw [decide_eq_false z]
        exact beq_eq_false_iff_ne.mpr fun q => z (by cases q; rfl)
    have c2 : (Value.ref C == Value.ref B) = decide (C = B) := by
      by_cases z : C = B
      · rw [z, decide_eq_true rfl]
        exact beq_self_eq_true _
      · rw [decide_eq_false z]
        exact beq_eq_false_iff_ne.mpr fun q => z (by cases q; rfl)
    rw [List.contains_cons, List.contains_cons, c1, c2]
    cases decide (C = A) <;> cases decide (C = B) <;> rfl
theorem kit_tt {K : PySem.W.Frag} {mg : Str → Option Value} {nm : Str} {A B : Addr} {R t : String} {r : Bool} (P : CP K mg nm A B R) (hk : PySem.W.kitMeta t = true) (hr : ([.type R, .type "Exception", .type "BaseException", .type "object"] : List Value).contains (.type t) = r) :
    PySem.W.kitOne K (.ref A) (.type t) = some r := by
  show (if PySem.W.kitMeta t = true then PySem.W.subIn K (.ref A) (.type t) else none) = some r
  rw [if_pos hk, P.subs, List.contains_cons, List.contains_cons, hr]
  rfl
theorem kit_of {K : PySem.W.Frag} {C : Addr} {t : String} (cl : PySem.W.isClsIn K C = true) (ty : PySem.W.typeIn K (.ref C) = some (.type "type")) (h : PySem.W.subIn K (.type t) (.ref C) = some false) : PySem.W.kitOne K (.type t) (.ref C) = some false := by
  show (if ((PySem.W.clsIn K C).isSome && PySem.W.typeIn K (.ref C) == some (.type "type")) = true then PySem.W.subIn K (.type t) (.ref C) else none) = some false
  have cl' : (PySem.W.clsIn K C).isSome = true := cl
  have e2 : ((PySem.W.clsIn K C).isSome && PySem.W.typeIn K (.ref C) == some (.type "type")) = true := by
    rw [cl', ty]
    rfl
  rw [if_pos e2]
  exact h
theorem tup_at {K : PySem.W.Frag} {p : Addr} {us : List Value} {n : Nat} {sl : Array (Option Value)} {vs : List V} (l : K.lookup p = some ⟨.type "tuple", none, .seq us.toArray n, sl⟩) (hl : us.length ≤ sizeLine) (r : Vals vs us) :
    ∃ (o : Obj) (its : Array Value) (n : Nat), K.lookup p = some o ∧ o.cls = .type "tuple" ∧ o.dict = none ∧ o.data = .seq its n ∧ its.size ≤ sizeLine ∧ Vals vs its.toList :=
  ⟨_, us.toArray, n, l, rfl, rfl, rfl, by simpa using hl, by simpa using r⟩
theorem tup_at' {K : PySem.W.Frag} {p : Addr} {us : List Value} {n : Nat} {sl : Array (Option Value)} {vs : List V} (l : K.lookup p = some ⟨.type "tuple", none, .seq us.toArray n, sl⟩) (hl : us.length ≤ sizeLine) (r : Vals vs us) :
    ∃ (o : Obj) (its : Array Value) (n : Nat), K.lookup p = some o ∧ o.cls = .type "tuple" ∧ o.data = .seq its n ∧ its.size ≤ sizeLine ∧ Vals vs its.toList :=
  ⟨_, us.toArray, n, l, rfl, rfl, by simpa using hl, by simpa using r⟩
theorem one_of {K : PySem.W.Frag} {x q nm : Str} {st : Stmt} {f : Addr} {fd : FuncData} (F : Fun K x q st f fd)
    (h : ∀ (kV doc pm : Value) (an : Option Addr) (cdv ct v : Value), bindArgs (PySem.W.fnOf x q (defArgs st) (defBody st) (defScope st) .none kV doc pm an cdv ct) ⟨[v], []⟩ = pure [(nm, v)]) :
    ∀ (s : Shared) (v : Value), BindsTo s fd ⟨[v], []⟩ [(nm, v)] := fun s v => by
  obtain ⟨oc, od, kV, doc, pm, an, cdv, ct, osl, rfl, lk, hcd⟩ := F.ex
  exact .of_eq (h kV doc pm an cdv ct v)
abbrev Pr (K : PySem.W.Frag) (p : Addr) (kv : Int × Int) : Prop := ∃ (o : Obj) (its : Array Value) (n : Nat), K.lookup p = some o ∧ o.cls = .type "tuple" ∧ o.data = .seq its n ∧ its.size ≤ sizeLine ∧ Vals [.int kv.1, .int kv.2] its.toList
theorem pr_mk {K : PySem.W.Frag} {p : Addr} {a b : Int} {t1 t2 : Tok} {n : Nat} {sl : Array (Option Value)} (l : K.lookup p = some ⟨.type "tuple", none, .seq [Value.int a t1, Value.int b t2].toArray n, sl⟩) : Pr K p (a, b) :=
  tup_at' l (by show 2 ≤ sizeLine; decide) (.cons ⟨_, rfl⟩ (.cons ⟨_, rfl⟩ .nil))

theorem kgr_is_number {vs : List V} {us : List Value} {zs : List V} {ws : List Value} (_ : Vals vs us) (r : Vals zs ws) : Vals (kg_is_number vs zs) (kg_is_number us ws) := by
  cases r with
  | nil => exact .nil
  | cons a r =>
    cases r with
    | nil => exact .cons a .nil
    | cons b r =>
      cases r with
      | nil => exact .cons a (.cons b .nil)
      | cons c r =>
        cases r with
        | nil => exact .cons b (.cons c (.cons a .nil))
        | cons d r => exact .cons a (.cons b (.cons c (.cons d r)))
theorem kgr_fits {vs : List V} {us : List Value} {zs : List V} {ws : List Value} (_ : Vals vs us) (r : Vals zs ws) : Vals (kg_fits vs zs) (kg_fits us ws) := by
  cases r with
  | nil => exact .nil
  | cons a r =>
    cases r with
    | nil => exact .cons a .nil
    | cons b r =>
      cases r with
      | nil => exact .cons b (.cons a .nil)
      | cons c r => exact .cons a (.cons b (.cons c r))
theorem kgr_inverse {vs : List V} {us : List Value} {zs : List V} {ws : List Value} (_ : Vals vs us) (r : Vals zs ws) : Vals (kg_inverse vs zs) (kg_inverse us ws) := by
  cases r with
  | nil => exact .nil
  | cons a r =>
    cases r with
    | nil => exact .cons a .nil
    | cons b r =>
      cases r with
      | nil => exact .cons b (.cons a .nil)
      | cons c r => exact .cons a (.cons b (.cons c r))
theorem kgr_power {vs : List V} {us : List Value} {zs : List V} {ws : List Value} (_ : Vals vs us) (r : Vals zs ws) : Vals (kg_power vs zs) (kg_power us ws) := by
  cases r with
  | nil => exact .nil
  | cons a r =>
    cases r with
    | nil => exact .cons a .nil
    | cons b r =>
      cases r with
      | nil => exact .cons a (.cons b .nil)
      | cons c r =>
        cases r with
        | nil => exact .cons c (.cons b (.cons a .nil))
        | cons d r => exact .cons a (.cons b (.cons c (.cons d r)))
theorem kgr_generator {vs : List V} {us : List Value} {zs : List V} {ws : List Value} (_ : Vals vs us) (r : Vals zs ws) : Vals (kg_generator vs zs) (kg_generator us ws) := by
  cases r with
  | nil => exact .nil
  | cons a r =>
    cases r with
    | nil => exact .cons a .nil
    | cons b r => exact .cons a (.cons b r)
theorem build {P : Program} {w : World} {K : PySem.W.Frag} {h : Heap} {mg : Str → Option Value} {fa : Addr} (X : K.In h) (G : h.Ns mainGlobals mg) (hfa : mg "law" = some (.ref fa))
    {C_BadProgram C_BadLine C_BadPrime C_BadShape C_BadBook C_TooMany C_NotNear C_UnknownName C_Broken C_NotWaiting C_InvalidError C_UnknownError C_StateError tP tR p0 p1 p2 p3 p4 p5 p6 : Addr} {nP nR : Nat} {slP slR : Array (Option Value)} {u0 u1 u2 u3 u4 : Tok}
    (P_InvalidError : BP K mg "InvalidError" C_InvalidError)
    (P_UnknownError : BP K mg "UnknownError" C_UnknownError)
    (P_StateError : BP K mg "StateError" C_StateError)
    (P_BadProgram : CP K mg "BadProgram" C_BadProgram C_InvalidError "ValueError")
    (P_BadLine : CP K mg "BadLine" C_BadLine C_InvalidError "ValueError")
    (P_BadPrime : CP K mg "BadPrime" C_BadPrime C_InvalidError "ValueError")
    (P_BadShape : CP K mg "BadShape" C_BadShape C_InvalidError "ValueError")
    (P_BadBook : CP K mg "BadBook" C_BadBook C_InvalidError "ValueError")
    (P_TooMany : CP K mg "TooMany" C_TooMany C_InvalidError "ValueError")
    (P_NotNear : CP K mg "NotNear" C_NotNear C_UnknownError "LookupError")
    (P_UnknownName : CP K mg "UnknownName" C_UnknownName C_UnknownError "LookupError")
    (P_Broken : CP K mg "Broken" C_Broken C_StateError "RuntimeError")
    (P_NotWaiting : CP K mg "NotWaiting" C_NotWaiting C_StateError "RuntimeError")
    (D_is_whole : ∃ (f : Addr) (fd : FuncData), Fun K "is_whole" "is_whole" s_is_whole f fd ∧ mg "is_whole" = some (.ref f))
    (D_is_number : ∃ (f : Addr) (fd : FuncData), Fun K "is_number" "is_number" s_is_number f fd ∧ mg "is_number" = some (.ref f))
    (D_fits : ∃ (f : Addr) (fd : FuncData), Fun K "fits" "fits" s_fits f fd ∧ mg "fits" = some (.ref f))
    (D_generator : ∃ (f : Addr) (fd : FuncData), Fun K "generator" "generator" s_generator f fd ∧ mg "generator" = some (.ref f))
    (D_inverse : ∃ (f : Addr) (fd : FuncData), Fun K "inverse" "inverse" s_inverse f fd ∧ mg "inverse" = some (.ref f))
    (D_power : ∃ (f : Addr) (fd : FuncData), Fun K "power" "power" s_power f fd ∧ mg "power" = some (.ref f))
    (D_box : ∃ (f : Addr) (fd : FuncData), Fun K "_law_box" "_law_box" s_box f fd ∧ mg "_law_box" = some (.ref f))
    (D_draw : ∃ (f : Addr) (fd : FuncData), Fun K "_law_draw" "_law_draw" s_draw f fd ∧ mg "_law_draw" = some (.ref f))
    (D_of : ∃ (f : Addr) (fd : FuncData), Fun K "_law_of" "_law_of" s_of f fd ∧ mg "_law_of" = some (.ref f))
    (D_same : ∃ (f : Addr) (fd : FuncData), Fun K "_law_same" "_law_same" s_same f fd ∧ mg "_law_same" = some (.ref f))
    (D_prime : ∃ (f : Addr) (fd : FuncData), Fun K "_law_prime" "_law_prime" s_prime f fd ∧ mg "_law_prime" = some (.ref f))
    (D_number : ∃ (f : Addr) (fd : FuncData), Fun K "_law_number" "_law_number" s_number f fd ∧ mg "_law_number" = some (.ref f))
    (D_anything : ∃ (f : Addr) (fd : FuncData), Fun K "_law_anything" "_law_anything" s_anything f fd ∧ mg "_law_anything" = some (.ref f))
    (D_made : ∃ (f : Addr) (fd : FuncData), Fun K "_law_made" "_law_made" s_made f fd ∧ mg "_law_made" = some (.ref f))
    (D_named : ∃ (f : Addr) (fd : FuncData), Fun K "_law_named" "_law_named" s_named f fd ∧ mg "_law_named" = some (.ref f))
    (D_told : ∃ (f : Addr) (fd : FuncData), Fun K "_law_told" "_law_told" s_told f fd ∧ mg "_law_told" = some (.ref f))
    (D_bases : ∃ (f : Addr) (fd : FuncData), Fun K "_law_bases" "_law_bases" s_bases f fd ∧ mg "_law_bases" = some (.ref f))
    (D_roots : ∃ (f : Addr) (fd : FuncData), Fun K "_law_roots" "_law_roots" s_roots f fd ∧ mg "_law_roots" = some (.ref f))
    (D_classes : ∃ (f : Addr) (fd : FuncData), Fun K "_law_classes" "_law_classes" s_classes f fd ∧ mg "_law_classes" = some (.ref f))
    (D_errors : ∃ (f : Addr) (fd : FuncData), Fun K "_law_errors" "_law_errors" s_errors f fd ∧ mg "_law_errors" = some (.ref f))
    (D_is_plain : ∃ (f : Addr) (fd : FuncData), Fun K "_law_is_plain" "_law_is_plain" s_is_plain f fd ∧ mg "_law_is_plain" = some (.ref f))
    (D_listed : ∃ (f : Addr) (fd : FuncData), Fun K "_law_listed" "_law_listed" s_listed f fd ∧ mg "_law_listed" = some (.ref f))
    (D_fitting : ∃ (f : Addr) (fd : FuncData), Fun K "_law_fitting" "_law_fitting" s_fitting f fd ∧ mg "_law_fitting" = some (.ref f))
    (D_generators : ∃ (f : Addr) (fd : FuncData), Fun K "_law_generators" "_law_generators" s_generators f fd ∧ mg "_law_generators" = some (.ref f))
    (D_numbers : ∃ (f : Addr) (fd : FuncData), Fun K "_law_numbers" "_law_numbers" s_numbers f fd ∧ mg "_law_numbers" = some (.ref f))
    (D_turned : ∃ (f : Addr) (fd : FuncData), Fun K "_law_turned" "_law_turned" s_turned f fd ∧ mg "_law_turned" = some (.ref f))
    (D_powers : ∃ (f : Addr) (fd : FuncData), Fun K "_law_powers" "_law_powers" s_powers f fd ∧ mg "_law_powers" = some (.ref f))
    (D_law : ∃ (f : Addr) (fd : FuncData), Fun K "law" "law" s_law f fd ∧ mg "law" = some (.ref f))
    (I_BadProgram : ∃ (f : Addr) (fd : FuncData), Fun K "__init__" "BadProgram.__init__" s_iBadProgram f fd ∧ PySem.W.findIn K (.ref C_BadProgram) "__init__" = some (some (.ref f)) ∧ PySem.W.typeIn K (.ref f) = some (.type "function"))
    (I_BadLine : ∃ (f : Addr) (fd : FuncData), Fun K "__init__" "BadLine.__init__" s_iBadLine f fd ∧ PySem.W.findIn K (.ref C_BadLine) "__init__" = some (some (.ref f)) ∧ PySem.W.typeIn K (.ref f) = some (.type "function"))
    (I_BadPrime : ∃ (f : Addr) (fd : FuncData), Fun K "__init__" "BadPrime.__init__" s_iBadPrime f fd ∧ PySem.W.findIn K (.ref C_BadPrime) "__init__" = some (some (.ref f)) ∧ PySem.W.typeIn K (.ref f) = some (.type "function"))
    (I_BadShape : ∃ (f : Addr) (fd : FuncData), Fun K "__init__" "BadShape.__init__" s_iBadShape f fd ∧ PySem.W.findIn K (.ref C_BadShape) "__init__" = some (some (.ref f)) ∧ PySem.W.typeIn K (.ref f) = some (.type "function"))
    (I_BadBook : ∃ (f : Addr) (fd : FuncData), Fun K "__init__" "BadBook.__init__" s_iBadBook f fd ∧ PySem.W.findIn K (.ref C_BadBook) "__init__" = some (some (.ref f)) ∧ PySem.W.typeIn K (.ref f) = some (.type "function"))
    (I_TooMany : ∃ (f : Addr) (fd : FuncData), Fun K "__init__" "TooMany.__init__" s_iTooMany f fd ∧ PySem.W.findIn K (.ref C_TooMany) "__init__" = some (some (.ref f)) ∧ PySem.W.typeIn K (.ref f) = some (.type "function"))
    (I_NotNear : ∃ (f : Addr) (fd : FuncData), Fun K "__init__" "NotNear.__init__" s_iNotNear f fd ∧ PySem.W.findIn K (.ref C_NotNear) "__init__" = some (some (.ref f)) ∧ PySem.W.typeIn K (.ref f) = some (.type "function"))
    (I_UnknownName : ∃ (f : Addr) (fd : FuncData), Fun K "__init__" "UnknownName.__init__" s_iUnknownName f fd ∧ PySem.W.findIn K (.ref C_UnknownName) "__init__" = some (some (.ref f)) ∧ PySem.W.typeIn K (.ref f) = some (.type "function"))
    (I_Broken : ∃ (f : Addr) (fd : FuncData), Fun K "__init__" "Broken.__init__" s_iBroken f fd ∧ PySem.W.findIn K (.ref C_Broken) "__init__" = some (some (.ref f)) ∧ PySem.W.typeIn K (.ref f) = some (.type "function"))
    (I_NotWaiting : ∃ (f : Addr) (fd : FuncData), Fun K "__init__" "NotWaiting.__init__" s_iNotWaiting f fd ∧ PySem.W.findIn K (.ref C_NotWaiting) "__init__" = some (some (.ref f)) ∧ PySem.W.typeIn K (.ref f) = some (.type "function"))
    (no_BadProgram_line : PySem.W.findIn K (.ref C_BadProgram) "line" = some none)
    (no_BadProgram_why : PySem.W.findIn K (.ref C_BadProgram) "why" = some none)
    (no_BadLine_field : PySem.W.findIn K (.ref C_BadLine) "field" = some none)
    (no_BadPrime_p : PySem.W.findIn K (.ref C_BadPrime) "p" = some none)
    (no_BadPrime_rows : PySem.W.findIn K (.ref C_BadPrime) "rows" = some none)
    (no_BadShape_what : PySem.W.findIn K (.ref C_BadShape) "what" = some none)
    (no_BadShape_count : PySem.W.findIn K (.ref C_BadShape) "count" = some none)
    (no_BadBook_line : PySem.W.findIn K (.ref C_BadBook) "line" = some none)
    (no_TooMany_what : PySem.W.findIn K (.ref C_TooMany) "what" = some none)
    (no_TooMany_most : PySem.W.findIn K (.ref C_TooMany) "most" = some none)
    (no_NotNear_e : PySem.W.findIn K (.ref C_NotNear) "e" = some none)
    (no_UnknownName_name : PySem.W.findIn K (.ref C_UnknownName) "name" = some none)
    (no_Broken_line : PySem.W.findIn K (.ref C_Broken) "line" = some none)
    (no_Broken_why : PySem.W.findIn K (.ref C_Broken) "why" = some none)
    (no_NotWaiting_what : PySem.W.findIn K (.ref C_NotWaiting) "what" = some none)
    (hN : ([C_BadProgram, C_BadLine, C_BadPrime, C_BadShape, C_BadBook, C_TooMany, C_NotNear, C_UnknownName, C_Broken, C_NotWaiting, C_InvalidError, C_UnknownError, C_StateError] : List Addr).Nodup)
    (z_LookupError : PySem.W.nsIn K mainGlobals "LookupError" = some none)
    (z_RuntimeError : PySem.W.nsIn K mainGlobals "RuntimeError" = some none)
    (z_ValueError : PySem.W.nsIn K mainGlobals "ValueError" = some none)
    (z_ZeroDivisionError : PySem.W.nsIn K mainGlobals "ZeroDivisionError" = some none)
    (z_abs : PySem.W.nsIn K mainGlobals "abs" = some none)
    (z_all : PySem.W.nsIn K mainGlobals "all" = some none)
    (z_bool : PySem.W.nsIn K mainGlobals "bool" = some none)
    (z_dict : PySem.W.nsIn K mainGlobals "dict" = some none)
    (z_int : PySem.W.nsIn K mainGlobals "int" = some none)
    (z_isinstance : PySem.W.nsIn K mainGlobals "isinstance" = some none)
    (z_len : PySem.W.nsIn K mainGlobals "len" = some none)
    (z_list : PySem.W.nsIn K mainGlobals "list" = some none)
    (z_max : PySem.W.nsIn K mainGlobals "max" = some none)
    (z_min : PySem.W.nsIn K mainGlobals "min" = some none)
    (z_range : PySem.W.nsIn K mainGlobals "range" = some none)
    (z_str : PySem.W.nsIn K mainGlobals "str" = some none)
    (z_tuple : PySem.W.nsIn K mainGlobals "tuple" = some none)
    (z_zip : PySem.W.nsIn K mainGlobals "zip" = some none)
    (aP : PySem.W.nsIn K mainGlobals "PRIMES" = some (some (.ref tP)))
    (lP : K.lookup tP = some ⟨.type "tuple", none, .seq [Value.ref p0, Value.ref p1, Value.ref p2, Value.ref p3, Value.ref p4, Value.ref p5, Value.ref p6].toArray nP, slP⟩)
    (l0 : Pr K p0 (193, 5))
    (l1 : Pr K p1 (257, 3))
    (l2 : Pr K p2 (769, 11))
    (l3 : Pr K p3 (7681, 17))
    (l4 : Pr K p4 (12289, 11))
    (l5 : Pr K p5 (998244353, 3))
    (l6 : Pr K p6 (2013265921, 31))
    (aR : PySem.W.nsIn K mainGlobals "ROWS" = some (some (.ref tR)))
    (lR : K.lookup tR = some ⟨.type "tuple", none, .seq [Value.int 4 u0, Value.int 8 u1, Value.int 16 u2, Value.int 32 u3, Value.int 64 u4].toArray nR, slR⟩)
    : ∃ fd : FuncData, (∀ (s : Shared) (v : Value), BindsTo s fd ⟨[v], []⟩ [("script", v)]) ∧ ∀ base : Heap, K.In base → base.Ns mainGlobals mg → FnOk P w K mg base CX0 10 fa fd ["script"] (spLaw K) := by
  obtain ⟨f_is_whole, fd_is_whole, F_is_whole, g_is_whole⟩ := D_is_whole
  obtain ⟨f_is_number, fd_is_number, F_is_number, g_is_number⟩ := D_is_number
  obtain ⟨f_fits, fd_fits, F_fits, g_fits⟩ := D_fits
  obtain ⟨f_generator, fd_generator, F_generator, g_generator⟩ := D_generator
  obtain ⟨f_inverse, fd_inverse, F_inverse, g_inverse⟩ := D_inverse
  obtain ⟨f_power, fd_power, F_power, g_power⟩ := D_power
  obtain ⟨f_box, fd_box, F_box, g_box⟩ := D_box
  obtain ⟨f_draw, fd_draw, F_draw, g_draw⟩ := D_draw
  obtain ⟨f_of, fd_of, F_of, g_of⟩ := D_of
  obtain ⟨f_same, fd_same, F_same, g_same⟩ := D_same
  obtain ⟨f_prime, fd_prime, F_prime, g_prime⟩ := D_prime
  obtain ⟨f_number, fd_number, F_number, g_number⟩ := D_number
  obtain ⟨f_anything, fd_anything, F_anything, g_anything⟩ := D_anything
  obtain ⟨f_made, fd_made, F_made, g_made⟩ := D_made
  obtain ⟨f_named, fd_named, F_named, g_named⟩ := D_named
  obtain ⟨f_told, fd_told, F_told, g_told⟩ := D_told
  obtain ⟨f_bases, fd_bases, F_bases, g_bases⟩ := D_bases
  obtain ⟨f_roots, fd_roots, F_roots, g_roots⟩ := D_roots
  obtain ⟨f_classes, fd_classes, F_classes, g_classes⟩ := D_classes
  obtain ⟨f_errors, fd_errors, F_errors, g_errors⟩ := D_errors
  obtain ⟨f_is_plain, fd_is_plain, F_is_plain, g_is_plain⟩ := D_is_plain
  obtain ⟨f_listed, fd_listed, F_listed, g_listed⟩ := D_listed
  obtain ⟨f_fitting, fd_fitting, F_fitting, g_fitting⟩ := D_fitting
  obtain ⟨f_generators, fd_generators, F_generators, g_generators⟩ := D_generators
  obtain ⟨f_numbers, fd_numbers, F_numbers, g_numbers⟩ := D_numbers
  obtain ⟨f_turned, fd_turned, F_turned, g_turned⟩ := D_turned
  obtain ⟨f_powers, fd_powers, F_powers, g_powers⟩ := D_powers
  obtain ⟨f_law, fd_law, F_law, g_law⟩ := D_law
  obtain ⟨fI_BadProgram, fdI_BadProgram, FI_BadProgram, iC_BadProgram, tI_BadProgram⟩ := I_BadProgram
  obtain ⟨fI_BadLine, fdI_BadLine, FI_BadLine, iC_BadLine, tI_BadLine⟩ := I_BadLine
  obtain ⟨fI_BadPrime, fdI_BadPrime, FI_BadPrime, iC_BadPrime, tI_BadPrime⟩ := I_BadPrime
  obtain ⟨fI_BadShape, fdI_BadShape, FI_BadShape, iC_BadShape, tI_BadShape⟩ := I_BadShape
  obtain ⟨fI_BadBook, fdI_BadBook, FI_BadBook, iC_BadBook, tI_BadBook⟩ := I_BadBook
  obtain ⟨fI_TooMany, fdI_TooMany, FI_TooMany, iC_TooMany, tI_TooMany⟩ := I_TooMany
  obtain ⟨fI_NotNear, fdI_NotNear, FI_NotNear, iC_NotNear, tI_NotNear⟩ := I_NotNear
  obtain ⟨fI_UnknownName, fdI_UnknownName, FI_UnknownName, iC_UnknownName, tI_UnknownName⟩ := I_UnknownName
  obtain ⟨fI_Broken, fdI_Broken, FI_Broken, iC_Broken, tI_Broken⟩ := I_Broken
  obtain ⟨fI_NotWaiting, fdI_NotWaiting, FI_NotWaiting, iC_NotWaiting, tI_NotWaiting⟩ := I_NotWaiting
  have b_is_whole := F_is_whole.binds (ps := ["value"]) fun _ _ _ _ _ _ us hl => match us, hl with | [_], _ => rfl
  have b_is_number := F_is_number.binds (ps := ["value", "least", "most"]) fun _ _ _ _ _ _ us hl => match us, hl with | [_, _, _], _ => rfl
  have kb_is_number := K0.Fun.kbn F_is_number (ps := ["value", "least", "most"]) (ks := ["most", "value", "least"]) (g := @kg_is_number) (fun _ _ _ _ _ _ ws hl => match ws, hl with | [_, _, _], _ => rfl) kgr_is_number
  have b_fits := F_fits.binds (ps := ["p", "rows"]) fun _ _ _ _ _ _ us hl => match us, hl with | [_, _], _ => rfl
  have kb_fits := K0.Fun.kbn F_fits (ps := ["p", "rows"]) (ks := ["rows", "p"]) (g := @kg_fits) (fun _ _ _ _ _ _ ws hl => match ws, hl with | [_, _], _ => rfl) kgr_fits
  have b_generator := F_generator.binds (ps := ["p"]) fun _ _ _ _ _ _ us hl => match us, hl with | [_], _ => rfl
  have kb_generator := K0.Fun.kbn F_generator (ps := ["p"]) (ks := ["p"]) (g := @kg_generator) (fun _ _ _ _ _ _ ws hl => match ws, hl with | [_], _ => rfl) kgr_generator
  have b_inverse := F_inverse.binds (ps := ["worth", "p"]) fun _ _ _ _ _ _ us hl => match us, hl with | [_, _], _ => rfl
  have kb_inverse := K0.Fun.kbn F_inverse (ps := ["worth", "p"]) (ks := ["p", "worth"]) (g := @kg_inverse) (fun _ _ _ _ _ _ ws hl => match ws, hl with | [_, _], _ => rfl) kgr_inverse
  have b_power := F_power.binds (ps := ["worth", "count", "p"]) fun _ _ _ _ _ _ us hl => match us, hl with | [_, _, _], _ => rfl
  have kb_power := K0.Fun.kbn F_power (ps := ["worth", "count", "p"]) (ks := ["p", "count", "worth"]) (g := @kg_power) (fun _ _ _ _ _ _ ws hl => match ws, hl with | [_, _, _], _ => rfl) kgr_power
  have b_box := F_box.binds (ps := ["script"]) fun _ _ _ _ _ _ us hl => match us, hl with | [_], _ => rfl
  have b_draw := F_draw.binds (ps := ["box", "sides"]) fun _ _ _ _ _ _ us hl => match us, hl with | [_, _], _ => rfl
  have b_of := F_of.binds (ps := ["box", "things"]) fun _ _ _ _ _ _ us hl => match us, hl with | [_, _], _ => rfl
  have b_same := F_same.binds (ps := ["found", "due"]) fun _ _ _ _ _ _ us hl => match us, hl with | [_, _], _ => rfl
  have b_prime := F_prime.binds (ps := ["box"]) fun _ _ _ _ _ _ us hl => match us, hl with | [_], _ => rfl
  have b_number := F_number.binds (ps := ["box", "prime"]) fun _ _ _ _ _ _ us hl => match us, hl with | [_, _], _ => rfl
  have b_anything := F_anything.binds (ps := ["box"]) fun _ _ _ _ _ _ us hl => match us, hl with | [_], _ => rfl
  have b_made := F_made.binds (ps := ["pick", "one", "two", "named"]) fun _ _ _ _ _ _ us hl => match us, hl with | [_, _, _, _], _ => rfl
  have b_named := F_named.binds (ps := ["pick", "one", "two"]) fun _ _ _ _ _ _ us hl => match us, hl with | [_, _, _], _ => rfl
  have b_told := F_told.binds (ps := ["pick", "error"]) fun _ _ _ _ _ _ us hl => match us, hl with | [_, _], _ => rfl
  have b_bases := F_bases.binds (ps := ["error"]) fun _ _ _ _ _ _ us hl => match us, hl with | [_], _ => rfl
  have b_roots := F_roots.binds (ps := ["error"]) fun _ _ _ _ _ _ us hl => match us, hl with | [_], _ => rfl
  have b_classes := F_classes.binds (ps := ["error"]) fun _ _ _ _ _ _ us hl => match us, hl with | [_], _ => rfl
  have b_errors := F_errors.binds (ps := ["box"]) fun _ _ _ _ _ _ us hl => match us, hl with | [_], _ => rfl
  have b_is_plain := F_is_plain.binds (ps := ["thing"]) fun _ _ _ _ _ _ us hl => match us, hl with | [_], _ => rfl
  have b_listed := F_listed.binds (ps := []) fun _ _ _ _ _ _ us hl => match us, hl with | [], _ => rfl
  have b_fitting := F_fitting.binds (ps := ["first", "second"]) fun _ _ _ _ _ _ us hl => match us, hl with | [_, _], _ => rfl
  have b_generators := F_generators.binds (ps := ["thing"]) fun _ _ _ _ _ _ us hl => match us, hl with | [_], _ => rfl
  have b_numbers := F_numbers.binds (ps := ["box"]) fun _ _ _ _ _ _ us hl => match us, hl with | [_], _ => rfl
  have b_turned := F_turned.binds (ps := ["digit", "prime", "named"]) fun _ _ _ _ _ _ us hl => match us, hl with | [_, _, _], _ => rfl
  have b_powers := F_powers.binds (ps := ["box"]) fun _ _ _ _ _ _ us hl => match us, hl with | [_], _ => rfl
  have b_law := F_law.binds (ps := ["script"]) fun _ _ _ _ _ _ us hl => match us, hl with | [_], _ => rfl
  have bI_BadProgram := FI_BadProgram.binds (ps := ["self", "line", "why"]) fun _ _ _ _ _ _ us hl => match us, hl with | [_, _, _], _ => rfl
  have kb_BadProgram := K0.Fun.kwb FI_BadProgram (ps := ["self", "line", "why"]) (ks := ["why", "line"]) (n := 2) (g := sw2) fun _ _ _ _ _ _ _ ws hl => match ws, hl with | [_, _], _ => rfl
  have bI_BadLine := FI_BadLine.binds (ps := ["self", "field"]) fun _ _ _ _ _ _ us hl => match us, hl with | [_, _], _ => rfl
  have kb_BadLine := K0.Fun.kwb FI_BadLine (ps := ["self", "field"]) (ks := ["field"]) (n := 1) (g := id) fun _ _ _ _ _ _ _ ws hl => match ws, hl with | [_], _ => rfl
  have bI_BadPrime := FI_BadPrime.binds (ps := ["self", "p", "rows"]) fun _ _ _ _ _ _ us hl => match us, hl with | [_, _, _], _ => rfl
  have kb_BadPrime := K0.Fun.kwb FI_BadPrime (ps := ["self", "p", "rows"]) (ks := ["rows", "p"]) (n := 2) (g := sw2) fun _ _ _ _ _ _ _ ws hl => match ws, hl with | [_, _], _ => rfl
  have bI_BadShape := FI_BadShape.binds (ps := ["self", "what", "count"]) fun _ _ _ _ _ _ us hl => match us, hl with | [_, _, _], _ => rfl
  have kb_BadShape := K0.Fun.kwb FI_BadShape (ps := ["self", "what", "count"]) (ks := ["count", "what"]) (n := 2) (g := sw2) fun _ _ _ _ _ _ _ ws hl => match ws, hl with | [_, _], _ => rfl
  have bI_BadBook := FI_BadBook.binds (ps := ["self", "line"]) fun _ _ _ _ _ _ us hl => match us, hl with | [_, _], _ => rfl
  have kb_BadBook := K0.Fun.kwb FI_BadBook (ps := ["self", "line"]) (ks := ["line"]) (n := 1) (g := id) fun _ _ _ _ _ _ _ ws hl => match ws, hl with | [_], _ => rfl
  have bI_TooMany := FI_TooMany.binds (ps := ["self", "what", "most"]) fun _ _ _ _ _ _ us hl => match us, hl with | [_, _, _], _ => rfl
  have kb_TooMany := K0.Fun.kwb FI_TooMany (ps := ["self", "what", "most"]) (ks := ["most", "what"]) (n := 2) (g := sw2) fun _ _ _ _ _ _ _ ws hl => match ws, hl with | [_, _], _ => rfl
  have bI_NotNear := FI_NotNear.binds (ps := ["self", "e"]) fun _ _ _ _ _ _ us hl => match us, hl with | [_, _], _ => rfl
  have kb_NotNear := K0.Fun.kwb FI_NotNear (ps := ["self", "e"]) (ks := ["e"]) (n := 1) (g := id) fun _ _ _ _ _ _ _ ws hl => match ws, hl with | [_], _ => rfl
  have bI_UnknownName := FI_UnknownName.binds (ps := ["self", "name"]) fun _ _ _ _ _ _ us hl => match us, hl with | [_, _], _ => rfl
  have kb_UnknownName := K0.Fun.kwb FI_UnknownName (ps := ["self", "name"]) (ks := ["name"]) (n := 1) (g := id) fun _ _ _ _ _ _ _ ws hl => match ws, hl with | [_], _ => rfl
  have bI_Broken := FI_Broken.binds (ps := ["self", "line", "why"]) fun _ _ _ _ _ _ us hl => match us, hl with | [_, _, _], _ => rfl
  have kb_Broken := K0.Fun.kwb FI_Broken (ps := ["self", "line", "why"]) (ks := ["why", "line"]) (n := 2) (g := sw2) fun _ _ _ _ _ _ _ ws hl => match ws, hl with | [_, _], _ => rfl
  have bI_NotWaiting := FI_NotWaiting.binds (ps := ["self", "what"]) fun _ _ _ _ _ _ us hl => match us, hl with | [_, _], _ => rfl
  have kb_NotWaiting := K0.Fun.kwb FI_NotWaiting (ps := ["self", "what"]) (ks := ["what"]) (n := 1) (g := id) fun _ _ _ _ _ _ _ ws hl => match ws, hl with | [_], _ => rfl
  simp only [List.nodup_cons, List.mem_cons, List.not_mem_nil, or_false, not_or] at hN
  obtain ⟨⟨n0_1, n0_2, n0_3, n0_4, n0_5, n0_6, n0_7, n0_8, n0_9, n0_10, n0_11, n0_12⟩, ⟨n1_2, n1_3, n1_4, n1_5, n1_6, n1_7, n1_8, n1_9, n1_10, n1_11, n1_12⟩, ⟨n2_3, n2_4, n2_5, n2_6, n2_7, n2_8, n2_9, n2_10, n2_11, n2_12⟩, ⟨n3_4, n3_5, n3_6, n3_7, n3_8, n3_9, n3_10, n3_11, n3_12⟩, ⟨n4_5, n4_6, n4_7, n4_8, n4_9, n4_10, n4_11, n4_12⟩, ⟨n5_6, n5_7, n5_8, n5_9, n5_10, n5_11, n5_12⟩, ⟨n6_7, n6_8, n6_9, n6_10, n6_11, n6_12⟩, ⟨n7_8, n7_9, n7_10, n7_11, n7_12⟩, ⟨n8_9, n8_10, n8_11, n8_12⟩, ⟨n9_10, n9_11, n9_12⟩, ⟨n10_11, n10_12⟩, n11_12, _⟩ := hN
  have T : Txt K mg :=
    { f_is_whole := f_is_whole
      fd_is_whole := fd_is_whole
      F_is_whole := F_is_whole
      g_is_whole := g_is_whole
      b_is_whole := b_is_whole
      f_is_number := f_is_number
      fd_is_number := fd_is_number
      F_is_number := F_is_number
      g_is_number := g_is_number
      b_is_number := b_is_number
      kb_is_number := kb_is_number
      f_fits := f_fits
      fd_fits := fd_fits
      F_fits := F_fits
      g_fits := g_fits
      b_fits := b_fits
      kb_fits := kb_fits
      f_generator := f_generator
      fd_generator := fd_generator
      F_generator := F_generator
      g_generator := g_generator
      b_generator := b_generator
      kb_generator := kb_generator
      f_inverse := f_inverse
      fd_inverse := fd_inverse
      F_inverse := F_inverse
      g_inverse := g_inverse
      b_inverse := b_inverse
      kb_inverse := kb_inverse
      f_power := f_power
      fd_power := fd_power
      F_power := F_power
      g_power := g_power
      b_power := b_power
      kb_power := kb_power
      f_box := f_box
      fd_box := fd_box
      F_box := F_box
      g_box := g_box
      b_box := b_box
      f_draw := f_draw
      fd_draw := fd_draw
      F_draw := F_draw
      g_draw := g_draw
      b_draw := b_draw
      f_of := f_of
      fd_of := fd_of
      F_of := F_of
      g_of := g_of
      b_of := b_of
      f_same := f_same
      fd_same := fd_same
      F_same := F_same
      g_same := g_same
      b_same := b_same
      f_prime := f_prime
      fd_prime := fd_prime
      F_prime := F_prime
      g_prime := g_prime
      b_prime := b_prime
      f_number := f_number
      fd_number := fd_number
      F_number := F_number
      g_number := g_number
      b_number := b_number
      f_anything := f_anything
      fd_anything := fd_anything
      F_anything := F_anything
      g_anything := g_anything
      b_anything := b_anything
      f_made := f_made
      fd_made := fd_made
      F_made := F_made
      g_made := g_made
      b_made := b_made
      f_named := f_named
      fd_named := fd_named
      F_named := F_named
      g_named := g_named
      b_named := b_named
      f_told := f_told
      fd_told := fd_told
      F_told := F_told
      g_told := g_told
      b_told := b_told
      f_bases := f_bases
      fd_bases := fd_bases
      F_bases := F_bases
      g_bases := g_bases
      b_bases := b_bases
      f_roots := f_roots
      fd_roots := fd_roots
      F_roots := F_roots
      g_roots := g_roots
      b_roots := b_roots
      f_classes := f_classes
      fd_classes := fd_classes
      F_classes := F_classes
      g_classes := g_classes
      b_classes := b_classes
      f_errors := f_errors
      fd_errors := fd_errors
      F_errors := F_errors
      g_errors := g_errors
      b_errors := b_errors
      f_is_plain := f_is_plain
      fd_is_plain := fd_is_plain
      F_is_plain := F_is_plain
      g_is_plain := g_is_plain
      b_is_plain := b_is_plain
      f_listed := f_listed
      fd_listed := fd_listed
      F_listed := F_listed
      g_listed := g_listed
      b_listed := b_listed
      f_fitting := f_fitting
      fd_fitting := fd_fitting
      F_fitting := F_fitting
      g_fitting := g_fitting
      b_fitting := b_fitting
      f_generators := f_generators
      fd_generators := fd_generators
      F_generators := F_generators
      g_generators := g_generators
      b_generators := b_generators
      f_numbers := f_numbers
      fd_numbers := fd_numbers
      F_numbers := F_numbers
      g_numbers := g_numbers
      b_numbers := b_numbers
      f_turned := f_turned
      fd_turned := fd_turned
      F_turned := F_turned
      g_turned := g_turned
      b_turned := b_turned
      f_powers := f_powers
      fd_powers := fd_powers
      F_powers := F_powers
      g_powers := g_powers
      b_powers := b_powers
      f_law := f_law
      fd_law := fd_law
      F_law := F_law
      g_law := g_law
      b_law := b_law
      C_InvalidError := C_InvalidError
      gC_InvalidError := P_InvalidError.g
      C_UnknownError := C_UnknownError
      gC_UnknownError := P_UnknownError.g
      C_StateError := C_StateError
      gC_StateError := P_StateError.g
      C_BadProgram := C_BadProgram
      gC_BadProgram := P_BadProgram.g
      C_BadLine := C_BadLine
      gC_BadLine := P_BadLine.g
      C_BadPrime := C_BadPrime
      gC_BadPrime := P_BadPrime.g
      C_BadShape := C_BadShape
      gC_BadShape := P_BadShape.g
      C_BadBook := C_BadBook
      gC_BadBook := P_BadBook.g
      C_TooMany := C_TooMany
      gC_TooMany := P_TooMany.g
      C_NotNear := C_NotNear
      gC_NotNear := P_NotNear.g
      C_UnknownName := C_UnknownName
      gC_UnknownName := P_UnknownName.g
      C_Broken := C_Broken
      gC_Broken := P_Broken.g
      C_NotWaiting := C_NotWaiting
      gC_NotWaiting := P_NotWaiting.g
      x_BadProgram := P_BadProgram.x
      fI_BadProgram := fI_BadProgram
      fdI_BadProgram := fdI_BadProgram
      FI_BadProgram := FI_BadProgram
      bI_BadProgram := bI_BadProgram
      iC_BadProgram := iC_BadProgram
      tI_BadProgram := tI_BadProgram
      kb_BadProgram := kb_BadProgram
      no_BadProgram_line := no_BadProgram_line
      no_BadProgram_why := no_BadProgram_why
      x_BadLine := P_BadLine.x
      fI_BadLine := fI_BadLine
      fdI_BadLine := fdI_BadLine
      FI_BadLine := FI_BadLine
      bI_BadLine := bI_BadLine
      iC_BadLine := iC_BadLine
      tI_BadLine := tI_BadLine
      kb_BadLine := kb_BadLine
      no_BadLine_field := no_BadLine_field
      x_BadPrime := P_BadPrime.x
      fI_BadPrime := fI_BadPrime
      fdI_BadPrime := fdI_BadPrime
      FI_BadPrime := FI_BadPrime
      bI_BadPrime := bI_BadPrime
      iC_BadPrime := iC_BadPrime
      tI_BadPrime := tI_BadPrime
      kb_BadPrime := kb_BadPrime
      no_BadPrime_p := no_BadPrime_p
      no_BadPrime_rows := no_BadPrime_rows
      x_BadShape := P_BadShape.x
      fI_BadShape := fI_BadShape
      fdI_BadShape := fdI_BadShape
      FI_BadShape := FI_BadShape
      bI_BadShape := bI_BadShape
      iC_BadShape := iC_BadShape
      tI_BadShape := tI_BadShape
      kb_BadShape := kb_BadShape
      no_BadShape_what := no_BadShape_what
      no_BadShape_count := no_BadShape_count
      x_BadBook := P_BadBook.x
      fI_BadBook := fI_BadBook
      fdI_BadBook := fdI_BadBook
      FI_BadBook := FI_BadBook
      bI_BadBook := bI_BadBook
      iC_BadBook := iC_BadBook
      tI_BadBook := tI_BadBook
      kb_BadBook := kb_BadBook
      no_BadBook_line := no_BadBook_line
      x_TooMany := P_TooMany.x
      fI_TooMany := fI_TooMany
      fdI_TooMany := fdI_TooMany
      FI_TooMany := FI_TooMany
      bI_TooMany := bI_TooMany
      iC_TooMany := iC_TooMany
      tI_TooMany := tI_TooMany
      kb_TooMany := kb_TooMany
      no_TooMany_what := no_TooMany_what
      no_TooMany_most := no_TooMany_most
      x_NotNear := P_NotNear.x
      fI_NotNear := fI_NotNear
      fdI_NotNear := fdI_NotNear
      FI_NotNear := FI_NotNear
      bI_NotNear := bI_NotNear
      iC_NotNear := iC_NotNear
      tI_NotNear := tI_NotNear
      kb_NotNear := kb_NotNear
      no_NotNear_e := no_NotNear_e
      x_UnknownName := P_UnknownName.x
      fI_UnknownName := fI_UnknownName
      fdI_UnknownName := fdI_UnknownName
      FI_UnknownName := FI_UnknownName
      bI_UnknownName := bI_UnknownName
      iC_UnknownName := iC_UnknownName
      tI_UnknownName := tI_UnknownName
      kb_UnknownName := kb_UnknownName
      no_UnknownName_name := no_UnknownName_name
      x_Broken := P_Broken.x
      fI_Broken := fI_Broken
      fdI_Broken := fdI_Broken
      FI_Broken := FI_Broken
      bI_Broken := bI_Broken
      iC_Broken := iC_Broken
      tI_Broken := tI_Broken
      kb_Broken := kb_Broken
      no_Broken_line := no_Broken_line
      no_Broken_why := no_Broken_why
      x_NotWaiting := P_NotWaiting.x
      fI_NotWaiting := fI_NotWaiting
      fdI_NotWaiting := fdI_NotWaiting
      FI_NotWaiting := FI_NotWaiting
      bI_NotWaiting := bI_NotWaiting
      iC_NotWaiting := iC_NotWaiting
      tI_NotWaiting := tI_NotWaiting
      kb_NotWaiting := kb_NotWaiting
      no_NotWaiting_what := no_NotWaiting_what
      k_BadProgram_InvalidError := (kit_ref P_BadProgram P_InvalidError.cl P_InvalidError.ty).trans (by rw [decide_eq_false (Ne.symm n0_10), decide_eq_true rfl]; rfl)
      k_BadProgram_UnknownError := (kit_ref P_BadProgram P_UnknownError.cl P_UnknownError.ty).trans (by rw [decide_eq_false (Ne.symm n0_11), decide_eq_false (Ne.symm n10_11)]; rfl)
      k_BadProgram_StateError := (kit_ref P_BadProgram P_StateError.cl P_StateError.ty).trans (by rw [decide_eq_false (Ne.symm n0_12), decide_eq_false (Ne.symm n10_12)]; rfl)
      k_BadProgram_ValueError := kit_tt P_BadProgram (by decide +kernel) (by decide +kernel)
      k_BadProgram_LookupError := kit_tt P_BadProgram (by decide +kernel) (by decide +kernel)
      k_BadProgram_RuntimeError := kit_tt P_BadProgram (by decide +kernel) (by decide +kernel)
      k_BadProgram_BadProgram := (kit_ref P_BadProgram P_BadProgram.cl P_BadProgram.x.tyC).trans (by rw [decide_eq_true rfl]; rfl)
      k_BadProgram_BadLine := (kit_ref P_BadProgram P_BadLine.cl P_BadLine.x.tyC).trans (by rw [decide_eq_false (Ne.symm n0_1), decide_eq_false n1_10]; rfl)
      k_BadProgram_BadPrime := (kit_ref P_BadProgram P_BadPrime.cl P_BadPrime.x.tyC).trans (by rw [decide_eq_false (Ne.symm n0_2), decide_eq_false n2_10]; rfl)
      k_BadProgram_BadShape := (kit_ref P_BadProgram P_BadShape.cl P_BadShape.x.tyC).trans (by rw [decide_eq_false (Ne.symm n0_3), decide_eq_false n3_10]; rfl)
      k_BadProgram_BadBook := (kit_ref P_BadProgram P_BadBook.cl P_BadBook.x.tyC).trans (by rw [decide_eq_false (Ne.symm n0_4), decide_eq_false n4_10]; rfl)
      k_BadProgram_TooMany := (kit_ref P_BadProgram P_TooMany.cl P_TooMany.x.tyC).trans (by rw [decide_eq_false (Ne.symm n0_5), decide_eq_false n5_10]; rfl)
      k_BadProgram_NotNear := (kit_ref P_BadProgram P_NotNear.cl P_NotNear.x.tyC).trans (by rw [decide_eq_false (Ne.symm n0_6), decide_eq_false n6_10]; rfl)
      k_BadProgram_UnknownName := (kit_ref P_BadProgram P_UnknownName.cl P_UnknownName.x.tyC).trans (by rw [decide_eq_false (Ne.symm n0_7), decide_eq_false n7_10]; rfl)
      k_BadProgram_Broken := (kit_ref P_BadProgram P_Broken.cl P_Broken.x.tyC).trans (by rw [decide_eq_false (Ne.symm n0_8), decide_eq_false n8_10]; rfl)
      k_BadProgram_NotWaiting := (kit_ref P_BadProgram P_NotWaiting.cl P_NotWaiting.x.tyC).trans (by rw [decide_eq_false (Ne.symm n0_9), decide_eq_false n9_10]; rfl)
      k_BadLine_InvalidError := (kit_ref P_BadLine P_InvalidError.cl P_InvalidError.ty).trans (by rw [decide_eq_false (Ne.symm n1_10), decide_eq_true rfl]; rfl)
      k_BadLine_UnknownError := (kit_ref P_BadLine P_UnknownError.cl P_UnknownError.ty).trans (by rw [decide_eq_false (Ne.symm n1_11), decide_eq_false (Ne.symm n10_11)]; rfl)
      k_BadLine_StateError := (kit_ref P_BadLine P_StateError.cl P_StateError.ty).trans (by rw [decide_eq_false (Ne.symm n1_12), decide_eq_false (Ne.symm n10_12)]; rfl)
      k_BadLine_ValueError := kit_tt P_BadLine (by decide +kernel) (by decide +kernel)
      k_BadLine_LookupError := kit_tt P_BadLine (by decide +kernel) (by decide +kernel)
      k_BadLine_RuntimeError := kit_tt P_BadLine (by decide +kernel) (by decide +kernel)
      k_BadLine_BadProgram := (kit_ref P_BadLine P_BadProgram.cl P_BadProgram.x.tyC).trans (by rw [decide_eq_false n0_1, decide_eq_false n0_10]; rfl)
      k_BadLine_BadLine := (kit_ref P_BadLine P_BadLine.cl P_BadLine.x.tyC).trans (by rw [decide_eq_true rfl]; rfl)
      k_BadLine_BadPrime := (kit_ref P_BadLine P_BadPrime.cl P_BadPrime.x.tyC).trans (by rw [decide_eq_false (Ne.symm n1_2), decide_eq_false n2_10]; rfl)
      k_BadLine_BadShape := (kit_ref P_BadLine P_BadShape.cl P_BadShape.x.tyC).trans (by rw [decide_eq_false (Ne.symm n1_3), decide_eq_false n3_10]; rfl)
      k_BadLine_BadBook := (kit_ref P_BadLine P_BadBook.cl P_BadBook.x.tyC).trans (by rw [decide_eq_false (Ne.symm n1_4), decide_eq_false n4_10]; rfl)
      k_BadLine_TooMany := (kit_ref P_BadLine P_TooMany.cl P_TooMany.x.tyC).trans (by rw [decide_eq_false (Ne.symm n1_5), decide_eq_false n5_10]; rfl)
      k_BadLine_NotNear := (kit_ref P_BadLine P_NotNear.cl P_NotNear.x.tyC).trans (by rw [decide_eq_false (Ne.symm n1_6), decide_eq_false n6_10]; rfl)
      k_BadLine_UnknownName := (kit_ref P_BadLine P_UnknownName.cl P_UnknownName.x.tyC).trans (by rw [decide_eq_false (Ne.symm n1_7), decide_eq_false n7_10]; rfl)
      k_BadLine_Broken := (kit_ref P_BadLine P_Broken.cl P_Broken.x.tyC).trans (by rw [decide_eq_false (Ne.symm n1_8), decide_eq_false n8_10]; rfl)
      k_BadLine_NotWaiting := (kit_ref P_BadLine P_NotWaiting.cl P_NotWaiting.x.tyC).trans (by rw [decide_eq_false (Ne.symm n1_9), decide_eq_false n9_10]; rfl)
      k_BadPrime_InvalidError := (kit_ref P_BadPrime P_InvalidError.cl P_InvalidError.ty).trans (by rw [decide_eq_false (Ne.symm n2_10), decide_eq_true rfl]; rfl)
      k_BadPrime_UnknownError := (kit_ref P_BadPrime P_UnknownError.cl P_UnknownError.ty).trans (by rw [decide_eq_false (Ne.symm n2_11), decide_eq_false (Ne.symm n10_11)]; rfl)
      k_BadPrime_StateError := (kit_ref P_BadPrime P_StateError.cl P_StateError.ty).trans (by rw [decide_eq_false (Ne.symm n2_12), decide_eq_false (Ne.symm n10_12)]; rfl)
      k_BadPrime_ValueError := kit_tt P_BadPrime (by decide +kernel) (by decide +kernel)
      k_BadPrime_LookupError := kit_tt P_BadPrime (by decide +kernel) (by decide +kernel)
      k_BadPrime_RuntimeError := kit_tt P_BadPrime (by decide +kernel) (by decide +kernel)
      k_BadPrime_BadProgram := (kit_ref P_BadPrime P_BadProgram.cl P_BadProgram.x.tyC).trans (by rw [decide_eq_false n0_2, decide_eq_false n0_10]; rfl)
      k_BadPrime_BadLine := (kit_ref P_BadPrime P_BadLine.cl P_BadLine.x.tyC).trans (by rw [decide_eq_false n1_2, decide_eq_false n1_10]; rfl)
      k_BadPrime_BadPrime := (kit_ref P_BadPrime P_BadPrime.cl P_BadPrime.x.tyC).trans (by rw [decide_eq_true rfl]; rfl)
      k_BadPrime_BadShape := (kit_ref P_BadPrime P_BadShape.cl P_BadShape.x.tyC).trans (by rw [decide_eq_false (Ne.symm n2_3), decide_eq_false n3_10]; rfl)
      k_BadPrime_BadBook := (kit_ref P_BadPrime P_BadBook.cl P_BadBook.x.tyC).trans (by rw [decide_eq_false (Ne.symm n2_4), decide_eq_false n4_10]; rfl)
      k_BadPrime_TooMany := (kit_ref P_BadPrime P_TooMany.cl P_TooMany.x.tyC).trans (by rw [decide_eq_false (Ne.symm n2_5), decide_eq_false n5_10]; rfl)
      k_BadPrime_NotNear := (kit_ref P_BadPrime P_NotNear.cl P_NotNear.x.tyC).trans (by rw [decide_eq_false (Ne.symm n2_6), decide_eq_false n6_10]; rfl)
      k_BadPrime_UnknownName := (kit_ref P_BadPrime P_UnknownName.cl P_UnknownName.x.tyC).trans (by rw [decide_eq_false (Ne.symm n2_7), decide_eq_false n7_10]; rfl)
      k_BadPrime_Broken := (kit_ref P_BadPrime P_Broken.cl P_Broken.x.tyC).trans (by rw [decide_eq_false (Ne.symm n2_8), decide_eq_false n8_10]; rfl)
      k_BadPrime_NotWaiting := (kit_ref P_BadPrime P_NotWaiting.cl P_NotWaiting.x.tyC).trans (by rw [decide_eq_false (Ne.symm n2_9), decide_eq_false n9_10]; rfl)
      k_BadShape_InvalidError := (kit_ref P_BadShape P_InvalidError.cl P_InvalidError.ty).trans (by rw [decide_eq_false (Ne.symm n3_10), decide_eq_true rfl]; rfl)
      k_BadShape_UnknownError := (kit_ref P_BadShape P_UnknownError.cl P_UnknownError.ty).trans (by rw [decide_eq_false (Ne.symm n3_11), decide_eq_false (Ne.symm n10_11)]; rfl)
      k_BadShape_StateError := (kit_ref P_BadShape P_StateError.cl P_StateError.ty).trans (by rw [decide_eq_false (Ne.symm n3_12), decide_eq_false (Ne.symm n10_12)]; rfl)
      k_BadShape_ValueError := kit_tt P_BadShape (by decide +kernel) (by decide +kernel)
      k_BadShape_LookupError := kit_tt P_BadShape (by decide +kernel) (by decide +kernel)
      k_BadShape_RuntimeError := kit_tt P_BadShape (by decide +kernel) (by decide +kernel)
      k_BadShape_BadProgram := (kit_ref P_BadShape P_BadProgram.cl P_BadProgram.x.tyC).trans (by rw [decide_eq_false n0_3, decide_eq_false n0_10]; rfl)
      k_BadShape_BadLine := (kit_ref P_BadShape P_BadLine.cl P_BadLine.x.tyC).trans (by rw [decide_eq_false n1_3, decide_eq_false n1_10]; rfl)
      k_BadShape_BadPrime := (kit_ref P_BadShape P_BadPrime.cl P_BadPrime.x.tyC).trans (by rw [decide_eq_false n2_3, decide_eq_false n2_10]; rfl)
      k_BadShape_BadShape := (kit_ref P_BadShape P_BadShape.cl P_BadShape.x.tyC).trans (by rw [decide_eq_true rfl]; rfl)
      k_BadShape_BadBook := (kit_ref P_BadShape P_BadBook.cl P_BadBook.x.tyC).trans (by rw [decide_eq_false (Ne.symm n3_4), decide_eq_false n4_10]; rfl)
      k_BadShape_TooMany := (kit_ref P_BadShape P_TooMany.cl P_TooMany.x.tyC).trans (by rw [decide_eq_false (Ne.symm n3_5), decide_eq_false n5_10]; rfl)
      k_BadShape_NotNear := (kit_ref P_BadShape P_NotNear.cl P_NotNear.x.tyC).trans (by rw [decide_eq_false (Ne.symm n3_6), decide_eq_false n6_10]; rfl)
      k_BadShape_UnknownName := (kit_ref P_BadShape P_UnknownName.cl P_UnknownName.x.tyC).trans (by rw [decide_eq_false (Ne.symm n3_7), decide_eq_false n7_10]; rfl)
      k_BadShape_Broken := (kit_ref P_BadShape P_Broken.cl P_Broken.x.tyC).trans (by rw [decide_eq_false (Ne.symm n3_8), decide_eq_false n8_10]; rfl)
      k_BadShape_NotWaiting := (kit_ref P_BadShape P_NotWaiting.cl P_NotWaiting.x.tyC).trans (by rw [decide_eq_false (Ne.symm n3_9), decide_eq_false n9_10]; rfl)
      k_BadBook_InvalidError := (kit_ref P_BadBook P_InvalidError.cl P_InvalidError.ty).trans (by rw [decide_eq_false (Ne.symm n4_10), decide_eq_true rfl]; rfl)
      k_BadBook_UnknownError := (kit_ref P_BadBook P_UnknownError.cl P_UnknownError.ty).trans (by rw [decide_eq_false (Ne.symm n4_11), decide_eq_false (Ne.symm n10_11)]; rfl)
      k_BadBook_StateError := (kit_ref P_BadBook P_StateError.cl P_StateError.ty).trans (by rw [decide_eq_false (Ne.symm n4_12), decide_eq_false (Ne.symm n10_12)]; rfl)
      k_BadBook_ValueError := kit_tt P_BadBook (by decide +kernel) (by decide +kernel)
      k_BadBook_LookupError := kit_tt P_BadBook (by decide +kernel) (by decide +kernel)
      k_BadBook_RuntimeError := kit_tt P_BadBook (by decide +kernel) (by decide +kernel)
      k_BadBook_BadProgram := (kit_ref P_BadBook P_BadProgram.cl P_BadProgram.x.tyC).trans (by rw [decide_eq_false n0_4, decide_eq_false n0_10]; rfl)
      k_BadBook_BadLine := (kit_ref P_BadBook P_BadLine.cl P_BadLine.x.tyC).trans (by rw [decide_eq_false n1_4, decide_eq_false n1_10]; rfl)
      k_BadBook_BadPrime := (kit_ref P_BadBook P_BadPrime.cl P_BadPrime.x.tyC).trans (by rw [decide_eq_false n2_4, decide_eq_false n2_10]; rfl)
      k_BadBook_BadShape := (kit_ref P_BadBook P_BadShape.cl P_BadShape.x.tyC).trans (by rw [decide_eq_false n3_4, decide_eq_false n3_10]; rfl)
      k_BadBook_BadBook := (kit_ref P_BadBook P_BadBook.cl P_BadBook.x.tyC).trans (by rw [decide_eq_true rfl]; rfl)
      k_BadBook_TooMany := (kit_ref P_BadBook P_TooMany.cl P_TooMany.x.tyC).trans (by rw [decide_eq_false (Ne.symm n4_5), decide_eq_false n5_10]; rfl)
      k_BadBook_NotNear := (kit_ref P_BadBook P_NotNear.cl P_NotNear.x.tyC).trans (by rw [decide_eq_false (Ne.symm n4_6), decide_eq_false n6_10]; rfl)
      k_BadBook_UnknownName := (kit_ref P_BadBook P_UnknownName.cl P_UnknownName.x.tyC).trans (by rw [decide_eq_false (Ne.symm n4_7), decide_eq_false n7_10]; rfl)
      k_BadBook_Broken := (kit_ref P_BadBook P_Broken.cl P_Broken.x.tyC).trans (by rw [decide_eq_false (Ne.symm n4_8), decide_eq_false n8_10]; rfl)
      k_BadBook_NotWaiting := (kit_ref P_BadBook P_NotWaiting.cl P_NotWaiting.x.tyC).trans (by rw [decide_eq_false (Ne.symm n4_9), decide_eq_false n9_10]; rfl)
      k_TooMany_InvalidError := (kit_ref P_TooMany P_InvalidError.cl P_InvalidError.ty).trans (by rw [decide_eq_false (Ne.symm n5_10), decide_eq_true rfl]; rfl)
      k_TooMany_UnknownError := (kit_ref P_TooMany P_UnknownError.cl P_UnknownError.ty).trans (by rw [decide_eq_false (Ne.symm n5_11), decide_eq_false (Ne.symm n10_11)]; rfl)
      k_TooMany_StateError := (kit_ref P_TooMany P_StateError.cl P_StateError.ty).trans (by rw [decide_eq_false (Ne.symm n5_12), decide_eq_false (Ne.symm n10_12)]; rfl)
      k_TooMany_ValueError := kit_tt P_TooMany (by decide +kernel) (by decide +kernel)
      k_TooMany_LookupError := kit_tt P_TooMany (by decide +kernel) (by decide +kernel)
      k_TooMany_RuntimeError := kit_tt P_TooMany (by decide +kernel) (by decide +kernel)
      k_TooMany_BadProgram := (kit_ref P_TooMany P_BadProgram.cl P_BadProgram.x.tyC).trans (by rw [decide_eq_false n0_5, decide_eq_false n0_10]; rfl)
      k_TooMany_BadLine := (kit_ref P_TooMany P_BadLine.cl P_BadLine.x.tyC).trans (by rw [decide_eq_false n1_5, decide_eq_false n1_10]; rfl)
      k_TooMany_BadPrime := (kit_ref P_TooMany P_BadPrime.cl P_BadPrime.x.tyC).trans (by rw [decide_eq_false n2_5, decide_eq_false n2_10]; rfl)
      k_TooMany_BadShape := (kit_ref P_TooMany P_BadShape.cl P_BadShape.x.tyC).trans (by rw [decide_eq_false n3_5, decide_eq_false n3_10]; rfl)
      k_TooMany_BadBook := (kit_ref P_TooMany P_BadBook.cl P_BadBook.x.tyC).trans (by rw [decide_eq_false n4_5, decide_eq_false n4_10]; rfl)
      k_TooMany_TooMany := (kit_ref P_TooMany P_TooMany.cl P_TooMany.x.tyC).trans (by rw [decide_eq_true rfl]; rfl)
      k_TooMany_NotNear := (kit_ref P_TooMany P_NotNear.cl P_NotNear.x.tyC).trans (by rw [decide_eq_false (Ne.symm n5_6), decide_eq_false n6_10]; rfl)
      k_TooMany_UnknownName := (kit_ref P_TooMany P_UnknownName.cl P_UnknownName.x.tyC).trans (by rw [decide_eq_false (Ne.symm n5_7), decide_eq_false n7_10]; rfl)
      k_TooMany_Broken := (kit_ref P_TooMany P_Broken.cl P_Broken.x.tyC).trans (by rw [decide_eq_false (Ne.symm n5_8), decide_eq_false n8_10]; rfl)
      k_TooMany_NotWaiting := (kit_ref P_TooMany P_NotWaiting.cl P_NotWaiting.x.tyC).trans (by rw [decide_eq_false (Ne.symm n5_9), decide_eq_false n9_10]; rfl)
      k_NotNear_InvalidError := (kit_ref P_NotNear P_InvalidError.cl P_InvalidError.ty).trans (by rw [decide_eq_false (Ne.symm n6_10), decide_eq_false n10_11]; rfl)
      k_NotNear_UnknownError := (kit_ref P_NotNear P_UnknownError.cl P_UnknownError.ty).trans (by rw [decide_eq_false (Ne.symm n6_11), decide_eq_true rfl]; rfl)
      k_NotNear_StateError := (kit_ref P_NotNear P_StateError.cl P_StateError.ty).trans (by rw [decide_eq_false (Ne.symm n6_12), decide_eq_false (Ne.symm n11_12)]; rfl)
      k_NotNear_ValueError := kit_tt P_NotNear (by decide +kernel) (by decide +kernel)
      k_NotNear_LookupError := kit_tt P_NotNear (by decide +kernel) (by decide +kernel)
      k_NotNear_RuntimeError := kit_tt P_NotNear (by decide +kernel) (by decide +kernel)
      k_NotNear_BadProgram := (kit_ref P_NotNear P_BadProgram.cl P_BadProgram.x.tyC).trans (by rw [decide_eq_false n0_6, decide_eq_false n0_11]; rfl)
      k_NotNear_BadLine := (kit_ref P_NotNear P_BadLine.cl P_BadLine.x.tyC).trans (by rw [decide_eq_false n1_6, decide_eq_false n1_11]; rfl)
      k_NotNear_BadPrime := (kit_ref P_NotNear P_BadPrime.cl P_BadPrime.x.tyC).trans (by rw [decide_eq_false n2_6, decide_eq_false n2_11]; rfl)
      k_NotNear_BadShape := (kit_ref P_NotNear P_BadShape.cl P_BadShape.x.tyC).trans (by rw [decide_eq_false n3_6, decide_eq_false n3_11]; rfl)
      k_NotNear_BadBook := (kit_ref P_NotNear P_BadBook.cl P_BadBook.x.tyC).trans (by rw [decide_eq_false n4_6, decide_eq_false n4_11]; rfl)
      k_NotNear_TooMany := (kit_ref P_NotNear P_TooMany.cl P_TooMany.x.tyC).trans (by rw [decide_eq_false n5_6, decide_eq_false n5_11]; rfl)
      k_NotNear_NotNear := (kit_ref P_NotNear P_NotNear.cl P_NotNear.x.tyC).trans (by rw [decide_eq_true rfl]; rfl)
      k_NotNear_UnknownName := (kit_ref P_NotNear P_UnknownName.cl P_UnknownName.x.tyC).trans (by rw [decide_eq_false (Ne.symm n6_7), decide_eq_false n7_11]; rfl)
      k_NotNear_Broken := (kit_ref P_NotNear P_Broken.cl P_Broken.x.tyC).trans (by rw [decide_eq_false (Ne.symm n6_8), decide_eq_false n8_11]; rfl)
      k_NotNear_NotWaiting := (kit_ref P_NotNear P_NotWaiting.cl P_NotWaiting.x.tyC).trans (by rw [decide_eq_false (Ne.symm n6_9), decide_eq_false n9_11]; rfl)
      k_UnknownName_InvalidError := (kit_ref P_UnknownName P_InvalidError.cl P_InvalidError.ty).trans (by rw [decide_eq_false (Ne.symm n7_10), decide_eq_false n10_11]; rfl)
      k_UnknownName_UnknownError := (kit_ref P_UnknownName P_UnknownError.cl P_UnknownError.ty).trans (by rw [decide_eq_false (Ne.symm n7_11), decide_eq_true rfl]; rfl)
      k_UnknownName_StateError := (kit_ref P_UnknownName P_StateError.cl P_StateError.ty).trans (by rw [decide_eq_false (Ne.symm n7_12), decide_eq_false (Ne.symm n11_12)]; rfl)
      k_UnknownName_ValueError := kit_tt P_UnknownName (by decide +kernel) (by decide +kernel)
      k_UnknownName_LookupError := kit_tt P_UnknownName (by decide +kernel) (by decide +kernel)
      k_UnknownName_RuntimeError := kit_tt P_UnknownName (by decide +kernel) (by decide +kernel)
      k_UnknownName_BadProgram := (kit_ref P_UnknownName P_BadProgram.cl P_BadProgram.x.tyC).trans (by rw [decide_eq_false n0_7, decide_eq_false n0_11]; rfl)
      k_UnknownName_BadLine := (kit_ref P_UnknownName P_BadLine.cl P_BadLine.x.tyC).trans (by rw [decide_eq_false n1_7, decide_eq_false n1_11]; rfl)
      k_UnknownName_BadPrime := (kit_ref P_UnknownName P_BadPrime.cl P_BadPrime.x.tyC).trans (by rw [decide_eq_false n2_7, decide_eq_false n2_11]; rfl)
      k_UnknownName_BadShape := (kit_ref P_UnknownName P_BadShape.cl P_BadShape.x.tyC).trans (by rw [decide_eq_false n3_7, decide_eq_false n3_11]; rfl)
      k_UnknownName_BadBook := (kit_ref P_UnknownName P_BadBook.cl P_BadBook.x.tyC).trans (by rw [decide_eq_false n4_7, decide_eq_false n4_11]; rfl)
      k_UnknownName_TooMany := (kit_ref P_UnknownName P_TooMany.cl P_TooMany.x.tyC).trans (by rw [decide_eq_false n5_7, decide_eq_false n5_11]; rfl)
      k_UnknownName_NotNear := (kit_ref P_UnknownName P_NotNear.cl P_NotNear.x.tyC).trans (by rw [decide_eq_false n6_7, decide_eq_false n6_11]; rfl)
      k_UnknownName_UnknownName := (kit_ref P_UnknownName P_UnknownName.cl P_UnknownName.x.tyC).trans (by rw [decide_eq_true rfl]; rfl)
      k_UnknownName_Broken := (kit_ref P_UnknownName P_Broken.cl P_Broken.x.tyC).trans (by rw [decide_eq_false (Ne.symm n7_8), decide_eq_false n8_11]; rfl)
      k_UnknownName_NotWaiting := (kit_ref P_UnknownName P_NotWaiting.cl P_NotWaiting.x.tyC).trans (by rw [decide_eq_false (Ne.symm n7_9), decide_eq_false n9_11]; rfl)
      k_Broken_InvalidError := (kit_ref P_Broken P_InvalidError.cl P_InvalidError.ty).trans (by rw [decide_eq_false (Ne.symm n8_10), decide_eq_false n10_12]; rfl)
      k_Broken_UnknownError := (kit_ref P_Broken P_UnknownError.cl P_UnknownError.ty).trans (by rw [decide_eq_false (Ne.symm n8_11), decide_eq_false n11_12]; rfl)
      k_Broken_StateError := (kit_ref P_Broken P_StateError.cl P_StateError.ty).trans (by rw [decide_eq_false (Ne.symm n8_12), decide_eq_true rfl]; rfl)
      k_Broken_ValueError := kit_tt P_Broken (by decide +kernel) (by decide +kernel)
      k_Broken_LookupError := kit_tt P_Broken (by decide +kernel) (by decide +kernel)
      k_Broken_RuntimeError := kit_tt P_Broken (by decide +kernel) (by decide +kernel)
      k_Broken_BadProgram := (kit_ref P_Broken P_BadProgram.cl P_BadProgram.x.tyC).trans (by rw [decide_eq_false n0_8, decide_eq_false n0_12]; rfl)
      k_Broken_BadLine := (kit_ref P_Broken P_BadLine.cl P_BadLine.x.tyC).trans (by rw [decide_eq_false n1_8, decide_eq_false n1_12]; rfl)
      k_Broken_BadPrime := (kit_ref P_Broken P_BadPrime.cl P_BadPrime.x.tyC).trans (by rw [decide_eq_false n2_8, decide_eq_false n2_12]; rfl)
      k_Broken_BadShape := (kit_ref P_Broken P_BadShape.cl P_BadShape.x.tyC).trans (by rw [decide_eq_false n3_8, decide_eq_false n3_12]; rfl)
      k_Broken_BadBook := (kit_ref P_Broken P_BadBook.cl P_BadBook.x.tyC).trans (by rw [decide_eq_false n4_8, decide_eq_false n4_12]; rfl)
      k_Broken_TooMany := (kit_ref P_Broken P_TooMany.cl P_TooMany.x.tyC).trans (by rw [decide_eq_false n5_8, decide_eq_false n5_12]; rfl)
      k_Broken_NotNear := (kit_ref P_Broken P_NotNear.cl P_NotNear.x.tyC).trans (by rw [decide_eq_false n6_8, decide_eq_false n6_12]; rfl)
      k_Broken_UnknownName := (kit_ref P_Broken P_UnknownName.cl P_UnknownName.x.tyC).trans (by rw [decide_eq_false n7_8, decide_eq_false n7_12]; rfl)
      k_Broken_Broken := (kit_ref P_Broken P_Broken.cl P_Broken.x.tyC).trans (by rw [decide_eq_true rfl]; rfl)
      k_Broken_NotWaiting := (kit_ref P_Broken P_NotWaiting.cl P_NotWaiting.x.tyC).trans (by rw [decide_eq_false (Ne.symm n8_9), decide_eq_false n9_12]; rfl)
      k_NotWaiting_InvalidError := (kit_ref P_NotWaiting P_InvalidError.cl P_InvalidError.ty).trans (by rw [decide_eq_false (Ne.symm n9_10), decide_eq_false n10_12]; rfl)
      k_NotWaiting_UnknownError := (kit_ref P_NotWaiting P_UnknownError.cl P_UnknownError.ty).trans (by rw [decide_eq_false (Ne.symm n9_11), decide_eq_false n11_12]; rfl)
      k_NotWaiting_StateError := (kit_ref P_NotWaiting P_StateError.cl P_StateError.ty).trans (by rw [decide_eq_false (Ne.symm n9_12), decide_eq_true rfl]; rfl)
      k_NotWaiting_ValueError := kit_tt P_NotWaiting (by decide +kernel) (by decide +kernel)
      k_NotWaiting_LookupError := kit_tt P_NotWaiting (by decide +kernel) (by decide +kernel)
      k_NotWaiting_RuntimeError := kit_tt P_NotWaiting (by decide +kernel) (by decide +kernel)
      k_NotWaiting_BadProgram := (kit_ref P_NotWaiting P_BadProgram.cl P_BadProgram.x.tyC).trans (by rw [decide_eq_false n0_9, decide_eq_false n0_12]; rfl)
      k_NotWaiting_BadLine := (kit_ref P_NotWaiting P_BadLine.cl P_BadLine.x.tyC).trans (by rw [decide_eq_false n1_9, decide_eq_false n1_12]; rfl)
      k_NotWaiting_BadPrime := (kit_ref P_NotWaiting P_BadPrime.cl P_BadPrime.x.tyC).trans (by rw [decide_eq_false n2_9, decide_eq_false n2_12]; rfl)
      k_NotWaiting_BadShape := (kit_ref P_NotWaiting P_BadShape.cl P_BadShape.x.tyC).trans (by rw [decide_eq_false n3_9, decide_eq_false n3_12]; rfl)
      k_NotWaiting_BadBook := (kit_ref P_NotWaiting P_BadBook.cl P_BadBook.x.tyC).trans (by rw [decide_eq_false n4_9, decide_eq_false n4_12]; rfl)
      k_NotWaiting_TooMany := (kit_ref P_NotWaiting P_TooMany.cl P_TooMany.x.tyC).trans (by rw [decide_eq_false n5_9, decide_eq_false n5_12]; rfl)
      k_NotWaiting_NotNear := (kit_ref P_NotWaiting P_NotNear.cl P_NotNear.x.tyC).trans (by rw [decide_eq_false n6_9, decide_eq_false n6_12]; rfl)
      k_NotWaiting_UnknownName := (kit_ref P_NotWaiting P_UnknownName.cl P_UnknownName.x.tyC).trans (by rw [decide_eq_false n7_9, decide_eq_false n7_12]; rfl)
      k_NotWaiting_Broken := (kit_ref P_NotWaiting P_Broken.cl P_Broken.x.tyC).trans (by rw [decide_eq_false n8_9, decide_eq_false n8_12]; rfl)
      k_NotWaiting_NotWaiting := (kit_ref P_NotWaiting P_NotWaiting.cl P_NotWaiting.x.tyC).trans (by rw [decide_eq_true rfl]; rfl)
      k_NotNear_int := kit_tt P_NotNear (by decide +kernel) (by decide +kernel)
      k_NotNear_bool := kit_tt P_NotNear (by decide +kernel) (by decide +kernel)
      k_NotNear_str := kit_tt P_NotNear (by decide +kernel) (by decide +kernel)
      k_NotNear_list := kit_tt P_NotNear (by decide +kernel) (by decide +kernel)
      k_NotNear_tuple := kit_tt P_NotNear (by decide +kernel) (by decide +kernel)
      k_NoneType_NotNear := kit_of P_NotNear.cl P_NotNear.x.tyC rfl
      k_bool_NotNear := kit_of P_NotNear.cl P_NotNear.x.tyC rfl
      k_int_NotNear := kit_of P_NotNear.cl P_NotNear.x.tyC rfl
      k_str_NotNear := kit_of P_NotNear.cl P_NotNear.x.tyC rfl
      k_list_NotNear := kit_of P_NotNear.cl P_NotNear.x.tyC rfl
      k_tuple_NotNear := kit_of P_NotNear.cl P_NotNear.x.tyC rfl
      s_UnknownName := (P_UnknownName.subs _).trans (by rw [List.contains_cons, beq_self_eq_true]; rfl)
      t_PRIMES := tP
      gP := PySem.W.mg_of X G aP
      pairs := [p0, p1, p2, p3, p4, p5, p6]
      t_ROWS := tR
      gR := PySem.W.mg_of X G aR
      lP := tup_at lP (by show 7 ≤ sizeLine; decide) (.cons rfl (.cons rfl (.cons rfl (.cons rfl (.cons rfl (.cons rfl (.cons rfl (.nil))))))))
      lPs := .cons l0 (.cons l1 (.cons l2 (.cons l3 (.cons l4 (.cons l5 (.cons l6 (.nil)))))))
      lR := tup_at' lR (by show 5 ≤ sizeLine; decide) (.cons ⟨_, rfl⟩ (.cons ⟨_, rfl⟩ (.cons ⟨_, rfl⟩ (.cons ⟨_, rfl⟩ (.cons ⟨_, rfl⟩ (.nil))))))
      z_LookupError := PySem.W.mg_none_of X G z_LookupError
      z_RuntimeError := PySem.W.mg_none_of X G z_RuntimeError
      z_ValueError := PySem.W.mg_none_of X G z_ValueError
      z_ZeroDivisionError := PySem.W.mg_none_of X G z_ZeroDivisionError
      z_abs := PySem.W.mg_none_of X G z_abs
      z_all := PySem.W.mg_none_of X G z_all
      z_bool := PySem.W.mg_none_of X G z_bool
      z_dict := PySem.W.mg_none_of X G z_dict
      z_int := PySem.W.mg_none_of X G z_int
      z_isinstance := PySem.W.mg_none_of X G z_isinstance
      z_len := PySem.W.mg_none_of X G z_len
      z_list := PySem.W.mg_none_of X G z_list
      z_max := PySem.W.mg_none_of X G z_max
      z_min := PySem.W.mg_none_of X G z_min
      z_range := PySem.W.mg_none_of X G z_range
      z_str := PySem.W.mg_none_of X G z_str
      z_tuple := PySem.W.mg_none_of X G z_tuple
      z_zip := PySem.W.mg_none_of X G z_zip }
  have e : fa = T.f_law := by
    have := hfa.symm.trans T.g_law
    cases this
    rfl
  subst e
  exact ⟨T.fd_law, one_of T.F_law (fun _ _ _ _ _ _ _ => rfl), fun base _ _ => ok_law T⟩
end K0

namespace K0
open PySem L2
theorem walk {l : PySem.W.OpenLaw} {q : Program} {loose : List Str} {XP : (Str → Option Value) → Heap → Prop} {YP : World → Heap → Prop} {d : DefRec} {K : Params → PySem.W.Frag} (hn : l.most = some 63) (hdf : d.params.defaults = [])
    (hY : ∀ (w : World) (h : Heap), YP w h → (K w.params).In h)
    (F : ∀ (w : World) (mg : Str → Option Value) (fa : Addr) (h : Heap), (K w.params).In h → h.Ns mainGlobals mg → mg d.name = some (.ref fa) →
      ∃ fd : FuncData, (∀ (s : Shared) (u : Value), BindsTo s fd ⟨[u], []⟩ [("script", u)]) ∧ ∀ base : Heap, (K w.params).In base → base.Ns mainGlobals mg → FnOk l.prog w (K w.params) mg base CX0 10 fa fd ["script"] (spLaw (K w.params))) :
    PySem.W.WalkO q loose XP YP l.row.toRowW d [] (fun f vs => PySem.call f vs) :=
  L2.walk_of (n := 63) (k := 10) (x := "script") (CX := fun _ => CX0) (sp := fun w => spLaw (K w.params)) hn (by decide) hdf ⟨rfl, by decide, by decide⟩ hY F (fun _ _ a ns hl _ hS => ⟨a, ns, rfl, hS, hl, fun _ => rfl⟩) fun _ _ _ _ _ z => z
end K0
open PySem PySem.W PyProof.Rows in
set_option maxRecDepth 100000 in
set_option maxHeartbeats 0 in
theorem PySem.Challenge.cw_shownrun_k00_errors_and_primes_holds : PySem.Challenge.rw_shownrun_k00_errors_and_primes.Holds := by
  w_on; o_law; k_head; (case hw => w_witness2)
  k_fill
  refine K0.walk (l := PySem.Challenge.rw_shownrun_k00_errors_and_primes) rfl rfl (fun w h Y => PySem.W.kIn_of Y) ?F
  case F =>
    intro w mg fa h KX G hmg
    refine' K0.build KX G hmg ?P_InvalidError ?P_UnknownError ?P_StateError ?P_BadProgram ?P_BadLine ?P_BadPrime ?P_BadShape ?P_BadBook ?P_TooMany ?P_NotNear ?P_UnknownName ?P_Broken ?P_NotWaiting ?D_is_whole ?D_is_number ?D_fits ?D_generator ?D_inverse ?D_power ?D_box ?D_draw ?D_of ?D_same ?D_prime ?D_number ?D_anything ?D_made ?D_named ?D_told ?D_bases ?D_roots ?D_classes ?D_errors ?D_is_plain ?D_listed ?D_fitting ?D_generators ?D_numbers ?D_turned ?D_powers ?D_law ?I_BadProgram ?I_BadLine ?I_BadPrime ?I_BadShape ?I_BadBook ?I_TooMany ?I_NotNear ?I_UnknownName ?I_Broken ?I_NotWaiting ?no_BadProgram_line ?no_BadProgram_why ?no_BadLine_field ?no_BadPrime_p ?no_BadPrime_rows ?no_BadShape_what ?no_BadShape_count ?no_BadBook_line ?no_TooMany_what ?no_TooMany_most ?no_NotNear_e ?no_UnknownName_name ?no_Broken_line ?no_Broken_why ?no_NotWaiting_what ?hN ?z_LookupError ?z_RuntimeError ?z_ValueError ?z_ZeroDivisionError ?z_abs ?z_all ?z_bool ?z_dict ?z_int ?z_isinstance ?z_len ?z_list ?z_max ?z_min ?z_range ?z_str ?z_tuple ?z_zip ?aP ?lP ?l0 ?l1 ?l2 ?l3 ?l4 ?l5 ?l6 ?aR ?lR
    (case P_InvalidError => refine' K0.bp_mk KX G ?a ?cl ?ty; (case a => k_is); (case cl => k_is); (case ty => k_is))
    (case P_UnknownError => refine' K0.bp_mk KX G ?a ?cl ?ty; (case a => k_is); (case cl => k_is); (case ty => k_is))
    (case P_StateError => refine' K0.bp_mk KX G ?a ?cl ?ty; (case a => k_is); (case cl => k_is); (case ty => k_is))
    (case P_BadProgram => refine' K0.cp_mk KX G PySem.F.excBase_ValueError PySem.F.store_ValueError (by decide +kernel) ?a ?l ?sa ?eC ?tC ?kC ?ga ?gg ?hd ?ha ?hn ?ht ?hm ?cl; (case a => k_is); (case l => k_is); (case sa => k_is); (case eC => k_is); (case tC => k_is); (case kC => k_is); (case ga => k_is); (case gg => k_is); (case hd => k_is); (case ha => k_is); (case hn => k_is); (case ht => k_is); (case hm => k_is); (case cl => k_is))
    (case P_BadLine => refine' K0.cp_mk KX G PySem.F.excBase_ValueError PySem.F.store_ValueError (by decide +kernel) ?a ?l ?sa ?eC ?tC ?kC ?ga ?gg ?hd ?ha ?hn ?ht ?hm ?cl; (case a => k_is); (case l => k_is); (case sa => k_is); (case eC => k_is); (case tC => k_is); (case kC => k_is); (case ga => k_is); (case gg => k_is); (case hd => k_is); (case ha => k_is); (case hn => k_is); (case ht => k_is); (case hm => k_is); (case cl => k_is))
    (case P_BadPrime => refine' K0.cp_mk KX G PySem.F.excBase_ValueError PySem.F.store_ValueError (by decide +kernel) ?a ?l ?sa ?eC ?tC ?kC ?ga ?gg ?hd ?ha ?hn ?ht ?hm ?cl; (case a => k_is); (case l => k_is); (case sa => k_is); (case eC => k_is); (case tC => k_is); (case kC => k_is); (case ga => k_is); (case gg => k_is); (case hd => k_is); (case ha => k_is); (case hn => k_is); (case ht => k_is); (case hm => k_is); (case cl => k_is))
    (case P_BadShape => refine' K0.cp_mk KX G PySem.F.excBase_ValueError PySem.F.store_ValueError (by decide +kernel) ?a ?l ?sa ?eC ?tC ?kC ?ga ?gg ?hd ?ha ?hn ?ht ?hm ?cl; (case a => k_is); (case l => k_is); (case sa => k_is); (case eC => k_is); (case tC => k_is); (case kC => k_is); (case ga => k_is); (case gg => k_is); (case hd => k_is); (case ha => k_is); (case hn => k_is); (case ht => k_is); (case hm => k_is); (case cl => k_is))
    (case P_BadBook => refine' K0.cp_mk KX G PySem.F.excBase_ValueError PySem.F.store_ValueError (by decide +kernel) ?a ?l ?sa ?eC ?tC ?kC ?ga ?gg ?hd ?ha ?hn ?ht ?hm ?cl; (case a => k_is); (case l => k_is); (case sa => k_is); (case eC => k_is); (case tC => k_is); (case kC => k_is); (case ga => k_is); (case gg => k_is); (case hd => k_is); (case ha => k_is); (case hn => k_is); (case ht => k_is); (case hm => k_is); (case cl => k_is))
    (case P_TooMany => refine' K0.cp_mk KX G PySem.F.excBase_ValueError PySem.F.store_ValueError (by decide +kernel) ?a ?l ?sa ?eC ?tC ?kC ?ga ?gg ?hd ?ha ?hn ?ht ?hm ?cl; (case a => k_is); (case l => k_is); (case sa => k_is); (case eC => k_is); (case tC => k_is); (case kC => k_is); (case ga => k_is); (case gg => k_is); (case hd => k_is); (case ha => k_is); (case hn => k_is); (case ht => k_is); (case hm => k_is); (case cl => k_is))
    (case P_NotNear => refine' K0.cp_mk KX G PySem.F.excBase_LookupError PySem.F.store_LookupError (by decide +kernel) ?a ?l ?sa ?eC ?tC ?kC ?ga ?gg ?hd ?ha ?hn ?ht ?hm ?cl; (case a => k_is); (case l => k_is); (case sa => k_is); (case eC => k_is); (case tC => k_is); (case kC => k_is); (case ga => k_is); (case gg => k_is); (case hd => k_is); (case ha => k_is); (case hn => k_is); (case ht => k_is); (case hm => k_is); (case cl => k_is))
    (case P_UnknownName => refine' K0.cp_mk KX G PySem.F.excBase_LookupError PySem.F.store_LookupError (by decide +kernel) ?a ?l ?sa ?eC ?tC ?kC ?ga ?gg ?hd ?ha ?hn ?ht ?hm ?cl; (case a => k_is); (case l => k_is); (case sa => k_is); (case eC => k_is); (case tC => k_is); (case kC => k_is); (case ga => k_is); (case gg => k_is); (case hd => k_is); (case ha => k_is); (case hn => k_is); (case ht => k_is); (case hm => k_is); (case cl => k_is))
    (case P_Broken => refine' K0.cp_mk KX G PySem.F.excBase_RuntimeError PySem.F.store_RuntimeError (by decide +kernel) ?a ?l ?sa ?eC ?tC ?kC ?ga ?gg ?hd ?ha ?hn ?ht ?hm ?cl; (case a => k_is); (case l => k_is); (case sa => k_is); (case eC => k_is); (case tC => k_is); (case kC => k_is); (case ga => k_is); (case gg => k_is); (case hd => k_is); (case ha => k_is); (case hn => k_is); (case ht => k_is); (case hm => k_is); (case cl => k_is))
    (case P_NotWaiting => refine' K0.cp_mk KX G PySem.F.excBase_RuntimeError PySem.F.store_RuntimeError (by decide +kernel) ?a ?l ?sa ?eC ?tC ?kC ?ga ?gg ?hd ?ha ?hn ?ht ?hm ?cl; (case a => k_is); (case l => k_is); (case sa => k_is); (case eC => k_is); (case tC => k_is); (case kC => k_is); (case ga => k_is); (case gg => k_is); (case hd => k_is); (case ha => k_is); (case hn => k_is); (case ht => k_is); (case hm => k_is); (case cl => k_is))
    (case D_is_whole => refine' K0.def_ex KX G ?a ?l ?c ?k; (case a => k_is); (case l => k_is); (case c => k_is); (case k => k_is))
    (case D_is_number => refine' K0.def_ex KX G ?a ?l ?c ?k; (case a => k_is); (case l => k_is); (case c => k_is); (case k => k_is))
    (case D_fits => refine' K0.def_ex KX G ?a ?l ?c ?k; (case a => k_is); (case l => k_is); (case c => k_is); (case k => k_is))
    (case D_generator => refine' K0.def_ex KX G ?a ?l ?c ?k; (case a => k_is); (case l => k_is); (case c => k_is); (case k => k_is))
    (case D_inverse => refine' K0.def_ex KX G ?a ?l ?c ?k; (case a => k_is); (case l => k_is); (case c => k_is); (case k => k_is))
    (case D_power => refine' K0.def_ex KX G ?a ?l ?c ?k; (case a => k_is); (case l => k_is); (case c => k_is); (case k => k_is))
    (case D_box => refine' K0.def_ex KX G ?a ?l ?c ?k; (case a => k_is); (case l => k_is); (case c => k_is); (case k => k_is))
    (case D_draw => refine' K0.def_ex KX G ?a ?l ?c ?k; (case a => k_is); (case l => k_is); (case c => k_is); (case k => k_is))
    (case D_of => refine' K0.def_ex KX G ?a ?l ?c ?k; (case a => k_is); (case l => k_is); (case c => k_is); (case k => k_is))
    (case D_same => refine' K0.def_ex KX G ?a ?l ?c ?k; (case a => k_is); (case l => k_is); (case c => k_is); (case k => k_is))
    (case D_prime => refine' K0.def_ex KX G ?a ?l ?c ?k; (case a => k_is); (case l => k_is); (case c => k_is); (case k => k_is))
    (case D_number => refine' K0.def_ex KX G ?a ?l ?c ?k; (case a => k_is); (case l => k_is); (case c => k_is); (case k => k_is))
    (case D_anything => refine' K0.def_ex KX G ?a ?l ?c ?k; (case a => k_is); (case l => k_is); (case c => k_is); (case k => k_is))
    (case D_made => refine' K0.def_ex KX G ?a ?l ?c ?k; (case a => k_is); (case l => k_is); (case c => k_is); (case k => k_is))
    (case D_named => refine' K0.def_ex KX G ?a ?l ?c ?k; (case a => k_is); (case l => k_is); (case c => k_is); (case k => k_is))
    (case D_told => refine' K0.def_ex KX G ?a ?l ?c ?k; (case a => k_is); (case l => k_is); (case c => k_is); (case k => k_is))
    (case D_bases => refine' K0.def_ex KX G ?a ?l ?c ?k; (case a => k_is); (case l => k_is); (case c => k_is); (case k => k_is))
    (case D_roots => refine' K0.def_ex KX G ?a ?l ?c ?k; (case a => k_is); (case l => k_is); (case c => k_is); (case k => k_is))
    (case D_classes => refine' K0.def_ex KX G ?a ?l ?c ?k; (case a => k_is); (case l => k_is); (case c => k_is); (case k => k_is))
    (case D_errors => refine' K0.def_ex KX G ?a ?l ?c ?k; (case a => k_is); (case l => k_is); (case c => k_is); (case k => k_is))
    (case D_is_plain => refine' K0.def_ex KX G ?a ?l ?c ?k; (case a => k_is); (case l => k_is); (case c => k_is); (case k => k_is))
    (case D_listed => refine' K0.def_ex KX G ?a ?l ?c ?k; (case a => k_is); (case l => k_is); (case c => k_is); (case k => k_is))
    (case D_fitting => refine' K0.def_ex KX G ?a ?l ?c ?k; (case a => k_is); (case l => k_is); (case c => k_is); (case k => k_is))
    (case D_generators => refine' K0.def_ex KX G ?a ?l ?c ?k; (case a => k_is); (case l => k_is); (case c => k_is); (case k => k_is))
    (case D_numbers => refine' K0.def_ex KX G ?a ?l ?c ?k; (case a => k_is); (case l => k_is); (case c => k_is); (case k => k_is))
    (case D_turned => refine' K0.def_ex KX G ?a ?l ?c ?k; (case a => k_is); (case l => k_is); (case c => k_is); (case k => k_is))
    (case D_powers => refine' K0.def_ex KX G ?a ?l ?c ?k; (case a => k_is); (case l => k_is); (case c => k_is); (case k => k_is))
    (case D_law => refine' K0.def_ex KX G ?a ?l ?c ?k; (case a => k_is); (case l => k_is); (case c => k_is); (case k => k_is))
    (case I_BadProgram => refine' K0.ini_ex ?a ?t ?l ?c ?k; (case a => k_is); (case t => k_is); (case l => k_is); (case c => k_is); (case k => k_is))
    (case I_BadLine => refine' K0.ini_ex ?a ?t ?l ?c ?k; (case a => k_is); (case t => k_is); (case l => k_is); (case c => k_is); (case k => k_is))
    (case I_BadPrime => refine' K0.ini_ex ?a ?t ?l ?c ?k; (case a => k_is); (case t => k_is); (case l => k_is); (case c => k_is); (case k => k_is))
    (case I_BadShape => refine' K0.ini_ex ?a ?t ?l ?c ?k; (case a => k_is); (case t => k_is); (case l => k_is); (case c => k_is); (case k => k_is))
    (case I_BadBook => refine' K0.ini_ex ?a ?t ?l ?c ?k; (case a => k_is); (case t => k_is); (case l => k_is); (case c => k_is); (case k => k_is))
    (case I_TooMany => refine' K0.ini_ex ?a ?t ?l ?c ?k; (case a => k_is); (case t => k_is); (case l => k_is); (case c => k_is); (case k => k_is))
    (case I_NotNear => refine' K0.ini_ex ?a ?t ?l ?c ?k; (case a => k_is); (case t => k_is); (case l => k_is); (case c => k_is); (case k => k_is))
    (case I_UnknownName => refine' K0.ini_ex ?a ?t ?l ?c ?k; (case a => k_is); (case t => k_is); (case l => k_is); (case c => k_is); (case k => k_is))
    (case I_Broken => refine' K0.ini_ex ?a ?t ?l ?c ?k; (case a => k_is); (case t => k_is); (case l => k_is); (case c => k_is); (case k => k_is))
    (case I_NotWaiting => refine' K0.ini_ex ?a ?t ?l ?c ?k; (case a => k_is); (case t => k_is); (case l => k_is); (case c => k_is); (case k => k_is))
    (case no_BadProgram_line => k_is)
    (case no_BadProgram_why => k_is)
    (case no_BadLine_field => k_is)
    (case no_BadPrime_p => k_is)
    (case no_BadPrime_rows => k_is)
    (case no_BadShape_what => k_is)
    (case no_BadShape_count => k_is)
    (case no_BadBook_line => k_is)
    (case no_TooMany_what => k_is)
    (case no_TooMany_most => k_is)
    (case no_NotNear_e => k_is)
    (case no_UnknownName_name => k_is)
    (case no_Broken_line => k_is)
    (case no_Broken_why => k_is)
    (case no_NotWaiting_what => k_is)
    (case hN => decide)
    (case z_LookupError => k_is)
    (case z_RuntimeError => k_is)
    (case z_ValueError => k_is)
    (case z_ZeroDivisionError => k_is)
    (case z_abs => k_is)
    (case z_all => k_is)
    (case z_bool => k_is)
    (case z_dict => k_is)
    (case z_int => k_is)
    (case z_isinstance => k_is)
    (case z_len => k_is)
    (case z_list => k_is)
    (case z_max => k_is)
    (case z_min => k_is)
    (case z_range => k_is)
    (case z_str => k_is)
    (case z_tuple => k_is)
    (case z_zip => k_is)
    (case aP => k_is)
    (case lP => k_is)
    (case l0 => refine' K0.pr_mk ?l; (case l => k_is))
    (case l1 => refine' K0.pr_mk ?l; (case l => k_is))
    (case l2 => refine' K0.pr_mk ?l; (case l => k_is))
    (case l3 => refine' K0.pr_mk ?l; (case l => k_is))
    (case l4 => refine' K0.pr_mk ?l; (case l => k_is))
    (case l5 => refine' K0.pr_mk ?l; (case l => k_is))
    (case l6 => refine' K0.pr_mk ?l; (case l => k_is))
    (case aR => k_is)
    (case lR => k_is)

