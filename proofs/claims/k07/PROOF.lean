import PyProof.Rows.All
import Wide.All
import OpenK.AllK
import Wide.FinOn
import HandS.Sort
import HandS.ForMost
import HandS.Star
import HandS.SlotsOwn
import HandS.IsInst
import PyProof.InstNe
import HandS.More
import HandS.ClsMeth
import HandS.Defaults
import HandS.ForExc
import HandS.MakeKwOnly
import HandS.NoneIn
import KE.GoesMore
import KE.GoesEnum
import HandS.Zip
import KE.GoesZip
import HandS.Deep
import HandS.TupMul
import HandS.TupSets
import KE.DataFind
import KE.KExcInit
import KE.KExcIs
import HandS.ExcInit
import HandS.ExcIs
import HandS.ExcField
import HandS.ExcBuiltin
import HandS.TryOnly
import HandS.Wide
import HandS.Conv
import HandS.Style
import HandS.Codes
import HandS.Rev
import HandS.TupAny
import HandS.FStr
import HandS.Property
import HandS.MakeKw
import KE.KDictPairs
import HandS.Ends
import PySem.Challenge.RW_shownrun_k07_whole_product_lots
set_option Elab.async false
set_option linter.all false
set_option maxRecDepth 100000
namespace K0
/-! mathematics: primes by trial, the inverse, the power -/
def Prm (p : Int) : Prop := 1 < p ∧ ∀ d : Int, d ∣ p → d.natAbs = 1 ∨ d.natAbs = p.natAbs
/-- no d with lo ≤ d < lo + 2 ^ k divides n -/
def clear (n : Nat) : Nat → Nat → Bool
  | 0, lo => n % lo != 0
  | k + 1, lo => clear n k lo && clear n k (lo + 2 ^ k)
theorem clear_ok {n : Nat} : ∀ {k lo : Nat}, clear n k lo = true → ∀ d, lo ≤ d → d < lo + 2 ^ k → ¬ d ∣ n
  | 0, lo, h, d, h1, h2, hd => by
    have e : d = lo := by
      have : (2:Nat) ^ 0 = 1 := rfl
      omega
    subst e
    have := Nat.mod_eq_zero_of_dvd hd
    simp [clear, this] at h
  | k + 1, lo, h, d, h1, h2, hd => by
    unfold clear at h
    rw [Bool.and_eq_true] at h
    by_cases c : d < lo + 2 ^ k
    · exact clear_ok h.1 d h1 c hd
    · refine clear_ok h.2 d (by omega) ?_ hd
      have : (2:Nat) ^ (k + 1) = 2 ^ k + 2 ^ k := by rw [Nat.pow_succ]; omega
      omega
theorem prm_of {n k : Nat} (h1 : 1 < n) (hk : n < (2 + 2 ^ k) * (2 + 2 ^ k)) (h : clear n k 2 = true) : Prm (n : Int) := by
  refine ⟨by omega, fun d hd => ?_⟩
  have hd' : d.natAbs ∣ n := by
    have := Int.natAbs_dvd_natAbs.mpr hd
    simpa using this
  obtain ⟨c, hc⟩ := hd'
  have key : ∀ e : Nat, e ∣ n → 2 ≤ e → 2 + 2 ^ k ≤ e := fun e he h2 => by
    by_cases z : e < 2 + 2 ^ k
    · exact absurd he (clear_ok h e h2 z)
    · omega
  by_cases a1 : d.natAbs = 1
  · exact .inl a1
  · right
    have d0 : d.natAbs ≠ 0 := fun z => by rw [z, Nat.zero_mul] at hc; omega
    by_cases c1 : c = 1
    · rw [c1, Nat.mul_one] at hc
      simp [hc]
    · have c0 : c ≠ 0 := fun z => by rw [z, Nat.mul_zero] at hc; omega
      have k1 := key d.natAbs ⟨c, hc⟩ (by omega)
      have k2 := key c ⟨d.natAbs, by rw [Nat.mul_comm]; exact hc⟩ (by omega)
      have := Nat.mul_le_mul k1 k2
      omega
/-- small primes: every smaller number from 2 on tried -/
theorem prm_small {n : Nat} (h1 : 1 < n) (h : ∀ d, d < n → 2 ≤ d → n % d ≠ 0) : Prm (n : Int) := by
  refine ⟨by omega, fun d hd => ?_⟩
  have hd' : d.natAbs ∣ n := by
    have := Int.natAbs_dvd_natAbs.mpr hd
    simpa using this
  have le := Nat.le_of_dvd (by omega) hd'
  by_cases a1 : d.natAbs = 1
  · exact .inl a1
  · right
    by_cases c : d.natAbs = n
    · simpa using c
    · have d0 : d.natAbs ≠ 0 := fun z => by
        rw [z] at hd'
        have := Nat.eq_zero_of_zero_dvd hd'
        omega
      exact absurd (Nat.mod_eq_zero_of_dvd hd') (h d.natAbs (by omega) (by omega))
def primes : List Int := [2, 3, 5, 7, 11, 13, 17, 31, 97, 193, 257, 769, 7681, 12289, 998244353, 2013265921, 9999999967]
theorem prm_all : ∀ p ∈ primes, Prm p := by
  intro p hp
  simp only [primes, List.mem_cons, List.not_mem_nil, or_false] at hp
  rcases hp with rfl | rfl | rfl | rfl | rfl | rfl | rfl | rfl | rfl | rfl | rfl | rfl | rfl | rfl | rfl | rfl | rfl
  · exact prm_small (n := 2) (by decide) (by decide +kernel)
  · exact prm_small (n := 3) (by decide) (by decide +kernel)
  · exact prm_small (n := 5) (by decide) (by decide +kernel)
  · exact prm_small (n := 7) (by decide) (by decide +kernel)
  · exact prm_small (n := 11) (by decide) (by decide +kernel)
  · exact prm_small (n := 13) (by decide) (by decide +kernel)
  · exact prm_small (n := 17) (by decide) (by decide +kernel)
  · exact prm_small (n := 31) (by decide) (by decide +kernel)
  · exact prm_small (n := 97) (by decide) (by decide +kernel)
  · exact prm_small (n := 193) (by decide) (by decide +kernel)
  · exact prm_small (n := 257) (by decide) (by decide +kernel)
  · exact prm_small (n := 769) (by decide) (by decide +kernel)
  · exact prm_of (n := 7681) (k := 7) (by decide) (by decide +kernel) (by decide +kernel)
  · exact prm_of (n := 12289) (k := 7) (by decide) (by decide +kernel) (by decide +kernel)
  · exact prm_of (n := 998244353) (k := 15) (by decide) (by decide +kernel) (by decide +kernel)
  · exact prm_of (n := 2013265921) (k := 16) (by decide) (by decide +kernel) (by decide +kernel)
  · exact prm_of (n := 9999999967) (k := 17) (by decide) (by decide +kernel) (by decide +kernel)
theorem primes_lt : ∀ p ∈ primes, 1 < p ∧ p < 10 ^ 10 := by decide +kernel

/-! ### the inverse -/
theorem dvd_ml {a b : Int} (c : Int) (h : a ∣ b) : a ∣ c * b := by
  obtain ⟨k, rfl⟩ := h
  exact ⟨c * k, by rw [Int.mul_left_comm]⟩
/-- what holds between two turns -/
structure InvI (w p low high one other : Int) : Prop where
  l0 : 0 ≤ low
  lh : low < high
  hp : high ≤ p
  h1 : 1 < high
  e1 : p ∣ one * w - low
  e2 : p ∣ other * w - high
  co : ∀ d : Int, d ∣ low → d ∣ high → d ∣ 1
theorem inv_start {w p : Int} (P : Prm p) (h : w % p ≠ 0) : InvI w p (w % p) p 1 0 := by
  have p1 := P.1
  have a := Int.emod_nonneg w (show p ≠ 0 by omega)
  have b := Int.emod_lt_of_pos w (show 0 < p by omega)
  refine ⟨a, b, Int.le_refl _, p1, ?_, ?_, fun d h1 h2 => ?_⟩
  · rw [Int.one_mul]
    exact Int.dvd_self_sub_emod
  · rw [Int.zero_mul, Int.zero_sub]
    exact Int.dvd_neg.mpr (Int.dvd_refl p)
  · rcases P.2 d h2 with q | q
    · have : d ∣ 1 := Int.natAbs_dvd_natAbs.mp (by rw [q]; exact Nat.dvd_refl 1)
      exact this
    · exfalso
      have z : p.natAbs ∣ (w % p).natAbs := by rw [← q]; exact Int.natAbs_dvd_natAbs.mpr h1
      have le := Nat.le_of_dvd (by omega) z
      omega
theorem inv_turn {w p low high one other : Int} (I : InvI w p low high one other) (h : 1 < low) :
    InvI w p (high - high / low * low) low (other - high / low * one) one ∧ (high - high / low * low).toNat < low.toNat := by
  have m := Int.emod_nonneg high (show low ≠ 0 by omega)
  have m2 := Int.emod_lt_of_pos high (show 0 < low by omega)
  have e : high - high / low * low = high % low := by
    have := Int.mul_ediv_add_emod high low
    rw [Int.mul_comm]
    omega
  refine ⟨⟨by omega, by omega, by have := I.lh; have := I.hp; omega, h, ?_, I.e1, fun d h1 h2 => ?_⟩, by omega⟩
  · have q := Int.dvd_sub I.e2 (dvd_ml (high / low) I.e1)
    have e3 : (other - high / low * one) * w - (high - high / low * low) = other * w - high - high / low * (one * w - low) := by
      rw [Int.sub_mul, Int.mul_sub, Int.mul_assoc]
      omega
    rw [e3]
    exact q
  · refine I.co d h2 ?_
    have q := Int.dvd_add h1 (dvd_ml (high / low) h2)
    have : high - high / low * low + high / low * low = high := by omega
    rw [this] at q
    exact q
theorem inv_end {w p low high one other : Int} (I : InvI w p low high one other) (h : ¬ 1 < low) :
    0 < one % p ∧ one % p < p ∧ (one % p * w) % p = 1 := by
  have l0 := I.l0
  have p1 : 1 < p := Int.lt_of_lt_of_le I.h1 I.hp
  have l1 : low = 1 := by
    by_cases z : low = 0
    · exfalso
      have := I.co high (by rw [z]; exact Int.dvd_zero _) (Int.dvd_refl _)
      have := Int.le_of_dvd (by omega) this
      have := I.h1
      omega
    · omega
  have a := Int.emod_nonneg one (show p ≠ 0 by omega)
  have b := Int.emod_lt_of_pos one (show 0 < p by omega)
  have c : (one % p * w) % p = 1 := by
    have e1 := I.e1
    rw [l1] at e1
    have : (one * w) % p = 1 % p := Int.emod_eq_emod_iff_emod_sub_eq_zero.mpr (Int.emod_eq_zero_of_dvd e1)
    rw [Int.mul_emod, Int.emod_emod, ← Int.mul_emod, this]
    exact Int.emod_eq_of_lt (by omega) p1
  refine ⟨?_, b, c⟩
  by_cases z : one % p = 0
  · rw [z, Int.zero_mul, Int.zero_emod] at c
    omega
  · omega

/-! ### the power -/
theorem pow_turn1 {p made base : Int} {n : Nat} : (made * base ^ (2 * n + 1)) % p = ((made * base % p) * (base * base % p) ^ n) % p := by
  have e : made * base ^ (2 * n + 1) = (made * base) * (base * base) ^ n := by
    rw [Int.pow_succ, Int.pow_mul, show base ^ 2 = base * base by rw [Int.pow_succ, Int.pow_succ, Int.pow_zero, Int.one_mul]]
    rw [Int.mul_comm ((base * base) ^ n) base, Int.mul_assoc]
  have pm : ∀ m : Nat, ∀ x : Int, (x % p) ^ m % p = x ^ m % p := by
    intro m x
    induction m with
    | zero => rw [Int.pow_zero, Int.pow_zero]
    | succ m ih => rw [Int.pow_succ, Int.pow_succ, Int.mul_emod, ih, Int.emod_emod, ← Int.mul_emod]
  rw [e, Int.mul_emod, ← pm n (base * base), ← Int.mul_emod, Int.mul_emod (made * base % p), Int.emod_emod, ← Int.mul_emod]
theorem pow_turn0 {p made base : Int} {n : Nat} : (made * base ^ (2 * n)) % p = (made * (base * base % p) ^ n) % p := by
  have e : base ^ (2 * n) = (base * base) ^ n := by
    rw [Int.pow_mul, show base ^ 2 = base * base by rw [Int.pow_succ, Int.pow_succ, Int.pow_zero, Int.one_mul]]
  have pm : ∀ m : Nat, ∀ x : Int, (x % p) ^ m % p = x ^ m % p := by
    intro m x
    induction m with
    | zero => rw [Int.pow_zero, Int.pow_zero]
    | succ m ih => rw [Int.pow_succ, Int.pow_succ, Int.mul_emod, ih, Int.emod_emod, ← Int.mul_emod]
  rw [e, Int.mul_emod, ← pm n (base * base), ← Int.mul_emod]
theorem pow_mod (p x : Int) (m : Nat) : (x % p) ^ m % p = x ^ m % p := by
  induction m with
  | zero => rw [Int.pow_zero, Int.pow_zero]
  | succ m ih => rw [Int.pow_succ, Int.pow_succ, Int.mul_emod, ih, Int.emod_emod, ← Int.mul_emod]
structure InvP (w : Int) (n : Nat) (p made base left : Int) : Prop where
  m0 : 0 ≤ made
  m1 : made < p
  b0 : 0 ≤ base
  b1 : base < p
  l0 : 0 ≤ left
  e : (made * base ^ left.toNat) % p = w ^ n % p
theorem powi_start {w p : Int} (n : Nat) (h : 1 < p) : InvP w n p 1 (w % p) (n : Int) :=
  ⟨by omega, h, Int.emod_nonneg w (by omega), Int.emod_lt_of_pos w (by omega), by omega, by rw [Int.one_mul, Int.toNat_natCast, pow_mod]⟩
theorem powi_turn1 {w p made base left : Int} {n : Nat} (I : InvP w n p made base left) (h : 0 < left) (o : left % 2 = 1) : InvP w n p (made * base % p) (base * base % p) (left / 2) := by
  have p0 : 0 < p := Int.lt_of_le_of_lt I.m0 I.m1
  refine ⟨Int.emod_nonneg _ (by omega), Int.emod_lt_of_pos _ p0, Int.emod_nonneg _ (by omega), Int.emod_lt_of_pos _ p0, by omega, ?_⟩
  have q := I.e
  have : left.toNat = 2 * (left / 2).toNat + 1 := by omega
  rw [this, pow_turn1] at q
  exact q
theorem powi_turn0 {w p made base left : Int} {n : Nat} (I : InvP w n p made base left) (h : 0 < left) (o : ¬ left % 2 = 1) : InvP w n p made (base * base % p) (left / 2) := by
  have p0 : 0 < p := Int.lt_of_le_of_lt I.m0 I.m1
  refine ⟨I.m0, I.m1, Int.emod_nonneg _ (by omega), Int.emod_lt_of_pos _ p0, by omega, ?_⟩
  have q := I.e
  have : left.toNat = 2 * (left / 2).toNat := by omega
  rw [this, pow_turn0] at q
  exact q
theorem powi_end {w p made base left : Int} {n : Nat} (I : InvP w n p made base left) (h : ¬ 0 < left) : made = w ^ n % p := by
  have q := I.e
  have : left.toNat = 0 := by have := I.l0; omega
  rw [this, Int.pow_zero, Int.mul_one, Int.emod_eq_of_lt I.m0 I.m1] at q
  exact q
theorem due_start {w p : Int} (h : 1 < p) : (1 : Int) = w ^ 0 % p := by
  rw [Int.pow_zero, Int.emod_eq_of_lt (by omega) h]
theorem due_turn {w p : Int} (i : Nat) : (w ^ i % p * w) % p = w ^ (i + 1) % p := by
  rw [Int.pow_succ, Int.mul_emod, Int.emod_emod, ← Int.mul_emod]
end K0

set_option maxRecDepth 100000
namespace K1
open K0
/-! ### numbers modulo a prime -/
def Cg (p a b : Int) : Prop := p ∣ a - b
section
variable {p a b c d x y : Int}
theorem Cg.refl (p a : Int) : Cg p a a := ⟨0, by omega⟩
theorem Cg.of_eq (h : a = b) : Cg p a b := h ▸ Cg.refl p a
theorem Cg.symm (h : Cg p a b) : Cg p b a := by
  obtain ⟨k, h⟩ := h
  exact ⟨-k, by grind⟩
theorem Cg.trans (h : Cg p a b) (g : Cg p b c) : Cg p a c := by
  obtain ⟨k, h⟩ := h
  obtain ⟨l, g⟩ := g
  exact ⟨k + l, by grind⟩
theorem Cg.add (h : Cg p a b) (g : Cg p c d) : Cg p (a + c) (b + d) := by
  obtain ⟨k, h⟩ := h
  obtain ⟨l, g⟩ := g
  exact ⟨k + l, by grind⟩
theorem Cg.sub (h : Cg p a b) (g : Cg p c d) : Cg p (a - c) (b - d) := by
  obtain ⟨k, h⟩ := h
  obtain ⟨l, g⟩ := g
  exact ⟨k - l, by grind⟩
theorem Cg.mul (h : Cg p a b) (g : Cg p c d) : Cg p (a * c) (b * d) := by
  obtain ⟨k, h⟩ := h
  obtain ⟨l, g⟩ := g
  exact ⟨k * c + b * l, by grind⟩
theorem Cg.mod (p a : Int) : Cg p (a % p) a := by
  have := Int.mul_ediv_add_emod a p
  exact ⟨-(a / p), by grind⟩
theorem Cg.iff : Cg p a b ↔ a % p = b % p := by
  constructor
  · intro h
    exact Int.emod_eq_emod_iff_emod_sub_eq_zero.mpr (Int.emod_eq_zero_of_dvd h)
  · intro h
    exact (Cg.mod p a).symm.trans (h ▸ Cg.mod p b)
theorem Cg.pow (h : Cg p a b) : ∀ n : Nat, Cg p (a ^ n) (b ^ n)
  | 0 => Cg.of_eq (by rw [Int.pow_zero, Int.pow_zero])
  | n + 1 => by
    rw [Int.pow_succ, Int.pow_succ]
    exact (Cg.pow h n).mul h
theorem Cg.eq_of (h : Cg p a b) (a0 : 0 ≤ a) (a1 : a < p) (b0 : 0 ≤ b) (b1 : b < p) : a = b := by
  have := Cg.iff.mp h
  rwa [Int.emod_eq_of_lt a0 a1, Int.emod_eq_of_lt b0 b1] at this
theorem cg_zero : Cg p a 0 ↔ a % p = 0 := by
  rw [Cg.iff, Int.zero_emod]
end
theorem inv_ex {p w : Int} (P : Prm p) (h : w % p ≠ 0) : ∃ r, 0 < r ∧ r < p ∧ (r * w) % p = 1 := by
  have key : ∀ (n : Nat) (low high one other : Int), low.toNat ≤ n → InvI w p low high one other → ∃ r, 0 < r ∧ r < p ∧ (r * w) % p = 1 := by
    intro n
    induction n with
    | zero =>
      intro low high one other hn I
      obtain ⟨a, b, c⟩ := inv_end I (by omega)
      exact ⟨_, a, b, c⟩
    | succ n ih =>
      intro low high one other hn I
      by_cases q : 1 < low
      · obtain ⟨J, lt⟩ := inv_turn I q
        exact ih _ _ _ _ (by omega) J
      · obtain ⟨a, b, c⟩ := inv_end I q
        exact ⟨_, a, b, c⟩
  exact key _ _ _ _ _ (Nat.le_refl _) (inv_start P h)
theorem one_mod {p : Int} (P : Prm p) : (1 : Int) % p = 1 := Int.emod_eq_of_lt (by omega) P.1
theorem cg_one {p a : Int} (P : Prm p) (h : a % p = 1) : Cg p a 1 := Cg.iff.mpr (by rw [h, one_mod P])
theorem inv_uniq {p w r s : Int} (P : Prm p) (r0 : 0 ≤ r) (r1 : r < p) (s0 : 0 ≤ s) (s1 : s < p) (h : (r * w) % p = 1) (g : (s * w) % p = 1) : r = s := by
  have h' := (cg_one P h).mul (Cg.refl p s)
  have g' := (cg_one P g).mul (Cg.refl p r)
  refine Cg.eq_of (p := p) ?_ r0 r1 s0 s1
  have e : r * w * s = s * w * r := by grind
  rw [e] at h'
  have := g'.symm.trans h'
  rwa [Int.one_mul, Int.one_mul] at this
theorem prm_mul {p a b : Int} (P : Prm p) (h : Cg p (a * b) 0) (ha : ¬ Cg p a 0) : Cg p b 0 := by
  obtain ⟨r, _, _, hr⟩ := inv_ex P (fun z => ha (cg_zero.mpr z))
  have e := (Cg.refl p r).mul h
  have e2 : Cg p (r * (a * b)) (1 * b) := by
    have := (cg_one P hr).mul (Cg.refl p b)
    rwa [Int.mul_assoc] at this
  rw [Int.mul_zero] at e
  rw [Int.one_mul] at e2
  exact e2.symm.trans e
/-! ### Fermat -/
theorem perm_onto : ∀ (n : Nat) (l : List Nat), l.length = n → (∀ k, k < n → k ∈ l) → l.Perm (List.range n)
  | 0, l, hl, _ => by
    rw [List.eq_nil_of_length_eq_zero hl]
    exact .refl _
  | n + 1, l, hl, h => by
    have hn : n ∈ l := h n (by omega)
    have ih := perm_onto n (l.erase n) (by rw [List.length_erase_of_mem hn]; omega)
      fun k hk => (List.mem_erase_of_ne (by omega)).2 (h k (by omega))
    rw [List.range_succ]
    exact (List.perm_cons_erase hn).trans
      ((ih.cons n).trans (List.perm_append_singleton n _).symm)
def prodL (f : Nat → Int) : List Nat → Int
  | [] => 1
  | a :: l => f a * prodL f l
theorem prodL_perm {f : Nat → Int} {l m : List Nat} (h : l.Perm m) : prodL f l = prodL f m := by
  induction h with
  | nil => rfl
  | cons x _ ih => simp only [prodL, ih]
  | swap x y l => simp only [prodL]; grind
  | trans _ _ h1 h2 => exact h1.trans h2
theorem prodL_map {p x : Int} {f : Nat → Int} {g : Nat → Nat} : ∀ l : List Nat, (∀ a ∈ l, Cg p (f (g a)) (x * f a)) → Cg p (prodL f (l.map g)) (x ^ l.length * prodL f l)
  | [], _ => Cg.of_eq (by show (1 : Int) = x ^ 0 * 1; rw [Int.pow_zero]; rfl)
  | a :: l, h => by
    have ih := prodL_map l fun b hb => h b (List.mem_cons_of_mem _ hb)
    have h0 := h a List.mem_cons_self
    have := h0.mul ih
    refine this.trans (Cg.of_eq ?_)
    show x * f a * (x ^ l.length * prodL f l) = x ^ (l.length + 1) * (f a * prodL f l)
    rw [Int.pow_succ]
    grind
theorem prodL_unit {p : Int} (P : Prm p) {f : Nat → Int} : ∀ l : List Nat, (∀ a ∈ l, ¬ Cg p (f a) 0) → ¬ Cg p (prodL f l) 0
  | [], _, z => by
    have := cg_zero.mp z
    rw [show prodL f [] = 1 from rfl, one_mod P] at this
    omega
  | a :: l, h, z => prodL_unit P l (fun b hb => h b (List.mem_cons_of_mem _ hb)) (prm_mul P z (h a List.mem_cons_self))
theorem fermat {p x : Int} (P : Prm p) (hx : x % p ≠ 0) : Cg p (x ^ (p.toNat - 1)) 1 := by
  have p1 := P.1
  let f : Nat → Int := fun k => (k : Int) + 1
  let g : Nat → Nat := fun k => ((x * f k) % p - 1).toNat
  have fu : ∀ a ∈ List.range (p.toNat - 1), ¬ Cg p (f a) 0 := fun a ha z => by
    have := List.mem_range.mp ha
    have := cg_zero.mp z
    rw [Int.emod_eq_of_lt (by show (0 : Int) ≤ (a : Int) + 1; omega) (by show (a : Int) + 1 < p; omega)] at this
    have : (a : Int) + 1 = 0 := this
    omega
  have hg : ∀ a ∈ List.range (p.toNat - 1), Cg p (f (g a)) (x * f a) := fun a ha => by
    have n0 : (x * f a) % p ≠ 0 := fun z => fu a ha (prm_mul P (cg_zero.mpr z) (fun y => hx (cg_zero.mp y)))
    have h0 := Int.emod_nonneg (x * f a) (show p ≠ 0 by omega)
    have e : f (g a) = (x * f a) % p := by
      show (((x * f a) % p - 1).toNat : Int) + 1 = _
      omega
    rw [e]
    exact Cg.mod _ _
  have onto : ∀ k, k < p.toNat - 1 → k ∈ (List.range (p.toNat - 1)).map g := fun k hk => by
    obtain ⟨r, _, _, hr⟩ := inv_ex P hx
    have ku : ¬ Cg p (f k) 0 := fu k (List.mem_range.mpr hk)
    have ru : ¬ Cg p r 0 := fun z => by
      have := z.mul (Cg.refl p x)
      have := cg_zero.mp (this.trans (Cg.of_eq (Int.zero_mul x)))
      omega
    have n0 : (r * f k) % p ≠ 0 := fun z => ku (prm_mul P (cg_zero.mpr z) ru)
    have h0 := Int.emod_nonneg (r * f k) (show p ≠ 0 by omega)
    have h1 := Int.emod_lt_of_pos (r * f k) (show 0 < p by omega)
    refine List.mem_map.mpr ⟨((r * f k) % p - 1).toNat, List.mem_range.mpr (by omega), ?_⟩
    have e : f ((r * f k) % p - 1).toNat = (r * f k) % p := by
      show (((r * f k) % p - 1).toNat : Int) + 1 = _
      omega
    have c : Cg p (x * f ((r * f k) % p - 1).toNat) (f k) := by
      rw [e]
      refine ((Cg.refl p x).mul (Cg.mod p (r * f k))).trans ?_
      have := (cg_one P hr).mul (Cg.refl p (f k))
      rw [Int.one_mul] at this
      exact (Cg.of_eq (by grind)).trans this
    have := Cg.iff.mp c
    rw [Int.emod_eq_of_lt (show 0 ≤ f k by show (0 : Int) ≤ (k : Int) + 1; omega) (by show (k : Int) + 1 < p; omega)] at this
    show ((x * f _) % p - 1).toNat = k
    rw [this]
    show ((k : Int) + 1 - 1).toNat = k
    omega
  have pm := perm_onto (p.toNat - 1) ((List.range (p.toNat - 1)).map g) (by simp) onto
  have e1 := prodL_map (p := p) (x := x) (f := f) (g := g) _ hg
  rw [prodL_perm pm, List.length_range] at e1
  have u := prodL_unit P _ fu
  have z : Cg p (prodL f (List.range (p.toNat - 1)) * (x ^ (p.toNat - 1) - 1)) 0 := by
    have := e1.symm.sub (Cg.refl p (prodL f (List.range (p.toNat - 1))))
    refine (Cg.of_eq (by grind)).trans (this.trans (Cg.of_eq (by omega)))
  have := (prm_mul P z u).add (Cg.refl p 1)
  refine (Cg.of_eq (by omega)).trans (this.trans (Cg.of_eq (by omega)))
theorem fermat_inv {p x : Int} (P : Prm p) (hx : x % p ≠ 0) : (x ^ (p - 2).toNat % p * x) % p = 1 := by
  have p1 := P.1
  have e : (p - 2).toNat + 1 = p.toNat - 1 := by omega
  have c : Cg p (x ^ (p - 2).toNat % p * x) 1 := by
    refine ((Cg.mod p _).mul (Cg.refl p x)).trans ?_
    have e2 : x ^ (p - 2).toNat * x = x ^ (p.toNat - 1) := by rw [← e, Int.pow_succ]
    rw [e2]
    exact fermat P hx
  rw [Cg.iff.mp c, one_mod P]
end K1

set_option maxRecDepth 100000
/-! bags of lists of ints, in Lean alone -/
namespace BM
open TS
abbrev B10 : Int := 10000000000
/-- d ints, each a worth -/
def Ok (d : Nat) (n : List Int) : Prop := n.length = d ∧ Bd B10 n
def le (a b : List Int) : Bool := decide (code B10 a ≤ code B10 b)
def srt (l : List (List Int)) : List (List Int) := l.mergeSort le
theorem srt_perm (l : List (List Int)) : (srt l).Perm l := List.mergeSort_perm l le
abbrev Asc (l : List (List Int)) : Prop := l.Pairwise fun a b => code B10 a ≤ code B10 b
theorem srt_asc (l : List (List Int)) : Asc (srt l) := by
  have h := List.pairwise_mergeSort (le := le) (fun a b c h1 h2 => by
    have h1 := of_decide_eq_true h1
    have h2 := of_decide_eq_true h2
    exact decide_eq_true (Int.le_trans h1 h2)) (fun a b => by
    unfold le
    rcases Int.le_total (code B10 a) (code B10 b) with h | h
    · rw [decide_eq_true h]; rfl
    · rw [decide_eq_true h, Bool.or_true]) l
  exact h.imp fun h => of_decide_eq_true h
theorem code_inj {B : Int} : ∀ {a b : List Int}, a.length = b.length → Bd B a → Bd B b → code B a = code B b → a = b
  | [], [], _, _, _, _ => rfl
  | x :: a, y :: b, hl, ha, hb, h => by
    have hl' : a.length = b.length := by simpa using hl
    rcases Int.lt_trichotomy x y with c | c | c
    · have := code_lt hl' ha.tail hb.tail c
      omega
    · subst c
      have h' : x * B ^ a.length + code B a = x * B ^ b.length + code B b := h
      rw [hl'] at h'
      rw [code_inj hl' ha.tail hb.tail (by omega)]
    · have := code_lt hl'.symm hb.tail ha.tail c
      omega
theorem asc_uniq {d : Nat} : ∀ {l m : List (List Int)}, (∀ a ∈ l, Ok d a) → l.Perm m → Asc l → Asc m → l = m
  | [], m, _, p, _, _ => (List.nil_perm.mp p).symm
  | a :: l, [], _, p, _, _ => by have := p.length_eq; simp at this
  | a :: l, b :: m, ho, p, h1, h2 => by
    have q1 := List.pairwise_cons.mp h1
    have q2 := List.pairwise_cons.mp h2
    have oa := ho a List.mem_cons_self
    have ob := ho b (p.mem_iff.mpr List.mem_cons_self)
    have e : a = b := by
      refine code_inj (by rw [oa.1, ob.1]) oa.2 ob.2 (Int.le_antisymm ?_ ?_)
      · rcases List.mem_cons.mp (p.mem_iff.mpr List.mem_cons_self : b ∈ a :: l) with z | z
        · rw [z]
          exact Int.le_refl _
        · exact q1.1 b z
      · rcases List.mem_cons.mp (p.mem_iff.mp List.mem_cons_self : a ∈ b :: m) with z | z
        · rw [z]
          exact Int.le_refl _
        · exact q2.1 a z
    subst e
    rw [asc_uniq (fun x hx => ho x (List.mem_cons_of_mem _ hx)) p.cons_inv q1.2 q2.2]
theorem srt_of {d : Nat} {l ys : List (List Int)} (ho : ∀ a ∈ l, Ok d a) (p : ys.Perm l) (s : Asc ys) : ys = srt l :=
  asc_uniq (fun a ha => ho a (p.mem_iff.mp ha)) (p.trans (srt_perm l).symm) s (srt_asc l)
theorem srt_eq {d : Nat} {l m : List (List Int)} (ho : ∀ a ∈ l, Ok d a) (p : l.Perm m) : srt l = srt m :=
  srt_of (fun a ha => ho a (p.mem_iff.mpr ha)) ((srt_perm l).trans p) (srt_asc l)
theorem srt_ok {d : Nat} {l : List (List Int)} (ho : ∀ a ∈ l, Ok d a) : ∀ a ∈ srt l, Ok d a := fun a ha => ho a ((srt_perm l).mem_iff.mp ha)
theorem srt_len (l : List (List Int)) : (srt l).length = l.length := (srt_perm l).length_eq
theorem srt_iff {d : Nat} {l m : List (List Int)} (ho : ∀ a ∈ l, Ok d a) : srt l = srt m ↔ l.Perm m :=
  ⟨fun e => (srt_perm l).symm.trans (e ▸ srt_perm m), srt_eq ho⟩
/-! ### merging -/
def mrg (g p : Int) (n : List Int) : List Int := (n.getD 0 0 + g * n.getD 1 0) % p :: n.drop 2
theorem mrg_ok {d : Nat} {g p : Int} {n : List Int} (p0 : 0 < p) (p1 : p ≤ B10) (h : Ok (d + 2) n) : Ok (d + 1) (mrg g p n) := by
  refine ⟨?_, fun m hm => ?_⟩
  · show (n.drop 2).length + 1 = d + 1
    rw [List.length_drop, h.1]
    omega
  · rcases List.mem_cons.mp hm with rfl | hm
    · have := Int.emod_nonneg (n.getD 0 0 + g * n.getD 1 0) (show p ≠ 0 by omega)
      have := Int.emod_lt_of_pos (n.getD 0 0 + g * n.getD 1 0) p0
      exact ⟨by omega, by omega⟩
    · exact h.2 m (List.mem_of_mem_drop hm)
/-! ### products -/
def stepP (p z t : Int) (n : List Int) : Int := t * (z - n.getD 0 0) % p
def prd (p z : Int) (l : List (List Int)) : Int := l.foldl (stepP p z) 1
theorem stepP_comm (p z t : Int) (a b : List Int) : stepP p z (stepP p z t a) b = stepP p z (stepP p z t b) a := by
  unfold stepP
  rw [Int.mul_emod, Int.emod_emod_of_dvd _ (Int.dvd_refl p), ← Int.mul_emod, Int.mul_emod (t * (z - b.getD 0 0) % p), Int.emod_emod_of_dvd _ (Int.dvd_refl p), ← Int.mul_emod]
  congr 1
  rw [Int.mul_assoc, Int.mul_assoc, Int.mul_comm (z - a.getD 0 0)]
theorem prd_perm {p z : Int} {l m : List (List Int)} (h : l.Perm m) : prd p z l = prd p z m := by
  unfold prd
  have key : ∀ t, l.foldl (stepP p z) t = m.foldl (stepP p z) t := by
    induction h with
    | nil => intro t; rfl
    | cons x _ ih => intro t; exact ih _
    | swap x y l =>
      intro t
      show l.foldl (stepP p z) (stepP p z (stepP p z t y) x) = l.foldl (stepP p z) (stepP p z (stepP p z t x) y)
      rw [stepP_comm]
    | trans _ _ h1 h2 => intro t; rw [h1, h2]
  exact key 1
end BM

set_option maxRecDepth 100000
namespace BM
open K0 K1
theorem pigeon {α β : Type} [DecidableEq α] {R : α → β → Prop} : ∀ (Y : List β) (l : List α), l.Nodup → (∀ m ∈ l, ∃ b ∈ Y, R m b) → (∀ m m' b, m ∈ l → m' ∈ l → b ∈ Y → R m b → R m' b → m = m') → l.length ≤ Y.length
  | [], l, _, h, _ => by
    cases l with
    | nil => exact Nat.le_refl _
    | cons m l =>
      obtain ⟨b, hb, _⟩ := h m List.mem_cons_self
      cases hb
  | b :: Y, l, nd, h, inj => by
    rcases Classical.em (∃ m0 ∈ l, R m0 b) with ⟨m0, h0, r0⟩ | c
    · have ih := pigeon Y (l.erase m0) (nd.erase m0) (fun m hm => by
        have hm2 := List.mem_of_mem_erase hm
        obtain ⟨b', hb', r⟩ := h m hm2
        rcases List.mem_cons.mp hb' with rfl | hb'
        · have e := inj m m0 _ hm2 h0 List.mem_cons_self r r0
          rw [e] at hm
          exact absurd hm (nd.not_mem_erase)
        · exact ⟨b', hb', r⟩) (fun m m' b' hm hm' hb' r r' => inj m m' b' (List.mem_of_mem_erase hm) (List.mem_of_mem_erase hm') (List.mem_cons_of_mem _ hb') r r')
      rw [List.length_erase_of_mem h0] at ih
      have := List.length_pos_of_mem h0
      rw [List.length_cons]
      omega
    · have ih := pigeon Y l nd (fun m hm => by
        obtain ⟨b', hb', r⟩ := h m hm
        rcases List.mem_cons.mp hb' with rfl | hb'
        · exact absurd ⟨m, hm, r⟩ c
        · exact ⟨b', hb', r⟩) (fun m m' b' hm hm' hb' r r' => inj m m' b' hm hm' (List.mem_cons_of_mem _ hb') r r')
      rw [List.length_cons]
      omega
/-- unlike lists of one length: one has an item oftener -/
theorem perm_of_count {α : Type} [BEq α] [LawfulBEq α] : ∀ (l m : List α), (∀ a, l.count a ≤ m.count a) → m.length ≤ l.length → l.Perm m
  | [], m, _, hl => by
    have e : m = [] := List.eq_nil_of_length_eq_zero (by simpa using hl)
    rw [e]
  | a :: l, m, h, hl => by
    have ha : a ∈ m := by
      have := h a
      rw [List.count_cons_self] at this
      exact List.count_pos_iff.mp (by omega)
    refine (List.Perm.cons a (perm_of_count l (m.erase a) (fun b => ?_) ?_)).trans (List.perm_cons_erase ha).symm
    · have := h b
      by_cases e : a = b
      · subst e
        rw [List.count_cons_self] at this
        rw [List.count_erase_self]
        omega
      · rw [List.count_cons_of_ne e] at this
        rw [List.count_erase_of_ne (fun z => e z.symm)]
        exact this
    · rw [List.length_erase_of_mem ha]
      have := List.length_pos_of_mem ha
      rw [List.length_cons] at hl
      omega
theorem more_of {α : Type} [BEq α] [LawfulBEq α] {l m : List α} (hl : l.length = m.length) (h : ¬ l.Perm m) : ∃ a, m.count a < l.count a := by
  rcases Classical.em (∃ a, m.count a < l.count a) with c | c
  · exact c
  · exfalso
    have le : ∀ a, l.count a ≤ m.count a := fun a => Nat.le_of_not_lt fun z => c ⟨a, z⟩
    exact h (perm_of_count l m le (by omega))
/-- the items that the merge of a stands for -/
theorem count_map_gt {α β : Type} [BEq α] [LawfulBEq α] [BEq β] [LawfulBEq β] {f : α → β} {Y : List α} {a : α} (h : Y.count a < (Y.map f).count (f a)) : ∃ b ∈ Y, b ≠ a ∧ f b = f a := by
  induction Y with
  | nil => simp at h
  | cons y Y ih =>
    by_cases e : y = a
    · subst e
      rw [List.map_cons, List.count_cons_self, List.count_cons_self] at h
      obtain ⟨b, hb, r⟩ := ih (by omega)
      exact ⟨b, List.mem_cons_of_mem _ hb, r⟩
    · by_cases e2 : f y = f a
      · exact ⟨y, List.mem_cons_self, e, e2⟩
      · rw [List.map_cons, List.count_cons_of_ne e, List.count_cons_of_ne e2] at h
        obtain ⟨b, hb, r⟩ := ih h
        exact ⟨b, List.mem_cons_of_mem _ hb, r⟩
theorem count_le_map {α β : Type} [BEq α] [LawfulBEq α] [BEq β] [LawfulBEq β] {f : α → β} {X : List α} {a : α} : X.count a ≤ (X.map f).count (f a) := by
  induction X with
  | nil => simp
  | cons y X ih =>
    rw [List.map_cons]
    by_cases e : y = a
    · subst e
      rw [List.count_cons_self, List.count_cons_self]
      omega
    · rw [List.count_cons_of_ne e]
      exact Nat.le_trans ih (List.count_le_count_cons)
/-- an item of worths below p -/
def Wo (d : Nat) (p : Int) (n : List Int) : Prop := n.length = d ∧ ∀ z ∈ n, 0 ≤ z ∧ z < p
theorem two_eq {d : Nat} {p : Int} {a b : List Int} (P : Prm p) (ha : Wo (d + 2) p a) (hb : Wo (d + 2) p b) (ne : b ≠ a) {m m' : Nat} (hm : (m : Int) < p) (hm' : (m' : Int) < p) (r : mrg m p b = mrg m p a) (r' : mrg m' p b = mrg m' p a) : m = m' := by
  obtain ⟨la, wa⟩ := ha
  obtain ⟨lb, wb⟩ := hb
  match a, la, wa with
  | a0 :: a1 :: ar, la, wa =>
    match b, lb, wb with
    | b0 :: b1 :: br, lb, wb =>
      have e1 : (b0 + (m : Int) * b1) % p = (a0 + (m : Int) * a1) % p := (List.cons.inj r).1
      have e2 : (b0 + (m' : Int) * b1) % p = (a0 + (m' : Int) * a1) % p := (List.cons.inj r').1
      have er : br = ar := (List.cons.inj r).2
      have a0b := wa a0 List.mem_cons_self
      have b0b := wb b0 List.mem_cons_self
      have a1b := wa a1 (List.mem_cons_of_mem _ List.mem_cons_self)
      have b1b := wb b1 (List.mem_cons_of_mem _ List.mem_cons_self)
      have c1 := Cg.iff.mpr e1
      have c2 := Cg.iff.mpr e2
      by_cases h : b1 = a1
      · subst h
        exfalso
        have c3 : Cg p b0 a0 := by
          have := c1.sub (Cg.refl p ((m : Int) * b1))
          refine (Cg.of_eq (by omega)).trans (this.trans (Cg.of_eq (by omega)))
        have := Cg.eq_of c3 b0b.1 b0b.2 a0b.1 a0b.2
        exact ne (by rw [this, er])
      · have c3 := c1.sub c2
        have c4 : Cg p ((b1 - a1) * ((m : Int) - m')) 0 := by
          have := c3.sub (Cg.refl p (a0 + (m : Int) * a1 - (a0 + (m' : Int) * a1)))
          refine (Cg.of_eq (by grind)).trans (this.trans (Cg.of_eq (by omega)))
        have nz : ¬ Cg p (b1 - a1) 0 := fun z => by
          have : Cg p b1 a1 := by
            have := z.add (Cg.refl p a1)
            refine (Cg.of_eq (by omega)).trans (this.trans (Cg.of_eq (by omega)))
          exact h (Cg.eq_of this b1b.1 b1b.2 a1b.1 a1b.2)
        have c5 := prm_mul P c4 nz
        have c6 : Cg p (m : Int) (m' : Int) := by
          have := c5.add (Cg.refl p (m' : Int))
          refine (Cg.of_eq (by omega)).trans (this.trans (Cg.of_eq (by omega)))
        have := Cg.eq_of c6 (by omega) hm (by omega) hm'
        omega
theorem merge_bound1 {d : Nat} {p : Int} {X Y : List (List Int)} (P : Prm p) (hX : ∀ n ∈ X, Wo (d + 2) p n) (hY : ∀ n ∈ Y, Wo (d + 2) p n) {a : List Int} (h : Y.count a < X.count a) (l : List Nat) (nd : l.Nodup) (hl : ∀ m ∈ l, (m : Int) < p ∧ (X.map (mrg m p)).Perm (Y.map (mrg m p))) : l.length ≤ Y.length := by
  have ha : a ∈ X := List.count_pos_iff.mp (by omega)
  refine pigeon (R := fun m b => b ≠ a ∧ mrg (m : Nat) p b = mrg (m : Nat) p a) Y l nd (fun m hm => ?_) (fun m m' b hm hm' hb r r' => ?_)
  · have p1 := (hl m hm).2
    have c1 : X.count a ≤ (X.map (mrg m p)).count (mrg m p a) := count_le_map
    rw [p1.count_eq] at c1
    obtain ⟨b, hb, r⟩ := count_map_gt (f := mrg m p) (Y := Y) (a := a) (by omega)
    exact ⟨b, hb, r⟩
  · exact two_eq P (hX a ha) (hY b hb) r.1 (hl m hm).1 (hl m' hm').1 r.2 r'.2
theorem merge_bound {d : Nat} {p : Int} {X Y : List (List Int)} (P : Prm p) (hX : ∀ n ∈ X, Wo (d + 2) p n) (hY : ∀ n ∈ Y, Wo (d + 2) p n) (hn : X.length = Y.length) (h : ¬ X.Perm Y) (l : List Nat) (nd : l.Nodup) (hl : ∀ m ∈ l, (m : Int) < p ∧ (X.map (mrg m p)).Perm (Y.map (mrg m p))) : l.length ≤ X.length := by
  obtain ⟨a, ha⟩ := more_of hn h
  rw [hn]
  exact merge_bound1 P hX hY ha l nd hl
theorem Wo.ok {d : Nat} {p : Int} {n : List Int} (p1 : p ≤ B10) (h : Wo d p n) : Ok d n := ⟨h.1, fun z hz => by
  have := h.2 z hz
  exact ⟨this.1, by omega⟩⟩
theorem mrg_mod {g h p : Int} (e : g % p = h % p) (n : List Int) : mrg g p n = mrg h p n := by
  unfold mrg
  have c : Cg p (n.getD 0 0 + g * n.getD 1 0) (n.getD 0 0 + h * n.getD 1 0) := (Cg.refl p _).add ((Cg.iff.mpr e).mul (Cg.refl p _))
  rw [Cg.iff.mp c]
theorem prd_mod {g h p : Int} (e : g % p = h % p) (l : List (List Int)) : prd p g l = prd p h l := by
  unfold prd
  have : stepP p g = stepP p h := by
    funext t n
    unfold stepP
    exact Cg.iff.mp ((Cg.refl p t).mul ((Cg.iff.mpr e).sub (Cg.refl p _)))
  rw [this]
end BM

set_option maxRecDepth 100000
namespace BM
open K0 K1
/-- the function is a polynomial of degree below n -/
def Dg : Nat → (Int → Int) → Prop
  | 0, f => ∀ x, f x = 0
  | n + 1, f => ∀ a, ∃ q, Dg n q ∧ ∀ x, f x = f a + (x - a) * q x
theorem Dg.zero : ∀ n, Dg n (fun _ => 0)
  | 0 => fun _ => rfl
  | n + 1 => fun a => ⟨fun _ => 0, Dg.zero n, fun x => by simp⟩
theorem Dg.ext {f g : Int → Int} (e : ∀ x, f x = g x) (n : Nat) (h : Dg n f) : Dg n g := by
  have : f = g := funext e
  exact this ▸ h
theorem Dg.add : ∀ {n : Nat} {f g : Int → Int}, Dg n f → Dg n g → Dg n (fun x => f x + g x)
  | 0, f, g, hf, hg => fun x => by
    show f x + g x = 0
    rw [hf x, hg x]
    rfl
  | n + 1, f, g, hf, hg => fun a => by
    obtain ⟨q, hq, e⟩ := hf a
    obtain ⟨r, hr, e2⟩ := hg a
    refine ⟨fun x => q x + r x, hq.add hr, fun x => ?_⟩
    show f x + g x = f a + g a + (x - a) * (q x + r x)
    rw [e x, e2 x]
    grind
theorem Dg.smul (c : Int) : ∀ {n : Nat} {f : Int → Int}, Dg n f → Dg n (fun x => c * f x)
  | 0, f, hf => fun x => by
    show c * f x = 0
    rw [hf x, Int.mul_zero]
  | n + 1, f, hf => fun a => by
    obtain ⟨q, hq, e⟩ := hf a
    refine ⟨fun x => c * q x, hq.smul c, fun x => ?_⟩
    show c * f x = c * f a + (x - a) * (c * q x)
    rw [e x]
    grind
theorem Dg.up : ∀ {n : Nat} {f : Int → Int}, Dg n f → Dg (n + 1) f
  | 0, f, hf => fun a => ⟨fun _ => 0, fun _ => rfl, fun x => by rw [hf x, hf a]; simp⟩
  | n + 1, f, hf => fun a => by
    obtain ⟨q, hq, e⟩ := hf a
    exact ⟨q, hq.up, e⟩
theorem Dg.lin (c : Int) : ∀ {n : Nat} {f : Int → Int}, Dg n f → Dg (n + 1) (fun x => (x - c) * f x)
  | 0, f, hf => fun a => ⟨fun _ => 0, fun _ => rfl, fun x => by
    show (x - c) * f x = (a - c) * f a + (x - a) * 0
    rw [hf x, hf a]
    simp⟩
  | n + 1, f, hf => fun a => by
    obtain ⟨q, hq, e⟩ := hf a
    refine ⟨fun x => f x + (a - c) * q x, Dg.add hf (hq.smul (a - c)).up, fun x => ?_⟩
    show (x - c) * f x = (a - c) * f a + (x - a) * (f x + (a - c) * q x)
    have := e x
    generalize f x = u at this ⊢
    generalize f a = v at this ⊢
    generalize q x = w at this ⊢
    subst this
    grind
/-- the product of x - a -/
def lin : List Int → Int → Int
  | [], _ => 1
  | a :: r, x => (x - a) * lin r x
theorem dg_lin : ∀ l : List Int, Dg (l.length + 1) (lin l)
  | [] => fun a => ⟨fun _ => 0, fun _ => rfl, fun x => by show (1 : Int) = 1 + (x - a) * 0; simp⟩
  | a :: r => (dg_lin r).lin a
theorem dg_sub : ∀ l m : List Int, l.length = m.length → Dg l.length (fun x => lin l x - lin m x)
  | [], [], _ => fun x => by show (1 : Int) - 1 = 0; rfl
  | a :: l, b :: m, h => by
    have h' : l.length = m.length := by simpa using h
    have d1 := (dg_sub l m h').lin a
    have d2 := (dg_lin m).smul (b - a)
    rw [← h'] at d2
    refine Dg.ext (fun x => ?_) (l.length + 1) (d1.add d2)
    show (x - a) * (lin l x - lin m x) + (b - a) * lin m x = (x - a) * lin l x - (x - b) * lin m x
    grind
theorem dg_roots {p : Int} (P : Prm p) : ∀ (n : Nat) (f : Int → Int) (l : List Nat), Dg n f → l.Nodup → n ≤ l.length → (∀ m ∈ l, (m : Int) < p ∧ Cg p (f m) 0) → ∀ x, Cg p (f x) 0
  | 0, f, l, hf, _, _, _, x => Cg.of_eq (hf x)
  | n + 1, f, [], _, _, hn, _, _ => absurd hn (by simp)
  | n + 1, f, a :: l, hf, nd, hn, hl, x => by
    obtain ⟨q, hq, e⟩ := hf (a : Nat)
    obtain ⟨na, nd'⟩ := List.nodup_cons.mp nd
    have ha := hl a List.mem_cons_self
    have hq0 := dg_roots P n q l hq nd' (by simpa using hn) (fun m hm => by
      have hm2 := hl m (List.mem_cons_of_mem _ hm)
      refine ⟨hm2.1, prm_mul P (a := (m : Int) - a) ?_ fun z => ?_⟩
      · have e1 : ((m : Int) - a) * q m = f m - f a := by
          rw [e m]
          omega
        rw [e1]
        have := hm2.2.sub ha.2
        rwa [Int.sub_zero] at this
      · have z2 : Cg p (m : Int) (a : Int) := by
          obtain ⟨k, hk⟩ := z
          exact ⟨k, by omega⟩
        have := Cg.eq_of z2 (by omega) hm2.1 (by omega) ha.1
        have : m = a := by omega
        exact na (this ▸ hm)) x
    rw [e x]
    have := ha.2.add ((Cg.refl p (x - (a : Nat))).mul hq0)
    rwa [Int.mul_zero, Int.add_zero] at this
theorem lin_perm {l m : List Int} (h : l.Perm m) (x : Int) : lin l x = lin m x := by
  induction h with
  | nil => rfl
  | cons a _ ih => show (x - a) * _ = (x - a) * _; rw [ih]
  | swap a b l => show (x - b) * ((x - a) * lin l x) = (x - a) * ((x - b) * lin l x); grind
  | trans _ _ h1 h2 => rw [h1, h2]
theorem lin_root {p : Int} (P : Prm p) {a : Int} : ∀ {l : List Int}, Cg p (lin l a) 0 → ∃ b ∈ l, Cg p a b
  | [], h => by
    have := cg_zero.mp h
    have e : (1 : Int) % p = 0 := this
    rw [one_mod P] at e
    cases e
  | b :: l, h => by
    by_cases c : Cg p (a - b) 0
    · obtain ⟨k, hk⟩ := c
      exact ⟨b, List.mem_cons_self, k, by omega⟩
    · obtain ⟨d, hd, h2⟩ := lin_root P (prm_mul P h c)
      exact ⟨d, List.mem_cons_of_mem _ hd, h2⟩
theorem lin_same {p : Int} (P : Prm p) : ∀ (n : Nat) (X Y : List Int) (l : List Nat), X.length = n → Y.length = n → (∀ a ∈ X, 0 ≤ a ∧ a < p) → (∀ a ∈ Y, 0 ≤ a ∧ a < p) → l.Nodup → n + 1 ≤ l.length → (∀ m ∈ l, (m : Int) < p ∧ Cg p (lin X m) (lin Y m)) → X.Perm Y
  | 0, X, Y, l, hX, hY, _, _, _, _, _ => by
    rw [List.length_eq_zero_iff.mp hX, List.length_eq_zero_iff.mp hY]
  | n + 1, [], Y, l, hX, _, _, _, _, _, _ => by simp at hX
  | n + 1, a :: X, Y, l, hX, hY, bX, bY, nd, hn, hl => by
    have ba := bX a List.mem_cons_self
    have all := dg_roots P _ _ l (dg_sub (a :: X) Y (by rw [hX, hY])) nd (by rw [hX]; omega) fun m hm => ⟨(hl m hm).1, by
      have := (hl m hm).2.sub (Cg.refl p (lin Y m))
      rwa [Int.sub_self] at this⟩
    have h0 : Cg p (lin Y a) 0 := by
      have := all a
      have e : lin (a :: X) a - lin Y a = - lin Y a := by
        show (a - a) * lin X a - lin Y a = _
        rw [Int.sub_self, Int.zero_mul]
        omega
      simp only [e] at this
      obtain ⟨k, hk⟩ := this
      exact ⟨-k, by rw [Int.mul_neg]; omega⟩
    obtain ⟨b, hb, eb⟩ := lin_root P h0
    have bb := bY b hb
    have e := Cg.eq_of eb ba.1 ba.2 bb.1 bb.2
    subst e
    have pY : Y.Perm (a :: Y.erase a) := List.perm_cons_erase hb
    refine (List.Perm.cons a ?_).trans pY.symm
    refine lin_same P n X (Y.erase a) (l.erase a.toNat) (by simpa using hX) ?_ (fun z hz => bX z (List.mem_cons_of_mem _ hz)) (fun z hz => bY z (List.mem_of_mem_erase hz)) (nd.erase _) ?_ fun m hm => ?_
    · rw [List.length_erase_of_mem hb]
      omega
    · have := List.length_erase (a := a.toNat) (l := l)
      split at this <;> omega
    · have hm2 := (nd.mem_erase_iff).mp hm
      have h := hl m hm2.2
      refine ⟨h.1, ?_⟩
      have h3 := h.2
      rw [lin_perm pY] at h3
      have h4 : Cg p (((m : Int) - a) * (lin X m - lin (Y.erase a) m)) 0 := by
        obtain ⟨k, hk⟩ := h3
        refine ⟨k, ?_⟩
        have hk2 : ((m : Int) - a) * lin X m - ((m : Int) - a) * lin (Y.erase a) m = p * k := hk
        rw [Int.mul_sub]
        omega
      have h5 := prm_mul P h4 fun z => by
        have z2 : Cg p (m : Int) a := by
          obtain ⟨k, hk⟩ := z
          exact ⟨k, by omega⟩
        have := Cg.eq_of z2 (by omega) h.1 ba.1 ba.2
        exact hm2.1 (by omega)
      obtain ⟨k, hk⟩ := h5
      exact ⟨k, by omega⟩
theorem prd_lin' (p z : Int) : ∀ (l : List (List Int)) (t : Int), Cg p (l.foldl (stepP p z) t) (t * lin (l.map fun n => n.getD 0 0) z)
  | [], t => Cg.of_eq (by show t = t * 1; omega)
  | n :: l, t => by
    refine (prd_lin' p z l (stepP p z t n)).trans ?_
    have h := (Cg.mod p (t * (z - n.getD 0 0))).mul (Cg.refl p (lin (l.map fun n => n.getD 0 0) z))
    refine h.trans (Cg.of_eq ?_)
    show t * (z - n.getD 0 0) * lin _ z = t * ((z - n.getD 0 0) * lin _ z)
    rw [Int.mul_assoc]
theorem prd_lin (p z : Int) (l : List (List Int)) : Cg p (prd p z l) (lin (l.map fun n => n.getD 0 0) z) := by
  have := prd_lin' p z l 1
  rwa [Int.one_mul] at this
theorem wo_one {p : Int} {X : List (List Int)} (h : ∀ n ∈ X, Wo 1 p n) : X = (X.map fun n => n.getD 0 0).map fun z => [z] := by
  rw [List.map_map]
  conv => lhs; rw [← List.map_id X]
  refine List.map_congr_left fun n hn => ?_
  obtain ⟨h1, _⟩ := h n hn
  match n, h1 with
  | [z], _ => rfl
theorem wo_at {p : Int} {X : List (List Int)} (h : ∀ n ∈ X, Wo 1 p n) : ∀ a ∈ X.map (fun n => n.getD 0 0), 0 ≤ a ∧ a < p := fun a ha => by
  obtain ⟨n, hn, rfl⟩ := List.mem_map.mp ha
  obtain ⟨h1, h2⟩ := h n hn
  match n, h1, h2 with
  | [z], _, h2 => exact h2 z List.mem_cons_self
theorem prod_bound {p : Int} {X Y : List (List Int)} (P : Prm p) (hX : ∀ n ∈ X, Wo 1 p n) (hY : ∀ n ∈ Y, Wo 1 p n) (hn : X.length = Y.length) (h : ¬ X.Perm Y) (l : List Nat) (nd : l.Nodup) (hl : ∀ m ∈ l, (m : Int) < p ∧ prd p m X = prd p m Y) : l.length ≤ X.length := by
  refine Nat.le_of_not_lt fun c => h ?_
  have := lin_same P X.length (X.map fun n => n.getD 0 0) (Y.map fun n => n.getD 0 0) l (by simp) (by simp [hn]) (wo_at hX) (wo_at hY) nd c fun m hm => ⟨(hl m hm).1, by
    have e := (hl m hm).2
    refine (prd_lin p m X).symm.trans ?_
    rw [e]
    exact prd_lin p m Y⟩
  rw [wo_one hX, wo_one hY]
  exact this.map _
end BM

set_option maxRecDepth 100000
set_option maxHeartbeats 4000000
/-! operators, ==, !=, repr of instances whose class has a def for them -/
namespace OV
open PySem PySem.Spec PyProof.Rows L2
section
variable {X : Cx} {CX : CXT} {C g : Addr} {n : Nat} {sp : Sp} {E : XK}
/-- x op y, both instances of C -/
def rBin (C : Addr) (sp : Sp) (E : XK) : R2 := fun x y H Q => ∃ (a b dx dy : Addr) (fs gs : List (Str × V)), x = .ref a ∧ y = .ref b ∧ H a = some (.ins C dx fs) ∧ H b = some (.ins C dy gs) ∧ sp [x, y] H Q E
theorem op_bin {op : Operator} (hc : PySem.W.selfFirst X.K C = true) (hs : PySem.W.findIn X.K (.ref C) (PySem.dunder op.info.2) = some (some (.ref g))) (hf : PySem.W.isFn X.K (.ref g) = true) (F : FnR X.prog X.w X.K X.mg X.base CX n g sp)
    (hr : Room n X.A) (hx : Passes CX X E) : OpR X (binaryOp op) (rBin C sp E) := by
  intro pins s σ H x y v u Q I rx ry h
  obtain ⟨a, b, dx, dy, fs, gs, rfl, rfl, ha, hb, q⟩ := h
  cases (show v = Value.ref a from rx)
  cases (show u = Value.ref b from ry)
  obtain ⟨ox, od, J, _⟩ := StX.insC_at I (.inr ⟨dx, fs, ha⟩)
  obtain ⟨oy, oe, J', _⟩ := StX.insC_at I (.inr ⟨dy, gs, hb⟩)
  obtain ⟨m, hF⟩ := I.fr
  refine PySem.W.binop_K hF I.ok.mod.kin J J'.type hc hs hf ?_
  refine wpAny_mono (wpAny_call (run_fnR (us := [.ref a, .ref b]) (vs := [.ref a, .ref b]) F hr hx I (.cons rfl (.cons rfl .nil)) q)) (fun w s' z => ?_) fun _ _ x => x
  obtain ⟨z', H', I', rz, qz⟩ := z
  exact SlX.cmpback rz ⟨z', H', I', rz, qz⟩
/-- x == y, x an instance of C, y anything that is no instance of a class below -/
def rEqO (K : PySem.W.Frag) (C : Addr) (sp : Sp) (E : XK) : R2 := fun x y H Q => ∃ (a dx : Addr) (fs : List (Str × V)) (t : Value), x = .ref a ∧ H a = some (.ins C dx fs) ∧ TyX K H y t ∧ PySem.W.notFirst K C t = true ∧ sp [x, y] H Q E
theorem op_eqO {op : CmpOp} (hop : ∀ a b, compareOp op a b = richCompare op a b) (hs : PySem.W.findIn X.K (.ref C) (cmpInfo op).2.1 = some (some (.ref g))) (hf : PySem.W.isFn X.K (.ref g) = true) (F : FnR X.prog X.w X.K X.mg X.base CX n g sp)
    (hr : Room n X.A) (hx : Passes CX X E) : OpR X (compareOp op) (rEqO X.K C sp E) := by
  intro pins s σ H x y v u Q I rx ry h
  obtain ⟨a, dx, fs, t, rfl, ha, ty, hn, q⟩ := h
  cases (show v = Value.ref a from rx)
  obtain ⟨ox, od, J, _⟩ := StX.insC_at I (.inr ⟨dx, fs, ha⟩)
  obtain ⟨PH, kx, ph, _⟩ := kit_of I ry ty
  obtain ⟨m, hF⟩ := I.fr
  rw [hop]
  refine PySem.W.cmp_K (op := op) (tb := t) hr.units0 hF I.ok.mod.kin J (kx.ty _ _ I.kIn ph) hn hs hf ?_
  refine wpAny_mono (wpAny_call (run_fnR (us := [.ref a, u]) (vs := [.ref a, y]) F hr hx I (.cons rfl (.cons ry .nil)) q)) (fun w s' z => ?_) fun _ _ x => x
  obtain ⟨z', H', I', rz, qz⟩ := z
  exact SlX.cmpback rz ⟨z', H', I', rz, qz⟩
/-- repr(x) -/
def rRepr (C : Addr) (sp : Sp) (E : XK) : List V → Hp → VK → Prop := fun xs H Q => ∃ (a dx : Addr) (fs : List (Str × V)), xs = [.ref a] ∧ H a = some (.ins C dx fs) ∧ sp [.ref a] H (fun z H' => ∃ t, z = .str t ∧ Q z H') E
theorem call_repr (hs : PySem.W.findIn X.K (.ref C) "__repr__" = some (some (.ref g))) (hf : PySem.W.isFn X.K (.ref g) = true) (F : FnR X.prog X.w X.K X.mg X.base CX n g sp)
    (hr : Room (n + 1) X.A) (hx : Passes CX X E) : CallR X (.builtin "repr") (rRepr C sp E) := by
  intro pins s σ H xs us Q I r h
  obtain ⟨a, dx, fs, rfl, ha, q⟩ := h
  obtain ⟨u, rfl, ru⟩ := r.one
  cases (show u = Value.ref a from ru)
  obtain ⟨ox, od, J, _⟩ := StX.insC_at I (.inr ⟨dx, fs, ha⟩)
  obtain ⟨m, hF⟩ := I.fr
  have hr2 : Room n X.A.in1 := Room.in1 hr
  refine PySem.W.repr_K hr2.units0 hF I.ok.mod.kin J hs hf ?_
  refine wpAny_mono (wpAny_call (SlX.run_at (us := [.ref a]) (ws := [.ref a]) F hr2 I.env0.in1 hx I (.cons rfl .nil) q)) (fun w s' z => ?_) fun _ _ x => x
  obtain ⟨z', H', I', rz, t, ez, qz⟩ := z
  subst ez
  obtain ⟨tk, e⟩ := (show ∃ tk, w = Value.str t tk from rz)
  cases e
  exact ⟨.str t, H', I', ⟨tk, rfl⟩, qz⟩
end
end OV

set_option maxRecDepth 100000
set_option maxHeartbeats 4000000
/-! x != y where the class has its own == and no own != -/
namespace OV
open PySem PySem.Spec PyProof.Rows L2
section
variable {prog : Program} {w : World} {A : Around} {E : Value → Shared → Prop} {s : Shared} {K : PySem.W.Frag} {x C f L : Addr} {ox : Obj} {od : Option Obj} {h₀ : Heap} {m : Str → Option Value}
theorem bound_ne {M : Model} {args : List Value} {Q : Option Value → Shared → Prop} (X : K.In s.heap) (I : PySem.W.InstAt s.heap x ox C od) (hn : PySem.W.findIn K (.ref C) "__ne__" = some (some (.builtin "object.__ne__")))
    (h : wpAny M A (call (.builtin "object.__ne__") (.ref x :: args)) (fun v => Q (some v)) E s) : wpAny M A (callSpecialIfBound? (.ref x) "__ne__" args) Q E s := by
  have fin : wpAny M A (call (.builtin "object.__ne__") ([.ref x] ++ args) >>= fun v => pure (some v)) Q E s :=
    wpAny_bind (wpAny_mono h (fun v s' z => wpAny_pure z) fun _ _ z => z)
  simp only [callSpecialIfBound?, bindSpecialIfBound?]
  refine wpAny_holding (wpAny_bind (wpAny_bind (wpAny_bind (I.type.here
    ((PySem.W.looks_findIn X hn).here ?_)))))
  refine wpAny_bind (wpAny_askSetting
    (wpAny_ite ?_))
  split
  · exact wpAny_bind (wpAny_of_eq (F.cmp_object.ne.bind _)
      (wpAny_pure (by exact fin)))
  · exact wpAny_tryCatch (wpAny_bind (wpAny_of_eq (F.cmp_object.ne.bind _)
      (wpAny_pure (by exact fin))))
theorem entry_ne {b : Value} {Q : Fin → Shared → Prop} (hu : A.units < cLine) (X : K.In s.heap) (I : PySem.W.InstAt s.heap x ox C od) (hs : PySem.W.findIn K (.ref C) "__eq__" = some (some (.ref f))) (hf : PySem.W.isFn K (.ref f) = true)
    (h : wpAny (model prog w) A (call (.ref f) [.ref x, b]) (fun v s' => ∃ r, v = .bool r ∧ Q (.done (.ret (.bool (!r)))) s') E s) :
    wpAny (model prog w) A (Builtin.«object.__ne__» ⟨[.ref x, b], []⟩) Q E s := by
  have step : wpAny (model prog w) A (callSpecialIfBound? (.ref x) "__eq__" [b]) (fun o s' => ∃ r, o = some (.bool r) ∧ Q (.done (.ret (.bool (!r)))) s') E s :=
    PySem.W.ifBound_K X I hs hf (wpAny_mono h (fun v s' ⟨r, e, q⟩ => ⟨r, by rw [e], q⟩) fun _ _ z => z)
  unfold Builtin.«object.__ne__»
  repeat (first
    | with_reducible refine wpAny_cRoomFor hu ?_
    | (refine wpAny_bind (m := callSpecialIfBound? (.ref x) (Str.ofString "__eq__") [b]) (wpAny_mono step (fun o s' z => ?_) fun _ _ z => z); obtain ⟨r, rfl, q⟩ := z)
    | exact wpAny_bind (wpAny_truthy_bool (wpAny_pure q))
    | exact wpAny_pure q
    | wp_step)
theorem rc_ne {b tb : Value} {Q : Value → Shared → Prop} (hu : A.units + 1 < cLine) (F₀ : Fr h₀ L s.heap m) (X₀ : K.In h₀) (I : PySem.W.InstAt s.heap x ox C od) (hb : PySem.W.Looks (model prog w) s.heap (typeOf b) tb) (hn : PySem.W.notFirst K C tb = true)
    (hm : PySem.W.mroIn K C (.type "object") = some true) (hne : PySem.W.findIn K (.ref C) "__ne__" = some (some (.builtin "object.__ne__"))) (hs : PySem.W.findIn K (.ref C) "__eq__" = some (some (.ref f))) (hf : PySem.W.isFn K (.ref f) = true)
    (h : wpAny (model prog w) A.in1 (call (.ref f) [.ref x, b]) (fun v s' => ∃ r, v = .bool r ∧ Q (.bool (!r)) s') E s) : wpAny (model prog w) A (richCompare .NotEq (.ref x) b) Q E s := by
  have X := X₀.keeps F₀.keep
  have hu1 : A.in1.units < cLine := hu
  have one : wpAny (model prog w) A (tryCompare (.ref x) "__ne__" b) (fun r s' => ∃ v, r = some v ∧ Q v s') E s := by
    unfold tryCompare
    refine wpAny_bind (bound_ne X I hne ?_)
    refine wpAny_call (codeAny_call_builtin F.cmp_object.ne.plain F.cmpEntry_ne
      (PySem.W.check_slot F.cmpKind_ne F.cmpSplit_ne (I.type.andThen (PySem.W.looks_mroIn X hm)) (F.cmpArgs_ne _ _) ?_))
    refine entry_ne (A := A.in1) hu1 X I hs hf (wpAny_mono h (fun v s' ⟨r, e, q⟩ => ⟨r, e, ?_⟩) fun _ _ z => z)
    exact wpAny_pure ⟨_, rfl, q⟩
  have e1 : (cmpInfo CmpOp.NotEq) = ("!=", Str.ofString "__ne__", Str.ofString "__ne__") := rfl
  unfold richCompare
  rw [e1]
  simp only [oneThing_ref]
  refine wpAny_holding (wpAny_bind (wpAny_cRoomFor (Nat.lt_of_succ_lt hu) ?_))
  refine wpAny_bind (I.type.here (wpAny_bind
    (hb.here ?_)))
  split
  · rename_i q
    have e : PySem.W.subIn K tb (.ref C) = some false := by
      rcases Bool.or_eq_true_iff.mp hn with e | e
      · rw [beq_iff_eq.mp e] at q
        simp at q
      · exact beq_iff_eq.mp e
    refine wpAny_bind ((PySem.W.looks_subIn X e).here ?_)
    simp only [Bool.false_eq_true, if_false]
    refine wpAny_bind (m := tryCompare (.ref x) (Str.ofString "__ne__") b) (wpAny_mono one (fun r s' z => ?_) fun _ _ z => z)
    obtain ⟨v, rfl, hq⟩ := z
    exact wpAny_pure hq
  · refine wpAny_bind (wpAny_pure ?_)
    simp only [Bool.false_eq_true, if_false]
    refine wpAny_bind (m := tryCompare (.ref x) (Str.ofString "__ne__") b) (wpAny_mono one (fun r s' z => ?_) fun _ _ z => z)
    obtain ⟨v, rfl, hq⟩ := z
    exact wpAny_pure hq
end
section
variable {X : Cx} {CX : CXT} {C g : Addr} {n : Nat} {sp : Sp} {E : XK}
def rNeO (K : PySem.W.Frag) (C : Addr) (sp : Sp) (E : XK) : R2 := fun x y H Q => ∃ (a dx : Addr) (fs : List (Str × V)) (t : Value), x = .ref a ∧ H a = some (.ins C dx fs) ∧ TyX K H y t ∧ PySem.W.notFirst K C t = true ∧ sp [x, y] H (fun z H' => ∃ r, z = .bl r ∧ Q (.bl (!r)) H') E
theorem op_neO (hm : PySem.W.mroIn X.K C (.type "object") = some true) (hne : PySem.W.findIn X.K (.ref C) "__ne__" = some (some (.builtin "object.__ne__"))) (hs : PySem.W.findIn X.K (.ref C) "__eq__" = some (some (.ref g))) (hf : PySem.W.isFn X.K (.ref g) = true)
    (F : FnR X.prog X.w X.K X.mg X.base CX n g sp) (hr : Room (n + 1) X.A) (hx : Passes CX X E) : OpR X (compareOp .NotEq) (rNeO X.K C sp E) := by
  intro pins s σ H x y v u Q I rx ry h
  obtain ⟨a, dx, fs, t, rfl, ha, ty, hn, q⟩ := h
  cases (show v = Value.ref a from rx)
  obtain ⟨ox, od, J, _⟩ := StX.insC_at I (.inr ⟨dx, fs, ha⟩)
  obtain ⟨PH, kx, ph, _⟩ := kit_of I ry ty
  obtain ⟨m, hF⟩ := I.fr
  have hr2 : Room n X.A.in1 := Room.in1 hr
  have h0 : X.A.units + 1 < cLine := hr2.units0
  show wpAny _ _ (richCompare .NotEq (.ref a) u) _ _ _
  refine rc_ne h0 hF I.ok.mod.kin J (kx.ty _ _ I.kIn ph) hn hm hne hs hf ?_
  refine wpAny_mono (wpAny_call (SlX.run_at (us := [.ref a, u]) (ws := [.ref a, y]) F hr2 I.env0.in1 hx I (.cons rfl (.cons ry .nil)) q)) (fun w s' z => ?_) fun _ _ x => x
  obtain ⟨z', H', I', rz, r, ez, qz⟩ := z
  subst ez
  cases (show w = Value.bool r from rz)
  exact ⟨r, rfl, .bl (!r), H', I', rfl, qz⟩
end
end OV

set_option maxRecDepth 100000
set_option maxHeartbeats 4000000
/-! o.m(k = v, ..) of an instance; C.m(..) where m is a staticmethod of the class C -/
namespace OV
open PySem PySem.Spec PyProof.Rows L2
/-- C.m is a staticmethod: its record at p, its def at g -/
structure SMet (K : PySem.W.Frag) (C : Addr) (mc : Value) (m : Str) (p g : Addr) : Prop where
  ty : PySem.W.typeIn K (.ref C) = some mc
  rd : PySem.W.readsIn K C mc = true
  ga : PySem.W.specialIn K (.ref C) "__getattribute__" = some (some (.builtin "type.__getattribute__"))
  at_ : PySem.W.findCls K (.ref C) mc m = some (.get (.builtin "staticmethod.__get__") (.ref p) .none (.ref C))
  rc : ∃ rest, PySem.W.recIn K p "staticmethod" = some (.ref g :: rest)
  kp : PySem.W.keepIn K (.ref g) = true
/-- o.m(k = v, ..) -/
def tMethK (C : Addr) (m : Str) (j : Nat) (sp : Sp) (gV : List V → List V → List V) (E : XK) (ta : TE) (tk : TA) : TE := fun σ H Q => ta σ H fun x H1 => ∃ (a dx : Addr) (fs : List (Str × V)), x = .ref a ∧ H1 a = some (.ins C dx fs) ∧ fs.lookup m = none ∧
  tk σ H1 fun zs H2 => zs.length = j ∧ sp (gV [.ref a] zs) H2 Q E
/-- C.m(e, .., k = v, ..) -/
def tSt (C : Addr) (n j : Nat) (sp : Sp) (gV : List V → List V → List V) (E : XK) (ta : TE) (t tk : TA) : TE := fun σ H Q => ta σ H fun x H1 => x = .ref C ∧ t σ H1 fun vs H2 => tk σ H2 fun zs H3 => vs.length = n ∧ zs.length = j ∧ sp (gV vs zs) H3 Q E
section
variable {X : Cx} {CX : CXT} {k n : Nat} {C f p : Addr} {fd : FuncData} {ps ks : List Str} {sp : Sp} {E : XK} {o e : Expr} {es : List Expr} {m : Str} {pos apos : Pos} {kws : List Keyword} {ta : TE} {t tk : TA} {g : List Value → List Value → List Value} {gV : List V → List V → List V} {mc : Value}
theorem pe_methK {pl : Sem Bool} (he : PE X o ta) (c : Cls X.K C) (hm : Meth X.K C m f) (F : FnOk X.prog X.w X.K X.mg X.base CX k f fd ps sp) (hr : Room k X.A) (hb : KBn X.K fd ps 1 ks g gV) (hx : Passes CX X E) (hkw : PK X kws tk)
    (hall : (backToKw pos (keywordEach kws X.env)).all (·.1.isSome) = true := by rfl) (hks : (backToKw pos (keywordEach kws X.env)).filterMap (·.1) = ks := by rfl)
    (hpl : ((backTo pos (starEach [] X.env)).any (·.1) || (backToKw pos (keywordEach kws X.env)).any (·.1.isNone)) = false := by rfl)
    (ht : eval (.Call (.Attribute o m apos) [] kws pos) X.env = (do
      let ov ← eval o X.env
      standAt apos.atName
      let (f, first) ← holding [ov] (getMethod ov m pl)
      callWith pos f first (backTo pos (starEach [] X.env)) (backToKw pos (keywordEach kws X.env))) := by rfl) :
    PE X (.Call (.Attribute o m apos) [] kws pos) (tMethK C m ks.length sp gV E ta tk) := by
  refine ⟨fun pins s σ H Q I h => ?_⟩
  refine PySem.W.methodCall_KW (pl := pl) (thn (he.run pins s σ H _ I h)
    fun u s1 ⟨x, H1, I1, rx, a, dx, fs, ex, ea, l, q⟩ => ?_) ht
  subst ex
  obtain rfl : u = Value.ref a := rx
  refine getmeth_ok I1 ea c hm l ?_
  refine PySem.W.callWith_KW0 (first := [.ref a]) (h₀ := X.base) I.ok.mod.kin hm.kp hall ?_ hpl
  refine thn (hkw.run pos pins s1 σ H1 _ I1 q) fun ws s2 ⟨zs, H2, I2, rz, l2, q2⟩ => ⟨I2.kIn, ?_⟩
  rw [hks]
  exact run_fnN (us := [.ref a]) (vs := [.ref a]) F hr hb hx I2 (.cons rfl .nil) rz rfl l2 q2
theorem getst {pl : Sem Bool} {A : Around} {E' : Value → Shared → Prop} {pins : List (Addr × Obj)} {σ : L2.St} {H : Hp} {s : Shared} {g : Addr} {Q : Value × List Value → Shared → Prop} (I : Inv X pins σ H s) (c : SMet X.K C mc m p g)
    (h : ∀ s', Inv X pins σ H s' → Q (.ref g, []) s') : wpAny (model X.prog X.w) A (getMethod (.ref C) m pl) Q E' s := by
  obtain ⟨mm, hF⟩ := I.fr
  obtain ⟨rest, hp⟩ := c.rc
  refine PySem.W.method_of_cls hF I.ok.mod.kin c.ga ?_
  exact PySem.W.cls_sm hF I.ok.mod.kin c.ty c.rd c.at_ hp rfl (h _ (I.tok _))
theorem pe_st {pl : Sem Bool} {q : Addr} (he : PE X o ta) (c : SMet X.K C mc m p q) (F : FnOk X.prog X.w X.K X.mg X.base CX k q fd ps sp) (hr : Room k X.A) (hb : KBn X.K fd ps n ks g gV) (hx : Passes CX X E) (ha : PA X (e :: es) t) (hkw : PK X kws tk)
    (hall : (backToKw pos (keywordEach kws X.env)).all (·.1.isSome) = true := by rfl) (hks : (backToKw pos (keywordEach kws X.env)).filterMap (·.1) = ks := by rfl)
    (hst : starEach (e :: es) X.env = (false, eval e X.env) :: starEach es X.env := by rfl)
    (hpl : ((backTo pos (starEach (e :: es) X.env)).any (·.1) || (backToKw pos (keywordEach kws X.env)).any (·.1.isNone)) = false := by rfl)
    (ht : eval (.Call (.Attribute o m apos) (e :: es) kws pos) X.env = (do
      let ov ← eval o X.env
      standAt apos.atName
      let (f, first) ← holding [ov] (getMethod ov m pl)
      callWith pos f first (backTo pos (starEach (e :: es) X.env)) (backToKw pos (keywordEach kws X.env))) := by rfl) :
    PE X (.Call (.Attribute o m apos) (e :: es) kws pos) (tSt C n ks.length sp gV E ta t tk) := by
  refine ⟨fun pins s σ H Q I h => ?_⟩
  refine PySem.W.methodCall_KW (pl := pl) (thn (he.run pins s σ H _ I h)
    fun u s1 ⟨x, H1, I1, rx, ex, y⟩ => ?_) ht
  subst ex
  obtain rfl : u = Value.ref C := rx
  refine getst I1 c fun s2 I2 => ?_
  refine PySem.W.callWith_KW (first := []) (h₀ := X.base) I.ok.mod.kin c.kp hall (thn (ha.run pos pins s2 σ H1 _ I2 y)
    fun us s3 ⟨vs, H2, I3, r, y2⟩ => ?_) hpl hst
  refine thn (hkw.run pos pins s3 σ H2 _ I3 y2) fun ws s4 ⟨zs, H3, I4, rz, l1, l2, y3⟩ => ⟨I4.kIn, ?_⟩
  rw [hks]
  exact run_fnN F hr hb hx I4 r rz l1 l2 y3
theorem pe_st0 {pl : Sem Bool} {q : Addr} (he : PE X o ta) (c : SMet X.K C mc m p q) (F : FnOk X.prog X.w X.K X.mg X.base CX k q fd ps sp) (hr : Room k X.A) (hb : KBn X.K fd ps 0 ks g gV) (hx : Passes CX X E) (hkw : PK X kws tk)
    (hall : (backToKw pos (keywordEach kws X.env)).all (·.1.isSome) = true := by rfl) (hks : (backToKw pos (keywordEach kws X.env)).filterMap (·.1) = ks := by rfl)
    (hpl : ((backTo pos (starEach [] X.env)).any (·.1) || (backToKw pos (keywordEach kws X.env)).any (·.1.isNone)) = false := by rfl)
    (ht : eval (.Call (.Attribute o m apos) [] kws pos) X.env = (do
      let ov ← eval o X.env
      standAt apos.atName
      let (f, first) ← holding [ov] (getMethod ov m pl)
      callWith pos f first (backTo pos (starEach [] X.env)) (backToKw pos (keywordEach kws X.env))) := by rfl) :
    PE X (.Call (.Attribute o m apos) [] kws pos) (tSt C 0 ks.length sp gV E ta tNil tk) := by
  refine ⟨fun pins s σ H Q I h => ?_⟩
  refine PySem.W.methodCall_KW (pl := pl) (thn (he.run pins s σ H _ I h)
    fun u s1 ⟨x, H1, I1, rx, ex, y⟩ => ?_) ht
  subst ex
  obtain rfl : u = Value.ref C := rx
  refine getst I1 c fun s2 I2 => ?_
  refine PySem.W.callWith_KW0 (first := []) (h₀ := X.base) I.ok.mod.kin c.kp hall ?_ hpl
  refine thn (hkw.run pos pins s2 σ H1 _ I2 y) fun ws s4 ⟨zs, H3, I4, rz, l1, l2, y3⟩ => ⟨I4.kIn, ?_⟩
  rw [hks]
  exact run_fnN (us := []) (vs := []) F hr hb hx I4 .nil rz rfl l2 y3
end
end OV

set_option maxRecDepth 100000
set_option maxHeartbeats 4000000
/-! o.m(e, .., k = v, ..) of an instance -/
namespace OV
open PySem PySem.Spec PyProof.Rows L2
def tMethKA (C : Addr) (m : Str) (n j : Nat) (sp : Sp) (gV : List V → List V → List V) (E : XK) (ta : TE) (t tk : TA) : TE := fun σ H Q => ta σ H fun x H1 => ∃ (a dx : Addr) (fs : List (Str × V)), x = .ref a ∧ H1 a = some (.ins C dx fs) ∧ fs.lookup m = none ∧
  t σ H1 fun vs H2 => tk σ H2 fun zs H3 => vs.length = n ∧ zs.length = j ∧ sp (gV (.ref a :: vs) zs) H3 Q E
section
variable {X : Cx} {CX : CXT} {k n : Nat} {C f p : Addr} {fd : FuncData} {ps ks : List Str} {sp : Sp} {E : XK} {o e : Expr} {es : List Expr} {m : Str} {pos apos : Pos} {kws : List Keyword} {ta : TE} {t tk : TA} {g : List Value → List Value → List Value} {gV : List V → List V → List V}
theorem pe_methKA {pl : Sem Bool} (he : PE X o ta) (c : Cls X.K C) (hm : Meth X.K C m f) (F : FnOk X.prog X.w X.K X.mg X.base CX k f fd ps sp) (hr : Room k X.A) (hb : KBn X.K fd ps (n + 1) ks g gV) (hx : Passes CX X E) (ha : PA X (e :: es) t) (hkw : PK X kws tk)
    (hall : (backToKw pos (keywordEach kws X.env)).all (·.1.isSome) = true := by rfl) (hks : (backToKw pos (keywordEach kws X.env)).filterMap (·.1) = ks := by rfl)
    (hst : starEach (e :: es) X.env = (false, eval e X.env) :: starEach es X.env := by rfl)
    (hpl : ((backTo pos (starEach (e :: es) X.env)).any (·.1) || (backToKw pos (keywordEach kws X.env)).any (·.1.isNone)) = false := by rfl)
    (ht : eval (.Call (.Attribute o m apos) (e :: es) kws pos) X.env = (do
      let ov ← eval o X.env
      standAt apos.atName
      let (f, first) ← holding [ov] (getMethod ov m pl)
      callWith pos f first (backTo pos (starEach (e :: es) X.env)) (backToKw pos (keywordEach kws X.env))) := by rfl) :
    PE X (.Call (.Attribute o m apos) (e :: es) kws pos) (tMethKA C m n ks.length sp gV E ta t tk) := by
  refine ⟨fun pins s σ H Q I h => ?_⟩
  refine PySem.W.methodCall_KW (pl := pl) (thn (he.run pins s σ H _ I h)
    fun u s1 ⟨x, H1, I1, rx, a, dx, fs, ex, ea, l, q⟩ => ?_) ht
  subst ex
  obtain rfl : u = Value.ref a := rx
  refine getmeth_ok I1 ea c hm l ?_
  refine PySem.W.callWith_KW (first := [.ref a]) (h₀ := X.base) I.ok.mod.kin hm.kp hall (thn (ha.run pos pins s1 σ H1 _ I1 q)
    fun us s3 ⟨vs, H2, I3, r, y2⟩ => ?_) hpl hst
  refine thn (hkw.run pos pins s3 σ H2 _ I3 y2) fun ws s4 ⟨zs, H3, I4, rz, l1, l2, y3⟩ => ⟨I4.kIn, ?_⟩
  rw [hks]
  exact run_fnN (us := .ref a :: us) (vs := .ref a :: vs) F hr hb hx I4 (.cons rfl r) rz (by rw [List.length_cons, l1]) l2 y3
end
end OV

set_option maxRecDepth 100000
set_option maxHeartbeats 4000000
/-! o.m(e, .., k = v, ..) of an instance -/
namespace OV
open PySem PySem.Spec PyProof.Rows L2
section
variable {X : Cx} {k n : Nat} {f : Addr} {fd : FuncData} {ps ks : List Str} {sp : Sp} {E : L2.St → XK} {x : Str} {p pos : Pos} {e : Expr} {es : List Expr} {kws : List Keyword} {t tk : TA} {CX : CXT} {g : List Value → List Value → List Value} {gV : List V → List V → List V}
def tCallNS (n m : Nat) (sp : Sp) (gV : List V → List V → List V) (E : L2.St → XK) (t tk : TA) : TE := fun σ H Q => t σ H fun vs H1 => tk σ H1 fun zs H2 => vs.length = n ∧ zs.length = m ∧ sp (gV vs zs) H2 Q (E σ)
/-- f(e, .., k = v, ..) where what is raised is wished for at the slots -/
theorem pe_callNS (F : FnOk X.prog X.w X.K X.mg X.base CX k f fd ps sp) (hr : Room k X.A) (hg : Gl X x) (hm : X.mg x = some (.ref f)) (hk : PySem.W.keepIn X.K (.ref f) = true) (hb : KBn X.K fd ps n ks g gV) (hx : ∀ σ, PassesAt CX X σ (E σ))
    (ha : PA X (e :: es) t) (hkw : PK X kws tk) (hall : (backToKw pos (keywordEach kws X.env)).all (·.1.isSome) = true := by rfl) (hks : (backToKw pos (keywordEach kws X.env)).filterMap (·.1) = ks := by rfl)
    (hdb : (x == ("__debug__" : Str)) = false := by decide)
    (hst : starEach (e :: es) X.env = (false, eval e X.env) :: starEach es X.env := by rfl)
    (hpl : ((backTo pos (starEach (e :: es) X.env)).any (·.1) || (backToKw pos (keywordEach kws X.env)).any (·.1.isNone)) = false := by rfl) :
    PE X (.Call (.Name x p) (e :: es) kws pos) (tCallNS n ks.length sp gV E t tk) := by
  refine ⟨fun pins s σ H Q I h => ?_⟩
  refine wpAny_Call_Name_kw (ld_glob I hg hm ?_ hdb)
  refine PySem.W.callWith_KW (h₀ := X.base) I.ok.mod.kin hk hall (thn (ha.run pos pins s σ H _ I h) fun us s1 ⟨vs, H1, I1, r1, q1⟩ => ?_) hpl hst
  refine thn (hkw.run pos pins s1 σ H1 _ I1 q1) fun ws s2 ⟨zs, H2, I2, rz, l1, l2, q2⟩ => ⟨I2.kIn, ?_⟩
  rw [hks]
  have r2 : Vals (gV vs zs) (g us ws) := hb.rel r1 rz
  refine wpAny_call (codeAny_mono (F.run X.A X.stack s2 H2 ⟨us, ks.zip ws⟩ (g us ws) (gV vs zs) Q (E σ) hr I2.env0 (hb.to s2 us ws I2.kIn (r1.length.symm.trans l1) (rz.length.symm.trans l2)) r2 q2) fun r s' hq => ?_)
  cases r with
  | error e => exact hx σ pins H2 s2 e s' I2 hq
  | ok fl =>
    cases fl with
    | ret u => exact I2.after hq
    | next => exact False.elim hq
    | brk => exact False.elim hq
    | cont => exact False.elim hq
end
end OV

set_option maxRecDepth 100000
set_option maxHeartbeats 4000000
/-! enumerate(a tuple) -/
namespace EnT
open PySem PySem.Spec PyProof.Rows L2
set_option maxHeartbeats 1000000 in
theorem meets1 {v : Value} {o : Obj} {H : Heap → Prop} (B : Begins v o H) :
    Meets (Builtin.«enumerate.__new__» ⟨[.type "enumerate", v], []⟩) (fun _ R s => H s.heap ∧
      R (.ok (.ret (.ref (s.heap.push o).objs.size)))
        { s with heap := (s.heap.push o).push { cls := .type "enumerate", data := .fields #[.none, .bool false, .ref s.heap.objs.size, rawInt 0, .none, .none] } }) :=
  .of_wp fun prog w A R s h => by
    obtain ⟨hp, g, d, tk, os⟩ := s
    obtain ⟨h1, h⟩ := h
    have hsub := sub_enumerate
    have q1 : ∀ {A' : Around} {E : Value → Shared → Prop} {Q : Value → Shared → Prop},
        Q (.ref hp.objs.size) ⟨hp.push o, g, d, tk, os⟩ → wpAny (model prog w) A' (pyIter v) Q E ⟨hp, g, d, tk, os⟩ :=
      fun q => B.iter prog w _ _ ⟨hp, g, d, tk, os⟩ _ h1 q
    wp_walk using q1
    refine wpAny_stack_any fun st => wpAny_pure ?_
    split
    · rename_i c _ _ _ _ _
      cases (c == Value.type "enumerate")
      · wp_walk using q1
        exact ⟨_, rfl, h⟩
      · wp_walk using q1
        exact ⟨_, rfl, h⟩
    · wp_walk using q1
      exact ⟨_, rfl, h⟩
section
variable {prog : Program} {w : World} {A : Around} {E : Value → Shared → Prop} {s : Shared}
theorem call1 {v : Value} {o : Obj} {H : Heap → Prop} {Q : Value → Shared → Prop} (B : Begins v o H) (h1 : H s.heap)
    (h : ∀ h', IsEnum h' (s.heap.objs.size + 1) s.heap.objs.size 0 .none → h'.get? s.heap.objs.size = some o →
      (∀ b u, s.heap.get? b = some u → h'.get? b = some u) → Q (.ref (s.heap.objs.size + 1)) { s with heap := h' }) :
    wpAny (model prog w) A (call (.type "enumerate") [v]) Q E s := by
  refine callType_new F.called_enumerate (by decide) (F.typeCall_enumerate_1 _) (F.newCall_enumerate_1 _)
    (fun obj => F.args_object_init_2 obj _) F.entry_enumerate_new (meets1 B) ⟨h1, ?_⟩
  have hz : (s.heap.push o).objs.size = s.heap.objs.size + 1 := Heap.size_push ..
  show _ ∧ _
  rw [hz]
  have he : IsEnum ((s.heap.push o).push
      { cls := .type "enumerate", data := .fields #[.none, .bool false, .ref s.heap.objs.size, rawInt 0, .none, .none] }) (s.heap.objs.size + 1) s.heap.objs.size 0 .none := by
    have q := Heap.get?_push_size (s.heap.push o)
      (o := { cls := .type "enumerate", data := .fields #[.none, .bool false, .ref s.heap.objs.size, rawInt 0, .none, .none] }) rfl
    rw [hz] at q
    exact q
  exact ⟨⟨_, he, rfl⟩, h _ he (Heap.get?_push_of_some _ (Heap.get?_push_size _ B.free))
    fun b u x => Heap.get?_push_of_some _ (Heap.get?_push_of_some _ x)⟩
end
/-- the tuple at a as it stands at each turn, each item in a new pair -/
def IteT (K : PySem.W.Frag) (a : Addr) : It :=
  ⟨fun i H => ∃ (xs : List V) (x : V), SqT K H a xs ∧ xs[i]? = some x,
    fun i H v H' => ∃ T x, v = .ref T ∧ H T = none ∧ H' = upd H T (.tup [.int (i : Nat), x]) ∧ ∀ xs, SqT K H a xs → xs[i]? = some x,
    fun i H => ∃ xs : List V, SqT K H a xs ∧ xs.length = i⟩
theorem turnT {P : Program} {w : World} {K : PySem.W.Frag} {elts : List Expr} {kk : Nat} {tpos : Pos} (a e it : Addr) :
    Turn P w K (.Tuple elts kk tpos) (IteT K a) [e, it] e
      (fun i h => (∃ old, IsEnum h e it ((i : Nat) : Int) old) ∧ h.IsTupleIter it a i ∧ e ≠ it ∧ e ≠ a ∧ a ≠ it) where
  mem := by simp
  obj := fun i h st b hb => by
    obtain ⟨⟨old, he⟩, ⟨o, ho, hc, hd⟩, _⟩ := st
    have e' : b = e ∨ b = it := by simpa using hb
    rcases e' with z | z
    · rw [z]
      exact ⟨_, he, fun v q => nomatch q⟩
    · rw [z]
      exact ⟨o, ho, fun v q => by rw [hd] at q; cases q⟩
  keep := fun i h h' st k =>
    let ⟨⟨old, he⟩, hi, hne⟩ := st
    ⟨⟨old, k e (by simp) _ he⟩, hi.at fun o q => k it (by simp) o q, hne⟩
  item := by
    intro X hP hw hK hc i pins s σ H E I hf st hg
    subst hP hw hK
    obtain ⟨⟨old, he⟩, hit, hne, hea, hai⟩ := st
    obtain ⟨xs, x, hq, hx⟩ := hg
    obtain ⟨its, rv, p, hz⟩ := I.tuple hq
    obtain ⟨u, hu, ru⟩ := rv.get hx
    have hel : e < s.heap.objs.size := Heap.lt_size he
    have hil : it < s.heap.objs.size := by
      obtain ⟨_, q, _⟩ := hit
      exact Heap.lt_size q
    have hh : X.A.in1.handled = none := I.ok.hd hc
    have D := Draws.tuple (prog := X.prog) (w := X.w) hh it a hai its.toArray
    have hlt : i < its.toArray.size := by
      have := (List.getElem?_eq_some_iff.mp hu).1
      simpa using this
    have hef : e ∉ [it, a] := by simp [hne, hea]
    refine wpAny_pyNext_enum_itemD D he ⟨hit, p⟩ hlt hne hef fun y h' tk hy ho hst hT hsz hk => ?_
    have ey : y = u := by
      have : its.toArray[i]? = some u := by simpa using hu
      exact Option.some.inj (hy.symm.trans this)
    subst ey
    refine ⟨_, rfl, wpAny_letOwnedTupleGo_enum (s := { s with heap := h', toks := tk + 1 }) ho fun h'' he' sb => ?_⟩
    have hT2 : h''.get? s.heap.objs.size = some { cls := .type "tuple", data := .seq #[.int i tk, y] } := (sb.2 _ (Nat.ne_of_gt hel)).trans hT
    have new : ObjOk X.prog X.w (upd H s.heap.objs.size (.tup [.int (i : Nat), x])) h'' s.heap.objs.size (.tup [.int (i : Nat), x]) :=
      ⟨by show 2 ≤ sizeLine; decide, [.int i tk, y], .cons ⟨_, rfl⟩ (.cons ru .nil), ⟨_, hT2, rfl, _, rfl⟩⟩
    have I1 : Inv X pins σ (upd H s.heap.objs.size (.tup [.int (i : Nat), x])) { s with heap := h'', toks := tk + 1 } :=
      I.turnedNew (t' := tk + 1) (ch := [e, it])
        (fun b ob hb q => (sb.2 b (fun z => hb (by simp [z]))).trans (hk b ob (fun z => hb (by simp [z])) (fun z => hb (by simp [z])) q))
        hf (Nat.le_refl _) new
    refine ⟨.ref s.heap.objs.size, _, I1, rfl, ⟨_, x, rfl, I.hok.fresh (Nat.le_refl _), rfl, fun ys hy => by rw [I.tuple_inj hy hq]; exact hx⟩,
      ⟨⟨y, ?_⟩, hst.1.at fun o q => (sb.2 it (Ne.symm hne)).trans q, hne, hea, hai⟩, fun b hb => ?_⟩
    · have e1 : ((i + 1 : Nat) : Int) = (i : Int) + 1 := by omega
      rw [e1]
      exact he'
    · have hb' : b < s.heap.objs.size := by
        have e' : b = e ∨ b = it := by simpa using hb
        rcases e' with z | z
        · rw [z]
          exact hel
        · rw [z]
          exact hil
      rw [upd_ne (Nat.ne_of_lt hb')]
      exact (hf b hb).1
  done := by
    intro X hP hw hK hc i pins s σ H E I hf st hg
    subst hP hw hK
    obtain ⟨⟨old, he⟩, hit, hne, hea, hai⟩ := st
    obtain ⟨xs, hq, hx⟩ := hg
    obtain ⟨its, rv, p, hz⟩ := I.tuple hq
    obtain ⟨f0, f1, f2, f3, f4, f5⟩ := hf it (by simp)
    have hl := rv.length
    have hh : X.A.in1.handled = none := I.ok.hd hc
    have D := Draws.tuple (prog := X.prog) (w := X.w) hh it a hai its.toArray
    have ei : i = its.toArray.size := by simpa using (hx.symm.trans hl)
    subst ei
    exact wpAny_pyNext_enum_endD D he ⟨hit, p⟩
      fun h' eb => ⟨rfl, I.turned (t' := s.toks) (fun b o hb q => eb b o hb q) f0 f1 f3 f4 f5⟩
  self := fun A i s Q E st h => let ⟨⟨_, he⟩, _⟩ := st; wpAny_pyIter_enum he h
def iEnumT (K : PySem.W.Frag) (ta : TA) : TI := fun σ H R => ta σ H fun vs H1 => ∃ a xs, vs = [.ref a] ∧ SqT K H1 a xs ∧ R (IteT K a) H1
theorem pi_enumT {X : Cx} {e : Expr} {ta : TA} {p pos tpos : Pos} {elts : List Expr} {kk : Nat} (hg : Gl X "enumerate") (hm : X.mg "enumerate" = none) (ha : PA X [e] ta)
    (hs : starEach [e] X.env = [(false, eval e X.env)] := by rfl) : PI X (.Tuple elts kk tpos) (.Call (.Name "enumerate" p) [e] [] pos) (iEnumT X.K ta) := by
  refine ⟨fun pins s σ H R I h => ?_⟩
  refine Call_ (ld_blt I hg hm boot_enumerate (PyProof.Rows.callWith_type1
    (thn (ha.run pos pins s σ H _ I h) fun us s1 ⟨vs, H1, I1, r1, q1⟩ => ?_) hs rfl))
  obtain ⟨a, xs, ex, hq, q⟩ := q1
  subst ex
  obtain ⟨u, rfl, ru⟩ := r1.one
  cases (show u = Value.ref a from ru)
  obtain ⟨its, rv, p', hz⟩ := I1.tuple hq
  have al : a < s1.heap.objs.size := by
    obtain ⟨o, ho, _⟩ := id p'
    exact Heap.lt_size ho
  refine call1 (begins_tuple a its.toArray) p' fun h' he hit hk => wpAny_pyIter_enum he ?_
  have I2 : Inv X pins σ H1 { s1 with heap := h' } := I1.kept (t' := s1.toks) hk
  refine ⟨s1.heap.objs.size + 1, [s1.heap.objs.size + 1, s1.heap.objs.size], _, _, H1, rfl, I2, turnT a (s1.heap.objs.size + 1) s1.heap.objs.size,
    ⟨⟨.none, he⟩, ⟨_, hit, rfl, rfl⟩, Nat.succ_ne_self _, Nat.ne_of_gt (Nat.lt_succ_of_lt al), Nat.ne_of_lt al⟩, fun b hb => ?_, q⟩
  have e' : b = s1.heap.objs.size + 1 ∨ b = s1.heap.objs.size := by simpa using hb
  have hle : s1.heap.objs.size ≤ b := by
    rcases e' with z | z
    · rw [z]
      exact Nat.le_add_right _ _
    · rw [z]
      exact Nat.le_refl _
  exact I1.fpOk hle (I1.hok.fresh hle)
/-- a loop over enumerate of a tuple -/
theorem for_enT {K : PySem.W.Frag} {a : Addr} {xs : List V} {g : TG} {tb : TS} {D : Ends} {σ : L2.St} {H : Hp} (Pv : Nat → L2.St → Hp → Prop) (h0 : Pv 0 σ H) (hq : ∀ i σ H, i ≤ xs.length → Pv i σ H → SqT K H a xs)
    (hs : ∀ (i : Nat) (x : V) (T : Addr) (σ : L2.St) (H : Hp), xs[i]? = some x → Pv i σ H → H T = none → g (.ref T) σ (upd H T (.tup [.int (i : Nat), x])) fun σ2 H2 => tb { D with nx := Pv (i + 1), ct := Pv (i + 1), bk := D.nx } σ2 H2) (hd : ∀ σ H, Pv xs.length σ H → D.nx σ H) :
    ∃ W : Nat → Nat → L2.St → Hp → Prop, (∃ m, W 0 m σ H) ∧ ∀ i m σ H, W i m σ H →
      ((IteT K a).stop i H ∧ D.nx σ H) ∨ ((IteT K a).go i H ∧ ∃ N : L2.St → Hp → Prop, (∀ σ' H', N σ' H' → ∃ m', m' < m ∧ W (i + 1) m' σ' H') ∧ ∀ v H', (IteT K a).yld i H v H' → g v σ H' fun σ2 H2 => tb { D with nx := N, ct := N, bk := D.nx } σ2 H2) := by
  refine ⟨fun i m σ H => m = xs.length - i ∧ i ≤ xs.length ∧ Pv i σ H, ⟨_, rfl, Nat.zero_le _, h0⟩, ?_⟩
  rintro i m σ H ⟨rfl, hi, p⟩
  have q := hq i σ H hi p
  by_cases hlt : i < xs.length
  · have e : xs[i]? = some xs[i] := List.getElem?_eq_getElem hlt
    refine .inr ⟨⟨xs, xs[i], q, e⟩, Pv (i + 1), fun σ' H' p' => ⟨xs.length - (i + 1), by omega, rfl, hlt, p'⟩, fun v H' y => ?_⟩
    obtain ⟨T, x, rfl, hT, rfl, hx⟩ := y
    exact hs i x T σ H (hx xs q) p hT
  · have e : i = xs.length := by omega
    subst e
    exact .inl ⟨⟨xs, q, rfl⟩, hd σ H p⟩
/-- a target of two or more names, the value a tuple or a list -/
def gAny (K : PySem.W.Frag) (n : Nat) (t : TGs) : TG := fun v σ H Q => gTup K n t v σ H Q ∨ gUnl K n t v σ H Q
theorem pg_any {X : Cx} {pos : Pos} {es : List Expr} {k : Nat} {t : TGs} {n : Nat} (hc : X.calm = true) (h : PGs X es t)
    (hn : (assignEach es X.env).length = n := by rfl) (hst : (assignEach es X.env).findIdx? (·.1) = none := by rfl) : PG X (.Tuple es k pos) (gAny X.K n t) :=
  ⟨fun pins s σ H v u Q I r hw => hw.elim ((pg_tup hc h hn hst).run pins s σ H v u Q I r) ((pg_unl hc h hn hst).run pins s σ H v u Q I r)⟩
end EnT

set_option maxRecDepth 100000
set_option maxHeartbeats 4000000
/-! zip(a list, a tuple) -/
namespace EnT
open PySem PySem.Spec PyProof.Rows L2
def ItzLT (K : PySem.W.Frag) (a b : Addr) : It :=
  ⟨fun i H => ∃ (xs ys : List V) (x y : V), SqL K H a xs ∧ SqT K H b ys ∧ xs.length = ys.length ∧ xs[i]? = some x ∧ ys[i]? = some y,
    fun i H v H' => ∃ T x y, v = .ref T ∧ H T = none ∧ H' = upd H T (.tup [x, y]) ∧ (∀ xs, SqL K H a xs → xs[i]? = some x) ∧ ∀ ys, SqT K H b ys → ys[i]? = some y,
    fun i H => ∃ xs ys : List V, SqL K H a xs ∧ SqT K H b ys ∧ xs.length = i ∧ ys.length = i⟩
theorem turnLT {P : Program} {w : World} {K : PySem.W.Frag} {elts : List Expr} {kk : Nat} {tpos : Pos} {a b z TI TO i1 i2 : Addr} (D : ZipSep2 z TI TO i1 i2 [i1, a] [i2, b]) (n1 : a ≠ i1) (n2 : b ≠ i2) :
    Turn P w K (.Tuple elts kk tpos) (ItzLT K a b) [z, TI, TO, i1, i2] z
      (fun i h => IsZip h z TI TO .none ∧ IsTupOf2 h TI (.ref i1) (.ref i2) ∧ (∃ x y, IsTupOf2 h TO x y) ∧ h.IsListIter i1 a i ∧ h.IsTupleIter i2 b i) where
  mem := by simp
  obj := fun i h st c hc => by
    obtain ⟨hz, hTI, ⟨x, y, hTO⟩, ⟨o1, e1, _, d1⟩, ⟨o2, e2, _, d2⟩⟩ := st
    have e' : c = z ∨ c = TI ∨ c = TO ∨ c = i1 ∨ c = i2 := by simpa using hc
    rcases e' with q | q | q | q | q
    · rw [q]
      exact ⟨_, hz, fun v q => nomatch q⟩
    · rw [q]
      exact ⟨_, hTI, fun v q => nomatch q⟩
    · rw [q]
      exact ⟨_, hTO, fun v q => nomatch q⟩
    · rw [q]
      exact ⟨o1, e1, fun v q => by rw [d1] at q; cases q⟩
    · rw [q]
      exact ⟨o2, e2, fun v q => by rw [d2] at q; cases q⟩
  keep := fun i h h' st k => by
    obtain ⟨hz, hTI, ⟨x, y, hTO⟩, h1, h2⟩ := st
    exact ⟨k z (by simp) _ hz, k TI (by simp) _ hTI, ⟨x, y, k TO (by simp) _ hTO⟩,
      h1.at fun o q => k i1 (by simp) o q, h2.at fun o q => k i2 (by simp) o q⟩
  item := by
    intro X hP hw hK hc i pins s σ H E I hf st hg
    subst hP hw hK
    obtain ⟨hz, hTI, ⟨x0, y0, hTO⟩, h1, h2⟩ := st
    obtain ⟨xs, ys, x, y, hqx, hqy, hll, hx, hy⟩ := hg
    obtain ⟨its, rv, p, _⟩ := I.list hqx
    obtain ⟨its2, rv2, p2, _⟩ := I.tuple hqy
    obtain ⟨u, hu, ru⟩ := rv.get hx
    obtain ⟨u2, hu2, ru2⟩ := rv2.get hy
    have hzl : z < s.heap.objs.size := Heap.lt_size hz
    have hh : X.A.in1.handled = none := I.ok.hd hc
    have D1 := Draws.list (prog := X.prog) (w := X.w) hh i1 a n1 its.toArray
    have D2 := Draws.tuple (prog := X.prog) (w := X.w) hh i2 b n2 its2.toArray
    have lt1 : i < its.toArray.size := by
      have := (List.getElem?_eq_some_iff.mp hu).1
      simpa using this
    have lt2 : i < its2.toArray.size := by
      have := (List.getElem?_eq_some_iff.mp hu2).1
      simpa using this
    refine wpAny_pyNext_zipD2_item D D1 D2 hz hTI hTO ⟨h1, p.isList⟩ ⟨h2, p2⟩ lt1 lt2
      fun v1 v2 h' tk hv1 hv2 z' TO' st1 st2 hT hsz hk => ?_
    have e1 : v1 = u := by
      have : its.toArray[i]? = some u := by simpa using hu
      exact Option.some.inj (hv1.symm.trans this)
    have e2 : v2 = u2 := by
      have : its2.toArray[i]? = some u2 := by simpa using hu2
      exact Option.some.inj (hv2.symm.trans this)
    subst e1 e2
    refine ⟨_, rfl, wpAny_letOwnedTupleGo_zip (s := { s with heap := h', toks := tk }) z' fun h'' z'' sb => ?_⟩
    have hT2 : h''.get? s.heap.objs.size = some { cls := .type "tuple", data := .seq #[v1, v2] } := (sb.2 _ (Nat.ne_of_gt hzl)).trans hT
    have new : ObjOk X.prog X.w (upd H s.heap.objs.size (.tup [x, y])) h'' s.heap.objs.size (.tup [x, y]) :=
      ⟨by show 2 ≤ sizeLine; decide, [v1, v2], .cons ru (.cons ru2 .nil), ⟨_, hT2, rfl, _, rfl⟩⟩
    have I1 : Inv X pins σ (upd H s.heap.objs.size (.tup [x, y])) { s with heap := h'', toks := tk } :=
      I.turnedNew (t' := tk) (ch := [z, TI, TO, i1, i2])
        (fun c o hb q => (sb.2 c (fun q' => hb (by simp [q']))).trans
          (hk c o (fun q' => hb (by simp [q'])) (fun q' => hb (by simp [q'])) (fun q' => hb (by simp [q'])) (fun q' => hb (by simp [q'])) q))
        hf (Nat.le_refl _) new
    have i1z : i1 ≠ z := fun q => D.zf1 (by rw [q]; exact List.mem_cons_self)
    have i2z : i2 ≠ z := fun q => D.zf2 (by rw [q]; exact List.mem_cons_self)
    refine ⟨.ref s.heap.objs.size, _, I1, rfl, ⟨_, x, y, rfl, I.hok.fresh (Nat.le_refl _), rfl,
      fun l hl => by rw [I.list_inj hl hqx]; exact hx, fun l hl => by rw [I.tuple_inj hl hqy]; exact hy⟩,
      ⟨z'', ?_, ⟨v1, v2, ?_⟩, ?_, ?_⟩, fun c hcm => ?_⟩
    · exact (sb.2 _ D.TIz).trans (hk _ _ D.TIz D.TITO D.TIi1 D.TIi2 hTI)
    · exact (sb.2 _ D.TOz).trans TO'
    · exact st1.1.at fun o q => (sb.2 _ i1z).trans q
    · exact st2.1.at fun o q => (sb.2 _ i2z).trans q
    · have hlt : c < s.heap.objs.size := by
        have e' : c = z ∨ c = TI ∨ c = TO ∨ c = i1 ∨ c = i2 := by simpa using hcm
        rcases e' with q | q | q | q | q
        · rw [q]
          exact hzl
        · rw [q]
          exact Heap.lt_size hTI
        · rw [q]
          exact Heap.lt_size hTO
        · rw [q]
          obtain ⟨_, e1, _⟩ := h1
          exact Heap.lt_size e1
        · rw [q]
          obtain ⟨_, e2, _⟩ := h2
          exact Heap.lt_size e2
      rw [upd_ne (Nat.ne_of_lt hlt)]
      exact (hf c hcm).1
  done := by
    intro X hP hw hK hc i pins s σ H E I hf st hg
    subst hP hw hK
    obtain ⟨hz, hTI, ⟨x0, y0, hTO⟩, h1, h2⟩ := st
    obtain ⟨xs, ys, hqx, hqy, l1, l2⟩ := hg
    obtain ⟨its, rv, p, _⟩ := I.list hqx
    obtain ⟨its2, rv2, p2, _⟩ := I.tuple hqy
    have m1 := rv.length
    have m2 := rv2.length
    have hh : X.A.in1.handled = none := I.ok.hd hc
    have D1 := Draws.list (prog := X.prog) (w := X.w) hh i1 a n1 its.toArray
    have D2 := Draws.tuple (prog := X.prog) (w := X.w) hh i2 b n2 its2.toArray
    have e1 : i = its.toArray.size := by simpa using (l1.symm.trans m1)
    have e2 : i ≤ its2.toArray.size := by
      have : i = its2.toArray.size := by simpa using (l2.symm.trans m2)
      exact Nat.le_of_eq this
    exact wpAny_pyNext_zipD2_end D D1 D2 hz hTI hTO ⟨h1, p.isList⟩ ⟨h2, p2⟩ (Nat.le_of_eq e1) e2 (.inl e1)
      fun h' tk hk => ⟨rfl, I.turnedL (t' := tk) (ch := [z, TI, TO, i1, i2]) (fun c o hb q =>
        hk c o (fun q' => hb (by simp [q'])) (fun q' => hb (by simp [q'])) (fun q' => hb (by simp [q'])) (fun q' => hb (by simp [q'])) q) hf⟩
  self := fun A i s Q E st h => wpAny_pyIter_zip st.1 h
def iZipLT (K : PySem.W.Frag) (ta : TA) : TI := fun σ H R => ta σ H fun vs H1 => ∃ a b xs ys, vs = [.ref a, .ref b] ∧ SqL K H1 a xs ∧ SqT K H1 b ys ∧ R (ItzLT K a b) H1
theorem pi_zipLT {X : Cx} {e e2 : Expr} {ta : TA} {p pos tpos : Pos} {elts : List Expr} {kk : Nat} (hg : Gl X "zip") (hm : X.mg "zip" = none) (ha : PA X [e, e2] ta)
    (hs : starEach [e, e2] X.env = (false, eval e X.env) :: starEach [e2] X.env := by rfl) (hpl : (backTo pos (starEach [e2] X.env)).any (·.1) = false := by rfl) :
    PI X (.Tuple elts kk tpos) (.Call (.Name "zip" p) [e, e2] [] pos) (iZipLT X.K ta) := by
  refine ⟨fun pins s σ H R I h => ?_⟩
  refine Call_ (ld_blt I hg hm PyProof.Rows.boot_zip (PyProof.Rows.callWith_type1
    (thn (ha.run pos pins s σ H _ I h) fun us s1 ⟨vs, H1, I1, r1, q1⟩ => ?_) hs hpl))
  obtain ⟨a, b, xs, ys, ex, hqx, hqy, q⟩ := q1
  subst ex
  cases r1 with
  | cons r rr =>
    cases rr with
    | cons r' rr =>
      cases rr
      cases r
      cases r'
      obtain ⟨its, rv, p1, _⟩ := I1.list hqx
      obtain ⟨its2, rv2, p2, _⟩ := I1.tuple hqy
      obtain ⟨o2, ho2, _⟩ := id p2
      have al : a < s1.heap.objs.size := p1.lt
      have bl : b < s1.heap.objs.size := Heap.lt_size ho2
      refine zip_begins2 (begins_list a its.toArray) (begins_tuple b its2.toArray) p1.isList p2
        fun h' hz hTI hTO g1 g2 hsz hk => wpAny_pyIter_zip hz ?_
      have I2 : Inv X pins σ H1 { s1 with heap := h' } := I1.kept (t' := s1.toks) hk
      have S := zip_sep2 (N := s1.heap.objs.size) (fp1 := [a]) (fp2 := [b]) (fun c hc => by rw [List.mem_singleton.mp hc]; exact al) (fun c hc => by rw [List.mem_singleton.mp hc]; exact bl)
      refine ⟨s1.heap.objs.size + 4, [s1.heap.objs.size + 4, s1.heap.objs.size + 2, s1.heap.objs.size + 3, s1.heap.objs.size, s1.heap.objs.size + 1], _, _, H1, rfl, I2,
        turnLT S (Nat.ne_of_lt al) (Nat.ne_of_lt (Nat.lt_succ_of_lt bl)), ⟨hz, hTI, ⟨_, _, hTO⟩, ⟨_, g1, rfl, rfl⟩, ⟨_, g2, rfl, rfl⟩⟩, fun c hcm => ?_, q⟩
      have e' : c = s1.heap.objs.size + 4 ∨ c = s1.heap.objs.size + 2 ∨ c = s1.heap.objs.size + 3 ∨ c = s1.heap.objs.size ∨ c = s1.heap.objs.size + 1 := by simpa using hcm
      have hle : s1.heap.objs.size ≤ c := by
        rcases e' with z | z | z | z | z <;> rw [z] <;> first | exact Nat.le_refl _ | exact Nat.le_add_right _ _
      exact I1.fpOk hle (I1.hok.fresh hle)
/-- a loop over zip of a list and a tuple of one length -/
theorem for_zipLT {K : PySem.W.Frag} {a b : Addr} {xs ys : List V} {g : TG} {tb : TS} {D : Ends} {σ : L2.St} {H : Hp} (hl : xs.length = ys.length) (Pv : Nat → L2.St → Hp → Prop) (h0 : Pv 0 σ H) (hq : ∀ i σ H, Pv i σ H → SqL K H a xs ∧ SqT K H b ys)
    (hs : ∀ (i : Nat) (x y : V) (T : Addr) (σ : L2.St) (H : Hp), xs[i]? = some x → ys[i]? = some y → Pv i σ H → H T = none → g (.ref T) σ (upd H T (.tup [x, y])) fun σ2 H2 => tb { D with nx := Pv (i + 1), ct := Pv (i + 1), bk := D.nx } σ2 H2) (hd : ∀ σ H, Pv xs.length σ H → D.nx σ H) :
    ∃ W : Nat → Nat → L2.St → Hp → Prop, (∃ m, W 0 m σ H) ∧ ∀ i m σ H, W i m σ H →
      ((ItzLT K a b).stop i H ∧ D.nx σ H) ∨ ((ItzLT K a b).go i H ∧ ∃ N : L2.St → Hp → Prop, (∀ σ' H', N σ' H' → ∃ m', m' < m ∧ W (i + 1) m' σ' H') ∧ ∀ v H', (ItzLT K a b).yld i H v H' → g v σ H' fun σ2 H2 => tb { D with nx := N, ct := N, bk := D.nx } σ2 H2) := by
  refine ⟨fun i m σ H => m = xs.length - i ∧ i ≤ xs.length ∧ Pv i σ H, ⟨_, rfl, Nat.zero_le _, h0⟩, ?_⟩
  rintro i m σ H ⟨rfl, hi, p⟩
  obtain ⟨q1, q2⟩ := hq i σ H p
  by_cases hlt : i < xs.length
  · have e : xs[i]? = some xs[i] := List.getElem?_eq_getElem hlt
    have e2 : ys[i]? = some ys[i] := List.getElem?_eq_getElem (hl ▸ hlt)
    refine .inr ⟨⟨xs, ys, _, _, q1, q2, hl, e, e2⟩, Pv (i + 1), fun σ' H' p' => ⟨xs.length - (i + 1), by omega, rfl, hlt, p'⟩, fun v H' y => ?_⟩
    obtain ⟨T, x, y, rfl, hT, rfl, hx, hy⟩ := y
    exact hs i x y T σ H (hx xs q1) (hy ys q2) p hT
  · have e : i = xs.length := by omega
    subst e
    exact .inl ⟨⟨xs, ys, q1, q2, rfl, hl.symm⟩, hd σ H p⟩
end EnT

set_option maxRecDepth 100000
set_option maxHeartbeats 4000000
/-! rules for own classes with a star parameter, own len, own in, counts and members of tuples of data -/
namespace BR
open PySem PySem.Spec PyProof.Rows L2 StX
section
variable {X : Cx} {CX : CXT} {k i : Nat} {f C : Addr} {sp : Sp} {E : XK} {x m : Str} {e o : Expr} {es : List Expr} {te ta : TE} {t : TA} {p sp_ pos apos : Pos}
/-- C() -/
def tMakeR0 (C : Addr) (sp : Sp) (E : XK) : TE := fun σ H Q => ∀ x dx, H x = Option.none → H dx = Option.none → dx ≠ x →
  sp [V.ref x] (upd (upd H dx (.own x)) x (.ins C dx [])) (fun v H2 => v = .non ∧ Q (.ref x) H2) E
theorem pe_makeR0 (M : Mk X.K C f) (F : FnR X.prog X.w X.K X.mg X.base CX k f sp) (hr : Room (k + 1) X.A) (hg : Gl X x) (hm : X.mg x = some (.ref C)) (hx : Passes CX X E)
    (hdb : (x == ("__debug__" : Str)) = false := by decide) : PE X (.Call (.Name x p) [] [] pos) (tMakeR0 C sp E) := by
  refine ⟨fun pins s σ H Q I h => ?_⟩
  refine wpAny_Call_Name_kw (ld_glob I hg hm ?_ hdb)
  exact PySem.W.callWith_K0 I.kIn M.kp (run_makeR (us := []) M F hr hx I .nil h)
/-- C(*e) -/
def tMakeRS (K : PySem.W.Frag) (C : Addr) (sp : Sp) (E : XK) (te : TE) : TE := fun σ H Q => te σ H fun y H1 => ∃ a xs, y = V.ref a ∧ (SqT K H1 a xs ∨ SqL K H1 a xs) ∧ ∀ x dx, H1 x = Option.none → H1 dx = Option.none → dx ≠ x →
  sp (V.ref x :: xs) (upd (upd H1 dx (.own x)) x (.ins C dx [])) (fun v H2 => v = .non ∧ Q (.ref x) H2) E
theorem pe_makeRS (M : Mk X.K C f) (F : FnR X.prog X.w X.K X.mg X.base CX k f sp) (hr : Room (k + 1) X.A) (hg : Gl X x) (hm : X.mg x = some (.ref C)) (hx : Passes CX X E) (he : PE X e te) (hdb : (x == ("__debug__" : Str)) = false := by decide)
    (hst : starEach [.Starred e sp_] X.env = [(true, eval e X.env)] := by rfl) :
    PE X (.Call (.Name x p) [.Starred e sp_] [] pos) (tMakeRS X.K C sp E te) := by
  refine ⟨fun pins s σ H Q I h => ?_⟩
  refine wpAny_Call_Name_kw (ld_glob I hg hm ?_ hdb)
  refine PySem.W.callWith_S (h₀ := X.base) I.ok.mod.kin M.kp (thn (he.run pins s σ H _ I h) fun v s1 ⟨y, H1, I1, ry, a, xs, ey, hxs, q⟩ => ?_) hst
  subst ey
  obtain rfl : v = Value.ref a := ry
  exact star_any I1 hxs fun us s2 I2 rv => ⟨I2.kIn, run_makeR M F hr hx I2 rv q⟩
end
/-! ### len(x), v in x by own defs -/
section
variable {X : Cx} {CX : CXT} {C g : Addr} {n : Nat} {sp : Sp} {E : XK}
def rLenO (C : Addr) (sp : Sp) (E : XK) : List V → Hp → VK → Prop := fun xs H Q => ∃ (a dx : Addr) (fs : List (Str × V)), xs = [.ref a] ∧ H a = some (.ins C dx fs) ∧ sp [.ref a] H (fun z H' => ∃ i : Int, z = .int i ∧ 0 ≤ i ∧ i < 2 ^ 63 ∧ Q z H') E
theorem call_lenO (hs : PySem.W.findIn X.K (.ref C) "__len__" = some (some (.ref g))) (hf : PySem.W.isFn X.K (.ref g) = true) (F : FnR X.prog X.w X.K X.mg X.base CX n g sp)
    (hr : Room (n + 1) X.A) (hx : Passes CX X E) : CallR X (.builtin "len") (rLenO C sp E) := by
  intro pins s σ H xs us Q I r h
  obtain ⟨a, dx, fs, rfl, ha, q⟩ := h
  obtain ⟨u, rfl, ru⟩ := r.one
  cases (show u = Value.ref a from ru)
  obtain ⟨ox, od, J, _⟩ := StX.insC_at I (.inr ⟨dx, fs, ha⟩)
  obtain ⟨m, hF⟩ := I.fr
  have hr2 : Room n X.A.in1 := Room.in1 hr
  refine PySem.W.len_K hF I.ok.mod.kin J hs hf ?_
  refine wpAny_mono (wpAny_call (SlX.run_at (us := [.ref a]) (ws := [.ref a]) F hr2 I.env0.in1 hx I (.cons rfl .nil) q)) (fun w s' z => ?_) fun _ _ x => x
  obtain ⟨z', H', I', rz, i, ez, h0, h1, qz⟩ := z
  subst ez
  obtain ⟨tk, e⟩ := (show ∃ tk, w = Value.int i tk from rz)
  cases e
  exact ⟨⟨h0, h1⟩, ⟨.int i, H', I'.tok _, ⟨_, rfl⟩, qz⟩⟩
def rInO (C : Addr) (sp : Sp) (E : XK) : R2 := fun x y H Q => ∃ (b dy : Addr) (gs : List (Str × V)), y = .ref b ∧ H b = some (.ins C dy gs) ∧ sp [y, x] H (fun z H' => ∃ r, z = .bl r ∧ Q z H') E
theorem op_inO (hs : PySem.W.findIn X.K (.ref C) "__contains__" = some (some (.ref g))) (hf : PySem.W.isFn X.K (.ref g) = true) (F : FnR X.prog X.w X.K X.mg X.base CX n g sp)
    (hr : Room n X.A) (hx : Passes CX X E) : OpR X (compareOp .In) (rInO C sp E) := by
  intro pins s σ H x y v u Q I rx ry h
  obtain ⟨b, dy, gs, rfl, hb, q⟩ := h
  cases (show u = Value.ref b from ry)
  obtain ⟨ox, od, J, _⟩ := StX.insC_at I (.inr ⟨dy, gs, hb⟩)
  obtain ⟨m, hF⟩ := I.fr
  refine PySem.W.in_K hF I.ok.mod.kin J hs hf ?_
  refine wpAny_mono (wpAny_call (run_fnR (us := [.ref b, v]) (vs := [.ref b, x]) F hr hx I (.cons rfl (.cons rx .nil)) q)) (fun w s' z => ?_) fun _ _ x => x
  obtain ⟨z', H', I', rz, r, ez, qz⟩ := z
  subst ez
  cases (show w = Value.bool r from rz)
  exact wpAny_truthy_bool ⟨.bl r, H', I', rfl, qz⟩
end
/-! ### tuples of data: in, count -/
section
variable {X : Cx}
def rInDT (K : PySem.W.Frag) : R2 := fun x y H Q => ∃ d ds, Dp K H x d ∧ Dp K H y (.tuple ds) ∧ SeqAt.shaped d = true ∧ SeqAt.shaped (.tuple ds) = true ∧ Q (.bl (ds.any fun z => PyData.eqv z d)) H
theorem op_inDT (hu : X.A.units + 65 < cLine) : OpR X (compareOp .In) (rInDT X.K) := by
  intro pins s σ H x y v u Q I rx ry h
  obtain ⟨d, ds, hd, he, sd, se, q⟩ := h
  obtain ⟨as, r1⟩ := Dp.reads I d x v hd rx
  obtain ⟨bs, r2⟩ := Dp.reads I (.tuple ds) y u he ry
  exact SeqAt.in_tuple_reads r2 r1 (SeqAt.canLay_of_shaped se) (SeqAt.canLay_of_shaped sd) (room_in_shaped sd hu) ⟨.bl _, H, I, rfl, q⟩
/-- l.count(x), t.count(x) -/
def rCntD (K : PySem.W.Frag) (c : List PyData → PyData) : V → List V → Hp → VK → Prop := fun x xs H Q => ∃ (a : Addr) (y : V) (d : PyData) (ds : List PyData), x = .ref a ∧ xs = [y] ∧ Dp K H (.ref a) (c ds) ∧ Dp K H y d ∧ PyData.plainAll ds = true ∧ d.plain = true ∧ d.depth ≤ 60 ∧
  Q (.int ((ds.countP fun z => PyData.eqv z d : Nat) : Int)) H
theorem mt_lcountD (hu : X.A.units + 65 < cLine) : MtR X "list.count" (rCntD X.K .list) := by
  intro pins s σ H x xs v us Q I rx rxs h
  obtain ⟨a, y, d, ds, rfl, rfl, hl, hy, pl, pd, hdp, q⟩ := h
  cases rx
  cases rxs with
  | cons ry rt =>
    rename_i uy ut
    cases rt
    obtain ⟨bs, r1⟩ := Dp.reads I d y uy hy ry
    cases hl with
    | lst hs ha =>
      obtain ⟨its, rv, hl, hlen⟩ := I.list hs
      obtain ⟨as, h4⟩ := Dp.readsAll I ds _ its ha rv
      exact SeqAt.count_list_data hl.isList (vs := its.toArray) (show ReadsAll s.heap its.toArray.toList ds as by simpa using h4) r1 pl pd (by have := Nat.min_le_right (PyData.depthAll ds) d.depth; omega) ⟨.int _, H, I.tok _, ⟨_, rfl⟩, q⟩
theorem mt_tcountD (hu : X.A.units + 65 < cLine) : MtR X "tuple.count" (rCntD X.K .tuple) := by
  intro pins s σ H x xs v us Q I rx rxs h
  obtain ⟨a, y, d, ds, rfl, rfl, hl, hy, pl, pd, hdp, q⟩ := h
  cases rx
  cases rxs with
  | cons ry rt =>
    rename_i uy ut
    cases rt
    obtain ⟨bs, r1⟩ := Dp.reads I d y uy hy ry
    cases hl with
    | tup hs ha =>
      obtain ⟨its, rv, hl, hlen⟩ := I.tuple hs
      obtain ⟨as, h4⟩ := Dp.readsAll I ds _ its ha rv
      exact SeqAt.count_tuple_data hl (vs := its.toArray) (show ReadsAll s.heap its.toArray.toList ds as by simpa using h4) r1 pl pd (by have := Nat.min_le_right (PyData.depthAll ds) d.depth; omega) ⟨.int _, H, I.tok _, ⟨_, rfl⟩, q⟩
def rTupOf (K : PySem.W.Frag) : List V → Hp → VK → Prop := fun xs H Q => ∃ p ys, xs = [.ref p] ∧ ((SqL K H p ys ∧ ∀ l, H l = none → Q (.ref l) (upd H l (.tup ys))) ∨ (SqT K H p ys ∧ Q (.ref p) H))
theorem call_tupleD : CallR X (.type "tuple") (rTupOf X.K) := call_tuple_of
def rLstOf (K : PySem.W.Frag) : List V → Hp → VK → Prop := fun xs H Q => ∃ p ys, xs = [.ref p] ∧ (SqL K H p ys ∨ SqT K H p ys) ∧ ∀ l, H l = none → Q (.ref l) (upd H l (.lst ys))
theorem call_listD : CallR X (.type "list") (rLstOf X.K) := call_list_of
/-- tuple(l), the new object itself told -/
def rTupF (K : PySem.W.Frag) : List V → Hp → VK → Prop := fun xs H Q => ∃ p ys, xs = [.ref p] ∧ SqL K H p ys ∧ ∀ l o, H l = none → o.cls = .type "tuple" → o.dict = none → Q (.ref l) (upd H l (.frz o (.tup ys)))
theorem call_tupleF : CallR X (.type "tuple") (rTupF X.K) := by
  intro pins s σ H xs us Q I r h
  obtain ⟨p, ys, rfl, hq, q⟩ := h
  obtain ⟨u, rfl, rx⟩ := vals1 r
  cases rx
  obtain ⟨its, r', pl, hz⟩ := I.list hq
  have hlen := r'.length
  refine call_tuple_list pl.isList (fun h' kp => ?_) (by simp only [List.size_toArray] <;> omega)
  have I1 : Inv X pins σ H { s with heap := h' } := I.kept (t' := s.toks) kp
  have hg : (h'.push ({ cls := .type "tuple", data := .seq its.toArray } : Obj)).get? h'.objs.size = some { cls := .type "tuple", data := .seq its.toArray } := Heap.get?_push_size _ rfl
  have I2 : Inv X pins σ (upd H h'.objs.size (.frz ({ cls := .type "tuple", data := .seq its.toArray } : Obj) (.tup ys))) { s with heap := h'.push { cls := .type "tuple", data := .seq its.toArray } } :=
    I1.laid (t' := s.toks) (fun b o e => Heap.get?_push_of_some _ e) (Nat.le_refl _) (show ObjOk X.prog X.w _ _ _ (.frz _ (.tup ys)) from ⟨hg, hz, its, r', IsTup.new _ _⟩)
  exact ⟨.ref h'.objs.size, _, I2, rfl, q _ _ (I1.hok.fresh (Nat.le_refl _)) rfl rfl⟩
/-- t.m(e, ..), t a tuple whose object is told -/
def tyF (x : V) (H : Hp) : Prop := ∃ p o xs, x = .ref p ∧ H p = some (.frz o (.tup xs)) ∧ o.cls = .type "tuple" ∧ o.dict = none
theorem tyF_is {pins : List (Addr × Obj)} {σ : L2.St} {H : Hp} {s : Shared} {x : V} {v : Value} (I : Inv X pins σ H s) (r : RelV x v) (ty : tyF x H) :
    s.TypeIs v "tuple" ∧ ∀ a, v = .ref a → ∃ ob, s.heap.get? a = some ob ∧ ob.dict = none := by
  obtain ⟨p, o, xs, rfl, e, hc, hd⟩ := ty
  cases r
  have z := (I.hok p _ e).1
  refine ⟨⟨o, z, hc⟩, fun a e2 => ?_⟩
  cases e2
  exact ⟨o, z, hd⟩
def tBMT (r : V → List V → Hp → VK → Prop) (to : TE) (t : TA) : TE := fun σ H Q => to σ H fun x H1 => tyF x H1 ∧ t σ H1 fun xs H2 => r x xs H2 Q
theorem pe_bmT {o e : Expr} {es : List Expr} {to : TE} {t : TA} {name : Str} {apos cpos : Pos} {id : String} {r : V → List V → Hp → VK → Prop} (pa : PlainAttrs "tuple") (slot : Slot "tuple" name id) (hty : typeOf (.builtin id) = pure (.type "method_descriptor")) (hm : MtR X id r) (ho : PE X o to) (ha : PA X (e :: es) t)
    (hbase : attributeBase o name X.env (eval o X.env) = eval o X.env := by rfl)
    (hfew : ((backTo cpos (starEach (e :: es) X.env)).all (fun x => !x.1) && (backToKw cpos (keywordEach [] X.env)).all (fun x => x.1.isSome)
      && decide ((e :: es).length + ([] : List Keyword).length + (if ([] : List Keyword).isEmpty then 0 else 1) < 30)) = true := by rfl)
    (hline : (apos.endLine == cpos.line) = true := by rfl) (hs : starEach (e :: es) X.env = (false, eval e X.env) :: starEach es X.env := by rfl) (hplain : (backTo cpos (starEach es X.env)).any (·.1) = false := by rfl) :
    PE X (.Call (.Attribute o name apos) (e :: es) [] cpos) (tBMT r to t) := by
  refine ⟨fun pins s σ H Q I h => ?_⟩
  refine wpAny_Call_method_late hbase hfew hline rfl (thn (ho.run pins s σ H _ I h) fun v s1 ⟨x, H1, I1, r1, ty, q1⟩ => ?_)
  obtain ⟨h1, h2⟩ := tyF_is I1 r1 ty
  refine ⟨"tuple", id, pa, slot, hty, h1, h2, ?_⟩
  have hA := ha.run cpos pins s1 σ H1 _ I1 q1
  rw [hs] at hA ⊢
  refine Calls.callWith_builtin (by show (false || (backTo cpos (starEach es X.env)).any (·.1)) = false; rw [hplain] <;> rfl) (Calls.evalArgs_plain ?_)
  exact thn hA fun us s2 ⟨vs, H2, I2, r2, q2⟩ => hm pins s2 σ H2 x vs v us Q I2 r1 r2 q2
/-- t * 1 -/
theorem tuple_mul1 (l : Addr) (items : Array Value) (n : Nat) (dd : Option Addr) (sl : Array (Option Value)) (u : Tok) :
    Meets (Builtin.«tuple.__mul__» ⟨[.ref l, .int 1 u], []⟩) (fun _ R s => s.heap.get? l = some { cls := .type "tuple", dict := dd, data := .seq items n, slots := sl } ∧ R (.ok (.ret (Value.ref l))) s) :=
  .of_wp fun prog w A R s h => by
    obtain ⟨hp, g, d, tk, os⟩ := s
    obtain ⟨hl, h⟩ := h
    have f1 := AutoSeq1.idx_int
    wp_walk using wpAny_loadPart' hl
    repeat (first
      | (refine wpAny_ite_false (decide_eq_false (by decide)) ?_; wp_walk using wpAny_loadPart' hl)
      | (refine wpAny_ite_true (decide_eq_true (by simp)) ?_; wp_walk using wpAny_loadPart' hl))
    exact ⟨_, rfl, h⟩
def rRep1 (K : PySem.W.Frag) : R2 := fun x y H Q => ∃ l xs, x = .ref l ∧ y = .int 1 ∧ SqT K H l xs ∧ Q (.ref l) H
theorem op_rep1 : OpR X (binaryOp .Mult) (rRep1 X.K) := by
  intro pins s σ H x y v u Q I rx ry h
  obtain ⟨l, xs, rfl, rfl, hT, q⟩ := h
  cases rx
  obtain ⟨t, rfl⟩ := ry
  obtain ⟨its, r, ⟨⟨cls, dd, data, sl⟩, ho, hc, n, hd⟩, hs⟩ := I.tuple hT
  simp only at hc hd
  subst hc hd
  refine wpAny_binaryOp_repeat_ref (T := "tuple") (U := "int") (by decide) ⟨_, ho, rfl⟩ (fun s' => typeIs_int s' 1 t) noFill_tuple_mul F.fills_int_mul F.slot_int_rmul repeat_tuple F.slot_int_index.lookup
    (call_meets F.slot_int_rmul (typeIs_int s 1 t) F.entry_int_rmul (F.args_int_rmul_2 _ _) (int_rmul_tuple 1 t l its.toArray n dd sl)
      ⟨ho, rfl, ⟨_, ho, rfl⟩, call_meets F.slot_tuple_mul ⟨_, ho, rfl⟩ F.entry_tuple_mul (F.args_tuple_mul_2 _ _) (tuple_mul1 l its.toArray n dd sl t) ⟨ho, ?_⟩⟩)
  exact ⟨.ref l, H, I, rfl, q⟩
/-- t * k, k from 1 on: some tuple -/
def rRepX (K : PySem.W.Frag) : R2 := fun x y H Q => rRep1 K x y H Q ∨ rRepT K x y H Q
theorem op_repX : OpR X (binaryOp .Mult) (rRepX X.K) := fun pins s σ H x y v u Q I rx ry h => h.elim (op_rep1 pins s σ H x y v u Q I rx ry) (op_repT pins s σ H x y v u Q I rx ry)
def rSortX (K : PySem.W.Frag) (B : Int) : List V → Hp → VK → Prop := fun vs H Q => ∃ d, 1 ≤ d ∧ rSortU K d B vs H Q
theorem cr_sortX {B : Int} : CallR X (.builtin "sorted") (rSortX X.K B) := fun pins s σ H vs us Q I r ⟨_, hd, h⟩ => cr_sortT hd pins s σ H vs us Q I r h
end
end BR

set_option maxRecDepth 100000
set_option maxHeartbeats 4000000
namespace PySem
namespace XG
open PySem.W PySem.Calls PyProof.Rows PySem.HandSPX
/-! ### exceptions of the program's own classes, over any base, made with values and keywords -/
section
variable {M : Model} {A : Around} {E : Value → Shared → Prop} {h : Heap} {g : Array GenState} {d : Drawn} {t : Nat} {os : OsState}
variable {nm q : Str} {C N : Addr} {bs bm bmB : List Value} {hdct : Bool} {sn : List Str} {sub : List Value} {ab : Bool} {col : Option Bool} {dd : Option Addr} {k0 k1 k2 k3 k5 : Option Value} {B newId initId : String}
theorem check_new_kw (F : ExcBaseFacts B newId initId bmB) (hT : ∀ X : String, bm.contains (.type X) = bmB.contains (.type X)) {rest : List Value} {kw : List (Str × Value)} {Q : Unit → Shared → Prop}
    (hC : h.get? C = some (excClassObj nm q C N bs bm hdct sn sub ab col dd k0 k1 k2 k3 k5 newId)) (hq : Q () ⟨h, g, d, t, os⟩) : wpAny M A (checkBuiltinCall newId ⟨.ref C :: rest, kw⟩) Q E ⟨h, g, d, t, os⟩ := by
  have hcont : (Value.ref C :: bm).contains (.type B) = true := by rw [List.contains_cons, hT, F.hasB, Bool.or_true]
  have hstar := F.noStar
  simp only [checkBuiltinCall, F.newKind, F.newSplit, F.newRow]
  repeat (first | refine wpAny_loadPart_at hC ?_ | (refine wpAny_isSubtype_exc hC ?_; rw [hcont]) | refine wpAny_staticBase_exc hC ?_ | refine wpAny_madeBy_exc hC ?_ | simp only [bne_self_eq_false, Bool.false_eq_true, if_false] | wp_step)
  exact hq
end
section
variable {prog : Program} {w : World} {A : Around} {E : Value → Shared → Prop} {R : Result → Shared → Prop} {h : Heap} {g : Array GenState} {d : Drawn} {t : Nat} {os : OsState}
variable {nm q : Str} {C N : Addr} {bs bm bmB : List Value} {hdct : Bool} {sn : List Str} {sub : List Value} {ab : Bool} {col : Option Bool} {dd : Option Addr} {k0 k1 k2 k3 k5 : Option Value} {B newId initId : String}
theorem new_kw (F : ExcBaseFacts B newId initId bmB) (hT : ∀ X : String, bm.contains (.type X) = bmB.contains (.type X)) {rest : List Value} {kw : List (Str × Value)}
    (hC : h.get? C = some (excClassObj nm q C N bs bm hdct sn sub ab col dd k0 k1 k2 k3 k5 newId))
    (hq : R (.ok (.ret (.ref (h.objs.size + 1)))) ⟨(h.push { cls := .type "tuple", data := .seq rest.toArray }).push
      { cls := .ref C, data := .fields #[.ref h.objs.size, .none, .none, .none, .bool false, .none] }, g, d, t, os⟩) (hrest : rest.length ≤ sizeLine) :
    codeAny (model prog w) A (.builtin newId ⟨.ref C :: rest, kw⟩) R ⟨h, g, d, t, os⟩ := by
  have hends := F.ends
  have hcB : (Value.ref C :: bm).contains (.type B) = true := by rw [List.contains_cons, hT, F.hasB, Bool.or_true]
  have hcA : (Value.ref C :: bm).contains (.type "AttributeError") = false := by rw [List.contains_cons, hT, F.noAttr]; rfl
  have hcN : (Value.ref C :: bm).contains (.type "NameError") = false := by rw [List.contains_cons, hT, F.noName]; rfl
  refine codeAny_builtinAt F.entry ?_
  unfold Builtin.«BaseException.__new__»
  refine wpAt_bind ?_
  show wpAt _ _ _ (stack >>= _) _ _ _
  refine wpAt_bind (wpAt_stack fun p below => wpAt_of_wpAny ?_)
  wp_walk
  refine wpAt_of_wpAny ?_
  rw [F.owner]
  repeat (first | with_reducible refine wpAny_madeHere_exc F.canon hC ?_ | with_reducible refine wpAny_loadPart_at hC ?_ | (with_reducible refine wpAny_isSubtype_exc hC ?_; first | rw [hcB] | rw [hcA] | rw [hcN]) | wp_step)
  show R _ _
  rw [Heap.size_push]
  exact hq
theorem type_call_kw (F : ExcBaseFacts B newId initId bmB) (hT : ∀ X : String, bm.contains (.type X) = bmB.contains (.type X)) {rest : List Value} {kw : List (Str × Value)} {fI : Addr} {Q : Fin → Shared → Prop}
    (hC : h.get? C = some (excClassObj nm q C N bs bm hdct sn sub ab col dd k0 k1 k2 k3 k5 newId))
    (hi : W.Looks (model prog w) h (typeLookup (.ref C) "__init__") (some (.ref fI))) (hb : ∀ self, W.Looks (model prog w) h (bindSpecial (.ref fI) self) (.ref fI, [self])) (hrest : rest.length ≤ sizeLine)
    (hq : codeAny (model prog w) A (.call (.ref fI) ⟨.ref (h.objs.size + 1) :: rest, kw⟩)
      (fun r s' => match r with | .ok (.ret v) => v = .none ∧ Q (.done (.ret (.ref (h.objs.size + 1)))) s' | .ok _ => False | .error e => E e s')
      ⟨(h.push (W.kdv_tup rest)).push (excO C h.objs.size), g, d, t, os⟩) :
    wpAny (model prog w) A (Builtin.«type.__call__» ⟨.ref C :: rest, kw⟩) Q E ⟨h, g, d, t, os⟩ := by
  repeat (first | with_reducible refine wpAny_loadPart_at hC ?_ | with_reducible refine wpAny_madeBy_exc hC ?_ | wp_step)
  refine codeAny_call_builtin_code (Code.quiet_builtin _ F.quiet) (check_new_kw F hT hC ?_)
  refine new_kw F hT hC ?_ hrest
  show wpAny _ _ _ _ _ _
  have k : ∀ b o, h.get? b = some o → ((h.push (W.kdv_tup rest)).push (excO C h.objs.size)).get? b = some o := fun b o e => Heap.get?_push_of_some _ (Heap.get?_push_of_some _ e)
  have hC₁ := k _ _ hC
  have hget : ((h.push (W.kdv_tup rest)).push (excO C h.objs.size)).get? (h.objs.size + 1) = some (excO C h.objs.size) := by heap_get
  have hcC : (Value.ref C :: bm).contains (.ref C) = true := by simp
  have i1 := hi.keeps k
  have b1 := (hb (.ref (h.objs.size + 1))).keeps k
  unfold isInstance
  repeat (first | with_reducible refine wpAny_loadPart_at hget ?_ | (with_reducible refine wpAny_isSubtype_exc hC₁ ?_; rw [hcC]) | wp_step)
  show wpAny _ _ (typeLookup (.ref C) _) _ _ _
  refine i1.at ?_
  refine wpAny_holding (wpAny_bind (b1.at ?_))
  refine wpAny_bind (wpAny_call (codeAny_mono hq fun r s' z => ?_))
  rcases r with e | (v | _ | _ | _) <;> first | exact z | exact z.elim | skip
  obtain ⟨rfl, z⟩ := z
  first
    | exact wpAny_pure (wpAny_pure z)
    | (wp_walk; exact z)
theorem check_tc_kw {M : Model} {A : Around} {E : Value → Shared → Prop} {h : Heap} {g : Array GenState} {d : Drawn} {t : Nat} {os : OsState} {nm q : Str} {C N : Addr} {bs bm : List Value} {hdct : Bool} {sn : List Str} {sub : List Value} {ab : Bool} {col : Option Bool} {dd : Option Addr} {k0 k1 k2 k3 k5 : Option Value} {newId : String} {rest : List Value} {kw : List (Str × Value)} {Q : Unit → Shared → Prop} (hC : h.get? C = some (excClassObj nm q C N bs bm hdct sn sub ab col dd k0 k1 k2 k3 k5 newId))
    (hq : Q () ⟨h, g, d, t, os⟩) : wpAny M A (checkBuiltinCall "type.__call__" ⟨.ref C :: rest, kw⟩) Q E ⟨h, g, d, t, os⟩ := by
  have f3 := tc_sub
  have hT : (⟨h, g, d, t, os⟩ : Shared).TypeIs (.ref C) "type" := ⟨_, hC, rfl⟩
  simp only [checkBuiltinCall, tc_kind, tc_split]
  repeat (any_goals (first | assumption | with_reducible refine wpAny_loadPart_at hC ?_ | with_reducible refine wpAny_onRaise ?_ | with_reducible refine wpAny_map ?_ | wp_step))
theorem call_kw (F : ExcBaseFacts B newId initId bmB) (hT : ∀ X : String, bm.contains (.type X) = bmB.contains (.type X)) {rest : List Value} {kw : List (Str × Value)} {fI : Addr}
    (hC : h.get? C = some (excClassObj nm q C N bs bm hdct sn sub ab col dd k0 k1 k2 k3 k5 newId))
    (hi : W.Looks (model prog w) h (typeLookup (.ref C) "__init__") (some (.ref fI))) (hb : ∀ self, W.Looks (model prog w) h (bindSpecial (.ref fI) self) (.ref fI, [self])) (hrest : rest.length ≤ sizeLine)
    (hq : codeAny (model prog w) (A.under (.builtin "type.__call__" ⟨.ref C :: rest, kw⟩)) (.call (.ref fI) ⟨.ref (h.objs.size + 1) :: rest, kw⟩) (W.InitBack (h.objs.size + 1) R)
      ⟨(h.push (W.kdv_tup rest)).push (excO C h.objs.size), g, d, t, os⟩) :
    codeAny (model prog w) A (.call (.ref C) ⟨rest, kw⟩) R ⟨h, g, d, t, os⟩ := by
  have f1 := tc_lookup
  have f2 := tc_bind (.ref C)
  have hTy : (⟨h, g, d, t, os⟩ : Shared).TypeIs (.ref C) "type" := ⟨_, hC, rfl⟩
  refine codeAny_of_tree ?_
  show wpAny _ _ (callAny (.ref C) _) _ _ _
  repeat (any_goals (first | assumption | with_reducible refine wpAny_loadPart_at hC ?_ | wp_step))
  refine ⟨rfl, ?_⟩
  refine codeAny_call_builtin_at (Code.quiet_builtin _ (by decide +kernel)) entry_typeCall (check_tc_kw hC (type_call_kw F hT hC hi hb hrest ?_))
  refine codeAny_mono hq fun r s' z => ?_
  rcases r with e | (v | _ | _ | _) <;> exact z
end
section
open Builtin Builtin.ObjectAttr
variable {prog : Program} {w : World} {A : Around} {E : Value → Shared → Prop} {R : Result → Shared → Prop} {hp : Heap} {g : Array GenState} {d : Drawn} {t : Nat} {os : OsState}
/-- self.f = v on an exception: the walk to its own dict -/
theorem osa_g {K : W.Frag} {name : Str} {tk : Tok} {v : Value} {x C : Addr} {ox : Obj} {od : Option Obj} {cd : ClassData}
    (X : K.In hp) (I : W.InstAt hp x ox C od) (hcd : W.clsIn K C = some cd) (hne : cd.mro.isEmpty = false) (hob : cd.mro.contains (.type "object") = true) (hpass : ∀ self, refuseLoop self "__setattr__" cd.mro = pure ()) (ha : W.findIn K (.ref C) name = some none)
    (hq : wpAny (model prog w) A.in1 (storeInOwnDict (.ref x) (.ref C) (.str name tk) name v false)
      (fun fin s' => match fin with | .done f => R (.ok f) s' | .again c' => c'.quiet = true ∧ codeAny (model prog w) A c' R s') (fun e s' => R (.error e) s') ⟨hp, g, d, t, os⟩) :
    codeAny (model prog w) A (.call (.builtin "object.__setattr__") ⟨[.ref x, .str name tk, v], []⟩) R ⟨hp, g, d, t, os⟩ := by
  have SF := F.store_object
  have sub : W.Looks (model prog w) hp (isInstance (.ref x) (.type "object")) true := I.type.andThen (W.looks_mroIn X (by unfold W.mroIn; rw [hcd, Option.bind_some, if_neg (by rw [hne]; decide), hob]))
  refine codeAny_call_builtin SF.slot.plain SF.entry (@W.check_slot (model prog w) _ _ ⟨hp, g, d, t, os⟩ "object.__setattr__" "object" "__setattr__" (.ref x) [.str name tk, v] [] _ SF.kind SF.split sub (SF.args (.ref x) (.str name tk) v) ?_)
  have hmr : W.Looks (model prog w) hp (mroOf (.ref C)) cd.mro := (W.looks_clsIn X hcd).andThen .now
  have L3 : W.Looks (model prog w) hp (storeTaker? none) none := .now
  rw [W.osa_eq, refuse_eq]
  refine wpAny_bind (wpAny_bind (I.type.at (wpAny_bind (hmr.at ?_))))
  rw [hpass]
  refine wpAny_pure (wpAny_bind (I.type.at (wpAny_bind ((W.looks_findIn X ha).at (wpAny_bind (L3.at ?_))))))
  exact hq
theorem osa_gnew {K : W.Frag} {name : Str} {tk : Tok} {v : Value} {x C : Addr} {fv : Array Value} {cd : ClassData}
    (X : K.In hp) (hx : hp.get? x = some { cls := .ref C, data := .fields fv }) (hcd : W.clsIn K C = some cd) (hne : cd.mro.isEmpty = false) (hob : cd.mro.contains (.type "object") = true) (hpass : ∀ self, refuseLoop self "__setattr__" cd.mro = pure ()) (hh : cd.hasDict = true) (ha : W.findIn K (.ref C) name = some none)
    (hq : ∀ h' tk' dx, (∀ b o, b ≠ x → hp.get? b = some o → h'.get? b = some o) → hp.objs.size ≤ dx → dx ≠ x → h'.get? x = some { cls := .ref C, dict := some dx, data := .fields fv } →
      h'.Ns1 dx (fun y => if y = name then some v else none) → R (.ok (.ret .none)) ⟨h', g, d, tk', os⟩) :
    codeAny (model prog w) A (.call (.builtin "object.__setattr__") ⟨[.ref x, .str name tk, v], []⟩) R ⟨hp, g, d, t, os⟩ := by
  have I : W.InstAt hp x { cls := .ref C, data := .fields fv } C none := ⟨hx, rfl, rfl, trivial⟩
  have hxs : x ≠ hp.objs.size := Nat.ne_of_lt (Heap.lt_size hx)
  refine osa_g X I hcd hne hob hpass ha ?_
  have hcls : W.Looks (model prog w) hp (classData C) cd := W.looks_clsIn X hcd
  obtain ⟨nm, bs, mro, ns, qn, hd, sn, sb, ab, col, del⟩ := cd
  dsimp only at hh
  subst hh
  unfold storeInOwnDict ownDictForStores
  repeat (first | with_reducible refine HandSPX.store_in_new ?_ ?_ | with_reducible refine wpAny_loadPart_at hx ?_ | with_reducible refine hcls.at ?_ | wp_step)
  · exact ⟨_, #[], _, (Heap.get?_update_ne _ _ _ _ hxs.symm).trans (Heap.get?_push_at rfl rfl), rfl, fun e he => absurd he (by simp), fun _ => rfl⟩
  · intro h' tk' hn' hs
    have hx₁ : (hp.push { cls := .type "dict", data := .dict #[] }).get? x = some { cls := .ref C, data := .fields fv } := Heap.get?_push_of_some _ hx
    refine hq h' tk' hp.objs.size (fun b o hb ho => ?_) (Nat.le_refl _) hxs.symm ?_ hn'
    · exact (hs.2 b (Nat.ne_of_lt (Heap.lt_size ho))).trans ((Heap.get?_update_ne _ _ _ _ hb).trans (Heap.get?_push_of_some _ ho))
    · exact (hs.2 x hxs).trans (Heap.get?_update_self _ hx₁ rfl)
theorem osa_gold {K : W.Frag} {name : Str} {tk : Tok} {v : Value} {x C dx : Addr} {fv : Array Value} {cd : ClassData} {m0 : Str → Option Value} {nl : List Str}
    (X : K.In hp) (hx : hp.get? x = some { cls := .ref C, dict := some dx, data := .fields fv }) (hns : hp.Ns1 dx m0) (hw : Within m0 nl) (hz : nl.length ≤ 1000) (hcd : W.clsIn K C = some cd) (hne : cd.mro.isEmpty = false) (hob : cd.mro.contains (.type "object") = true) (hpass : ∀ self, refuseLoop self "__setattr__" cd.mro = pure ()) (hh : cd.hasDict = true)
    (ha : W.findIn K (.ref C) name = some none)
    (hq : ∀ h' tk', (∀ b o, b ≠ dx → hp.get? b = some o → h'.get? b = some o) → h'.Ns1 dx (fun y => if y = name then some v else m0 y) → R (.ok (.ret .none)) ⟨h', g, d, tk', os⟩) :
    codeAny (model prog w) A (.call (.builtin "object.__setattr__") ⟨[.ref x, .str name tk, v], []⟩) R ⟨hp, g, d, t, os⟩ := by
  obtain ⟨oD, esD, epD, hoD, hdD, _⟩ := hns.count hw
  have I : W.InstAt hp x { cls := .ref C, dict := some dx, data := .fields fv } C (some oD) := ⟨hx, rfl, rfl, hoD⟩
  refine osa_g X I hcd hne hob hpass ha ?_
  have hcls : W.Looks (model prog w) hp (classData C) cd := W.looks_clsIn X hcd
  obtain ⟨nm, bs, mro, ns, qn, hd, sn, sb, ab, col, del⟩ := cd
  dsimp only at hh
  subst hh
  unfold storeInOwnDict ownDictForStores
  repeat (first | with_reducible refine PySem.OEX.store_in_old hns hw hz ?_ | with_reducible refine wpAny_loadPart_at hx ?_ | with_reducible refine hcls.at ?_ | wp_step)
  intro h' tk' hn' hs
  exact hq h' tk' (fun b o hb ho => (hs.2 b hb).trans ho) hn'
end
end XG
end PySem
namespace L2
open PySem PySem.Spec PyProof.Rows
/-- what the written part says of an own exception class at C, whatever its base -/
structure XgC (K : PySem.W.Frag) (C : Addr) : Prop where
  cls : ∃ (nm q : Str) (N : Addr) (bs bm : List Value) (sn : List Str) (sub : List Value) (ab : Bool) (col : Option Bool) (dd : Option Addr) (k0 k1 k2 k3 k5 : Option Value) (B newId initId : String) (bmB : List Value),
    PySem.ExcBaseFacts B newId initId bmB ∧ (∀ X : String, bm.contains (.type X) = bmB.contains (.type X)) ∧ bm.contains (.type "object") = true ∧ (∀ self, refuseLoop self "__setattr__" (.ref C :: bm) = pure ()) ∧
    K.lookup C = some (excClassObj nm q C N bs bm true sn sub ab col dd k0 k1 k2 k3 k5 newId)
  sa : PySem.W.findIn K (.ref C) "__setattr__" = some (some (.builtin "object.__setattr__"))
  exC : PySem.W.subIn K (.ref C) (.type "BaseException") = some true
  tyC : PySem.W.typeIn K (.ref C) = some (.type "type")
  kC : PySem.W.keepIn K (.ref C) = true
  ga : PySem.W.findIn K (.ref C) "__getattribute__" = some (some (.builtin "BaseException.__getattribute__"))
  gg : PySem.W.findIn K (.ref C) "__getattr__" = some none
  hd : PySem.W.hasDictIn K C = true
  ha : PySem.W.findIn K (.ref C) "__class__" = some (some (.builtin "object.__class__"))
  hn : PySem.W.specialIn K (.builtin "object.__class__") "__get__" = some (some (.builtin "getset_descriptor.__get__"))
  ht : PySem.W.takesIn K (.builtin "object.__class__") = some true
  hm : PySem.W.mroIn K C (.type "object") = some true
section
variable {X : Cx} {pins : List (Addr × Obj)} {σ : St} {H : Hp} {s : Shared} {a C dx : Addr} {f : Str} {y : V} {u : Value} {fs : List (Str × V)} {Q : Unit → Shared → Prop} {E : Value → Shared → Prop} {A : Around}
theorem xst_new (T : XgC X.K C) (I : Inv X pins σ H s) (e : H a = some (exo a C none)) (hno : PySem.W.findIn X.K (.ref C) f = some none) (ry : RelV y u)
    (h : ∀ dx s', H dx = none → dx ≠ a → Inv X pins σ (upd (upd H dx (exd dx [(f, y)])) a (exo a C (some dx))) s' → Q () s') : wpAny (model X.prog X.w) A (setAttr (.ref a) f u) Q E s := by
  obtain ⟨nm, q, N, bs, bm, sn, sub, ab, col, dd, k0, k1, k2, k3, k5, B, newId, initId, bmB, FB, hT, hob, hpass, hC⟩ := T.cls
  have hcl : PySem.W.clsIn X.K C = some { name := nm, bases := bs, mro := .ref C :: bm, ns := N, qualname := q, hasDict := true, slotNames := sn, subclasses := sub, abstract := ab, collection := col, hasDel := false } := by unfold PySem.W.clsIn; rw [hC] <;> rfl
  obtain ⟨t1, ho⟩ := exo_at I.hok e
  obtain ⟨hp, g, d, t, os⟩ := s
  refine PySem.W.set_plain I.kIn (ox := { cls := .ref C, dict := none, data := .fields #[.ref t1, .none, .none, .none, .bool false, .none] }) (od := none) ⟨ho, rfl, rfl, trivial⟩ T.sa ?_
  refine PySem.XG.osa_gnew I.kIn ho hcl rfl (by show List.contains (Value.ref C :: bm) _ = true; rw [List.contains_cons, hob, Bool.or_true]) hpass rfl hno (fun h' tk' dx k dn dne hx hn => ?_)
  have hnd : H dx = none := I.hok.fresh dn
  have nd : ∀ {b : Addr} {o : Obj}, hp.get? b = some o → b ≠ dx := fun {b o} q => Nat.ne_of_lt (Nat.lt_of_lt_of_le (Heap.lt_size q) dn)
  have na : ∀ {b : Addr}, H b = none → b ≠ a := fun {b} n z => by
    rw [z, e] at n
    cases n
  have Un1 : Un X.fs [] H (upd (upd H dx (exd dx [(f, y)])) a (exo a C (some dx))) hp h' := {
    keep := fun b o q n _ _ => k b o (na n) q
    slot := fun b o q n _ _ => ⟨o.slots, k b o (na n) q⟩
    free := fun b o q n _ => by rw [upd_ne (na n), upd_ne (nd q)]; exact n
    there := fun b o q _ => by
      by_cases hb : b = a
      · exact ⟨_, by rw [hb]; exact hx⟩
      · exact ⟨o, k b o hb q⟩
    tups := fun b xs q => by rw [upd_ne (at_ne e q exo_tup), upd_ne (ne_of_none q hnd)]; exact q
    frzs := fun b o v q => by rw [upd_ne (at_ne e q exo_frz), upd_ne (ne_of_none q hnd)]; exact q
    tbls := fun b ps q => ⟨#[], by rw [upd_ne (at_ne e q exo_tbl), upd_ne (ne_of_none q hnd), q]; simp⟩ }
  refine h dx _ hnd dne (I.un (t' := tk') Un1 fun b o q => ?_)
  by_cases hb : b = a
  · subst hb
    rw [upd_same] at q
    cases q
    exact exo_ok hx
  · rw [upd_ne hb] at q
    by_cases hd : b = dx
    · subst hd
      rw [upd_same] at q
      cases q
      exact exd_ok hn (relO_put (fs := []) ry fun g => True.intro)
    · rw [upd_ne hd] at q
      exact (I.hok b o q).stay (fun c v hc z => k c v (by
          rcases hc with hc | hc
          · rw [hc]
            exact hb
          · exact at_ne e hc exo_own) z)
        (fun c hc => by rw [upd_ne (at_ne e hc exo_own), upd_ne (ne_of_none hc hnd)]; exact hc) (fun c xs hc => by rw [upd_ne (at_ne e hc exo_tup), upd_ne (ne_of_none hc hnd)]; exact hc)
theorem xst_old (T : XgC X.K C) (I : Inv X pins σ H s) (e : H a = some (exo a C (some dx))) (ed : H dx = some (exd dx fs)) (hl : fs.length ≤ 900) (hno : PySem.W.findIn X.K (.ref C) f = some none) (ry : RelV y u)
    (h : ∀ s', Inv X pins σ (upd H dx (exd dx ((f, y) :: fs))) s' → Q () s') : wpAny (model X.prog X.w) A (setAttr (.ref a) f u) Q E s := by
  obtain ⟨nm, q, N, bs, bm, sn, sub, ab, col, dd, k0, k1, k2, k3, k5, B, newId, initId, bmB, FB, hT, hob, hpass, hC⟩ := T.cls
  have hcl : PySem.W.clsIn X.K C = some { name := nm, bases := bs, mro := .ref C :: bm, ns := N, qualname := q, hasDict := true, slotNames := sn, subclasses := sub, abstract := ab, collection := col, hasDel := false } := by unfold PySem.W.clsIn; rw [hC] <;> rfl
  obtain ⟨t1, ho⟩ := exo_at I.hok e
  obtain ⟨mA, hns, rel⟩ := exd_at I.hok ed
  have hw := within_of rel
  obtain ⟨hp, g, d, t, os⟩ := s
  obtain ⟨oD, _, _, hoD, _, _⟩ := hns.count hw
  refine PySem.W.set_plain I.kIn (ox := { cls := .ref C, dict := some dx, data := .fields #[.ref t1, .none, .none, .none, .bool false, .none] }) (od := some oD) ⟨ho, rfl, rfl, hoD⟩ T.sa ?_
  refine PySem.XG.osa_gold I.kIn ho hns hw (by rw [List.length_map]; omega) hcl rfl (by show List.contains (Value.ref C :: bm) _ = true; rw [List.contains_cons, hob, Bool.or_true]) hpass rfl hno (fun h' tk' k hn => ?_)
  have hd : ∃ o, h'.get? dx = some o := by
    obtain ⟨o, _, _, e', _⟩ := hn
    exact ⟨o, e'⟩
  exact h _ (I.write (t' := tk') (x := dx) (e := dx) (o := exd dx ((f, y) :: fs)) (by rw [ed]; exact True.intro) (.inl rfl) k hd (exd_ok hn (relO_put ry rel)))
end
/-- self.f = e in such an __init__ -/
def tXst (K : PySem.W.Frag) (f : Str) (to te : TE) : TS := fun D σ H => te σ H fun y H1 => to σ H1 fun x H2 => ∃ a C : Addr, x = .ref a ∧ XgC K C ∧ PySem.W.findIn K (.ref C) f = some none ∧
  ((H2 a = some (exo a C none) ∧ ∀ dx, H2 dx = none → dx ≠ a → D.nx σ (upd (upd H2 dx (exd dx [(f, y)])) a (exo a C (some dx)))) ∨
    ∃ (dx : Addr) (fs : List (Str × V)), H2 a = some (exo a C (some dx)) ∧ H2 dx = some (exd dx fs) ∧ fs.length ≤ 900 ∧ D.nx σ (upd H2 dx (exd dx ((f, y) :: fs))))
/-- C(..): the made exception, tracked -/
def rMkX (C : Addr) (sp : Sp) (Q : VK) : List V → Hp → Prop := fun zs H1 => ∀ a, H1 a = none → sp (.ref a :: zs) (upd H1 a (exo a C none)) (fun v H2 => v = .non ∧ Q (.ref a) H2) (fun _ _ _ => False)
def tMkX (C : Addr) (sp : Sp) (ta : TA) : TE := fun σ H Q => ta σ H fun vs H1 => vs.length ≤ 1000 ∧ rMkX C sp Q vs H1
def tMkXK (C : Addr) (n : Nat) (sp : Sp) (gV : List V → List V) (tk : TA) : TE := fun σ H Q => tk σ H fun zs H1 => zs.length = n ∧ rMkX C sp Q (gV zs) H1
/-- e.f of a tracked exception -/
def tXat (K : PySem.W.Frag) (f : Str) (te : TE) : TE := fun σ H Q => te σ H fun x H1 => ∃ (a C dx : Addr) (fs : List (Str × V)) (v : V), x = .ref a ∧ XgC K C ∧ PySem.W.findIn K (.ref C) f = some none ∧ H1 a = some (exo a C (some dx)) ∧ H1 dx = some (exd dx fs) ∧ fs.lookup f = some v ∧ Q v H1
/-- isinstance(e, c), e such an exception -/
def rIsX (K : PySem.W.Frag) : List V → Hp → VK → Prop := fun xs H Q => ∃ (a C : Addr) (d : Option Addr) (c : V) (cv : Value) (b : Bool), xs = [.ref a, c] ∧ XgC K C ∧ H a = some (exo a C d) ∧ (∀ dx, d = some dx → ∃ fs, H dx = some (exd dx fs)) ∧ (∀ u, RelV c u → u = cv) ∧ PySem.W.kitOne K (.ref C) cv = some b ∧ Q (.bl b) H
section
variable {X : Cx} {o e : Expr} {es : List Expr} {to te : TE} {ta tk : TA} {f : Str} {p p' p1 p2 pos : Pos}
theorem ps_xst (ho : PE X o to) (he : PE X e te) (hs : swapsWith e (some (.Attribute o f p')) pos.line X.env = pure false := by rfl) : PS X (.Assign [.Attribute o f p'] e pos) (tXst X.K f to te) := by
  refine ⟨fun pins s σ H D I h => ?_⟩
  refine plainObj_wpAny_Assign_Attribute (thn (he.run pins s σ H _ I h) fun v s1 ⟨y, H1, I1, r1, q1⟩ => thn (ho.run pins s1 σ H1 _ I1 q1) fun u s2 ⟨x, H2, I2, r2, a, C, ex, T, hno, q⟩ => ?_) hs
  subst ex
  obtain rfl : u = Value.ref a := r2
  rcases q with ⟨ea, q⟩ | ⟨dx, fs, ea, ed, hl, q⟩
  · exact xst_new T I2 ea hno r1 fun dx s' n ne J => ⟨σ, _, J, q dx n ne⟩
  · exact xst_old T I2 ea ed hl hno r1 fun s' J => ⟨σ, _, J, q⟩
theorem exo_inst {pins : List (Addr × Obj)} {σ : St} {H : Hp} {s : Shared} {a C : Addr} {d : Option Addr} (I : Inv X pins σ H s) (e : H a = some (exo a C d)) (hd : ∀ dx, d = some dx → ∃ fs, H dx = some (exd dx fs)) :
    ∃ ox od, PySem.W.InstAt s.heap a ox C od := by
  obtain ⟨t1, ho⟩ := exo_at I.hok e
  cases d with
  | none => exact ⟨_, none, ho, rfl, rfl, trivial⟩
  | some dx =>
    obtain ⟨fs, ed⟩ := hd dx rfl
    obtain ⟨mA, hns, rel⟩ := exd_at I.hok ed
    obtain ⟨oD, _, _, hoD, _, _⟩ := hns.count (within_of rel)
    exact ⟨_, some oD, ho, rfl, rfl, hoD⟩
theorem pe_xat {n : Str} (he : PE X e te) (hb : attributeBase e n X.env (eval e X.env) = eval e X.env := by rfl) : PE X (.Attribute e n pos) (tXat X.K n te) := by
  refine ⟨fun pins s σ H Q I h => ?_⟩
  refine attr_of hb (thn (he.run pins s σ H _ I h) fun u s1 hh => ?_)
  obtain ⟨x, H1, I1, rx, a, C, dd, fs, v, ex, T, hno, ea, ed, l, q⟩ := hh
  subst ex
  obtain rfl : u = Value.ref a := rx
  obtain ⟨t1, ho⟩ := exo_at I1.hok ea
  obtain ⟨mA, hns, hr⟩ := exd_at I1.hok ed
  obtain ⟨od, hod, hl⟩ := lookIn_ns hns
  obtain ⟨u, hu, ru⟩ := RelO.some_of (v := v) (o := mA n) (by rw [← l]; exact hr n)
  have J : PySem.W.InstAt s1.heap a _ C (some od) := ⟨ho, rfl, rfl, hod⟩
  exact HandSPX.exc_get I1.kIn J T.ga T.gg T.exC (PySem.W.findObj_own T.hd hno rfl (by rw [hl, hu])) (handed_of ru) ⟨v, H1, I1.tok _, ru, q⟩
theorem call_isX : CallR X (.builtin "isinstance") (rIsX X.K) := by
  intro pins s σ H xs us Q I r h
  obtain ⟨a, C, d, c, cv, b, rfl, T, ea, hd, hcv, e, q⟩ := h
  obtain ⟨u1, u2, rfl, r1, r2⟩ := vals2 r
  cases (show u1 = Value.ref a from r1)
  have ec := hcv _ r2
  subst ec
  obtain ⟨ox, od, J⟩ := exo_inst I ea hd
  have hcl : (PySem.W.clsIn X.K C).isSome = true := by
    obtain ⟨cd, hc, _⟩ := PySem.W.any_some T.hd
    rw [hc]; rfl
  exact PySem.W.kia_one (PySem.W.kitx_exc hcl T.ga T.gg T.exC T.ha T.hn T.ht T.hm) I.kIn J e (fun z => nomatch z) fun tk => ⟨.bl b, H, I.tok tk, rfl, q⟩
/-- the run of C(..) -/
theorem run_mkX {pins : List (Addr × Obj)} {σ : St} {H1 : Hp} {s1 : Shared} {Q : VK} {C fI : Addr} {k : Nat} {fd : FuncData} {ps : List Str} {sp : Sp} (T : XgC X.K C) (iC : PySem.W.findIn X.K (.ref C) "__init__" = some (some (.ref fI))) (tI : PySem.W.typeIn X.K (.ref fI) = some (.type "function"))
    (F1 : FnOk X.prog X.w X.K X.mg X.base CX0 k fI fd ps sp) (hr : Room (k + 1) X.A) {us : List Value} {kw : List (Str × Value)} {gs : List Value} {zs : List V} (I1 : Inv X pins σ H1 s1) (hus : us.length ≤ sizeLine)
    (hb : ∀ (s : Shared) (a : Addr), X.K.In s.heap → BindsTo s fd ⟨.ref a :: us, kw⟩ (ps.zip (.ref a :: gs))) (hv : Vals zs gs) (q1 : rMkX C sp Q zs H1) :
    wpAny (model X.prog X.w) X.A (call (.ref C) us kw) (EP X pins σ Q) X.xe s1 := by
  obtain ⟨nm, q, N, bs, bm, sn, sub, ab, col, dd, k0, k1, k2, k3, k5, B, newId, initId, bmB, FB, hT, hob, hpass, hC⟩ := T.cls
  obtain ⟨hp, g, dr, tk, os⟩ := s1
  have hsz : hp.objs.size ≤ hp.objs.size + 1 := Nat.le_succ _
  have hn : H1 (hp.objs.size + 1) = none := I1.hok.fresh hsz
  have hq := q1 (hp.objs.size + 1) hn
  have kk : ∀ b o, hp.get? b = some o → ((hp.push (PySem.W.kdv_tup us)).push (PySem.HandSPX.excO C hp.objs.size)).get? b = some o := fun b o e => Heap.get?_push_of_some _ (Heap.get?_push_of_some _ e)
  have hget : ((hp.push (PySem.W.kdv_tup us)).push (PySem.HandSPX.excO C hp.objs.size)).get? (hp.objs.size + 1) = some (PySem.HandSPX.excO C hp.objs.size) := by heap_get
  have I2 : Inv X pins σ (upd H1 (hp.objs.size + 1) (exo (hp.objs.size + 1) C none)) ⟨(hp.push (PySem.W.kdv_tup us)).push (PySem.HandSPX.excO C hp.objs.size), g, dr, tk, os⟩ :=
    I1.laid (t' := tk) (a := hp.objs.size + 1) (o := exo (hp.objs.size + 1) C none) (h' := (hp.push (PySem.W.kdv_tup us)).push (PySem.HandSPX.excO C hp.objs.size)) kk hsz (exo_ok hget)
  refine wpAny_call (PySem.XG.call_kw FB hT (I1.kIn _ _ hC) (PySem.W.looks_findIn I1.kIn iC) (fun self => PySem.W.bind_fn I1.kIn self tI) hus
    (codeAny_mono (F1.run _ X.stack _ _ ⟨Value.ref (hp.objs.size + 1) :: us, kw⟩ (Value.ref (hp.objs.size + 1) :: gs) _ _ (fun _ _ _ => False) (hr.make C us kw) (I2.env0.make C us kw) (hb _ _ I2.kIn) (show Vals (V.ref (hp.objs.size + 1) :: zs) (Value.ref (hp.objs.size + 1) :: gs) from .cons rfl hv) hq) fun r s' hq' => ?_))
  cases r with
  | error er => exact hq'.elim
  | ok fl =>
    cases fl with
    | ret u =>
      obtain ⟨v, H', I3, rv, ev, q3⟩ := I2.after hq'
      subst ev
      exact ⟨rv, ⟨V.ref (hp.objs.size + 1), H', I3, rfl, q3⟩⟩
    | next => exact False.elim hq'
    | brk => exact False.elim hq'
    | cont => exact False.elim hq'
/-- C(e, ..) as a value -/
theorem pe_mkX {x : Str} {C fI : Addr} {k : Nat} {fd : FuncData} {ps : List Str} {sp : Sp} (T : XgC X.K C) (iC : PySem.W.findIn X.K (.ref C) "__init__" = some (some (.ref fI))) (tI : PySem.W.typeIn X.K (.ref fI) = some (.type "function"))
    (F1 : FnOk X.prog X.w X.K X.mg X.base CX0 k fI fd ps sp) (hr : Room (k + 1) X.A) (hb : Binds X.K fd ps []) (hg : Gl X x) (hm : X.mg x = some (.ref C)) (ha : PA X (e :: es) ta)
    (hdb : (x == ("__debug__" : Str)) = false := by decide) (he : starEach (e :: es) X.env = (false, eval e X.env) :: starEach es X.env := by rfl) (hpl : (backTo pos (starEach es X.env)).any (·.1) = false := by rfl) :
    PE X (.Call (.Name x p) (e :: es) [] pos) (tMkX C sp ta) := by
  refine ⟨fun pins s σ H Q I h => ?_⟩
  refine wpAny_Call_Name_kw (ld_glob I hg hm ?_ hdb)
  refine PySem.W.callWith_K (h₀ := X.base) I.ok.mod.kin T.kC (thn (ha.run pos pins s σ H _ I h) fun us s1 ⟨vs, H1, I1, r1, hz, q1⟩ => ⟨I1.kIn, ?_⟩) he hpl
  have hl : (Value.ref 0 :: us).length = ps.length := by
    obtain ⟨l0, n0⟩ : ∃ a, H1 a = none := ⟨s1.heap.objs.size, I1.hok.fresh (Nat.le_refl _)⟩
    have e := F1.len _ _ _ _ (q1 l0 n0)
    rw [← e, List.length_cons, List.length_cons, Paired.length r1]
  show wpAny _ _ (call (.ref C) us) _ _ _
  refine run_mkX T iC tI F1 hr (gs := us) (zs := vs) I1 (by rw [← Paired.length r1, sizeLine_eq]; omega) (fun s a k => ?_) r1 q1
  have q := hb s (Value.ref a :: us) k (by rw [List.append_nil]; exact hl)
  rw [List.append_nil] at q
  exact q
/-- C(k = v, ..) as a value -/
theorem pe_mkXK {x : Str} {C fI : Addr} {k n : Nat} {fd : FuncData} {ps ks : List Str} {sp : Sp} {kws : List Keyword} {g : List Value → List Value} {gV : List V → List V} (T : XgC X.K C) (iC : PySem.W.findIn X.K (.ref C) "__init__" = some (some (.ref fI))) (tI : PySem.W.typeIn X.K (.ref fI) = some (.type "function"))
    (F1 : FnOk X.prog X.w X.K X.mg X.base CX0 k fI fd ps sp) (hr : Room (k + 1) X.A) (hg : Gl X x) (hm : X.mg x = some (.ref C)) (hn : ks.length = n)
    (hb : ∀ (s : Shared) (a : Addr) (ws : List Value), X.K.In s.heap → ws.length = n → BindsTo s fd ⟨[.ref a], ks.zip ws⟩ (ps.zip (.ref a :: g ws))) (hrel : ∀ {zs : List V} {ws : List Value}, zs.length = n → Vals zs ws → Vals (gV zs) (g ws)) (hkw : PK X kws tk)
    (hall : (backToKw pos (keywordEach kws X.env)).all (·.1.isSome) = true := by rfl) (hks : (backToKw pos (keywordEach kws X.env)).filterMap (·.1) = ks := by rfl) (hdb : (x == ("__debug__" : Str)) = false := by decide)
    (hpl : ((backTo pos (starEach [] X.env)).any (·.1) || (backToKw pos (keywordEach kws X.env)).any (·.1.isNone)) = false := by rfl) :
    PE X (.Call (.Name x p) [] kws pos) (tMkXK C n sp gV tk) := by
  refine ⟨fun pins s σ H Q I h => ?_⟩
  refine wpAny_Call_Name_kw (ld_glob I hg hm ?_ hdb)
  refine PySem.W.callWith_KW0 (h₀ := X.base) I.ok.mod.kin T.kC hall ?_ hpl
  refine thn (hkw.run pos pins s σ H _ I h) fun ws s2 ⟨zs, H2, I2, rz, l2, q2⟩ => ⟨I2.kIn, ?_⟩
  rw [hks]
  exact run_mkX T iC tI F1 hr (us := []) (gs := g ws) (zs := gV zs) I2 (Nat.zero_le _) (fun s a k => hb s a ws k (rz.length.symm.trans l2)) (hrel l2 rz) q2
/-- f(k = v, ..), no value by position -/
theorem pe_callN0 {CX : CXT} {x : Str} {f : Addr} {k : Nat} {fd : FuncData} {ps ks : List Str} {sp : Sp} {E : XK} {kws : List Keyword} {g : List Value → List Value → List Value} {gV : List V → List V → List V} (F : FnOk X.prog X.w X.K X.mg X.base CX k f fd ps sp) (hr : Room k X.A) (hg : Gl X x) (hm : X.mg x = some (.ref f)) (hk : PySem.W.keepIn X.K (.ref f) = true) (hb : KBn X.K fd ps 0 ks g gV) (hx : Passes CX X E)
    (hkw : PK X kws tk) (hall : (backToKw pos (keywordEach kws X.env)).all (·.1.isSome) = true := by rfl) (hks : (backToKw pos (keywordEach kws X.env)).filterMap (·.1) = ks := by rfl)
    (hdb : (x == ("__debug__" : Str)) = false := by decide)
    (hpl : ((backTo pos (starEach [] X.env)).any (·.1) || (backToKw pos (keywordEach kws X.env)).any (·.1.isNone)) = false := by rfl) :
    PE X (.Call (.Name x p) [] kws pos) (tCallN 0 ks.length sp gV E tNil tk) := by
  refine ⟨fun pins s σ H Q I h => ?_⟩
  refine wpAny_Call_Name_kw (ld_glob I hg hm ?_ hdb)
  refine PySem.W.callWith_KW0 (h₀ := X.base) I.ok.mod.kin hk hall ?_ hpl
  refine thn (hkw.run pos pins s σ H _ I h) fun ws s2 ⟨zs, H2, I2, rz, l1, l2, q2⟩ => ⟨I2.kIn, ?_⟩
  rw [hks]
  exact run_fnN (us := []) (vs := []) F hr hb hx I2 .nil rz l1 l2 q2
/-- raise of such an exception: C(e, ..) -/
theorem pmk_x {x : Str} {C fI : Addr} {k : Nat} {fd : FuncData} {ps : List Str} {sp : Sp} (T : XgC X.K C) (iC : PySem.W.findIn X.K (.ref C) "__init__" = some (some (.ref fI))) (tI : PySem.W.typeIn X.K (.ref fI) = some (.type "function"))
    (F1 : FnOk X.prog X.w X.K X.mg X.base CX0 k fI fd ps sp) (hr : Room (k + 1) X.A) (hb : Binds X.K fd ps []) (hg : Gl X x) (hm : X.mg x = some (.ref C)) (ha : PA X (e :: es) ta)
    (hdb : (x == ("__debug__" : Str)) = false := by decide) (he : starEach (e :: es) X.env = (false, eval e X.env) :: starEach es X.env := by rfl) (hpl : (backTo pos (starEach es X.env)).any (·.1) = false := by rfl) :
    PMk X (.Call (.Name x p) (e :: es) [] pos) (tMkO C sp [] ta) := by
  intro pins s σ H Q I h
  obtain ⟨nm, q, N, bs, bm, sn, sub, ab, col, dd, k0, k1, k2, k3, k5, B, newId, initId, bmB, FB, hT, hob, hpass, hC⟩ := T.cls
  refine wpAny_Call_Name_kw (ld_glob I hg hm ?_ hdb)
  refine PySem.W.callWith_K (h₀ := X.base) I.ok.mod.kin T.kC (thn (ha.run pos pins s σ H _ I h) fun us s1 ⟨vs, H1, I1, r1, hz, q1⟩ => ⟨I1.kIn, ?_⟩) he hpl
  show wpAny _ _ (call (.ref C) us) _ _ _
  obtain ⟨hp, g, dr, tk, os⟩ := s1
  have hsz : hp.objs.size ≤ hp.objs.size + 1 := Nat.le_succ _
  have hn : H1 (hp.objs.size + 1) = none := I1.hok.fresh hsz
  have hq := q1 (hp.objs.size + 1) hn
  rw [List.append_nil] at hq
  have kk : ∀ b o, hp.get? b = some o → ((hp.push (PySem.W.kdv_tup us)).push (PySem.HandSPX.excO C hp.objs.size)).get? b = some o := fun b o e => Heap.get?_push_of_some _ (Heap.get?_push_of_some _ e)
  have hget : ((hp.push (PySem.W.kdv_tup us)).push (PySem.HandSPX.excO C hp.objs.size)).get? (hp.objs.size + 1) = some (PySem.HandSPX.excO C hp.objs.size) := by heap_get
  have I2 : Inv X pins σ (upd H1 (hp.objs.size + 1) (exo (hp.objs.size + 1) C none)) ⟨(hp.push (PySem.W.kdv_tup us)).push (PySem.HandSPX.excO C hp.objs.size), g, dr, tk, os⟩ :=
    I1.laid (t' := tk) (a := hp.objs.size + 1) (o := exo (hp.objs.size + 1) C none) (h' := (hp.push (PySem.W.kdv_tup us)).push (PySem.HandSPX.excO C hp.objs.size)) kk hsz (exo_ok hget)
  have r2 : Vals (V.ref (hp.objs.size + 1) :: vs) (Value.ref (hp.objs.size + 1) :: us) := .cons rfl r1
  have hl : (Value.ref (hp.objs.size + 1) :: us).length = ps.length := by
    have e := r2.length
    rw [F1.len _ _ _ _ hq] at e
    exact e.symm
  have hus : us.length ≤ sizeLine := by
    rw [← Paired.length r1, sizeLine_eq]
    omega
  have hbb := hb ⟨(hp.push (PySem.W.kdv_tup us)).push (PySem.HandSPX.excO C hp.objs.size), g, dr, tk, os⟩ (Value.ref (hp.objs.size + 1) :: us) I2.kIn (by rw [List.append_nil]; exact hl)
  rw [List.append_nil] at hbb
  refine wpAny_call (PySem.XG.call_kw FB hT (I1.kIn _ _ hC) (PySem.W.looks_findIn I1.kIn iC) (fun self => PySem.W.bind_fn I1.kIn self tI) hus
    (codeAny_mono (F1.run _ X.stack _ _ ⟨Value.ref (hp.objs.size + 1) :: us, []⟩ (Value.ref (hp.objs.size + 1) :: us) _ _ (fun _ _ _ => False) (hr.make C us []) (I2.env0.make C us []) hbb r2 hq) fun r s' hq' => ?_))
  cases r with
  | error er => exact hq'.elim
  | ok fl =>
    cases fl with
    | ret u =>
      obtain ⟨v, H2, os2, bare2, un2, hok2, rv, ev, d, fs, ea, ed, hd1, q2⟩ := hq'
      subst ev
      obtain ⟨h2, g2, d2, t2, os'⟩ := s'
      exact ⟨rv, mk_end (raises_own T.exC T.tyC) I1 hsz kk un2 hok2 os2 bare2 ea ed hd1 q2⟩
    | next => exact False.elim hq'
    | brk => exact False.elim hq'
    | cont => exact False.elim hq'
end
end L2

set_option maxRecDepth 100000
set_option maxHeartbeats 4000000
namespace K0
open PySem L2
/-- the first two exchanged -/
def sw2 {α : Type} : List α → List α
  | a :: b :: r => b :: a :: r
  | l => l
def top (i : Nat) : Stmt := PySem.Challenge.pw_shownrun_k07_whole_product_lots.main.body.getD i (.Pass ⟨0, 0, 0, 0⟩)

abbrev s_check_counted : Stmt := top 6
abbrev s_iTooMany : Stmt := inClass (top 3) 0
abbrev s_m_init : Stmt := inClass (top 8) 0
abbrev s_m_times : Stmt := inClass (top 8) 1
abbrev s_m_listed : Stmt := inClass (top 8) 2
abbrev s_m_product : Stmt := inClass (top 8) 4
abbrev s_m_add : Stmt := inClass (top 8) 5
abbrev s_m_contains : Stmt := inClass (top 8) 6
abbrev s_m_len : Stmt := inClass (top 8) 7
abbrev s_m_eq : Stmt := inClass (top 8) 8
abbrev s_m_repr : Stmt := inClass (top 8) 9
abbrev s_in_product_lot : Stmt := top 9
abbrev s_product_lot : Stmt := top 10
abbrev s_box : Stmt := top 12
abbrev s_draw : Stmt := top 13
abbrev s_of : Stmt := top 14
abbrev s_same : Stmt := top 15
abbrev s_raised : Stmt := top 16
abbrev s_law_inverse : Stmt := top 17
abbrev s_bag : Stmt := top 18
abbrev s_shuffled : Stmt := top 19
abbrev s_over : Stmt := top 20
abbrev s_two : Stmt := top 21
abbrev s_meets : Stmt := top 22
abbrev s_lot : Stmt := top 23
abbrev s_members : Stmt := top 24
abbrev s_law : Stmt := top 25
theorem sc_iTooMany : FnScope ["self", "what", "most"] ["self", "what", "most"] (defScope s_iTooMany) := ⟨rfl, rfl, rfl, by decide +kernel, rfl, by decide +kernel, by decide +kernel⟩
theorem sc_check_counted : FnScope ["p"] ["p"] (defScope s_check_counted) := ⟨rfl, rfl, rfl, by decide +kernel, rfl, by decide +kernel, by decide +kernel⟩
theorem sc_m_init : FnScope ["self", "items", "item"] ["self", "items"] (defScope s_m_init) := ⟨rfl, rfl, rfl, by decide +kernel, rfl, by decide +kernel, by decide +kernel⟩
theorem sc_m_times : FnScope ["self", "item"] ["self", "item"] (defScope s_m_times) := ⟨rfl, rfl, rfl, by decide +kernel, rfl, by decide +kernel, by decide +kernel⟩
theorem sc_m_listed : FnScope ["self"] ["self"] (defScope s_m_listed) := ⟨rfl, rfl, rfl, by decide +kernel, rfl, by decide +kernel, by decide +kernel⟩
theorem sc_m_product : FnScope ["self", "worth", "p", "total", "item"] ["self", "worth", "p"] (defScope s_m_product) := ⟨rfl, rfl, rfl, by decide +kernel, rfl, by decide +kernel, by decide +kernel⟩
theorem sc_m_add : FnScope ["self", "other", "both"] ["self", "other"] (defScope s_m_add) := ⟨rfl, rfl, rfl, by decide +kernel, rfl, by decide +kernel, by decide +kernel⟩
theorem sc_m_contains : FnScope ["self", "item"] ["self", "item"] (defScope s_m_contains) := ⟨rfl, rfl, rfl, by decide +kernel, rfl, by decide +kernel, by decide +kernel⟩
theorem sc_m_len : FnScope ["self"] ["self"] (defScope s_m_len) := ⟨rfl, rfl, rfl, by decide +kernel, rfl, by decide +kernel, by decide +kernel⟩
theorem sc_m_eq : FnScope ["self", "other"] ["self", "other"] (defScope s_m_eq) := ⟨rfl, rfl, rfl, by decide +kernel, rfl, by decide +kernel, by decide +kernel⟩
theorem sc_m_repr : FnScope ["self"] ["self"] (defScope s_m_repr) := ⟨rfl, rfl, rfl, by decide +kernel, rfl, by decide +kernel, by decide +kernel⟩
theorem sc_in_product_lot : FnScope ["one", "other", "worth", "p"] ["one", "other", "worth", "p"] (defScope s_in_product_lot) := ⟨rfl, rfl, rfl, by decide +kernel, rfl, by decide +kernel, by decide +kernel⟩
theorem sc_product_lot : FnScope ["one", "other", "p", "worth"] ["one", "other", "p"] (defScope s_product_lot) := ⟨rfl, rfl, rfl, by decide +kernel, rfl, by decide +kernel, by decide +kernel⟩
theorem sc_box : FnScope ["script", "mixed", "cell"] ["script"] (defScope s_box) := ⟨rfl, rfl, rfl, by decide +kernel, rfl, by decide +kernel, by decide +kernel⟩
theorem sc_draw : FnScope ["box", "sides", "cell", "digit", "seed"] ["box", "sides"] (defScope s_draw) := ⟨rfl, rfl, rfl, by decide +kernel, rfl, by decide +kernel, by decide +kernel⟩
theorem sc_of : FnScope ["box", "things"] ["box", "things"] (defScope s_of) := ⟨rfl, rfl, rfl, by decide +kernel, rfl, by decide +kernel, by decide +kernel⟩
theorem sc_same : FnScope ["found", "due", "a", "b"] ["found", "due"] (defScope s_same) := ⟨rfl, rfl, rfl, by decide +kernel, rfl, by decide +kernel, by decide +kernel⟩
theorem sc_raised : FnScope ["base", "times", "prime", "result", "square", "k"] ["base", "times", "prime"] (defScope s_raised) := ⟨rfl, rfl, rfl, by decide +kernel, rfl, by decide +kernel, by decide +kernel⟩
theorem sc_law_inverse : FnScope ["digit", "prime"] ["digit", "prime"] (defScope s_law_inverse) := ⟨rfl, rfl, rfl, by decide +kernel, rfl, by decide +kernel, by decide +kernel⟩
theorem sc_bag : FnScope ["box", "items", "way", "made", "k"] ["box", "items"] (defScope s_bag) := ⟨rfl, rfl, rfl, by decide +kernel, rfl, by decide +kernel, by decide +kernel⟩
theorem sc_shuffled : FnScope ["box", "items", "found", "k", "held"] ["box", "items"] (defScope s_shuffled) := ⟨rfl, rfl, rfl, by decide +kernel, rfl, by decide +kernel, by decide +kernel⟩
theorem sc_over : FnScope ["items", "spot", "prime", "found", "item"] ["items", "spot", "prime"] (defScope s_over) := ⟨rfl, rfl, rfl, by decide +kernel, rfl, by decide +kernel, by decide +kernel⟩
theorem sc_two : FnScope ["box", "prime", "spot", "many", "first", "second", "wide", "k", "held", "due"] ["box", "prime", "spot"] (defScope s_two) := ⟨rfl, rfl, rfl, by decide +kernel, rfl, by decide +kernel, by decide +kernel⟩
theorem sc_meets : FnScope ["first", "second", "spot", "prime"] ["first", "second", "spot", "prime"] (defScope s_meets) := ⟨rfl, rfl, rfl, by decide +kernel, rfl, by decide +kernel, by decide +kernel⟩
theorem sc_lot : FnScope ["left", "right", "prime", "caught"] ["left", "right", "prime"] (defScope s_lot) := ⟨rfl, rfl, rfl, by decide +kernel, rfl, by decide +kernel, by decide +kernel⟩
theorem sc_members : FnScope ["box", "left", "right", "first", "second", "prime", "spots", "spot", "due", "far"] ["box", "left", "right", "first", "second", "prime", "spots"] (defScope s_members) := ⟨rfl, rfl, rfl, by decide +kernel, rfl, by decide +kernel, by decide +kernel⟩
theorem sc_law : FnScope ["script", "box", "way", "prime", "spot", "first", "second", "left", "right", "item", "spots", "z", "due", "twin"] ["script"] (defScope s_law) := ⟨rfl, rfl, rfl, by decide +kernel, rfl, by decide +kernel, by decide +kernel⟩
/-- what the top has written -/
structure Txt (K : PySem.W.Frag) (mg : Str → Option Value) where
  f_check_counted : Addr
  fd_check_counted : FuncData
  F_check_counted : Fun K "check_counted" "check_counted" s_check_counted f_check_counted fd_check_counted
  g_check_counted : mg "check_counted" = some (.ref f_check_counted)
  b_check_counted : Binds K fd_check_counted ["p"] []
  f_m_init : Addr
  fd_m_init : FuncData
  F_m_init : Fun K "__init__" "Bag.__init__" s_m_init f_m_init fd_m_init
  f_m_times : Addr
  fd_m_times : FuncData
  F_m_times : Fun K "times" "Bag.times" s_m_times f_m_times fd_m_times
  b_m_times : Binds K fd_m_times ["self", "item"] []
  f_m_listed : Addr
  fd_m_listed : FuncData
  F_m_listed : Fun K "listed" "Bag.listed" s_m_listed f_m_listed fd_m_listed
  b_m_listed : Binds K fd_m_listed ["self"] []
  f_m_product : Addr
  fd_m_product : FuncData
  F_m_product : Fun K "product" "Bag.product" s_m_product f_m_product fd_m_product
  f_m_add : Addr
  fd_m_add : FuncData
  F_m_add : Fun K "__add__" "Bag.__add__" s_m_add f_m_add fd_m_add
  b_m_add : Binds K fd_m_add ["self", "other"] []
  f_m_contains : Addr
  fd_m_contains : FuncData
  F_m_contains : Fun K "__contains__" "Bag.__contains__" s_m_contains f_m_contains fd_m_contains
  b_m_contains : Binds K fd_m_contains ["self", "item"] []
  f_m_len : Addr
  fd_m_len : FuncData
  F_m_len : Fun K "__len__" "Bag.__len__" s_m_len f_m_len fd_m_len
  b_m_len : Binds K fd_m_len ["self"] []
  f_m_eq : Addr
  fd_m_eq : FuncData
  F_m_eq : Fun K "__eq__" "Bag.__eq__" s_m_eq f_m_eq fd_m_eq
  b_m_eq : Binds K fd_m_eq ["self", "other"] []
  f_m_repr : Addr
  fd_m_repr : FuncData
  F_m_repr : Fun K "__repr__" "Bag.__repr__" s_m_repr f_m_repr fd_m_repr
  b_m_repr : Binds K fd_m_repr ["self"] []
  f_in_product_lot : Addr
  fd_in_product_lot : FuncData
  F_in_product_lot : Fun K "in_product_lot" "in_product_lot" s_in_product_lot f_in_product_lot fd_in_product_lot
  g_in_product_lot : mg "in_product_lot" = some (.ref f_in_product_lot)
  f_product_lot : Addr
  fd_product_lot : FuncData
  F_product_lot : Fun K "product_lot" "product_lot" s_product_lot f_product_lot fd_product_lot
  g_product_lot : mg "product_lot" = some (.ref f_product_lot)
  f_box : Addr
  fd_box : FuncData
  F_box : Fun K "_law_box" "_law_box" s_box f_box fd_box
  g_box : mg "_law_box" = some (.ref f_box)
  b_box : Binds K fd_box ["script"] []
  f_draw : Addr
  fd_draw : FuncData
  F_draw : Fun K "_law_draw" "_law_draw" s_draw f_draw fd_draw
  g_draw : mg "_law_draw" = some (.ref f_draw)
  b_draw : Binds K fd_draw ["box", "sides"] []
  f_of : Addr
  fd_of : FuncData
  F_of : Fun K "_law_of" "_law_of" s_of f_of fd_of
  g_of : mg "_law_of" = some (.ref f_of)
  b_of : Binds K fd_of ["box", "things"] []
  f_same : Addr
  fd_same : FuncData
  F_same : Fun K "_law_same" "_law_same" s_same f_same fd_same
  g_same : mg "_law_same" = some (.ref f_same)
  b_same : Binds K fd_same ["found", "due"] []
  f_raised : Addr
  fd_raised : FuncData
  F_raised : Fun K "_law_raised" "_law_raised" s_raised f_raised fd_raised
  g_raised : mg "_law_raised" = some (.ref f_raised)
  b_raised : Binds K fd_raised ["base", "times", "prime"] []
  f_law_inverse : Addr
  fd_law_inverse : FuncData
  F_law_inverse : Fun K "_law_inverse" "_law_inverse" s_law_inverse f_law_inverse fd_law_inverse
  g_law_inverse : mg "_law_inverse" = some (.ref f_law_inverse)
  b_law_inverse : Binds K fd_law_inverse ["digit", "prime"] []
  f_bag : Addr
  fd_bag : FuncData
  F_bag : Fun K "_law_bag" "_law_bag" s_bag f_bag fd_bag
  g_bag : mg "_law_bag" = some (.ref f_bag)
  b_bag : Binds K fd_bag ["box", "items"] []
  f_shuffled : Addr
  fd_shuffled : FuncData
  F_shuffled : Fun K "_law_shuffled" "_law_shuffled" s_shuffled f_shuffled fd_shuffled
  g_shuffled : mg "_law_shuffled" = some (.ref f_shuffled)
  b_shuffled : Binds K fd_shuffled ["box", "items"] []
  f_over : Addr
  fd_over : FuncData
  F_over : Fun K "_law_over" "_law_over" s_over f_over fd_over
  g_over : mg "_law_over" = some (.ref f_over)
  b_over : Binds K fd_over ["items", "spot", "prime"] []
  f_two : Addr
  fd_two : FuncData
  F_two : Fun K "_law_two" "_law_two" s_two f_two fd_two
  g_two : mg "_law_two" = some (.ref f_two)
  b_two : Binds K fd_two ["box", "prime", "spot"] []
  f_meets : Addr
  fd_meets : FuncData
  F_meets : Fun K "_law_meets" "_law_meets" s_meets f_meets fd_meets
  g_meets : mg "_law_meets" = some (.ref f_meets)
  b_meets : Binds K fd_meets ["first", "second", "spot", "prime"] []
  f_lot : Addr
  fd_lot : FuncData
  F_lot : Fun K "_law_lot" "_law_lot" s_lot f_lot fd_lot
  g_lot : mg "_law_lot" = some (.ref f_lot)
  b_lot : Binds K fd_lot ["left", "right", "prime"] []
  f_members : Addr
  fd_members : FuncData
  F_members : Fun K "_law_members" "_law_members" s_members f_members fd_members
  g_members : mg "_law_members" = some (.ref f_members)
  b_members : Binds K fd_members ["box", "left", "right", "first", "second", "prime", "spots"] []
  f_law : Addr
  fd_law : FuncData
  F_law : Fun K "law" "law" s_law f_law fd_law
  g_law : mg "law" = some (.ref f_law)
  b_law : Binds K fd_law ["script"] []
  kb_m_product1 : KBn K fd_m_product ["self", "worth", "p"] 2 ["p"] (fun us ws => us ++ ws) (fun vs zs => vs ++ zs)
  kb_m_product0 : KBn K fd_m_product ["self", "worth", "p"] 1 ["p", "worth"] (fun us ws => us ++ ws.reverse) (fun vs zs => vs ++ zs.reverse)
  kb_in_product_lot3 : KBn K fd_in_product_lot ["one", "other", "worth", "p"] 3 ["p"] (fun us ws => us ++ ws) (fun vs zs => vs ++ zs)
  kb_in_product_lot0 : KBn K fd_in_product_lot ["one", "other", "worth", "p"] 0 ["p", "worth", "other", "one"] (fun us ws => us ++ ws.reverse) (fun vs zs => vs ++ zs.reverse)
  kb_product_lot2 : KBn K fd_product_lot ["one", "other", "p"] 2 ["p"] (fun us ws => us ++ ws) (fun vs zs => vs ++ zs)
  kb_product_lot0 : KBn K fd_product_lot ["one", "other", "p"] 0 ["other", "one", "p"] (fun us ws => us ++ sw2 ws) (fun vs zs => vs ++ sw2 zs)
  C_Bag : Addr
  gC_Bag : mg "Bag" = some (.ref C_Bag)
  cl : Cls K C_Bag
  mk_ : Mk K C_Bag f_m_init
  n__members : NoAttr K C_Bag "_members"
  sf : PySem.W.selfFirst K C_Bag = true
  mo : PySem.W.mroIn K C_Bag (.type "object") = some true
  ne_ : PySem.W.findIn K (.ref C_Bag) "__ne__" = some (some (.builtin "object.__ne__"))
  ca : PySem.W.findIn K (.ref C_Bag) "__class__" = some (some (.builtin "object.__class__"))
  cn : PySem.W.specialIn K (.builtin "object.__class__") "__get__" = some (some (.builtin "getset_descriptor.__get__"))
  ct : PySem.W.takesIn K (.builtin "object.__class__") = some true
  kk : PySem.W.kitOne K (.ref C_Bag) (.ref C_Bag) = some true
  me_m_times : Meth K C_Bag "times" f_m_times
  me_m_listed : Meth K C_Bag "listed" f_m_listed
  me_m_product : Meth K C_Bag "product" f_m_product
  f_add : PySem.W.findIn K (.ref C_Bag) "__add__" = some (some (.ref f_m_add))
  n_add : PySem.W.isFn K (.ref f_m_add) = true
  f_eq : PySem.W.findIn K (.ref C_Bag) "__eq__" = some (some (.ref f_m_eq))
  n_eq : PySem.W.isFn K (.ref f_m_eq) = true
  f_repr : PySem.W.findIn K (.ref C_Bag) "__repr__" = some (some (.ref f_m_repr))
  n_repr : PySem.W.isFn K (.ref f_m_repr) = true
  f_len : PySem.W.findIn K (.ref C_Bag) "__len__" = some (some (.ref f_m_len))
  n_len : PySem.W.isFn K (.ref f_m_len) = true
  f_contains : PySem.W.findIn K (.ref C_Bag) "__contains__" = some (some (.ref f_m_contains))
  n_contains : PySem.W.isFn K (.ref f_m_contains) = true
  nf_list : PySem.W.notFirst K C_Bag (.type "list") = true
  k_list : PySem.W.kitOne K (.type "list") (.ref C_Bag) = some false
  nf_NoneType : PySem.W.notFirst K C_Bag (.type "NoneType") = true
  k_NoneType : PySem.W.kitOne K (.type "NoneType") (.ref C_Bag) = some false
  nf_Bag : PySem.W.notFirst K C_Bag (.ref C_Bag) = true
  z_abs : mg "abs" = none
  z_all : mg "all" = none
  z_bool : mg "bool" = none
  z_int : mg "int" = none
  z_isinstance : mg "isinstance" = none
  z_len : mg "len" = none
  z_list : mg "list" = none
  z_min : mg "min" = none
  z_range : mg "range" = none
  z_repr : mg "repr" = none
  z_sorted : mg "sorted" = none
  z_str : mg "str" = none
  z_tuple : mg "tuple" = none
  z_zip : mg "zip" = none
  C_TooMany : Addr
  gC_TooMany : mg "TooMany" = some (.ref C_TooMany)
  x_TooMany : XgC K C_TooMany
  fI_TooMany : Addr
  fdI_TooMany : FuncData
  FI_TooMany : Fun K "__init__" "TooMany.__init__" s_iTooMany fI_TooMany fdI_TooMany
  bI_TooMany : Binds K fdI_TooMany ["self", "what", "most"] []
  iC_TooMany : PySem.W.findIn K (.ref C_TooMany) "__init__" = some (some (.ref fI_TooMany))
  tI_TooMany : PySem.W.typeIn K (.ref fI_TooMany) = some (.type "function")
  no_TooMany_what : PySem.W.findIn K (.ref C_TooMany) "what" = some none
  no_TooMany_most : PySem.W.findIn K (.ref C_TooMany) "most" = some none
  s_TooMany : PySem.W.subIn K (.ref C_TooMany) (.ref C_TooMany) = some true
  mpu : Tok
  gMP : mg "_MOST_PRIME" = some (.int 800 mpu)
end K0

set_option maxRecDepth 100000
set_option maxHeartbeats 4000000
namespace K0
open PySem L2 BR

/-! ### the box of draws -/
/-- at b: the law's box -/
def BoxAt (H : Hp) (b : Addr) : Prop := ∃ (l : Addr) (ns : List Int) (pos rest seed cnt : Int), H b = some (.lst [.ref l, .int pos, .int rest, .int seed, .int cnt]) ∧ H l = some (.lst (ns.map V.int)) ∧ ns.length ≤ 63 ∧ 0 ≤ pos ∧ 0 ≤ rest ∧ 0 ≤ seed ∧ seed < 2147483563
/-- all that is tracked but b stands -/
def Keep (b : Addr) (H H' : Hp) : Prop := (∀ x o, x ≠ b → H x = some o → H' x = some o) ∧ ∀ (l : Addr) (r : List V), H b = some (.lst (.ref l :: r)) → ∃ r' : List V, H' b = some (.lst (.ref l :: r'))
theorem Keep.refl {b : Addr} {H : Hp} : Keep b H H := ⟨fun _ _ _ h => h, fun _ r h => ⟨r, h⟩⟩
theorem Keep.trans {b : Addr} {H H1 H2 : Hp} (a : Keep b H H1) (c : Keep b H1 H2) : Keep b H H2 := ⟨fun x o n h => c.1 x o n (a.1 x o n h), fun l r h => let ⟨r1, h1⟩ := a.2 l r h; c.2 l r1 h1⟩
theorem Keep.of_same {b : Addr} {H H1 : Hp} (a : Same H H1) : Keep b H H1 := ⟨fun x o _ h => a x o h, fun l r h => ⟨r, a _ _ h⟩⟩
theorem Keep.upd {b l : Addr} {H : Hp} {r r' : List V} (hb : H b = some (.lst (.ref l :: r))) : Keep b H (L2.upd H b (.lst (.ref l :: r'))) :=
  ⟨fun x u n h => by rw [upd_ne n]; exact h, fun l2 r2 h => by
    rw [hb] at h
    cases h
    exact ⟨r', upd_same⟩⟩
theorem same_new {H : Hp} {p : Addr} (h : H p = none) (o : HO) : Same H (upd H p o) := fun b u q => by rw [upd_ne (ne_of_none q h)]; exact q
theorem BoxAt.same {H H' : Hp} {b : Addr} (h : BoxAt H b) (s : Same H H') : BoxAt H' b := by
  obtain ⟨l, ns, p, r, sd, c, h1, h2, h3⟩ := h
  exact ⟨l, ns, p, r, sd, c, s _ _ h1, s _ _ h2, h3⟩
theorem BoxAt.some {H : Hp} {b : Addr} (h : BoxAt H b) : ∃ o, H b = some o := by
  obtain ⟨l, ns, p, r, sd, c, h1, _⟩ := h
  exact ⟨_, h1⟩
theorem BoxAt.ne {H : Hp} {b p : Addr} (h : BoxAt H b) (n : H p = none) : p ≠ b := by
  obtain ⟨o, e⟩ := h.some
  exact fun z => by rw [z, e] at n; cases n
theorem ne_cells {H : Hp} {b l : Addr} {ns : List Int} {r : List V} {a : Addr} (hb : H b = some (.lst (.ref a :: r))) (hl : H l = some (.lst (ns.map V.int))) : l ≠ b := fun z => by
  rw [z, hb] at hl
  cases ns with
  | nil => simp at hl
  | cons n ns => simp at hl
def spDraw : Sp := fun vs H Q _ => ∃ (b : Addr) (m : Int), vs = [.ref b, .int m] ∧ 0 < m ∧ m < 2 ^ 64 ∧ BoxAt H b ∧ ∀ (d : Int) (H' : Hp), 0 ≤ d → d < m → BoxAt H' b → Keep b H H' → Q (.int d) H'
theorem setq {H : Hp} {b : Addr} {o o' : HO} : upd (upd H b o) b o' = upd H b o' := by
  funext x
  by_cases h : x = b
  · rw [h, upd_same, upd_same]
  · rw [upd_ne h, upd_ne h, upd_ne h]
section
variable {P : Program} {w : World} {K : PySem.W.Frag} {mg : Str → Option Value} {base : Heap}
theorem ok_draw (T : Txt K mg) : FnOk P w K mg base CX0 1 T.f_draw T.fd_draw ["box", "sides"] (spDraw) := by
  refine T.F_draw.ok sc_draw (fun vs H Q E h => ?_) (fun cdv A outer s H vs Q E hr h => ?_)
  · obtain ⟨b, m, rfl, _⟩ := h
    rfl
  · obtain ⟨b, m, rfl, m0, m1, ⟨l, ns, pos, rest, seed, cnt, hb, hl, h63, p0, r0, s0, s1⟩, k⟩ := h
    have hlb : l ≠ b := ne_cells hb hl
    refine ⟨_, (pss_cons (ps_asg (pe_op op_add (pe_ix ix_list (pv 0) pe_int (fun _ _ => rfl)) pe_int) (pg_sub (pv 0) pe_int set_list))
      (C8.pss_cut (ps_if (PW.pt (pw_and (pt_cmpR op_eq (pe_ix ix_list (pv 0) pe_int (fun _ _ => rfl)) pe_int (nomark _)) (pw_and1 (pt_cmpR op_lt (pe_ix ix_list (pv 0) pe_int (fun _ _ => rfl)) (pe_callB call_len_seq (by rfl) T.z_len PySem.boot_len (pa_cons (pe_ix ix_list (pv 0) pe_int (fun _ _ => rfl)) pa_nil)) (nomark _))))) (pss_cons (ps_set (i := 2) sc_draw.nd rfl (Or.inl rfl) (pe_callB call_abs (by rfl) T.z_abs (by decide +kernel) (pa_cons (pe_callTy call_int1 (by rfl) T.z_int (by decide +kernel) (pa_cons (pe_ix ix_list (pe_ix ix_list (pv 0) pe_int (fun _ _ => rfl)) (pe_ix ix_list (pv 0) pe_int (fun _ _ => rfl)) (fun _ _ => rfl)) pa_nil)) pa_nil)))
      (pss_cons (ps_asg (pe_op op_add (pe_ix ix_list (pv 0) pe_int (fun _ _ => rfl)) pe_int) (pg_sub (pv 0) pe_int set_list))
      (pss_one (ps_if (pt_cmpR op_ge (pv 2) (pe_op op_pow pe_int pe_int) (nomark _)) (pss_one (ps_asg (pv 2) (pg_sub (pv 0) pe_int set_list))) (pss_one (ps_asg (pe_op op_mod (pe_callTy call_int1 (by rfl) T.z_int (by decide +kernel) (pa_cons (pe_op op_add (pe_op op_add (pe_op op_mul (pe_ix ix_list (pv 0) pe_int (fun _ _ => rfl)) pe_int) (pe_op op_mul (pe_op op_mod (pv 2) pe_int) pe_int)) pe_int) pa_nil)) pe_int) (pg_sub (pv 0) pe_int set_list))))))) pss_nil)
      (pss_cons (ps_if (pt_cmpR op_gt (pe_ix ix_list (pv 0) pe_int (fun _ _ => rfl)) pe_int (nomark _)) (pss_cons (ps_set (i := 3) sc_draw.nd rfl (Or.inl rfl) (pe_op op_mod (pe_callTy call_int1 (by rfl) T.z_int (by decide +kernel) (pa_cons (pe_ix ix_list (pv 0) pe_int (fun _ _ => rfl)) pa_nil)) (pv 1)))
      (pss_cons (ps_asg (pe_op op_fdivW (pe_callTy call_int1 (by rfl) T.z_int (by decide +kernel) (pa_cons (pe_ix ix_list (pv 0) pe_int (fun _ _ => rfl)) pa_nil)) (pv 1)) (pg_sub (pv 0) pe_int set_list))
      (pss_one (ps_ret (pv 3))))) pss_nil)
      (pss_cons (ps_set (i := 4) sc_draw.nd rfl (Or.inl rfl) (pe_callTy call_int1 (by rfl) T.z_int (by decide +kernel) (pa_cons (pe_ix ix_list (pv 0) pe_int (fun _ _ => rfl)) pa_nil)))
      (pss_cons (ps_asg (pe_op op_mod (pe_callTy call_int1 (by rfl) T.z_int (by decide +kernel) (pa_cons (pe_op op_add (pe_op op_add (pe_op op_add (pe_op op_mul (pe_op op_mul (pv 4) (pv 4)) pe_int) (pe_op op_mul (pv 4) pe_int)) (pe_op op_mul (pe_ix ix_list (pv 0) pe_int (fun _ _ => rfl)) pe_int)) pe_int) pa_nil)) pe_int) (pg_sub (pv 0) pe_int set_list))
      (pss_one (ps_ret (pe_op op_mod (pe_callTy call_int1 (by rfl) T.z_int (by decide +kernel) (pa_cons (pe_op op_add (pe_op op_mul (pe_ix ix_list (pv 0) pe_int (fun _ _ => rfl)) pe_int) (pe_op op_fdivW (pe_ix ix_list (pv 0) pe_int (fun _ _ => rfl)) pe_int)) pa_nil)) (pv 1))))))))), ?_⟩
    refine ⟨_, rfl, b, _, _, _, rfl, rfl, SqL.of hb, rfl, _, _, rfl, rfl, _, rfl, b, _, _, _, rfl, rfl, hb, rfl, ?_⟩
    have hl1 : ∀ o, upd H b o l = some (.lst (ns.map V.int)) := fun o => by rw [upd_ne hlb]; exact hl
    -- the rest, from any state of the box
    refine ⟨fun σ H' => ∃ (v : Option V) (pos' rest' seed' c1 : Int), σ = [some (.ref b), some (.int m), v, none, none] ∧ H' = upd H b (.lst [.ref l, .int pos', .int rest', .int seed', .int c1]) ∧ 0 ≤ pos' ∧ 0 ≤ rest' ∧ 0 ≤ seed' ∧ seed' < 2147483563, ?_, ?_⟩
    · refine ⟨_, rfl, b, _, _, _, rfl, rfl, SqL.of upd_same, rfl, rfl, _, rfl, ?_⟩
      refine ite2 (fun c => ?_) (fun c => ?_)
      · refine ⟨_, rfl, b, _, _, _, rfl, rfl, SqL.of upd_same, rfl, _, rfl, b, _, _, _, rfl, rfl, SqL.of upd_same, rfl, l, _, rfl, .inl (SqL.of (hl1 _)), _, _, rfl, rfl, _, rfl, ?_⟩
        refine ite2 (fun c2 => ?_) (fun c2 => ?_)
        · have hp : pos < ((ns.map V.int).length : Int) := of_decide_eq_true c2
          rw [List.length_map] at hp
          have ek : pos = ((pos.toNat : Nat) : Int) := by omega
          have q : atI (ns.map V.int) ((pos.toNat : Nat) : Int) = some (.int ns[pos.toNat]) := atI_nat (by rw [List.getElem?_map, List.getElem?_eq_getElem (by omega)] <;> rfl)
          rw [← ek] at q
          generalize ns[pos.toNat] = n at q
          refine ⟨_, rfl, b, _, _, _, rfl, rfl, SqL.of upd_same, rfl, _, rfl, b, _, _, _, rfl, rfl, SqL.of upd_same, rfl, l, _, _, _, rfl, rfl, SqL.of (hl1 _), q, .inl ⟨_, rfl, _, rfl, ?_⟩⟩
          have a0 : 0 ≤ (if n < 0 then -n else n) := by split <;> omega
          generalize (if n < 0 then -n else n) = cell at a0
          refine ⟨_, rfl, b, _, _, _, rfl, rfl, SqL.of upd_same, rfl, _, _, rfl, rfl, _, rfl, b, _, _, _, rfl, rfl, upd_same, rfl, ?_⟩
          rw [setq]
          refine ⟨_, rfl, _, _, rfl, rfl, ⟨by decide, by decide, by decide⟩, _, _, rfl, rfl, _, rfl, ?_⟩
          refine ite2 (fun c3 => ?_) (fun c3 => ?_)
          · refine ⟨_, rfl, _, rfl, b, _, _, _, rfl, rfl, upd_same, rfl, ?_⟩
            rw [setq]
            exact ⟨_, _, _, _, _, rfl, rfl, by omega, a0, s0, s1⟩
          · refine ⟨_, rfl, b, _, _, _, rfl, rfl, SqL.of upd_same, rfl, _, _, rfl, rfl, .inr ⟨by decide, by decide⟩, _, rfl, _, _, rfl, rfl, (by show (0 : Int) < 1000667; decide), _, _, rfl, rfl, .inr ⟨by decide, by decide⟩, _, _, rfl, rfl, _, _, rfl, rfl, .inl ⟨_, rfl, _, _, rfl, rfl, (by show (0 : Int) < 2147483549; decide), _, rfl, b, _, _, _, rfl, rfl, upd_same, rfl, ?_⟩⟩
            rw [setq]
            exact ⟨_, _, _, _, _, rfl, rfl, by omega, r0, by omega, by omega⟩
        · exact ⟨_, _, _, _, _, rfl, rfl, p0, r0, s0, s1⟩
      · exact ⟨_, _, _, _, _, rfl, rfl, p0, r0, s0, s1⟩
    · rintro σ H' ⟨v, pos', rest', seed', c1, rfl, rfl, p0, r0, s0, s1⟩
      have fin : ∀ (d p r sd : Int), 0 ≤ d → d < m → 0 ≤ p → 0 ≤ r → 0 ≤ sd → sd < 2147483563 → Q (.int d) (upd H b (.lst [.ref l, .int p, .int r, .int sd, .int c1])) := fun d p r sd d0 d1 p0 r0 s0 s1 =>
        k d _ d0 d1 ⟨l, ns, p, r, sd, c1, upd_same, hl1 _, h63, p0, r0, s0, s1⟩ (Keep.upd hb)
      refine ⟨_, rfl, b, _, _, _, rfl, rfl, SqL.of upd_same, rfl, _, _, rfl, rfl, _, rfl, ?_⟩
      refine ite2 (fun c => ?_) (fun c => ?_)
      · refine ⟨_, rfl, b, _, _, _, rfl, rfl, SqL.of upd_same, rfl, .inl ⟨_, rfl, _, rfl, _, _, rfl, rfl, m0, ?_⟩⟩
        refine ⟨_, rfl, b, _, _, _, rfl, rfl, SqL.of upd_same, rfl, .inl ⟨_, rfl, _, rfl, _, _, rfl, rfl, ⟨m0, ?_⟩, _, rfl, b, _, _, _, rfl, rfl, upd_same, rfl, ?_⟩⟩
        · exact Nat.lt_trans (PySem.Flt.log2_lt_of (by decide : 0 < 64) (by omega)) (by decide)
        · rw [setq]
          refine ⟨_, rfl, ?_⟩
          exact fin _ _ _ _ (Int.emod_nonneg _ (by omega)) (Int.emod_lt_of_pos _ m0) p0 (Int.ediv_nonneg r0 (by omega)) s0 s1
      · refine ⟨_, rfl, b, _, _, _, rfl, rfl, SqL.of upd_same, rfl, .inl ⟨_, rfl, ?_⟩⟩
        refine ⟨_, rfl, _, rfl, _, _, rfl, rfl, .inl ⟨by omega, by omega⟩, _, _, rfl, rfl, .inr ⟨by decide, by decide⟩, _, rfl, _, _, rfl, rfl, .inr ⟨by decide, by decide⟩, _, _, rfl, rfl, _, rfl, b, _, _, _, rfl, rfl, SqL.of upd_same, rfl, _, _, rfl, rfl, .inr ⟨by decide, by decide⟩, _, _, rfl, rfl, _, _, rfl, rfl, .inl ⟨_, rfl, _, _, rfl, rfl, (by show (0 : Int) < 2147483563; decide), _, rfl, b, _, _, _, rfl, rfl, upd_same, rfl, ?_⟩⟩
        rw [setq]
        refine ⟨_, rfl, b, _, _, _, rfl, rfl, SqL.of upd_same, rfl, _, _, rfl, rfl, .inr ⟨by decide, by decide⟩, _, rfl, b, _, _, _, rfl, rfl, SqL.of upd_same, rfl, _, _, rfl, rfl, ⟨by decide, by decide⟩, _, _, rfl, rfl, .inl ⟨_, rfl, _, rfl, _, _, rfl, rfl, m0, ?_⟩⟩
        exact fin _ _ _ _ (Int.emod_nonneg _ (by omega)) (Int.emod_lt_of_pos _ m0) p0 r0 (Int.emod_nonneg _ (by decide)) (Int.emod_lt_of_pos _ (by decide))
end
end K0

set_option maxRecDepth 100000
set_option maxHeartbeats 4000000
namespace K0
open PySem L2 BR

theorem Keep.seqL {K : PySem.W.Frag} {b a : Addr} {H H' : Hp} {xs : List V} (k : Keep b H H') (n : a ≠ b) (h : SqL K H a xs) : SqL K H' a xs := by
  rcases h with (h | ⟨o, h⟩) | h
  · exact .inl (.inl (k.1 _ _ n h))
  · exact .inl (.inr ⟨o, k.1 _ _ n h⟩)
  · exact .inr h
theorem Keep.seqT {K : PySem.W.Frag} {b a : Addr} {H H' : Hp} {xs : List V} (k : Keep b H H') (n : a ≠ b) (h : SqT K H a xs) : SqT K H' a xs := by
  rcases h with (h | ⟨o, h⟩) | h
  · exact .inl (.inl (k.1 _ _ n h))
  · exact .inl (.inr ⟨o, k.1 _ _ n h⟩)
  · exact .inr h
theorem Same.seqT' {K : PySem.W.Frag} {a : Addr} {H H' : Hp} {xs : List V} (k : Same H H') (h : SqT K H a xs) : SqT K H' a xs := by
  rcases h with (h | ⟨o, h⟩) | h
  · exact .inl (.inl (k _ _ h))
  · exact .inl (.inr ⟨o, k _ _ h⟩)
  · exact .inr h
theorem cut_ints (ns : List Int) (lo hi : Option Int) : ∃ ns' : List Int, cutV (ns.map V.int) lo hi = ns'.map V.int ∧ ns'.length ≤ ns.length := by
  refine ⟨(ns.drop (HT.sIx (ns.map V.int).length 0 lo)).take (HT.sIx (ns.map V.int).length (ns.map V.int).length hi - HT.sIx (ns.map V.int).length 0 lo), ?_, ?_⟩
  · unfold cutV
    rw [List.map_take, List.map_drop]
  · rw [List.length_take, List.length_drop]
    omega
theorem at_int {ns : List Int} {i : Nat} {v : V} (h : (ns.map V.int)[i]? = some v) : ∃ n, ns[i]? = some n ∧ v = .int n := by
  rw [List.getElem?_map] at h
  cases e : ns[i]? with
  | none => rw [e] at h; cases h
  | some n => rw [e] at h; exact ⟨n, rfl, (Option.some.inj h).symm⟩
theorem ints_of {l : List Int} {i : Nat} {v : V} (h : (l.map V.int)[i]? = some v) : ∃ p ∈ l, v = .int p := by
  obtain ⟨n, h1, h2⟩ := at_int h
  exact ⟨n, List.mem_of_getElem? h1, h2⟩
def spBox (K : PySem.W.Frag) : Sp := fun vs H Q _ => ∃ (a : Addr) (ns : List Int), vs = [.ref a] ∧ SqL K H a (ns.map V.int) ∧ ns.length ≤ 63 ∧ ∀ (b : Addr) (H' : Hp), Same H H' → H b = none → BoxAt H' b → Q (.ref b) H'
def spOf (K : PySem.W.Frag) : Sp := fun vs H Q _ => ∃ (b t : Addr) (xs : List V), vs = [.ref b, .ref t] ∧ BoxAt H b ∧ t ≠ b ∧ SqL K H t xs ∧ xs ≠ [] ∧ xs.length ≤ 1000 ∧ ∀ (i : Nat) (v : V) (H' : Hp), xs[i]? = some v → BoxAt H' b → Keep b H H' → Q v H'
def spPrime : Sp := fun vs H Q _ => ∃ (b : Addr), vs = [.ref b] ∧ BoxAt H b ∧ ∀ (p : Int) (H' : Hp), p ∈ primes → BoxAt H' b → Keep b H H' → Q (.int p) H'
def spNumber : Sp := fun vs H Q _ => ∃ (b : Addr) (p : Int), vs = [.ref b, .int p] ∧ BoxAt H b ∧ 0 < p ∧ p < 10000000000 ∧ ∀ (n : Int) (H' : Hp), -10000000000 ≤ n → n ≤ 10000000002 → BoxAt H' b → Keep b H H' → Q (.int n) H'
section
variable {P : Program} {w : World} {K : PySem.W.Frag} {mg : Str → Option Value} {base : Heap}
theorem ok_box (T : Txt K mg) : FnOk P w K mg base CX0 1 T.f_box T.fd_box ["script"] (spBox K) := by
  refine T.F_box.ok sc_box (fun vs H Q E h => ?_) (fun cdv A outer s H vs Q E hr h => ?_)
  · obtain ⟨b, m, rfl, _⟩ := h
    rfl
  · obtain ⟨a, ns, rfl, hS, h63, k⟩ := h
    refine ⟨_, (pss_cons (ps_set (i := 1) sc_box.nd rfl (Or.inl rfl) pe_int)
      (pss_cons (ps_for PassesOwn.never rfl (pi_list (pe_slice sl_list (pv 0) po_none (po_some pe_int))) (pg_name (i := 2) sc_box.nd rfl (Or.inl rfl)) (pss_one (ps_set (i := 1) sc_box.nd rfl (Or.inl rfl) (pe_op op_mod (pe_callTy call_int1 (by rfl) T.z_int (by decide +kernel) (pa_cons (pe_op op_add (pe_op op_add (pe_op op_mul (pv 1) pe_int) (pe_op op_mul (pe_op op_mod (pe_callTy call_int1 (by rfl) T.z_int (by decide +kernel) (pa_cons (pv 2) pa_nil)) pe_int) pe_int)) pe_int) pa_nil)) pe_int))))
      (pss_one (ps_ret (pe_lst (pa_cons (pe_callTy call_listD (by rfl) T.z_list (by decide +kernel) (pa_cons (pe_slice sl_list (pv 0) po_none (po_some pe_int)) pa_nil)) (pa_cons pe_int (pa_cons pe_int (pa_cons (pv 1) (pa_cons pe_int pa_nil)))))))))), ?_⟩
    refine ⟨_, rfl, _, rfl, a, _, rfl, hS, fun p hp => ?_⟩
    obtain ⟨n1, e1, l1⟩ := cut_ints ns none (some 63)
    have g1 : Same H (upd H p (.lst (cutV (ns.map V.int) none (some 63)))) := same_new hp _
    have hp1 : upd H p (.lst (cutV (ns.map V.int) none (some 63))) p = some (.lst (n1.map V.int)) := by rw [upd_same, e1]
    generalize upd H p (.lst (cutV (ns.map V.int) none (some 63))) = H1 at g1 hp1
    refine ⟨p, rfl, ⟨_, SqL.of hp1⟩, for_list (K := K) (a := p) (xs := n1.map V.int) (fun i σ H' => ∃ (m : Int) (v : Option V), σ = [some (.ref a), some (.int m), v] ∧ H' = H1 ∧ 0 ≤ m ∧ m < 2147483543)
      ⟨_, _, rfl, rfl, by decide, by decide⟩ (fun i σ H' _ ⟨_, _, _, e, _⟩ => by rw [e]; exact SqL.of hp1) ?_ ?_⟩
    · rintro i y σ H' hi ⟨m, v, rfl, rfl, m0, m1⟩
      obtain ⟨z, _, rfl⟩ := at_int hi
      refine ⟨_, rfl, _, _, rfl, rfl, .inr ⟨by decide, by decide⟩, _, rfl, .inl ⟨_, rfl, _, _, rfl, rfl, (by show (0 : Int) < 1000667; decide), _, _, rfl, rfl, .inr ⟨by decide, by decide⟩, _, _, rfl, rfl, _, _, rfl, rfl, .inl ⟨_, rfl, _, _, rfl, rfl, (by show (0 : Int) < 2147483543; decide), ?_⟩⟩⟩
      exact ⟨_, _, rfl, rfl, Int.emod_nonneg _ (by decide), Int.emod_lt_of_pos _ (by decide)⟩
    · rintro σ H' ⟨m, v, rfl, rfl, m0, m1⟩
      refine ⟨_, rfl, _, rfl, a, _, rfl, g1.seq hS, fun q hq => ?_⟩
      obtain ⟨n2, e2, l2⟩ := cut_ints ns none (some 63)
      refine ⟨q, _, rfl, .inl (SqL.of upd_same), fun l hl => ?_⟩
      refine ⟨_, rfl, (by show 5 ≤ sizeLine; decide), fun b hb => ?_⟩
      have hq1 : H q = none := g1.free hq
      have g2 := same_new hq (.lst (cutV (ns.map V.int) none (some 63)))
      have g3 := same_new hl (.lst (cutV (ns.map V.int) none (some 63)))
      have g4 := same_new hb (.lst [.ref l, .int 0, .int 0, .int m, .int 0])
      refine k b _ (g1.trans (g2.trans (g3.trans g4))) (g1.free (g2.free (g3.free hb))) ⟨l, n2, 0, 0, m, 0, upd_same, ?_, by omega, by decide, by decide, m0, by omega⟩
      refine g4 _ _ ?_
      rw [upd_same, e2]
theorem ok_of (T : Txt K mg) : FnOk P w K mg base CX0 2 T.f_of T.fd_of ["box", "things"] (spOf K) := by
  refine T.F_of.ok sc_of (fun vs H Q E h => ?_) (fun cdv A outer s H vs Q E hr h => ?_)
  · obtain ⟨b, t, xs, rfl, _⟩ := h
    rfl
  · obtain ⟨b, t, xs, rfl, hB, hn, hS, h0, h1, k⟩ := h
    refine ⟨_, (pss_one (ps_ret (pe_ix ix_list (pv 1) (pe_call (ok_draw T) (hr.mono (by decide)) (by rfl) T.g_draw T.F_draw.kp T.b_draw .nil pass0 (pa_cons (pv 0) (pa_cons (pe_callB call_len_seq (by rfl) T.z_len PySem.boot_len (pa_cons (pv 1) pa_nil)) pa_nil))) (fun _ _ => rfl)))), ?_⟩
    have hpos : 0 < xs.length := List.length_pos_iff.mpr h0
    refine ⟨_, rfl, _, rfl, _, rfl, t, _, rfl, .inl hS, b, _, rfl, by omega, by omega, hB, fun d H' d0 d1 hB' hK => ?_⟩
    have ed : d = ((d.toNat : Nat) : Int) := by omega
    have q : xs[d.toNat]? = some xs[d.toNat] := List.getElem?_eq_getElem (by omega)
    refine ⟨t, xs, d, _, rfl, rfl, hK.seqL hn hS, ?_, k d.toNat _ H' q hB' hK⟩
    have z := atI_nat q
    rw [← ed] at z
    exact z
end
end K0

set_option maxRecDepth 100000
set_option maxHeartbeats 4000000
namespace K0
open PySem L2 BR

def spPower : Sp := fun vs H Q _ => ∃ (x : Int) (n : Nat) (p : Int), vs = [.int x, .int (n : Int), .int p] ∧ 1 < p ∧ p < 2 ^ 64 ∧ Q (.int (x ^ n % p)) H
def spInv : Sp := fun vs H Q E => ∃ (x p : Int), vs = [.int x, .int p] ∧ Prm p ∧ p < 2 ^ 64 ∧ (x % p = 0 → E (.type "ZeroDivisionError") none H) ∧ (x % p ≠ 0 → ∀ (r : Int) (H' : Hp), 0 < r → r < p → (r * x) % p = 1 → Same H H' → Q (.int r) H')
/-! ### values of any kind -/
def Sc (x : V) : Prop := match x with | .non => True | .bl _ => True | .int _ => True | .str _ => True | _ => False
/-- two values that are alike, n deep; none of their parts is the box at b -/
def EqV (K : PySem.W.Frag) (b : Addr) (H : Hp) : Nat → V → V → Prop
  | 0, x, y => Sc x ∧ x = y
  | n + 1, x, y => (Sc x ∧ x = y) ∨ ∃ (a c : Addr) (xs ys : List V), x = .ref a ∧ y = .ref c ∧ a ≠ b ∧ c ≠ b ∧ ((SqL K H a xs ∧ SqL K H c ys) ∨ (SqT K H a xs ∧ SqT K H c ys)) ∧ xs.length ≤ 1000 ∧ xs.length = ys.length ∧
      ∀ (i : Nat) (u v : V), xs[i]? = some u → ys[i]? = some v → EqV K b H n u v
theorem EqV.keep {K : PySem.W.Frag} {b : Addr} {H H' : Hp} (k : Keep b H H') : ∀ {n : Nat} {x y : V}, EqV K b H n x y → EqV K b H' n x y
  | 0, _, _, h => h
  | n + 1, x, y, h => by
    rcases h with h | ⟨a, c, xs, ys, e1, e2, n1, n2, h, l1, l2, r⟩
    · exact .inl h
    · refine .inr ⟨a, c, xs, ys, e1, e2, n1, n2, ?_, l1, l2, fun i u v hu hv => (r i u v hu hv).keep k⟩
      rcases h with ⟨h1, h2⟩ | ⟨h1, h2⟩
      · exact .inl ⟨k.seqL n1 h1, k.seqL n2 h2⟩
      · exact .inr ⟨k.seqT n1 h1, k.seqT n2 h2⟩
theorem EqV.sc {K : PySem.W.Frag} {b : Addr} {H : Hp} {x : V} (h : Sc x) : ∀ {n : Nat}, EqV K b H n x x
  | 0 => ⟨h, rfl⟩
  | _ + 1 => .inl ⟨h, rfl⟩
theorem EqV.up {K : PySem.W.Frag} {b : Addr} {H : Hp} : ∀ {n : Nat} {x y : V}, EqV K b H n x y → EqV K b H (n + 1) x y
  | 0, _, _, h => .inl h
  | n + 1, x, y, h => by
    rcases h with h | ⟨a, c, xs, ys, e1, e2, n1, n2, h, l1, l2, r⟩
    · exact .inl h
    · exact .inr ⟨a, c, xs, ys, e1, e2, n1, n2, h, l1, l2, fun i u v hu hv => (r i u v hu hv).up⟩
/-- its type's name -/
def Kd (K : PySem.W.Frag) (H : Hp) (x : V) (k : String) : Prop := TyX K H x (.type k)
theorem kdL {K : PySem.W.Frag} {H : Hp} {a : Addr} {xs : List V} (h : SqL K H a xs) : Kd K H (.ref a) "list" := by
  rcases h with (h | ⟨o, h⟩) | ⟨o, its, n, h, hc, _⟩
  · exact .base (.lst h)
  · exact .base (.frz h)
  · exact .kList h hc
theorem kdT {K : PySem.W.Frag} {H : Hp} {a : Addr} {xs : List V} (h : SqT K H a xs) : Kd K H (.ref a) "tuple" := by
  rcases h with (h | ⟨o, h⟩) | ⟨o, its, n, h, hc, _⟩
  · exact .base (.tup h)
  · exact .fTuple h
  · exact .kTuple h hc
def kinds : List String := ["NoneType", "bool", "int", "str", "list", "tuple"]
/-- data, by its kind -/
theorem EqV.kd {K : PySem.W.Frag} {b : Addr} {H : Hp} {n : Nat} {x y : V} (h : EqV K b H n x y) : ∃ k, k ∈ kinds ∧ Kd K H x k ∧ (k = "int" ↔ ∃ i, x = .int i) ∧ (k = "bool" ↔ ∃ i, x = .bl i) := by
  have sc : Sc x → ∃ k, k ∈ kinds ∧ Kd K H x k ∧ (k = "int" ↔ ∃ i, x = .int i) ∧ (k = "bool" ↔ ∃ i, x = .bl i) := fun s => by
    match x, s with
    | .non, _ => exact ⟨"NoneType", by decide, .base .non, by simp, by simp⟩
    | .bl c, _ => exact ⟨"bool", by decide, .base (.bl c), by simp, by simp⟩
    | .int c, _ => exact ⟨"int", by decide, .base (.int c), by simp, by simp⟩
    | .str c, _ => exact ⟨"str", by decide, .base (.str c), by simp, by simp⟩
  cases n with
  | zero => exact sc h.1
  | succ n =>
    rcases h with h | ⟨a, c, xs, ys, rfl, _, _, _, h, _⟩
    · exact sc h.1
    · rcases h with ⟨h, _⟩ | ⟨h, _⟩
      · exact ⟨"list", by decide, kdL h, by simp, by simp⟩
      · exact ⟨"tuple", by decide, kdT h, by simp, by simp⟩
def isI (x : V) : Bool := match x with | .int _ => true | _ => false
def isB (x : V) : Bool := match x with | .bl _ => true | _ => false
section
variable {P : Program} {w : World} {K : PySem.W.Frag} {mg : Str → Option Value} {base : Heap}
end
end K0

set_option maxRecDepth 100000
set_option maxHeartbeats 4000000
namespace K0
open PySem L2 BR

def ItzS (Sq : Hp → Addr → List V → Prop) (a b : Addr) : It :=
  ⟨fun i H => ∃ (xs ys : List V) (x y : V), Sq H a xs ∧ Sq H b ys ∧ xs[i]? = some x ∧ ys[i]? = some y,
    fun i H v H' => ∃ T x y, v = .ref T ∧ H T = none ∧ H' = upd H T (.tup [x, y]) ∧ (∀ xs, Sq H a xs → xs[i]? = some x) ∧ ∀ ys, Sq H b ys → ys[i]? = some y,
    fun i H => ∃ xs ys : List V, Sq H a xs ∧ Sq H b ys ∧ (xs.length ≤ i ∨ ys.length ≤ i)⟩
theorem lc_zipS {Sq : Hp → Addr → List V → Prop} {a b : Addr} {xs ys : List V} {g : TG} {tt : TT} {te : TE} {vs : List Nat} {σ : L2.St} {H1 : Hp} {D : Addr} {Qd : Hp → Prop} (hl : xs.length = ys.length) (Pv : Nat → Hp → Prop) (h0 : Pv 0 (upd H1 D (.lst []))) (hq : ∀ i H, Pv i H → Sq H a xs ∧ Sq H b ys)
    (hs : ∀ (i : Nat) (x y : V) (T : Addr) (H : Hp), xs[i]? = some x → ys[i]? = some y → Pv i H → H T = none → g (.ref T) (wipe σ vs) (upd H T (.tup [x, y])) fun σ2 H2 => wipe σ2 vs = wipe σ vs ∧ tt σ2 H2 fun b H3 =>
      if b = true then te σ2 H3 fun y H4 => ∃ acc, H4 D = some (.lst acc) ∧ acc.length < sizeLine ∧ Pv (i + 1) (upd H4 D (.lst (acc ++ [y]))) else Pv (i + 1) H3) (hd : ∀ H, Pv xs.length H → Qd H) :
    ∃ W : Nat → Nat → Hp → Prop, (∃ m, W 0 m (upd H1 D (.lst []))) ∧ ∀ i m H, W i m H →
      ((ItzS Sq a b).stop i H ∧ Qd H) ∨ ((ItzS Sq a b).go i H ∧ ∃ Nx : Hp → Prop, (∀ H', Nx H' → ∃ m', m' < m ∧ W (i + 1) m' H') ∧ ∀ x H', (ItzS Sq a b).yld i H x H' → g x (wipe σ vs) H' fun σ2 H2 => wipe σ2 vs = wipe σ vs ∧ tt σ2 H2 fun b H3 =>
        if b = true then te σ2 H3 fun y H4 => ∃ acc, H4 D = some (.lst acc) ∧ acc.length < sizeLine ∧ Nx (upd H4 D (.lst (acc ++ [y]))) else Nx H3) := by
  refine ⟨fun i m H => m = xs.length - i ∧ i ≤ xs.length ∧ Pv i H, ⟨xs.length, rfl, Nat.zero_le _, h0⟩, ?_⟩
  rintro i m H ⟨rfl, hi, p⟩
  obtain ⟨qx, qy⟩ := hq i H p
  by_cases hlt : i < xs.length
  · have hx : xs[i]? = some xs[i] := List.getElem?_eq_getElem hlt
    have hy : ys[i]? = some ys[i] := List.getElem?_eq_getElem (by omega)
    refine .inr ⟨⟨xs, ys, _, _, qx, qy, hx, hy⟩, Pv (i + 1), fun H' p' => ⟨xs.length - (i + 1), by omega, rfl, hlt, p'⟩, fun v H' y => ?_⟩
    obtain ⟨T, x, y, rfl, hT, rfl, ex, ey⟩ := y
    exact hs i x y T H (ex xs qx) (ey ys qy) p hT
  · have e : i = xs.length := by omega
    subst e
    exact .inl ⟨⟨xs, ys, qx, qy, .inl (Nat.le_refl _)⟩, hd H p⟩
theorem isi_b {K : PySem.W.Frag} {H : Hp} {x : V} {k t : String} {r : Bool} {Q : VK} (ty : Kd K H x k) (h : kitB k t = some r) (q : Q (.bl r) H) : rIsi K [x, .ty t] H Q := ⟨x, .ty t, _, _, r, rfl, .ty t, ty, kit_ty h, q⟩
theorem kit_lt {K : PySem.W.Frag} {k : String} {r1 r2 : Bool} (h1 : kitB k "list" = some r1) (h2 : kitB k "tuple" = some r2) : PySem.W.kitAny K (.type k) [.type "list", .type "tuple"] = some (r1 || r2) := by
  refine kitAny_cons (kit_ty h1) (fun e => ?_) (fun e => by rw [e]; rfl)
  rw [e, Bool.false_or]
  exact kitAny_cons (kit_ty h2) (fun e => by rw [e]; exact kitAny_nil) (fun e => e)
theorem EqV.cs {K : PySem.W.Frag} {b : Addr} {H : Hp} {n : Nat} {x y : V} (h : EqV K b H n x y) : (Sc x ∧ x = y) ∨ ∃ (m : Nat) (a c : Addr) (xs ys : List V), n = m + 1 ∧ x = .ref a ∧ y = .ref c ∧ a ≠ b ∧ c ≠ b ∧ ((SqL K H a xs ∧ SqL K H c ys) ∨ (SqT K H a xs ∧ SqT K H c ys)) ∧ xs.length ≤ 1000 ∧ xs.length = ys.length ∧
      ∀ (i : Nat) (u v : V), xs[i]? = some u → ys[i]? = some v → EqV K b H m u v := by
  cases n with
  | zero => exact .inl h
  | succ m =>
    rcases h with h | ⟨a, c, xs, ys, h⟩
    · exact .inl h
    · exact .inr ⟨m, a, c, xs, ys, rfl, h⟩
def spSame (K : PySem.W.Frag) : Nat → Sp
  | 0 => fun _ _ _ _ => False
  | n + 1 => fun vs H Q _ => ∃ (b : Addr) (x y : V), vs = [x, y] ∧ EqV K b H n x y ∧ ∀ H', Same H H' → Q (.bl true) H'
section
variable {P : Program} {w : World} {K : PySem.W.Frag} {mg : Str → Option Value} {base : Heap}
theorem ok_same_step (T : Txt K mg) {n : Nat} (G : FnOk P w K mg base CX0 n T.f_same T.fd_same ["found", "due"] (spSame K n)) : FnOk P w K mg base CX0 (n + 1) T.f_same T.fd_same ["found", "due"] (spSame K (n + 1)) := by
  refine T.F_same.ok sc_same (fun vs H Q E h => ?_) (fun cdv A outer s H vs Q E hr h => ?_)
  · obtain ⟨b, x, y, rfl, _⟩ := h
    rfl
  · obtain ⟨b, x, y, rfl, hE, k⟩ := h
    refine ⟨_, (pss_cons (ps_if (pt_val (pe_callB call_isiT (by rfl) T.z_isinstance (by decide +kernel) (pa_cons (pv 1) (pa_cons (pe_tup (pa_cons (pe_bltn (v := .ty "list") (by rfl) T.z_list (by decide +kernel) rfl) (pa_cons (pe_bltn (v := .ty "tuple") (by rfl) T.z_tuple (by decide +kernel) rfl) pa_nil))) pa_nil)))) (pss_cons (ps_if (PW.pt (pw_or (pt_cmpR op_ne (pe_callB call_isi (by rfl) T.z_isinstance (by decide +kernel) (pa_cons (pv 0) (pa_cons (pe_bltn (v := .ty "list") (by rfl) T.z_list (by decide +kernel) rfl) pa_nil))) (pe_callB call_isi (by rfl) T.z_isinstance (by decide +kernel) (pa_cons (pv 1) (pa_cons (pe_bltn (v := .ty "list") (by rfl) T.z_list (by decide +kernel) rfl) pa_nil))) (nomark _)) (pw_or1 (pt_cmpR op_ne (pe_callB call_isi (by rfl) T.z_isinstance (by decide +kernel) (pa_cons (pv 0) (pa_cons (pe_bltn (v := .ty "tuple") (by rfl) T.z_tuple (by decide +kernel) rfl) pa_nil))) (pe_callB call_isi (by rfl) T.z_isinstance (by decide +kernel) (pa_cons (pv 1) (pa_cons (pe_bltn (v := .ty "tuple") (by rfl) T.z_tuple (by decide +kernel) rfl) pa_nil))) (nomark _))))) (pss_one (ps_ret pe_bl)) pss_nil)
      (pss_one (ps_ret (pe_and (pe_cmpR op_eq (pe_callB call_len_seq (by rfl) T.z_len PySem.boot_len (pa_cons (pv 0) pa_nil)) (pe_callB call_len_seq (by rfl) T.z_len PySem.boot_len (pa_cons (pv 1) pa_nil)) (nomark _)) (pe_one (pe_callB (cr_all rfl) (by rfl) T.z_all (by decide +kernel) (pa_cons (pe_lc (own := [("a", 2), ("b", 3)]) (g := gTup K 2 (gCons (gName 2) (gCons (gName 3) gNil))) (tt := tYes) (by rfl) sc_same.nd (RZ.pi_zipA (by rfl) T.z_zip (pa_cons (pv 0) (pa_cons (pv 1) pa_nil))) (blkOk_by (own := [("a", 2), ("b", 3)]) (N := ["found", "due", "a", "b"]) (sc := defScope s_same) (by decide +kernel)) (fun _ _ _ _ _ => (pg_tup (by rfl) (pgs_cons (pg_name (i := 2) sc_same.nd rfl (Or.inl rfl)) (pgs_cons (pg_name (i := 3) sc_same.nd rfl (Or.inl rfl)) pgs_nil)))) (fun _ _ _ _ _ => pts_nil) (fun _ _ _ _ _ => (pe_call G hr (by rfl) T.g_same T.F_same.kp T.b_same .nil pass0 (pa_cons (pv 2) (pa_cons (pv 3) pa_nil))))) pa_nil))))))) pss_nil)
      (pss_cons (ps_if (PW.pt (pw_or (pt_cmpR op_isN (pv 1) pe_non (nomark _)) (pw_or1 (pt_cmpR op_isN (pv 0) pe_non (nomark _))))) (pss_one (ps_ret (pe_and (pe_cmpR op_isN (pv 1) pe_non (nomark _)) (pe_one (pe_cmpR op_isN (pv 0) pe_non (nomark _)))))) pss_nil)
      (pss_cons (ps_if (PW.pt (pw_or (pt_val (pe_callB call_isi (by rfl) T.z_isinstance (by decide +kernel) (pa_cons (pv 1) (pa_cons (pe_bltn (v := .ty "bool") (by rfl) T.z_bool (by decide +kernel) rfl) pa_nil)))) (pw_or1 (pt_val (pe_callB call_isi (by rfl) T.z_isinstance (by decide +kernel) (pa_cons (pv 0) (pa_cons (pe_bltn (v := .ty "bool") (by rfl) T.z_bool (by decide +kernel) rfl) pa_nil))))))) (pss_one (ps_ret (pe_and (pe_callB call_isi (by rfl) T.z_isinstance (by decide +kernel) (pa_cons (pv 1) (pa_cons (pe_bltn (v := .ty "bool") (by rfl) T.z_bool (by decide +kernel) rfl) pa_nil))) (pe_and (pe_callB call_isi (by rfl) T.z_isinstance (by decide +kernel) (pa_cons (pv 0) (pa_cons (pe_bltn (v := .ty "bool") (by rfl) T.z_bool (by decide +kernel) rfl) pa_nil))) (pe_one (pe_cmpR op_eq (pv 0) (pv 1) (nomark _))))))) pss_nil)
      (pss_cons (ps_if (pt_val (pe_callB call_isi (by rfl) T.z_isinstance (by decide +kernel) (pa_cons (pv 1) (pa_cons (pe_bltn (v := .ty "int") (by rfl) T.z_int (by decide +kernel) rfl) pa_nil)))) (pss_one (ps_ret (pe_and (pe_callB call_isi (by rfl) T.z_isinstance (by decide +kernel) (pa_cons (pv 0) (pa_cons (pe_bltn (v := .ty "int") (by rfl) T.z_int (by decide +kernel) rfl) pa_nil))) (pe_one (pe_cmpR op_eq (pv 0) (pv 1) (nomark _)))))) pss_nil)
      (pss_one (ps_ret (pe_and (pe_callB call_isi (by rfl) T.z_isinstance (by decide +kernel) (pa_cons (pv 0) (pa_cons (pe_bltn (v := .ty "str") (by rfl) T.z_str (by decide +kernel) rfl) pa_nil))) (pe_one (pe_cmpR op_eq (pv 0) (pv 1) (nomark _)))))))))), ?_⟩
    rcases hE.cs with ⟨hs, rfl⟩ | ⟨m, a, c, xs, ys, rfl, rfl, rfl, na, nc, hq, l1, l2, hr2⟩
    · -- scalars
      have top : ∀ (kd : String), Kd K H x kd → (∀ H1, Same H H1 → Kd K H1 x kd) → True := fun _ _ _ => trivial
      refine ⟨_, rfl, (by show 2 ≤ sizeLine; decide), fun tp htp => ?_⟩
      have g1 := same_new htp (.tup [.ty "list", .ty "tuple"])
      have e1 : upd H tp (.tup [.ty "list", .ty "tuple"]) tp = some (.tup [.ty "list", .ty "tuple"]) := upd_same
      generalize upd H tp (.tup [.ty "list", .ty "tuple"]) = H1 at g1 e1 ⊢
      match x, hs with
      | .non, _ =>
        refine ⟨_, tp, _, .type "NoneType", [.type "list", .type "tuple"], false, rfl, e1, .cons (.ty _) (.cons (.ty _) .nil), .base .non, kit_lt (r1 := false) (r2 := false) (by decide +kernel) (by decide +kernel), ?_⟩
        refine ⟨_, rfl, iteF ?_⟩
        refine ⟨_, rfl, rfl, _, rfl, iteT ?_⟩
        exact ⟨_, rfl, rfl, _, rfl, iteT ⟨_, rfl, rfl, k _ g1⟩⟩
      | .bl z, _ =>
        have ty : Kd K H1 (.bl z) "bool" := .base (.bl z)
        refine ⟨_, tp, _, _, [.type "list", .type "tuple"], false, rfl, e1, .cons (.ty _) (.cons (.ty _) .nil), ty, kit_lt (r1 := false) (r2 := false) (by decide +kernel) (by decide +kernel), ?_⟩
        refine ⟨_, rfl, iteF ?_⟩
        refine ⟨_, rfl, rfl, _, rfl, iteF ⟨_, rfl, rfl, _, rfl, iteF ?_⟩⟩
        refine ⟨_, rfl, _, _, _, _, true, rfl, .ty _, ty, kit_ty (by decide +kernel), _, rfl, iteT ?_⟩
        refine ⟨_, rfl, _, _, _, _, true, rfl, .ty _, ty, kit_ty (by decide +kernel), _, rfl, iteT ?_⟩
        refine ⟨_, rfl, _, _, _, _, true, rfl, .ty _, ty, kit_ty (by decide +kernel), _, rfl, iteT ?_⟩
        refine ⟨_, rfl, _, rfl, rfl, ?_⟩
        have e : decide (V.bl z = V.bl z) = true := decide_eq_true rfl
        show Q (.bl (decide (V.bl z = V.bl z))) H1
        rw [e]
        exact k _ g1
      | .int z, _ =>
        have ty : Kd K H1 (.int z) "int" := .base (.int z)
        refine ⟨_, tp, _, _, [.type "list", .type "tuple"], false, rfl, e1, .cons (.ty _) (.cons (.ty _) .nil), ty, kit_lt (r1 := false) (r2 := false) (by decide +kernel) (by decide +kernel), ?_⟩
        refine ⟨_, rfl, iteF ?_⟩
        refine ⟨_, rfl, rfl, _, rfl, iteF ⟨_, rfl, rfl, _, rfl, iteF ?_⟩⟩
        refine ⟨_, rfl, _, _, _, _, false, rfl, .ty _, ty, kit_ty (by decide +kernel), _, rfl, iteF ?_⟩
        refine ⟨_, rfl, _, _, _, _, false, rfl, .ty _, ty, kit_ty (by decide +kernel), _, rfl, iteF ?_⟩
        refine ⟨_, rfl, _, _, _, _, true, rfl, .ty _, ty, kit_ty (by decide +kernel), _, rfl, iteT ?_⟩
        refine ⟨_, rfl, _, _, _, _, true, rfl, .ty _, ty, kit_ty (by decide +kernel), _, rfl, iteT ?_⟩
        refine ⟨_, rfl, _, rfl, rfl, ?_⟩
        have e : decide (V.int z = V.int z) = true := decide_eq_true rfl
        show Q (.bl (decide (V.int z = V.int z))) H1
        rw [e]
        exact k _ g1
      | .str z, _ =>
        have ty : Kd K H1 (.str z) "str" := .base (.str z)
        refine ⟨_, tp, _, _, [.type "list", .type "tuple"], false, rfl, e1, .cons (.ty _) (.cons (.ty _) .nil), ty, kit_lt (r1 := false) (r2 := false) (by decide +kernel) (by decide +kernel), ?_⟩
        refine ⟨_, rfl, iteF ?_⟩
        refine ⟨_, rfl, rfl, _, rfl, iteF ⟨_, rfl, rfl, _, rfl, iteF ?_⟩⟩
        refine ⟨_, rfl, _, _, _, _, false, rfl, .ty _, ty, kit_ty (by decide +kernel), _, rfl, iteF ?_⟩
        refine ⟨_, rfl, _, _, _, _, false, rfl, .ty _, ty, kit_ty (by decide +kernel), _, rfl, iteF ?_⟩
        refine ⟨_, rfl, _, _, _, _, false, rfl, .ty _, ty, kit_ty (by decide +kernel), _, rfl, iteF ?_⟩
        refine ⟨_, rfl, _, _, _, _, true, rfl, .ty _, ty, kit_ty (by decide +kernel), _, rfl, iteT ?_⟩
        refine ⟨_, rfl, _, rfl, rfl, ?_⟩
        have e : decide (V.str z = V.str z) = true := decide_eq_true rfl
        show Q (.bl (decide (V.str z = V.str z))) H1
        rw [e]
        exact k _ g1
    · refine ⟨_, rfl, (by show 2 ≤ sizeLine; decide), fun tp htp => ?_⟩
      have g1 := same_new htp (.tup [.ty "list", .ty "tuple"])
      have e1 : upd H tp (.tup [.ty "list", .ty "tuple"]) tp = some (.tup [.ty "list", .ty "tuple"]) := upd_same
      generalize upd H tp (.tup [.ty "list", .ty "tuple"]) = H1 at g1 e1 ⊢
      rcases hq with ⟨q1, q2⟩ | ⟨q1, q2⟩
      · have t1 : Kd K H1 (.ref a) "list" := kdL (g1.seq q1)
        have t2 : Kd K H1 (.ref c) "list" := kdL (g1.seq q2)
        refine ⟨_, tp, _, _, [.type "list", .type "tuple"], true, rfl, e1, .cons (.ty _) (.cons (.ty _) .nil), t2, kit_lt (r1 := true) (r2 := false) (by decide +kernel) (by decide +kernel), ?_⟩
        refine ⟨_, rfl, iteT ?_⟩
        refine ⟨_, rfl, _, _, _, _, true, rfl, .ty _, t1, kit_ty (by decide +kernel), _, rfl, _, _, _, _, true, rfl, .ty _, t2, kit_ty (by decide +kernel), rfl, _, rfl, iteF ?_⟩
        refine ⟨_, rfl, _, _, _, _, false, rfl, .ty _, t1, kit_ty (by decide +kernel), _, rfl, _, _, _, _, false, rfl, .ty _, t2, kit_ty (by decide +kernel), rfl, _, rfl, iteF ?_⟩
        refine ⟨_, rfl, a, _, rfl, .inl (g1.seq q1), _, rfl, c, _, rfl, .inl (g1.seq q2), rfl, _, rfl, ?_⟩
        have e : decide (V.int ((xs.length : Nat) : Int) = V.int ((ys.length : Nat) : Int)) = true := decide_eq_true (by rw [l2])
        rw [e]
        refine iteT ?_
        refine ⟨_, rfl, _, rfl, a, c, xs, ys, rfl, .inl ⟨g1.seq q1, g1.seq q2, fun D hD => lc_zipS (Sq := SqL K) (a := a) (b := c) (xs := xs) (ys := ys) l2 (fun i H' => Same H1 H' ∧ H' D = some (.lst ((List.replicate i true).map V.bl)))
          ⟨same_new hD _, upd_same⟩ (fun i H' ⟨gs, _⟩ => ⟨(g1.trans gs).seq q1, (g1.trans gs).seq q2⟩) ?_ ?_⟩⟩
        · rintro i u v T' Hx hu hv ⟨gs, eD⟩ hT
          have gT := same_new hT (.tup [u, v])
          refine ⟨T', _, rfl, SqT.of upd_same, rfl, u, _, rfl, v, _, rfl, rfl, rfl, ?_⟩
          refine ⟨_, rfl, _, rfl, b, u, v, rfl, (hr2 i u v hu hv).keep (Keep.of_same (g1.trans (gs.trans gT))), fun H3 g3 => ?_⟩
          have hi : i < xs.length := (List.getElem?_eq_some_iff.mp hu).1
          refine ⟨_, g3 _ _ (gT _ _ eD), by rw [List.length_map, List.length_replicate]; exact small1000 (by omega), fun x o ho => ?_, ?_⟩
          · rw [upd_ne (ne_of_none ho hD)]
            exact g3 _ _ (gT _ _ (gs _ _ ho))
          · rw [upd_same, List.replicate_succ', List.map_append]
            rfl
        · rintro H' ⟨gs, eD⟩
          refine ⟨D, List.replicate xs.length true, rfl, SqL.of eD, ?_⟩
          have ea : (List.replicate xs.length true).all id = true := by simp
          rw [ea]
          exact k _ (g1.trans gs)
      · have t1 : Kd K H1 (.ref a) "tuple" := kdT (Same.seqT' g1 q1)
        have t2 : Kd K H1 (.ref c) "tuple" := kdT (Same.seqT' g1 q2)
        refine ⟨_, tp, _, _, [.type "list", .type "tuple"], true, rfl, e1, .cons (.ty _) (.cons (.ty _) .nil), t2, kit_lt (r1 := false) (r2 := true) (by decide +kernel) (by decide +kernel), ?_⟩
        refine ⟨_, rfl, iteT ?_⟩
        refine ⟨_, rfl, _, _, _, _, false, rfl, .ty _, t1, kit_ty (by decide +kernel), _, rfl, _, _, _, _, false, rfl, .ty _, t2, kit_ty (by decide +kernel), rfl, _, rfl, iteF ?_⟩
        refine ⟨_, rfl, _, _, _, _, true, rfl, .ty _, t1, kit_ty (by decide +kernel), _, rfl, _, _, _, _, true, rfl, .ty _, t2, kit_ty (by decide +kernel), rfl, _, rfl, iteF ?_⟩
        refine ⟨_, rfl, a, _, rfl, .inr (Same.seqT' g1 q1), _, rfl, c, _, rfl, .inr (Same.seqT' g1 q2), rfl, _, rfl, ?_⟩
        have e : decide (V.int ((xs.length : Nat) : Int) = V.int ((ys.length : Nat) : Int)) = true := decide_eq_true (by rw [l2])
        rw [e]
        refine iteT ?_
        refine ⟨_, rfl, _, rfl, a, c, xs, ys, rfl, .inr ⟨Same.seqT' g1 q1, Same.seqT' g1 q2, fun D hD => lc_zipS (Sq := SqT K) (a := a) (b := c) (xs := xs) (ys := ys) l2 (fun i H' => Same H1 H' ∧ H' D = some (.lst ((List.replicate i true).map V.bl)))
          ⟨same_new hD _, upd_same⟩ (fun i H' ⟨gs, _⟩ => ⟨Same.seqT' (g1.trans gs) q1, Same.seqT' (g1.trans gs) q2⟩) ?_ ?_⟩⟩
        · rintro i u v T' Hx hu hv ⟨gs, eD⟩ hT
          have gT := same_new hT (.tup [u, v])
          refine ⟨T', _, rfl, SqT.of upd_same, rfl, u, _, rfl, v, _, rfl, rfl, rfl, ?_⟩
          refine ⟨_, rfl, _, rfl, b, u, v, rfl, (hr2 i u v hu hv).keep (Keep.of_same (g1.trans (gs.trans gT))), fun H3 g3 => ?_⟩
          have hi : i < xs.length := (List.getElem?_eq_some_iff.mp hu).1
          refine ⟨_, g3 _ _ (gT _ _ eD), by rw [List.length_map, List.length_replicate]; exact small1000 (by omega), fun x o ho => ?_, ?_⟩
          · rw [upd_ne (ne_of_none ho hD)]
            exact g3 _ _ (gT _ _ (gs _ _ ho))
          · rw [upd_same, List.replicate_succ', List.map_append]
            rfl
        · rintro H' ⟨gs, eD⟩
          refine ⟨D, List.replicate xs.length true, rfl, SqL.of eD, ?_⟩
          have ea : (List.replicate xs.length true).all id = true := by simp
          rw [ea]
          exact k _ (g1.trans gs)
theorem ok_same (T : Txt K mg) : ∀ n : Nat, FnOk P w K mg base CX0 n T.f_same T.fd_same ["found", "due"] (spSame K n)
  | 0 => ⟨fun vs H Q E h => h.elim, fun A outer s H args us vs Q E _ _ _ _ h => h.elim⟩
  | n + 1 => ok_same_step T (ok_same T n)
end
end K0

set_option maxRecDepth 100000
set_option maxHeartbeats 4000000
namespace K0
open PySem L2 BM BR

/-! ### items: tuples of ints -/
def tD (n : List Int) : PyData := .tuple (n.map PyData.int)
/-- x is a tuple of the ints n -/
def TI (H : Hp) (x : V) (n : List Int) : Prop := ∃ t, x = .ref t ∧ H t = some (.tup (n.map V.int))
inductive Its (H : Hp) : List V → List (List Int) → Prop
  | nil : Its H [] []
  | cons {x : V} {xs : List V} {n : List Int} {ns : List (List Int)} : TI H x n → Its H xs ns → Its H (x :: xs) (n :: ns)
section
variable {K : PySem.W.Frag} {H H' : Hp} {x y : V} {xs ys : List V} {n : List Int} {ns ms : List (List Int)} {a b c l : Addr}
theorem Its.mono (f : ∀ x n, TI H x n → TI H' x n) (h : Its H xs ns) : Its H' xs ns := by
  induction h with
  | nil => exact .nil
  | cons a _ ih => exact .cons (f _ _ a) ih
theorem sTI (g : Same H H') (h : TI H x n) : TI H' x n := by
  obtain ⟨t, e, h⟩ := h
  exact ⟨t, e, g _ _ h⟩
theorem tup_ne (hb : BoxAt H b) {xs : List V} (h : H a = some (.tup xs)) : a ≠ b := by
  rintro rfl
  obtain ⟨l, ns, pos, rest, seed, cnt, e, _⟩ := hb
  rw [e] at h
  cases h
theorem TI.up (h : TI H x n) : TupI K H x n := by
  obtain ⟨t, e, h⟩ := h
  exact ⟨t, e, SqT.of h⟩
theorem TI.uniq {m : List Int} (h : TI H x n) (g : TI H x m) : n = m := by
  obtain ⟨t, rfl, h⟩ := h
  obtain ⟨u, e, g⟩ := g
  cases e
  rw [h] at g
  have e : n.map V.int = m.map V.int := by injection g with g; injection g
  exact List.map_inj_right (fun a b h => V.int.inj h) |>.mp e
theorem Its.same (g : Same H H') (h : Its H xs ns) : Its H' xs ns := h.mono fun _ _ => sTI g
theorem kTI (hb : BoxAt H b) (k : Keep b H H') (h : TI H x n) : TI H' x n := by
  obtain ⟨t, e, h⟩ := h
  exact ⟨t, e, k.1 _ _ (tup_ne hb h) h⟩
theorem Its.keep (hb : BoxAt H b) (k : Keep b H H') (h : Its H xs ns) : Its H' xs ns := h.mono fun _ _ => kTI hb k
theorem Its.len (h : Its H xs ns) : xs.length = ns.length := by
  induction h with
  | nil => rfl
  | cons _ _ ih => rw [List.length_cons, List.length_cons, ih]
theorem Its.at_ (h : Its H xs ns) {i : Nat} (e : xs[i]? = some x) : ∃ n, ns[i]? = some n ∧ TI H x n := by
  induction h generalizing i with
  | nil => simp at e
  | cons a _ ih =>
    cases i with
    | zero =>
      simp at e
      subst e
      exact ⟨_, rfl, a⟩
    | succ i => exact ih (by simpa using e)
theorem Its.of_at : ∀ {xs : List V} {ns : List (List Int)}, xs.length = ns.length → (∀ (i : Nat) (x : V) (n : List Int), xs[i]? = some x → ns[i]? = some n → TI H x n) → Its H xs ns
  | [], [], _, _ => .nil
  | x :: xs, n :: ns, hl, h => .cons (h 0 x n rfl rfl) (Its.of_at (by simpa using hl) fun i x n e1 e2 => h (i + 1) x n (by simpa using e1) (by simpa using e2))
theorem Its.append (h : Its H xs ns) (g : Its H ys ms) : Its H (xs ++ ys) (ns ++ ms) := by
  induction h with
  | nil => exact g
  | cons a _ ih => exact .cons a ih
theorem Its.snoc (h : Its H xs ns) (g : TI H x n) : Its H (xs ++ [x]) (ns ++ [n]) := h.append (.cons g .nil)
theorem Its.take (h : Its H xs ns) (k : Nat) : Its H (xs.take k) (ns.take k) := by
  induction h generalizing k with
  | nil => simpa using Its.nil
  | cons a _ ih =>
    cases k with
    | zero => simpa using Its.nil
    | succ k => exact .cons a (ih k)
theorem Its.drop (h : Its H xs ns) (k : Nat) : Its H (xs.drop k) (ns.drop k) := by
  induction h generalizing k with
  | nil => simpa using Its.nil
  | cons a r ih =>
    cases k with
    | zero => exact .cons a r
    | succ k => exact ih k
theorem Its.eraseIdx (h : Its H xs ns) (k : Nat) : Its H (xs.eraseIdx k) (ns.eraseIdx k) := by
  rw [List.eraseIdx_eq_take_drop_succ, List.eraseIdx_eq_take_drop_succ]
  exact (h.take k).append (h.drop _)
theorem Its.set (h : Its H xs ns) (k : Nat) (g : TI H x n) : Its H (xs.set k x) (ns.set k n) := by
  induction h generalizing k with
  | nil => simpa using Its.nil
  | cons a r ih =>
    cases k with
    | zero => exact .cons g r
    | succ k => exact .cons a (ih k)
theorem Its.mem (h : Its H xs ns) (e : x ∈ xs) : ∃ n ∈ ns, TI H x n := by
  obtain ⟨i, hi⟩ := List.mem_iff_getElem?.mp e
  obtain ⟨n, e2, t⟩ := h.at_ hi
  exact ⟨n, List.mem_of_getElem? e2, t⟩
theorem Its.perm (p : ys.Perm xs) : ∀ {ns : List (List Int)}, Its H xs ns → ∃ ms, ms.Perm ns ∧ Its H ys ms := by
  induction p with
  | nil => intro ns h; exact ⟨ns, .refl _, h⟩
  | cons x _ ih =>
    intro ns h
    cases h with
    | cons a r =>
      obtain ⟨ms, p, q⟩ := ih r
      exact ⟨_, p.cons _, .cons a q⟩
  | swap x y l =>
    intro ns h
    cases h with
    | cons a r =>
      cases r with
      | cons c r => exact ⟨_, .swap _ _ _, .cons c (.cons a r)⟩
  | trans _ _ h1 h2 =>
    intro ns h
    obtain ⟨m1, p1, q1⟩ := h2 h
    obtain ⟨m2, p2, q2⟩ := h1 q1
    exact ⟨m2, p2.trans p1, q2⟩
theorem Its.asc {B : Int} (h : Its H xs ns) (s : xs.Pairwise fun x y => ∀ n m, TupI K H x n → TupI K H y m → TS.code B n ≤ TS.code B m) : ns.Pairwise fun a b => TS.code B a ≤ TS.code B b := by
  induction h with
  | nil => exact .nil
  | cons a r ih =>
    obtain ⟨s1, s2⟩ := List.pairwise_cons.mp s
    refine List.pairwise_cons.mpr ⟨fun m hm => ?_, ih s2⟩
    obtain ⟨i, hi⟩ := List.mem_iff_getElem?.mp hm
    have hl := (List.getElem?_eq_some_iff.mp hi).1
    have e : _ = some _ := List.getElem?_eq_getElem (by rw [r.len]; exact hl)
    obtain ⟨m', e2, t⟩ := r.at_ e
    rw [hi] at e2
    cases e2
    exact s1 _ (List.mem_of_getElem? e) _ _ a.up t.up
theorem dpInts : ∀ n : List Int, DpAll K H (n.map V.int) (n.map PyData.int)
  | [] => .nil
  | a :: n => .cons (.int a) (dpInts n)
theorem TI.dp (h : TI H x n) : Dp K H x (tD n) := by
  obtain ⟨t, rfl, h⟩ := h
  exact .tup (SqT.of h) (dpInts n)
theorem Its.dp (h : Its H xs ns) : DpAll K H xs (ns.map tD) := by
  induction h with
  | nil => exact .nil
  | cons a _ ih => exact .cons a.dp ih
/-- lists that are not the box -/
theorem lst_ne (hb : BoxAt H b) (h : H l = some (.lst xs)) (g : Its H xs ns) : l ≠ b := by
  rintro rfl
  obtain ⟨l, ns, pos, rest, seed, cnt, e, _⟩ := hb
  rw [e] at h
  cases h
  cases g with
  | cons _ g =>
    cases g with
    | cons a _ =>
      obtain ⟨t, e, _⟩ := a
      cases e
/-- at l: a list of the items ns -/
def Ls (H : Hp) (l : Addr) (ns : List (List Int)) : Prop := ∃ xs, H l = some (.lst xs) ∧ Its H xs ns
theorem Ls.same (h : Ls H l ns) (g : Same H H') : Ls H' l ns := by
  obtain ⟨xs, e, h⟩ := h
  exact ⟨xs, g _ _ e, h.same g⟩
theorem Ls.keep (h : Ls H l ns) (hb : BoxAt H b) (k : Keep b H H') : Ls H' l ns := by
  obtain ⟨xs, e, h⟩ := h
  exact ⟨xs, k.1 _ _ (lst_ne hb e h) e, h.keep hb k⟩
theorem Ls.ne (h : Ls H l ns) (hb : BoxAt H b) : l ≠ b := by
  obtain ⟨xs, e, h⟩ := h
  exact lst_ne hb e h
theorem Ls.dp (h : Ls H l ns) : Dp K H (.ref l) (.list (ns.map tD)) := by
  obtain ⟨xs, e, h⟩ := h
  exact .lst (SqL.of e) h.dp
end
/-! ### data of items -/
theorem eqvI : ∀ n m : List Int, PyData.eqvAll (n.map PyData.int) (m.map PyData.int) = decide (n = m)
  | [], [] => by simp [PyData.eqvAll]
  | [], _ :: _ => by simp [PyData.eqvAll]
  | _ :: _, [] => by simp [PyData.eqvAll]
  | a :: n, b :: m => by
    rw [List.map_cons, List.map_cons]
    have e : PyData.eqvAll (PyData.int a :: n.map PyData.int) (PyData.int b :: m.map PyData.int) = ((a == b) && PyData.eqvAll (n.map PyData.int) (m.map PyData.int)) := by simp only [PyData.eqvAll, PyData.eqv]
    rw [e, eqvI n m]
    by_cases h : a = b
    · subst h
      by_cases g : n = m
      · subst g
        simp
      · simp [g]
    · simp [h]
theorem eqvT (n m : List Int) : PyData.eqv (tD n) (tD m) = decide (n = m) := by
  rw [← eqvI]
  unfold tD
  simp only [PyData.eqv]
theorem eqvTs : ∀ n m : List (List Int), PyData.eqvAll (n.map tD) (m.map tD) = decide (n = m)
  | [], [] => by simp [PyData.eqvAll]
  | [], _ :: _ => by simp [PyData.eqvAll]
  | _ :: _, [] => by simp [PyData.eqvAll]
  | a :: n, b :: m => by
    rw [List.map_cons, List.map_cons]
    have e : PyData.eqvAll (tD a :: n.map tD) (tD b :: m.map tD) = (PyData.eqv (tD a) (tD b) && PyData.eqvAll (n.map tD) (m.map tD)) := by simp only [PyData.eqvAll]
    rw [e, eqvTs n m, eqvT]
    by_cases h : a = b
    · subst h
      by_cases g : n = m
      · subst g
        simp
      · simp [g]
    · simp [h]
theorem eqvTT (n m : List (List Int)) : PyData.eqv (.tuple (n.map tD)) (.tuple (m.map tD)) = decide (n = m) := by
  rw [← eqvTs]
  simp only [PyData.eqv]
theorem eqvLL (n m : List (List Int)) : PyData.eqv (.list (n.map tD)) (.list (m.map tD)) = decide (n = m) := by
  rw [← eqvTs]
  simp only [PyData.eqv]
theorem layI : ∀ n : List Int, PyData.canLayAll0 (n.map PyData.int) = true
  | [] => by simp [PyData.canLayAll0]
  | a :: n => by
    have := layI n
    simp [PyData.canLayAll0, PyData.canLay0, this]
theorem depI : ∀ n : List Int, PyData.depthAll (n.map PyData.int) ≤ 1
  | [] => by simp [PyData.depthAll]
  | a :: n => by
    have := depI n
    simp only [List.map_cons, PyData.depthAll, PyData.depth]
    omega
theorem layT (n : List Int) : (tD n).canLay0 = true := by
  unfold tD
  simp only [PyData.canLay0]
  exact layI n
theorem depT (n : List Int) : (tD n).depth ≤ 2 := by
  have := depI n
  unfold tD
  simp only [PyData.depth]
  omega
theorem layTs : ∀ n : List (List Int), PyData.canLayAll0 (n.map tD) = true
  | [] => by simp [PyData.canLayAll0]
  | a :: n => by
    have := layTs n
    simp [PyData.canLayAll0, layT, this]
theorem depTs : ∀ n : List (List Int), PyData.depthAll (n.map tD) ≤ 2
  | [] => by simp [PyData.depthAll]
  | a :: n => by
    have := depTs n
    have := depT a
    simp only [List.map_cons, PyData.depthAll]
    omega
theorem shT (n : List Int) : SeqAt.shaped (tD n) = true := by
  show ((tD n).canLay0 && decide ((tD n).depth ≤ 64)) = true
  rw [layT, Bool.true_and]
  exact decide_eq_true (Nat.le_trans (depT n) (by decide))
theorem shTT (n : List (List Int)) : SeqAt.shaped (.tuple (n.map tD)) = true := by
  have := depTs n
  show (PyData.canLay0 (.tuple (n.map tD)) && decide (PyData.depth (.tuple (n.map tD)) ≤ 64)) = true
  rw [show PyData.canLay0 (.tuple (n.map tD)) = true by simp only [PyData.canLay0]; exact layTs n, Bool.true_and]
  refine decide_eq_true ?_
  simp only [PyData.depth]
  omega
theorem shLL (n : List (List Int)) : SeqAt.shaped (.list (n.map tD)) = true := by
  have := depTs n
  show (PyData.canLay0 (.list (n.map tD)) && decide (PyData.depth (.list (n.map tD)) ≤ 64)) = true
  rw [show PyData.canLay0 (.list (n.map tD)) = true by simp only [PyData.canLay0]; exact layTs n, Bool.true_and]
  refine decide_eq_true ?_
  simp only [PyData.depth]
  omega
theorem plI : ∀ n : List Int, PyData.plainAll (n.map PyData.int) = true
  | [] => by simp [PyData.plainAll]
  | a :: n => by
    have := plI n
    simp [PyData.plainAll, PyData.plain, this]
theorem plT (n : List Int) : (tD n).plain = true := by
  unfold tD
  simp only [PyData.plain]
  exact plI n
theorem plTs : ∀ n : List (List Int), PyData.plainAll (n.map tD) = true
  | [] => by simp [PyData.plainAll]
  | a :: n => by
    have := plTs n
    simp [PyData.plainAll, plT, this]
theorem cntT (l : List (List Int)) (n : List Int) : (l.map tD).countP (fun z => PyData.eqv z (tD n)) = l.count n := by
  rw [List.countP_map]
  unfold List.count
  refine List.countP_congr fun a _ => ?_
  show PyData.eqv (tD a) (tD n) = true ↔ (a == n) = true
  rw [eqvT]
  simp
theorem anyT (l : List (List Int)) (n : List Int) : ((l.map tD).any fun z => PyData.eqv z (tD n)) = decide (n ∈ l) := by
  rw [List.any_map]
  by_cases h : n ∈ l
  · rw [decide_eq_true h]
    refine List.any_eq_true.mpr ⟨n, h, ?_⟩
    show PyData.eqv (tD n) (tD n) = true
    rw [eqvT]
    exact decide_eq_true rfl
  · rw [decide_eq_false h]
    refine List.any_eq_false.mpr fun a ha z => ?_
    have z : PyData.eqv (tD a) (tD n) = true := z
    rw [eqvT] at z
    exact h (of_decide_eq_true z ▸ ha)
/-! ### equal data for _law_same -/
theorem ti_eqv {K : PySem.W.Frag} {b : Addr} {H : Hp} (hb : BoxAt H b) {x y : V} {n : List Int} (h : TI H x n) (g : TI H y n) (hl : n.length ≤ 1000) : EqV K b H 1 x y := by
  obtain ⟨t, rfl, ht⟩ := h
  obtain ⟨u, rfl, hu⟩ := g
  refine .inr ⟨t, u, _, _, rfl, rfl, tup_ne hb ht, tup_ne hb hu, .inr ⟨SqT.of ht, SqT.of hu⟩, by rw [List.length_map]; exact hl, rfl, fun i x y e1 e2 => ?_⟩
  rw [e1] at e2
  cases e2
  obtain ⟨z, _, rfl⟩ := at_int e1
  exact ⟨trivial, rfl⟩
theorem ls_eqv {K : PySem.W.Frag} {b : Addr} {H : Hp} (hb : BoxAt H b) {l m : Addr} {ns : List (List Int)} (h : Ls H l ns) (g : Ls H m ns) (hl : ∀ n ∈ ns, n.length ≤ 1000) (hn : ns.length ≤ 1000) : EqV K b H 2 (.ref l) (.ref m) := by
  have nl := h.ne hb
  have nm := g.ne hb
  obtain ⟨xs, e1, h⟩ := h
  obtain ⟨ys, e2, g⟩ := g
  refine .inr ⟨l, m, xs, ys, rfl, rfl, nl, nm, .inl ⟨SqL.of e1, SqL.of e2⟩, by rw [h.len]; exact hn, by rw [h.len, g.len], fun i x y e1 e2 => ?_⟩
  obtain ⟨n, i1, t1⟩ := h.at_ e1
  obtain ⟨n', i2, t2⟩ := g.at_ e2
  rw [i1] at i2
  cases i2
  exact ti_eqv hb t1 t2 (hl n (List.mem_of_getElem? i1))
theorem eqv_up {K : PySem.W.Frag} {b : Addr} {H : Hp} {n m : Nat} {x y : V} (h : EqV K b H n x y) (hl : n ≤ m) : EqV K b H m x y := by
  induction hl with
  | refl => exact h
  | step _ ih => exact ih.up
end K0

set_option maxRecDepth 100000
set_option maxHeartbeats 4000000
namespace K0
open PySem L2 BM BR

/-- at a: a Bag whose members are the items ns -/
def BagAt {K : PySem.W.Frag} {mg : Str → Option Value} (T : Txt K mg) (H : Hp) (a : Addr) (ns : List (List Int)) : Prop := ∃ (dx m : Addr) (xs : List V), H a = some (.ins T.C_Bag dx [("_members", .ref m)]) ∧ (∃ o : Obj, H m = some (.frz o (.tup xs)) ∧ o.cls = .type "tuple" ∧ o.dict = none) ∧ Its H xs ns
section
variable {K : PySem.W.Frag} {mg : Str → Option Value} {T : Txt K mg} {H H' : Hp} {a b : Addr} {ns : List (List Int)}
theorem BagAt.same (h : BagAt T H a ns) (g : Same H H') : BagAt T H' a ns := by
  obtain ⟨dx, m, xs, h1, ⟨o, h2, ho⟩, h3⟩ := h
  exact ⟨dx, m, xs, g _ _ h1, ⟨o, g _ _ h2, ho⟩, h3.same g⟩
theorem BagAt.keep (h : BagAt T H a ns) (hb : BoxAt H b) (k : Keep b H H') : BagAt T H' a ns := by
  obtain ⟨dx, m, xs, h1, ⟨o, h2, ho⟩, h3⟩ := h
  refine ⟨dx, m, xs, k.1 _ _ ?_ h1, ⟨o, k.1 _ _ ?_ h2, ho⟩, h3.keep hb k⟩
  · rintro rfl
    obtain ⟨l, ns, pos, rest, seed, cnt, e, _⟩ := hb
    rw [e] at h1
    cases h1
  · rintro rfl
    obtain ⟨l, ns, pos, rest, seed, cnt, e, _⟩ := hb
    rw [e] at h2
    cases h2
theorem BagAt.ins (h : BagAt T H a ns) : ∃ dx fs, H a = some (.ins T.C_Bag dx fs) := by
  obtain ⟨dx, m, xs, h1, _⟩ := h
  exact ⟨dx, _, h1⟩
theorem BagAt.memb (h : BagAt T H a ns) : ∃ dx m xs, H a = some (.ins T.C_Bag dx [("_members", .ref m)]) ∧ SqT K H m xs ∧ tyF (.ref m) H ∧ Its H xs ns := by
  obtain ⟨dx, m, xs, h1, ⟨o, h2, hc, hd⟩, h3⟩ := h
  exact ⟨dx, m, xs, h1, .inl (.inr ⟨o, h2⟩), ⟨m, o, xs, rfl, h2, hc, hd⟩, h3⟩
end
/-- what may stand as an argument of Bag: tuples and lists of ints -/
def Ar (K : PySem.W.Frag) (H : Hp) (x : V) (n : List Int) : Prop := ∃ t, x = .ref t ∧ (H t = some (.tup (n.map V.int)) ∨ SqL K H t (n.map V.int))
inductive Ars (K : PySem.W.Frag) (H : Hp) : List V → List (List Int) → Prop
  | nil : Ars K H [] []
  | cons {x : V} {xs : List V} {n : List Int} {ns : List (List Int)} : Ar K H x n → Ars K H xs ns → Ars K H (x :: xs) (n :: ns)
section
variable {K : PySem.W.Frag} {H H' : Hp} {x : V} {xs : List V} {n : List Int} {ns : List (List Int)}
theorem Ar.same (g : Same H H') (h : Ar K H x n) : Ar K H' x n := by
  obtain ⟨t, e, h⟩ := h
  exact ⟨t, e, h.imp (g _ _) g.seq⟩
theorem Ars.same (g : Same H H') (h : Ars K H xs ns) : Ars K H' xs ns := by
  induction h with
  | nil => exact .nil
  | cons a _ ih => exact .cons (a.same g) ih
theorem Ars.len (h : Ars K H xs ns) : xs.length = ns.length := by
  induction h with
  | nil => rfl
  | cons _ _ ih => rw [List.length_cons, List.length_cons, ih]
theorem Ars.at_ (h : Ars K H xs ns) {i : Nat} (e : xs[i]? = some x) : ∃ n, ns[i]? = some n ∧ Ar K H x n := by
  induction h generalizing i with
  | nil => simp at e
  | cons a _ ih =>
    cases i with
    | zero =>
      simp at e
      subst e
      exact ⟨_, rfl, a⟩
    | succ i => exact ih (by simpa using e)
theorem TI.ar (h : TI H x n) : Ar K H x n := by
  obtain ⟨t, e, h⟩ := h
  exact ⟨t, e, .inl h⟩
theorem Its.ars (h : Its H xs ns) : Ars K H xs ns := by
  induction h with
  | nil => exact .nil
  | cons a _ ih => exact .cons a.ar ih
end
def spInit {K : PySem.W.Frag} {mg : Str → Option Value} (T : Txt K mg) : Sp := fun vs H Q _ => ∃ (x dx t : Addr) (args : List V) (ns : List (List Int)) (d : Nat), vs = [.ref x, .ref t] ∧ H x = some (.ins T.C_Bag dx []) ∧ H t = some (.tup args) ∧ Ars K H args ns ∧ 1 ≤ d ∧ (∀ n ∈ ns, Ok d n) ∧ ns.length < 64 ∧
  ∀ H', (∀ y o, y ≠ x → H y = some o → H' y = some o) → BagAt T H' x (srt ns) → Q .non H'
def spInitR {K : PySem.W.Frag} {mg : Str → Option Value} (T : Txt K mg) : Sp := fun vs H Q E => ∃ ws rest, vs = ws ++ rest ∧ ws.length = ["self"].length ∧ rest.length ≤ sizeLine ∧ ∀ p, H p = none → spInit T (ws ++ [V.ref p]) (upd H p (.tup rest)) Q E
/-- a call of the class, as the rules ask -/
theorem init_of {K : PySem.W.Frag} {mg : Str → Option Value} {T : Txt K mg} {H : Hp} {args : List V} {ns : List (List Int)} {d : Nat} {R : Addr → Hp → Prop} {E : XK} (ha : Ars K H args ns) (hd : 1 ≤ d) (ho : ∀ n ∈ ns, Ok d n) (hl : ns.length < 64)
    (k : ∀ (x : Addr) (H' : Hp), Same H H' → BagAt T H' x (srt ns) → R x H') : ∀ x dx, H x = none → H dx = none → dx ≠ x → spInitR T (V.ref x :: args) (upd (upd H dx (.own x)) x (.ins T.C_Bag dx [])) (fun v H2 => v = .non ∧ R x H2) E := by
  intro x dx hx hdx hne
  refine ⟨[.ref x], args, rfl, rfl, by rw [ha.len]; exact Nat.le_of_lt (small1000 (by omega)), fun p hp => ?_⟩
  have g1 : Same H (upd (upd H dx (.own x)) x (.ins T.C_Bag dx [])) := fun y o e => by
    rw [upd_ne (ne_of_none e hx), upd_ne (ne_of_none e hdx)]
    exact e
  have ex : upd (upd H dx (.own x)) x (.ins T.C_Bag dx []) x = some (.ins T.C_Bag dx []) := upd_same
  generalize upd (upd H dx (.own x)) x (.ins T.C_Bag dx []) = H1 at g1 ex hp ⊢
  have g2 := same_new hp (.tup args)
  refine ⟨x, dx, p, args, ns, d, rfl, g2 _ _ ex, upd_same, (ha.same g1).same g2, hd, ho, hl, fun H' g hB => ⟨rfl, k x H' (fun y o e => ?_) hB⟩⟩
  exact g _ _ (ne_of_none e hx) (g2 _ _ (g1 _ _ e))
def Same' (x : Addr) (H H' : Hp) : Prop := ∀ y o, y ≠ x → H y = some o → H' y = some o
section
variable {P : Program} {w : World} {K : PySem.W.Frag} {mg : Str → Option Value} {base : Heap}
theorem ok_init (T : Txt K mg) : FnR P w K mg base CX0 1 T.f_m_init (spInitR T) := by
  obtain ⟨oc, od, kV, doc, pm, an, cdv, ct, osl, hfd, lk, hcd⟩ := T.F_m_init.ex
  rw [hfd] at lk
  refine StX.fn_star (sp := spInit T) (ps := ["self"]) (pv := "items") lk hcd sc_m_init StX.cxUp_none (StX.bind_star1 (B := fun us => bindArgs _ ⟨us, []⟩) (fun a => rfl) (fun a r rs => rfl)) (fun A outer s H vs Q E hr h => ?_)
  obtain ⟨x, dx, tp, args, ns, d, rfl, hx, ht, ha, hd, ho, hl, k⟩ := h
  suffices hh : ∃ t, PSs (cxOf CX0 P w K mg base ["self", "items", "item"] "Bag.__init__" (defScope s_m_init) T.f_m_init cdv A outer s H E).nox (defBody s_m_init) t ∧ t { nx := fun _ H' => Q .non H', rt := Q } (start ["self", "items", "item"] [V.ref x, V.ref tp]) H by
    obtain ⟨t, h1, h2⟩ := hh
    exact ⟨t, h1.nox, h2⟩
  refine ⟨_, (pss_one (ps_fld (pv 0) (pe_callTy (T := "tuple") call_tupleF (by rfl) T.z_tuple (by decide +kernel) (pa_cons (pe_callB (cr_sortT (d := d) (B := B10) hd) (by rfl) T.z_sorted (by decide +kernel) (pa_cons (pe_lc (own := [("item", 2)]) (g := gName 2) (tt := tYes) (te := tCB (rTupOf K) (tCons (tVar 2) tNil)) (by rfl) sc_m_init.nd (pi_tup (pv 1)) (blkOk_by (own := [("item", 2)]) (N := ["self", "items", "item"]) (sc := defScope s_m_init) (by decide +kernel)) (fun _ _ _ _ _ => (pg_name (i := 2) sc_m_init.nd rfl (Or.inl rfl))) (fun _ _ _ _ _ => pts_nil) (fun _ _ _ _ _ => (pe_callTy (T := "tuple") call_tupleD (by rfl) T.z_tuple (by decide +kernel) (pa_cons (pv 2) pa_nil)))) pa_nil)) pa_nil)) rfl)), ?_⟩
  refine ⟨_, rfl, tp, rfl, ⟨_, SqT.of ht⟩, fun D hD => lc_tup (K := K) (a := tp) (xs := args) (fun i Hx => Same H Hx ∧ ∃ ys, Hx D = some (.lst ys) ∧ Its Hx ys (ns.take i))
    ⟨same_new hD _, _, upd_same, .nil⟩ (fun i Hx _ ⟨gs, _⟩ => SqT.of (gs _ _ ht)) ?_ ?_⟩
  · rintro i z Hx hi ⟨gs, ys, eD, hI⟩
    obtain ⟨n, hn, u, rfl, hu⟩ := (ha.same gs).at_ hi
    have hlen := hI.len
    rw [List.length_take] at hlen
    have next : ∀ (Hy : Hp) (v : V), Same Hx Hy → TI Hy v n → ∃ acc, Hy D = some (.lst acc) ∧ acc.length < sizeLine ∧ Same H (upd Hy D (.lst (acc ++ [v]))) ∧ ∃ ys, upd Hy D (.lst (acc ++ [v])) D = some (.lst ys) ∧ Its (upd Hy D (.lst (acc ++ [v]))) ys (ns.take (i + 1)) := fun Hy v gy tv => by
      refine ⟨ys, gy _ _ eD, small1000 (by omega), fun y o e => ?_, _, upd_same, ?_⟩
      · rw [upd_ne (ne_of_none e hD)]
        exact gy _ _ (gs _ _ e)
      · rw [List.take_add_one, hn]
        refine ((hI.same gy).snoc tv).mono fun x m ⟨q, e, hq⟩ => ⟨q, e, ?_⟩
        rw [upd_ne]
        · exact hq
        · rintro rfl
          rw [gy _ _ eD] at hq
          cases hq
    refine ⟨rfl, _, rfl, u, n.map V.int, rfl, ?_⟩
    rcases hu with hu | hu
    · exact .inr ⟨SqT.of hu, next Hx _ (Same.refl _) ⟨u, rfl, hu⟩⟩
    · exact .inl ⟨hu, fun p hp => next _ _ (same_new hp _) ⟨p, rfl, upd_same⟩⟩
  rintro Hx ⟨gs, ys, eD, hI⟩
  have e0 : ns.take args.length = ns := by rw [ha.len]; exact List.take_length
  rw [e0] at hI
  refine ⟨D, ys, rfl, SqL.of eD, by rw [hI.len]; exact hl, fun x hx => ?_, fun zs p hp hs hpn => ?_⟩
  · obtain ⟨n, hn, t⟩ := hI.mem hx
    obtain ⟨o1, o2⟩ := ho n hn
    exact ⟨n, t.up, o1, o2⟩
  obtain ⟨ms, hm, hJ⟩ := Its.perm hp hI
  have hasc := hJ.asc hs
  have em : ms = srt ns := srt_of ho hm hasc
  subst em
  have g1 := same_new hpn (.lst zs)
  have e1 : upd Hx p (.lst zs) p = some (.lst zs) := upd_same
  generalize upd Hx p (.lst zs) = H1 at g1 e1 ⊢
  refine ⟨p, _, rfl, SqL.of e1, fun q o hq oc od => ?_⟩
  have g2 := same_new hq (.frz o (.tup zs))
  have e2 : upd H1 q (.frz o (.tup zs)) q = some (.frz o (.tup zs)) := upd_same
  generalize upd H1 q (.frz o (.tup zs)) = H2 at g2 e2 ⊢
  have hx2 := g2 _ _ (g1 _ _ (gs _ _ hx))
  refine ⟨_, rfl, x, _, dx, _, rfl, hx2, T.cl, T.n__members, (by show 0 < 1000; decide), ?_⟩
  refine k _ (fun y o n hy => ?_) ⟨dx, q, zs, upd_same, ⟨o, ?_, oc, od⟩, ?_⟩
  · rw [upd_ne n]
    exact g2 _ _ (g1 _ _ (gs _ _ hy))
  · rw [upd_ne (ne_of e2 hx2 (by intro z; cases z))]
    exact e2
  · refine ((hJ.same g1).same g2).mono fun v n ⟨u, e, hu⟩ => ⟨u, e, ?_⟩
    rw [upd_ne (ne_of hu hx2 (by intro z; cases z))]
    exact hu
end
end K0

set_option maxRecDepth 100000
set_option maxHeartbeats 4000000
namespace K0
open PySem L2 BM BR

theorem Ls.of {H : Hp} {l : Addr} {xs : List V} {ns : List (List Int)} (e : H l = some (.lst xs)) (h : Its H xs ns) : Ls H l ns := ⟨xs, e, h⟩
theorem room65 {A : Around} {k : Nat} (hr : Room k A) : A.units + 65 < cLine := by have := hr.un; omega
theorem tyBag {K : PySem.W.Frag} {mg : Str → Option Value} (T : Txt K mg) {H : Hp} {a : Addr} {ns : List (List Int)} (h : BagAt T H a ns) : TyX K H (.ref a) (.ref T.C_Bag) := by
  obtain ⟨d, m, xs, h1, _⟩ := h
  exact .base (.ins h1 T.cl T.ca T.cn T.ct T.mo)
def spTimes {K : PySem.W.Frag} {mg : Str → Option Value} (T : Txt K mg) : Sp := fun vs H Q _ => ∃ (a : Addr) (y : V) (ns : List (List Int)) (n : List Int), vs = [.ref a, y] ∧ BagAt T H a ns ∧ Ar K H y n ∧ ∀ H', Same H H' → Q (.int (ns.count n : Nat)) H'
def spHas {K : PySem.W.Frag} {mg : Str → Option Value} (T : Txt K mg) : Sp := fun vs H Q _ => ∃ (a : Addr) (y : V) (ns : List (List Int)) (n : List Int), vs = [.ref a, y] ∧ BagAt T H a ns ∧ Ar K H y n ∧ ∀ H', Same H H' → Q (.bl (decide (n ∈ ns))) H'
def spListed {K : PySem.W.Frag} {mg : Str → Option Value} (T : Txt K mg) : Sp := fun vs H Q _ => ∃ (a : Addr) (ns : List (List Int)), vs = [.ref a] ∧ BagAt T H a ns ∧ ∀ (l : Addr) H', Same H H' → H l = none → Ls H' l ns → Q (.ref l) H'
def spLen {K : PySem.W.Frag} {mg : Str → Option Value} (T : Txt K mg) : Sp := fun vs H Q _ => ∃ (a : Addr) (ns : List (List Int)), vs = [.ref a] ∧ BagAt T H a ns ∧ Q (.int (ns.length : Nat)) H
def spAdd {K : PySem.W.Frag} {mg : Str → Option Value} (T : Txt K mg) : Sp := fun vs H Q _ => ∃ (a b : Addr) (ns ms : List (List Int)) (d : Nat), vs = [.ref a, .ref b] ∧ BagAt T H a ns ∧ BagAt T H b ms ∧ 1 ≤ d ∧ (∀ n ∈ ns, Ok d n) ∧ (∀ n ∈ ms, Ok d n) ∧ ns.length + ms.length < 64 ∧
  ∀ (x : Addr) H', Same H H' → BagAt T H' x (srt (ns ++ ms)) → Q (.ref x) H'
def spEqB {K : PySem.W.Frag} {mg : Str → Option Value} (T : Txt K mg) : Sp := fun vs H Q _ => ∃ (a : Addr) (y : V) (ns : List (List Int)), vs = [.ref a, y] ∧ BagAt T H a ns ∧
  ((∃ (b : Addr) (ms : List (List Int)), y = .ref b ∧ BagAt T H b ms ∧ Q (.bl (decide (ns = ms))) H) ∨ (∃ ty, TyX K H y ty ∧ PySem.W.kitOne K ty (.ref T.C_Bag) = some false ∧ Q (.bl false) H))
def txtB (n : Nat) : Str := Str.empty ++ Str.ofString "Bag(" ++ (toString (n : Int) : Str) ++ Str.ofString " items)"
theorem txt_len : ∀ n : Nat, n < 101 → (Str.ofString (toString (n : Int))).length ≤ 10 := by decide +kernel
def spRep {K : PySem.W.Frag} {mg : Str → Option Value} (T : Txt K mg) : Sp := fun vs H Q _ => ∃ (a : Addr) (ns : List (List Int)), vs = [.ref a] ∧ BagAt T H a ns ∧ ns.length ≤ 100 ∧ Q (.str (txtB ns.length)) H
section
variable {P : Program} {w : World} {K : PySem.W.Frag} {mg : Str → Option Value} {base : Heap}
theorem ok_m_times (T : Txt K mg) : FnOk P w K mg base CX0 1 T.f_m_times T.fd_m_times ["self", "item"] (spTimes T) := by
  refine T.F_m_times.ok sc_m_times (fun vs H Q E h => ?_) (fun cdv A outer s H vs Q E hr h => ?_)
  · obtain ⟨a, y, ns, n, rfl, _⟩ := h
    rfl
  · obtain ⟨a, y, ns, n, rfl, hbag, ⟨u, rfl, hu⟩, k⟩ := h
    refine ⟨_, (pss_one (ps_ret (pe_bmT PySem.F.plainAttrs_tuple PySem.F.slot_tuple_count PySem.F.type_tuple_count (BR.mt_tcountD (room65 hr)) (pe_fld (pv 0) rfl) (pa_cons (pe_callTy (T := "tuple") call_tupleD (by rfl) T.z_tuple (by decide +kernel) (pa_cons (pv 1) pa_nil)) pa_nil)))), ?_⟩
    obtain ⟨d, m, xs, h1, h2, hty, h3⟩ := hbag.memb
    refine ⟨_, rfl, a, _, d, _, _, rfl, h1, T.cl, T.n__members, rfl, hty, _, rfl, u, n.map V.int, rfl, ?_⟩
    have fin : ∀ (Hy : Hp) (v : V), Same H Hy → TI Hy v n → rCntD K .tuple (.ref m) [v] Hy Q := fun Hy v g tv => by
      refine ⟨m, v, tD n, ns.map tD, rfl, rfl, .tup (Same.seqT' g h2) (h3.same g).dp, tv.dp, plTs _, plT _, Nat.le_trans (depT _) (by decide), ?_⟩
      rw [cntT]
      exact k _ g
    rcases hu with hu | hu
    · exact .inr ⟨SqT.of hu, fin H _ (Same.refl _) ⟨u, rfl, hu⟩⟩
    · exact .inl ⟨hu, fun p hp => fin _ _ (same_new hp _) ⟨p, rfl, upd_same⟩⟩
theorem ok_m_contains (T : Txt K mg) : FnOk P w K mg base CX0 1 T.f_m_contains T.fd_m_contains ["self", "item"] (spHas T) := by
  refine T.F_m_contains.ok sc_m_contains (fun vs H Q E h => ?_) (fun cdv A outer s H vs Q E hr h => ?_)
  · obtain ⟨a, y, ns, n, rfl, _⟩ := h
    rfl
  · obtain ⟨a, y, ns, n, rfl, hbag, ⟨u, rfl, hu⟩, k⟩ := h
    refine ⟨_, (pss_one (ps_ret (pe_cmpR (op_inDT (room65 hr)) (pe_callTy (T := "tuple") call_tupleD (by rfl) T.z_tuple (by decide +kernel) (pa_cons (pv 1) pa_nil)) (pe_fld (pv 0) rfl) (by rfl)))), ?_⟩
    obtain ⟨d, m, xs, h1, h2, hty, h3⟩ := hbag.memb
    refine ⟨_, rfl, u, n.map V.int, rfl, ?_⟩
    have fin : ∀ (Hy : Hp) (v : V), Same H Hy → TI Hy v n → rInDT K v (.ref m) Hy Q := fun Hy v g tv => by
      refine ⟨tD n, ns.map tD, tv.dp, .tup (Same.seqT' g h2) (h3.same g).dp, shT _, shTT _, ?_⟩
      rw [anyT]
      exact k _ g
    rcases hu with hu | hu
    · exact .inr ⟨SqT.of hu, _, rfl, a, _, d, _, _, rfl, h1, T.cl, T.n__members, rfl, fin H _ (Same.refl _) ⟨u, rfl, hu⟩⟩
    · refine .inl ⟨hu, fun p hp => ?_⟩
      have g := same_new hp (.tup (n.map V.int))
      exact ⟨_, rfl, a, _, d, _, _, rfl, g _ _ h1, T.cl, T.n__members, rfl, fin _ _ g ⟨p, rfl, upd_same⟩⟩
theorem ok_m_listed (T : Txt K mg) : FnOk P w K mg base CX0 1 T.f_m_listed T.fd_m_listed ["self"] (spListed T) := by
  refine T.F_m_listed.ok sc_m_listed (fun vs H Q E h => ?_) (fun cdv A outer s H vs Q E hr h => ?_)
  · obtain ⟨a, ns, rfl, _⟩ := h
    rfl
  · obtain ⟨a, ns, rfl, hbag, k⟩ := h
    refine ⟨_, (pss_one (ps_ret (pe_callTy call_listD (by rfl) T.z_list (by decide +kernel) (pa_cons (pe_fld (pv 0) rfl) pa_nil)))), ?_⟩
    obtain ⟨d, m, xs, h1, h2, hty, h3⟩ := hbag.memb
    refine ⟨_, rfl, a, _, d, _, _, rfl, h1, T.cl, T.n__members, rfl, m, xs, rfl, .inr h2, fun l hl => ?_⟩
    have g := same_new hl (.lst xs)
    exact k l _ g hl ⟨xs, upd_same, h3.same g⟩
theorem ok_m_len (T : Txt K mg) : FnOk P w K mg base CX0 1 T.f_m_len T.fd_m_len ["self"] (spLen T) := by
  refine T.F_m_len.ok sc_m_len (fun vs H Q E h => ?_) (fun cdv A outer s H vs Q E hr h => ?_)
  · obtain ⟨a, ns, rfl, _⟩ := h
    rfl
  · obtain ⟨a, ns, rfl, hbag, k⟩ := h
    refine ⟨_, (pss_one (ps_ret (pe_callB call_len_seq (by rfl) T.z_len PySem.boot_len (pa_cons (pe_fld (pv 0) rfl) pa_nil)))), ?_⟩
    obtain ⟨d, m, xs, h1, h2, hty, h3⟩ := hbag.memb
    refine ⟨_, rfl, a, _, d, _, _, rfl, h1, T.cl, T.n__members, rfl, m, xs, rfl, .inr h2, ?_⟩
    rw [h3.len]
    exact k
theorem ok_m_add (T : Txt K mg) : FnOk P w K mg base CX0 3 T.f_m_add T.fd_m_add ["self", "other"] (spAdd T) := by
  refine T.F_m_add.ok sc_m_add (fun vs H Q E h => ?_) (fun cdv A outer s H vs Q E hr h => ?_)
  · obtain ⟨a, b, ns, ms, d, rfl, _⟩ := h
    rfl
  · obtain ⟨a, b, ns, ms, d, rfl, hA, hB, hd, ho, hp, hl, k⟩ := h
    refine ⟨_, (pss_cons (ps_set (i := 2) sc_m_add.nd rfl (Or.inl rfl) (pe_op op_cat (pe_meth0 (pv 0) T.cl T.me_m_listed (ok_m_listed T) (hr.mono (by decide)) T.b_m_listed .nil pass0) (pe_meth0 (pv 1) T.cl T.me_m_listed (ok_m_listed T) (hr.mono (by decide)) T.b_m_listed .nil pass0)))
      (pss_one (ps_ret (BR.pe_makeRS T.mk_ (ok_init T) (hr.mono (by decide)) (by rfl) T.gC_Bag pass0 (pv 2))))), ?_⟩
    have hA0 := hA
    obtain ⟨dx, m, xs, h1, h2, h3⟩ := hA0
    have hB0 := hB
    obtain ⟨dy, m', ys, h1', h2', h3'⟩ := hB0
    refine ⟨_, rfl, a, dx, _, rfl, h1, rfl, a, ns, rfl, hA, fun l1 H1 g1 n1 e1 => ?_⟩
    refine ⟨_, rfl, b, dy, _, rfl, g1 _ _ h1', rfl, b, ms, rfl, hB.same g1, fun l2 H2 g2 n2 e2 => ?_⟩
    obtain ⟨xs1, e1, i1⟩ := e1.same g2
    obtain ⟨xs2, e2, i2⟩ := e2
    refine ⟨l1, l2, xs1, xs2, rfl, rfl, e1, e2, by rw [i1.len, i2.len]; exact Nat.le_of_lt (small1000 (by omega)), fun p hp' => ?_⟩
    have g3 := same_new hp' (.lst (xs1 ++ xs2))
    have e3 : upd H2 p (.lst (xs1 ++ xs2)) p = some (.lst (xs1 ++ xs2)) := upd_same
    generalize upd H2 p (.lst (xs1 ++ xs2)) = H3 at g3 e3 ⊢
    have g := g1.trans (g2.trans g3)
    refine ⟨_, rfl, p, xs1 ++ xs2, rfl, .inr (SqL.of e3), init_of (d := d) (((i1.append i2).same g3).ars) hd (fun n hn => ?_) ?_ fun x H' g4 hx => k x H' (g.trans g4) hx⟩
    · rcases List.mem_append.mp hn with z | z
      · exact ho n z
      · exact hp n z
    · rw [List.length_append]
      exact hl
theorem ok_m_eq (T : Txt K mg) : FnOk P w K mg base CX0 1 T.f_m_eq T.fd_m_eq ["self", "other"] (spEqB T) := by
  refine T.F_m_eq.ok sc_m_eq (fun vs H Q E h => ?_) (fun cdv A outer s H vs Q E hr h => ?_)
  · obtain ⟨a, y, ns, rfl, _⟩ := h
    rfl
  · obtain ⟨a, y, ns, rfl, hA, k⟩ := h
    refine ⟨_, (pss_one (ps_ret (pe_and (pe_callB call_isi (by rfl) T.z_isinstance (by decide +kernel) (pa_cons (pv 1) (pa_cons (pe_glob (v := .ref T.C_Bag) (by rfl) T.gC_Bag rfl) pa_nil))) (pe_one (pe_cmpR (op_eqD hr.units) (pe_fld (pv 0) rfl) (pe_fld (pv 1) rfl) (nomark _)))))), ?_⟩
    obtain ⟨d, m, xs, h1, h2, _, h3⟩ := hA.memb
    rcases k with ⟨b, ms, rfl, hB, k⟩ | ⟨ty, hty, hk, k⟩
    · obtain ⟨d', m', ys, h1', h2', _, h3'⟩ := hB.memb
      refine ⟨_, rfl, _, _, _, _, _, rfl, .own _, tyBag T hB, T.kk, _, rfl, iteT ?_⟩
      refine ⟨_, rfl, a, _, d, _, _, rfl, h1, T.cl, T.n__members, rfl, _, rfl, b, _, d', _, _, rfl, h1', T.cl, T.n__members, rfl, _, _, .tup h2 h3.dp, .tup h2' h3'.dp, shTT _, shTT _, ?_⟩
      rw [eqvTT]
      exact k
    · exact ⟨_, rfl, _, _, _, _, _, rfl, .own _, hty, hk, _, rfl, iteF k⟩
theorem ok_m_repr (T : Txt K mg) : FnOk P w K mg base CX0 1 T.f_m_repr T.fd_m_repr ["self"] (spRep T) := by
  refine T.F_m_repr.ok sc_m_repr (fun vs H Q E h => ?_) (fun cdv A outer s H vs Q E hr h => ?_)
  · obtain ⟨a, ns, rfl, _⟩ := h
    rfl
  · obtain ⟨a, ns, rfl, hbag, hl, k⟩ := h
    refine ⟨_, (pss_one (ps_ret (pe_joined (PJ.cons pe_str (PJ.cons (pe_fmt (pe_callB call_len_seq (by rfl) T.z_len PySem.boot_len (pa_cons (pe_fld (pv 0) rfl) pa_nil))) (PJ.cons pe_str PJ.nil)))))), ?_⟩
    obtain ⟨d, m, xs, h1, h2, hty, h3⟩ := hbag.memb
    have hz := txt_len ns.length (by omega)
    have hs1 : 100 ≤ sizeLine := by decide
    have e0 : (Str.empty ++ Str.ofString "Bag(").length = 4 := by decide +kernel
    have e2 : (Str.ofString " items)").length = 7 := by decide +kernel
    have el := h3.len
    refine ⟨_, rfl, (by rw [e0]; omega), ?_⟩
    refine ⟨_, rfl, a, _, d, _, _, rfl, h1, T.cl, T.n__members, rfl, m, _, rfl, .inr h2, .inr ⟨_, rfl, ?_, _, rfl, ?_, _, rfl, ?_, ?_⟩⟩
    · exact Nat.lt_trans (PySem.Flt.log2_lt_of (by decide : 0 < 64) (by omega)) (by decide)
    · rw [Str.length_append, e0, el]
      omega
    · rw [Str.length_append, Str.length_append, e0, e2, el]
      omega
    · rw [el]
      exact k
end
end K0

set_option maxRecDepth 100000
set_option maxHeartbeats 4000000
namespace K0
open PySem L2 BM BR

theorem cut_from2 (xs : List V) (h : 2 ≤ xs.length) : cutV xs (some 2) none = xs.drop 2 := by
  unfold cutV
  rw [HT.sIx_none, show (some (2 : Int)) = some ((2 : Nat) : Int) from rfl, HT.sIx_nat, Nat.min_eq_left h]
  exact List.take_of_length_le (by rw [List.length_drop]; exact Nat.le_refl _)
theorem at_nat {xs : List Int} {i : Nat} {z : Int} (h : xs[i]? = some z) : atI (xs.map V.int) ((i : Nat) : Int) = some (.int z) := atI_nat (by rw [List.getElem?_map, h]; rfl)
theorem getD_of {xs : List Int} {i : Nat} {z : Int} (h : xs[i]? = some z) : xs.getD i 0 = z := by rw [List.getD_eq_getElem?_getD, h]; rfl
theorem Ls.snoc {H : Hp} {D : Addr} {ns : List (List Int)} {n : List Int} {v : V} {acc : List V} (e : H D = some (.lst acc)) (h : Its H acc ns) (tv : TI H v n) : Ls (upd H D (.lst (acc ++ [v]))) D (ns ++ [n]) := by
  refine ⟨_, upd_same, (h.snoc tv).mono fun x m ⟨q, e2, hq⟩ => ⟨q, e2, ?_⟩⟩
  rw [upd_ne]
  · exact hq
  · rintro rfl
    rw [e] at hq
    cases hq
def spMerged {K : PySem.W.Frag} {mg : Str → Option Value} (T : Txt K mg) : Sp := fun vs H Q _ => ∃ (a : Addr) (ns : List (List Int)) (g p : Int) (d : Nat), vs = [.ref a, .int g, .int p] ∧ BagAt T H a ns ∧ 0 < p ∧ p ≤ B10 ∧ d ≤ 100 ∧ (∀ n ∈ ns, Ok (d + 2) n) ∧ ns.length < 64 ∧
  ∀ (x : Addr) H', Same H H' → BagAt T H' x (srt (ns.map (mrg g p))) → Q (.ref x) H'
def spProduct {K : PySem.W.Frag} {mg : Str → Option Value} (T : Txt K mg) : Sp := fun vs H Q _ => ∃ (a : Addr) (ns : List (List Int)) (z p : Int), vs = [.ref a, .int z, .int p] ∧ BagAt T H a ns ∧ 0 < p ∧ p ≤ B10 ∧ (∀ n ∈ ns, Ok 1 n) ∧ Q (.int (prd p z ns)) H
theorem prd_take {p z : Int} {ns : List (List Int)} {i : Nat} {n : List Int} (h : ns[i]? = some n) : prd p z (ns.take (i + 1)) = stepP p z (prd p z (ns.take i)) n := by
  unfold prd
  rw [List.take_add_one, h, List.foldl_append]
  rfl
theorem prd_bd {p z : Int} (p0 : 0 < p) (p1 : p ≤ B10) (ns : List (List Int)) : 0 ≤ prd p z ns ∧ prd p z ns ≤ B10 := by
  have key : ∀ (l : List (List Int)) (t : Int), 0 ≤ t → t ≤ B10 → 0 ≤ l.foldl (stepP p z) t ∧ l.foldl (stepP p z) t ≤ B10 := by
    intro l
    induction l with
    | nil => intro t h1 h2; exact ⟨h1, h2⟩
    | cons n l ih =>
      intro t h1 h2
      have := Int.emod_nonneg (t * (z - n.getD 0 0)) (show p ≠ 0 by omega)
      have := Int.emod_lt_of_pos (t * (z - n.getD 0 0)) p0
      exact ih _ (by unfold stepP; omega) (by unfold stepP; omega)
  exact key ns 1 (by decide) (by decide)
section
variable {P : Program} {w : World} {K : PySem.W.Frag} {mg : Str → Option Value} {base : Heap}
theorem ok_m_product (T : Txt K mg) : FnOk P w K mg base CX0 1 T.f_m_product T.fd_m_product ["self", "worth", "p"] (spProduct T) := by
  refine T.F_m_product.ok sc_m_product (fun vs H Q E h => ?_) (fun cdv A outer s H vs Q E hr h => ?_)
  · obtain ⟨a, ns, z, p, rfl, _⟩ := h
    rfl
  · obtain ⟨a, ns, z, p, rfl, hbag, p0, p1, ho, k⟩ := h
    refine ⟨_, (pss_cons (ps_set (i := 3) sc_m_product.nd rfl (Or.inl rfl) pe_int)
      (pss_cons (ps_for PassesOwn.never rfl (pi_tup (pe_fld (pv 0) rfl)) (pg_name (i := 4) sc_m_product.nd rfl (Or.inl rfl)) (pss_one (ps_set (i := 3) sc_m_product.nd rfl (Or.inl rfl) (pe_op op_mod (pe_op op_mul (pv 3) (pe_op op_sub (pv 1) (pe_ix ix_tup (pv 4) pe_int (fun _ _ => rfl)))) (pv 2)))))
      (pss_one (ps_ret (pv 3))))), ?_⟩
    obtain ⟨dx, m, xs, h1, h2, hty, h3⟩ := hbag.memb
    refine ⟨_, rfl, a, _, dx, _, _, rfl, h1, T.cl, T.n__members, rfl, m, rfl, ⟨_, h2⟩, for_tup (K := K) (a := m) (xs := xs) (fun i σ Hx => Hx = H ∧ ∃ v, σ = [some (.ref a), some (.int z), some (.int p), some (.int (prd p z (ns.take i))), v])
      ⟨rfl, _, rfl⟩ (fun i σ Hx _ ⟨e, _⟩ => by rw [e]; exact h2) ?_ ?_⟩
    · rintro i y σ Hx hi ⟨rfl, v, rfl⟩
      obtain ⟨n, hn, u, rfl, hu⟩ := h3.at_ hi
      obtain ⟨o1, o2⟩ := ho n (List.mem_of_getElem? hn)
      have z0 : n[0]? = some n[0] := List.getElem?_eq_getElem (by omega)
      have hB : B10 = 10000000000 := rfl
      obtain ⟨t0, t1⟩ := prd_bd (z := z) p0 p1 (ns.take i)
      refine ⟨_, rfl, _, rfl, _, rfl, u, _, _, _, rfl, rfl, SqT.of hu, at_nat z0, _, _, rfl, rfl, _, _, rfl, rfl, .inl ⟨by omega, by omega⟩, _, rfl, _, _, rfl, rfl, p0, rfl, some (.ref u), ?_⟩
      rw [prd_take hn]
      unfold stepP
      rw [getD_of z0]
      rfl
    · rintro σ Hx ⟨rfl, v, rfl⟩
      refine ⟨_, rfl, ?_⟩
      rw [h3.len, List.take_length]
      exact k
end
end K0

set_option maxRecDepth 100000
set_option maxHeartbeats 4000000
namespace K0
open PySem L2 BM BR

def spBag {K : PySem.W.Frag} {mg : Str → Option Value} (T : Txt K mg) : Sp := fun vs H Q _ => ∃ (b l : Addr) (ns : List (List Int)) (d : Nat), vs = [.ref b, .ref l] ∧ BoxAt H b ∧ Ls H l ns ∧ 1 ≤ d ∧ (∀ n ∈ ns, Ok d n) ∧ ns.length < 60 ∧
  ∀ (x : Addr) H', BoxAt H' b → Keep b H H' → BagAt T H' x (srt ns) → Q (.ref x) H'
theorem fit_ok {i : Int} (h : 0 ≤ i) (g : i < 1000000) : Builtin.Range.rangeFitsLong i = true := by
  unfold Builtin.Range.rangeFitsLong
  rw [decide_eq_true (by omega), decide_eq_true (by omega)]
  rfl
theorem rs2 (m : Nat) : Builtin.Range.rangeSize 0 (m : Int) 2 = if 0 < (m : Int) then ((m : Int) - 0 - 1) / 2 + 1 else 0 := by
  unfold Builtin.Range.rangeSize
  simp only [show ((2 : Int) > 0) by decide, if_true]
theorem rgc2 (m : Nat) (h : m < 1000) : RgC 0 (m : Int) 2 ((m + 1) / 2) := by
  refine ⟨by decide, by decide, ?_, ?_⟩
  · have e := rs2 m
    generalize hs : Builtin.Range.rangeSize 0 (m : Int) 2 = sz at e
    have b0 : 0 ≤ sz ∧ sz < 1000 := by
      rw [e]
      split <;> omega
    unfold Builtin.Range.small
    rw [hs]
    rw [if_pos (by decide), fit_ok (by decide) (by decide), fit_ok (by omega) (by omega), fit_ok (by decide) (by decide), fit_ok (by omega) (by omega), fit_ok (by omega) (by omega), Bool.or_true]
    rfl
  · rw [rs2]
    split <;> omega
theorem srt_nil : srt [] = [] := by unfold srt; simp
theorem srt_app {d : Nat} {l m : List (List Int)} (h : ∀ n ∈ l ++ m, Ok d n) : srt (srt l ++ srt m) = srt (l ++ m) := by
  have p : (srt l ++ srt m).Perm (l ++ m) := (srt_perm l).append (srt_perm m)
  exact srt_eq (fun a ha => h a (p.mem_iff.mp ha)) p
theorem Its.at' {H : Hp} {xs : List V} {ns : List (List Int)} (h : Its H xs ns) {i : Nat} (hi : i < ns.length) : ∃ x n, xs[i]? = some x ∧ ns[i]? = some n ∧ TI H x n := by
  have e : xs[i]? = some _ := List.getElem?_eq_getElem (by rw [h.len]; exact hi)
  obtain ⟨n, e2, t⟩ := h.at_ e
  exact ⟨_, n, e, e2, t⟩
theorem atI_ix {xs : List V} {i : Nat} {v : V} (h : xs[i]? = some v) : atI xs ((i : Nat) : Int) = some v := atI_nat h
section
variable {P : Program} {w : World} {K : PySem.W.Frag} {mg : Str → Option Value} {base : Heap}
theorem ok_bag (T : Txt K mg) : FnOk P w K mg base CX0 5 T.f_bag T.fd_bag ["box", "items"] (spBag T) := by
  refine T.F_bag.ok sc_bag (fun vs H Q E h => ?_) (fun cdv A outer s H vs Q E hr h => ?_)
  · obtain ⟨b, l, ns, d, rfl, _⟩ := h
    rfl
  · obtain ⟨b, l, ns, d, rfl, hB, hL, hd, ho, hl60, k⟩ := h
    refine ⟨_, (pss_cons (ps_par (i := 2) (j := 3) (by rfl) sc_bag.nd rfl rfl (by decide) rfl rfl (pa_cons (pe_call (ok_draw T) (hr.mono (by decide)) (by rfl) T.g_draw T.F_draw.kp T.b_draw .nil pass0 (pa_cons (pv 0) (pa_cons pe_int pa_nil))) (pa_cons (BR.pe_makeR0 T.mk_ (ok_init T) (hr.mono (by decide)) (by rfl) T.gC_Bag pass0) pa_nil)) (by rfl))
      (C8.pss_cut (ps_if (PW.pt (pw_and (pt_cmpR op_gt (pv 2) pe_int (nomark _)) (pw_and1 (pt_cmpR op_eq (pe_callB call_len_seq (by rfl) T.z_len PySem.boot_len (pa_cons (pv 1) pa_nil)) pe_int (nomark _))))) (pss_one (ps_ret (StX.pe_makeR T.mk_ (ok_init T) (hr.mono (by decide)) (by rfl) T.gC_Bag pass0 (pa_cons (pe_ix ix_list (pv 1) pe_int (fun _ _ => rfl)) pa_nil)))) pss_nil)
      (C8.pss_cut (ps_if (PW.pt (pw_and (pt_cmpR op_gt (pv 2) pe_int (nomark _)) (pw_and1 (pt_cmpR op_eq (pe_callB call_len_seq (by rfl) T.z_len PySem.boot_len (pa_cons (pv 1) pa_nil)) pe_int (nomark _))))) (pss_one (ps_ret (StX.pe_makeR T.mk_ (ok_init T) (hr.mono (by decide)) (by rfl) T.gC_Bag pass0 (pa_cons (pe_ix ix_list (pv 1) pe_int (fun _ _ => rfl)) (pa_cons (pe_ix ix_list (pv 1) pe_int (fun _ _ => rfl)) pa_nil))))) pss_nil)
      (C8.pss_cut (ps_if (PW.pt (pw_and (pt_cmpR op_gt (pv 2) pe_int (nomark _)) (pw_and1 (pt_cmpR op_eq (pe_callB call_len_seq (by rfl) T.z_len PySem.boot_len (pa_cons (pv 1) pa_nil)) pe_int (nomark _))))) (pss_one (ps_ret (StX.pe_makeR T.mk_ (ok_init T) (hr.mono (by decide)) (by rfl) T.gC_Bag pass0 (pa_cons (pe_ix ix_list (pv 1) pe_int (fun _ _ => rfl)) (pa_cons (pe_ix ix_list (pv 1) pe_int (fun _ _ => rfl)) (pa_cons (pe_ix ix_list (pv 1) pe_int (fun _ _ => rfl)) pa_nil)))))) pss_nil)
      (C8.pss_cut (ps_if (PW.pt (pw_and (pt_cmpR op_gt (pv 2) pe_int (nomark _)) (pw_and1 (pt_cmpR op_eq (pe_callB call_len_seq (by rfl) T.z_len PySem.boot_len (pa_cons (pv 1) pa_nil)) pe_int (nomark _))))) (pss_one (ps_ret (StX.pe_makeR T.mk_ (ok_init T) (hr.mono (by decide)) (by rfl) T.gC_Bag pass0 (pa_cons (pe_ix ix_list (pv 1) pe_int (fun _ _ => rfl)) (pa_cons (pe_ix ix_list (pv 1) pe_int (fun _ _ => rfl)) (pa_cons (pe_ix ix_list (pv 1) pe_int (fun _ _ => rfl)) (pa_cons (pe_ix ix_list (pv 1) pe_int (fun _ _ => rfl)) pa_nil))))))) pss_nil)
      (C8.pss_cut (ps_if (PW.pt (pw_and (pt_cmpR op_gt (pv 2) pe_int (nomark _)) (pw_and1 (pt_cmpR op_eq (pe_callB call_len_seq (by rfl) T.z_len PySem.boot_len (pa_cons (pv 1) pa_nil)) pe_int (nomark _))))) (pss_one (ps_ret (StX.pe_makeR T.mk_ (ok_init T) (hr.mono (by decide)) (by rfl) T.gC_Bag pass0 (pa_cons (pe_ix ix_list (pv 1) pe_int (fun _ _ => rfl)) (pa_cons (pe_ix ix_list (pv 1) pe_int (fun _ _ => rfl)) (pa_cons (pe_ix ix_list (pv 1) pe_int (fun _ _ => rfl)) (pa_cons (pe_ix ix_list (pv 1) pe_int (fun _ _ => rfl)) (pa_cons (pe_ix ix_list (pv 1) pe_int (fun _ _ => rfl)) pa_nil)))))))) pss_nil)
      (pss_cons (ps_for PassesOwn.never rfl (pi_range3 (by rfl) T.z_range (pa_cons pe_int (pa_cons (pe_callB call_len_seq (by rfl) T.z_len PySem.boot_len (pa_cons (pv 1) pa_nil)) (pa_cons pe_int pa_nil)))) (pg_name (i := 4) sc_bag.nd rfl (Or.inl rfl)) (pss_one (ps_if (pt_cmpR op_lt (pe_op op_add (pv 4) pe_int) (pe_callB call_len_seq (by rfl) T.z_len PySem.boot_len (pa_cons (pv 1) pa_nil)) (nomark _)) (pss_one (ps_set (i := 3) sc_bag.nd rfl (Or.inl rfl) (pe_op (OV.op_bin (op := .Add) T.sf T.f_add T.n_add ((ok_m_add T).raw T.b_m_add .nil) (hr.mono (by decide)) pass0) (pv 3) (StX.pe_makeR T.mk_ (ok_init T) (hr.mono (by decide)) (by rfl) T.gC_Bag pass0 (pa_cons (pe_ix ix_list (pv 1) (pv 4) (fun _ _ => rfl)) (pa_cons (pe_ix ix_list (pv 1) (pe_op op_add (pv 4) pe_int) (fun _ _ => rfl)) pa_nil)))))) (pss_one (ps_set (i := 3) sc_bag.nd rfl (Or.inl rfl) (pe_op (OV.op_bin (op := .Add) T.sf T.f_add T.n_add ((ok_m_add T).raw T.b_m_add .nil) (hr.mono (by decide)) pass0) (StX.pe_makeR T.mk_ (ok_init T) (hr.mono (by decide)) (by rfl) T.gC_Bag pass0 (pa_cons (pe_ix ix_list (pv 1) (pv 4) (fun _ _ => rfl)) pa_nil)) (pv 3)))))))
      (pss_one (ps_ret (pv 3)))))))))), ?_⟩
    refine ⟨_, rfl, b, _, rfl, by decide, by decide, hB, fun w H1 w0 w1 hB1 hK1 => ?_⟩
    refine init_of (ns := []) (d := 1) .nil (by decide) (fun _ z => nomatch z) (by decide) fun m0 H2 g1 hm0 => ⟨_, _, rfl, ?_⟩
    rw [srt_nil] at hm0
    have hB2 := hB1.same g1
    have hK2 := hK1.trans (Keep.of_same g1)
    obtain ⟨xs, eL, hI⟩ := hL.keep hB hK2
    clear hB1 hK1 g1
    
    refine ⟨fun σ Hx => σ = [some (.ref b), some (.ref l), some (.int w), some (.ref m0), none] ∧ H2 = Hx, ?_, ?_⟩
    · refine ⟨_, rfl, _, _, rfl, rfl, _, rfl, ite2 (fun c => ?_) (fun c => ⟨rfl, rfl⟩)⟩
      refine ⟨_, rfl, l, xs, rfl, .inl (SqL.of eL), rfl, _, rfl, ite2 (fun c2 => ?_) (fun c2 => ⟨rfl, rfl⟩)⟩
      have c3 : xs.length = 1 := by
        have := V.int.inj (of_decide_eq_true c2)
        omega
      match xs, ns, hI, c3 with
      | [x0], [n0], hI, _ =>
        refine ⟨_, rfl, l, _, _, _, rfl, rfl, SqL.of eL, rfl, init_of (d := d) hI.ars hd ho (by show 1 < 64; decide) fun x H' g hx => k x H' (hB2.same g) (hK2.trans (Keep.of_same g)) hx⟩
    rintro σ Hx ⟨rfl, rfl⟩
    refine ⟨fun σ Hx => σ = [some (.ref b), some (.ref l), some (.int w), some (.ref m0), none] ∧ H2 = Hx, ?_, ?_⟩
    · refine ⟨_, rfl, _, _, rfl, rfl, _, rfl, ite2 (fun c => ?_) (fun c => ⟨rfl, rfl⟩)⟩
      refine ⟨_, rfl, l, xs, rfl, .inl (SqL.of eL), rfl, _, rfl, ite2 (fun c2 => ?_) (fun c2 => ⟨rfl, rfl⟩)⟩
      have c3 : xs.length = 2 := by
        have := V.int.inj (of_decide_eq_true c2)
        omega
      match xs, ns, hI, c3 with
      | [x0, x1], [n0, n1], hI, _ =>
        refine ⟨_, rfl, l, _, _, _, rfl, rfl, SqL.of eL, rfl, _, rfl, l, _, _, _, rfl, rfl, SqL.of eL, rfl, init_of (d := d) hI.ars hd ho (by show 2 < 64; decide) fun x H' g hx => k x H' (hB2.same g) (hK2.trans (Keep.of_same g)) hx⟩
    rintro σ Hx ⟨rfl, rfl⟩
    refine ⟨fun σ Hx => σ = [some (.ref b), some (.ref l), some (.int w), some (.ref m0), none] ∧ H2 = Hx, ?_, ?_⟩
    · refine ⟨_, rfl, _, _, rfl, rfl, _, rfl, ite2 (fun c => ?_) (fun c => ⟨rfl, rfl⟩)⟩
      refine ⟨_, rfl, l, xs, rfl, .inl (SqL.of eL), rfl, _, rfl, ite2 (fun c2 => ?_) (fun c2 => ⟨rfl, rfl⟩)⟩
      have c3 : xs.length = 3 := by
        have := V.int.inj (of_decide_eq_true c2)
        omega
      match xs, ns, hI, c3 with
      | [x0, x1, x2], [n0, n1, n2], hI, _ =>
        refine ⟨_, rfl, l, _, _, _, rfl, rfl, SqL.of eL, rfl, _, rfl, l, _, _, _, rfl, rfl, SqL.of eL, rfl, _, rfl, l, _, _, _, rfl, rfl, SqL.of eL, rfl, init_of (d := d) hI.ars hd ho (by show 3 < 64; decide) fun x H' g hx => k x H' (hB2.same g) (hK2.trans (Keep.of_same g)) hx⟩
    rintro σ Hx ⟨rfl, rfl⟩
    refine ⟨fun σ Hx => σ = [some (.ref b), some (.ref l), some (.int w), some (.ref m0), none] ∧ H2 = Hx, ?_, ?_⟩
    · refine ⟨_, rfl, _, _, rfl, rfl, _, rfl, ite2 (fun c => ?_) (fun c => ⟨rfl, rfl⟩)⟩
      refine ⟨_, rfl, l, xs, rfl, .inl (SqL.of eL), rfl, _, rfl, ite2 (fun c2 => ?_) (fun c2 => ⟨rfl, rfl⟩)⟩
      have c3 : xs.length = 4 := by
        have := V.int.inj (of_decide_eq_true c2)
        omega
      match xs, ns, hI, c3 with
      | [x0, x1, x2, x3], [n0, n1, n2, n3], hI, _ =>
        refine ⟨_, rfl, l, _, _, _, rfl, rfl, SqL.of eL, rfl, _, rfl, l, _, _, _, rfl, rfl, SqL.of eL, rfl, _, rfl, l, _, _, _, rfl, rfl, SqL.of eL, rfl, _, rfl, l, _, _, _, rfl, rfl, SqL.of eL, rfl, init_of (d := d) hI.ars hd ho (by show 4 < 64; decide) fun x H' g hx => k x H' (hB2.same g) (hK2.trans (Keep.of_same g)) hx⟩
    rintro σ Hx ⟨rfl, rfl⟩
    refine ⟨fun σ Hx => σ = [some (.ref b), some (.ref l), some (.int w), some (.ref m0), none] ∧ H2 = Hx, ?_, ?_⟩
    · refine ⟨_, rfl, _, _, rfl, rfl, _, rfl, ite2 (fun c => ?_) (fun c => ⟨rfl, rfl⟩)⟩
      refine ⟨_, rfl, l, xs, rfl, .inl (SqL.of eL), rfl, _, rfl, ite2 (fun c2 => ?_) (fun c2 => ⟨rfl, rfl⟩)⟩
      have c3 : xs.length = 5 := by
        have := V.int.inj (of_decide_eq_true c2)
        omega
      match xs, ns, hI, c3 with
      | [x0, x1, x2, x3, x4], [n0, n1, n2, n3, n4], hI, _ =>
        refine ⟨_, rfl, l, _, _, _, rfl, rfl, SqL.of eL, rfl, _, rfl, l, _, _, _, rfl, rfl, SqL.of eL, rfl, _, rfl, l, _, _, _, rfl, rfl, SqL.of eL, rfl, _, rfl, l, _, _, _, rfl, rfl, SqL.of eL, rfl, _, rfl, l, _, _, _, rfl, rfl, SqL.of eL, rfl, init_of (d := d) hI.ars hd ho (by show 5 < 64; decide) fun x H' g hx => k x H' (hB2.same g) (hK2.trans (Keep.of_same g)) hx⟩
    rintro σ Hx ⟨rfl, rfl⟩
    have hl := hI.len
    refine ⟨_, rfl, l, xs, rfl, .inl (SqL.of eL), 0, _, 2, _, rfl, rgc2 _ (by omega), for_rangeC (fun i σ Hx => ∃ (m : Addr) (v : Option V), σ = [some (.ref b), some (.ref l), some (.int w), some (.ref m), v] ∧ Same H2 Hx ∧ BagAt T Hx m (srt (ns.take (2 * i))))
      ⟨m0, none, rfl, Same.refl _, by rw [show 2 * 0 = 0 from rfl, List.take_zero, srt_nil]; exact hm0⟩ ?_ ?_⟩
    · rintro i σ Hx hi ⟨m, v, rfl, gs, hm⟩
      obtain ⟨dm, fm, em⟩ := hm.ins
      have hIx := hI.same gs
      have eLx := gs _ _ eL
      obtain ⟨x0, n0, ex0, en0, t0⟩ := hIx.at' (i := 2 * i) (by omega)
      have ei : (0 : Int) + (i : Nat) * 2 = ((2 * i : Nat) : Int) := by omega
      rw [ei]
      refine ⟨_, rfl, _, _, rfl, rfl, _, rfl, l, xs, rfl, .inl (SqL.of eLx), _, _, rfl, rfl, _, rfl, ite2 (fun c => ?_) (fun c => ?_)⟩
      · have c1 : ((2 * i : Nat) : Int) + 1 < ((xs.length : Nat) : Int) := of_decide_eq_true c
        obtain ⟨x1, n1, ex1, en1, t1⟩ := hIx.at' (i := 2 * i + 1) (by omega)
        have e2 : ns.take (2 * (i + 1)) = ns.take (2 * i) ++ [n0, n1] := by
          rw [show 2 * (i + 1) = 2 * i + 1 + 1 by omega, List.take_add_one, List.take_add_one, en0, en1, List.append_assoc]
          rfl
        have o2 : ∀ n ∈ [n0, n1], Ok d n := fun n hn => by
          rcases List.mem_cons.mp hn with rfl | hn
          · exact ho _ (List.mem_of_getElem? en0)
          · rcases List.mem_cons.mp hn with rfl | hn
            · exact ho _ (List.mem_of_getElem? en1)
            · cases hn
        refine ⟨_, rfl, _, rfl, _, rfl, l, _, _, _, rfl, rfl, SqL.of eLx, atI_ix ex0, _, rfl, _, rfl, _, _, rfl, rfl, l, _, _, _, rfl, rfl, SqL.of eLx, (atI_ix ex1 : atI xs (((2 * i + 1 : Nat) : Nat) : Int) = some x1), ?_⟩
        refine init_of (d := d) (Ars.cons t0.ar (.cons t1.ar .nil)) hd o2 (by show 2 < 64; decide) fun y Hy gy hy => ?_
        obtain ⟨dy, fy, ey⟩ := hy.ins
        refine ⟨m, y, dm, dy, fm, fy, rfl, rfl, gy _ _ em, ey, m, y, _, _, d, rfl, hm.same gy, hy, hd, srt_ok fun n hn => ho n (List.mem_of_mem_take hn), srt_ok o2, ?_, fun z Hz gz hz => ?_⟩
        · rw [srt_len, srt_len, List.length_take]
          show _ + 2 < 64
          omega
        · rw [srt_app (d := d) (by rw [← e2]; exact fun n hn => ho n (List.mem_of_mem_take hn)), ← e2] at hz
          exact ⟨z, _, rfl, gs.trans (gy.trans gz), hz⟩
      · have c1 : ¬ ((2 * i : Nat) : Int) + 1 < ((xs.length : Nat) : Int) := fun z => c (decide_eq_true z)
        have e2 : ns.take (2 * (i + 1)) = ns.take (2 * i) ++ [n0] := by
          rw [show 2 * (i + 1) = 2 * i + 1 + 1 by omega, List.take_add_one, List.take_add_one, en0, List.getElem?_eq_none (by omega), List.append_assoc]
          rfl
        have o2 : ∀ n ∈ [n0], Ok d n := fun n hn => by
          rcases List.mem_cons.mp hn with rfl | hn
          · exact ho _ (List.mem_of_getElem? en0)
          · cases hn
        refine ⟨_, rfl, _, rfl, l, _, _, _, rfl, rfl, SqL.of eLx, atI_ix ex0, ?_⟩
        refine init_of (d := d) (Ars.cons t0.ar .nil) hd o2 (by show 1 < 64; decide) fun y Hy gy hy => ?_
        obtain ⟨dy, fy, ey⟩ := hy.ins
        refine ⟨_, rfl, y, m, dy, dm, fy, fm, rfl, rfl, ey, gy _ _ em, y, m, _, _, d, rfl, hy, hm.same gy, hd, srt_ok o2, srt_ok fun n hn => ho n (List.mem_of_mem_take hn), ?_, fun z Hz gz hz => ?_⟩
        · rw [srt_len, srt_len, List.length_take]
          show 1 + _ < 64
          omega
        · have oo : ∀ n ∈ [n0] ++ ns.take (2 * i), Ok d n := fun n hn => by
            rcases List.mem_append.mp hn with hn | hn
            · exact o2 n hn
            · exact ho n (List.mem_of_mem_take hn)
          rw [srt_app (d := d) oo, srt_eq oo List.perm_append_comm, ← e2] at hz
          exact ⟨z, _, rfl, gs.trans (gy.trans gz), hz⟩
    · rintro σ Hx ⟨m, v, rfl, gs, hm⟩
      rw [List.take_of_length_le (by omega)] at hm
      exact ⟨_, rfl, k m Hx (hB2.same gs) (hK2.trans (Keep.of_same gs)) hm⟩
end
end K0

set_option maxRecDepth 100000
set_option maxHeartbeats 4000000
namespace K0
open PySem L2 BM BR

theorem BoxAt.upd {H1 H2 : Hp} {b D : Addr} {o : HO} (h1 : BoxAt H1 b) (hD : H1 D = none) (k : Keep b H1 H2) (h2 : BoxAt H2 b) : BoxAt (L2.upd H2 D o) b := by
  have nb := h1.ne hD
  obtain ⟨l, ns, pos, rest, seed, cnt, hb, hl, _⟩ := h1
  obtain ⟨l2, ns2, pos2, rest2, seed2, cnt2, hb2, hl2, q⟩ := h2
  obtain ⟨r', e⟩ := k.2 l _ hb
  rw [hb2] at e
  cases e
  have nl : D ≠ l := fun z => by
    rw [z, hl] at hD
    cases hD
  exact ⟨l, ns2, pos2, rest2, seed2, cnt2, by rw [upd_ne (Ne.symm nb)]; exact hb2, by rw [upd_ne (Ne.symm nl)]; exact hl2, q⟩
theorem Keep.at {H H2 : Hp} {b D : Addr} {o : HO} (hD : H D = none) (nb : D ≠ b) (k : Keep b H H2) : Keep b H (L2.upd H2 D o) :=
  ⟨fun x u n h => by rw [upd_ne (ne_of_none h hD)]; exact k.1 x u n h, fun l r h => by
    obtain ⟨r', e⟩ := k.2 l r h
    exact ⟨r', by rw [upd_ne (Ne.symm nb)]; exact e⟩⟩
theorem kNone {H H1 : Hp} {b f : Addr} (hB : BoxAt H1 b) (k : Keep b H H1) (h : H1 f = none) : H f = none := by
  cases e : H f with
  | none => rfl
  | some o =>
    have := k.1 f o (hB.ne h) e
    rw [h] at this
    cases this
theorem Its.upd {H : Hp} {f : Addr} {ys zs xs : List V} {ns : List (List Int)} (h : Its H xs ns) (e : H f = some (.lst ys)) : Its (L2.upd H f (.lst zs)) xs ns := h.mono fun x m ⟨q, e2, hq⟩ => ⟨q, e2, by
  rw [upd_ne]
  · exact hq
  · rintro rfl
    rw [e] at hq
    cases hq⟩
theorem TI.upd {H : Hp} {f : Addr} {ys zs : List V} {x : V} {n : List Int} (h : TI H x n) (e : H f = some (.lst ys)) : TI (L2.upd H f (.lst zs)) x n := by
  obtain ⟨q, e2, hq⟩ := h
  refine ⟨q, e2, ?_⟩
  rw [upd_ne]
  · exact hq
  · rintro rfl
    rw [e] at hq
    cases hq
theorem Ls.new {H : Hp} {f : Addr} {xs : List V} {ns : List (List Int)} (hf : H f = none) (h : Its H xs ns) : Ls (L2.upd H f (.lst xs)) f ns := ⟨xs, upd_same, h.same (same_new hf _)⟩
def spShuf : Sp := fun vs H Q _ => ∃ (b l : Addr) (ns : List (List Int)), vs = [.ref b, .ref l] ∧ BoxAt H b ∧ Ls H l ns ∧ ns.length < 60 ∧
  ∀ (f : Addr) (ms : List (List Int)) H', BoxAt H' b → Keep b H H' → ms.Perm ns → Ls H' f ms → Q (.ref f) H'
def spRaised : Sp := fun vs H Q _ => ∃ (x : Int) (n : Nat) (p : Int), vs = [.int x, .int (n : Int), .int p] ∧ 1 < p ∧ p < 18446744073709551616 ∧ n < 2 ^ 40 ∧ Q (.int (x ^ n % p)) H
def invF (p x : Int) : Int := x ^ (p - 2).toNat % p
def spInvF : Sp := fun vs H Q _ => ∃ (x p : Int), vs = [.int x, .int p] ∧ 1 < p ∧ p < 2 ^ 40 ∧ Q (.int (invF p x)) H
def spOver : Sp := fun vs H Q _ => ∃ (l : Addr) (ns : List (List Int)) (g p : Int), vs = [.ref l, .int g, .int p] ∧ Ls H l ns ∧ 0 < p ∧ p ≤ B10 ∧ (∀ n ∈ ns, Ok 1 n) ∧ ∀ H', Same H H' → Q (.int (prd p g ns)) H'
def spMrg : Sp := fun vs H Q _ => ∃ (l : Addr) (ns : List (List Int)) (g p : Int) (d : Nat), vs = [.ref l, .int g, .int p] ∧ Ls H l ns ∧ 0 < p ∧ p ≤ B10 ∧ d ≤ 100 ∧ (∀ n ∈ ns, Ok (d + 2) n) ∧ ns.length < 60 ∧
  ∀ (f : Addr) H', Same H H' → Ls H' f (srt (ns.map (mrg g p))) → Q (.ref f) H'
theorem perm_move {α : Type} {l : List α} {k j : Nat} {y : α} (h : l[k]? = some y) : ((l.eraseIdx k).take j ++ [y] ++ (l.eraseIdx k).drop j).Perm l := by
  have e : l = l.take k ++ y :: l.drop (k + 1) := by
    have hk := (List.getElem?_eq_some_iff.mp h).1
    have h2 := (List.getElem?_eq_some_iff.mp h).2
    rw [← h2, List.getElem_cons_drop, List.take_append_drop]
  have p1 : ((l.eraseIdx k).take j ++ [y] ++ (l.eraseIdx k).drop j).Perm (y :: l.eraseIdx k) := by
    rw [List.append_assoc]
    show ((l.eraseIdx k).take j ++ y :: (l.eraseIdx k).drop j).Perm (y :: l.eraseIdx k)
    refine (List.perm_middle).trans ?_
    rw [List.take_append_drop]
  refine p1.trans ?_
  rw [List.eraseIdx_eq_take_drop_succ]
  conv => rhs; rw [e]
  exact List.perm_middle.symm
section
variable {P : Program} {w : World} {K : PySem.W.Frag} {mg : Str → Option Value} {base : Heap}
theorem ok_shuffled (T : Txt K mg) : FnOk P w K mg base CX0 2 T.f_shuffled T.fd_shuffled ["box", "items"] (spShuf) := by
  refine T.F_shuffled.ok sc_shuffled (fun vs H Q E h => ?_) (fun cdv A outer s H vs Q E hr h => ?_)
  · obtain ⟨b, l, ns, rfl, _⟩ := h
    rfl
  · obtain ⟨b, l, ns, rfl, hB, hL, hl, k⟩ := h
    refine ⟨_, (pss_cons (ps_set (i := 2) sc_shuffled.nd rfl (Or.inl rfl) (pe_callTy call_listD (by rfl) T.z_list (by decide +kernel) (pa_cons (pv 1) pa_nil)))
      (pss_cons (ps_for PassesOwn.never rfl (pi_range1 (by rfl) T.z_range (pa_cons (pe_callB (call_min2 rfl) (by rfl) T.z_min (by decide +kernel) (pa_cons pe_int (pa_cons (pe_callB call_len_seq (by rfl) T.z_len PySem.boot_len (pa_cons (pv 2) pa_nil)) pa_nil))) pa_nil)) (pg_name (i := 3) sc_shuffled.nd rfl (Or.inl rfl)) (pss_cons (ps_set (i := 4) sc_shuffled.nd rfl (Or.inl rfl) (pe_bm PySem.F.plainAttrs_list PySem.F.slot_list_pop PySem.F.type_list_pop mt_popAt (pv 2) (pa_cons (pe_call (ok_draw T) (hr.mono (by decide)) (by rfl) T.g_draw T.F_draw.kp T.b_draw .nil pass0 (pa_cons (pv 0) (pa_cons (pe_callB call_len_seq (by rfl) T.z_len PySem.boot_len (pa_cons (pv 2) pa_nil)) pa_nil))) pa_nil)))
      (pss_one (ps_expr (pe_bm PySem.F.plainAttrs_list PySem.F.slot_list_insert PySem.F.type_list_insert mt_insert (pv 2) (pa_cons (pe_call (ok_draw T) (hr.mono (by decide)) (by rfl) T.g_draw T.F_draw.kp T.b_draw .nil pass0 (pa_cons (pv 0) (pa_cons (pe_op op_add (pe_callB call_len_seq (by rfl) T.z_len PySem.boot_len (pa_cons (pv 2) pa_nil)) pe_int) pa_nil))) (pa_cons (pv 4) pa_nil)))))))
      (pss_one (ps_ret (pv 2))))), ?_⟩
    obtain ⟨xs, eL, hI⟩ := id hL
    have hlen := hI.len
    refine ⟨_, rfl, l, xs, rfl, .inl (SqL.of eL), fun f hf => ?_⟩
    have g1 := same_new hf (.lst xs)
    have e1 : upd H f (.lst xs) f = some (.lst xs) := upd_same
    have nf := hB.ne hf
    have hB1 := hB.same g1
    have hI1 := hI.same g1
    generalize upd H f (.lst xs) = H1 at g1 e1 hB1 hI1 ⊢
    have hbd : 0 ≤ (if ((xs.length : Nat) : Int) < 4 then ((xs.length : Nat) : Int) else 4) ∧ (if ((xs.length : Nat) : Int) < 4 then ((xs.length : Nat) : Int) else 4) ≤ 4 ∧ (0 < (if ((xs.length : Nat) : Int) < 4 then ((xs.length : Nat) : Int) else 4) → 0 < xs.length) := by split <;> omega
    refine ⟨_, rfl, f, xs, rfl, .inl (SqL.of e1), _, _, rfl, _, rfl, ?_, ?_, for_range (lo := 0) (fun i σ Hx => ∃ (v3 v4 : Option V) (ms : List (List Int)) (ys : List V), σ = [some (.ref b), some (.ref l), some (.ref f), v3, v4] ∧ BoxAt Hx b ∧ Keep b H Hx ∧ ms.Perm ns ∧ Hx f = some (.lst ys) ∧ Its Hx ys ms)
      ⟨none, none, ns, xs, rfl, hB1, Keep.of_same g1, .refl _, e1, hI1⟩ ?_ ?_⟩
    · exact Int.le_trans (by decide) hbd.1
    · exact Int.lt_of_le_of_lt hbd.2.1 (by decide)
    · rintro i σ Hx hi ⟨v3, v4, ms, ys, rfl, hBx, hKx, hp, ef, hIx⟩
      have hi2 : (i : Int) < (if ((xs.length : Nat) : Int) < 4 then ((xs.length : Nat) : Int) else 4) := by omega
      have hpos := hbd.2.2 (by omega)
      have ly : ys.length = ns.length := by rw [hIx.len, hp.length_eq]
      refine ⟨_, rfl, .inl ⟨rfl, _, SqL.of ef⟩, _, rfl, _, rfl, f, ys, rfl, .inl (SqL.of ef), b, _, rfl, ?_, ?_, hBx, fun dr H2 d0 d1 hB2 hK2 => ?_⟩
      · omega
      · omega
      have ef2 : H2 f = some (.lst ys) := hK2.1 _ _ nf ef
      have hI2 := hIx.keep hBx hK2
      have hK02 := hKx.trans hK2
      have ey : ys[dr.toNat]? = some ys[dr.toNat] := List.getElem?_eq_getElem (by omega)
      refine ⟨f, ys, dr, dr.toNat, _, rfl, rfl, ef2, by omega, by omega, PySem.seqIndex_of d0 d1, ey, ?_⟩
      generalize hy : ys[dr.toNat] = y at ey ⊢
      obtain ⟨n, hn, ty⟩ := hI2.at_ ey
      have hI3 : Its (upd H2 f (.lst (ys.eraseIdx dr.toNat))) (ys.eraseIdx dr.toNat) (ms.eraseIdx dr.toNat) := (hI2.eraseIdx _).upd ef2
      have ty3 : TI (upd H2 f (.lst (ys.eraseIdx dr.toNat))) y n := ty.upd ef2
      have hB3 : BoxAt (upd H2 f (.lst (ys.eraseIdx dr.toNat))) b := BoxAt.upd hB hf hK02 hB2
      have hK3 : Keep b H (upd H2 f (.lst (ys.eraseIdx dr.toNat))) := Keep.at hf nf hK02
      have e3 : upd H2 f (.lst (ys.eraseIdx dr.toNat)) f = some (.lst (ys.eraseIdx dr.toNat)) := upd_same
      generalize upd H2 f (.lst (ys.eraseIdx dr.toNat)) = H3 at hI3 ty3 hB3 hK3 e3 ⊢
      have le : (ys.eraseIdx dr.toNat).length = ys.length - 1 := List.length_eraseIdx_of_lt (by omega)
      refine ⟨_, rfl, .inl ⟨rfl, _, SqL.of e3⟩, _, rfl, _, rfl, f, _, rfl, .inl (SqL.of e3), _, _, rfl, rfl, b, _, rfl, by omega, by omega, hB3, fun dj H4 j0 j1 hB4 hK4 => ?_⟩
      have e4 : H4 f = some (.lst (ys.eraseIdx dr.toNat)) := hK4.1 _ _ nf e3
      have hK04 := hK3.trans hK4
      refine ⟨_, rfl, f, _, dj, y, rfl, rfl, e4, small1000 (by omega), j0, by omega, ?_⟩
      refine ⟨_, _, _, _, rfl, BoxAt.upd hB hf hK04 hB4, Keep.at hf nf hK04, (perm_move (j := dj.toNat) hn).trans hp, upd_same, ?_⟩
      have hI4 := hI3.keep hB3 hK4
      have ty4 := kTI hB3 hK4 ty3
      exact (((hI4.take dj.toNat).append (.cons ty4 .nil)).append (hI4.drop dj.toNat)).upd e4
    · rintro σ Hx ⟨v3, v4, ms, ys, rfl, hBx, hKx, hp, ef, hIx⟩
      exact ⟨_, rfl, k f ms Hx hBx hKx hp ⟨ys, ef, hIx⟩⟩
theorem ok_raised (T : Txt K mg) : FnOk P w K mg base CX0 1 T.f_raised T.fd_raised ["base", "times", "prime"] (spRaised) := by
  refine T.F_raised.ok sc_raised (fun vs H Q E h => ?_) (fun cdv A outer s H vs Q E hr h => ?_)
  · obtain ⟨x, n, p, rfl, _⟩ := h
    rfl
  · obtain ⟨x, n, p, rfl, p1, p2, hn, k⟩ := h
    have p0 : 0 < p := by omega
    refine ⟨_, (pss_cons (ps_par (i := 3) (j := 4) (by rfl) sc_raised.nd rfl rfl (by decide) rfl rfl (pa_cons pe_int (pa_cons (pe_op op_mod (pe_callTy call_int1 (by rfl) T.z_int (by decide +kernel) (pa_cons (pv 0) pa_nil)) (pv 2)) pa_nil)) (by rfl))
      (pss_cons (ps_for PassesOwn.never rfl (pi_range1 (by rfl) T.z_range (pa_cons pe_int pa_nil)) (pg_name (i := 5) sc_raised.nd rfl (Or.inl rfl)) (pss_cons (ps_if (pt_cmpR op_eq (pv 1) pe_int (nomark _)) (pss_one ps_break) pss_nil)
      (pss_cons (ps_if (pt_cmpR op_eq (pe_op op_mod (pe_callTy call_int1 (by rfl) T.z_int (by decide +kernel) (pa_cons (pv 1) pa_nil)) pe_int) pe_int (nomark _)) (pss_one (ps_set (i := 3) sc_raised.nd rfl (Or.inl rfl) (pe_op op_mod (pe_callTy call_int1 (by rfl) T.z_int (by decide +kernel) (pa_cons (pe_op op_mul (pv 3) (pv 4)) pa_nil)) (pv 2)))) pss_nil)
      (pss_cons (ps_set (i := 4) sc_raised.nd rfl (Or.inl rfl) (pe_op op_mod (pe_callTy call_int1 (by rfl) T.z_int (by decide +kernel) (pa_cons (pe_op op_mul (pv 4) (pv 4)) pa_nil)) (pv 2)))
      (pss_one (ps_set (i := 1) sc_raised.nd rfl (Or.inl rfl) (pe_op op_fdivW (pe_callTy call_int1 (by rfl) T.z_int (by decide +kernel) (pa_cons (pv 1) pa_nil)) pe_int)))))))
      (pss_one (ps_ret (pv 3))))), ?_⟩
    refine ⟨_, rfl, .inl ⟨_, rfl, _, rfl, _, _, rfl, rfl, p0, _, _, rfl, ?_⟩⟩
    refine ⟨40, rfl, by decide, by decide, for_range (lo := 0) (n := 40) (fun i σ Hx => (∃ (l m b : Int) (v : Option V), σ = [some (.int x), some (.int l), some (.int p), some (.int m), some (.int b), v] ∧ InvP x n p m b l ∧ l < 2 ^ (40 - i)) ∧ Hx = H)
      ⟨⟨_, _, _, _, rfl, powi_start n p1, by show (n : Int) < 2 ^ 40; omega⟩, rfl⟩ ?_ ?_⟩
    · rintro i σ Hx hi ⟨⟨l, m, b, v, rfl, I, hl⟩, rfl⟩
      have l0 := I.l0
      have m0 := I.m0
      have m1 := I.m1
      have b0 := I.b0
      have b1 := I.b1
      refine ⟨_, rfl, rfl, _, rfl, ite2 (fun c => ?_) (fun c => ?_)⟩
      · have e : l = 0 := V.int.inj (of_decide_eq_true c)
        refine ⟨_, rfl, ?_⟩
        rw [powi_end I (by omega)]
        exact k
      have lp : 0 < l := by
        have : l ≠ 0 := fun z => c (decide_eq_true (congrArg V.int z))
        omega
      have half : l / 2 < 2 ^ (40 - (i + 1)) := by
        have e : 40 - i = (40 - (i + 1)) + 1 := by omega
        rw [e, Int.pow_succ] at hl
        omega
      refine ⟨_, rfl, .inl ⟨_, rfl, _, _, rfl, rfl, (by show (0 : Int) < 2; decide), rfl, _, rfl, ite2 (fun c => ?_) (fun c => ?_)⟩⟩
      · have o : l % 2 = 1 := V.int.inj (of_decide_eq_true c)
        refine ⟨_, rfl, _, rfl, _, _, rfl, rfl, .inl ⟨by omega, by omega⟩, .inl ⟨_, rfl, _, rfl, _, _, rfl, rfl, p0, ?_⟩⟩
        refine ⟨_, rfl, _, rfl, _, _, rfl, rfl, .inl ⟨by omega, by omega⟩, .inl ⟨_, rfl, _, rfl, _, _, rfl, rfl, p0, ?_⟩⟩
        refine ⟨_, rfl, .inl ⟨_, rfl, _, _, rfl, rfl, ⟨by decide, by decide⟩, ?_⟩⟩
        exact ⟨⟨_, _, _, _, rfl, powi_turn1 I lp o, half⟩, rfl⟩
      · have o : ¬ l % 2 = 1 := fun z => c (decide_eq_true (congrArg V.int z))
        refine ⟨_, rfl, _, rfl, _, _, rfl, rfl, .inl ⟨by omega, by omega⟩, .inl ⟨_, rfl, _, rfl, _, _, rfl, rfl, p0, ?_⟩⟩
        refine ⟨_, rfl, .inl ⟨_, rfl, _, _, rfl, rfl, ⟨by decide, by decide⟩, ?_⟩⟩
        exact ⟨⟨_, _, _, _, rfl, powi_turn0 I lp o, half⟩, rfl⟩
    · rintro σ Hx ⟨⟨l, m, b, v, rfl, I, hl⟩, rfl⟩
      have l0 := I.l0
      have : ¬ 0 < l := by
        have : (2 : Int) ^ (40 - 40) = 1 := rfl
        omega
      refine ⟨_, rfl, ?_⟩
      rw [powi_end I this]
      exact k
theorem ok_law_inverse (T : Txt K mg) : FnOk P w K mg base CX0 2 T.f_law_inverse T.fd_law_inverse ["digit", "prime"] (spInvF) := by
  refine T.F_law_inverse.ok sc_law_inverse (fun vs H Q E h => ?_) (fun cdv A outer s H vs Q E hr h => ?_)
  · obtain ⟨x, p, rfl, _⟩ := h
    rfl
  · obtain ⟨x, p, rfl, p1, p2, k⟩ := h
    refine ⟨_, (pss_one (ps_ret (pe_call (ok_raised T) (hr.mono (by decide)) (by rfl) T.g_raised T.F_raised.kp T.b_raised .nil pass0 (pa_cons (pv 0) (pa_cons (pe_op op_sub (pv 1) pe_int) (pa_cons (pv 1) pa_nil)))))), ?_⟩
    refine ⟨_, rfl, _, rfl, _, _, rfl, rfl, _, rfl, x, (p - 2).toNat, p, ?_, p1, by omega, by omega, k⟩
    have e : ((p - 2).toNat : Int) = p - 2 := by omega
    rw [e]
    rfl
theorem ok_over (T : Txt K mg) : FnOk P w K mg base CX0 1 T.f_over T.fd_over ["items", "spot", "prime"] (spOver) := by
  refine T.F_over.ok sc_over (fun vs H Q E h => ?_) (fun cdv A outer s H vs Q E hr h => ?_)
  · obtain ⟨l, ns, g, p, rfl, _⟩ := h
    rfl
  · obtain ⟨l, ns, g, p, rfl, hL, p0, p1, ho, k⟩ := h
    refine ⟨_, (pss_cons (ps_set (i := 3) sc_over.nd rfl (Or.inl rfl) pe_int)
      (pss_cons (ps_for PassesOwn.never rfl (pi_list (pv 0)) (pg_name (i := 4) sc_over.nd rfl (Or.inl rfl)) (pss_one (ps_set (i := 3) sc_over.nd rfl (Or.inl rfl) (pe_op op_mod (pe_callTy call_int1 (by rfl) T.z_int (by decide +kernel) (pa_cons (pe_op op_mul (pv 3) (pe_op op_sub (pv 1) (pe_ix ix_tup (pv 4) pe_int (fun _ _ => rfl)))) pa_nil)) (pv 2)))))
      (pss_one (ps_ret (pv 3))))), ?_⟩
    have hB10 : B10 = 10000000000 := rfl
    obtain ⟨xs, eL, hI⟩ := id hL
    have hlen := hI.len
    refine ⟨_, rfl, l, rfl, ⟨_, SqL.of eL⟩, for_list (K := K) (a := l) (xs := xs) (fun i σ Hx => ∃ v4, σ = [some (.ref l), some (.int g), some (.int p), some (.int (prd p g (ns.take i))), v4] ∧ H = Hx)
      ⟨none, rfl, rfl⟩ (fun i σ Hx _ ⟨_, _, e⟩ => by rw [← e]; exact SqL.of eL) ?_ ?_⟩
    · rintro i z σ Hx hi ⟨v4, rfl, rfl⟩
      obtain ⟨n, hn, u, rfl, hu⟩ := hI.at_ hi
      obtain ⟨o1, o2⟩ := ho n (List.mem_of_getElem? hn)
      have z0 : n[0]? = some n[0] := List.getElem?_eq_getElem (by omega)
      have bp : 0 ≤ prd p g (ns.take i) ∧ prd p g (ns.take i) ≤ B10 := prd_bd p0 p1 _
      refine ⟨_, rfl, _, rfl, _, rfl, u, _, _, _, rfl, rfl, SqT.of hu, at_nat z0, _, _, rfl, rfl, _, _, rfl, rfl, .inl ⟨by omega, by omega⟩, .inl ⟨_, rfl, _, rfl, _, _, rfl, rfl, p0, ?_⟩⟩
      refine ⟨some (.ref u), ?_, rfl⟩
      have e : prd p g (ns.take (i + 1)) = prd p g (ns.take i) * (g - n[0]) % p := by
        rw [List.take_add_one, hn]
        show (ns.take i ++ [n]).foldl (stepP p g) 1 = _
        rw [List.foldl_append]
        show stepP p g (prd p g (ns.take i)) n = _
        unfold stepP
        rw [getD_of z0]
      rw [e]
      rfl
    rintro σ Hx ⟨v4, rfl, rfl⟩
    have e1 : ns.take xs.length = ns := by rw [hlen]; exact List.take_length
    rw [e1]
    exact ⟨_, rfl, k _ (Same.refl _)⟩
end
end K0

set_option maxRecDepth 100000
set_option maxHeartbeats 4000000
namespace K0
open PySem L2 BM BR

theorem none_of {H H1 : Hp} {x : Addr} (g : Same H H1) (h : H1 x = none) : H x = none := by
  cases e : H x with
  | none => rfl
  | some o =>
    rw [g _ _ e] at h
    cases h
theorem BagAt.ins2 {K : PySem.W.Frag} {mg : Str → Option Value} {T : Txt K mg} {H : Hp} {a : Addr} {ns : List (List Int)} (h : BagAt T H a ns) : ∃ dx m, H a = some (.ins T.C_Bag dx [("_members", .ref m)]) := by
  obtain ⟨dx, m, xs, h1, _⟩ := h
  exact ⟨dx, m, h1⟩
theorem srt_map {d : Nat} {l : List (List Int)} {f : List Int → List Int} (h : ∀ n ∈ l.map f, Ok d n) : srt ((srt l).map f) = srt (l.map f) := by
  have p : ((srt l).map f).Perm (l.map f) := (srt_perm l).map f
  exact srt_eq (fun a ha => h a (p.mem_iff.mp ha)) p
theorem prd_srt (p z : Int) (l : List (List Int)) : prd p z (srt l) = prd p z l := prd_perm (srt_perm l)
theorem map_ok {d : Nat} {g p : Int} {l : List (List Int)} (p0 : 0 < p) (p1 : p ≤ B10) (h : ∀ n ∈ l, Ok (d + 2) n) : ∀ n ∈ l.map (mrg g p), Ok (d + 1) n := fun n hn => by
  obtain ⟨m0, hm, rfl⟩ := List.mem_map.mp hn
  exact mrg_ok p0 p1 (h m0 hm)
/-- whether g lies in the lot -/
def inL (ns ms : List (List Int)) (g p : Int) : Bool := !decide (srt ns = srt ms) && decide (prd p g ns = prd p g ms)
/-- the lot, up to i -/
def lot (ns ms : List (List Int)) (p : Int) (i : Nat) : List Int := ((List.range i).filter fun m => inL ns ms (m : Nat) p).map fun m => ((m : Nat) : Int)
theorem lot_succ (ns ms : List (List Int)) (p : Int) (i : Nat) : lot ns ms p (i + 1) = if inL ns ms (i : Nat) p then lot ns ms p i ++ [((i : Nat) : Int)] else lot ns ms p i := by
  unfold lot
  rw [List.range_succ, List.filter_append]
  by_cases h : inL ns ms (i : Nat) p = true
  · rw [if_pos h, List.filter_cons, if_pos h, List.map_append]
    rfl
  · rw [if_neg h, List.filter_cons, if_neg h]
    simp
theorem lot_len (ns ms : List (List Int)) (p : Int) (i : Nat) : (lot ns ms p i).length ≤ i := by
  unfold lot
  rw [List.length_map]
  exact Nat.le_trans (List.length_filter_le _ _) (by rw [List.length_range]; exact Nat.le_refl _)
theorem iteF' {c : Bool} {a b : Prop} (h : c = true → False) (k : b) : if c = true then a else b := by
  by_cases e : c = true
  · exact (h e).elim
  · rw [if_neg e]
    exact k
theorem iteT' {c : Bool} {a b : Prop} (h : c = true) (k : a) : if c = true then a else b := by
  rw [if_pos h]
  exact k
def spI2 (C : Addr) : Sp := fun vs H Q _ => ∃ (a : Addr) (y z : V), vs = [.ref a, y, z] ∧ H a = some (exo a C none) ∧
  ∀ (dx : Addr) (H' : Hp), H dx = none → dx ≠ a → (∀ x o, x ≠ a → H x = some o → H' x = some o) → H' a = some (exo a C (some dx)) → H' dx = some (exd dx [("most", z), ("what", y)]) → Q .non H'
def spChk0 : Sp := fun vs H Q _ => ∃ p : Int, vs = [.int p] ∧ p ≤ 800 ∧ Q .non H
def spChkX (C : Addr) : Sp := fun vs H Q E => ∃ p : Int, vs = [.int p] ∧ (p ≤ 800 → Q .non H) ∧ (800 < p → ∀ H' d, Same H H' → H d = none → H' d = some (.xd [("most", .int 800), ("what", .str "worths")]) → E (.ref C) (some d) H')
def spIn {K : PySem.W.Frag} {mg : Str → Option Value} (T : Txt K mg) : Sp := fun vs H Q _ => ∃ (a b : Addr) (ns ms : List (List Int)) (g p : Int) (d : Nat), vs = [.ref a, .ref b, .int g, .int p] ∧ BagAt T H a (srt ns) ∧ BagAt T H b (srt ms) ∧ 0 < p ∧ p ≤ B10 ∧ d ≤ 100 ∧ (∀ n ∈ ns, Ok 1 n) ∧ (∀ n ∈ ms, Ok 1 n) ∧ ns.length < 60 ∧ ms.length < 60 ∧
  ∀ H', Same H H' → Q (.bl (inL ns ms g p)) H'
def spLot0 {K : PySem.W.Frag} {mg : Str → Option Value} (T : Txt K mg) : Sp := fun vs H Q _ => ∃ (a b : Addr) (ns ms : List (List Int)) (p : Int) (d : Nat), vs = [.ref a, .ref b, .int p] ∧ BagAt T H a (srt ns) ∧ BagAt T H b (srt ms) ∧ 0 < p ∧ p ≤ 800 ∧ d ≤ 100 ∧ (∀ n ∈ ns, Ok 1 n) ∧ (∀ n ∈ ms, Ok 1 n) ∧ ns.length < 60 ∧ ms.length < 60 ∧
  ∀ (t : Addr) H', Same H H' → H' t = some (.tup ((lot ns ms p p.toNat).map V.int)) → Q (.ref t) H'
def spLotX {K : PySem.W.Frag} {mg : Str → Option Value} (T : Txt K mg) : Sp := fun vs H Q E => ∃ (a b : Addr) (ns ms : List (List Int)) (p : Int) (d : Nat), vs = [.ref a, .ref b, .int p] ∧ BagAt T H a (srt ns) ∧ BagAt T H b (srt ms) ∧ 0 < p ∧ d ≤ 100 ∧ (∀ n ∈ ns, Ok 1 n) ∧ (∀ n ∈ ms, Ok 1 n) ∧ ns.length < 60 ∧ ms.length < 60 ∧
  (p ≤ 800 → ∀ (t : Addr) H', Same H H' → H' t = some (.tup ((lot ns ms p p.toNat).map V.int)) → Q (.ref t) H') ∧
  (800 < p → ∀ H' d, Same H H' → H d = none → H' d = some (.xd [("most", .int 800), ("what", .str "worths")]) → E (.ref T.C_TooMany) (some d) H')
section
variable {P : Program} {w : World} {K : PySem.W.Frag} {mg : Str → Option Value} {base : Heap}
theorem ok_iTooMany (T : Txt K mg) : FnOk P w K mg base CX0 1 T.fI_TooMany T.fdI_TooMany ["self", "what", "most"] (spI2 T.C_TooMany) := by
  refine T.FI_TooMany.ok sc_iTooMany (fun vs H Q E h => ?_) (fun cdv A outer s H vs Q E hr h => ?_)
  · obtain ⟨a, y, z, rfl, _⟩ := h
    rfl
  · obtain ⟨a, y, z, rfl, ha, k⟩ := h
    refine ⟨_, pss_cons (ps_xst (pv 0) (pv 1)) (pss_one (ps_xst (pv 0) (pv 2))), ?_⟩
    refine ⟨_, rfl, _, rfl, a, T.C_TooMany, rfl, T.x_TooMany, T.no_TooMany_what, .inl ⟨ha, fun dx hd ne => ?_⟩⟩
    refine ⟨_, rfl, _, rfl, a, T.C_TooMany, rfl, T.x_TooMany, T.no_TooMany_most, .inr ⟨dx, _, upd_same, by rw [upd_ne ne]; exact upd_same, (by show 1 ≤ 900; decide), ?_⟩⟩
    exact k dx _ hd ne (fun x o nx hx => by rw [upd_ne (ne_of_none hx hd), upd_ne nx, upd_ne (ne_of_none hx hd)]; exact hx) (by rw [upd_ne ne.symm]; exact upd_same) upd_same
theorem ok_chk0 (T : Txt K mg) : FnOk P w K mg base CX0 1 T.f_check_counted T.fd_check_counted ["p"] (spChk0) := by
  refine T.F_check_counted.ok sc_check_counted (fun vs H Q E h => ?_) (fun cdv A outer s H vs Q E hr h => ?_)
  · obtain ⟨p, rfl, _⟩ := h
    rfl
  · obtain ⟨p, rfl, hp, k⟩ := h
    refine ⟨_, (pss_one (ps_if (pt_cmpR op_gt (pv 0) (pe_glob (v := .int 800) (by rfl) T.gMP ⟨_, rfl⟩) (nomark _)) (pss_one ps_never) pss_nil)), ?_⟩
    refine ⟨_, rfl, _, _, rfl, rfl, _, rfl, iteF' (fun c => ?_) k⟩
    have := of_decide_eq_true c
    omega
theorem ok_chkX (T : Txt K mg) : FnOk P w K mg base (L2.CX P w) 3 T.f_check_counted T.fd_check_counted ["p"] (spChkX T.C_TooMany) := by
  refine T.F_check_counted.okX sc_check_counted (fun vs H Q E h => ?_) (fun cdv A outer s H vs Q E hr h => ?_)
  · obtain ⟨p, rfl, _⟩ := h
    rfl
  · obtain ⟨p, rfl, k, kE⟩ := h
    refine ⟨_, (pss_one (ps_if (pt_cmpR op_gt (pv 0) (pe_glob (v := .int 800) (by rfl) T.gMP ⟨_, rfl⟩) (nomark _)) (pss_one (ps_raise rfl (takes_of rfl rfl rfl rfl) (pmk_x T.x_TooMany T.iC_TooMany T.tI_TooMany (ok_iTooMany T) hr T.bI_TooMany (by rfl) T.gC_TooMany (pa_cons pe_str (pa_cons (pe_glob (v := .int 800) (by rfl) T.gMP ⟨_, rfl⟩) pa_nil))))) pss_nil)), ?_⟩
    refine ⟨_, rfl, _, _, rfl, rfl, _, rfl, ite2 (fun c => ?_) (fun c => ?_)⟩
    · have hp : 800 < p := of_decide_eq_true c
      refine ⟨(by show 2 ≤ 1000; decide), fun a ha => ?_⟩
      refine ⟨a, _, _, rfl, upd_same, fun dx H' hd' ne kp ea edx => ⟨rfl, dx, _, ea, edx, ?_, ?_⟩⟩
      · rw [upd_ne ne] at hd'
        exact hd'
      · have hd0 : H dx = none := by
          rw [upd_ne ne] at hd'
          exact hd'
        refine kE hp _ dx (fun y o hy => ?_) hd0 upd_same
        have ny : y ≠ a := ne_of_none hy ha
        rw [upd_ne (ne_of_none hy hd0), del_ne ny]
        exact kp y o ny (by rw [upd_ne ny]; exact hy)
    · have hp : ¬ 800 < p := fun z => c (decide_eq_true z)
      exact k (by omega)
theorem ok_in_product_lot (T : Txt K mg) : FnOk P w K mg base CX0 4 T.f_in_product_lot T.fd_in_product_lot ["one", "other", "worth", "p"] (spIn T) := by
  refine T.F_in_product_lot.ok sc_in_product_lot (fun vs H Q E h => ?_) (fun cdv A outer s H vs Q E hr h => ?_)
  · obtain ⟨a, b, ns, ms, g, p, d, rfl, _⟩ := h
    rfl
  · obtain ⟨a, b, ns, ms, g, p, d, rfl, hA, hB, p0, p1, hd, ho, hp, l1, l2, k⟩ := h
    refine ⟨_, (pss_cons (ps_if (pt_cmpR (OV.op_eqO (fun _ _ => rfl) T.f_eq T.n_eq ((ok_m_eq T).raw T.b_m_eq .nil) (hr.mono (by decide)) pass0) (pv 0) (pv 1) (nomark _)) (pss_one (ps_ret pe_bl)) pss_nil)
      (pss_one (ps_ret (pe_cmpR op_eq (OV.pe_methKA (pv 0) T.cl T.me_m_product (ok_m_product T) (hr.mono (by decide)) T.kb_m_product1 pass0 (pa_cons (pv 2) pa_nil) (pk_cons (pv 3) pk_nil)) (OV.pe_methKA (pv 1) T.cl T.me_m_product (ok_m_product T) (hr.mono (by decide)) T.kb_m_product1 pass0 (pa_cons (pv 2) pa_nil) (pk_cons (pv 3) pk_nil)) (nomark _))))), ?_⟩
    obtain ⟨dx, mx, ex⟩ := hA.ins2
    obtain ⟨dy, my, ey⟩ := hB.ins2
    refine ⟨_, rfl, _, rfl, a, dx, _, .ref T.C_Bag, rfl, ex, tyBag T hB, T.nf_Bag, a, _, _, rfl, hA, .inl ⟨b, _, rfl, hB, _, rfl, ?_⟩⟩
    refine ite2 (fun c => ?_) (fun c => ?_)
    · have e : srt ns = srt ms := of_decide_eq_true c
      have := k H (Same.refl _)
      unfold inL at this
      rw [decide_eq_true e, Bool.not_true, Bool.false_and] at this
      exact this
    · have c1 : ¬ srt ns = srt ms := fun z => c (decide_eq_true z)
    
      refine ⟨_, rfl, a, dx, _, rfl, ex, rfl, _, rfl, _, rfl, rfl, rfl, a, srt ns, g, p, rfl, hA, p0, p1, srt_ok ho, _, rfl, b, dy, _, rfl, ey, rfl, _, rfl, _, rfl, rfl, rfl, b, srt ms, g, p, rfl, hB, p0, p1, srt_ok hp, rfl, ?_⟩
      have := k H (Same.refl _)
      unfold inL at this
      rw [decide_eq_false c1, Bool.not_false, Bool.true_and] at this
      rw [prd_srt, prd_srt]
      simpa using this
theorem ok_lot0 (T : Txt K mg) : FnOk P w K mg base CX0 5 T.f_product_lot T.fd_product_lot ["one", "other", "p"] (spLot0 T) := by
  refine T.F_product_lot.ok sc_product_lot (fun vs H Q E h => ?_) (fun cdv A outer s H vs Q E hr h => ?_)
  · obtain ⟨a, b, ns, ms, p, d, rfl, _⟩ := h
    rfl
  · obtain ⟨a, b, ns, ms, p, d, rfl, hA, hB, p0, p1, hd, ho, hp, l1, l2, k⟩ := h
    refine ⟨_, (pss_cons (ps_expr (pe_call (ok_chk0 T) (hr.mono (by decide)) (by rfl) T.g_check_counted T.F_check_counted.kp T.b_check_counted .nil pass0 (pa_cons (pv 2) pa_nil)))
      (pss_one (ps_ret (pe_callTy (T := "tuple") call_tupleD (by rfl) T.z_tuple (by decide +kernel) (pa_cons (pe_lc (own := [("worth", 3)]) (g := gName 3) (tt := (tB (tCallN 3 (["p"] : List Str).length (spIn T) (fun us ws => us ++ ws) E0 (tCons (tVar 0) (tCons (tVar 1) (tCons (tVar 3) tNil))) (tCons (tVar 2) tNil)))) (te := (tVar 3)) (by rfl) sc_product_lot.nd (pi_range1 (by rfl) T.z_range (pa_cons (pv 2) pa_nil)) (blkOk_by (own := [("worth", 3)]) (N := ["one", "other", "p", "worth"]) (sc := defScope s_product_lot) (by decide +kernel)) (fun _ _ _ _ _ => (pg_name (i := 3) sc_product_lot.nd rfl (Or.inl rfl))) (fun _ _ _ _ _ => pts_one (pt_val (pe_callN (ok_in_product_lot T) (hr.mono (by decide : 4 ≤ 4)) (by rfl) T.g_in_product_lot T.F_in_product_lot.kp T.kb_in_product_lot3 pass0 (pa_cons (pv 0) (pa_cons (pv 1) (pa_cons (pv 3) pa_nil))) (pk_cons (pv 2) pk_nil)))) (fun _ _ _ _ _ => (pv 3))) pa_nil))))), ?_⟩
    have hB10 : B10 = 10000000000 := rfl
    refine ⟨_, rfl, p, rfl, p1, ?_⟩
    
    refine ⟨_, rfl, _, rfl, by omega, by omega, fun D hD => lc_range (lo := 0) (n := p.toNat) (fun i Hx => Same H Hx ∧ Hx D = some (.lst ((lot ns ms p i).map V.int)))
      ⟨same_new hD _, upd_same⟩ ?_ ?_⟩
    · rintro i Hx hi ⟨gs, eD⟩
      refine ⟨rfl, _, rfl, _, rfl, _, rfl, _, rfl, rfl, rfl, a, b, ns, ms, _, p, d, rfl, hA.same gs, hB.same gs, p0, by omega, hd, ho, hp, l1, l2, fun H2 g2 => ⟨_, rfl, ?_⟩⟩
      have ei : (0 : Int) + (i : Nat) = ((i : Nat) : Int) := by omega
      rw [ei]
      have ll := lot_len ns ms p i
      have es := lot_succ ns ms p i
      have g02 := gs.trans g2
      have eD2 := g2 _ _ eD
      refine ite2 (fun c => ?_) (fun c => ?_)
      · rw [if_pos c] at es
        refine ⟨_, rfl, _, eD2, ?_, fun x o ho => ?_, ?_⟩
        · rw [List.length_map]
          exact small1000 (by omega)
        · rw [upd_ne (ne_of_none ho hD)]
          exact g02 _ _ ho
        · rw [upd_same, es, List.map_append]
          rfl
      · rw [if_neg c] at es
        rw [es]
        exact ⟨g02, eD2⟩
    rintro Hx ⟨gs, eD⟩
    refine ⟨D, _, rfl, .inl ⟨SqL.of eD, fun q hq => ?_⟩⟩
    exact k q _ (gs.trans (same_new hq _)) upd_same
theorem ok_lotX (T : Txt K mg) : FnOk P w K mg base (L2.CX P w) 5 T.f_product_lot T.fd_product_lot ["one", "other", "p"] (spLotX T) := by
  refine T.F_product_lot.okX sc_product_lot (fun vs H Q E h => ?_) (fun cdv A outer s H vs Q E hr h => ?_)
  · obtain ⟨a, b, ns, ms, p, d, rfl, _⟩ := h
    rfl
  · obtain ⟨a, b, ns, ms, p, d, rfl, hA, hB, p0, hd, ho, hp, l1, l2, k, kE⟩ := h
    refine ⟨_, (pss_cons (ps_expr (pe_call (ok_chkX T) (hr.mono (by decide)) (by rfl) T.g_check_counted T.F_check_counted.kp T.b_check_counted .nil (passes_call (takes_of rfl rfl rfl rfl) (fun _ _ _ _ h => h)) (pa_cons (pv 2) pa_nil)))
      (pss_one (ps_ret (pe_callTy (T := "tuple") call_tupleD (by rfl) T.z_tuple (by decide +kernel) (pa_cons (pe_lc (own := [("worth", 3)]) (g := gName 3) (tt := (tB (tCallN 3 (["p"] : List Str).length (spIn T) (fun us ws => us ++ ws) E0 (tCons (tVar 0) (tCons (tVar 1) (tCons (tVar 3) tNil))) (tCons (tVar 2) tNil)))) (te := (tVar 3)) (by rfl) sc_product_lot.nd (pi_range1 (by rfl) T.z_range (pa_cons (pv 2) pa_nil)) (blkOk_by (own := [("worth", 3)]) (N := ["one", "other", "p", "worth"]) (sc := defScope s_product_lot) (by decide +kernel)) (fun _ _ _ _ _ => (pg_name (i := 3) sc_product_lot.nd rfl (Or.inl rfl))) (fun _ _ _ _ _ => pts_one (pt_val (pe_callN (ok_in_product_lot T) (hr.mono (by decide : 4 ≤ 4)) (by rfl) T.g_in_product_lot T.F_in_product_lot.kp T.kb_in_product_lot3 pass0 (pa_cons (pv 0) (pa_cons (pv 1) (pa_cons (pv 3) pa_nil))) (pk_cons (pv 2) pk_nil)))) (fun _ _ _ _ _ => (pv 3))) pa_nil))))), ?_⟩
    have hB10 : B10 = 10000000000 := rfl
    refine ⟨_, rfl, p, rfl, fun p1 => ?_, kE⟩
    replace k := k p1
    
    refine ⟨_, rfl, _, rfl, by omega, by omega, fun D hD => lc_range (lo := 0) (n := p.toNat) (fun i Hx => Same H Hx ∧ Hx D = some (.lst ((lot ns ms p i).map V.int)))
      ⟨same_new hD _, upd_same⟩ ?_ ?_⟩
    · rintro i Hx hi ⟨gs, eD⟩
      refine ⟨rfl, _, rfl, _, rfl, _, rfl, _, rfl, rfl, rfl, a, b, ns, ms, _, p, d, rfl, hA.same gs, hB.same gs, p0, by omega, hd, ho, hp, l1, l2, fun H2 g2 => ⟨_, rfl, ?_⟩⟩
      have ei : (0 : Int) + (i : Nat) = ((i : Nat) : Int) := by omega
      rw [ei]
      have ll := lot_len ns ms p i
      have es := lot_succ ns ms p i
      have g02 := gs.trans g2
      have eD2 := g2 _ _ eD
      refine ite2 (fun c => ?_) (fun c => ?_)
      · rw [if_pos c] at es
        refine ⟨_, rfl, _, eD2, ?_, fun x o ho => ?_, ?_⟩
        · rw [List.length_map]
          exact small1000 (by omega)
        · rw [upd_ne (ne_of_none ho hD)]
          exact g02 _ _ ho
        · rw [upd_same, es, List.map_append]
          rfl
      · rw [if_neg c] at es
        rw [es]
        exact ⟨g02, eD2⟩
    rintro Hx ⟨gs, eD⟩
    refine ⟨D, _, rfl, .inl ⟨SqL.of eD, fun q hq => ?_⟩⟩
    exact k q _ (gs.trans (same_new hq _)) upd_same
end
end K0

set_option maxRecDepth 100000
set_option maxHeartbeats 4000000
namespace K0
open PySem L2 BM BR

theorem sorted_x {K : PySem.W.Frag} {H : Hp} {xs : List V} {ns : List (List Int)} {d : Nat} (hI : Its H xs ns) (ho : ∀ n ∈ ns, Ok d n) : ∀ x ∈ xs, ∃ ns, TupI K H x ns ∧ ns.length = d ∧ TS.Bd B10 ns := fun x hx => by
  obtain ⟨n, hn, t⟩ := hI.mem hx
  obtain ⟨o1, o2⟩ := ho n hn
  exact ⟨n, t.up, o1, o2⟩
theorem sorted_new {K : PySem.W.Frag} {H : Hp} {q : Addr} {xs zs : List V} {ns : List (List Int)} {d : Nat} (hI : Its H xs ns) (ho : ∀ n ∈ ns, Ok d n) (hp : zs.Perm xs) (hs : zs.Pairwise fun x y => ∀ n m, TupI K H x n → TupI K H y m → TS.code B10 n ≤ TS.code B10 m) (hq : H q = none) :
    Same H (upd H q (.lst zs)) ∧ Ls (upd H q (.lst zs)) q (srt ns) := by
  obtain ⟨ms, hm, hJ⟩ := Its.perm hp hI
  have em : ms = srt ns := srt_of ho hm (hJ.asc hs)
  subst em
  exact ⟨same_new hq _, zs, upd_same, hJ.same (same_new hq _)⟩
def spMeets : Sp := fun vs H Q _ => ∃ (f s : Addr) (ns ms : List (List Int)) (g p : Int) (d : Nat), vs = [.ref f, .ref s, .int g, .int p] ∧ Ls H f ns ∧ Ls H s ms ∧ 0 < p ∧ p ≤ B10 ∧ d ≤ 100 ∧ (∀ n ∈ ns, Ok 1 n) ∧ (∀ n ∈ ms, Ok 1 n) ∧ ns.length < 60 ∧ ms.length < 60 ∧
  ∀ H', Same H H' → Q (.bl (inL ns ms g p)) H'
def spTold {K : PySem.W.Frag} {mg : Str → Option Value} (T : Txt K mg) : Sp := fun vs H Q _ => ∃ (a b : Addr) (ns ms : List (List Int)) (p : Int) (d : Nat), vs = [.ref a, .ref b, .int p] ∧ BagAt T H a (srt ns) ∧ BagAt T H b (srt ms) ∧ 0 < p ∧ d ≤ 100 ∧ (∀ n ∈ ns, Ok 1 n) ∧ (∀ n ∈ ms, Ok 1 n) ∧ ns.length < 60 ∧ ms.length < 60 ∧
  (p ≤ 800 → ∀ (t : Addr) H', Same H H' → H' t = some (.tup ((lot ns ms p p.toNat).map V.int)) → Q (.ref t) H') ∧
  (800 < p → ∀ (t : Addr) H', Same H H' → H' t = some (.lst [.str "worths", .int 800]) → Q (.ref t) H')
section
variable {P : Program} {w : World} {K : PySem.W.Frag} {mg : Str → Option Value} {base : Heap}
theorem ok_meets (T : Txt K mg) : FnOk P w K mg base CX0 3 T.f_meets T.fd_meets ["first", "second", "spot", "prime"] (spMeets) := by
  refine T.F_meets.ok sc_meets (fun vs H Q E h => ?_) (fun cdv A outer s H vs Q E hr h => ?_)
  · obtain ⟨f, s, ns, ms, g, p, d, rfl, _⟩ := h
    rfl
  · obtain ⟨f, s, ns, ms, g, p, d, rfl, hf, hs, p0, p1, hd, ho, hp, l1, l2, k⟩ := h
    refine ⟨_, (pss_one (ps_ret (pe_and (pe_cmpR (op_neD hr.units) (pe_callB (cr_sortX (B := B10)) (by rfl) T.z_sorted (by decide +kernel) (pa_cons (pv 0) pa_nil)) (pe_callB (cr_sortX (B := B10)) (by rfl) T.z_sorted (by decide +kernel) (pa_cons (pv 1) pa_nil)) (nomark _)) (pe_one (pe_cmpR op_eq (pe_call (ok_over T) (hr.mono (by decide)) (by rfl) T.g_over T.F_over.kp T.b_over .nil pass0 (pa_cons (pv 0) (pa_cons (pv 2) (pa_cons (pv 3) pa_nil)))) (pe_call (ok_over T) (hr.mono (by decide)) (by rfl) T.g_over T.F_over.kp T.b_over .nil pass0 (pa_cons (pv 1) (pa_cons (pv 2) (pa_cons (pv 3) pa_nil)))) (nomark _)))))), ?_⟩
    obtain ⟨xs, ef, hIf⟩ := id hf
    refine ⟨_, rfl, 1, by omega, f, xs, rfl, SqL.of ef, by rw [hIf.len]; omega, sorted_x hIf ho, fun zs q hpz hsz hq => ?_⟩
    obtain ⟨g1, lq⟩ := sorted_new hIf ho hpz hsz hq
    generalize upd H q (.lst zs) = H1 at g1 lq ⊢
    obtain ⟨ys, es, hIs⟩ := id (hs.same g1)
    refine ⟨_, rfl, 1, by omega, s, ys, rfl, SqL.of es, by rw [hIs.len]; omega, sorted_x hIs hp, fun zs2 q2 hp2 hs2 hq2 => ?_⟩
    obtain ⟨g2, lq2⟩ := sorted_new hIs hp hp2 hs2 hq2
    generalize upd H1 q2 (.lst zs2) = H2 at g2 lq2 ⊢
    refine ⟨_, _, (lq.same g2).dp, lq2.dp, shLL _, shLL _, ?_⟩
    rw [eqvLL]
    have hf2 := (hf.same g1).same g2
    have hs2' := (hs.same g1).same g2
    clear hs2
    have hs2 := hs2'
    refine ⟨_, rfl, ?_⟩
    by_cases c1 : srt ns = srt ms
    · have := k H2 (g1.trans g2)
      unfold inL at this
      rw [decide_eq_true c1, Bool.not_true, Bool.false_and] at this
      rw [decide_eq_true c1]
      exact iteF' (fun z => nomatch z) this
    · rw [decide_eq_false c1]
      refine iteT' rfl ?_
      refine ⟨_, rfl, _, rfl, _, rfl, f, ns, g, p, rfl, hf2, p0, p1, ho, fun H3 g3 => ?_⟩
      refine ⟨_, rfl, _, rfl, _, rfl, s, ms, g, p, rfl, hs2.same g3, p0, p1, hp, fun H4 g4 => ⟨rfl, ?_⟩⟩
      have := k H4 ((g1.trans g2).trans (g3.trans g4))
      unfold inL at this
      rw [decide_eq_false c1, Bool.not_false, Bool.true_and] at this
      simpa using this
theorem ok_lot (T : Txt K mg) : FnOk P w K mg base CX0 6 T.f_lot T.fd_lot ["left", "right", "prime"] (spTold T) := by
  refine T.F_lot.ok sc_lot (fun vs H Q E h => ?_) (fun cdv A outer s H vs Q E hr h => ?_)
  · obtain ⟨a, b, ns, ms, p, d, rfl, _⟩ := h
    rfl
  · obtain ⟨a, b, ns, ms, p, d, rfl, hA, hB, p0, hd, ho, hp, l1, l2, k, kE⟩ := h
    refine ⟨_, pss_one (ps_try_as (i := 3) (tb := fun W => tRet (OV.tCallNS 2 (["p"] : List Str).length (spLotX T) (fun us ws => us ++ ws) (WE W) (tCons (tVar 0) (tCons (tVar 1) tNil)) (tCons (tVar 2) tNil))) (ts := fun a cls d => tRet (tLst (tCons (tXf a cls d T.C_TooMany "what" (tVar 3)) (tCons (tXf a cls d T.C_TooMany "most" (tVar 3)) tNil)))) (Wout := fun _ _ _ _ => False) rfl rfl sc_lot.nd rfl rfl ⟨rfl, by decide, Or.inl T.gC_TooMany⟩ takes0
      (fun W pn xe tk _ => pss_one (ps_ret (by exact (OV.pe_callNS (ok_lotX T) (hr.mono (by decide)) (by rfl) T.g_product_lot T.F_product_lot.kp T.kb_product_lot2 (fun σ => passAt tk σ) (by exact (pa_cons (pv 0) (pa_cons (pv 1) pa_nil))) (by exact (pk_cons (pv 2) pk_nil))))))
      (fun a oe cls d pn hz hf => pss_one (ps_ret (by exact (pe_lst (pa_cons (pe_xf ⟨T.x_TooMany.ga, T.x_TooMany.gg, T.x_TooMany.exC, T.x_TooMany.hd⟩ T.no_TooMany_what hz hf (pv 3)) (pa_cons (pe_xf ⟨T.x_TooMany.ga, T.x_TooMany.gg, T.x_TooMany.exC, T.x_TooMany.hd⟩ T.no_TooMany_most hz hf (pv 3)) pa_nil))))))), ?_⟩
    refine ⟨_, rfl, _, rfl, _, rfl, rfl, rfl, a, b, ns, ms, p, d, rfl, hA, hB, p0, hd, ho, hp, l1, l2, fun p1 t H' g e => k p1 t H' g e, fun p8 H' dd g hdd ed => ?_⟩
    refine ⟨true, PySem.W.exm_ref T.x_TooMany.exC T.x_TooMany.hd T.x_TooMany.tyC T.s_TooMany, fun _ a ha => ?_, fun q => nomatch q⟩
    refine ⟨_, rfl, rfl, rfl, dd, _, _, rfl, ed, rfl, _, rfl, rfl, rfl, dd, _, _, rfl, ed, rfl, (by show 2 ≤ sizeLine; decide), fun q hq => ?_⟩
    exact kE p8 q _ (g.trans (same_new hq _)) upd_same
end
end K0

set_option maxRecDepth 100000
set_option maxHeartbeats 4000000
namespace K0
open PySem L2 BM BR

def spTwo : Sp := fun vs H Q _ => ∃ (b : Addr) (p g : Int), vs = [.ref b, .int p, .int g] ∧ BoxAt H b ∧ 3 ≤ p ∧ p < 10000000000 ∧ 0 ≤ g ∧ g < p ∧
  ∀ (t f s : Addr) (ns ms : List (List Int)) H', BoxAt H' b → Keep b H H' → H' t = some (.tup [.ref f, .ref s]) → Ls H' f ns → Ls H' s ms → ns.length ≤ 6 → ms.length ≤ 7 → (∀ n ∈ ns, Wo 1 p n) → (∀ n ∈ ms, Wo 1 p n) → Q (.ref t) H'
theorem cut_last (ys : List V) : cutV ys none (some (-1)) = ys.take (ys.length - 1) := by
  unfold cutV
  have e : HT.sIx ys.length ys.length (some (-1)) = ys.length - 1 := by
    show (if (-1 : Int) < 0 then ((-1 : Int) + (ys.length : Int)).toNat else min (-1 : Int).toNat ys.length) = _
    rw [if_pos (by decide)]
    omega
  rw [e, HT.sIx_none, List.drop_zero, Nat.sub_zero]
theorem ix_last {n : Nat} (h : 1 ≤ n) : ixN n (-1) = some (n - 1) := by
  unfold ixN
  rw [if_neg (by decide), if_pos (by omega)]
  congr 1
  omega
theorem Ls.app {H : Hp} {D : Addr} {ns : List (List Int)} {n : List Int} {v : V} {ys : List V} (e : H D = some (.lst ys)) (h : Its H ys ns) (tv : TI H v n) : Ls (L2.upd H D (.lst (ys ++ [v]))) D (ns ++ [n]) := ⟨_, upd_same, (h.snoc tv).upd e⟩
theorem Ls.updNe {H : Hp} {D F : Addr} {ys zs : List V} {ns : List (List Int)} (h : Ls H F ns) (e : H D = some (.lst ys)) (ne : F ≠ D) : Ls (L2.upd H D (.lst zs)) F ns := by
  obtain ⟨xs, e2, hI⟩ := h
  exact ⟨xs, by rw [upd_ne ne]; exact e2, hI.upd e⟩
theorem wo_app {d : Nat} {p : Int} {ns : List (List Int)} {n : List Int} (h : ∀ n ∈ ns, Wo d p n) (hn : Wo d p n) : ∀ m ∈ ns ++ [n], Wo d p m := fun m hm => by
  rcases List.mem_append.mp hm with z | z
  · exact h m z
  · rw [List.mem_singleton.mp z]
    exact hn
section
variable {P : Program} {w : World} {K : PySem.W.Frag} {mg : Str → Option Value} {base : Heap}
theorem ok_two (T : Txt K mg) : FnOk P w K mg base CX0 3 T.f_two T.fd_two ["box", "prime", "spot"] (spTwo) := by
  refine T.F_two.ok sc_two (fun vs H Q E h => ?_) (fun cdv A outer s H vs Q E hr h => ?_)
  · obtain ⟨b, p, g, rfl, _⟩ := h
    rfl
  · obtain ⟨b, p, g, rfl, hB, p3, p10, g0, g1, k⟩ := h
    refine ⟨_, (pss_cons (ps_par3 (i := 3) (j := 4) (l := 5) (by rfl) sc_two.nd rfl rfl rfl (by decide) (by decide) (by decide) rfl rfl rfl (pa_cons (pe_call (ok_draw T) (hr.mono (by decide)) (by rfl) T.g_draw T.F_draw.kp T.b_draw .nil pass0 (pa_cons (pv 0) (pa_cons pe_int pa_nil))) (pa_cons (pe_lst pa_nil) (pa_cons (pe_lst pa_nil) pa_nil))) (by rfl))
      (pss_cons (ps_set (i := 6) sc_two.nd rfl (Or.inl rfl) (pe_callB (call_min2 rfl) (by rfl) T.z_min (by decide +kernel) (pa_cons (pv 1) (pa_cons (pe_call (ok_of T) (hr.mono (by decide)) (by rfl) T.g_of T.F_of.kp T.b_of .nil pass0 (pa_cons (pv 0) (pa_cons (pe_lst (pa_cons pe_int (pa_cons (pv 1) (pa_cons (pv 1) pa_nil)))) pa_nil))) pa_nil))))
      (pss_cons (ps_for PassesOwn.never rfl (pi_range1 (by rfl) T.z_range (pa_cons (pv 3) pa_nil)) (pg_name (i := 7) sc_two.nd rfl (Or.inl rfl)) (pss_cons (ps_expr (pe_bm PySem.F.plainAttrs_list PySem.F.slot_list_append PySem.F.type_list_append mt_append (pv 4) (pa_cons (pe_tup (pa_cons (pe_call (ok_draw T) (hr.mono (by decide)) (by rfl) T.g_draw T.F_draw.kp T.b_draw .nil pass0 (pa_cons (pv 0) (pa_cons (pv 6) pa_nil))) pa_nil)) pa_nil)))
      (pss_one (ps_expr (pe_bm PySem.F.plainAttrs_list PySem.F.slot_list_append PySem.F.type_list_append mt_append (pv 5) (pa_cons (pe_ifExp (pt_cmpR op_eq (pe_call (ok_draw T) (hr.mono (by decide)) (by rfl) T.g_draw T.F_draw.kp T.b_draw .nil pass0 (pa_cons (pv 0) (pa_cons pe_int pa_nil))) pe_int (nomark _)) (pe_ix ix_list (pv 4) (pv 7) (fun _ _ => rfl)) (pe_tup (pa_cons (pe_call (ok_draw T) (hr.mono (by decide)) (by rfl) T.g_draw T.F_draw.kp T.b_draw .nil pass0 (pa_cons (pv 0) (pa_cons (pv 6) pa_nil))) pa_nil))) pa_nil))))))
      (C8.pss_cut (ps_if (PW.pt (pw_and (pt_cmpR op_gt (pv 3) pe_int (nomark _)) (pw_and1 (pt_cmpR op_eq (pe_call (ok_draw T) (hr.mono (by decide)) (by rfl) T.g_draw T.F_draw.kp T.b_draw .nil pass0 (pa_cons (pv 0) (pa_cons pe_int pa_nil))) pe_int (nomark _))))) (pss_cons (ps_set (i := 8) sc_two.nd rfl (Or.inl rfl) (pe_call (ok_over T) (hr.mono (by decide)) (by rfl) T.g_over T.F_over.kp T.b_over .nil pass0 (pa_cons (pe_slice sl_list (pv 5) po_none (po_some (pe_un un_neg pe_int))) (pa_cons (pv 2) (pa_cons (pv 1) pa_nil)))))
      (pss_one (ps_if (pt_cmpR op_ne (pv 8) pe_int (nomark _)) (pss_cons (ps_set (i := 9) sc_two.nd rfl (Or.inl rfl) (pe_op op_mod (pe_callTy call_int1 (by rfl) T.z_int (by decide +kernel) (pa_cons (pe_op op_mul (pe_call (ok_over T) (hr.mono (by decide)) (by rfl) T.g_over T.F_over.kp T.b_over .nil pass0 (pa_cons (pv 4) (pa_cons (pv 2) (pa_cons (pv 1) pa_nil)))) (pe_call (ok_law_inverse T) (hr.mono (by decide)) (by rfl) T.g_law_inverse T.F_law_inverse.kp T.b_law_inverse .nil pass0 (pa_cons (pv 8) (pa_cons (pv 1) pa_nil)))) pa_nil)) (pv 1)))
      (pss_one (ps_asg (pe_tup (pa_cons (pe_op op_mod (pe_callTy call_int1 (by rfl) T.z_int (by decide +kernel) (pa_cons (pe_op op_sub (pv 2) (pv 9)) pa_nil)) (pv 1)) pa_nil)) (pg_sub (pv 5) (pe_un un_neg pe_int) set_list)))) pss_nil))) pss_nil)
      (C8.pss_cut (ps_if (pt_cmpR op_eq (pe_call (ok_draw T) (hr.mono (by decide)) (by rfl) T.g_draw T.F_draw.kp T.b_draw .nil pass0 (pa_cons (pv 0) (pa_cons pe_int pa_nil))) pe_int (nomark _)) (pss_one (ps_expr (pe_bm PySem.F.plainAttrs_list PySem.F.slot_list_append PySem.F.type_list_append mt_append (pv 5) (pa_cons (pe_tup (pa_cons (pe_call (ok_draw T) (hr.mono (by decide)) (by rfl) T.g_draw T.F_draw.kp T.b_draw .nil pass0 (pa_cons (pv 0) (pa_cons (pv 1) pa_nil))) pa_nil)) pa_nil)))) pss_nil)
      (pss_one (ps_ret (pe_tup (pa_cons (pv 4) (pa_cons (pe_call (ok_shuffled T) (hr.mono (by decide)) (by rfl) T.g_shuffled T.F_shuffled.kp T.b_shuffled .nil pass0 (pa_cons (pv 0) (pa_cons (pv 5) pa_nil))) pa_nil)))))))))), ?_⟩
    have hB10 : B10 = 10000000000 := rfl
    refine ⟨_, rfl, b, _, rfl, by decide, by decide, hB, fun mw H2 mw0 mw1 hB2 hK2 => ⟨(by show 0 ≤ sizeLine; decide), fun D hD => ?_⟩⟩
    have gD := same_new hD (.lst [])
    have eD : upd H2 D (.lst []) D = some (.lst []) := upd_same
    have hD0 := kNone hB2 hK2 hD
    have hB3 := hB2.same gD
    have hK3 := hK2.trans (Keep.of_same gD)
    generalize upd H2 D (.lst []) = H3 at gD eD hB3 hK3 ⊢
    refine ⟨(by show 0 ≤ sizeLine; decide), fun F hF => ?_⟩
    have gF := same_new hF (.lst [])
    have eF : upd H3 F (.lst []) F = some (.lst []) := upd_same
    have hF0 := kNone hB3 hK3 hF
    have nDF : D ≠ F := fun z => by
      rw [← z, eD] at hF
      cases hF
    have hB5 := hB3.same gF
    have hK5 := hK3.trans (Keep.of_same gF)
    have eD5 := gF _ _ eD
    generalize upd H3 F (.lst []) = H5 at gF eF hB5 hK5 eD5 ⊢
    clear hB2 hB3 hK2 hK3 gD gF hD hF eD
    have hD := hD0
    have hF := hF0
    have nD := hB.ne hD
    have nF := hB.ne hF
    have eF5 := eF
    -- wide
    refine ⟨_, _, _, rfl, _, rfl, _, rfl, _, rfl, _, rfl, (by show 3 ≤ sizeLine; decide), fun u hu => ?_⟩
    have gu := same_new hu (.lst ([3, p, p].map V.int))
    refine ⟨b, u, _, rfl, hB5.same gu, hB5.ne hu, SqL.of upd_same, by simp, by simp, fun i v H6 hi hB6 hK6 => ?_⟩
    obtain ⟨w, hw, rfl⟩ := ints_of (l := [3, p, p]) hi
    have wb2 : 3 ≤ w ∧ w ≤ p := by
      simp only [List.mem_cons, List.not_mem_nil, or_false] at hw
      omega
    have eD6 := hK6.1 _ _ nD (gu _ _ eD5)
    have eF6 := hK6.1 _ _ nF (gu _ _ eF5)
    have hK06 := hK5.trans ((Keep.of_same gu).trans hK6)
    clear hw hi hK6 gu hu eD5 eF5 hB5 hK5
    refine ⟨_, _, rfl, ?_⟩
    have wb3 : 0 < (if w < p then w else p) ∧ (if w < p then w else p) ≤ p := by split <;> omega
    generalize (if w < p then w else p) = wd at wb3 ⊢
    have wpos := wb3.1
    refine ⟨_, rfl, _, rfl, by omega, by omega, for_range (lo := 0) (fun i σ Hx => ∃ (v7 v8 v9 : Option V) (ns ms : List (List Int)), σ = [some (.ref b), some (.int p), some (.int g), some (.int mw), some (.ref D), some (.ref F), some (.int wd), v7, v8, v9] ∧ (BoxAt Hx b ∧ Keep b H Hx ∧ Ls Hx D ns ∧ Ls Hx F ms ∧ (∀ n ∈ ns, Wo 1 p n) ∧ (∀ n ∈ ms, Wo 1 p n)) ∧ ns.length = i ∧ ms.length = i)
      ⟨none, none, none, [], [], rfl, ⟨hB6, hK06, ⟨[], eD6, .nil⟩, ⟨[], eF6, .nil⟩, (fun _ z => nomatch z), (fun _ z => nomatch z)⟩, rfl, rfl⟩ ?_ ?_⟩
    · clear hB6 hK06 eD6 eF6
      rintro i σ Hx hi ⟨v7, v8, v9, ns, ms, rfl, ⟨hBx, hKx, LD, LF, wons, woms⟩, ln, lm⟩
      obtain ⟨xs, eD, hID⟩ := id LD
      refine ⟨_, rfl, .inl ⟨rfl, _, SqL.of eD⟩, _, rfl, _, rfl, b, _, rfl, by omega, by omega, hBx, fun z H7 z0 z1 hB7 hK7 => ⟨(by show 1 ≤ sizeLine; decide), fun q hq => ?_⟩⟩
      clear eD hID
      have hK07 := hKx.trans (hK7.trans (Keep.of_same (same_new hq (.tup ([.int z])))))
      have gq := same_new hq (.tup ([.int z]))
      have tq : TI (upd H7 q (.tup ([.int z]))) (.ref q) [z] := ⟨q, rfl, upd_same⟩
      have L7D := (LD.keep hBx hK7).same gq
      have L7F := (LF.keep hBx hK7).same gq
      have hB7' := hB7.same gq
      obtain ⟨xs, eD, hID⟩ := id L7D
      have lD := hID.len
      refine ⟨D, xs, _, rfl, rfl, eD, small1000 (by omega), ?_⟩
      have L8D := Ls.app eD hID tq
      have L8F := L7F.updNe (zs := xs ++ [.ref q]) eD nDF.symm
      have hB8 := BoxAt.upd (o := .lst (xs ++ [.ref q])) hB hD hK07 hB7'
      have hK8 := Keep.at (o := .lst (xs ++ [.ref q])) hD nD hK07
      have wq : Wo 1 p [z] := ⟨rfl, fun y hy => by
        rw [List.mem_singleton.mp hy]
        omega⟩
      replace wons := wo_app wons wq
      have ln2 : (ns ++ [[z]]).length = i + 1 := by rw [List.length_append, ln]; rfl
      generalize ns ++ [[z]] = ns2 at wons ln2 L8D ⊢
      generalize upd (upd H7 q (.tup [.int z])) D (.lst (xs ++ [.ref q])) = H8 at L8D L8F hB8 hK8 ⊢
      clear L7D L7F hB7' hB7 hK7 hK07 tq gq hq eD hID lD LD LF hBx hKx wq
      obtain ⟨ys, eF, _⟩ := id L8F
      refine ⟨_, rfl, .inl ⟨rfl, _, SqL.of eF⟩, _, rfl, b, _, rfl, by decide, by decide, hB8, fun w H9 w0 w1 hB9 hK9 => ⟨rfl, _, rfl, ite2 (fun c => ?_) (fun c => ?_)⟩⟩
      · have L9D := L8D.keep hB8 hK9
        have L9F := L8F.keep hB8 hK9
        have hK09 := hK8.trans hK9
        obtain ⟨xs2, eD2, hID2⟩ := id L9D
        have l2 := hID2.len
        obtain ⟨zs, eF2, hIF2⟩ := id L9F
        have lF2 := hIF2.len
        have hx : xs2[i]? = some xs2[i] := List.getElem?_eq_getElem (by omega)
        obtain ⟨n, hn, tn⟩ := hID2.at_ hx
        refine ⟨_, rfl, _, rfl, D, xs2, _, _, rfl, rfl, SqL.of eD2, by rw [Int.zero_add, atI_nat]; exact hx, F, zs, _, rfl, rfl, eF2, small1000 (by omega), ?_⟩
        exact ⟨_, _, _, ns2, ms ++ [n], rfl, ⟨BoxAt.upd hB hF hK09 hB9, Keep.at hF nF hK09, L9D.updNe eF2 nDF, Ls.app eF2 hIF2 tn, wons, wo_app woms (wons n (List.mem_of_getElem? hn))⟩, ln2, by rw [List.length_append, lm]; rfl⟩
      · have L9D := L8D.keep hB8 hK9
        have L9F := L8F.keep hB8 hK9
        have hK09 := hK8.trans hK9
        refine ⟨_, rfl, _, rfl, b, _, rfl, by omega, by omega, hB9, fun z2 H10 z20 z21 hB10' hK10 => ⟨(by show 1 ≤ sizeLine; decide), fun q2 hq2 => ?_⟩⟩
        have gq2 := same_new hq2 (.tup [.int z2])
        have tq2 : TI (upd H10 q2 (.tup [.int z2])) (.ref q2) [z2] := ⟨q2, rfl, upd_same⟩
        have hK011 := hK09.trans (hK10.trans (Keep.of_same gq2))
        have L11D := (L9D.keep hB9 hK10).same gq2
        have L11F := (L9F.keep hB9 hK10).same gq2
        have hB11 := hB10'.same gq2
        generalize upd H10 q2 (.tup [.int z2]) = H11 at tq2 hK011 L11D L11F hB11 ⊢
        obtain ⟨zs, eF2, hIF2⟩ := id L11F
        have lF2 := hIF2.len
        refine ⟨F, zs, _, rfl, rfl, eF2, small1000 (by omega), ?_⟩
        exact ⟨_, _, _, ns2, ms ++ [[z2]], rfl, ⟨BoxAt.upd hB hF hK011 hB11, Keep.at hF nF hK011, L11D.updNe eF2 nDF, Ls.app eF2 hIF2 tq2, wons, wo_app woms ⟨rfl, fun y hy => by
          rw [List.mem_singleton.mp hy]
          omega⟩⟩, ln2, by rw [List.length_append, lm]; rfl⟩
    rintro σ Hx ⟨v7, v8, v9, ns, ms, rfl, ⟨hBx, hKx, LD, LF, wons, woms⟩, ln, lm⟩
    clear hB6 hK06 eD6 eF6
    have p0 : 0 < p := by omega
    have okn : ∀ n ∈ ns, Ok 1 n := fun n hn => (wons n hn).ok (by omega)
    refine ⟨fun σ Hx => ∃ (v8 v9 : Option V) (ms : List (List Int)), σ = [some (.ref b), some (.int p), some (.int g), some (.int mw), some (.ref D), some (.ref F), some (.int wd), v7, v8, v9] ∧ (BoxAt Hx b ∧ Keep b H Hx ∧ Ls Hx D ns ∧ Ls Hx F ms ∧ (∀ n ∈ ns, Wo 1 p n) ∧ (∀ n ∈ ms, Wo 1 p n)) ∧ ms.length = ns.length, ?_, ?_⟩
    · refine ⟨_, rfl, _, _, rfl, rfl, _, rfl, ite2 (fun c => ?_) (fun c => ⟨v8, v9, ms, rfl, ⟨hBx, hKx, LD, LF, wons, woms⟩, lm.trans ln.symm⟩)⟩
      have c1 : 1 < mw := of_decide_eq_true c
      refine ⟨_, rfl, b, _, rfl, by decide, by decide, hBx, fun w H2 w0 w1 hB2 hK2 => ⟨rfl, _, rfl, ite2 (fun c => ?_) (fun c => ⟨v8, v9, ms, rfl, ⟨hB2, hKx.trans hK2, LD.keep hBx hK2, LF.keep hBx hK2, wons, woms⟩, lm.trans ln.symm⟩)⟩⟩
      have L2D := LD.keep hBx hK2
      have L2F := LF.keep hBx hK2
      have hK02 := hKx.trans hK2
      clear LD LF hBx hKx hK2
      obtain ⟨ys, eF, hIF⟩ := id L2F
      have lF := hIF.len
      refine ⟨_, rfl, _, rfl, _, rfl, F, ys, rfl, SqL.of eF, fun q hq => ?_⟩
      rw [cut_last]
      have gq := same_new hq (.lst (ys.take (ys.length - 1)))
      have lq := Ls.new hq (hIF.take (ys.length - 1))
      have hB3 := hB2.same gq
      have hK03 := hK02.trans (Keep.of_same gq)
      have L3D := L2D.same gq
      have L3F := L2F.same gq
      generalize upd H2 q (.lst (ys.take (ys.length - 1))) = H3 at lq hB3 hK03 L3D L3F ⊢
      clear gq hq hIF eF L2D L2F hB2 hK02
      refine ⟨_, rfl, _, rfl, q, _, g, p, rfl, lq, p0, by omega, fun n hn => (woms n (List.mem_of_mem_take hn)).ok (by omega), fun H4 g4 => ?_⟩
      generalize prd p g (ms.take (ys.length - 1)) = held
      have L4D := L3D.same g4
      have L4F := L3F.same g4
      have hB4 := hB3.same g4
      have hK04 := hK03.trans (Keep.of_same g4)
      clear L3D L3F hB3 hK03 lq g4
      refine ⟨_, rfl, rfl, _, rfl, ite2 (fun c => ?_) (fun c => ⟨_, _, ms, rfl, ⟨hB4, hK04, L4D, L4F, wons, woms⟩, lm.trans ln.symm⟩)⟩
      refine ⟨_, rfl, _, rfl, _, rfl, D, ns, g, p, rfl, L4D, p0, by omega, okn, fun H5 g5 => ?_⟩
      have L5D := L4D.same g5
      have L5F := L4F.same g5
      have hB5 := hB4.same g5
      have hK05 := hK04.trans (Keep.of_same g5)
      clear L4D L4F hB4 hK04 g5
      have bp := prd_bd (z := g) p0 (by omega : p ≤ B10) ns
      refine ⟨_, rfl, _, rfl, _, p, rfl, by omega, by omega, _, _, rfl, rfl, .inl ⟨by omega, by omega⟩, .inl ⟨_, rfl, _, rfl, _, _, rfl, rfl, p0, ?_⟩⟩
      have n0 := Int.emod_nonneg (g - prd p g ns * invF p held % p) (show p ≠ 0 by omega)
      have n1 := Int.emod_lt_of_pos (g - prd p g ns * invF p held % p) p0
      refine ⟨_, rfl, _, rfl, _, _, rfl, rfl, .inl ⟨_, rfl, _, rfl, _, _, rfl, rfl, p0, (by show 1 ≤ sizeLine; decide), fun q2 hq2 => ?_⟩⟩
      have gq2 := same_new hq2 (.tup [.int ((g - prd p g ns * invF p held % p) % p)])
      have tq2 : TI (upd H5 q2 (.tup [.int ((g - prd p g ns * invF p held % p) % p)])) (.ref q2) [(g - prd p g ns * invF p held % p) % p] := ⟨q2, rfl, upd_same⟩
      have L6D := L5D.same gq2
      have L6F := L5F.same gq2
      have hB6 := hB5.same gq2
      have hK06 := hK05.trans (Keep.of_same gq2)
      obtain ⟨zs, eF2, hIF2⟩ := id L6F
      have lF2 := hIF2.len
      have hz : 1 ≤ zs.length := by omega
      refine ⟨_, rfl, _, rfl, F, zs, _, zs.length - 1, rfl, rfl, eF2, ix_last hz, ?_⟩
      exact ⟨_, _, ms.set (zs.length - 1) [(g - prd p g ns * invF p held % p) % p], rfl, ⟨BoxAt.upd hB hF hK06 hB6, Keep.at hF nF hK06, L6D.updNe eF2 nDF, ⟨_, upd_same, (hIF2.set _ tq2).upd eF2⟩, wons, fun n hn => by
        rcases List.mem_or_eq_of_mem_set hn with hn | rfl
        · exact woms n hn
        · exact ⟨rfl, fun y hy => by
            rw [List.mem_singleton.mp hy]
            exact ⟨n0, n1⟩⟩⟩, by rw [List.length_set]; exact lm.trans ln.symm⟩
    clear hBx hKx LD LF woms lm
    rintro σ Hx ⟨v8, v9, ms, rfl, ⟨hBx, hKx, LD, LF, _, woms⟩, lm⟩
    refine ⟨fun σ Hx => ∃ (ms : List (List Int)), σ = [some (.ref b), some (.int p), some (.int g), some (.int mw), some (.ref D), some (.ref F), some (.int wd), v7, v8, v9] ∧ (BoxAt Hx b ∧ Keep b H Hx ∧ Ls Hx D ns ∧ Ls Hx F ms ∧ (∀ n ∈ ns, Wo 1 p n) ∧ (∀ n ∈ ms, Wo 1 p n)) ∧ ms.length ≤ 7, ?_, ?_⟩
    · refine ⟨_, rfl, b, _, rfl, by decide, by decide, hBx, fun w H2 w0 w1 hB2 hK2 => ⟨rfl, _, rfl, ite2 (fun c => ?_) (fun c => ⟨ms, rfl, ⟨hB2, hKx.trans hK2, LD.keep hBx hK2, LF.keep hBx hK2, wons, woms⟩, by omega⟩)⟩⟩
      have L2D := LD.keep hBx hK2
      have L2F := LF.keep hBx hK2
      have hK02 := hKx.trans hK2
      obtain ⟨ys, eF, _⟩ := id L2F
      refine ⟨_, rfl, .inl ⟨rfl, _, SqL.of eF⟩, _, rfl, _, rfl, b, _, rfl, by omega, by omega, hB2, fun z2 H3 z20 z21 hB3 hK3 => ⟨(by show 1 ≤ sizeLine; decide), fun q2 hq2 => ?_⟩⟩
      have gq2 := same_new hq2 (.tup [.int z2])
      have tq2 : TI (upd H3 q2 (.tup [.int z2])) (.ref q2) [z2] := ⟨q2, rfl, upd_same⟩
      have hK03 := hK02.trans (hK3.trans (Keep.of_same gq2))
      have L3D := (L2D.keep hB2 hK3).same gq2
      have L3F := (L2F.keep hB2 hK3).same gq2
      have hB4 := hB3.same gq2
      generalize upd H3 q2 (.tup [.int z2]) = H4 at tq2 hK03 L3D L3F hB4 ⊢
      obtain ⟨zs, eF2, hIF2⟩ := id L3F
      have lF2 := hIF2.len
      refine ⟨F, zs, _, rfl, rfl, eF2, small1000 (by omega), ?_⟩
      exact ⟨ms ++ [[z2]], rfl, ⟨BoxAt.upd hB hF hK03 hB4, Keep.at hF nF hK03, L3D.updNe eF2 nDF, Ls.app eF2 hIF2 tq2, wons, wo_app woms ⟨rfl, fun y hy => by
        rw [List.mem_singleton.mp hy]
        omega⟩⟩, by rw [List.length_append]; show _ + 1 ≤ 7; omega⟩
    clear hBx hKx LD LF woms lm
    rintro σ Hx ⟨ms, rfl, ⟨hBx, hKx, LD, LF, _, woms⟩, lm⟩
    refine ⟨_, rfl, _, rfl, _, rfl, b, F, ms, rfl, hBx, LF, by omega, fun f2 ms2 H2 hB2 hK2 hp lf2 => ⟨(by show 2 ≤ sizeLine; decide), fun t ht => ?_⟩⟩
    have gt := same_new ht (.tup [.ref D, .ref f2])
    exact k t D f2 ns ms2 _ (hB2.same gt) (hKx.trans (hK2.trans (Keep.of_same gt))) upd_same ((LD.keep hBx hK2).same gt) (lf2.same gt) (by omega) (by rw [hp.length_eq]; omega) wons (fun n hn => woms n (hp.mem_iff.mp hn))
end
end K0

set_option maxRecDepth 100000
set_option maxHeartbeats 4000000
namespace K0
open PySem L2 BM BR

theorem eB {K : PySem.W.Frag} {b : Addr} {H : Hp} {n : Nat} {x y : Bool} (e : x = y) : EqV K b H n (.bl x) (.bl y) := by
  subst e
  exact EqV.sc (x := .bl x) trivial
theorem eI {K : PySem.W.Frag} {b : Addr} {H : Hp} {n : Nat} {x y : Int} (e : x = y) : EqV K b H n (.int x) (.int y) := by
  subst e
  exact EqV.sc (x := .int x) trivial
theorem eS {K : PySem.W.Frag} {b : Addr} {H : Hp} {n : Nat} {x y : Str} (e : x = y) : EqV K b H n (.str x) (.str y) := by
  subst e
  exact EqV.sc (x := .str x) trivial
theorem eLs {K : PySem.W.Frag} {b : Addr} {H : Hp} {l m : Addr} {ns : List (List Int)} {d : Nat} (hb : BoxAt H b) (h : Ls H l ns) (g : Ls H m ns) (ho : ∀ n ∈ ns, Ok d n) (hd : d ≤ 1000) (hn : ns.length ≤ 1000) : EqV K b H 7 (.ref l) (.ref m) :=
  eqv_up (ls_eqv hb h g (fun n hm => by rw [(ho n hm).1]; exact hd) hn) (by decide)
/-- two tuples of the same ints -/
theorem eT {K : PySem.W.Frag} {b : Addr} {H : Hp} {n : Nat} {x y : Addr} {ls : List Int} (hb : BoxAt H b) (h : H x = some (.tup (ls.map V.int))) (g : H y = some (.tup (ls.map V.int))) (hl : ls.length ≤ 1000) : EqV K b H (n + 1) (.ref x) (.ref y) :=
  eqv_up (ti_eqv (n := ls) hb ⟨x, rfl, h⟩ ⟨y, rfl, g⟩ hl) (by omega)
structure LI {K : PySem.W.Frag} {mg : Str → Option Value} (T : Txt K mg) (b x y f s : Addr) (ns ms : List (List Int)) (H : Hp) : Prop where
  hB : BoxAt H b
  bx : BagAt T H x (srt ns)
  bY : BagAt T H y (srt ms)
  lf : Ls H f ns
  ls : Ls H s ms
theorem LI.keep {K : PySem.W.Frag} {mg : Str → Option Value} {T : Txt K mg} {b x y f s : Addr} {ns ms : List (List Int)} {H H' : Hp} (h : LI T b x y f s ns ms H) (hB : BoxAt H' b) (k : Keep b H H') : LI T b x y f s ns ms H' :=
  ⟨hB, h.bx.keep h.hB k, h.bY.keep h.hB k, h.lf.keep h.hB k, h.ls.keep h.hB k⟩
theorem LI.same {K : PySem.W.Frag} {mg : Str → Option Value} {T : Txt K mg} {b x y f s : Addr} {ns ms : List (List Int)} {H H' : Hp} (h : LI T b x y f s ns ms H) (g : Same H H') : LI T b x y f s ns ms H' := h.keep (h.hB.same g) (Keep.of_same g)
theorem LI.sw {K : PySem.W.Frag} {mg : Str → Option Value} {T : Txt K mg} {b x y f s : Addr} {ns ms : List (List Int)} {H : Hp} (h : LI T b x y f s ns ms H) : LI T b y x s f ms ns H := ⟨h.hB, h.bY, h.bx, h.ls, h.lf⟩
theorem inL_mod {ns ms : List (List Int)} {g h p : Int} (e : g % p = h % p) : inL ns ms g p = inL ns ms h p := by
  unfold inL
  rw [prd_mod e, prd_mod e]
def spMem {K : PySem.W.Frag} {mg : Str → Option Value} (T : Txt K mg) : Sp := fun vs H Q _ => ∃ (b x y f s l : Addr) (ns ms : List (List Int)) (p : Int) (d : Nat) (gs : List Int), vs = [.ref b, .ref x, .ref y, .ref f, .ref s, .int p, .ref l] ∧ LI T b x y f s ns ms H ∧ H l = some (.lst (gs.map V.int)) ∧ l ≠ b ∧ gs.length ≤ 1000 ∧ (∀ z ∈ gs, 0 ≤ z ∧ z < p) ∧ 0 < p ∧ p < 10000000000 ∧ d ≤ 100 ∧ (∀ n ∈ ns, Ok 1 n) ∧ (∀ n ∈ ms, Ok 1 n) ∧ ns.length < 60 ∧ ms.length < 60 ∧
  ∀ H', BoxAt H' b → Keep b H H' → Q (.bl true) H'
section
variable {P : Program} {w : World} {K : PySem.W.Frag} {mg : Str → Option Value} {base : Heap}
theorem ok_members (T : Txt K mg) : FnOk P w K mg base CX0 9 T.f_members T.fd_members ["box", "left", "right", "first", "second", "prime", "spots"] (spMem T) := by
  refine T.F_members.ok sc_members (fun vs H Q E h => ?_) (fun cdv A outer s H vs Q E hr h => ?_)
  · obtain ⟨b, x, y, f, s, l, ns, ms, p, d, gs, rfl, _⟩ := h
    rfl
  · obtain ⟨b, x, y, f, s, l, ns, ms, p, d, gs, rfl, hL, el, nl, hgl, hg, p0, p1, hd, ho, hp, l1, l2, k⟩ := h
    refine ⟨_, (pss_cons (ps_for PassesOwn.never rfl (pi_list (pv 6)) (pg_name (i := 7) sc_members.nd rfl (Or.inl rfl)) (pss_cons (ps_set (i := 8) sc_members.nd rfl (Or.inl rfl) (pe_call (ok_meets T) (hr.mono (by decide)) (by rfl) T.g_meets T.F_meets.kp T.b_meets .nil pass0 (pa_cons (pv 3) (pa_cons (pv 4) (pa_cons (pv 7) (pa_cons (pv 5) pa_nil))))))
      (pss_cons (ps_if (pt_not (pt_val (pe_call (ok_same T 8) (hr.mono (by decide)) (by rfl) T.g_same T.F_same.kp T.b_same .nil pass0 (pa_cons (pe_callN (ok_in_product_lot T) (hr.mono (by decide)) (by rfl) T.g_in_product_lot T.F_in_product_lot.kp T.kb_in_product_lot3 pass0 (pa_cons (pv 1) (pa_cons (pv 2) (pa_cons (pv 7) pa_nil))) (pk_cons (pv 5) pk_nil)) (pa_cons (pv 8) pa_nil))))) (pss_one (ps_ret pe_bl)) pss_nil)
      (pss_one (ps_if (PW.pt (pw_and (pt_cmpR op_eq (pe_call (ok_draw T) (hr.mono (by decide)) (by rfl) T.g_draw T.F_draw.kp T.b_draw .nil pass0 (pa_cons (pv 0) (pa_cons pe_int pa_nil))) pe_int (nomark _)) (pw_and1 (pt_cmpR op_lt (pv 5) (pe_op op_pow pe_int pe_int) (nomark _))))) (pss_cons (ps_set (i := 9) sc_members.nd rfl (Or.inl rfl) (pe_op op_add (pv 7) (pe_op op_mul (pv 5) (pe_op op_sub (pe_call (ok_draw T) (hr.mono (by decide)) (by rfl) T.g_draw T.F_draw.kp T.b_draw .nil pass0 (pa_cons (pv 0) (pa_cons pe_int pa_nil))) pe_int))))
      (pss_one (ps_if (pt_not (pt_val (pe_call (ok_same T 8) (hr.mono (by decide)) (by rfl) T.g_same T.F_same.kp T.b_same .nil pass0 (pa_cons (pe_callN0 (ok_in_product_lot T) (hr.mono (by decide)) (by rfl) T.g_in_product_lot T.F_in_product_lot.kp T.kb_in_product_lot0 pass0 (pk_cons (pv 5) (pk_cons (pv 9) (pk_cons (pv 2) (pk_cons (pv 1) pk_nil))))) (pa_cons (pv 8) pa_nil))))) (pss_one (ps_ret pe_bl)) pss_nil))) pss_nil)))))
      (pss_one (ps_ret pe_bl))), ?_⟩
    have hB10 : B10 = 10000000000 := rfl
    refine ⟨_, rfl, l, rfl, ⟨_, SqL.of el⟩, for_list (K := K) (a := l) (xs := gs.map V.int) (fun i σ Hx => ∃ (v7 v8 v9 : Option V), σ = [some (.ref b), some (.ref x), some (.ref y), some (.ref f), some (.ref s), some (.int p), some (.ref l), v7, v8, v9] ∧ BoxAt Hx b ∧ Keep b H Hx)
      ⟨none, none, none, rfl, hL.hB, Keep.refl⟩ (fun i σ Hx _ ⟨_, _, _, _, _, hK⟩ => SqL.of (hK.1 _ _ nl el)) ?_ ?_⟩
    · rintro i z σ Hx hi ⟨v7, v8, v9, rfl, hBx, hKx⟩
      obtain ⟨g, hgi, rfl⟩ := at_int hi
      have gb := hg g (List.mem_of_getElem? hgi)
      have Lx := hL.keep hBx hKx
      refine ⟨_, rfl, _, rfl, _, rfl, _, rfl, f, s, ns, ms, g, p, d, rfl, Lx.lf, Lx.ls, p0, by omega, hd, ho, hp, l1, l2, fun H1 g1 => ?_⟩
      have L1 := Lx.same g1
      have hK1 := hKx.trans (Keep.of_same g1)
      refine ⟨_, rfl, _, rfl, _, rfl, _, rfl, rfl, rfl, x, y, ns, ms, g, p, d, rfl, L1.bx, L1.bY, p0, by omega, hd, ho, hp, l1, l2, fun H2 g2 => ?_⟩
      have L2 := L1.same g2
      have hK2 := hK1.trans (Keep.of_same g2)
      refine ⟨_, rfl, b, _, _, rfl, eB rfl, fun H3 g3 => ⟨_, rfl, iteF ?_⟩⟩
      have L3 := L2.same g3
      have hK3 := hK2.trans (Keep.of_same g3)
      refine ⟨_, rfl, b, _, rfl, by decide, by decide, L3.hB, fun w H4 w0 w1 hB4 hK4 => ⟨rfl, _, rfl, ite2 (fun c => ?_) (fun c => ⟨_, _, _, rfl, hB4, hK3.trans hK4⟩)⟩⟩
      have L4 := L3.keep hB4 hK4
      have hK04 := hK3.trans hK4
      refine ⟨_, rfl, _, _, rfl, rfl, ⟨by decide, by decide, by decide⟩, _, _, rfl, rfl, _, rfl, ite2 (fun c => ?_) (fun c => ⟨_, _, _, rfl, hB4, hK04⟩)⟩
      refine ⟨_, rfl, _, rfl, _, rfl, b, _, rfl, by decide, by decide, hB4, fun e H5 e0 e1 hB5 hK5 => ⟨_, _, rfl, rfl, _, _, rfl, rfl, .inl ⟨by omega, by omega⟩, _, _, rfl, rfl, ?_⟩⟩
      have L5 := L4.keep hB5 hK5
      have hK05 := hK04.trans hK5
      have em : (g + p * (e - 2)) % p = g % p := by rw [Int.add_mul_emod_self_left]
      refine ⟨_, rfl, _, rfl, _, rfl, _, rfl, rfl, rfl, x, y, ns, ms, _, p, d, rfl, L5.bx, L5.bY, p0, by omega, hd, ho, hp, l1, l2, fun H6 g6 => ?_⟩
      refine ⟨_, rfl, b, _, _, rfl, eB (inL_mod em), fun H7 g7 => ⟨_, rfl, iteF ?_⟩⟩
      have g67 := g6.trans g7
      exact ⟨_, _, _, rfl, hB5.same g67, hK05.trans (Keep.of_same g67)⟩
    rintro σ Hx ⟨v7, v8, v9, rfl, hBx, hKx⟩
    exact k Hx hBx hKx
end
end K0

set_option maxRecDepth 100000
set_option maxHeartbeats 4000000
namespace K0
open PySem L2 BM BR

def spLaw (K : PySem.W.Frag) : Sp := fun vs H Q _ => ∃ (a : Addr) (ns : List Int), vs = [.ref a] ∧ SqL K H a (ns.map V.int) ∧ ns.length ≤ 63 ∧ ∀ H', Q (.bl true) H'
def IsP (p : Int) : Prop := 3 ≤ p ∧ p < 10000000000 ∧ (p ≤ 800 → Prm p)
theorem isP1 : ∀ p ∈ ([3, 5, 7, 11, 13, 17, 29, 31] : List Int), IsP p := by
  intro p hp
  simp only [List.mem_cons, List.not_mem_nil, or_false] at hp
  rcases hp with rfl | rfl | rfl | rfl | rfl | rfl | rfl | rfl
  · exact ⟨by decide, by decide, fun _ => prm_small (n := 3) (by decide) (by decide +kernel)⟩
  · exact ⟨by decide, by decide, fun _ => prm_small (n := 5) (by decide) (by decide +kernel)⟩
  · exact ⟨by decide, by decide, fun _ => prm_small (n := 7) (by decide) (by decide +kernel)⟩
  · exact ⟨by decide, by decide, fun _ => prm_small (n := 11) (by decide) (by decide +kernel)⟩
  · exact ⟨by decide, by decide, fun _ => prm_small (n := 13) (by decide) (by decide +kernel)⟩
  · exact ⟨by decide, by decide, fun _ => prm_small (n := 17) (by decide) (by decide +kernel)⟩
  · exact ⟨by decide, by decide, fun _ => prm_small (n := 29) (by decide) (by decide +kernel)⟩
  · exact ⟨by decide, by decide, fun _ => prm_small (n := 31) (by decide) (by decide +kernel)⟩
theorem isP2 : ∀ p ∈ ([97, 193, 193, 797] : List Int), IsP p := by
  intro p hp
  simp only [List.mem_cons, List.not_mem_nil, or_false] at hp
  rcases hp with rfl | rfl | rfl | rfl
  · exact ⟨by decide, by decide, fun _ => prm_small (n := 97) (by decide) (by decide +kernel)⟩
  · exact ⟨by decide, by decide, fun _ => prm_small (n := 193) (by decide) (by decide +kernel)⟩
  · exact ⟨by decide, by decide, fun _ => prm_small (n := 193) (by decide) (by decide +kernel)⟩
  · exact ⟨by decide, by decide, fun _ => prm_small (n := 797) (by decide) (by decide +kernel)⟩
theorem isP3 : ∀ p ∈ ([809, 7681, 998244353, 2013265921] : List Int), IsP p := by
  intro p hp
  simp only [List.mem_cons, List.not_mem_nil, or_false] at hp
  rcases hp with rfl | rfl | rfl | rfl <;> exact ⟨by decide, by decide, fun z => absurd z (by decide)⟩
theorem inL_symm (ns ms : List (List Int)) (g p : Int) : inL ms ns g p = inL ns ms g p := by
  unfold inL
  congr 1
  · congr 1
    exact decide_eq_decide.mpr ⟨Eq.symm, Eq.symm⟩
  · exact decide_eq_decide.mpr ⟨Eq.symm, Eq.symm⟩
theorem lot_symm (ns ms : List (List Int)) (p : Int) (i : Nat) : lot ms ns p i = lot ns ms p i := by
  unfold lot
  congr 2
  funext m
  exact inL_symm ns ms m p
theorem lot_none {ns ms : List (List Int)} {p : Int} {i : Nat} (h : ∀ m : Nat, inL ns ms m p = false) : lot ns ms p i = [] := by
  unfold lot
  rw [List.filter_eq_nil_iff.mpr (fun a _ => by rw [h a]; exact Bool.false_ne_true)]
  rfl
theorem inL_same {ns ms : List (List Int)} {g p : Int} (h : srt ns = srt ms) : inL ns ms g p = false := by
  unfold inL
  rw [decide_eq_true h]
  rfl
theorem eL2 {K : PySem.W.Frag} {b : Addr} {H : Hp} {n : Nat} {l m : Addr} {x1 x2 y1 y2 : V} (e : H l = some (.lst [x1, x2])) (g : H m = some (.lst [y1, y2])) (nl : l ≠ b) (nm : m ≠ b) (h1 : EqV K b H n x1 y1) (h2 : EqV K b H n x2 y2) : EqV K b H (n + 1) (.ref l) (.ref m) :=
  .inr ⟨l, m, _, _, rfl, rfl, nl, nm, .inl ⟨SqL.of e, SqL.of g⟩, by show 2 ≤ 1000; decide, rfl, fun i u v a1 a2 => by
    match i with
    | 0 => cases a1; cases a2; exact h1
    | 1 => cases a1; cases a2; exact h2
    | _ + 2 => cases a1⟩
theorem eL3 {K : PySem.W.Frag} {b : Addr} {H : Hp} {n : Nat} {l m : Addr} {x1 x2 x3 y1 y2 y3 : V} (e : H l = some (.lst [x1, x2, x3])) (g : H m = some (.lst [y1, y2, y3])) (nl : l ≠ b) (nm : m ≠ b) (h1 : EqV K b H n x1 y1) (h2 : EqV K b H n x2 y2) (h3 : EqV K b H n x3 y3) : EqV K b H (n + 1) (.ref l) (.ref m) :=
  .inr ⟨l, m, _, _, rfl, rfl, nl, nm, .inl ⟨SqL.of e, SqL.of g⟩, by show 3 ≤ 1000; decide, rfl, fun i u v a1 a2 => by
    match i with
    | 0 => cases a1; cases a2; exact h1
    | 1 => cases a1; cases a2; exact h2
    | 2 => cases a1; cases a2; exact h3
    | _ + 3 => cases a1⟩
theorem lot_mem {ns ms : List (List Int)} {p : Int} {i : Nat} {z : Int} (h : z ∈ lot ns ms p i) : 0 ≤ z ∧ z < i := by
  unfold lot at h
  obtain ⟨m, hm, rfl⟩ := List.mem_map.mp h
  have := List.mem_range.mp (List.mem_filter.mp hm).1
  omega
theorem str_ne {H : Hp} {b t : Addr} {z : Str} {r : List V} (hb : BoxAt H b) (e : H t = some (.lst (.str z :: r))) : t ≠ b := by
  rintro rfl
  obtain ⟨l, ns, pos, rest, seed, cnt, e2, _⟩ := hb
  rw [e] at e2
  cases e2
theorem rg_ints (p : Int) : rgV 0 p = ((List.range p.toNat).map fun i => ((i : Nat) : Int)).map V.int := by
  unfold rgV
  rw [Int.sub_zero, List.map_map]
  refine List.map_congr_left fun i _ => ?_
  show V.int (0 + (i : Nat)) = V.int ((i : Nat) : Int)
  rw [Int.zero_add]
theorem eSc {K : PySem.W.Frag} {b : Addr} {H : Hp} {n : Nat} {l m : Addr} {xs : List V} (h : ∀ v ∈ xs, Sc v) (e : H l = some (.lst xs)) (g : H m = some (.lst xs)) (nl : l ≠ b) (nm : m ≠ b) (hn : xs.length ≤ 1000) : EqV K b H (n + 1) (.ref l) (.ref m) :=
  .inr ⟨l, m, xs, xs, rfl, rfl, nl, nm, .inl ⟨SqL.of e, SqL.of g⟩, hn, rfl, fun i u v h1 h2 => by
    rw [h1] at h2
    cases h2
    exact EqV.sc (h u (List.mem_of_getElem? h1))⟩
theorem lot_bound {p : Int} {ns ms : List (List Int)} (P : Prm p) (p1 : p ≤ B10) (hX : ∀ n ∈ ns, Wo 1 p n) (hY : ∀ n ∈ ms, Wo 1 p n) (hn : ns.length = ms.length) : (lot ns ms p p.toNat).length ≤ ns.length := by
  have p0 := P.1
  by_cases c : srt ns = srt ms
  · rw [lot_none fun m => inL_same c]
    exact Nat.zero_le _
  · unfold lot
    rw [List.length_map]
    have oX : ∀ n ∈ ns, Ok 1 n := fun n hn => (hX n hn).ok p1
    refine prod_bound P hX hY hn (fun z => c (srt_eq oX z)) _ (List.nodup_range.filter _) fun m hm => ?_
    obtain ⟨h1, h2⟩ := List.mem_filter.mp hm
    have := List.mem_range.mp h1
    refine ⟨by omega, ?_⟩
    unfold inL at h2
    rw [Bool.and_eq_true] at h2
    exact of_decide_eq_true h2.2
section
variable {P : Program} {w : World} {K : PySem.W.Frag} {mg : Str → Option Value} {base : Heap}
theorem ok_law (T : Txt K mg) : FnOk P w K mg base CX0 11 T.f_law T.fd_law ["script"] (spLaw K) := by
  refine T.F_law.ok sc_law (fun vs H Q E h => ?_) (fun cdv A outer s H vs Q E hr h => ?_)
  · obtain ⟨a, ns0, rfl, _⟩ := h
    rfl
  · obtain ⟨a, ns0, rfl, hS, h63, k⟩ := h
    refine ⟨_, (pss_cons (ps_set (i := 1) sc_law.nd rfl (Or.inl rfl) (pe_call (ok_box T) (hr.mono (by decide)) (by rfl) T.g_box T.F_box.kp T.b_box .nil pass0 (pa_cons (pv 0) pa_nil)))
      (pss_cons (ps_set (i := 2) sc_law.nd rfl (Or.inl rfl) (pe_call (ok_draw T) (hr.mono (by decide)) (by rfl) T.g_draw T.F_draw.kp T.b_draw .nil pass0 (pa_cons (pv 1) (pa_cons pe_int pa_nil))))
      (pss_cons (ps_set (i := 3) sc_law.nd rfl (Or.inr rfl) (pe_call (ok_of T) (hr.mono (by decide)) (by rfl) T.g_of T.F_of.kp T.b_of .nil pass0 (pa_cons (pv 1) (pa_cons (pe_lst (pa_cons pe_int (pa_cons pe_int (pa_cons pe_int (pa_cons pe_int (pa_cons pe_int (pa_cons pe_int (pa_cons pe_int (pa_cons pe_int pa_nil))))))))) pa_nil))))
      (C8.pss_cut (ps_if (pt_cmpR op_gt (pv 2) pe_int (nomark _)) (pss_one (ps_set (i := 3) sc_law.nd rfl (Or.inr rfl) (pe_ifExp (pt_cmpR op_lt (pv 2) pe_int (nomark _)) (pe_call (ok_of T) (hr.mono (by decide)) (by rfl) T.g_of T.F_of.kp T.b_of .nil pass0 (pa_cons (pv 1) (pa_cons (pe_lst (pa_cons pe_int (pa_cons pe_int (pa_cons pe_int (pa_cons pe_int pa_nil))))) pa_nil))) (pe_call (ok_of T) (hr.mono (by decide)) (by rfl) T.g_of T.F_of.kp T.b_of .nil pass0 (pa_cons (pv 1) (pa_cons (pe_lst (pa_cons pe_int (pa_cons pe_int (pa_cons pe_int (pa_cons pe_int pa_nil))))) pa_nil)))))) pss_nil)
      (pss_cons (ps_set (i := 4) sc_law.nd rfl (Or.inl rfl) (pe_call (ok_draw T) (hr.mono (by decide)) (by rfl) T.g_draw T.F_draw.kp T.b_draw .nil pass0 (pa_cons (pv 1) (pa_cons (pv 3) pa_nil))))
      (pss_cons (ps_asg (pe_call (ok_two T) (hr.mono (by decide)) (by rfl) T.g_two T.F_two.kp T.b_two .nil pass0 (pa_cons (pv 1) (pa_cons (pv 3) (pa_cons (pv 4) pa_nil)))) (pg_tup (by rfl) (pgs_cons (pg_name (i := 5) sc_law.nd rfl (Or.inr rfl)) (pgs_cons (pg_name (i := 6) sc_law.nd rfl (Or.inr rfl)) pgs_nil))))
      (pss_cons (ps_par (i := 7) (j := 8) (by rfl) sc_law.nd rfl rfl (by decide) rfl rfl (pa_cons (pe_call (ok_bag T) (hr.mono (by decide)) (by rfl) T.g_bag T.F_bag.kp T.b_bag .nil pass0 (pa_cons (pv 1) (pa_cons (pv 5) pa_nil))) (pa_cons (pe_call (ok_bag T) (hr.mono (by decide)) (by rfl) T.g_bag T.F_bag.kp T.b_bag .nil pass0 (pa_cons (pv 1) (pa_cons (pv 6) pa_nil))) pa_nil)) (by rfl))
      (C8.pss_cut (ps_if (pt_cmpR op_gt (pv 3) pe_int (nomark _)) (pss_cons (ps_if (pt_not (pt_val (pe_call (ok_same T 8) (hr.mono (by decide)) (by rfl) T.g_same T.F_same.kp T.b_same .nil pass0 (pa_cons (pe_call (ok_lot T) (hr.mono (by decide)) (by rfl) T.g_lot T.F_lot.kp T.b_lot .nil pass0 (pa_cons (pv 7) (pa_cons (pv 8) (pa_cons (pv 3) pa_nil)))) (pa_cons (pe_lst (pa_cons pe_str (pa_cons pe_int pa_nil))) pa_nil))))) (pss_one (ps_ret pe_bl)) pss_nil)
      (pss_cons (ps_if (pt_not (pt_val (pe_call (ok_same T 8) (hr.mono (by decide)) (by rfl) T.g_same T.F_same.kp T.b_same .nil pass0 (pa_cons (pe_call (ok_lot T) (hr.mono (by decide)) (by rfl) T.g_lot T.F_lot.kp T.b_lot .nil pass0 (pa_cons (pv 7) (pa_cons (pv 7) (pa_cons (pv 3) pa_nil)))) (pa_cons (pe_lst (pa_cons pe_str (pa_cons pe_int pa_nil))) pa_nil))))) (pss_one (ps_ret pe_bl)) pss_nil)
      (pss_cons (ps_set (i := 10) sc_law.nd rfl (Or.inl rfl) (pe_op op_cat (pe_lst (pa_cons (pv 4) (pa_cons pe_int (pa_cons (pe_op op_sub (pv 3) pe_int) (pa_cons (pe_call (ok_draw T) (hr.mono (by decide)) (by rfl) T.g_draw T.F_draw.kp T.b_draw .nil pass0 (pa_cons (pv 1) (pa_cons (pv 3) pa_nil))) pa_nil))))) (pe_lc (own := [("item", 9)]) (g := gName 9) (tt := tYes) (te := (tOp (rIxT K) (tVar 9) (tC (.int 0)))) (by rfl) sc_law.nd (pi_list (pv 5)) (blkOk_by (own := [("item", 9)]) (N := ["script", "box", "way", "prime", "spot", "first", "second", "left", "right", "item", "spots", "z", "due", "twin"]) (sc := defScope s_law) (by decide +kernel)) (fun _ _ _ _ _ => (pg_name (i := 9) sc_law.nd rfl (Or.inl rfl))) (fun _ _ _ _ _ => pts_nil) (fun _ _ _ _ _ => (pe_ix ix_tup (pv 9) pe_int (fun _ _ => rfl))))))
      (pss_one (ps_ret (pe_and (pe_call (ok_members T) (hr.mono (by decide)) (by rfl) T.g_members T.F_members.kp T.b_members .nil pass0 (pa_cons (pv 1) (pa_cons (pv 7) (pa_cons (pv 8) (pa_cons (pv 5) (pa_cons (pv 6) (pa_cons (pv 3) (pa_cons (pv 10) pa_nil)))))))) (pe_one (pe_call (ok_members T) (hr.mono (by decide)) (by rfl) T.g_members T.F_members.kp T.b_members .nil pass0 (pa_cons (pv 1) (pa_cons (pv 8) (pa_cons (pv 7) (pa_cons (pv 6) (pa_cons (pv 5) (pa_cons (pv 3) (pa_cons (pv 10) pa_nil))))))))))))))) pss_nil)
      (pss_cons (ps_setLc (i := 12) (own := [("z", 11)]) (g := gName 11) (tt := (tB (tCall spMeets [] E0 (tCons (tVar 5) (tCons (tVar 6) (tCons (tVar 11) (tCons (tVar 3) tNil))))))) (te := (tVar 11)) (by rfl) sc_law.nd rfl rfl (sw_true rfl rfl rfl (by decide +kernel)) (pi_range1 (by rfl) T.z_range (pa_cons (pv 3) pa_nil)) (blkOk_by (own := [("z", 11)]) (N := ["script", "box", "way", "prime", "spot", "first", "second", "left", "right", "item", "spots", "z", "due", "twin"]) (sc := defScope s_law) (by decide +kernel)) (fun _ _ _ _ _ => (pg_name (i := 11) sc_law.nd rfl (Or.inl rfl))) (fun _ _ _ _ _ => pts_one (pt_val (pe_call (ok_meets T) (hr.mono (by decide)) (by rfl) T.g_meets T.F_meets.kp T.b_meets .nil pass0 (pa_cons (pv 5) (pa_cons (pv 6) (pa_cons (pv 11) (pa_cons (pv 3) pa_nil))))))) (fun _ _ _ _ _ => (pv 11)))
      (C8.pss_cut (ps_if (pt_not (pt_val (pe_call (ok_same T 8) (hr.mono (by decide)) (by rfl) T.g_same T.F_same.kp T.b_same .nil pass0 (pa_cons (pe_call (ok_lot T) (hr.mono (by decide)) (by rfl) T.g_lot T.F_lot.kp T.b_lot .nil pass0 (pa_cons (pv 7) (pa_cons (pv 8) (pa_cons (pv 3) pa_nil)))) (pa_cons (pe_callTy (T := "tuple") call_tupleD (by rfl) T.z_tuple (by decide +kernel) (pa_cons (pv 12) pa_nil)) pa_nil))))) (pss_one (ps_ret pe_bl)) pss_nil)
      (C8.pss_cut (ps_if (pt_not (pt_val (pe_call (ok_same T 8) (hr.mono (by decide)) (by rfl) T.g_same T.F_same.kp T.b_same .nil pass0 (pa_cons (pe_callN0 (ok_lot0 T) (hr.mono (by decide)) (by rfl) T.g_product_lot T.F_product_lot.kp T.kb_product_lot0 pass0 (pk_cons (pv 7) (pk_cons (pv 8) (pk_cons (pv 3) pk_nil)))) (pa_cons (pe_callTy (T := "tuple") call_tupleD (by rfl) T.z_tuple (by decide +kernel) (pa_cons (pv 12) pa_nil)) pa_nil))))) (pss_one (ps_ret pe_bl)) pss_nil)
      (C8.pss_cut (ps_if (PW.pt (pw_and (pt_cmpR op_eq (pe_callB call_len_seq (by rfl) T.z_len PySem.boot_len (pa_cons (pv 5) pa_nil)) (pe_callB call_len_seq (by rfl) T.z_len PySem.boot_len (pa_cons (pv 6) pa_nil)) (nomark _)) (pw_and1 (pt_cmpR op_gt (pe_callB call_len_seq (by rfl) T.z_len PySem.boot_len (pa_cons (pv 12) pa_nil)) (pe_callB call_len_seq (by rfl) T.z_len PySem.boot_len (pa_cons (pv 5) pa_nil)) (nomark _))))) (pss_one (ps_ret pe_bl)) pss_nil)
      (pss_cons (ps_set (i := 10) sc_law.nd rfl (Or.inl rfl) (pe_listRg rfl (by rfl) T.z_list (prg_1 (by rfl) T.z_range (pv 3))))
      (C8.pss_cut (ps_if (pt_cmpR op_gt (pv 3) pe_int (nomark _)) (pss_one (ps_set (i := 10) sc_law.nd rfl (Or.inl rfl) (pe_op op_cat (pv 12) (pe_lst (pa_cons (pv 4) (pa_cons pe_int (pa_cons (pe_op op_sub (pv 3) pe_int) (pa_cons (pe_call (ok_draw T) (hr.mono (by decide)) (by rfl) T.g_draw T.F_draw.kp T.b_draw .nil pass0 (pa_cons (pv 1) (pa_cons (pv 3) pa_nil))) (pa_cons (pe_call (ok_draw T) (hr.mono (by decide)) (by rfl) T.g_draw T.F_draw.kp T.b_draw .nil pass0 (pa_cons (pv 1) (pa_cons (pv 3) pa_nil))) pa_nil))))))))) pss_nil)
      (C8.pss_cut (ps_if (pt_not (pt_val (pe_call (ok_members T) (hr.mono (by decide)) (by rfl) T.g_members T.F_members.kp T.b_members .nil pass0 (pa_cons (pv 1) (pa_cons (pv 7) (pa_cons (pv 8) (pa_cons (pv 5) (pa_cons (pv 6) (pa_cons (pv 3) (pa_cons (pv 10) pa_nil)))))))))) (pss_one (ps_ret pe_bl)) pss_nil)
      (pss_cons (ps_set (i := 13) sc_law.nd rfl (Or.inl rfl) (pe_call (ok_bag T) (hr.mono (by decide)) (by rfl) T.g_bag T.F_bag.kp T.b_bag .nil pass0 (pa_cons (pv 1) (pa_cons (pe_call (ok_shuffled T) (hr.mono (by decide)) (by rfl) T.g_shuffled T.F_shuffled.kp T.b_shuffled .nil pass0 (pa_cons (pv 1) (pa_cons (pv 5) pa_nil))) pa_nil))))
      (C8.pss_cut (ps_if (PW.pt (pw_or (pt_not (pt_val (pe_call (ok_same T 8) (hr.mono (by decide)) (by rfl) T.g_same T.F_same.kp T.b_same .nil pass0 (pa_cons (pe_call (ok_lot T) (hr.mono (by decide)) (by rfl) T.g_lot T.F_lot.kp T.b_lot .nil pass0 (pa_cons (pv 7) (pa_cons (pv 13) (pa_cons (pv 3) pa_nil)))) (pa_cons (pe_tup pa_nil) pa_nil))))) (pw_or1 (pt_not (pt_val (pe_call (ok_same T 8) (hr.mono (by decide)) (by rfl) T.g_same T.F_same.kp T.b_same .nil pass0 (pa_cons (pe_callN (ok_in_product_lot T) (hr.mono (by decide)) (by rfl) T.g_in_product_lot T.F_in_product_lot.kp T.kb_in_product_lot3 pass0 (pa_cons (pv 13) (pa_cons (pv 7) (pa_cons (pv 4) pa_nil))) (pk_cons (pv 3) pk_nil)) (pa_cons pe_bl pa_nil)))))))) (pss_one (ps_ret pe_bl)) pss_nil)
      (pss_one (ps_ret (pe_and (pe_call (ok_same T 8) (hr.mono (by decide)) (by rfl) T.g_same T.F_same.kp T.b_same .nil pass0 (pa_cons (pe_meth0 (pv 7) T.cl T.me_m_listed (ok_m_listed T) (hr.mono (by decide)) T.b_m_listed .nil pass0) (pa_cons (pe_callB (cr_sortX (B := B10)) (by rfl) T.z_sorted (by decide +kernel) (pa_cons (pv 5) pa_nil)) pa_nil))) (pe_one (pe_call (ok_same T 8) (hr.mono (by decide)) (by rfl) T.g_same T.F_same.kp T.b_same .nil pass0 (pa_cons (pe_meth0 (pv 8) T.cl T.me_m_listed (ok_m_listed T) (hr.mono (by decide)) T.b_m_listed .nil pass0) (pa_cons (pe_callB (cr_sortX (B := B10)) (by rfl) T.z_sorted (by decide +kernel) (pa_cons (pv 6) pa_nil)) pa_nil)))))))))))))))))))))))), ?_⟩
    have hB10 : B10 = 10000000000 := rfl
    refine ⟨_, rfl, a, ns0, rfl, hS, h63, fun b H1 g1 hb0 hB1 => ⟨_, rfl, b, _, rfl, by decide, by decide, hB1, fun way H2 w0 w1 hB2 hK2 => ?_⟩⟩
    clear hB1 g1 hb0 hK2
    have ofl : ∀ (l : List Int), l ≠ [] → l.length ≤ 1000 → ∀ (Hx : Hp), BoxAt Hx b → ∀ u, Hx u = none → ∀ (Q2 : VK), (∀ (p : Int) (H' : Hp), p ∈ l → BoxAt H' b → Q2 (.int p) H') → spOf K [.ref b, .ref u] (upd Hx u (.lst (l.map V.int))) Q2 E0 := fun l l0 l1 Hx hBx u hu Q2 k2 =>
      ⟨b, u, _, rfl, hBx.same (same_new hu _), hBx.ne hu, SqL.of upd_same, by simpa using l0, by simpa using l1, fun i v H' hi hB' hK' => by
        obtain ⟨n, hn, rfl⟩ := ints_of hi
        exact k2 n H' hn hB'⟩
    refine ⟨_, rfl, (by show 8 ≤ sizeLine; decide), fun u hu => ofl [3, 5, 7, 11, 13, 17, 29, 31] (by decide) (by decide) H2 hB2 u hu _ fun p H3 hp hB3 => ?_⟩
    have P1 := isP1 p hp
    clear hB2 hp hu
    refine ⟨fun σ Hx => ∃ p : Int, σ = [some (.ref a), some (.ref b), some (.int way), some (.int p), none, none, none, none, none, none, none, none, none, none] ∧ BoxAt Hx b ∧ IsP p, ?_, ?_⟩
    · refine ⟨_, rfl, _, _, rfl, rfl, _, rfl, ite2 (fun c => ?_) (fun c => ⟨p, rfl, hB3, P1⟩)⟩
      refine ⟨_, rfl, _, _, rfl, rfl, _, rfl, ite2 (fun c => ?_) (fun c => ?_)⟩
      · exact ⟨_, rfl, (by show 4 ≤ sizeLine; decide), fun u hu => ofl [97, 193, 193, 797] (by decide) (by decide) H3 hB3 u hu _ fun p H4 hp hB4 => ⟨p, rfl, hB4, isP2 p hp⟩⟩
      · exact ⟨_, rfl, (by show 4 ≤ sizeLine; decide), fun u hu => ofl [809, 7681, 998244353, 2013265921] (by decide) (by decide) H3 hB3 u hu _ fun p H4 hp hB4 => ⟨p, rfl, hB4, isP3 p hp⟩⟩
    clear hB3 P1
    rintro σ H3 ⟨p, rfl, hB3, p3, p10, P1⟩
    refine ⟨_, rfl, _, rfl, b, p, rfl, by omega, by omega, hB3, fun g H4 g0 g1 hB4 hK4 => ?_⟩
    clear hK4
    refine ⟨_, rfl, _, rfl, _, rfl, b, p, g, rfl, hB4, p3, p10, g0, g1, fun tt f s ns ms H5 hB5 hK5 et lf ls n5 m6 won wom => ⟨tt, _, rfl, SqT.of et, rfl, _, _, rfl, _, _, rfl, rfl, ?_⟩⟩
    have ho : ∀ n ∈ ns, Ok 1 n := fun n hn => (won n hn).ok (by omega)
    have hp : ∀ n ∈ ms, Ok 1 n := fun n hn => (wom n hn).ok (by omega)
    clear hB3 hB4 hK5 et
    refine ⟨_, rfl, _, rfl, b, f, ns, 1, rfl, hB5, lf, by omega, ho, by omega, fun x H6 hB6 hK6 bx => ?_⟩
    have lf6 := lf.keep hB5 hK6
    have ls6 := ls.keep hB5 hK6
    refine ⟨_, rfl, _, rfl, b, s, ms, 1, rfl, hB6, ls6, by omega, hp, by omega, fun y H7 hB7 hK7 bY => ⟨_, _, rfl, ?_⟩⟩
    have L7 : LI T b x y f s ns ms H7 := ⟨hB7, bx.keep hB6 hK7, bY, lf6.keep hB6 hK7, ls6.keep hB6 hK7⟩
    clear hB5 hB6 hB7 hK6 hK7 bx bY lf6 ls6 lf ls
    refine ⟨fun σ Hx => σ = [some (.ref a), some (.ref b), some (.int way), some (.int p), some (.int g), some (.ref f), some (.ref s), some (.ref x), some (.ref y), none, none, none, none, none] ∧ LI T b x y f s ns ms Hx ∧ p ≤ 800, ?_, ?_⟩
    · refine ⟨_, rfl, _, _, rfl, rfl, _, rfl, ite2 (fun c => ?_) (fun c => ⟨rfl, L7, by
        have : ¬ 800 < p := fun z => c (decide_eq_true z)
        omega⟩)⟩
      have p8 : 800 < p := of_decide_eq_true c
      refine ⟨_, rfl, _, rfl, _, rfl, x, y, ns, ms, p, 1, rfl, L7.bx, L7.bY, by omega, by omega, ho, hp, by omega, by omega, fun z => absurd z (by omega), fun _ t H8 g8 e8 => ?_⟩
      have L8 := L7.same g8
      refine ⟨(by show 2 ≤ sizeLine; decide), fun u hu => ?_⟩
      have gu := same_new hu (.lst [.str "worths", .int 800])
      refine ⟨b, _, _, rfl, eSc (n := 6) (xs := [.str "worths", .int 800]) (fun v hv => by
        rcases List.mem_cons.mp hv with rfl | hv
        · trivial
        · rw [List.mem_singleton.mp hv]
          trivial) (gu _ _ e8) upd_same (str_ne L8.hB e8) (L8.hB.ne hu) (by show 2 ≤ 1000; decide), fun H9 g9 => ⟨_, rfl, iteF ?_⟩⟩
      have L9 := (L8.same gu).same g9
      clear L7 L8 gu hu g8 e8
      refine ⟨_, rfl, _, rfl, _, rfl, x, x, ns, ns, p, 1, rfl, L9.bx, L9.bx, by omega, by omega, ho, ho, by omega, by omega, fun z => absurd z (by omega), fun _ t H8 g8 e8 => ?_⟩
      have L8 := L9.same g8
      refine ⟨(by show 2 ≤ sizeLine; decide), fun u hu => ?_⟩
      have gu := same_new hu (.lst [.str "worths", .int 800])
      refine ⟨b, _, _, rfl, eSc (n := 6) (xs := [.str "worths", .int 800]) (fun v hv => by
        rcases List.mem_cons.mp hv with rfl | hv
        · trivial
        · rw [List.mem_singleton.mp hv]
          trivial) (gu _ _ e8) upd_same (str_ne L8.hB e8) (L8.hB.ne hu) (by show 2 ≤ 1000; decide), fun H10 g10 => ⟨_, rfl, iteF ?_⟩⟩
      have L10 := (L8.same gu).same g10
      clear L9 L8 gu hu g8 e8
      refine ⟨_, rfl, _, rfl, _, _, rfl, rfl, _, rfl, _, rfl, b, _, rfl, by omega, by omega, L10.hB, fun a1 H11 a10 a11 hB11 hK11 => ⟨(by show 4 ≤ sizeLine; decide), fun q0 hq0 => ?_⟩⟩
      have L11 := L10.keep hB11 hK11
      have gq0 := same_new hq0 (.lst ([g, 0, p - 1, a1].map V.int))
      have eq0 : upd H11 q0 (.lst ([g, 0, p - 1, a1].map V.int)) q0 = some (.lst ([g, 0, p - 1, a1].map V.int)) := upd_same
      have L12 := L11.same gq0
      obtain ⟨xs, ef, hIf⟩ := id L12.lf
      have lx := hIf.len
      refine ⟨_, rfl, f, rfl, ⟨_, SqL.of ef⟩, fun D hD => lc_list (K := K) (a := f) (xs := xs) (fun i Hx => Same (upd H11 q0 (.lst ([g, 0, p - 1, a1].map V.int))) Hx ∧ Hx D = some (.lst (((ns.take i).map fun n => n.getD 0 0).map V.int)))
        ⟨same_new hD _, upd_same⟩ (fun i Hx _ ⟨gx, _⟩ => SqL.of (gx _ _ ef)) ?_ ?_⟩
      · rintro i z Hx hi ⟨gs, eD⟩
        obtain ⟨n, hn, q, rfl, hq⟩ := (hIf.same gs).at_ hi
        have n1 := (ho n (List.mem_of_getElem? hn)).1
        have z0 : n[0]? = some n[0] := List.getElem?_eq_getElem (by omega)
        have li := (List.getElem?_eq_some_iff.mp hn).1
        refine ⟨rfl, _, rfl, q, _, _, _, rfl, rfl, SqT.of hq, at_nat z0, _, eD, ?_, fun y o e => ?_, ?_⟩
        · rw [List.length_map, List.length_map, List.length_take]
          exact small1000 (by omega)
        · rw [upd_ne (ne_of_none e hD)]
          exact gs _ _ e
        · rw [upd_same, List.take_add_one, hn, List.map_append, List.map_append]
          show some (HO.lst (_ ++ [V.int n[0]])) = some (HO.lst (_ ++ [V.int (n.getD 0 0)]))
          rw [getD_of z0]
      rintro H13 ⟨gs, eD⟩
      rw [lx, List.take_length] at eD
      have L13' := L12.same gs
      have eq2 := gs _ _ eq0
      have nl : (ns.map fun n => n.getD 0 0).length ≤ 6 := by rw [List.length_map]; omega
      refine ⟨q0, D, _, _, rfl, rfl, eq2, eD, by simp only [List.length_map]; exact Nat.le_of_lt (small1000 (by show 4 + _ ≤ 1000; omega)), fun q hq => ?_⟩
      have gq := same_new hq (.lst ([g, 0, p - 1, a1].map V.int ++ (ns.map fun n => n.getD 0 0).map V.int))
      have nq := L13'.hB.ne hq
      have L13 := L13'.same gq
      obtain ⟨gs, hgs⟩ : ∃ gs : List Int, gs = [g, 0, p - 1, a1] ++ ns.map fun n => n.getD 0 0 := ⟨_, rfl⟩
      have eq : upd H13 q (.lst ([g, 0, p - 1, a1].map V.int ++ (ns.map fun n => n.getD 0 0).map V.int)) q = some (.lst (gs.map V.int)) := by
        rw [hgs, upd_same, List.map_append]
      have lgs : gs.length ≤ 1000 := by rw [hgs, List.length_append]; show 4 + _ ≤ 1000; omega
      have bgs : ∀ z ∈ gs, 0 ≤ z ∧ z < p := fun z hz => by
        rw [hgs] at hz
        rcases List.mem_append.mp hz with hz | hz
        · simp only [List.mem_cons, List.not_mem_nil, or_false] at hz
          omega
        · exact wo_at won z hz
      refine ⟨_, rfl, _, rfl, _, rfl, _, rfl, _, rfl, _, rfl, _, rfl, b, x, y, f, s, q, ns, ms, p, 1, gs, rfl, L13, eq, nq, lgs, bgs, by omega, p10, by omega, ho, hp, by omega, by omega, fun H14 hB14 hK14 => ⟨_, rfl, iteT ?_⟩⟩
      exact ⟨_, rfl, _, rfl, _, rfl, _, rfl, _, rfl, _, rfl, _, rfl, b, y, x, s, f, q, ms, ns, p, 1, gs, rfl, (L13.keep hB14 hK14).sw, hK14.1 _ _ nq eq, nq, lgs, bgs, by omega, p10, by omega, hp, ho, by omega, by omega, fun H15 _ _ => k H15⟩
    clear L7
    rintro σ H1 ⟨rfl, L1, p8⟩
    -- the lot, listed
    have P := P1 p8
    generalize hlt : lot ns ms p p.toNat = lt
    have ltb : ∀ z ∈ lt, 0 ≤ z ∧ z < p := fun z hz => by
      rw [← hlt] at hz
      have := lot_mem hz
      omega
    have ltl : lt.length ≤ 800 := by
      rw [← hlt]
      have := lot_len ns ms p p.toNat
      omega
    refine ⟨_, rfl, _, rfl, by omega, by omega, fun D hD => lc_range (lo := 0) (n := p.toNat) (fun i Hx => Same H1 Hx ∧ Hx D = some (.lst ((lot ns ms p i).map V.int)))
      ⟨same_new hD _, upd_same⟩ ?_ ?_⟩
    · rintro i Hx hi ⟨gs, eD⟩
      have Lx := L1.same gs
      refine ⟨rfl, _, rfl, _, rfl, _, rfl, _, rfl, f, s, ns, ms, _, p, 1, rfl, Lx.lf, Lx.ls, by omega, by omega, by omega, ho, hp, by omega, by omega, fun H2 g2 => ⟨_, rfl, ?_⟩⟩
      have ei : (0 : Int) + (i : Nat) = ((i : Nat) : Int) := by omega
      rw [ei]
      have ll := lot_len ns ms p i
      have es := lot_succ ns ms p i
      have g02 := gs.trans g2
      have eD2 := g2 _ _ eD
      refine ite2 (fun c => ?_) (fun c => ?_)
      · rw [if_pos c] at es
        refine ⟨_, rfl, _, eD2, ?_, fun x o ho => ?_, ?_⟩
        · rw [List.length_map]
          exact small1000 (by omega)
        · rw [upd_ne (ne_of_none ho hD)]
          exact g02 _ _ ho
        · rw [upd_same, es, List.map_append]
          rfl
      · rw [if_neg c] at es
        rw [es]
        exact ⟨g02, eD2⟩
    rintro H2 ⟨g2, eD⟩
    rw [hlt] at eD
    have L2 := L1.same g2
    have nD := L1.hB.ne hD
    clear L1 hD g2
    refine ⟨fun σ Hx => σ = [some (.ref a), some (.ref b), some (.int way), some (.int p), some (.int g), some (.ref f), some (.ref s), some (.ref x), some (.ref y), none, none, none, some (.ref D), none] ∧ LI T b x y f s ns ms Hx ∧ Hx D = some (.lst (lt.map V.int)), ?_, ?_⟩
    · refine ⟨_, rfl, _, rfl, _, rfl, x, y, ns, ms, p, 1, rfl, L2.bx, L2.bY, by omega, by omega, ho, hp, by omega, by omega, fun _ t H3 g3 e3 => ?_, fun z => absurd z (by omega)⟩
      rw [hlt] at e3
      have L3 := L2.same g3
      refine ⟨_, rfl, D, _, rfl, .inl ⟨SqL.of (g3 _ _ eD), fun q hq => ?_⟩⟩
      have gq := same_new hq (.tup (lt.map V.int))
      refine ⟨b, _, _, rfl, eT (n := 6) (ls := lt) (L3.same gq).hB (gq _ _ e3) upd_same (by omega), fun H4 g4 => ⟨_, rfl, iteF ?_⟩⟩
      exact ⟨rfl, (L3.same gq).same g4, g4 _ _ (gq _ _ (g3 _ _ eD))⟩
    clear L2 eD
    rintro σ H2 ⟨rfl, L2, eD⟩
    refine ⟨fun σ Hx => σ = [some (.ref a), some (.ref b), some (.int way), some (.int p), some (.int g), some (.ref f), some (.ref s), some (.ref x), some (.ref y), none, none, none, some (.ref D), none] ∧ LI T b x y f s ns ms Hx ∧ Hx D = some (.lst (lt.map V.int)), ?_, ?_⟩
    · refine ⟨_, rfl, _, rfl, _, rfl, rfl, rfl, y, x, ms, ns, p, 1, rfl, L2.bY, L2.bx, by omega, p8, by omega, hp, ho, by omega, by omega, fun t H3 g3 e3 => ?_⟩
      rw [lot_symm, hlt] at e3
      have L3 := L2.same g3
      refine ⟨_, rfl, D, _, rfl, .inl ⟨SqL.of (g3 _ _ eD), fun q hq => ?_⟩⟩
      have gq := same_new hq (.tup (lt.map V.int))
      refine ⟨b, _, _, rfl, eT (n := 6) (ls := lt) (L3.same gq).hB (gq _ _ e3) upd_same (by omega), fun H4 g4 => ⟨_, rfl, iteF ?_⟩⟩
      exact ⟨rfl, (L3.same gq).same g4, g4 _ _ (gq _ _ (g3 _ _ eD))⟩
    clear L2 eD
    rintro σ H2 ⟨rfl, L2, eD⟩
    refine ⟨fun σ Hx => σ = [some (.ref a), some (.ref b), some (.int way), some (.int p), some (.int g), some (.ref f), some (.ref s), some (.ref x), some (.ref y), none, none, none, some (.ref D), none] ∧ LI T b x y f s ns ms Hx ∧ Hx D = some (.lst (lt.map V.int)), ?_, ?_⟩
    · obtain ⟨xs, ef, hIf⟩ := id L2.lf
      obtain ⟨ys, es, hIs⟩ := id L2.ls
      have lx := hIf.len
      have ly := hIs.len
      refine ⟨_, rfl, f, xs, rfl, .inl (SqL.of ef), _, rfl, s, ys, rfl, .inl (SqL.of es), rfl, _, rfl, ite2 (fun c => ?_) (fun c => ⟨rfl, L2, eD⟩)⟩
      have el : xs.length = ys.length := by
        have := V.int.inj (of_decide_eq_true c)
        omega
      have lb := lot_bound P (by omega) won wom (by omega)
      rw [hlt] at lb
      refine ⟨_, rfl, D, _, rfl, .inl (SqL.of eD), _, rfl, f, xs, rfl, .inl (SqL.of ef), _, _, rfl, rfl, _, rfl, iteF' (fun z => ?_) ⟨rfl, L2, eD⟩⟩
      have := of_decide_eq_true z
      rw [List.length_map] at this
      omega
    clear L2 eD
    rintro σ H2 ⟨rfl, L2, eD⟩
    -- all worths
    refine ⟨_, rfl, p, rfl, RgOk.of_le (by decide) (by omega) (by decide) (by omega), fun r hr => ?_⟩
    have gr := same_new hr (.lst (rgV 0 p))
    have er : upd H2 r (.lst (rgV 0 p)) r = some (.lst (((List.range p.toNat).map fun i => ((i : Nat) : Int)).map V.int)) := by rw [upd_same, rg_ints]
    have nr := L2.hB.ne hr
    have L3 := L2.same gr
    have eD3 := gr _ _ eD
    generalize upd H2 r (.lst (rgV 0 p)) = H3 at gr er L3 eD3 ⊢
    clear L2 eD gr hr
    refine ⟨fun σ Hx => ∃ (gl : Addr) (gs : List Int), σ = [some (.ref a), some (.ref b), some (.int way), some (.int p), some (.int g), some (.ref f), some (.ref s), some (.ref x), some (.ref y), none, some (.ref gl), none, some (.ref D), none] ∧ LI T b x y f s ns ms Hx ∧ Hx gl = some (.lst (gs.map V.int)) ∧ gl ≠ b ∧ gs.length ≤ 1000 ∧ ∀ z ∈ gs, 0 ≤ z ∧ z < p, ?_, ?_⟩
    · refine ⟨_, rfl, _, _, rfl, rfl, _, rfl, ite2 (fun c => ?_) (fun c => ⟨r, _, rfl, L3, er, nr, by rw [List.length_map, List.length_range]; omega, fun z hz => by
        obtain ⟨i, hi, rfl⟩ := List.mem_map.mp hz
        have := List.mem_range.mp hi
        omega⟩)⟩
      refine ⟨_, rfl, _, rfl, _, rfl, _, _, rfl, rfl, _, rfl, _, rfl, b, _, rfl, by omega, by omega, L3.hB, fun a1 H4 a10 a11 hB4 hK4 => ⟨_, rfl, _, rfl, b, _, rfl, by omega, by omega, hB4, fun a2 H5 a20 a21 hB5 hK5 => ⟨(by show 5 ≤ sizeLine; decide), fun q hq => ?_⟩⟩⟩
      have L5 := (L3.keep hB4 hK4).keep hB5 hK5
      have eD5 := hK5.1 _ _ nD (hK4.1 _ _ nD eD3)
      have gq := same_new hq (.lst ([g, 0, p - 1, a1, a2].map V.int))
      have eq : upd H5 q (.lst ([g, 0, p - 1, a1, a2].map V.int)) q = some (.lst ([g, 0, p - 1, a1, a2].map V.int)) := upd_same
      refine ⟨D, q, _, _, rfl, rfl, gq _ _ eD5, eq, by rw [List.length_map]; exact Nat.le_of_lt (small1000 (by show _ + 5 ≤ 1000; omega)), fun v hv => ?_⟩
      refine ⟨v, lt ++ [g, 0, p - 1, a1, a2], rfl, (L5.same gq).same (same_new hv _), by rw [upd_same, List.map_append], (L5.same gq).hB.ne hv, by rw [List.length_append]; show _ + 5 ≤ 1000; omega, fun z hz => ?_⟩
      rcases List.mem_append.mp hz with hz | hz
      · exact ltb z hz
      · simp only [List.mem_cons, List.not_mem_nil, or_false] at hz
        omega
    clear L3 eD3 er nr
    rintro σ H3 ⟨gl, gs, rfl, L3, eg, ng, lgs, bgs⟩
    refine ⟨fun σ Hx => σ = [some (.ref a), some (.ref b), some (.int way), some (.int p), some (.int g), some (.ref f), some (.ref s), some (.ref x), some (.ref y), none, some (.ref gl), none, some (.ref D), none] ∧ LI T b x y f s ns ms Hx, ?_, ?_⟩
    · refine ⟨_, rfl, _, rfl, _, rfl, _, rfl, _, rfl, _, rfl, _, rfl, b, x, y, f, s, gl, ns, ms, p, 1, gs, rfl, L3, eg, ng, lgs, bgs, by omega, p10, by omega, ho, hp, by omega, by omega, fun H4 hB4 hK4 => ⟨_, rfl, iteF ?_⟩⟩
      exact ⟨rfl, L3.keep hB4 hK4⟩
    clear L3 eg ng lgs bgs
    rintro σ H3 ⟨rfl, L3⟩
    
    -- the twin
    refine ⟨_, rfl, _, rfl, _, rfl, b, f, ns, rfl, L3.hB, L3.lf, by omega, fun f2 ns2 H4 hB4 hK4 hp1 lf2 => ?_⟩
    have L4 := L3.keep hB4 hK4
    refine ⟨b, f2, ns2, 1, rfl, hB4, lf2, by omega, fun n hn => ho n (hp1.mem_iff.mp hn), by rw [hp1.length_eq]; omega, fun tw H5 hB5 hK5 btw => ?_⟩
    rw [srt_eq (fun n hn => ho n (hp1.mem_iff.mp hn)) hp1] at btw
    have L5 := L4.keep hB5 hK5
    clear L3 L4 hB4 hK4 lf2 hB5 hK5
    have no : ∀ m : Nat, inL ns ns m p = false := fun m => inL_same rfl
    refine ⟨fun σ Hx => LI T b x y f s ns ms Hx ∧ σ = [some (.ref a), some (.ref b), some (.int way), some (.int p), some (.int g), some (.ref f), some (.ref s), some (.ref x), some (.ref y), none, some (.ref gl), none, some (.ref D), some (.ref tw)], ?_, ?_⟩
    · refine ⟨_, rfl, _, rfl, _, rfl, x, tw, ns, ns, p, 1, rfl, L5.bx, btw, by omega, by omega, ho, ho, by omega, by omega, fun _ t H6 g6 e6 => ?_, fun z => absurd z (by omega)⟩
      rw [lot_none no] at e6
      have L6 := L5.same g6
      have bt6 := btw.same g6
      refine ⟨(by show 0 ≤ sizeLine; decide), fun q hq => ?_⟩
      have gq := same_new hq (.tup [])
      refine ⟨b, _, _, rfl, eT (n := 6) (ls := []) (L6.same gq).hB (gq _ _ e6) upd_same (by decide), fun H7 g7 => ⟨_, rfl, iteF ?_⟩⟩
      have L7 := (L6.same gq).same g7
      have bt7 := (bt6.same gq).same g7
      refine ⟨_, rfl, _, rfl, _, rfl, _, rfl, rfl, rfl, tw, x, ns, ns, g, p, 1, rfl, bt7, L7.bx, by omega, by omega, by omega, ho, ho, by omega, by omega, fun H8 g8 => ?_⟩
      refine ⟨b, _, _, rfl, eB (inL_same rfl), fun H9 g9 => ⟨_, rfl, iteF ?_⟩⟩
      exact ⟨(L7.same g8).same g9, rfl⟩
    clear L5 btw
    rintro σ H3 ⟨L3, rfl⟩
    obtain ⟨dx, mx, ex⟩ := L3.bx.ins2
    refine ⟨_, rfl, x, dx, _, rfl, ex, rfl, x, _, rfl, L3.bx, fun l1 H4 g4 n4 e4 => ?_⟩
    have L4 := L3.same g4
    obtain ⟨xs, ef, hIf⟩ := id L4.lf
    refine ⟨_, rfl, 1, by omega, f, xs, rfl, SqL.of ef, by rw [hIf.len]; omega, sorted_x hIf ho, fun zs q hpz hsz hq => ?_⟩
    obtain ⟨g5, lq⟩ := sorted_new hIf ho hpz hsz hq
    generalize upd H4 q (.lst zs) = H5 at g5 lq ⊢
    have L5 := L4.same g5
    refine ⟨b, _, _, rfl, eLs L5.hB (e4.same g5) lq (srt_ok ho) (by omega) (by rw [srt_len]; omega), fun H6 g6 => ⟨_, rfl, iteT ?_⟩⟩
    have L6 := L5.same g6
    obtain ⟨dy, my, ey⟩ := L6.bY.ins2
    refine ⟨_, rfl, y, dy, _, rfl, ey, rfl, y, _, rfl, L6.bY, fun l2 H7 g7 n7 e7 => ?_⟩
    have L7 := L6.same g7
    obtain ⟨ys, es, hIs⟩ := id L7.ls
    refine ⟨_, rfl, 1, by omega, s, ys, rfl, SqL.of es, by rw [hIs.len]; omega, sorted_x hIs hp, fun zs q hpz hsz hq => ?_⟩
    obtain ⟨g8, lq⟩ := sorted_new hIs hp hpz hsz hq
    generalize upd H7 q (.lst zs) = H8 at g8 lq ⊢
    exact ⟨b, _, _, rfl, eLs (L7.same g8).hB (e7.same g8) lq (srt_ok hp) (by omega) (by rw [srt_len]; omega), fun H9 g9 => k H9⟩
end
end K0

set_option maxRecDepth 100000
set_option maxHeartbeats 4000000
namespace K0
open PySem L2
/-! ### from what the top has written to Txt -/
theorem def_ex {K : PySem.W.Frag} {h : Heap} {mg : Str → Option Value} (X : K.In h) (G : h.Ns mainGlobals mg) {x : Str} {st : Stmt} {f : Addr} {oc : Value} {od an : Option Addr} {osl : Array (Option Value)} {kV doc pm cdv ct : Value}
    (a : PySem.W.nsIn K mainGlobals x = some (some (.ref f)))
    (l : K.lookup f = some ⟨oc, od, .func (PySem.W.fnOf x x (defArgs st) (defBody st) (defScope st) .none kV doc pm an cdv ct), osl⟩)
    (c : PySem.W.codeIn K cdv x = true) (k : PySem.W.keepIn K (.ref f) = true) : ∃ (f : Addr) (fd : FuncData), Fun K x x st f fd ∧ mg x = some (.ref f) :=
  ⟨f, _, fun_mk l c k, PySem.W.mg_of X G a⟩
theorem meth_ex {K : PySem.W.Frag} {C : Addr} {q : Str} {st : Stmt} {f : Addr} {oc : Value} {od an : Option Addr} {osl : Array (Option Value)} {kV doc pm cdv ct : Value} {m : Str}
    (a : PySem.W.findIn K (.ref C) m = some (some (.ref f))) (n : PySem.W.isFn K (.ref f) = true)
    (l : K.lookup f = some ⟨oc, od, .func (PySem.W.fnOf m q (defArgs st) (defBody st) (defScope st) .none kV doc pm an cdv ct), osl⟩)
    (c : PySem.W.codeIn K cdv q = true) (k : PySem.W.keepIn K (.ref f) = true) : ∃ (f : Addr) (fd : FuncData), Fun K m q st f fd ∧ Meth K C m f :=
  ⟨f, _, fun_mk l c k, a, n, k⟩
theorem own_ex {K : PySem.W.Frag} {C : Addr} {q : Str} {st : Stmt} {f : Addr} {oc : Value} {od an : Option Addr} {osl : Array (Option Value)} {kV doc pm cdv ct : Value} {m : Str}
    (a : PySem.W.findIn K (.ref C) m = some (some (.ref f))) (n : PySem.W.isFn K (.ref f) = true)
    (l : K.lookup f = some ⟨oc, od, .func (PySem.W.fnOf m q (defArgs st) (defBody st) (defScope st) .none kV doc pm an cdv ct), osl⟩)
    (c : PySem.W.codeIn K cdv q = true) (k : PySem.W.keepIn K (.ref f) = true) : ∃ (f : Addr) (fd : FuncData), Fun K m q st f fd ∧ PySem.W.findIn K (.ref C) m = some (some (.ref f)) ∧ PySem.W.isFn K (.ref f) = true :=
  ⟨f, _, fun_mk l c k, a, n⟩
theorem init_ex {K : PySem.W.Frag} {C : Addr} {q : Str} {st : Stmt} {f : Addr} {oc : Value} {od an : Option Addr} {osl : Array (Option Value)} {kV doc pm cdv ct : Value}
    (mk : PySem.W.makesIn K C = true) (a : PySem.W.findIn K (.ref C) "__init__" = some (some (.ref f))) (n : PySem.W.isFn K (.ref f) = true) (kc : PySem.W.keepIn K (.ref C) = true)
    (l : K.lookup f = some ⟨oc, od, .func (PySem.W.fnOf "__init__" q (defArgs st) (defBody st) (defScope st) .none kV doc pm an cdv ct), osl⟩)
    (c : PySem.W.codeIn K cdv q = true) (k : PySem.W.keepIn K (.ref f) = true) : ∃ (f : Addr) (fd : FuncData), Fun K "__init__" q st f fd ∧ Mk K C f :=
  ⟨f, _, fun_mk l c k, mk, a, n, kc⟩
theorem one_of {K : PySem.W.Frag} {x q nm : Str} {st : Stmt} {f : Addr} {fd : FuncData} (F : Fun K x q st f fd)
    (h : ∀ (kV doc pm : Value) (an : Option Addr) (cdv ct v : Value), bindArgs (PySem.W.fnOf x q (defArgs st) (defBody st) (defScope st) .none kV doc pm an cdv ct) ⟨[v], []⟩ = pure [(nm, v)]) :
    ∀ (s : Shared) (v : Value), BindsTo s fd ⟨[v], []⟩ [(nm, v)] := fun s v => by
  obtain ⟨oc, od, kV, doc, pm, an, cdv, ct, osl, rfl, lk, hcd⟩ := F.ex
  exact .of_eq (h kV doc pm an cdv ct v)
theorem Fun.kbn1 {K : PySem.W.Frag} {x qual : Str} {st : Stmt} {f : Addr} {fd : FuncData} {ps ks : List Str} {n : Nat} {g : {α : Type} → List α → List α → List α} (F : Fun K x qual st f fd)
    (h : ∀ (kV doc pm : Value) (an : Option Addr) (cdv ct : Value) (us ws : List Value), us.length = n → ws.length = ks.length → bindArgs (PySem.W.fnOf x qual (defArgs st) (defBody st) (defScope st) .none kV doc pm an cdv ct) ⟨us, ks.zip ws⟩ = pure (ps.zip (g us ws)))
    (hr : ∀ {vs : List V} {us : List Value} {zs : List V} {ws : List Value}, Vals vs us → Vals zs ws → Vals (g vs zs) (g us ws)) : KBn K fd ps n ks g g := by
  obtain ⟨oc, od, kV, doc, pm, an, cdv, ct, osl, rfl, lk, hcd⟩ := F.ex
  exact ⟨fun s us ws _ hu hl => .of_eq (h kV doc pm an cdv ct us ws hu hl), hr⟩
theorem Vals.rev : ∀ {vs : List V} {us : List Value}, Vals vs us → Vals vs.reverse us.reverse := fun r => by
  induction r with
  | nil => exact .nil
  | cons a r ih =>
    rw [List.reverse_cons, List.reverse_cons]
    exact ih.append (.cons a .nil)
theorem Vals.sw2 {vs : List V} {us : List Value} (r : Vals vs us) : Vals (K0.sw2 vs) (K0.sw2 us) := by
  cases r with
  | nil => exact .nil
  | cons a r =>
    cases r with
    | nil => exact .cons a .nil
    | cons b r => exact .cons b (.cons a r)

theorem xini_ex {K : PySem.W.Frag} {C : Addr} {q : Str} {st : Stmt} {f : Addr} {oc : Value} {od an : Option Addr} {osl : Array (Option Value)} {kV doc pm cdv ct : Value}
    (a : PySem.W.findIn K (.ref C) "__init__" = some (some (.ref f))) (t : PySem.W.typeIn K (.ref f) = some (.type "function"))
    (l : K.lookup f = some ⟨oc, od, .func (PySem.W.fnOf "__init__" q (defArgs st) (defBody st) (defScope st) .none kV doc pm an cdv ct), osl⟩)
    (c : PySem.W.codeIn K cdv q = true) (k : PySem.W.keepIn K (.ref f) = true) : ∃ (f : Addr) (fd : FuncData), Fun K "__init__" q st f fd ∧ PySem.W.findIn K (.ref C) "__init__" = some (some (.ref f)) ∧ PySem.W.typeIn K (.ref f) = some (.type "function") :=
  ⟨f, _, fun_mk l c k, a, t⟩
/-- the mro of a class of the program: itself, its base, a built-in error and that one's own -/
abbrev mroL (C B : Addr) (R : String) : List Value := [.ref C, .ref B, .type R, .type "Exception", .type "BaseException", .type "object"]
structure CP (K : PySem.W.Frag) (mg : Str → Option Value) (nm : Str) (C B : Addr) (R : String) : Prop where
  g : mg nm = some (.ref C)
  x : XgC K C
  subs : ∀ v, PySem.W.subIn K (.ref C) v = some ((mroL C B R).contains v)
  cl : PySem.W.isClsIn K C = true
theorem cp_mk {K : PySem.W.Frag} {h : Heap} {mg : Str → Option Value} (X : K.In h) (G : h.Ns mainGlobals mg) {R newId initId : String}
    (hR : PySem.ExcBaseFacts R newId initId [.type R, .type "Exception", .type "BaseException", .type "object"]) (hS : PySem.StoreFacts R [.type R, .type "Exception", .type "BaseException", .type "object"] "object.__setattr__" "object")
    (ho : ([.type R, .type "Exception", .type "BaseException", .type "object"] : List Value).contains (.type "object") = true)
    {x nm q : Str} {C B N : Addr} {bs : List Value} {sn : List Str} {sub : List Value} {ab : Bool} {col : Option Bool} {dd : Option Addr} {k0 k1 k2 k3 k5 : Option Value}
    (a : PySem.W.nsIn K mainGlobals x = some (some (.ref C)))
    (l : K.lookup C = some (excClassObj nm q C N bs [.ref B, .type R, .type "Exception", .type "BaseException", .type "object"] true sn sub ab col dd k0 k1 k2 k3 k5 newId))
    (sa : PySem.W.findIn K (.ref C) "__setattr__" = some (some (.builtin "object.__setattr__"))) (eC : PySem.W.subIn K (.ref C) (.type "BaseException") = some true) (tC : PySem.W.typeIn K (.ref C) = some (.type "type")) (kC : PySem.W.keepIn K (.ref C) = true)
    (ga : PySem.W.findIn K (.ref C) "__getattribute__" = some (some (.builtin "BaseException.__getattribute__"))) (gg : PySem.W.findIn K (.ref C) "__getattr__" = some none) (hd : PySem.W.hasDictIn K C = true)
    (ha : PySem.W.findIn K (.ref C) "__class__" = some (some (.builtin "object.__class__")))
    (hn : PySem.W.specialIn K (.builtin "object.__class__") "__get__" = some (some (.builtin "getset_descriptor.__get__"))) (ht : PySem.W.takesIn K (.builtin "object.__class__") = some true)
    (hm : PySem.W.mroIn K C (.type "object") = some true) (cl : PySem.W.isClsIn K C = true) : CP K mg x C B R := by
  refine ⟨PySem.W.mg_of X G a, ⟨⟨nm, q, N, bs, _, sn, sub, ab, col, dd, k0, k1, k2, k3, k5, R, newId, initId, _, hR, fun Y => ?_, ?_, fun self => ?_, l⟩, sa, eC, tC, kC, ga, gg, hd, ha, hn, ht, hm⟩, fun v => ?_, cl⟩
  · rw [List.contains_cons]
    rfl
  · rw [List.contains_cons, ho]
    rfl
  · rw [refuseLoop_ref, refuseLoop_ref]
    exact hS.passes self
  · show PySem.W.mroIn K C v = _
    unfold PySem.W.mroIn PySem.W.clsIn
    rw [l]
    rfl

theorem build {P : Program} {w : World} {K : PySem.W.Frag} {h : Heap} {mg : Str → Option Value} {fa : Addr} (X : K.In h) (G : h.Ns mainGlobals mg) (hfa : mg "law" = some (.ref fa)) {C_Bag : Addr} {C_TooMany C_InvalidError : Addr} {mpu : Tok}
    (gC : PySem.W.nsIn K mainGlobals "Bag" = some (some (.ref C_Bag)))
    (D_check_counted : ∃ (f : Addr) (fd : FuncData), Fun K "check_counted" "check_counted" s_check_counted f fd ∧ mg "check_counted" = some (.ref f))
    (D_in_product_lot : ∃ (f : Addr) (fd : FuncData), Fun K "in_product_lot" "in_product_lot" s_in_product_lot f fd ∧ mg "in_product_lot" = some (.ref f))
    (D_product_lot : ∃ (f : Addr) (fd : FuncData), Fun K "product_lot" "product_lot" s_product_lot f fd ∧ mg "product_lot" = some (.ref f))
    (D_box : ∃ (f : Addr) (fd : FuncData), Fun K "_law_box" "_law_box" s_box f fd ∧ mg "_law_box" = some (.ref f))
    (D_draw : ∃ (f : Addr) (fd : FuncData), Fun K "_law_draw" "_law_draw" s_draw f fd ∧ mg "_law_draw" = some (.ref f))
    (D_of : ∃ (f : Addr) (fd : FuncData), Fun K "_law_of" "_law_of" s_of f fd ∧ mg "_law_of" = some (.ref f))
    (D_same : ∃ (f : Addr) (fd : FuncData), Fun K "_law_same" "_law_same" s_same f fd ∧ mg "_law_same" = some (.ref f))
    (D_raised : ∃ (f : Addr) (fd : FuncData), Fun K "_law_raised" "_law_raised" s_raised f fd ∧ mg "_law_raised" = some (.ref f))
    (D_law_inverse : ∃ (f : Addr) (fd : FuncData), Fun K "_law_inverse" "_law_inverse" s_law_inverse f fd ∧ mg "_law_inverse" = some (.ref f))
    (D_bag : ∃ (f : Addr) (fd : FuncData), Fun K "_law_bag" "_law_bag" s_bag f fd ∧ mg "_law_bag" = some (.ref f))
    (D_shuffled : ∃ (f : Addr) (fd : FuncData), Fun K "_law_shuffled" "_law_shuffled" s_shuffled f fd ∧ mg "_law_shuffled" = some (.ref f))
    (D_over : ∃ (f : Addr) (fd : FuncData), Fun K "_law_over" "_law_over" s_over f fd ∧ mg "_law_over" = some (.ref f))
    (D_two : ∃ (f : Addr) (fd : FuncData), Fun K "_law_two" "_law_two" s_two f fd ∧ mg "_law_two" = some (.ref f))
    (D_meets : ∃ (f : Addr) (fd : FuncData), Fun K "_law_meets" "_law_meets" s_meets f fd ∧ mg "_law_meets" = some (.ref f))
    (D_lot : ∃ (f : Addr) (fd : FuncData), Fun K "_law_lot" "_law_lot" s_lot f fd ∧ mg "_law_lot" = some (.ref f))
    (D_members : ∃ (f : Addr) (fd : FuncData), Fun K "_law_members" "_law_members" s_members f fd ∧ mg "_law_members" = some (.ref f))
    (D_law : ∃ (f : Addr) (fd : FuncData), Fun K "law" "law" s_law f fd ∧ mg "law" = some (.ref f))
    (M_m_init : ∃ (f : Addr) (fd : FuncData), Fun K "__init__" "Bag.__init__" s_m_init f fd ∧ Mk K C_Bag f)
    (M_m_times : ∃ (f : Addr) (fd : FuncData), Fun K "times" "Bag.times" s_m_times f fd ∧ Meth K C_Bag "times" f)
    (M_m_listed : ∃ (f : Addr) (fd : FuncData), Fun K "listed" "Bag.listed" s_m_listed f fd ∧ Meth K C_Bag "listed" f)
    (M_m_product : ∃ (f : Addr) (fd : FuncData), Fun K "product" "Bag.product" s_m_product f fd ∧ Meth K C_Bag "product" f)
    (M_m_add : ∃ (f : Addr) (fd : FuncData), Fun K "__add__" "Bag.__add__" s_m_add f fd ∧ PySem.W.findIn K (.ref C_Bag) "__add__" = some (some (.ref f)) ∧ PySem.W.isFn K (.ref f) = true)
    (M_m_contains : ∃ (f : Addr) (fd : FuncData), Fun K "__contains__" "Bag.__contains__" s_m_contains f fd ∧ PySem.W.findIn K (.ref C_Bag) "__contains__" = some (some (.ref f)) ∧ PySem.W.isFn K (.ref f) = true)
    (M_m_len : ∃ (f : Addr) (fd : FuncData), Fun K "__len__" "Bag.__len__" s_m_len f fd ∧ PySem.W.findIn K (.ref C_Bag) "__len__" = some (some (.ref f)) ∧ PySem.W.isFn K (.ref f) = true)
    (M_m_eq : ∃ (f : Addr) (fd : FuncData), Fun K "__eq__" "Bag.__eq__" s_m_eq f fd ∧ PySem.W.findIn K (.ref C_Bag) "__eq__" = some (some (.ref f)) ∧ PySem.W.isFn K (.ref f) = true)
    (M_m_repr : ∃ (f : Addr) (fd : FuncData), Fun K "__repr__" "Bag.__repr__" s_m_repr f fd ∧ PySem.W.findIn K (.ref C_Bag) "__repr__" = some (some (.ref f)) ∧ PySem.W.isFn K (.ref f) = true)
    (cl : Cls K C_Bag)
    (n__members : PySem.W.findIn K (.ref C_Bag) "_members" = some none)
    (sf : PySem.W.selfFirst K C_Bag = true)
    (mo : PySem.W.mroIn K C_Bag (.type "object") = some true)
    (ne_ : PySem.W.findIn K (.ref C_Bag) "__ne__" = some (some (.builtin "object.__ne__")))
    (ca : PySem.W.findIn K (.ref C_Bag) "__class__" = some (some (.builtin "object.__class__")))
    (cn : PySem.W.specialIn K (.builtin "object.__class__") "__get__" = some (some (.builtin "getset_descriptor.__get__")))
    (ct : PySem.W.takesIn K (.builtin "object.__class__") = some true)
    (kk : PySem.W.kitOne K (.ref C_Bag) (.ref C_Bag) = some true)
    (nf_list : PySem.W.notFirst K C_Bag (.type "list") = true)
    (k_list : PySem.W.kitOne K (.type "list") (.ref C_Bag) = some false)
    (nf_NoneType : PySem.W.notFirst K C_Bag (.type "NoneType") = true)
    (k_NoneType : PySem.W.kitOne K (.type "NoneType") (.ref C_Bag) = some false)
    (nf_Bag : PySem.W.notFirst K C_Bag (.ref C_Bag) = true)
    (P_TooMany : CP K mg "TooMany" C_TooMany C_InvalidError "ValueError")
    (I_TooMany : ∃ (f : Addr) (fd : FuncData), Fun K "__init__" "TooMany.__init__" s_iTooMany f fd ∧ PySem.W.findIn K (.ref C_TooMany) "__init__" = some (some (.ref f)) ∧ PySem.W.typeIn K (.ref f) = some (.type "function"))
    (no_TooMany_what : PySem.W.findIn K (.ref C_TooMany) "what" = some none)
    (no_TooMany_most : PySem.W.findIn K (.ref C_TooMany) "most" = some none)
    (hMP : PySem.W.nsIn K mainGlobals "_MOST_PRIME" = some (some (.int 800 mpu)))
    (z_abs : PySem.W.nsIn K mainGlobals "abs" = some none)
    (z_all : PySem.W.nsIn K mainGlobals "all" = some none)
    (z_bool : PySem.W.nsIn K mainGlobals "bool" = some none)
    (z_int : PySem.W.nsIn K mainGlobals "int" = some none)
    (z_isinstance : PySem.W.nsIn K mainGlobals "isinstance" = some none)
    (z_len : PySem.W.nsIn K mainGlobals "len" = some none)
    (z_list : PySem.W.nsIn K mainGlobals "list" = some none)
    (z_min : PySem.W.nsIn K mainGlobals "min" = some none)
    (z_range : PySem.W.nsIn K mainGlobals "range" = some none)
    (z_repr : PySem.W.nsIn K mainGlobals "repr" = some none)
    (z_sorted : PySem.W.nsIn K mainGlobals "sorted" = some none)
    (z_str : PySem.W.nsIn K mainGlobals "str" = some none)
    (z_tuple : PySem.W.nsIn K mainGlobals "tuple" = some none)
    (z_zip : PySem.W.nsIn K mainGlobals "zip" = some none)
    : ∃ fd : FuncData, (∀ (s : Shared) (v : Value), BindsTo s fd ⟨[v], []⟩ [("script", v)]) ∧ ∀ base : Heap, K.In base → base.Ns mainGlobals mg → FnOk P w K mg base CX0 11 fa fd ["script"] (spLaw K) := by
  obtain ⟨f_check_counted, fd_check_counted, F_check_counted, g_check_counted⟩ := D_check_counted
  obtain ⟨f_in_product_lot, fd_in_product_lot, F_in_product_lot, g_in_product_lot⟩ := D_in_product_lot
  obtain ⟨f_product_lot, fd_product_lot, F_product_lot, g_product_lot⟩ := D_product_lot
  obtain ⟨f_box, fd_box, F_box, g_box⟩ := D_box
  obtain ⟨f_draw, fd_draw, F_draw, g_draw⟩ := D_draw
  obtain ⟨f_of, fd_of, F_of, g_of⟩ := D_of
  obtain ⟨f_same, fd_same, F_same, g_same⟩ := D_same
  obtain ⟨f_raised, fd_raised, F_raised, g_raised⟩ := D_raised
  obtain ⟨f_law_inverse, fd_law_inverse, F_law_inverse, g_law_inverse⟩ := D_law_inverse
  obtain ⟨f_bag, fd_bag, F_bag, g_bag⟩ := D_bag
  obtain ⟨f_shuffled, fd_shuffled, F_shuffled, g_shuffled⟩ := D_shuffled
  obtain ⟨f_over, fd_over, F_over, g_over⟩ := D_over
  obtain ⟨f_two, fd_two, F_two, g_two⟩ := D_two
  obtain ⟨f_meets, fd_meets, F_meets, g_meets⟩ := D_meets
  obtain ⟨f_lot, fd_lot, F_lot, g_lot⟩ := D_lot
  obtain ⟨f_members, fd_members, F_members, g_members⟩ := D_members
  obtain ⟨f_law, fd_law, F_law, g_law⟩ := D_law
  obtain ⟨f_m_init, fd_m_init, F_m_init, mk_⟩ := M_m_init
  obtain ⟨f_m_times, fd_m_times, F_m_times, me_m_times⟩ := M_m_times
  obtain ⟨f_m_listed, fd_m_listed, F_m_listed, me_m_listed⟩ := M_m_listed
  obtain ⟨f_m_product, fd_m_product, F_m_product, me_m_product⟩ := M_m_product
  obtain ⟨f_m_add, fd_m_add, F_m_add, f_add, n_add⟩ := M_m_add
  obtain ⟨f_m_contains, fd_m_contains, F_m_contains, f_contains, n_contains⟩ := M_m_contains
  obtain ⟨f_m_len, fd_m_len, F_m_len, f_len, n_len⟩ := M_m_len
  obtain ⟨f_m_eq, fd_m_eq, F_m_eq, f_eq, n_eq⟩ := M_m_eq
  obtain ⟨f_m_repr, fd_m_repr, F_m_repr, f_repr, n_repr⟩ := M_m_repr
  obtain ⟨fI_TooMany, fdI_TooMany, FI_TooMany, iC_TooMany, tI_TooMany⟩ := I_TooMany
  have bI_TooMany := FI_TooMany.binds (ps := ["self", "what", "most"]) fun _ _ _ _ _ _ us hl => match us, hl with | [_, _, _], _ => rfl
  have b_check_counted := F_check_counted.binds (ps := ["p"]) fun _ _ _ _ _ _ us hl => match us, hl with | [_], _ => rfl
  have b_m_times := F_m_times.binds (ps := ["self", "item"]) fun _ _ _ _ _ _ us hl => match us, hl with | [_, _], _ => rfl
  have b_m_listed := F_m_listed.binds (ps := ["self"]) fun _ _ _ _ _ _ us hl => match us, hl with | [_], _ => rfl
  have b_m_add := F_m_add.binds (ps := ["self", "other"]) fun _ _ _ _ _ _ us hl => match us, hl with | [_, _], _ => rfl
  have b_m_contains := F_m_contains.binds (ps := ["self", "item"]) fun _ _ _ _ _ _ us hl => match us, hl with | [_, _], _ => rfl
  have b_m_len := F_m_len.binds (ps := ["self"]) fun _ _ _ _ _ _ us hl => match us, hl with | [_], _ => rfl
  have b_m_eq := F_m_eq.binds (ps := ["self", "other"]) fun _ _ _ _ _ _ us hl => match us, hl with | [_, _], _ => rfl
  have b_m_repr := F_m_repr.binds (ps := ["self"]) fun _ _ _ _ _ _ us hl => match us, hl with | [_], _ => rfl
  have b_box := F_box.binds (ps := ["script"]) fun _ _ _ _ _ _ us hl => match us, hl with | [_], _ => rfl
  have b_draw := F_draw.binds (ps := ["box", "sides"]) fun _ _ _ _ _ _ us hl => match us, hl with | [_, _], _ => rfl
  have b_of := F_of.binds (ps := ["box", "things"]) fun _ _ _ _ _ _ us hl => match us, hl with | [_, _], _ => rfl
  have b_same := F_same.binds (ps := ["found", "due"]) fun _ _ _ _ _ _ us hl => match us, hl with | [_, _], _ => rfl
  have b_raised := F_raised.binds (ps := ["base", "times", "prime"]) fun _ _ _ _ _ _ us hl => match us, hl with | [_, _, _], _ => rfl
  have b_law_inverse := F_law_inverse.binds (ps := ["digit", "prime"]) fun _ _ _ _ _ _ us hl => match us, hl with | [_, _], _ => rfl
  have b_bag := F_bag.binds (ps := ["box", "items"]) fun _ _ _ _ _ _ us hl => match us, hl with | [_, _], _ => rfl
  have b_shuffled := F_shuffled.binds (ps := ["box", "items"]) fun _ _ _ _ _ _ us hl => match us, hl with | [_, _], _ => rfl
  have b_over := F_over.binds (ps := ["items", "spot", "prime"]) fun _ _ _ _ _ _ us hl => match us, hl with | [_, _, _], _ => rfl
  have b_two := F_two.binds (ps := ["box", "prime", "spot"]) fun _ _ _ _ _ _ us hl => match us, hl with | [_, _, _], _ => rfl
  have b_meets := F_meets.binds (ps := ["first", "second", "spot", "prime"]) fun _ _ _ _ _ _ us hl => match us, hl with | [_, _, _, _], _ => rfl
  have b_lot := F_lot.binds (ps := ["left", "right", "prime"]) fun _ _ _ _ _ _ us hl => match us, hl with | [_, _, _], _ => rfl
  have b_members := F_members.binds (ps := ["box", "left", "right", "first", "second", "prime", "spots"]) fun _ _ _ _ _ _ us hl => match us, hl with | [_, _, _, _, _, _, _], _ => rfl
  have b_law := F_law.binds (ps := ["script"]) fun _ _ _ _ _ _ us hl => match us, hl with | [_], _ => rfl
  have kb_m_product1 := K0.Fun.kbn1 F_m_product (ps := ["self", "worth", "p"]) (n := 2) (ks := ["p"]) (g := fun us ws => us ++ ws) (fun _ _ _ _ _ _ us ws hu hl => match us, ws, hu, hl with | [_, _], [_], _, _ => rfl) (fun r1 r2 => r1.append r2)
  have kb_m_product0 := K0.Fun.kbn1 F_m_product (ps := ["self", "worth", "p"]) (n := 1) (ks := ["p", "worth"]) (g := fun us ws => us ++ ws.reverse) (fun _ _ _ _ _ _ us ws hu hl => match us, ws, hu, hl with | [_], [_, _], _, _ => rfl) (fun r1 r2 => r1.append (K0.Vals.rev r2))
  have kb_in_product_lot3 := K0.Fun.kbn1 F_in_product_lot (ps := ["one", "other", "worth", "p"]) (n := 3) (ks := ["p"]) (g := fun us ws => us ++ ws) (fun _ _ _ _ _ _ us ws hu hl => match us, ws, hu, hl with | [_, _, _], [_], _, _ => rfl) (fun r1 r2 => r1.append r2)
  have kb_in_product_lot0 := K0.Fun.kbn1 F_in_product_lot (ps := ["one", "other", "worth", "p"]) (n := 0) (ks := ["p", "worth", "other", "one"]) (g := fun us ws => us ++ ws.reverse) (fun _ _ _ _ _ _ us ws hu hl => match us, ws, hu, hl with | [], [_, _, _, _], _, _ => rfl) (fun r1 r2 => r1.append (K0.Vals.rev r2))
  have kb_product_lot2 := K0.Fun.kbn1 F_product_lot (ps := ["one", "other", "p"]) (n := 2) (ks := ["p"]) (g := fun us ws => us ++ ws) (fun _ _ _ _ _ _ us ws hu hl => match us, ws, hu, hl with | [_, _], [_], _, _ => rfl) (fun r1 r2 => r1.append r2)
  have kb_product_lot0 := K0.Fun.kbn1 F_product_lot (ps := ["one", "other", "p"]) (n := 0) (ks := ["other", "one", "p"]) (g := fun us ws => us ++ sw2 ws) (fun _ _ _ _ _ _ us ws hu hl => match us, ws, hu, hl with | [], [_, _, _], _, _ => rfl) (fun r1 r2 => r1.append (K0.Vals.sw2 r2))
  have T : Txt K mg :=
    { f_check_counted := f_check_counted
      fd_check_counted := fd_check_counted
      F_check_counted := F_check_counted
      g_check_counted := g_check_counted
      b_check_counted := b_check_counted
      f_m_init := f_m_init
      fd_m_init := fd_m_init
      F_m_init := F_m_init
      f_m_times := f_m_times
      fd_m_times := fd_m_times
      F_m_times := F_m_times
      b_m_times := b_m_times
      f_m_listed := f_m_listed
      fd_m_listed := fd_m_listed
      F_m_listed := F_m_listed
      b_m_listed := b_m_listed
      f_m_product := f_m_product
      fd_m_product := fd_m_product
      F_m_product := F_m_product
      f_m_add := f_m_add
      fd_m_add := fd_m_add
      F_m_add := F_m_add
      b_m_add := b_m_add
      f_m_contains := f_m_contains
      fd_m_contains := fd_m_contains
      F_m_contains := F_m_contains
      b_m_contains := b_m_contains
      f_m_len := f_m_len
      fd_m_len := fd_m_len
      F_m_len := F_m_len
      b_m_len := b_m_len
      f_m_eq := f_m_eq
      fd_m_eq := fd_m_eq
      F_m_eq := F_m_eq
      b_m_eq := b_m_eq
      f_m_repr := f_m_repr
      fd_m_repr := fd_m_repr
      F_m_repr := F_m_repr
      b_m_repr := b_m_repr
      f_in_product_lot := f_in_product_lot
      fd_in_product_lot := fd_in_product_lot
      F_in_product_lot := F_in_product_lot
      g_in_product_lot := g_in_product_lot
      f_product_lot := f_product_lot
      fd_product_lot := fd_product_lot
      F_product_lot := F_product_lot
      g_product_lot := g_product_lot
      f_box := f_box
      fd_box := fd_box
      F_box := F_box
      g_box := g_box
      b_box := b_box
      f_draw := f_draw
      fd_draw := fd_draw
      F_draw := F_draw
      g_draw := g_draw
      b_draw := b_draw
      f_of := f_of
      fd_of := fd_of
      F_of := F_of
      g_of := g_of
      b_of := b_of
      f_same := f_same
      fd_same := fd_same
      F_same := F_same
      g_same := g_same
      b_same := b_same
      f_raised := f_raised
      fd_raised := fd_raised
      F_raised := F_raised
      g_raised := g_raised
      b_raised := b_raised
      f_law_inverse := f_law_inverse
      fd_law_inverse := fd_law_inverse
      F_law_inverse := F_law_inverse
      g_law_inverse := g_law_inverse
      b_law_inverse := b_law_inverse
      f_bag := f_bag
      fd_bag := fd_bag
      F_bag := F_bag
      g_bag := g_bag
      b_bag := b_bag
      f_shuffled := f_shuffled
      fd_shuffled := fd_shuffled
      F_shuffled := F_shuffled
      g_shuffled := g_shuffled
      b_shuffled := b_shuffled
      f_over := f_over
      fd_over := fd_over
      F_over := F_over
      g_over := g_over
      b_over := b_over
      f_two := f_two
      fd_two := fd_two
      F_two := F_two
      g_two := g_two
      b_two := b_two
      f_meets := f_meets
      fd_meets := fd_meets
      F_meets := F_meets
      g_meets := g_meets
      b_meets := b_meets
      f_lot := f_lot
      fd_lot := fd_lot
      F_lot := F_lot
      g_lot := g_lot
      b_lot := b_lot
      f_members := f_members
      fd_members := fd_members
      F_members := F_members
      g_members := g_members
      b_members := b_members
      f_law := f_law
      fd_law := fd_law
      F_law := F_law
      g_law := g_law
      b_law := b_law
      kb_m_product1 := kb_m_product1
      kb_m_product0 := kb_m_product0
      kb_in_product_lot3 := kb_in_product_lot3
      kb_in_product_lot0 := kb_in_product_lot0
      kb_product_lot2 := kb_product_lot2
      kb_product_lot0 := kb_product_lot0
      C_Bag := C_Bag
      gC_Bag := PySem.W.mg_of X G gC
      cl := cl
      mk_ := mk_
      n__members := n__members
      sf := sf
      mo := mo
      ne_ := ne_
      ca := ca
      cn := cn
      ct := ct
      kk := kk
      me_m_times := me_m_times
      me_m_listed := me_m_listed
      me_m_product := me_m_product
      f_add := f_add
      n_add := n_add
      f_eq := f_eq
      n_eq := n_eq
      f_repr := f_repr
      n_repr := n_repr
      f_len := f_len
      n_len := n_len
      f_contains := f_contains
      n_contains := n_contains
      nf_list := nf_list
      k_list := k_list
      nf_NoneType := nf_NoneType
      k_NoneType := k_NoneType
      nf_Bag := nf_Bag
      z_abs := PySem.W.mg_none_of X G z_abs
      z_all := PySem.W.mg_none_of X G z_all
      z_bool := PySem.W.mg_none_of X G z_bool
      z_int := PySem.W.mg_none_of X G z_int
      z_isinstance := PySem.W.mg_none_of X G z_isinstance
      z_len := PySem.W.mg_none_of X G z_len
      z_list := PySem.W.mg_none_of X G z_list
      z_min := PySem.W.mg_none_of X G z_min
      z_range := PySem.W.mg_none_of X G z_range
      z_repr := PySem.W.mg_none_of X G z_repr
      z_sorted := PySem.W.mg_none_of X G z_sorted
      z_str := PySem.W.mg_none_of X G z_str
      z_tuple := PySem.W.mg_none_of X G z_tuple
      z_zip := PySem.W.mg_none_of X G z_zip
      C_TooMany := C_TooMany
      gC_TooMany := P_TooMany.g
      x_TooMany := P_TooMany.x
      fI_TooMany := fI_TooMany
      fdI_TooMany := fdI_TooMany
      FI_TooMany := FI_TooMany
      bI_TooMany := bI_TooMany
      iC_TooMany := iC_TooMany
      tI_TooMany := tI_TooMany
      no_TooMany_what := no_TooMany_what
      no_TooMany_most := no_TooMany_most
      s_TooMany := (P_TooMany.subs _).trans (by rw [List.contains_cons, beq_self_eq_true]; rfl)
      mpu := mpu
      gMP := PySem.W.mg_of X G hMP }
  have e : fa = T.f_law := by
    have := hfa.symm.trans T.g_law
    cases this
    rfl
  subst e
  exact ⟨T.fd_law, one_of T.F_law (fun _ _ _ _ _ _ _ => rfl), fun base _ _ => ok_law T⟩
end K0

namespace K0
open PySem L2
theorem walk {l : PySem.W.OpenLaw} {q : Program} {loose : List Str} {XP : (Str → Option Value) → Heap → Prop} {YP : World → Heap → Prop} {d : DefRec} {K : Params → PySem.W.Frag} (hn : l.most = some 63) (hdf : d.params.defaults = [])
    (hY : ∀ (w : World) (h : Heap), YP w h → (K w.params).In h)
    (F : ∀ (w : World) (mg : Str → Option Value) (fa : Addr) (h : Heap), (K w.params).In h → h.Ns mainGlobals mg → mg d.name = some (.ref fa) →
      ∃ fd : FuncData, (∀ (s : Shared) (u : Value), BindsTo s fd ⟨[u], []⟩ [("script", u)]) ∧ ∀ base : Heap, (K w.params).In base → base.Ns mainGlobals mg → FnOk l.prog w (K w.params) mg base CX0 11 fa fd ["script"] (spLaw (K w.params))) :
    PySem.W.WalkO q loose XP YP l.row.toRowW d [] (fun f vs => PySem.call f vs) :=
  L2.walk_of (n := 63) (k := 11) (x := "script") (CX := fun _ => CX0) (sp := fun w => spLaw (K w.params)) hn (by decide) hdf ⟨rfl, by decide, by decide⟩ hY F (fun _ _ a ns hl _ hS => ⟨a, ns, rfl, hS, hl, fun _ => rfl⟩) fun _ _ _ _ _ z => z
end K0
open PySem PySem.W PyProof.Rows in
set_option maxRecDepth 100000 in
set_option maxHeartbeats 0 in
theorem PySem.Challenge.cw_shownrun_k07_whole_product_lots_holds : PySem.Challenge.rw_shownrun_k07_whole_product_lots.Holds := by
  w_on; o_law; k_head; (case hw => w_witness2)
  k_fill
  refine K0.walk (l := PySem.Challenge.rw_shownrun_k07_whole_product_lots) rfl rfl (fun w h Y => PySem.W.kIn_of Y) ?F
  case F =>
    intro w mg fa h KX G hmg
    refine' K0.build KX G hmg ?gC ?D_check_counted ?D_in_product_lot ?D_product_lot ?D_box ?D_draw ?D_of ?D_same ?D_raised ?D_law_inverse ?D_bag ?D_shuffled ?D_over ?D_two ?D_meets ?D_lot ?D_members ?D_law ?M_m_init ?M_m_times ?M_m_listed ?M_m_product ?M_m_add ?M_m_contains ?M_m_len ?M_m_eq ?M_m_repr ?cl ?n__members ?sf ?mo ?ne_ ?ca ?cn ?ct ?kk ?nf_list ?k_list ?nf_NoneType ?k_NoneType ?nf_Bag ?P_TooMany ?I_TooMany ?no_TooMany_what ?no_TooMany_most ?hMP ?z_abs ?z_all ?z_bool ?z_int ?z_isinstance ?z_len ?z_list ?z_min ?z_range ?z_repr ?z_sorted ?z_str ?z_tuple ?z_zip
    (case gC => first | k_is | rfl | decide +kernel)
    (case D_check_counted => refine' K0.def_ex KX G ?a ?l ?c ?k; (case a => k_is); (case l => k_is); (case c => k_is); (case k => k_is))
    (case D_in_product_lot => refine' K0.def_ex KX G ?a ?l ?c ?k; (case a => k_is); (case l => k_is); (case c => k_is); (case k => k_is))
    (case D_product_lot => refine' K0.def_ex KX G ?a ?l ?c ?k; (case a => k_is); (case l => k_is); (case c => k_is); (case k => k_is))
    (case D_box => refine' K0.def_ex KX G ?a ?l ?c ?k; (case a => k_is); (case l => k_is); (case c => k_is); (case k => k_is))
    (case D_draw => refine' K0.def_ex KX G ?a ?l ?c ?k; (case a => k_is); (case l => k_is); (case c => k_is); (case k => k_is))
    (case D_of => refine' K0.def_ex KX G ?a ?l ?c ?k; (case a => k_is); (case l => k_is); (case c => k_is); (case k => k_is))
    (case D_same => refine' K0.def_ex KX G ?a ?l ?c ?k; (case a => k_is); (case l => k_is); (case c => k_is); (case k => k_is))
    (case D_raised => refine' K0.def_ex KX G ?a ?l ?c ?k; (case a => k_is); (case l => k_is); (case c => k_is); (case k => k_is))
    (case D_law_inverse => refine' K0.def_ex KX G ?a ?l ?c ?k; (case a => k_is); (case l => k_is); (case c => k_is); (case k => k_is))
    (case D_bag => refine' K0.def_ex KX G ?a ?l ?c ?k; (case a => k_is); (case l => k_is); (case c => k_is); (case k => k_is))
    (case D_shuffled => refine' K0.def_ex KX G ?a ?l ?c ?k; (case a => k_is); (case l => k_is); (case c => k_is); (case k => k_is))
    (case D_over => refine' K0.def_ex KX G ?a ?l ?c ?k; (case a => k_is); (case l => k_is); (case c => k_is); (case k => k_is))
    (case D_two => refine' K0.def_ex KX G ?a ?l ?c ?k; (case a => k_is); (case l => k_is); (case c => k_is); (case k => k_is))
    (case D_meets => refine' K0.def_ex KX G ?a ?l ?c ?k; (case a => k_is); (case l => k_is); (case c => k_is); (case k => k_is))
    (case D_lot => refine' K0.def_ex KX G ?a ?l ?c ?k; (case a => k_is); (case l => k_is); (case c => k_is); (case k => k_is))
    (case D_members => refine' K0.def_ex KX G ?a ?l ?c ?k; (case a => k_is); (case l => k_is); (case c => k_is); (case k => k_is))
    (case D_law => refine' K0.def_ex KX G ?a ?l ?c ?k; (case a => k_is); (case l => k_is); (case c => k_is); (case k => k_is))
    (case M_m_init => refine' K0.init_ex ?mk ?a ?n ?kc ?l ?c ?k; (case mk => k_is); (case a => k_is); (case n => k_is); (case kc => k_is); (case l => k_is); (case c => k_is); (case k => k_is))
    (case M_m_times => refine' K0.meth_ex ?a ?n ?l ?c ?k; (case a => k_is); (case n => k_is); (case l => k_is); (case c => k_is); (case k => k_is))
    (case M_m_listed => refine' K0.meth_ex ?a ?n ?l ?c ?k; (case a => k_is); (case n => k_is); (case l => k_is); (case c => k_is); (case k => k_is))
    (case M_m_product => refine' K0.meth_ex ?a ?n ?l ?c ?k; (case a => k_is); (case n => k_is); (case l => k_is); (case c => k_is); (case k => k_is))
    (case M_m_add => refine' K0.own_ex ?a ?n ?l ?c ?k; (case a => k_is); (case n => k_is); (case l => k_is); (case c => k_is); (case k => k_is))
    (case M_m_contains => refine' K0.own_ex ?a ?n ?l ?c ?k; (case a => k_is); (case n => k_is); (case l => k_is); (case c => k_is); (case k => k_is))
    (case M_m_len => refine' K0.own_ex ?a ?n ?l ?c ?k; (case a => k_is); (case n => k_is); (case l => k_is); (case c => k_is); (case k => k_is))
    (case M_m_eq => refine' K0.own_ex ?a ?n ?l ?c ?k; (case a => k_is); (case n => k_is); (case l => k_is); (case c => k_is); (case k => k_is))
    (case M_m_repr => refine' K0.own_ex ?a ?n ?l ?c ?k; (case a => k_is); (case n => k_is); (case l => k_is); (case c => k_is); (case k => k_is))
    (case cl => refine' ⟨?a, ?b, ?c, ?d⟩; (case a => k_is); (case b => k_is); (case c => k_is); (case d => k_is))
    (case n__members => first | k_is | rfl | decide +kernel)
    (case sf => first | k_is | rfl | decide +kernel)
    (case mo => first | k_is | rfl | decide +kernel)
    (case ne_ => first | k_is | rfl | decide +kernel)
    (case ca => first | k_is | rfl | decide +kernel)
    (case cn => first | k_is | rfl | decide +kernel)
    (case ct => first | k_is | rfl | decide +kernel)
    (case kk => first | k_is | rfl | decide +kernel)
    (case nf_list => first | k_is | rfl | decide +kernel)
    (case k_list => first | k_is | rfl | decide +kernel)
    (case nf_NoneType => first | k_is | rfl | decide +kernel)
    (case k_NoneType => first | k_is | rfl | decide +kernel)
    (case nf_Bag => first | k_is | rfl | decide +kernel)
    (case P_TooMany => refine' K0.cp_mk KX G PySem.F.excBase_ValueError PySem.F.store_ValueError (by decide +kernel) ?a ?l ?sa ?eC ?tC ?kC ?ga ?gg ?hd ?ha ?hn ?ht ?hm ?cl; (case a => k_is); (case l => k_is); (case sa => k_is); (case eC => k_is); (case tC => k_is); (case kC => k_is); (case ga => k_is); (case gg => k_is); (case hd => k_is); (case ha => k_is); (case hn => k_is); (case ht => k_is); (case hm => k_is); (case cl => k_is))
    (case I_TooMany => refine' K0.xini_ex ?a ?t ?l ?c ?k; (case a => k_is); (case t => k_is); (case l => k_is); (case c => k_is); (case k => k_is))
    (case no_TooMany_what => k_is)
    (case no_TooMany_most => k_is)
    (case hMP => k_is)
    (case z_abs => first | k_is | rfl | decide +kernel)
    (case z_all => first | k_is | rfl | decide +kernel)
    (case z_bool => first | k_is | rfl | decide +kernel)
    (case z_int => first | k_is | rfl | decide +kernel)
    (case z_isinstance => first | k_is | rfl | decide +kernel)
    (case z_len => first | k_is | rfl | decide +kernel)
    (case z_list => first | k_is | rfl | decide +kernel)
    (case z_min => first | k_is | rfl | decide +kernel)
    (case z_range => first | k_is | rfl | decide +kernel)
    (case z_repr => first | k_is | rfl | decide +kernel)
    (case z_sorted => first | k_is | rfl | decide +kernel)
    (case z_str => first | k_is | rfl | decide +kernel)
    (case z_tuple => first | k_is | rfl | decide +kernel)
    (case z_zip => first | k_is | rfl | decide +kernel)

