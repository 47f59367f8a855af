import PyProof.Rows.All
import Wide.All
import OpenK.AllK
import Wide.FinOn
import HandS.ForMost
import HandS.Star
import HandS.SlotsOwn
import HandS.IsInst
import PyProof.InstNe
import HandS.More
import HandS.ClsMeth
import HandS.Defaults
import HandS.NoneIn
import KE.GoesMore
import KE.GoesEnum
import HandS.Zip
import KE.GoesZip
import HandS.Wide
import HandS.Conv
import HandS.Style
import HandS.Codes
import HandS.Rev
import HandS.TupAny
import HandS.FStr
import HandS.Property
import HandS.MakeKw
import HandS.MakeKwOnly
import HandS.ForExc
import HandS.ExcBuiltin
import HandS.TryOnly
import KE.KDictPairs
import HandS.Ends
import PySem.Challenge.RW_shownrun_k01_polys_by_slow_sums
set_option Elab.async false
set_option linter.all false
set_option maxRecDepth 100000
namespace K0
/-! mathematics: primes by trial, the inverse, the power -/
def Prm (p : Int) : Prop := 1 < p ∧ ∀ d : Int, d ∣ p → d.natAbs = 1 ∨ d.natAbs = p.natAbs
/-- no d with lo ≤ d < lo + 2 ^ k divides n -/
def clear (n : Nat) : Nat → Nat → Bool
  | 0, lo => n % lo != 0
  | k + 1, lo => clear n k lo && clear n k (lo + 2 ^ k)
theorem clear_ok {n : Nat} : ∀ {k lo : Nat}, clear n k lo = true → ∀ d, lo ≤ d → d < lo + 2 ^ k → ¬ d ∣ n
  | 0, lo, h, d, h1, h2, hd => by
    have e : d = lo := by
      have : (2:Nat) ^ 0 = 1 := rfl
      omega
    subst e
    have := Nat.mod_eq_zero_of_dvd hd
    simp [clear, this] at h
  | k + 1, lo, h, d, h1, h2, hd => by
    unfold clear at h
    rw [Bool.and_eq_true] at h
    by_cases c : d < lo + 2 ^ k
    · exact clear_ok h.1 d h1 c hd
    · refine clear_ok h.2 d (by omega) ?_ hd
      have : (2:Nat) ^ (k + 1) = 2 ^ k + 2 ^ k := by rw [Nat.pow_succ]; omega
      omega
theorem prm_of {n k : Nat} (h1 : 1 < n) (hk : n < (2 + 2 ^ k) * (2 + 2 ^ k)) (h : clear n k 2 = true) : Prm (n : Int) := by
  refine ⟨by omega, fun d hd => ?_⟩
  have hd' : d.natAbs ∣ n := by
    have := Int.natAbs_dvd_natAbs.mpr hd
    simpa using this
  obtain ⟨c, hc⟩ := hd'
  have key : ∀ e : Nat, e ∣ n → 2 ≤ e → 2 + 2 ^ k ≤ e := fun e he h2 => by
    by_cases z : e < 2 + 2 ^ k
    · exact absurd he (clear_ok h e h2 z)
    · omega
  by_cases a1 : d.natAbs = 1
  · exact .inl a1
  · right
    have d0 : d.natAbs ≠ 0 := fun z => by rw [z, Nat.zero_mul] at hc; omega
    by_cases c1 : c = 1
    · rw [c1, Nat.mul_one] at hc
      simp [hc]
    · have c0 : c ≠ 0 := fun z => by rw [z, Nat.mul_zero] at hc; omega
      have k1 := key d.natAbs ⟨c, hc⟩ (by omega)
      have k2 := key c ⟨d.natAbs, by rw [Nat.mul_comm]; exact hc⟩ (by omega)
      have := Nat.mul_le_mul k1 k2
      omega
/-- small primes: every smaller number from 2 on tried -/
theorem prm_small {n : Nat} (h1 : 1 < n) (h : ∀ d, d < n → 2 ≤ d → n % d ≠ 0) : Prm (n : Int) := by
  refine ⟨by omega, fun d hd => ?_⟩
  have hd' : d.natAbs ∣ n := by
    have := Int.natAbs_dvd_natAbs.mpr hd
    simpa using this
  have le := Nat.le_of_dvd (by omega) hd'
  by_cases a1 : d.natAbs = 1
  · exact .inl a1
  · right
    by_cases c : d.natAbs = n
    · simpa using c
    · have d0 : d.natAbs ≠ 0 := fun z => by
        rw [z] at hd'
        have := Nat.eq_zero_of_zero_dvd hd'
        omega
      exact absurd (Nat.mod_eq_zero_of_dvd hd') (h d.natAbs (by omega) (by omega))
def primes : List Int := [2, 3, 5, 7, 11, 13, 17, 31, 97, 193, 257, 769, 7681, 12289, 998244353, 2013265921, 9999999967]
theorem prm_all : ∀ p ∈ primes, Prm p := by
  intro p hp
  simp only [primes, List.mem_cons, List.not_mem_nil, or_false] at hp
  rcases hp with rfl | rfl | rfl | rfl | rfl | rfl | rfl | rfl | rfl | rfl | rfl | rfl | rfl | rfl | rfl | rfl | rfl
  · exact prm_small (n := 2) (by decide) (by decide +kernel)
  · exact prm_small (n := 3) (by decide) (by decide +kernel)
  · exact prm_small (n := 5) (by decide) (by decide +kernel)
  · exact prm_small (n := 7) (by decide) (by decide +kernel)
  · exact prm_small (n := 11) (by decide) (by decide +kernel)
  · exact prm_small (n := 13) (by decide) (by decide +kernel)
  · exact prm_small (n := 17) (by decide) (by decide +kernel)
  · exact prm_small (n := 31) (by decide) (by decide +kernel)
  · exact prm_small (n := 97) (by decide) (by decide +kernel)
  · exact prm_small (n := 193) (by decide) (by decide +kernel)
  · exact prm_small (n := 257) (by decide) (by decide +kernel)
  · exact prm_small (n := 769) (by decide) (by decide +kernel)
  · exact prm_of (n := 7681) (k := 7) (by decide) (by decide +kernel) (by decide +kernel)
  · exact prm_of (n := 12289) (k := 7) (by decide) (by decide +kernel) (by decide +kernel)
  · exact prm_of (n := 998244353) (k := 15) (by decide) (by decide +kernel) (by decide +kernel)
  · exact prm_of (n := 2013265921) (k := 16) (by decide) (by decide +kernel) (by decide +kernel)
  · exact prm_of (n := 9999999967) (k := 17) (by decide) (by decide +kernel) (by decide +kernel)
theorem primes_lt : ∀ p ∈ primes, 1 < p ∧ p < 10 ^ 10 := by decide +kernel

/-! ### the inverse -/
theorem dvd_ml {a b : Int} (c : Int) (h : a ∣ b) : a ∣ c * b := by
  obtain ⟨k, rfl⟩ := h
  exact ⟨c * k, by rw [Int.mul_left_comm]⟩
/-- what holds between two turns -/
structure InvI (w p low high one other : Int) : Prop where
  l0 : 0 ≤ low
  lh : low < high
  hp : high ≤ p
  h1 : 1 < high
  e1 : p ∣ one * w - low
  e2 : p ∣ other * w - high
  co : ∀ d : Int, d ∣ low → d ∣ high → d ∣ 1
theorem inv_start {w p : Int} (P : Prm p) (h : w % p ≠ 0) : InvI w p (w % p) p 1 0 := by
  have p1 := P.1
  have a := Int.emod_nonneg w (show p ≠ 0 by omega)
  have b := Int.emod_lt_of_pos w (show 0 < p by omega)
  refine ⟨a, b, Int.le_refl _, p1, ?_, ?_, fun d h1 h2 => ?_⟩
  · rw [Int.one_mul]
    exact Int.dvd_self_sub_emod
  · rw [Int.zero_mul, Int.zero_sub]
    exact Int.dvd_neg.mpr (Int.dvd_refl p)
  · rcases P.2 d h2 with q | q
    · have : d ∣ 1 := Int.natAbs_dvd_natAbs.mp (by rw [q]; exact Nat.dvd_refl 1)
      exact this
    · exfalso
      have z : p.natAbs ∣ (w % p).natAbs := by rw [← q]; exact Int.natAbs_dvd_natAbs.mpr h1
      have le := Nat.le_of_dvd (by omega) z
      omega
theorem inv_turn {w p low high one other : Int} (I : InvI w p low high one other) (h : 1 < low) :
    InvI w p (high - high / low * low) low (other - high / low * one) one ∧ (high - high / low * low).toNat < low.toNat := by
  have m := Int.emod_nonneg high (show low ≠ 0 by omega)
  have m2 := Int.emod_lt_of_pos high (show 0 < low by omega)
  have e : high - high / low * low = high % low := by
    have := Int.mul_ediv_add_emod high low
    rw [Int.mul_comm]
    omega
  refine ⟨⟨by omega, by omega, by have := I.lh; have := I.hp; omega, h, ?_, I.e1, fun d h1 h2 => ?_⟩, by omega⟩
  · have q := Int.dvd_sub I.e2 (dvd_ml (high / low) I.e1)
    have e3 : (other - high / low * one) * w - (high - high / low * low) = other * w - high - high / low * (one * w - low) := by
      rw [Int.sub_mul, Int.mul_sub, Int.mul_assoc]
      omega
    rw [e3]
    exact q
  · refine I.co d h2 ?_
    have q := Int.dvd_add h1 (dvd_ml (high / low) h2)
    have : high - high / low * low + high / low * low = high := by omega
    rw [this] at q
    exact q
theorem inv_end {w p low high one other : Int} (I : InvI w p low high one other) (h : ¬ 1 < low) :
    0 < one % p ∧ one % p < p ∧ (one % p * w) % p = 1 := by
  have l0 := I.l0
  have p1 : 1 < p := Int.lt_of_lt_of_le I.h1 I.hp
  have l1 : low = 1 := by
    by_cases z : low = 0
    · exfalso
      have := I.co high (by rw [z]; exact Int.dvd_zero _) (Int.dvd_refl _)
      have := Int.le_of_dvd (by omega) this
      have := I.h1
      omega
    · omega
  have a := Int.emod_nonneg one (show p ≠ 0 by omega)
  have b := Int.emod_lt_of_pos one (show 0 < p by omega)
  have c : (one % p * w) % p = 1 := by
    have e1 := I.e1
    rw [l1] at e1
    have : (one * w) % p = 1 % p := Int.emod_eq_emod_iff_emod_sub_eq_zero.mpr (Int.emod_eq_zero_of_dvd e1)
    rw [Int.mul_emod, Int.emod_emod, ← Int.mul_emod, this]
    exact Int.emod_eq_of_lt (by omega) p1
  refine ⟨?_, b, c⟩
  by_cases z : one % p = 0
  · rw [z, Int.zero_mul, Int.zero_emod] at c
    omega
  · omega

/-! ### the power -/
theorem pow_turn1 {p made base : Int} {n : Nat} : (made * base ^ (2 * n + 1)) % p = ((made * base % p) * (base * base % p) ^ n) % p := by
  have e : made * base ^ (2 * n + 1) = (made * base) * (base * base) ^ n := by
    rw [Int.pow_succ, Int.pow_mul, show base ^ 2 = base * base by rw [Int.pow_succ, Int.pow_succ, Int.pow_zero, Int.one_mul]]
    rw [Int.mul_comm ((base * base) ^ n) base, Int.mul_assoc]
  have pm : ∀ m : Nat, ∀ x : Int, (x % p) ^ m % p = x ^ m % p := by
    intro m x
    induction m with
    | zero => rw [Int.pow_zero, Int.pow_zero]
    | succ m ih => rw [Int.pow_succ, Int.pow_succ, Int.mul_emod, ih, Int.emod_emod, ← Int.mul_emod]
  rw [e, Int.mul_emod, ← pm n (base * base), ← Int.mul_emod, Int.mul_emod (made * base % p), Int.emod_emod, ← Int.mul_emod]
theorem pow_turn0 {p made base : Int} {n : Nat} : (made * base ^ (2 * n)) % p = (made * (base * base % p) ^ n) % p := by
  have e : base ^ (2 * n) = (base * base) ^ n := by
    rw [Int.pow_mul, show base ^ 2 = base * base by rw [Int.pow_succ, Int.pow_succ, Int.pow_zero, Int.one_mul]]
  have pm : ∀ m : Nat, ∀ x : Int, (x % p) ^ m % p = x ^ m % p := by
    intro m x
    induction m with
    | zero => rw [Int.pow_zero, Int.pow_zero]
    | succ m ih => rw [Int.pow_succ, Int.pow_succ, Int.mul_emod, ih, Int.emod_emod, ← Int.mul_emod]
  rw [e, Int.mul_emod, ← pm n (base * base), ← Int.mul_emod]
theorem pow_mod (p x : Int) (m : Nat) : (x % p) ^ m % p = x ^ m % p := by
  induction m with
  | zero => rw [Int.pow_zero, Int.pow_zero]
  | succ m ih => rw [Int.pow_succ, Int.pow_succ, Int.mul_emod, ih, Int.emod_emod, ← Int.mul_emod]
structure InvP (w : Int) (n : Nat) (p made base left : Int) : Prop where
  m0 : 0 ≤ made
  m1 : made < p
  b0 : 0 ≤ base
  b1 : base < p
  l0 : 0 ≤ left
  e : (made * base ^ left.toNat) % p = w ^ n % p
theorem powi_start {w p : Int} (n : Nat) (h : 1 < p) : InvP w n p 1 (w % p) (n : Int) :=
  ⟨by omega, h, Int.emod_nonneg w (by omega), Int.emod_lt_of_pos w (by omega), by omega, by rw [Int.one_mul, Int.toNat_natCast, pow_mod]⟩
theorem powi_turn1 {w p made base left : Int} {n : Nat} (I : InvP w n p made base left) (h : 0 < left) (o : left % 2 = 1) : InvP w n p (made * base % p) (base * base % p) (left / 2) := by
  have p0 : 0 < p := Int.lt_of_le_of_lt I.m0 I.m1
  refine ⟨Int.emod_nonneg _ (by omega), Int.emod_lt_of_pos _ p0, Int.emod_nonneg _ (by omega), Int.emod_lt_of_pos _ p0, by omega, ?_⟩
  have q := I.e
  have : left.toNat = 2 * (left / 2).toNat + 1 := by omega
  rw [this, pow_turn1] at q
  exact q
theorem powi_turn0 {w p made base left : Int} {n : Nat} (I : InvP w n p made base left) (h : 0 < left) (o : ¬ left % 2 = 1) : InvP w n p made (base * base % p) (left / 2) := by
  have p0 : 0 < p := Int.lt_of_le_of_lt I.m0 I.m1
  refine ⟨I.m0, I.m1, Int.emod_nonneg _ (by omega), Int.emod_lt_of_pos _ p0, by omega, ?_⟩
  have q := I.e
  have : left.toNat = 2 * (left / 2).toNat := by omega
  rw [this, pow_turn0] at q
  exact q
theorem powi_end {w p made base left : Int} {n : Nat} (I : InvP w n p made base left) (h : ¬ 0 < left) : made = w ^ n % p := by
  have q := I.e
  have : left.toNat = 0 := by have := I.l0; omega
  rw [this, Int.pow_zero, Int.mul_one, Int.emod_eq_of_lt I.m0 I.m1] at q
  exact q
theorem due_start {w p : Int} (h : 1 < p) : (1 : Int) = w ^ 0 % p := by
  rw [Int.pow_zero, Int.emod_eq_of_lt (by omega) h]
theorem due_turn {w p : Int} (i : Nat) : (w ^ i % p * w) % p = w ^ (i + 1) % p := by
  rw [Int.pow_succ, Int.mul_emod, Int.emod_emod, ← Int.mul_emod]
end K0

set_option maxRecDepth 100000
namespace K1
open K0
/-! ### numbers modulo a prime -/
def Cg (p a b : Int) : Prop := p ∣ a - b
section
variable {p a b c d x y : Int}
theorem Cg.refl (p a : Int) : Cg p a a := ⟨0, by omega⟩
theorem Cg.of_eq (h : a = b) : Cg p a b := h ▸ Cg.refl p a
theorem Cg.symm (h : Cg p a b) : Cg p b a := by
  obtain ⟨k, h⟩ := h
  exact ⟨-k, by grind⟩
theorem Cg.trans (h : Cg p a b) (g : Cg p b c) : Cg p a c := by
  obtain ⟨k, h⟩ := h
  obtain ⟨l, g⟩ := g
  exact ⟨k + l, by grind⟩
theorem Cg.add (h : Cg p a b) (g : Cg p c d) : Cg p (a + c) (b + d) := by
  obtain ⟨k, h⟩ := h
  obtain ⟨l, g⟩ := g
  exact ⟨k + l, by grind⟩
theorem Cg.sub (h : Cg p a b) (g : Cg p c d) : Cg p (a - c) (b - d) := by
  obtain ⟨k, h⟩ := h
  obtain ⟨l, g⟩ := g
  exact ⟨k - l, by grind⟩
theorem Cg.mul (h : Cg p a b) (g : Cg p c d) : Cg p (a * c) (b * d) := by
  obtain ⟨k, h⟩ := h
  obtain ⟨l, g⟩ := g
  exact ⟨k * c + b * l, by grind⟩
theorem Cg.mod (p a : Int) : Cg p (a % p) a := by
  have := Int.mul_ediv_add_emod a p
  exact ⟨-(a / p), by grind⟩
theorem Cg.iff : Cg p a b ↔ a % p = b % p := by
  constructor
  · intro h
    exact Int.emod_eq_emod_iff_emod_sub_eq_zero.mpr (Int.emod_eq_zero_of_dvd h)
  · intro h
    exact (Cg.mod p a).symm.trans (h ▸ Cg.mod p b)
theorem Cg.pow (h : Cg p a b) : ∀ n : Nat, Cg p (a ^ n) (b ^ n)
  | 0 => Cg.of_eq (by rw [Int.pow_zero, Int.pow_zero])
  | n + 1 => by
    rw [Int.pow_succ, Int.pow_succ]
    exact (Cg.pow h n).mul h
theorem Cg.eq_of (h : Cg p a b) (a0 : 0 ≤ a) (a1 : a < p) (b0 : 0 ≤ b) (b1 : b < p) : a = b := by
  have := Cg.iff.mp h
  rwa [Int.emod_eq_of_lt a0 a1, Int.emod_eq_of_lt b0 b1] at this
theorem cg_zero : Cg p a 0 ↔ a % p = 0 := by
  rw [Cg.iff, Int.zero_emod]
end
theorem inv_ex {p w : Int} (P : Prm p) (h : w % p ≠ 0) : ∃ r, 0 < r ∧ r < p ∧ (r * w) % p = 1 := by
  have key : ∀ (n : Nat) (low high one other : Int), low.toNat ≤ n → InvI w p low high one other → ∃ r, 0 < r ∧ r < p ∧ (r * w) % p = 1 := by
    intro n
    induction n with
    | zero =>
      intro low high one other hn I
      obtain ⟨a, b, c⟩ := inv_end I (by omega)
      exact ⟨_, a, b, c⟩
    | succ n ih =>
      intro low high one other hn I
      by_cases q : 1 < low
      · obtain ⟨J, lt⟩ := inv_turn I q
        exact ih _ _ _ _ (by omega) J
      · obtain ⟨a, b, c⟩ := inv_end I q
        exact ⟨_, a, b, c⟩
  exact key _ _ _ _ _ (Nat.le_refl _) (inv_start P h)
theorem one_mod {p : Int} (P : Prm p) : (1 : Int) % p = 1 := Int.emod_eq_of_lt (by omega) P.1
theorem cg_one {p a : Int} (P : Prm p) (h : a % p = 1) : Cg p a 1 := Cg.iff.mpr (by rw [h, one_mod P])
theorem inv_uniq {p w r s : Int} (P : Prm p) (r0 : 0 ≤ r) (r1 : r < p) (s0 : 0 ≤ s) (s1 : s < p) (h : (r * w) % p = 1) (g : (s * w) % p = 1) : r = s := by
  have h' := (cg_one P h).mul (Cg.refl p s)
  have g' := (cg_one P g).mul (Cg.refl p r)
  refine Cg.eq_of (p := p) ?_ r0 r1 s0 s1
  have e : r * w * s = s * w * r := by grind
  rw [e] at h'
  have := g'.symm.trans h'
  rwa [Int.one_mul, Int.one_mul] at this
theorem prm_mul {p a b : Int} (P : Prm p) (h : Cg p (a * b) 0) (ha : ¬ Cg p a 0) : Cg p b 0 := by
  obtain ⟨r, _, _, hr⟩ := inv_ex P (fun z => ha (cg_zero.mpr z))
  have e := (Cg.refl p r).mul h
  have e2 : Cg p (r * (a * b)) (1 * b) := by
    have := (cg_one P hr).mul (Cg.refl p b)
    rwa [Int.mul_assoc] at this
  rw [Int.mul_zero] at e
  rw [Int.one_mul] at e2
  exact e2.symm.trans e
/-! ### Fermat -/
theorem perm_onto : ∀ (n : Nat) (l : List Nat), l.length = n → (∀ k, k < n → k ∈ l) → l.Perm (List.range n)
  | 0, l, hl, _ => by
    rw [List.eq_nil_of_length_eq_zero hl]
    exact .refl _
  | n + 1, l, hl, h => by
    have hn : n ∈ l := h n (by omega)
    have ih := perm_onto n (l.erase n) (by rw [List.length_erase_of_mem hn]; omega)
      fun k hk => (List.mem_erase_of_ne (by omega)).2 (h k (by omega))
    rw [List.range_succ]
    exact (List.perm_cons_erase hn).trans
      ((ih.cons n).trans (List.perm_append_singleton n _).symm)
def prodL (f : Nat → Int) : List Nat → Int
  | [] => 1
  | a :: l => f a * prodL f l
theorem prodL_perm {f : Nat → Int} {l m : List Nat} (h : l.Perm m) : prodL f l = prodL f m := by
  induction h with
  | nil => rfl
  | cons x _ ih => simp only [prodL, ih]
  | swap x y l => simp only [prodL]; grind
  | trans _ _ h1 h2 => exact h1.trans h2
theorem prodL_map {p x : Int} {f : Nat → Int} {g : Nat → Nat} : ∀ l : List Nat, (∀ a ∈ l, Cg p (f (g a)) (x * f a)) → Cg p (prodL f (l.map g)) (x ^ l.length * prodL f l)
  | [], _ => Cg.of_eq (by show (1 : Int) = x ^ 0 * 1; rw [Int.pow_zero]; rfl)
  | a :: l, h => by
    have ih := prodL_map l fun b hb => h b (List.mem_cons_of_mem _ hb)
    have h0 := h a List.mem_cons_self
    have := h0.mul ih
    refine this.trans (Cg.of_eq ?_)
    show x * f a * (x ^ l.length * prodL f l) = x ^ (l.length + 1) * (f a * prodL f l)
    rw [Int.pow_succ]
    grind
theorem prodL_unit {p : Int} (P : Prm p) {f : Nat → Int} : ∀ l : List Nat, (∀ a ∈ l, ¬ Cg p (f a) 0) → ¬ Cg p (prodL f l) 0
  | [], _, z => by
    have := cg_zero.mp z
    rw [show prodL f [] = 1 from rfl, one_mod P] at this
    omega
  | a :: l, h, z => prodL_unit P l (fun b hb => h b (List.mem_cons_of_mem _ hb)) (prm_mul P z (h a List.mem_cons_self))
theorem fermat {p x : Int} (P : Prm p) (hx : x % p ≠ 0) : Cg p (x ^ (p.toNat - 1)) 1 := by
  have p1 := P.1
  let f : Nat → Int := fun k => (k : Int) + 1
  let g : Nat → Nat := fun k => ((x * f k) % p - 1).toNat
  have fu : ∀ a ∈ List.range (p.toNat - 1), ¬ Cg p (f a) 0 := fun a ha z => by
    have := List.mem_range.mp ha
    have := cg_zero.mp z
    rw [Int.emod_eq_of_lt (by show (0 : Int) ≤ (a : Int) + 1; omega) (by show (a : Int) + 1 < p; omega)] at this
    have : (a : Int) + 1 = 0 := this
    omega
  have hg : ∀ a ∈ List.range (p.toNat - 1), Cg p (f (g a)) (x * f a) := fun a ha => by
    have n0 : (x * f a) % p ≠ 0 := fun z => fu a ha (prm_mul P (cg_zero.mpr z) (fun y => hx (cg_zero.mp y)))
    have h0 := Int.emod_nonneg (x * f a) (show p ≠ 0 by omega)
    have e : f (g a) = (x * f a) % p := by
      show (((x * f a) % p - 1).toNat : Int) + 1 = _
      omega
    rw [e]
    exact Cg.mod _ _
  have onto : ∀ k, k < p.toNat - 1 → k ∈ (List.range (p.toNat - 1)).map g := fun k hk => by
    obtain ⟨r, _, _, hr⟩ := inv_ex P hx
    have ku : ¬ Cg p (f k) 0 := fu k (List.mem_range.mpr hk)
    have ru : ¬ Cg p r 0 := fun z => by
      have := z.mul (Cg.refl p x)
      have := cg_zero.mp (this.trans (Cg.of_eq (Int.zero_mul x)))
      omega
    have n0 : (r * f k) % p ≠ 0 := fun z => ku (prm_mul P (cg_zero.mpr z) ru)
    have h0 := Int.emod_nonneg (r * f k) (show p ≠ 0 by omega)
    have h1 := Int.emod_lt_of_pos (r * f k) (show 0 < p by omega)
    refine List.mem_map.mpr ⟨((r * f k) % p - 1).toNat, List.mem_range.mpr (by omega), ?_⟩
    have e : f ((r * f k) % p - 1).toNat = (r * f k) % p := by
      show (((r * f k) % p - 1).toNat : Int) + 1 = _
      omega
    have c : Cg p (x * f ((r * f k) % p - 1).toNat) (f k) := by
      rw [e]
      refine ((Cg.refl p x).mul (Cg.mod p (r * f k))).trans ?_
      have := (cg_one P hr).mul (Cg.refl p (f k))
      rw [Int.one_mul] at this
      exact (Cg.of_eq (by grind)).trans this
    have := Cg.iff.mp c
    rw [Int.emod_eq_of_lt (show 0 ≤ f k by show (0 : Int) ≤ (k : Int) + 1; omega) (by show (k : Int) + 1 < p; omega)] at this
    show ((x * f _) % p - 1).toNat = k
    rw [this]
    show ((k : Int) + 1 - 1).toNat = k
    omega
  have pm := perm_onto (p.toNat - 1) ((List.range (p.toNat - 1)).map g) (by simp) onto
  have e1 := prodL_map (p := p) (x := x) (f := f) (g := g) _ hg
  rw [prodL_perm pm, List.length_range] at e1
  have u := prodL_unit P _ fu
  have z : Cg p (prodL f (List.range (p.toNat - 1)) * (x ^ (p.toNat - 1) - 1)) 0 := by
    have := e1.symm.sub (Cg.refl p (prodL f (List.range (p.toNat - 1))))
    refine (Cg.of_eq (by grind)).trans (this.trans (Cg.of_eq (by omega)))
  have := (prm_mul P z u).add (Cg.refl p 1)
  refine (Cg.of_eq (by omega)).trans (this.trans (Cg.of_eq (by omega)))
theorem fermat_inv {p x : Int} (P : Prm p) (hx : x % p ≠ 0) : (x ^ (p - 2).toNat % p * x) % p = 1 := by
  have p1 := P.1
  have e : (p - 2).toNat + 1 = p.toNat - 1 := by omega
  have c : Cg p (x ^ (p - 2).toNat % p * x) 1 := by
    refine ((Cg.mod p _).mul (Cg.refl p x)).trans ?_
    have e2 : x ^ (p - 2).toNat * x = x ^ (p.toNat - 1) := by rw [← e, Int.pow_succ]
    rw [e2]
    exact fermat P hx
  rw [Cg.iff.mp c, one_mod P]
end K1

set_option maxRecDepth 100000
namespace K1
open K0
/-! ### coefficient lists, the lowest first -/
/-- without the zeros at the end -/
def trimZ : List Int → List Int
  | [] => []
  | a :: l => match trimZ l with
    | [] => if a = 0 then [] else [a]
    | b :: r => a :: b :: r
theorem trimZ_cons (a : Int) (l : List Int) : trimZ (a :: l) = if trimZ l = [] ∧ a = 0 then [] else a :: trimZ l := by
  show (match trimZ l with | [] => if a = 0 then [] else [a] | b :: r => a :: b :: r) = _
  cases e : trimZ l with
  | nil => by_cases h : a = 0 <;> simp [h]
  | cons b r => simp
theorem trimZ_zeros (l : List Int) (k : Nat) : trimZ (l ++ List.replicate k 0) = trimZ l := by
  induction l with
  | nil =>
    rw [List.nil_append]
    induction k with
    | zero => rfl
    | succ k ih =>
      rw [List.replicate_succ, trimZ_cons, ih]
      simp [trimZ]
  | cons a l ih => rw [List.cons_append, trimZ_cons, trimZ_cons, ih]
theorem trimZ_last {l : List Int} {z : Int} (h : z ≠ 0) : trimZ (l ++ [z]) = l ++ [z] := by
  induction l with
  | nil => simp [trimZ, h]
  | cons a l ih =>
    rw [List.cons_append, trimZ_cons, ih]
    simp
/-- what a loop that drops zeros at the end leaves -/
theorem trimZ_take {l : List Int} {n : Nat} (hn : n ≤ l.length) (h0 : ∀ i, n ≤ i → i < l.length → l[i]? = some 0) (h1 : n = 0 ∨ l.getD (n - 1) 0 ≠ 0) : trimZ l = l.take n := by
  have e : l = l.take n ++ List.replicate (l.length - n) 0 := by
    apply List.ext_getElem?
    intro i
    by_cases c : i < n
    · rw [List.getElem?_append_left (by rw [List.length_take]; omega), List.getElem?_take_of_lt c]
    · rw [List.getElem?_append_right (by rw [List.length_take]; omega), List.length_take]
      by_cases d : i < l.length
      · rw [h0 i (by omega) d, List.getElem?_replicate, if_pos (by omega)]
      · rw [List.getElem?_eq_none (by omega), List.getElem?_eq_none (by rw [List.length_replicate]; omega)]
  have e2 : trimZ l = trimZ (l.take n) := by
    rw (occs := .pos [1]) [e]
    exact trimZ_zeros _ _
  rw [e2]
  cases n with
  | zero => rfl
  | succ n =>
    have hl : n < l.length := by omega
    have e3 : l.take (n + 1) = l.take n ++ [l[n]] := by
      rw [List.take_add_one, List.getElem?_eq_getElem hl]
      rfl
    rw [e3]
    refine trimZ_last fun z => ?_
    rcases h1 with h1 | h1
    · omega
    · apply h1
      rw [Nat.add_sub_cancel, List.getD_eq_getElem?_getD, List.getElem?_eq_getElem hl]
      exact z
theorem trimZ_len (l : List Int) : (trimZ l).length ≤ l.length := by
  induction l with
  | nil => exact Nat.le_refl _
  | cons a l ih =>
    rw [trimZ_cons]
    split
    · exact Nat.zero_le _
    · rw [List.length_cons, List.length_cons]
      omega
theorem trimZ_idem (l : List Int) : trimZ (trimZ l) = trimZ l := by
  induction l with
  | nil => rfl
  | cons a l ih =>
    rw [trimZ_cons]
    by_cases c : trimZ l = [] ∧ a = 0
    · rw [if_pos c]
      rfl
    · rw [if_neg c, trimZ_cons, ih, if_neg c]
/-- l is its own list without zeros at the end -/
theorem trimZ_mem {l : List Int} : ∀ z ∈ trimZ l, z ∈ l := by
  induction l with
  | nil => intro z h; exact h
  | cons a l ih =>
    intro z h
    rw [trimZ_cons] at h
    split at h
    · cases h
    · rcases List.mem_cons.mp h with rfl | h
      · exact List.mem_cons_self
      · exact List.mem_cons_of_mem _ (ih z h)
def red (p : Int) (l : List Int) : List Int := l.map (· % p)
def can (p : Int) (l : List Int) : List Int := trimZ (red p l)
theorem red_red (p : Int) (l : List Int) : red p (red p l) = red p l := by
  unfold red
  rw [List.map_map]
  exact List.map_congr_left fun a _ => Int.emod_emod_of_dvd a (Int.dvd_refl p)
theorem red_of {p : Int} {l : List Int} (h : ∀ a ∈ l, a % p = a) : red p l = l := by
  unfold red
  conv => rhs; rw [← List.map_id l]
  exact List.map_congr_left fun a ha => h a ha
theorem red_fix {p : Int} {l : List Int} : ∀ a ∈ red p l, a % p = a := fun a ha => by
  obtain ⟨b, _, rfl⟩ := List.mem_map.mp ha
  exact Int.emod_emod_of_dvd b (Int.dvd_refl p)
theorem can_red (p : Int) (l : List Int) : can p (red p l) = can p l := by
  unfold can
  rw [red_red]
theorem red_can (p : Int) (l : List Int) : red p (can p l) = can p l := red_of fun a ha => red_fix a (trimZ_mem a ha)
theorem can_can (p : Int) (l : List Int) : can p (can p l) = can p l := by
  show trimZ (red p (can p l)) = _
  rw [red_can]
  exact trimZ_idem _
theorem can_zeros (p : Int) (l : List Int) (k : Nat) : can p (l ++ List.replicate k 0) = can p l := by
  unfold can red
  rw [List.map_append, List.map_replicate, Int.zero_emod]
  exact trimZ_zeros _ _
theorem can_len (p : Int) (l : List Int) : (can p l).length ≤ l.length := by
  have := trimZ_len (red p l)
  unfold red at this
  rw [List.length_map] at this
  exact this
theorem red_ext {p : Int} {l m : List Int} (hl : l.length = m.length) (h : ∀ i, i < l.length → Cg p (l.getD i 0) (m.getD i 0)) : red p l = red p m := by
  unfold red
  apply List.ext_getElem?
  intro i
  rw [List.getElem?_map, List.getElem?_map]
  by_cases c : i < l.length
  · have := h i c
    rw [List.getD_eq_getElem?_getD, List.getD_eq_getElem?_getD, List.getElem?_eq_getElem c, List.getElem?_eq_getElem (hl ▸ c)] at this
    rw [List.getElem?_eq_getElem c, List.getElem?_eq_getElem (hl ▸ c)]
    exact congrArg some (Cg.iff.mp this)
  · rw [List.getElem?_eq_none (by omega), List.getElem?_eq_none (by omega)]
/-- the last one of a list without zeros at the end is not 0 -/
theorem can_last {p : Int} {l : List Int} {n : Nat} (h : (can p l).length = n + 1) : (can p l).getD n 0 ≠ 0 := by
  have key : ∀ m : List Int, trimZ m = m → m.length = n + 1 → m.getD n 0 ≠ 0 := by
    clear h
    induction n with
    | zero =>
      intro m h hl
      match m, hl with
      | [a], _ =>
        intro z
        have z' : a = 0 := z
        subst z'
        cases h
    | succ n ih =>
      intro m h hl
      match m, hl with
      | a :: r, hl =>
        rw [trimZ_cons] at h
        have hr : r.length = n + 1 := by
          rw [List.length_cons] at hl
          omega
        split at h
        · cases h
        · exact ih r (List.cons.inj h).2 hr
  exact key _ (trimZ_idem _) h
/-! ### worths -/
def ev : List Int → Int → Int
  | [], _ => 0
  | c :: l, x => c + x * ev l x
theorem ev_snoc (l : List Int) (c x : Int) : ev (l ++ [c]) x = ev l x + x ^ l.length * c := by
  induction l with
  | nil =>
    show c + x * 0 = 0 + x ^ 0 * c
    rw [Int.pow_zero]
    omega
  | cons a l ih =>
    show a + x * ev (l ++ [c]) x = a + x * ev l x + x ^ (l.length + 1) * c
    rw [ih, Int.pow_succ]
    grind
theorem ev_red (p : Int) (l : List Int) (x : Int) : Cg p (ev (red p l) x) (ev l x) := by
  induction l with
  | nil => exact Cg.refl _ _
  | cons a l ih => exact (Cg.mod p a).add ((Cg.refl p x).mul ih)
theorem ev_trim (l : List Int) (x : Int) : ev (trimZ l) x = ev l x := by
  induction l with
  | nil => rfl
  | cons a l ih =>
    rw [trimZ_cons]
    split
    · rename_i c
      have : ev l x = 0 := by
        rw [← ih, c.1]
        rfl
      show 0 = a + x * ev l x
      rw [this, c.2]
      omega
    · show a + x * ev (trimZ l) x = _
      rw [ih]
      rfl
theorem ev_can (p : Int) (l : List Int) (x : Int) : Cg p (ev (can p l) x) (ev l x) := by
  unfold can
  rw [ev_trim]
  exact ev_red p l x
theorem ev_x {p : Int} (l : List Int) {x y : Int} (h : Cg p x y) : Cg p (ev l x) (ev l y) := by
  induction l with
  | nil => exact Cg.refl _ _
  | cons a l ih => exact (Cg.refl p a).add (h.mul ih)
end K1

set_option maxRecDepth 100000
set_option maxHeartbeats 4000000
/-! operators, ==, !=, repr of instances whose class has a def for them -/
namespace OV
open PySem PySem.Spec PyProof.Rows L2
section
variable {X : Cx} {CX : CXT} {C g : Addr} {n : Nat} {sp : Sp} {E : XK}
/-- x op y, both instances of C -/
def rBin (C : Addr) (sp : Sp) (E : XK) : R2 := fun x y H Q => ∃ (a b dx dy : Addr) (fs gs : List (Str × V)), x = .ref a ∧ y = .ref b ∧ H a = some (.ins C dx fs) ∧ H b = some (.ins C dy gs) ∧ sp [x, y] H Q E
theorem op_bin {op : Operator} (hc : PySem.W.selfFirst X.K C = true) (hs : PySem.W.findIn X.K (.ref C) (PySem.dunder op.info.2) = some (some (.ref g))) (hf : PySem.W.isFn X.K (.ref g) = true) (F : FnR X.prog X.w X.K X.mg X.base CX n g sp)
    (hr : Room n X.A) (hx : Passes CX X E) : OpR X (binaryOp op) (rBin C sp E) := by
  intro pins s σ H x y v u Q I rx ry h
  obtain ⟨a, b, dx, dy, fs, gs, rfl, rfl, ha, hb, q⟩ := h
  cases (show v = Value.ref a from rx)
  cases (show u = Value.ref b from ry)
  obtain ⟨ox, od, J, _⟩ := StX.insC_at I (.inr ⟨dx, fs, ha⟩)
  obtain ⟨oy, oe, J', _⟩ := StX.insC_at I (.inr ⟨dy, gs, hb⟩)
  obtain ⟨m, hF⟩ := I.fr
  refine PySem.W.binop_K hF I.ok.mod.kin J J'.type hc hs hf ?_
  refine wpAny_mono (wpAny_call (run_fnR (us := [.ref a, .ref b]) (vs := [.ref a, .ref b]) F hr hx I (.cons rfl (.cons rfl .nil)) q)) (fun w s' z => ?_) fun _ _ x => x
  obtain ⟨z', H', I', rz, qz⟩ := z
  exact SlX.cmpback rz ⟨z', H', I', rz, qz⟩
/-- x == y, x an instance of C, y anything that is no instance of a class below -/
def rEqO (K : PySem.W.Frag) (C : Addr) (sp : Sp) (E : XK) : R2 := fun x y H Q => ∃ (a dx : Addr) (fs : List (Str × V)) (t : Value), x = .ref a ∧ H a = some (.ins C dx fs) ∧ TyX K H y t ∧ PySem.W.notFirst K C t = true ∧ sp [x, y] H Q E
theorem op_eqO {op : CmpOp} (hop : ∀ a b, compareOp op a b = richCompare op a b) (hs : PySem.W.findIn X.K (.ref C) (cmpInfo op).2.1 = some (some (.ref g))) (hf : PySem.W.isFn X.K (.ref g) = true) (F : FnR X.prog X.w X.K X.mg X.base CX n g sp)
    (hr : Room n X.A) (hx : Passes CX X E) : OpR X (compareOp op) (rEqO X.K C sp E) := by
  intro pins s σ H x y v u Q I rx ry h
  obtain ⟨a, dx, fs, t, rfl, ha, ty, hn, q⟩ := h
  cases (show v = Value.ref a from rx)
  obtain ⟨ox, od, J, _⟩ := StX.insC_at I (.inr ⟨dx, fs, ha⟩)
  obtain ⟨PH, kx, ph, _⟩ := kit_of I ry ty
  obtain ⟨m, hF⟩ := I.fr
  rw [hop]
  refine PySem.W.cmp_K (op := op) (tb := t) hr.units0 hF I.ok.mod.kin J (kx.ty _ _ I.kIn ph) hn hs hf ?_
  refine wpAny_mono (wpAny_call (run_fnR (us := [.ref a, u]) (vs := [.ref a, y]) F hr hx I (.cons rfl (.cons ry .nil)) q)) (fun w s' z => ?_) fun _ _ x => x
  obtain ⟨z', H', I', rz, qz⟩ := z
  exact SlX.cmpback rz ⟨z', H', I', rz, qz⟩
/-- repr(x) -/
def rRepr (C : Addr) (sp : Sp) (E : XK) : List V → Hp → VK → Prop := fun xs H Q => ∃ (a dx : Addr) (fs : List (Str × V)), xs = [.ref a] ∧ H a = some (.ins C dx fs) ∧ sp [.ref a] H (fun z H' => ∃ t, z = .str t ∧ Q z H') E
theorem call_repr (hs : PySem.W.findIn X.K (.ref C) "__repr__" = some (some (.ref g))) (hf : PySem.W.isFn X.K (.ref g) = true) (F : FnR X.prog X.w X.K X.mg X.base CX n g sp)
    (hr : Room (n + 1) X.A) (hx : Passes CX X E) : CallR X (.builtin "repr") (rRepr C sp E) := by
  intro pins s σ H xs us Q I r h
  obtain ⟨a, dx, fs, rfl, ha, q⟩ := h
  obtain ⟨u, rfl, ru⟩ := r.one
  cases (show u = Value.ref a from ru)
  obtain ⟨ox, od, J, _⟩ := StX.insC_at I (.inr ⟨dx, fs, ha⟩)
  obtain ⟨m, hF⟩ := I.fr
  have hr2 : Room n X.A.in1 := Room.in1 hr
  refine PySem.W.repr_K hr2.units0 hF I.ok.mod.kin J hs hf ?_
  refine wpAny_mono (wpAny_call (SlX.run_at (us := [.ref a]) (ws := [.ref a]) F hr2 I.env0.in1 hx I (.cons rfl .nil) q)) (fun w s' z => ?_) fun _ _ x => x
  obtain ⟨z', H', I', rz, t, ez, qz⟩ := z
  subst ez
  obtain ⟨tk, e⟩ := (show ∃ tk, w = Value.str t tk from rz)
  cases e
  exact ⟨.str t, H', I', ⟨tk, rfl⟩, qz⟩
end
end OV

set_option maxRecDepth 100000
set_option maxHeartbeats 4000000
/-! x != y where the class has its own == and no own != -/
namespace OV
open PySem PySem.Spec PyProof.Rows L2
section
variable {prog : Program} {w : World} {A : Around} {E : Value → Shared → Prop} {s : Shared} {K : PySem.W.Frag} {x C f L : Addr} {ox : Obj} {od : Option Obj} {h₀ : Heap} {m : Str → Option Value}
theorem bound_ne {M : Model} {args : List Value} {Q : Option Value → Shared → Prop} (X : K.In s.heap) (I : PySem.W.InstAt s.heap x ox C od) (hn : PySem.W.findIn K (.ref C) "__ne__" = some (some (.builtin "object.__ne__")))
    (h : wpAny M A (call (.builtin "object.__ne__") (.ref x :: args)) (fun v => Q (some v)) E s) : wpAny M A (callSpecialIfBound? (.ref x) "__ne__" args) Q E s := by
  have fin : wpAny M A (call (.builtin "object.__ne__") ([.ref x] ++ args) >>= fun v => pure (some v)) Q E s :=
    wpAny_bind (wpAny_mono h (fun v s' z => wpAny_pure z) fun _ _ z => z)
  simp only [callSpecialIfBound?, bindSpecialIfBound?]
  refine wpAny_holding (wpAny_bind (wpAny_bind (wpAny_bind (I.type.here
    ((PySem.W.looks_findIn X hn).here ?_)))))
  refine wpAny_bind (wpAny_askSetting
    (wpAny_ite ?_))
  split
  · exact wpAny_bind (wpAny_of_eq (F.cmp_object.ne.bind _)
      (wpAny_pure (by exact fin)))
  · exact wpAny_tryCatch (wpAny_bind (wpAny_of_eq (F.cmp_object.ne.bind _)
      (wpAny_pure (by exact fin))))
theorem entry_ne {b : Value} {Q : Fin → Shared → Prop} (hu : A.units < cLine) (X : K.In s.heap) (I : PySem.W.InstAt s.heap x ox C od) (hs : PySem.W.findIn K (.ref C) "__eq__" = some (some (.ref f))) (hf : PySem.W.isFn K (.ref f) = true)
    (h : wpAny (model prog w) A (call (.ref f) [.ref x, b]) (fun v s' => ∃ r, v = .bool r ∧ Q (.done (.ret (.bool (!r)))) s') E s) :
    wpAny (model prog w) A (Builtin.«object.__ne__» ⟨[.ref x, b], []⟩) Q E s := by
  have step : wpAny (model prog w) A (callSpecialIfBound? (.ref x) "__eq__" [b]) (fun o s' => ∃ r, o = some (.bool r) ∧ Q (.done (.ret (.bool (!r)))) s') E s :=
    PySem.W.ifBound_K X I hs hf (wpAny_mono h (fun v s' ⟨r, e, q⟩ => ⟨r, by rw [e], q⟩) fun _ _ z => z)
  unfold Builtin.«object.__ne__»
  repeat (first
    | with_reducible refine wpAny_cRoomFor hu ?_
    | (refine wpAny_bind (m := callSpecialIfBound? (.ref x) (Str.ofString "__eq__") [b]) (wpAny_mono step (fun o s' z => ?_) fun _ _ z => z); obtain ⟨r, rfl, q⟩ := z)
    | exact wpAny_bind (wpAny_truthy_bool (wpAny_pure q))
    | exact wpAny_pure q
    | wp_step)
theorem rc_ne {b tb : Value} {Q : Value → Shared → Prop} (hu : A.units + 1 < cLine) (F₀ : Fr h₀ L s.heap m) (X₀ : K.In h₀) (I : PySem.W.InstAt s.heap x ox C od) (hb : PySem.W.Looks (model prog w) s.heap (typeOf b) tb) (hn : PySem.W.notFirst K C tb = true)
    (hm : PySem.W.mroIn K C (.type "object") = some true) (hne : PySem.W.findIn K (.ref C) "__ne__" = some (some (.builtin "object.__ne__"))) (hs : PySem.W.findIn K (.ref C) "__eq__" = some (some (.ref f))) (hf : PySem.W.isFn K (.ref f) = true)
    (h : wpAny (model prog w) A.in1 (call (.ref f) [.ref x, b]) (fun v s' => ∃ r, v = .bool r ∧ Q (.bool (!r)) s') E s) : wpAny (model prog w) A (richCompare .NotEq (.ref x) b) Q E s := by
  have X := X₀.keeps F₀.keep
  have hu1 : A.in1.units < cLine := hu
  have one : wpAny (model prog w) A (tryCompare (.ref x) "__ne__" b) (fun r s' => ∃ v, r = some v ∧ Q v s') E s := by
    unfold tryCompare
    refine wpAny_bind (bound_ne X I hne ?_)
    refine wpAny_call (codeAny_call_builtin F.cmp_object.ne.plain F.cmpEntry_ne
      (PySem.W.check_slot F.cmpKind_ne F.cmpSplit_ne (I.type.andThen (PySem.W.looks_mroIn X hm)) (F.cmpArgs_ne _ _) ?_))
    refine entry_ne (A := A.in1) hu1 X I hs hf (wpAny_mono h (fun v s' ⟨r, e, q⟩ => ⟨r, e, ?_⟩) fun _ _ z => z)
    exact wpAny_pure ⟨_, rfl, q⟩
  have e1 : (cmpInfo CmpOp.NotEq) = ("!=", Str.ofString "__ne__", Str.ofString "__ne__") := rfl
  unfold richCompare
  rw [e1]
  simp only [oneThing_ref]
  refine wpAny_holding (wpAny_bind (wpAny_cRoomFor (Nat.lt_of_succ_lt hu) ?_))
  refine wpAny_bind (I.type.here (wpAny_bind
    (hb.here ?_)))
  split
  · rename_i q
    have e : PySem.W.subIn K tb (.ref C) = some false := by
      rcases Bool.or_eq_true_iff.mp hn with e | e
      · rw [beq_iff_eq.mp e] at q
        simp at q
      · exact beq_iff_eq.mp e
    refine wpAny_bind ((PySem.W.looks_subIn X e).here ?_)
    simp only [Bool.false_eq_true, if_false]
    refine wpAny_bind (m := tryCompare (.ref x) (Str.ofString "__ne__") b) (wpAny_mono one (fun r s' z => ?_) fun _ _ z => z)
    obtain ⟨v, rfl, hq⟩ := z
    exact wpAny_pure hq
  · refine wpAny_bind (wpAny_pure ?_)
    simp only [Bool.false_eq_true, if_false]
    refine wpAny_bind (m := tryCompare (.ref x) (Str.ofString "__ne__") b) (wpAny_mono one (fun r s' z => ?_) fun _ _ z => z)
    obtain ⟨v, rfl, hq⟩ := z
    exact wpAny_pure hq
end
section
variable {X : Cx} {CX : CXT} {C g : Addr} {n : Nat} {sp : Sp} {E : XK}
def rNeO (K : PySem.W.Frag) (C : Addr) (sp : Sp) (E : XK) : R2 := fun x y H Q => ∃ (a dx : Addr) (fs : List (Str × V)) (t : Value), x = .ref a ∧ H a = some (.ins C dx fs) ∧ TyX K H y t ∧ PySem.W.notFirst K C t = true ∧ sp [x, y] H (fun z H' => ∃ r, z = .bl r ∧ Q (.bl (!r)) H') E
theorem op_neO (hm : PySem.W.mroIn X.K C (.type "object") = some true) (hne : PySem.W.findIn X.K (.ref C) "__ne__" = some (some (.builtin "object.__ne__"))) (hs : PySem.W.findIn X.K (.ref C) "__eq__" = some (some (.ref g))) (hf : PySem.W.isFn X.K (.ref g) = true)
    (F : FnR X.prog X.w X.K X.mg X.base CX n g sp) (hr : Room (n + 1) X.A) (hx : Passes CX X E) : OpR X (compareOp .NotEq) (rNeO X.K C sp E) := by
  intro pins s σ H x y v u Q I rx ry h
  obtain ⟨a, dx, fs, t, rfl, ha, ty, hn, q⟩ := h
  cases (show v = Value.ref a from rx)
  obtain ⟨ox, od, J, _⟩ := StX.insC_at I (.inr ⟨dx, fs, ha⟩)
  obtain ⟨PH, kx, ph, _⟩ := kit_of I ry ty
  obtain ⟨m, hF⟩ := I.fr
  have hr2 : Room n X.A.in1 := Room.in1 hr
  have h0 : X.A.units + 1 < cLine := hr2.units0
  show wpAny _ _ (richCompare .NotEq (.ref a) u) _ _ _
  refine rc_ne h0 hF I.ok.mod.kin J (kx.ty _ _ I.kIn ph) hn hm hne hs hf ?_
  refine wpAny_mono (wpAny_call (SlX.run_at (us := [.ref a, u]) (ws := [.ref a, y]) F hr2 I.env0.in1 hx I (.cons rfl (.cons ry .nil)) q)) (fun w s' z => ?_) fun _ _ x => x
  obtain ⟨z', H', I', rz, r, ez, qz⟩ := z
  subst ez
  cases (show w = Value.bool r from rz)
  exact ⟨r, rfl, .bl (!r), H', I', rfl, qz⟩
end
end OV

set_option maxRecDepth 100000
set_option maxHeartbeats 4000000
/-! o.m(k = v, ..) of an instance; C.m(..) where m is a staticmethod of the class C -/
namespace OV
open PySem PySem.Spec PyProof.Rows L2
/-- C.m is a staticmethod: its record at p, its def at g -/
structure SMet (K : PySem.W.Frag) (C : Addr) (mc : Value) (m : Str) (p g : Addr) : Prop where
  ty : PySem.W.typeIn K (.ref C) = some mc
  rd : PySem.W.readsIn K C mc = true
  ga : PySem.W.specialIn K (.ref C) "__getattribute__" = some (some (.builtin "type.__getattribute__"))
  at_ : PySem.W.findCls K (.ref C) mc m = some (.get (.builtin "staticmethod.__get__") (.ref p) .none (.ref C))
  rc : ∃ rest, PySem.W.recIn K p "staticmethod" = some (.ref g :: rest)
  kp : PySem.W.keepIn K (.ref g) = true
/-- o.m(k = v, ..) -/
def tMethK (C : Addr) (m : Str) (j : Nat) (sp : Sp) (gV : List V → List V → List V) (E : XK) (ta : TE) (tk : TA) : TE := fun σ H Q => ta σ H fun x H1 => ∃ (a dx : Addr) (fs : List (Str × V)), x = .ref a ∧ H1 a = some (.ins C dx fs) ∧ fs.lookup m = none ∧
  tk σ H1 fun zs H2 => zs.length = j ∧ sp (gV [.ref a] zs) H2 Q E
/-- C.m(e, .., k = v, ..) -/
def tSt (C : Addr) (n j : Nat) (sp : Sp) (gV : List V → List V → List V) (E : XK) (ta : TE) (t tk : TA) : TE := fun σ H Q => ta σ H fun x H1 => x = .ref C ∧ t σ H1 fun vs H2 => tk σ H2 fun zs H3 => vs.length = n ∧ zs.length = j ∧ sp (gV vs zs) H3 Q E
section
variable {X : Cx} {CX : CXT} {k n : Nat} {C f p : Addr} {fd : FuncData} {ps ks : List Str} {sp : Sp} {E : XK} {o e : Expr} {es : List Expr} {m : Str} {pos apos : Pos} {kws : List Keyword} {ta : TE} {t tk : TA} {g : List Value → List Value → List Value} {gV : List V → List V → List V} {mc : Value}
theorem pe_methK {pl : Sem Bool} (he : PE X o ta) (c : Cls X.K C) (hm : Meth X.K C m f) (F : FnOk X.prog X.w X.K X.mg X.base CX k f fd ps sp) (hr : Room k X.A) (hb : KBn X.K fd ps 1 ks g gV) (hx : Passes CX X E) (hkw : PK X kws tk)
    (hall : (backToKw pos (keywordEach kws X.env)).all (·.1.isSome) = true := by rfl) (hks : (backToKw pos (keywordEach kws X.env)).filterMap (·.1) = ks := by rfl)
    (hpl : ((backTo pos (starEach [] X.env)).any (·.1) || (backToKw pos (keywordEach kws X.env)).any (·.1.isNone)) = false := by rfl)
    (ht : eval (.Call (.Attribute o m apos) [] kws pos) X.env = (do
      let ov ← eval o X.env
      standAt apos.atName
      let (f, first) ← holding [ov] (getMethod ov m pl)
      callWith pos f first (backTo pos (starEach [] X.env)) (backToKw pos (keywordEach kws X.env))) := by rfl) :
    PE X (.Call (.Attribute o m apos) [] kws pos) (tMethK C m ks.length sp gV E ta tk) := by
  refine ⟨fun pins s σ H Q I h => ?_⟩
  refine PySem.W.methodCall_KW (pl := pl) (thn (he.run pins s σ H _ I h)
    fun u s1 ⟨x, H1, I1, rx, a, dx, fs, ex, ea, l, q⟩ => ?_) ht
  subst ex
  obtain rfl : u = Value.ref a := rx
  refine getmeth_ok I1 ea c hm l ?_
  refine PySem.W.callWith_KW0 (first := [.ref a]) (h₀ := X.base) I.ok.mod.kin hm.kp hall ?_ hpl
  refine thn (hkw.run pos pins s1 σ H1 _ I1 q) fun ws s2 ⟨zs, H2, I2, rz, l2, q2⟩ => ⟨I2.kIn, ?_⟩
  rw [hks]
  exact run_fnN (us := [.ref a]) (vs := [.ref a]) F hr hb hx I2 (.cons rfl .nil) rz rfl l2 q2
theorem getst {pl : Sem Bool} {A : Around} {E' : Value → Shared → Prop} {pins : List (Addr × Obj)} {σ : L2.St} {H : Hp} {s : Shared} {g : Addr} {Q : Value × List Value → Shared → Prop} (I : Inv X pins σ H s) (c : SMet X.K C mc m p g)
    (h : ∀ s', Inv X pins σ H s' → Q (.ref g, []) s') : wpAny (model X.prog X.w) A (getMethod (.ref C) m pl) Q E' s := by
  obtain ⟨mm, hF⟩ := I.fr
  obtain ⟨rest, hp⟩ := c.rc
  refine PySem.W.method_of_cls hF I.ok.mod.kin c.ga ?_
  exact PySem.W.cls_sm hF I.ok.mod.kin c.ty c.rd c.at_ hp rfl (h _ (I.tok _))
theorem pe_st {pl : Sem Bool} {q : Addr} (he : PE X o ta) (c : SMet X.K C mc m p q) (F : FnOk X.prog X.w X.K X.mg X.base CX k q fd ps sp) (hr : Room k X.A) (hb : KBn X.K fd ps n ks g gV) (hx : Passes CX X E) (ha : PA X (e :: es) t) (hkw : PK X kws tk)
    (hall : (backToKw pos (keywordEach kws X.env)).all (·.1.isSome) = true := by rfl) (hks : (backToKw pos (keywordEach kws X.env)).filterMap (·.1) = ks := by rfl)
    (hst : starEach (e :: es) X.env = (false, eval e X.env) :: starEach es X.env := by rfl)
    (hpl : ((backTo pos (starEach (e :: es) X.env)).any (·.1) || (backToKw pos (keywordEach kws X.env)).any (·.1.isNone)) = false := by rfl)
    (ht : eval (.Call (.Attribute o m apos) (e :: es) kws pos) X.env = (do
      let ov ← eval o X.env
      standAt apos.atName
      let (f, first) ← holding [ov] (getMethod ov m pl)
      callWith pos f first (backTo pos (starEach (e :: es) X.env)) (backToKw pos (keywordEach kws X.env))) := by rfl) :
    PE X (.Call (.Attribute o m apos) (e :: es) kws pos) (tSt C n ks.length sp gV E ta t tk) := by
  refine ⟨fun pins s σ H Q I h => ?_⟩
  refine PySem.W.methodCall_KW (pl := pl) (thn (he.run pins s σ H _ I h)
    fun u s1 ⟨x, H1, I1, rx, ex, y⟩ => ?_) ht
  subst ex
  obtain rfl : u = Value.ref C := rx
  refine getst I1 c fun s2 I2 => ?_
  refine PySem.W.callWith_KW (first := []) (h₀ := X.base) I.ok.mod.kin c.kp hall (thn (ha.run pos pins s2 σ H1 _ I2 y)
    fun us s3 ⟨vs, H2, I3, r, y2⟩ => ?_) hpl hst
  refine thn (hkw.run pos pins s3 σ H2 _ I3 y2) fun ws s4 ⟨zs, H3, I4, rz, l1, l2, y3⟩ => ⟨I4.kIn, ?_⟩
  rw [hks]
  exact run_fnN F hr hb hx I4 r rz l1 l2 y3
theorem pe_st0 {pl : Sem Bool} {q : Addr} (he : PE X o ta) (c : SMet X.K C mc m p q) (F : FnOk X.prog X.w X.K X.mg X.base CX k q fd ps sp) (hr : Room k X.A) (hb : KBn X.K fd ps 0 ks g gV) (hx : Passes CX X E) (hkw : PK X kws tk)
    (hall : (backToKw pos (keywordEach kws X.env)).all (·.1.isSome) = true := by rfl) (hks : (backToKw pos (keywordEach kws X.env)).filterMap (·.1) = ks := by rfl)
    (hpl : ((backTo pos (starEach [] X.env)).any (·.1) || (backToKw pos (keywordEach kws X.env)).any (·.1.isNone)) = false := by rfl)
    (ht : eval (.Call (.Attribute o m apos) [] kws pos) X.env = (do
      let ov ← eval o X.env
      standAt apos.atName
      let (f, first) ← holding [ov] (getMethod ov m pl)
      callWith pos f first (backTo pos (starEach [] X.env)) (backToKw pos (keywordEach kws X.env))) := by rfl) :
    PE X (.Call (.Attribute o m apos) [] kws pos) (tSt C 0 ks.length sp gV E ta tNil tk) := by
  refine ⟨fun pins s σ H Q I h => ?_⟩
  refine PySem.W.methodCall_KW (pl := pl) (thn (he.run pins s σ H _ I h)
    fun u s1 ⟨x, H1, I1, rx, ex, y⟩ => ?_) ht
  subst ex
  obtain rfl : u = Value.ref C := rx
  refine getst I1 c fun s2 I2 => ?_
  refine PySem.W.callWith_KW0 (first := []) (h₀ := X.base) I.ok.mod.kin c.kp hall ?_ hpl
  refine thn (hkw.run pos pins s2 σ H1 _ I2 y) fun ws s4 ⟨zs, H3, I4, rz, l1, l2, y3⟩ => ⟨I4.kIn, ?_⟩
  rw [hks]
  exact run_fnN (us := []) (vs := []) F hr hb hx I4 .nil rz rfl l2 y3
end
end OV

set_option maxRecDepth 100000
set_option maxHeartbeats 4000000
/-! enumerate(a tuple) -/
namespace EnT
open PySem PySem.Spec PyProof.Rows L2
set_option maxHeartbeats 1000000 in
theorem meets1 {v : Value} {o : Obj} {H : Heap → Prop} (B : Begins v o H) :
    Meets (Builtin.«enumerate.__new__» ⟨[.type "enumerate", v], []⟩) (fun _ R s => H s.heap ∧
      R (.ok (.ret (.ref (s.heap.push o).objs.size)))
        { s with heap := (s.heap.push o).push { cls := .type "enumerate", data := .fields #[.none, .bool false, .ref s.heap.objs.size, rawInt 0, .none, .none] } }) :=
  .of_wp fun prog w A R s h => by
    obtain ⟨hp, g, d, tk, os⟩ := s
    obtain ⟨h1, h⟩ := h
    have hsub := sub_enumerate
    have q1 : ∀ {A' : Around} {E : Value → Shared → Prop} {Q : Value → Shared → Prop},
        Q (.ref hp.objs.size) ⟨hp.push o, g, d, tk, os⟩ → wpAny (model prog w) A' (pyIter v) Q E ⟨hp, g, d, tk, os⟩ :=
      fun q => B.iter prog w _ _ ⟨hp, g, d, tk, os⟩ _ h1 q
    wp_walk using q1
    refine wpAny_stack_any fun st => wpAny_pure ?_
    split
    · rename_i c _ _ _ _ _
      cases (c == Value.type "enumerate")
      · wp_walk using q1
        exact ⟨_, rfl, h⟩
      · wp_walk using q1
        exact ⟨_, rfl, h⟩
    · wp_walk using q1
      exact ⟨_, rfl, h⟩
section
variable {prog : Program} {w : World} {A : Around} {E : Value → Shared → Prop} {s : Shared}
theorem call1 {v : Value} {o : Obj} {H : Heap → Prop} {Q : Value → Shared → Prop} (B : Begins v o H) (h1 : H s.heap)
    (h : ∀ h', IsEnum h' (s.heap.objs.size + 1) s.heap.objs.size 0 .none → h'.get? s.heap.objs.size = some o →
      (∀ b u, s.heap.get? b = some u → h'.get? b = some u) → Q (.ref (s.heap.objs.size + 1)) { s with heap := h' }) :
    wpAny (model prog w) A (call (.type "enumerate") [v]) Q E s := by
  refine callType_new F.called_enumerate (by decide) (F.typeCall_enumerate_1 _) (F.newCall_enumerate_1 _)
    (fun obj => F.args_object_init_2 obj _) F.entry_enumerate_new (meets1 B) ⟨h1, ?_⟩
  have hz : (s.heap.push o).objs.size = s.heap.objs.size + 1 := Heap.size_push ..
  show _ ∧ _
  rw [hz]
  have he : IsEnum ((s.heap.push o).push
      { cls := .type "enumerate", data := .fields #[.none, .bool false, .ref s.heap.objs.size, rawInt 0, .none, .none] }) (s.heap.objs.size + 1) s.heap.objs.size 0 .none := by
    have q := Heap.get?_push_size (s.heap.push o)
      (o := { cls := .type "enumerate", data := .fields #[.none, .bool false, .ref s.heap.objs.size, rawInt 0, .none, .none] }) rfl
    rw [hz] at q
    exact q
  exact ⟨⟨_, he, rfl⟩, h _ he (Heap.get?_push_of_some _ (Heap.get?_push_size _ B.free))
    fun b u x => Heap.get?_push_of_some _ (Heap.get?_push_of_some _ x)⟩
end
/-- the tuple at a as it stands at each turn, each item in a new pair -/
def IteT (K : PySem.W.Frag) (a : Addr) : It :=
  ⟨fun i H => ∃ (xs : List V) (x : V), SqT K H a xs ∧ xs[i]? = some x,
    fun i H v H' => ∃ T x, v = .ref T ∧ H T = none ∧ H' = upd H T (.tup [.int (i : Nat), x]) ∧ ∀ xs, SqT K H a xs → xs[i]? = some x,
    fun i H => ∃ xs : List V, SqT K H a xs ∧ xs.length = i⟩
theorem turnT {P : Program} {w : World} {K : PySem.W.Frag} {elts : List Expr} {kk : Nat} {tpos : Pos} (a e it : Addr) :
    Turn P w K (.Tuple elts kk tpos) (IteT K a) [e, it] e
      (fun i h => (∃ old, IsEnum h e it ((i : Nat) : Int) old) ∧ h.IsTupleIter it a i ∧ e ≠ it ∧ e ≠ a ∧ a ≠ it) where
  mem := by simp
  obj := fun i h st b hb => by
    obtain ⟨⟨old, he⟩, ⟨o, ho, hc, hd⟩, _⟩ := st
    have e' : b = e ∨ b = it := by simpa using hb
    rcases e' with z | z
    · rw [z]
      exact ⟨_, he, fun v q => nomatch q⟩
    · rw [z]
      exact ⟨o, ho, fun v q => by rw [hd] at q; cases q⟩
  keep := fun i h h' st k =>
    let ⟨⟨old, he⟩, hi, hne⟩ := st
    ⟨⟨old, k e (by simp) _ he⟩, hi.at fun o q => k it (by simp) o q, hne⟩
  item := by
    intro X hP hw hK hc i pins s σ H E I hf st hg
    subst hP hw hK
    obtain ⟨⟨old, he⟩, hit, hne, hea, hai⟩ := st
    obtain ⟨xs, x, hq, hx⟩ := hg
    obtain ⟨its, rv, p, hz⟩ := I.tuple hq
    obtain ⟨u, hu, ru⟩ := rv.get hx
    have hel : e < s.heap.objs.size := Heap.lt_size he
    have hil : it < s.heap.objs.size := by
      obtain ⟨_, q, _⟩ := hit
      exact Heap.lt_size q
    have hh : X.A.in1.handled = none := I.ok.hd hc
    have D := Draws.tuple (prog := X.prog) (w := X.w) hh it a hai its.toArray
    have hlt : i < its.toArray.size := by
      have := (List.getElem?_eq_some_iff.mp hu).1
      simpa using this
    have hef : e ∉ [it, a] := by simp [hne, hea]
    refine wpAny_pyNext_enum_itemD D he ⟨hit, p⟩ hlt hne hef fun y h' tk hy ho hst hT hsz hk => ?_
    have ey : y = u := by
      have : its.toArray[i]? = some u := by simpa using hu
      exact Option.some.inj (hy.symm.trans this)
    subst ey
    refine ⟨_, rfl, wpAny_letOwnedTupleGo_enum (s := { s with heap := h', toks := tk + 1 }) ho fun h'' he' sb => ?_⟩
    have hT2 : h''.get? s.heap.objs.size = some { cls := .type "tuple", data := .seq #[.int i tk, y] } := (sb.2 _ (Nat.ne_of_gt hel)).trans hT
    have new : ObjOk X.prog X.w (upd H s.heap.objs.size (.tup [.int (i : Nat), x])) h'' s.heap.objs.size (.tup [.int (i : Nat), x]) :=
      ⟨by show 2 ≤ sizeLine; decide, [.int i tk, y], .cons ⟨_, rfl⟩ (.cons ru .nil), ⟨_, hT2, rfl, _, rfl⟩⟩
    have I1 : Inv X pins σ (upd H s.heap.objs.size (.tup [.int (i : Nat), x])) { s with heap := h'', toks := tk + 1 } :=
      I.turnedNew (t' := tk + 1) (ch := [e, it])
        (fun b ob hb q => (sb.2 b (fun z => hb (by simp [z]))).trans (hk b ob (fun z => hb (by simp [z])) (fun z => hb (by simp [z])) q))
        hf (Nat.le_refl _) new
    refine ⟨.ref s.heap.objs.size, _, I1, rfl, ⟨_, x, rfl, I.hok.fresh (Nat.le_refl _), rfl, fun ys hy => by rw [I.tuple_inj hy hq]; exact hx⟩,
      ⟨⟨y, ?_⟩, hst.1.at fun o q => (sb.2 it (Ne.symm hne)).trans q, hne, hea, hai⟩, fun b hb => ?_⟩
    · have e1 : ((i + 1 : Nat) : Int) = (i : Int) + 1 := by omega
      rw [e1]
      exact he'
    · have hb' : b < s.heap.objs.size := by
        have e' : b = e ∨ b = it := by simpa using hb
        rcases e' with z | z
        · rw [z]
          exact hel
        · rw [z]
          exact hil
      rw [upd_ne (Nat.ne_of_lt hb')]
      exact (hf b hb).1
  done := by
    intro X hP hw hK hc i pins s σ H E I hf st hg
    subst hP hw hK
    obtain ⟨⟨old, he⟩, hit, hne, hea, hai⟩ := st
    obtain ⟨xs, hq, hx⟩ := hg
    obtain ⟨its, rv, p, hz⟩ := I.tuple hq
    obtain ⟨f0, f1, f2, f3, f4, f5⟩ := hf it (by simp)
    have hl := rv.length
    have hh : X.A.in1.handled = none := I.ok.hd hc
    have D := Draws.tuple (prog := X.prog) (w := X.w) hh it a hai its.toArray
    have ei : i = its.toArray.size := by simpa using (hx.symm.trans hl)
    subst ei
    exact wpAny_pyNext_enum_endD D he ⟨hit, p⟩
      fun h' eb => ⟨rfl, I.turned (t' := s.toks) (fun b o hb q => eb b o hb q) f0 f1 f3 f4 f5⟩
  self := fun A i s Q E st h => let ⟨⟨_, he⟩, _⟩ := st; wpAny_pyIter_enum he h
def iEnumT (K : PySem.W.Frag) (ta : TA) : TI := fun σ H R => ta σ H fun vs H1 => ∃ a xs, vs = [.ref a] ∧ SqT K H1 a xs ∧ R (IteT K a) H1
theorem pi_enumT {X : Cx} {e : Expr} {ta : TA} {p pos tpos : Pos} {elts : List Expr} {kk : Nat} (hg : Gl X "enumerate") (hm : X.mg "enumerate" = none) (ha : PA X [e] ta)
    (hs : starEach [e] X.env = [(false, eval e X.env)] := by rfl) : PI X (.Tuple elts kk tpos) (.Call (.Name "enumerate" p) [e] [] pos) (iEnumT X.K ta) := by
  refine ⟨fun pins s σ H R I h => ?_⟩
  refine Call_ (ld_blt I hg hm boot_enumerate (PyProof.Rows.callWith_type1
    (thn (ha.run pos pins s σ H _ I h) fun us s1 ⟨vs, H1, I1, r1, q1⟩ => ?_) hs rfl))
  obtain ⟨a, xs, ex, hq, q⟩ := q1
  subst ex
  obtain ⟨u, rfl, ru⟩ := r1.one
  cases (show u = Value.ref a from ru)
  obtain ⟨its, rv, p', hz⟩ := I1.tuple hq
  have al : a < s1.heap.objs.size := by
    obtain ⟨o, ho, _⟩ := id p'
    exact Heap.lt_size ho
  refine call1 (begins_tuple a its.toArray) p' fun h' he hit hk => wpAny_pyIter_enum he ?_
  have I2 : Inv X pins σ H1 { s1 with heap := h' } := I1.kept (t' := s1.toks) hk
  refine ⟨s1.heap.objs.size + 1, [s1.heap.objs.size + 1, s1.heap.objs.size], _, _, H1, rfl, I2, turnT a (s1.heap.objs.size + 1) s1.heap.objs.size,
    ⟨⟨.none, he⟩, ⟨_, hit, rfl, rfl⟩, Nat.succ_ne_self _, Nat.ne_of_gt (Nat.lt_succ_of_lt al), Nat.ne_of_lt al⟩, fun b hb => ?_, q⟩
  have e' : b = s1.heap.objs.size + 1 ∨ b = s1.heap.objs.size := by simpa using hb
  have hle : s1.heap.objs.size ≤ b := by
    rcases e' with z | z
    · rw [z]
      exact Nat.le_add_right _ _
    · rw [z]
      exact Nat.le_refl _
  exact I1.fpOk hle (I1.hok.fresh hle)
/-- a loop over enumerate of a tuple -/
theorem for_enT {K : PySem.W.Frag} {a : Addr} {xs : List V} {g : TG} {tb : TS} {D : Ends} {σ : L2.St} {H : Hp} (Pv : Nat → L2.St → Hp → Prop) (h0 : Pv 0 σ H) (hq : ∀ i σ H, i ≤ xs.length → Pv i σ H → SqT K H a xs)
    (hs : ∀ (i : Nat) (x : V) (T : Addr) (σ : L2.St) (H : Hp), xs[i]? = some x → Pv i σ H → H T = none → g (.ref T) σ (upd H T (.tup [.int (i : Nat), x])) fun σ2 H2 => tb { D with nx := Pv (i + 1), ct := Pv (i + 1), bk := D.nx } σ2 H2) (hd : ∀ σ H, Pv xs.length σ H → D.nx σ H) :
    ∃ W : Nat → Nat → L2.St → Hp → Prop, (∃ m, W 0 m σ H) ∧ ∀ i m σ H, W i m σ H →
      ((IteT K a).stop i H ∧ D.nx σ H) ∨ ((IteT K a).go i H ∧ ∃ N : L2.St → Hp → Prop, (∀ σ' H', N σ' H' → ∃ m', m' < m ∧ W (i + 1) m' σ' H') ∧ ∀ v H', (IteT K a).yld i H v H' → g v σ H' fun σ2 H2 => tb { D with nx := N, ct := N, bk := D.nx } σ2 H2) := by
  refine ⟨fun i m σ H => m = xs.length - i ∧ i ≤ xs.length ∧ Pv i σ H, ⟨_, rfl, Nat.zero_le _, h0⟩, ?_⟩
  rintro i m σ H ⟨rfl, hi, p⟩
  have q := hq i σ H hi p
  by_cases hlt : i < xs.length
  · have e : xs[i]? = some xs[i] := List.getElem?_eq_getElem hlt
    refine .inr ⟨⟨xs, xs[i], q, e⟩, Pv (i + 1), fun σ' H' p' => ⟨xs.length - (i + 1), by omega, rfl, hlt, p'⟩, fun v H' y => ?_⟩
    obtain ⟨T, x, rfl, hT, rfl, hx⟩ := y
    exact hs i x T σ H (hx xs q) p hT
  · have e : i = xs.length := by omega
    subst e
    exact .inl ⟨⟨xs, q, rfl⟩, hd σ H p⟩
/-- a target of two or more names, the value a tuple or a list -/
def gAny (K : PySem.W.Frag) (n : Nat) (t : TGs) : TG := fun v σ H Q => gTup K n t v σ H Q ∨ gUnl K n t v σ H Q
theorem pg_any {X : Cx} {pos : Pos} {es : List Expr} {k : Nat} {t : TGs} {n : Nat} (hc : X.calm = true) (h : PGs X es t)
    (hn : (assignEach es X.env).length = n := by rfl) (hst : (assignEach es X.env).findIdx? (·.1) = none := by rfl) : PG X (.Tuple es k pos) (gAny X.K n t) :=
  ⟨fun pins s σ H v u Q I r hw => hw.elim ((pg_tup hc h hn hst).run pins s σ H v u Q I r) ((pg_unl hc h hn hst).run pins s σ H v u Q I r)⟩
end EnT

set_option maxRecDepth 100000
set_option maxHeartbeats 4000000
/-! zip(a list, a tuple) -/
namespace EnT
open PySem PySem.Spec PyProof.Rows L2
def ItzLT (K : PySem.W.Frag) (a b : Addr) : It :=
  ⟨fun i H => ∃ (xs ys : List V) (x y : V), SqL K H a xs ∧ SqT K H b ys ∧ xs.length = ys.length ∧ xs[i]? = some x ∧ ys[i]? = some y,
    fun i H v H' => ∃ T x y, v = .ref T ∧ H T = none ∧ H' = upd H T (.tup [x, y]) ∧ (∀ xs, SqL K H a xs → xs[i]? = some x) ∧ ∀ ys, SqT K H b ys → ys[i]? = some y,
    fun i H => ∃ xs ys : List V, SqL K H a xs ∧ SqT K H b ys ∧ xs.length = i ∧ ys.length = i⟩
theorem turnLT {P : Program} {w : World} {K : PySem.W.Frag} {elts : List Expr} {kk : Nat} {tpos : Pos} {a b z TI TO i1 i2 : Addr} (D : ZipSep2 z TI TO i1 i2 [i1, a] [i2, b]) (n1 : a ≠ i1) (n2 : b ≠ i2) :
    Turn P w K (.Tuple elts kk tpos) (ItzLT K a b) [z, TI, TO, i1, i2] z
      (fun i h => IsZip h z TI TO .none ∧ IsTupOf2 h TI (.ref i1) (.ref i2) ∧ (∃ x y, IsTupOf2 h TO x y) ∧ h.IsListIter i1 a i ∧ h.IsTupleIter i2 b i) where
  mem := by simp
  obj := fun i h st c hc => by
    obtain ⟨hz, hTI, ⟨x, y, hTO⟩, ⟨o1, e1, _, d1⟩, ⟨o2, e2, _, d2⟩⟩ := st
    have e' : c = z ∨ c = TI ∨ c = TO ∨ c = i1 ∨ c = i2 := by simpa using hc
    rcases e' with q | q | q | q | q
    · rw [q]
      exact ⟨_, hz, fun v q => nomatch q⟩
    · rw [q]
      exact ⟨_, hTI, fun v q => nomatch q⟩
    · rw [q]
      exact ⟨_, hTO, fun v q => nomatch q⟩
    · rw [q]
      exact ⟨o1, e1, fun v q => by rw [d1] at q; cases q⟩
    · rw [q]
      exact ⟨o2, e2, fun v q => by rw [d2] at q; cases q⟩
  keep := fun i h h' st k => by
    obtain ⟨hz, hTI, ⟨x, y, hTO⟩, h1, h2⟩ := st
    exact ⟨k z (by simp) _ hz, k TI (by simp) _ hTI, ⟨x, y, k TO (by simp) _ hTO⟩,
      h1.at fun o q => k i1 (by simp) o q, h2.at fun o q => k i2 (by simp) o q⟩
  item := by
    intro X hP hw hK hc i pins s σ H E I hf st hg
    subst hP hw hK
    obtain ⟨hz, hTI, ⟨x0, y0, hTO⟩, h1, h2⟩ := st
    obtain ⟨xs, ys, x, y, hqx, hqy, hll, hx, hy⟩ := hg
    obtain ⟨its, rv, p, _⟩ := I.list hqx
    obtain ⟨its2, rv2, p2, _⟩ := I.tuple hqy
    obtain ⟨u, hu, ru⟩ := rv.get hx
    obtain ⟨u2, hu2, ru2⟩ := rv2.get hy
    have hzl : z < s.heap.objs.size := Heap.lt_size hz
    have hh : X.A.in1.handled = none := I.ok.hd hc
    have D1 := Draws.list (prog := X.prog) (w := X.w) hh i1 a n1 its.toArray
    have D2 := Draws.tuple (prog := X.prog) (w := X.w) hh i2 b n2 its2.toArray
    have lt1 : i < its.toArray.size := by
      have := (List.getElem?_eq_some_iff.mp hu).1
      simpa using this
    have lt2 : i < its2.toArray.size := by
      have := (List.getElem?_eq_some_iff.mp hu2).1
      simpa using this
    refine wpAny_pyNext_zipD2_item D D1 D2 hz hTI hTO ⟨h1, p.isList⟩ ⟨h2, p2⟩ lt1 lt2
      fun v1 v2 h' tk hv1 hv2 z' TO' st1 st2 hT hsz hk => ?_
    have e1 : v1 = u := by
      have : its.toArray[i]? = some u := by simpa using hu
      exact Option.some.inj (hv1.symm.trans this)
    have e2 : v2 = u2 := by
      have : its2.toArray[i]? = some u2 := by simpa using hu2
      exact Option.some.inj (hv2.symm.trans this)
    subst e1 e2
    refine ⟨_, rfl, wpAny_letOwnedTupleGo_zip (s := { s with heap := h', toks := tk }) z' fun h'' z'' sb => ?_⟩
    have hT2 : h''.get? s.heap.objs.size = some { cls := .type "tuple", data := .seq #[v1, v2] } := (sb.2 _ (Nat.ne_of_gt hzl)).trans hT
    have new : ObjOk X.prog X.w (upd H s.heap.objs.size (.tup [x, y])) h'' s.heap.objs.size (.tup [x, y]) :=
      ⟨by show 2 ≤ sizeLine; decide, [v1, v2], .cons ru (.cons ru2 .nil), ⟨_, hT2, rfl, _, rfl⟩⟩
    have I1 : Inv X pins σ (upd H s.heap.objs.size (.tup [x, y])) { s with heap := h'', toks := tk } :=
      I.turnedNew (t' := tk) (ch := [z, TI, TO, i1, i2])
        (fun c o hb q => (sb.2 c (fun q' => hb (by simp [q']))).trans
          (hk c o (fun q' => hb (by simp [q'])) (fun q' => hb (by simp [q'])) (fun q' => hb (by simp [q'])) (fun q' => hb (by simp [q'])) q))
        hf (Nat.le_refl _) new
    have i1z : i1 ≠ z := fun q => D.zf1 (by rw [q]; exact List.mem_cons_self)
    have i2z : i2 ≠ z := fun q => D.zf2 (by rw [q]; exact List.mem_cons_self)
    refine ⟨.ref s.heap.objs.size, _, I1, rfl, ⟨_, x, y, rfl, I.hok.fresh (Nat.le_refl _), rfl,
      fun l hl => by rw [I.list_inj hl hqx]; exact hx, fun l hl => by rw [I.tuple_inj hl hqy]; exact hy⟩,
      ⟨z'', ?_, ⟨v1, v2, ?_⟩, ?_, ?_⟩, fun c hcm => ?_⟩
    · exact (sb.2 _ D.TIz).trans (hk _ _ D.TIz D.TITO D.TIi1 D.TIi2 hTI)
    · exact (sb.2 _ D.TOz).trans TO'
    · exact st1.1.at fun o q => (sb.2 _ i1z).trans q
    · exact st2.1.at fun o q => (sb.2 _ i2z).trans q
    · have hlt : c < s.heap.objs.size := by
        have e' : c = z ∨ c = TI ∨ c = TO ∨ c = i1 ∨ c = i2 := by simpa using hcm
        rcases e' with q | q | q | q | q
        · rw [q]
          exact hzl
        · rw [q]
          exact Heap.lt_size hTI
        · rw [q]
          exact Heap.lt_size hTO
        · rw [q]
          obtain ⟨_, e1, _⟩ := h1
          exact Heap.lt_size e1
        · rw [q]
          obtain ⟨_, e2, _⟩ := h2
          exact Heap.lt_size e2
      rw [upd_ne (Nat.ne_of_lt hlt)]
      exact (hf c hcm).1
  done := by
    intro X hP hw hK hc i pins s σ H E I hf st hg
    subst hP hw hK
    obtain ⟨hz, hTI, ⟨x0, y0, hTO⟩, h1, h2⟩ := st
    obtain ⟨xs, ys, hqx, hqy, l1, l2⟩ := hg
    obtain ⟨its, rv, p, _⟩ := I.list hqx
    obtain ⟨its2, rv2, p2, _⟩ := I.tuple hqy
    have m1 := rv.length
    have m2 := rv2.length
    have hh : X.A.in1.handled = none := I.ok.hd hc
    have D1 := Draws.list (prog := X.prog) (w := X.w) hh i1 a n1 its.toArray
    have D2 := Draws.tuple (prog := X.prog) (w := X.w) hh i2 b n2 its2.toArray
    have e1 : i = its.toArray.size := by simpa using (l1.symm.trans m1)
    have e2 : i ≤ its2.toArray.size := by
      have : i = its2.toArray.size := by simpa using (l2.symm.trans m2)
      exact Nat.le_of_eq this
    exact wpAny_pyNext_zipD2_end D D1 D2 hz hTI hTO ⟨h1, p.isList⟩ ⟨h2, p2⟩ (Nat.le_of_eq e1) e2 (.inl e1)
      fun h' tk hk => ⟨rfl, I.turnedL (t' := tk) (ch := [z, TI, TO, i1, i2]) (fun c o hb q =>
        hk c o (fun q' => hb (by simp [q'])) (fun q' => hb (by simp [q'])) (fun q' => hb (by simp [q'])) (fun q' => hb (by simp [q'])) q) hf⟩
  self := fun A i s Q E st h => wpAny_pyIter_zip st.1 h
def iZipLT (K : PySem.W.Frag) (ta : TA) : TI := fun σ H R => ta σ H fun vs H1 => ∃ a b xs ys, vs = [.ref a, .ref b] ∧ SqL K H1 a xs ∧ SqT K H1 b ys ∧ R (ItzLT K a b) H1
theorem pi_zipLT {X : Cx} {e e2 : Expr} {ta : TA} {p pos tpos : Pos} {elts : List Expr} {kk : Nat} (hg : Gl X "zip") (hm : X.mg "zip" = none) (ha : PA X [e, e2] ta)
    (hs : starEach [e, e2] X.env = (false, eval e X.env) :: starEach [e2] X.env := by rfl) (hpl : (backTo pos (starEach [e2] X.env)).any (·.1) = false := by rfl) :
    PI X (.Tuple elts kk tpos) (.Call (.Name "zip" p) [e, e2] [] pos) (iZipLT X.K ta) := by
  refine ⟨fun pins s σ H R I h => ?_⟩
  refine Call_ (ld_blt I hg hm PyProof.Rows.boot_zip (PyProof.Rows.callWith_type1
    (thn (ha.run pos pins s σ H _ I h) fun us s1 ⟨vs, H1, I1, r1, q1⟩ => ?_) hs hpl))
  obtain ⟨a, b, xs, ys, ex, hqx, hqy, q⟩ := q1
  subst ex
  cases r1 with
  | cons r rr =>
    cases rr with
    | cons r' rr =>
      cases rr
      cases r
      cases r'
      obtain ⟨its, rv, p1, _⟩ := I1.list hqx
      obtain ⟨its2, rv2, p2, _⟩ := I1.tuple hqy
      obtain ⟨o2, ho2, _⟩ := id p2
      have al : a < s1.heap.objs.size := p1.lt
      have bl : b < s1.heap.objs.size := Heap.lt_size ho2
      refine zip_begins2 (begins_list a its.toArray) (begins_tuple b its2.toArray) p1.isList p2
        fun h' hz hTI hTO g1 g2 hsz hk => wpAny_pyIter_zip hz ?_
      have I2 : Inv X pins σ H1 { s1 with heap := h' } := I1.kept (t' := s1.toks) hk
      have S := zip_sep2 (N := s1.heap.objs.size) (fp1 := [a]) (fp2 := [b]) (fun c hc => by rw [List.mem_singleton.mp hc]; exact al) (fun c hc => by rw [List.mem_singleton.mp hc]; exact bl)
      refine ⟨s1.heap.objs.size + 4, [s1.heap.objs.size + 4, s1.heap.objs.size + 2, s1.heap.objs.size + 3, s1.heap.objs.size, s1.heap.objs.size + 1], _, _, H1, rfl, I2,
        turnLT S (Nat.ne_of_lt al) (Nat.ne_of_lt (Nat.lt_succ_of_lt bl)), ⟨hz, hTI, ⟨_, _, hTO⟩, ⟨_, g1, rfl, rfl⟩, ⟨_, g2, rfl, rfl⟩⟩, fun c hcm => ?_, q⟩
      have e' : c = s1.heap.objs.size + 4 ∨ c = s1.heap.objs.size + 2 ∨ c = s1.heap.objs.size + 3 ∨ c = s1.heap.objs.size ∨ c = s1.heap.objs.size + 1 := by simpa using hcm
      have hle : s1.heap.objs.size ≤ c := by
        rcases e' with z | z | z | z | z <;> rw [z] <;> first | exact Nat.le_refl _ | exact Nat.le_add_right _ _
      exact I1.fpOk hle (I1.hok.fresh hle)
/-- a loop over zip of a list and a tuple of one length -/
theorem for_zipLT {K : PySem.W.Frag} {a b : Addr} {xs ys : List V} {g : TG} {tb : TS} {D : Ends} {σ : L2.St} {H : Hp} (hl : xs.length = ys.length) (Pv : Nat → L2.St → Hp → Prop) (h0 : Pv 0 σ H) (hq : ∀ i σ H, Pv i σ H → SqL K H a xs ∧ SqT K H b ys)
    (hs : ∀ (i : Nat) (x y : V) (T : Addr) (σ : L2.St) (H : Hp), xs[i]? = some x → ys[i]? = some y → Pv i σ H → H T = none → g (.ref T) σ (upd H T (.tup [x, y])) fun σ2 H2 => tb { D with nx := Pv (i + 1), ct := Pv (i + 1), bk := D.nx } σ2 H2) (hd : ∀ σ H, Pv xs.length σ H → D.nx σ H) :
    ∃ W : Nat → Nat → L2.St → Hp → Prop, (∃ m, W 0 m σ H) ∧ ∀ i m σ H, W i m σ H →
      ((ItzLT K a b).stop i H ∧ D.nx σ H) ∨ ((ItzLT K a b).go i H ∧ ∃ N : L2.St → Hp → Prop, (∀ σ' H', N σ' H' → ∃ m', m' < m ∧ W (i + 1) m' σ' H') ∧ ∀ v H', (ItzLT K a b).yld i H v H' → g v σ H' fun σ2 H2 => tb { D with nx := N, ct := N, bk := D.nx } σ2 H2) := by
  refine ⟨fun i m σ H => m = xs.length - i ∧ i ≤ xs.length ∧ Pv i σ H, ⟨_, rfl, Nat.zero_le _, h0⟩, ?_⟩
  rintro i m σ H ⟨rfl, hi, p⟩
  obtain ⟨q1, q2⟩ := hq i σ H p
  by_cases hlt : i < xs.length
  · have e : xs[i]? = some xs[i] := List.getElem?_eq_getElem hlt
    have e2 : ys[i]? = some ys[i] := List.getElem?_eq_getElem (hl ▸ hlt)
    refine .inr ⟨⟨xs, ys, _, _, q1, q2, hl, e, e2⟩, Pv (i + 1), fun σ' H' p' => ⟨xs.length - (i + 1), by omega, rfl, hlt, p'⟩, fun v H' y => ?_⟩
    obtain ⟨T, x, y, rfl, hT, rfl, hx, hy⟩ := y
    exact hs i x y T σ H (hx xs q1) (hy ys q2) p hT
  · have e : i = xs.length := by omega
    subst e
    exact .inl ⟨⟨xs, ys, q1, q2, rfl, hl.symm⟩, hd σ H p⟩
end EnT

set_option maxRecDepth 100000
set_option maxHeartbeats 4000000
namespace K0
open PySem L2
def top (i : Nat) : Stmt := PySem.Challenge.pw_shownrun_k01_polys_by_slow_sums.main.body.getD i (.Pass ⟨0, 0, 0, 0⟩)

abbrev s_worths_of : Stmt := top 1
abbrev s_inverse : Stmt := top 3
abbrev s_trimmed : Stmt := top 5
abbrev s_padded : Stmt := top 6
abbrev s_added : Stmt := top 7
abbrev s_multiplied : Stmt := top 8
abbrev s_worth_at : Stmt := top 9
abbrev s_with_roots : Stmt := top 10
abbrev s_without_root : Stmt := top 11
abbrev s_m_init : Stmt := inClass (top 12) 0
abbrev s_m_through : Stmt := inClass (top 12) 1
abbrev s_m_degree : Stmt := inClass (top 12) 2
abbrev s_m_call : Stmt := inClass (top 12) 3
abbrev s_m_add : Stmt := inClass (top 12) 4
abbrev s_m_sub : Stmt := inClass (top 12) 5
abbrev s_m_mul : Stmt := inClass (top 12) 6
abbrev s_m_scaled : Stmt := inClass (top 12) 7
abbrev s_m_stepped : Stmt := inClass (top 12) 8
abbrev s_m_divided : Stmt := inClass (top 12) 9
abbrev s_m_eq : Stmt := inClass (top 12) 10
abbrev s_m_repr : Stmt := inClass (top 12) 11
abbrev s_box : Stmt := top 14
abbrev s_draw : Stmt := top 15
abbrev s_of : Stmt := top 16
abbrev s_same : Stmt := top 17
abbrev s_prime : Stmt := top 18
abbrev s_number : Stmt := top 19
abbrev s_raised : Stmt := top 20
abbrev s_law_inverse : Stmt := top 21
abbrev s_worth : Stmt := top 22
abbrev s_trim : Stmt := top 23
abbrev s_product : Stmt := top 24
abbrev s_divide : Stmt := top 25
abbrev s_coefs : Stmt := top 26
abbrev s_poly : Stmt := top 27
abbrev s_is_poly : Stmt := top 28
abbrev s_total : Stmt := top 29
abbrev s_split : Stmt := top 30
abbrev s_division : Stmt := top 31
abbrev s_line : Stmt := top 32
abbrev s_worths : Stmt := top 33
abbrev s_equals : Stmt := top 34
abbrev s_law : Stmt := top 35
theorem sc_worths_of : FnScope ["numbers", "p", "number"] ["numbers", "p"] (defScope s_worths_of) := ⟨rfl, rfl, rfl, by decide +kernel, rfl, by decide +kernel, by decide +kernel⟩
theorem sc_inverse : FnScope ["worth", "p", "low", "high", "one", "other", "times"] ["worth", "p"] (defScope s_inverse) := ⟨rfl, rfl, rfl, by decide +kernel, rfl, by decide +kernel, by decide +kernel⟩
theorem sc_trimmed : FnScope ["worths", "size"] ["worths"] (defScope s_trimmed) := ⟨rfl, rfl, rfl, by decide +kernel, rfl, by decide +kernel, by decide +kernel⟩
theorem sc_padded : FnScope ["worths", "size"] ["worths", "size"] (defScope s_padded) := ⟨rfl, rfl, rfl, by decide +kernel, rfl, by decide +kernel, by decide +kernel⟩
theorem sc_added : FnScope ["one", "other", "sign", "size", "low", "high"] ["one", "other", "sign"] (defScope s_added) := ⟨rfl, rfl, rfl, by decide +kernel, rfl, by decide +kernel, by decide +kernel⟩
theorem sc_multiplied : FnScope ["one", "other", "made", "k", "low", "m", "high"] ["one", "other"] (defScope s_multiplied) := ⟨rfl, rfl, rfl, by decide +kernel, rfl, by decide +kernel, by decide +kernel⟩
theorem sc_worth_at : FnScope ["coefficients", "x", "p", "total", "worth"] ["coefficients", "x", "p"] (defScope s_worth_at) := ⟨rfl, rfl, rfl, by decide +kernel, rfl, by decide +kernel, by decide +kernel⟩
theorem sc_with_roots : FnScope ["roots", "p", "made", "root", "low", "high"] ["roots", "p"] (defScope s_with_roots) := ⟨rfl, rfl, rfl, by decide +kernel, rfl, by decide +kernel, by decide +kernel⟩
theorem sc_without_root : FnScope ["coefficients", "root", "p", "made", "carried", "worth"] ["coefficients", "root", "p"] (defScope s_without_root) := ⟨rfl, rfl, rfl, by decide +kernel, rfl, by decide +kernel, by decide +kernel⟩
theorem sc_m_init : FnScope ["self", "coefficients", "p"] ["self", "coefficients", "p"] (defScope s_m_init) := ⟨rfl, rfl, rfl, by decide +kernel, rfl, by decide +kernel, by decide +kernel⟩
theorem sc_m_through : FnScope ["points", "p", "x", "_", "roots", "product", "total", "root", "worth", "part", "factor", "low", "high"] ["points", "p"] (defScope s_m_through) := ⟨rfl, rfl, rfl, by decide +kernel, rfl, by decide +kernel, by decide +kernel⟩
theorem sc_m_degree : FnScope ["self"] ["self"] (defScope s_m_degree) := ⟨rfl, rfl, rfl, by decide +kernel, rfl, by decide +kernel, by decide +kernel⟩
theorem sc_m_call : FnScope ["self", "x"] ["self", "x"] (defScope s_m_call) := ⟨rfl, rfl, rfl, by decide +kernel, rfl, by decide +kernel, by decide +kernel⟩
theorem sc_m_add : FnScope ["self", "other"] ["self", "other"] (defScope s_m_add) := ⟨rfl, rfl, rfl, by decide +kernel, rfl, by decide +kernel, by decide +kernel⟩
theorem sc_m_sub : FnScope ["self", "other"] ["self", "other"] (defScope s_m_sub) := ⟨rfl, rfl, rfl, by decide +kernel, rfl, by decide +kernel, by decide +kernel⟩
theorem sc_m_mul : FnScope ["self", "other"] ["self", "other"] (defScope s_m_mul) := ⟨rfl, rfl, rfl, by decide +kernel, rfl, by decide +kernel, by decide +kernel⟩
theorem sc_m_scaled : FnScope ["self", "worth", "coefficient"] ["self", "worth"] (defScope s_m_scaled) := ⟨rfl, rfl, rfl, by decide +kernel, rfl, by decide +kernel, by decide +kernel⟩
theorem sc_m_stepped : FnScope ["self", "worth", "made", "factor", "coefficient"] ["self", "worth"] (defScope s_m_stepped) := ⟨rfl, rfl, rfl, by decide +kernel, rfl, by decide +kernel, by decide +kernel⟩
theorem sc_m_divided : FnScope ["self", "other", "lead", "whole", "rest", "factor", "base", "k", "worth"] ["self", "other"] (defScope s_m_divided) := ⟨rfl, rfl, rfl, by decide +kernel, rfl, by decide +kernel, by decide +kernel⟩
theorem sc_m_eq : FnScope ["self", "other"] ["self", "other"] (defScope s_m_eq) := ⟨rfl, rfl, rfl, by decide +kernel, rfl, by decide +kernel, by decide +kernel⟩
theorem sc_m_repr : FnScope ["self"] ["self"] (defScope s_m_repr) := ⟨rfl, rfl, rfl, by decide +kernel, rfl, by decide +kernel, by decide +kernel⟩
theorem sc_box : FnScope ["script", "mixed", "cell"] ["script"] (defScope s_box) := ⟨rfl, rfl, rfl, by decide +kernel, rfl, by decide +kernel, by decide +kernel⟩
theorem sc_draw : FnScope ["box", "sides", "cell", "digit", "seed"] ["box", "sides"] (defScope s_draw) := ⟨rfl, rfl, rfl, by decide +kernel, rfl, by decide +kernel, by decide +kernel⟩
theorem sc_of : FnScope ["box", "things"] ["box", "things"] (defScope s_of) := ⟨rfl, rfl, rfl, by decide +kernel, rfl, by decide +kernel, by decide +kernel⟩
theorem sc_same : FnScope ["found", "due", "a", "b"] ["found", "due"] (defScope s_same) := ⟨rfl, rfl, rfl, by decide +kernel, rfl, by decide +kernel, by decide +kernel⟩
theorem sc_prime : FnScope ["box", "way"] ["box"] (defScope s_prime) := ⟨rfl, rfl, rfl, by decide +kernel, rfl, by decide +kernel, by decide +kernel⟩
theorem sc_number : FnScope ["box", "prime", "way"] ["box", "prime"] (defScope s_number) := ⟨rfl, rfl, rfl, by decide +kernel, rfl, by decide +kernel, by decide +kernel⟩
theorem sc_raised : FnScope ["base", "times", "prime", "result", "square", "k"] ["base", "times", "prime"] (defScope s_raised) := ⟨rfl, rfl, rfl, by decide +kernel, rfl, by decide +kernel, by decide +kernel⟩
theorem sc_law_inverse : FnScope ["digit", "prime"] ["digit", "prime"] (defScope s_law_inverse) := ⟨rfl, rfl, rfl, by decide +kernel, rfl, by decide +kernel, by decide +kernel⟩
theorem sc_worth : FnScope ["coefs", "spot", "prime", "total", "lift", "coef"] ["coefs", "spot", "prime"] (defScope s_worth) := ⟨rfl, rfl, rfl, by decide +kernel, rfl, by decide +kernel, by decide +kernel⟩
theorem sc_trim : FnScope ["coefs", "prime", "coef", "held", "k"] ["coefs", "prime"] (defScope s_trim) := ⟨rfl, rfl, rfl, by decide +kernel, rfl, by decide +kernel, by decide +kernel⟩
theorem sc_product : FnScope ["left", "right", "prime", "held", "i", "j"] ["left", "right", "prime"] (defScope s_product) := ⟨rfl, rfl, rfl, by decide +kernel, rfl, by decide +kernel, by decide +kernel⟩
theorem sc_divide : FnScope ["left", "right", "prime", "rest", "whole", "turn", "k", "low", "j"] ["left", "right", "prime"] (defScope s_divide) := ⟨rfl, rfl, rfl, by decide +kernel, rfl, by decide +kernel, by decide +kernel⟩
theorem sc_coefs : FnScope ["box", "prime", "size", "k"] ["box", "prime"] (defScope s_coefs) := ⟨rfl, rfl, rfl, by decide +kernel, rfl, by decide +kernel, by decide +kernel⟩
theorem sc_poly : FnScope ["box", "coefs", "prime", "way", "passed", "made"] ["box", "coefs", "prime"] (defScope s_poly) := ⟨rfl, rfl, rfl, by decide +kernel, rfl, by decide +kernel, by decide +kernel⟩
theorem sc_is_poly : FnScope ["found", "coefs", "prime"] ["found", "coefs", "prime"] (defScope s_is_poly) := ⟨rfl, rfl, rfl, by decide +kernel, rfl, by decide +kernel, by decide +kernel⟩
theorem sc_total : FnScope ["left", "right", "prime", "sign", "longer", "first", "second", "a", "b"] ["left", "right", "prime", "sign"] (defScope s_total) := ⟨rfl, rfl, rfl, by decide +kernel, rfl, by decide +kernel, by decide +kernel⟩
theorem sc_split : FnScope ["left", "right"] ["left", "right"] (defScope s_split) := ⟨rfl, rfl, rfl, by decide +kernel, rfl, by decide +kernel, by decide +kernel⟩
theorem sc_division : FnScope ["left", "right", "first", "second", "prime", "told", "whole", "rest"] ["left", "right", "first", "second", "prime"] (defScope s_division) := ⟨rfl, rfl, rfl, by decide +kernel, rfl, by decide +kernel, by decide +kernel⟩
theorem sc_line : FnScope ["box", "prime", "many", "pool", "dots", "k", "spot", "step", "height", "dot", "kept", "told", "coefs"] ["box", "prime"] (defScope s_line) := ⟨rfl, rfl, rfl, by decide +kernel, rfl, by decide +kernel, by decide +kernel⟩
theorem sc_worths : FnScope ["box", "left", "first", "prime", "k", "spot", "gain", "coef", "due", "lift"] ["box", "left", "first", "prime"] (defScope s_worths) := ⟨rfl, rfl, rfl, by decide +kernel, rfl, by decide +kernel, by decide +kernel⟩
theorem sc_equals : FnScope ["left", "right", "first", "second", "prime", "near"] ["left", "right", "first", "second", "prime"] (defScope s_equals) := ⟨rfl, rfl, rfl, by decide +kernel, rfl, by decide +kernel, by decide +kernel⟩
theorem sc_law : FnScope ["script", "box", "prime", "left", "right", "way", "coef", "one", "two", "first", "second"] ["script"] (defScope s_law) := ⟨rfl, rfl, rfl, by decide +kernel, rfl, by decide +kernel, by decide +kernel⟩
/-- what the top has written -/
structure Txt (K : PySem.W.Frag) (mg : Str → Option Value) where
  t0 : Addr
  l0 : ∃ (o : Obj) (its : Array Value) (n : Nat), K.lookup t0 = some o ∧ o.cls = .type "tuple" ∧ o.data = .seq its n ∧ its.size ≤ sizeLine ∧ Vals ([] : List V) its.toList
  f_worths_of : Addr
  fd_worths_of : FuncData
  F_worths_of : Fun K "worths_of" "worths_of" s_worths_of f_worths_of fd_worths_of
  g_worths_of : mg "worths_of" = some (.ref f_worths_of)
  b_worths_of : Binds K fd_worths_of ["numbers", "p"] []
  f_inverse : Addr
  fd_inverse : FuncData
  F_inverse : Fun K "inverse" "inverse" s_inverse f_inverse fd_inverse
  g_inverse : mg "inverse" = some (.ref f_inverse)
  b_inverse : Binds K fd_inverse ["worth", "p"] []
  f_trimmed : Addr
  fd_trimmed : FuncData
  F_trimmed : Fun K "_trimmed" "_trimmed" s_trimmed f_trimmed fd_trimmed
  g_trimmed : mg "_trimmed" = some (.ref f_trimmed)
  b_trimmed : Binds K fd_trimmed ["worths"] []
  f_padded : Addr
  fd_padded : FuncData
  F_padded : Fun K "_padded" "_padded" s_padded f_padded fd_padded
  g_padded : mg "_padded" = some (.ref f_padded)
  b_padded : Binds K fd_padded ["worths", "size"] []
  f_added : Addr
  fd_added : FuncData
  F_added : Fun K "_added" "_added" s_added f_added fd_added
  g_added : mg "_added" = some (.ref f_added)
  b_added : Binds K fd_added ["one", "other", "sign"] []
  f_multiplied : Addr
  fd_multiplied : FuncData
  F_multiplied : Fun K "_multiplied" "_multiplied" s_multiplied f_multiplied fd_multiplied
  g_multiplied : mg "_multiplied" = some (.ref f_multiplied)
  b_multiplied : Binds K fd_multiplied ["one", "other"] []
  f_worth_at : Addr
  fd_worth_at : FuncData
  F_worth_at : Fun K "_worth_at" "_worth_at" s_worth_at f_worth_at fd_worth_at
  g_worth_at : mg "_worth_at" = some (.ref f_worth_at)
  b_worth_at : Binds K fd_worth_at ["coefficients", "x", "p"] []
  f_with_roots : Addr
  fd_with_roots : FuncData
  F_with_roots : Fun K "with_roots" "with_roots" s_with_roots f_with_roots fd_with_roots
  g_with_roots : mg "with_roots" = some (.ref f_with_roots)
  b_with_roots : Binds K fd_with_roots ["roots", "p"] []
  f_without_root : Addr
  fd_without_root : FuncData
  F_without_root : Fun K "_without_root" "_without_root" s_without_root f_without_root fd_without_root
  g_without_root : mg "_without_root" = some (.ref f_without_root)
  b_without_root : Binds K fd_without_root ["coefficients", "root", "p"] []
  f_m_init : Addr
  fd_m_init : FuncData
  F_m_init : FunD K "__init__" "Poly.__init__" (defArgs s_m_init) (defBody s_m_init) (defScope s_m_init) [.ref t0] [] f_m_init fd_m_init
  f_m_through : Addr
  fd_m_through : FuncData
  F_m_through : Fun K "through" "Poly.through" s_m_through f_m_through fd_m_through
  f_m_degree : Addr
  fd_m_degree : FuncData
  F_m_degree : Fun K "degree" "Poly.degree" s_m_degree f_m_degree fd_m_degree
  b_m_degree : Binds K fd_m_degree ["self"] []
  f_m_call : Addr
  fd_m_call : FuncData
  F_m_call : Fun K "__call__" "Poly.__call__" s_m_call f_m_call fd_m_call
  b_m_call : Binds K fd_m_call ["self", "x"] []
  f_m_add : Addr
  fd_m_add : FuncData
  F_m_add : Fun K "__add__" "Poly.__add__" s_m_add f_m_add fd_m_add
  b_m_add : Binds K fd_m_add ["self", "other"] []
  f_m_sub : Addr
  fd_m_sub : FuncData
  F_m_sub : Fun K "__sub__" "Poly.__sub__" s_m_sub f_m_sub fd_m_sub
  b_m_sub : Binds K fd_m_sub ["self", "other"] []
  f_m_mul : Addr
  fd_m_mul : FuncData
  F_m_mul : Fun K "__mul__" "Poly.__mul__" s_m_mul f_m_mul fd_m_mul
  b_m_mul : Binds K fd_m_mul ["self", "other"] []
  f_m_scaled : Addr
  fd_m_scaled : FuncData
  F_m_scaled : Fun K "scaled" "Poly.scaled" s_m_scaled f_m_scaled fd_m_scaled
  b_m_scaled : Binds K fd_m_scaled ["self", "worth"] []
  f_m_stepped : Addr
  fd_m_stepped : FuncData
  F_m_stepped : Fun K "stepped" "Poly.stepped" s_m_stepped f_m_stepped fd_m_stepped
  b_m_stepped : Binds K fd_m_stepped ["self", "worth"] []
  f_m_divided : Addr
  fd_m_divided : FuncData
  F_m_divided : Fun K "divided" "Poly.divided" s_m_divided f_m_divided fd_m_divided
  b_m_divided : Binds K fd_m_divided ["self", "other"] []
  f_m_eq : Addr
  fd_m_eq : FuncData
  F_m_eq : Fun K "__eq__" "Poly.__eq__" s_m_eq f_m_eq fd_m_eq
  b_m_eq : Binds K fd_m_eq ["self", "other"] []
  f_m_repr : Addr
  fd_m_repr : FuncData
  F_m_repr : Fun K "__repr__" "Poly.__repr__" s_m_repr f_m_repr fd_m_repr
  b_m_repr : Binds K fd_m_repr ["self"] []
  f_box : Addr
  fd_box : FuncData
  F_box : Fun K "_law_box" "_law_box" s_box f_box fd_box
  g_box : mg "_law_box" = some (.ref f_box)
  b_box : Binds K fd_box ["script"] []
  f_draw : Addr
  fd_draw : FuncData
  F_draw : Fun K "_law_draw" "_law_draw" s_draw f_draw fd_draw
  g_draw : mg "_law_draw" = some (.ref f_draw)
  b_draw : Binds K fd_draw ["box", "sides"] []
  f_of : Addr
  fd_of : FuncData
  F_of : Fun K "_law_of" "_law_of" s_of f_of fd_of
  g_of : mg "_law_of" = some (.ref f_of)
  b_of : Binds K fd_of ["box", "things"] []
  f_same : Addr
  fd_same : FuncData
  F_same : Fun K "_law_same" "_law_same" s_same f_same fd_same
  g_same : mg "_law_same" = some (.ref f_same)
  b_same : Binds K fd_same ["found", "due"] []
  f_prime : Addr
  fd_prime : FuncData
  F_prime : Fun K "_law_prime" "_law_prime" s_prime f_prime fd_prime
  g_prime : mg "_law_prime" = some (.ref f_prime)
  b_prime : Binds K fd_prime ["box"] []
  f_number : Addr
  fd_number : FuncData
  F_number : Fun K "_law_number" "_law_number" s_number f_number fd_number
  g_number : mg "_law_number" = some (.ref f_number)
  b_number : Binds K fd_number ["box", "prime"] []
  f_raised : Addr
  fd_raised : FuncData
  F_raised : Fun K "_law_raised" "_law_raised" s_raised f_raised fd_raised
  g_raised : mg "_law_raised" = some (.ref f_raised)
  b_raised : Binds K fd_raised ["base", "times", "prime"] []
  f_law_inverse : Addr
  fd_law_inverse : FuncData
  F_law_inverse : Fun K "_law_inverse" "_law_inverse" s_law_inverse f_law_inverse fd_law_inverse
  g_law_inverse : mg "_law_inverse" = some (.ref f_law_inverse)
  b_law_inverse : Binds K fd_law_inverse ["digit", "prime"] []
  f_worth : Addr
  fd_worth : FuncData
  F_worth : Fun K "_law_worth" "_law_worth" s_worth f_worth fd_worth
  g_worth : mg "_law_worth" = some (.ref f_worth)
  b_worth : Binds K fd_worth ["coefs", "spot", "prime"] []
  f_trim : Addr
  fd_trim : FuncData
  F_trim : Fun K "_law_trim" "_law_trim" s_trim f_trim fd_trim
  g_trim : mg "_law_trim" = some (.ref f_trim)
  b_trim : Binds K fd_trim ["coefs", "prime"] []
  f_product : Addr
  fd_product : FuncData
  F_product : Fun K "_law_product" "_law_product" s_product f_product fd_product
  g_product : mg "_law_product" = some (.ref f_product)
  b_product : Binds K fd_product ["left", "right", "prime"] []
  f_divide : Addr
  fd_divide : FuncData
  F_divide : Fun K "_law_divide" "_law_divide" s_divide f_divide fd_divide
  g_divide : mg "_law_divide" = some (.ref f_divide)
  b_divide : Binds K fd_divide ["left", "right", "prime"] []
  f_coefs : Addr
  fd_coefs : FuncData
  F_coefs : Fun K "_law_coefs" "_law_coefs" s_coefs f_coefs fd_coefs
  g_coefs : mg "_law_coefs" = some (.ref f_coefs)
  b_coefs : Binds K fd_coefs ["box", "prime"] []
  f_poly : Addr
  fd_poly : FuncData
  F_poly : Fun K "_law_poly" "_law_poly" s_poly f_poly fd_poly
  g_poly : mg "_law_poly" = some (.ref f_poly)
  b_poly : Binds K fd_poly ["box", "coefs", "prime"] []
  f_is_poly : Addr
  fd_is_poly : FuncData
  F_is_poly : Fun K "_law_is_poly" "_law_is_poly" s_is_poly f_is_poly fd_is_poly
  g_is_poly : mg "_law_is_poly" = some (.ref f_is_poly)
  b_is_poly : Binds K fd_is_poly ["found", "coefs", "prime"] []
  f_total : Addr
  fd_total : FuncData
  F_total : Fun K "_law_total" "_law_total" s_total f_total fd_total
  g_total : mg "_law_total" = some (.ref f_total)
  b_total : Binds K fd_total ["left", "right", "prime", "sign"] []
  f_split : Addr
  fd_split : FuncData
  F_split : Fun K "_law_split" "_law_split" s_split f_split fd_split
  g_split : mg "_law_split" = some (.ref f_split)
  b_split : Binds K fd_split ["left", "right"] []
  f_division : Addr
  fd_division : FuncData
  F_division : Fun K "_law_division" "_law_division" s_division f_division fd_division
  g_division : mg "_law_division" = some (.ref f_division)
  b_division : Binds K fd_division ["left", "right", "first", "second", "prime"] []
  f_line : Addr
  fd_line : FuncData
  F_line : Fun K "_law_line" "_law_line" s_line f_line fd_line
  g_line : mg "_law_line" = some (.ref f_line)
  b_line : Binds K fd_line ["box", "prime"] []
  f_worths : Addr
  fd_worths : FuncData
  F_worths : Fun K "_law_worths" "_law_worths" s_worths f_worths fd_worths
  g_worths : mg "_law_worths" = some (.ref f_worths)
  b_worths : Binds K fd_worths ["box", "left", "first", "prime"] []
  f_equals : Addr
  fd_equals : FuncData
  F_equals : Fun K "_law_equals" "_law_equals" s_equals f_equals fd_equals
  g_equals : mg "_law_equals" = some (.ref f_equals)
  b_equals : Binds K fd_equals ["left", "right", "first", "second", "prime"] []
  f_law : Addr
  fd_law : FuncData
  F_law : Fun K "law" "law" s_law f_law fd_law
  g_law : mg "law" = some (.ref f_law)
  b_law : Binds K fd_law ["script"] []
  kb1 : KBn K fd_m_init ["self", "coefficients", "p"] 2 ["p"] (fun us ws => us ++ ws) (fun vs zs => vs ++ zs)
  kb2 : KBn K fd_m_init ["self", "coefficients", "p"] 1 ["p", "coefficients"] (fun us ws => us ++ ws.reverse) (fun vs zs => vs ++ zs.reverse)
  kb3 : KBn K fd_m_init ["self", "coefficients", "p"] 1 ["p"] (fun us ws => us ++ .ref t0 :: ws) (fun vs zs => vs ++ .ref t0 :: zs)
  kbt1 : KBn K fd_m_through ["points", "p"] 1 ["p"] (fun us ws => us ++ ws) (fun vs zs => vs ++ zs)
  kbt2 : KBn K fd_m_through ["points", "p"] 0 ["p", "points"] (fun us ws => us ++ ws.reverse) (fun vs zs => vs ++ zs.reverse)
  kb_m_stepped : KBn K fd_m_stepped ["self", "worth"] 1 ["worth"] (fun us ws => us ++ ws) (fun vs zs => vs ++ zs)
  C_Poly : Addr
  gC_Poly : mg "Poly" = some (.ref C_Poly)
  cl : Cls K C_Poly
  mk_ : Mk K C_Poly f_m_init
  n_coefficients : NoAttr K C_Poly "coefficients"
  n_p : NoAttr K C_Poly "p"
  p_degree : Addr
  pp : PropOf K C_Poly "degree" p_degree f_m_degree
  p_through : Addr
  st : OV.SMet K C_Poly (.type "type") "through" p_through f_m_through
  sf : PySem.W.selfFirst K C_Poly = true
  cO : StX.CallO K C_Poly f_m_call
  mo : PySem.W.mroIn K C_Poly (.type "object") = some true
  ne_ : PySem.W.findIn K (.ref C_Poly) "__ne__" = some (some (.builtin "object.__ne__"))
  ca : PySem.W.findIn K (.ref C_Poly) "__class__" = some (some (.builtin "object.__class__"))
  cn : PySem.W.specialIn K (.builtin "object.__class__") "__get__" = some (some (.builtin "getset_descriptor.__get__"))
  ct : PySem.W.takesIn K (.builtin "object.__class__") = some true
  kk : PySem.W.kitOne K (.ref C_Poly) (.ref C_Poly) = some true
  me_m_scaled : Meth K C_Poly "scaled" f_m_scaled
  me_m_stepped : Meth K C_Poly "stepped" f_m_stepped
  me_m_divided : Meth K C_Poly "divided" f_m_divided
  f_add : PySem.W.findIn K (.ref C_Poly) "__add__" = some (some (.ref f_m_add))
  n_add : PySem.W.isFn K (.ref f_m_add) = true
  f_sub : PySem.W.findIn K (.ref C_Poly) "__sub__" = some (some (.ref f_m_sub))
  n_sub : PySem.W.isFn K (.ref f_m_sub) = true
  f_mul : PySem.W.findIn K (.ref C_Poly) "__mul__" = some (some (.ref f_m_mul))
  n_mul : PySem.W.isFn K (.ref f_m_mul) = true
  f_eq : PySem.W.findIn K (.ref C_Poly) "__eq__" = some (some (.ref f_m_eq))
  n_eq : PySem.W.isFn K (.ref f_m_eq) = true
  f_repr : PySem.W.findIn K (.ref C_Poly) "__repr__" = some (some (.ref f_m_repr))
  n_repr : PySem.W.isFn K (.ref f_m_repr) = true
  nf_tuple : PySem.W.notFirst K C_Poly (.type "tuple") = true
  k_tuple : PySem.W.kitOne K (.type "tuple") (.ref C_Poly) = some false
  nf_str : PySem.W.notFirst K C_Poly (.type "str") = true
  k_str : PySem.W.kitOne K (.type "str") (.ref C_Poly) = some false
  nf_NoneType : PySem.W.notFirst K C_Poly (.type "NoneType") = true
  k_NoneType : PySem.W.kitOne K (.type "NoneType") (.ref C_Poly) = some false
  nf_Poly : PySem.W.notFirst K C_Poly (.ref C_Poly) = true
  kP_tuple : PySem.W.kitOne K (.ref C_Poly) (.type "tuple") = some false
  z_ZeroDivisionError : mg "ZeroDivisionError" = none
  z_abs : mg "abs" = none
  z_all : mg "all" = none
  z_bool : mg "bool" = none
  z_enumerate : mg "enumerate" = none
  z_int : mg "int" = none
  z_isinstance : mg "isinstance" = none
  z_len : mg "len" = none
  z_list : mg "list" = none
  z_max : mg "max" = none
  z_min : mg "min" = none
  z_range : mg "range" = none
  z_repr : mg "repr" = none
  z_reversed : mg "reversed" = none
  z_str : mg "str" = none
  z_tuple : mg "tuple" = none
  z_zip : mg "zip" = none
end K0

set_option maxRecDepth 100000
set_option maxHeartbeats 4000000
namespace K0
open PySem L2

/-! ### the box of draws -/
/-- at b: the law's box -/
def BoxAt (H : Hp) (b : Addr) : Prop := ∃ (l : Addr) (ns : List Int) (pos rest seed cnt : Int), H b = some (.lst [.ref l, .int pos, .int rest, .int seed, .int cnt]) ∧ H l = some (.lst (ns.map V.int)) ∧ ns.length ≤ 63 ∧ 0 ≤ pos ∧ 0 ≤ rest ∧ 0 ≤ seed ∧ seed < 2147483563
/-- all that is tracked but b stands -/
def Keep (b : Addr) (H H' : Hp) : Prop := (∀ x o, x ≠ b → H x = some o → H' x = some o) ∧ ∀ (l : Addr) (r : List V), H b = some (.lst (.ref l :: r)) → ∃ r' : List V, H' b = some (.lst (.ref l :: r'))
theorem Keep.refl {b : Addr} {H : Hp} : Keep b H H := ⟨fun _ _ _ h => h, fun _ r h => ⟨r, h⟩⟩
theorem Keep.trans {b : Addr} {H H1 H2 : Hp} (a : Keep b H H1) (c : Keep b H1 H2) : Keep b H H2 := ⟨fun x o n h => c.1 x o n (a.1 x o n h), fun l r h => let ⟨r1, h1⟩ := a.2 l r h; c.2 l r1 h1⟩
theorem Keep.of_same {b : Addr} {H H1 : Hp} (a : Same H H1) : Keep b H H1 := ⟨fun x o _ h => a x o h, fun l r h => ⟨r, a _ _ h⟩⟩
theorem Keep.upd {b l : Addr} {H : Hp} {r r' : List V} (hb : H b = some (.lst (.ref l :: r))) : Keep b H (L2.upd H b (.lst (.ref l :: r'))) :=
  ⟨fun x u n h => by rw [upd_ne n]; exact h, fun l2 r2 h => by
    rw [hb] at h
    cases h
    exact ⟨r', upd_same⟩⟩
theorem same_new {H : Hp} {p : Addr} (h : H p = none) (o : HO) : Same H (upd H p o) := fun b u q => by rw [upd_ne (ne_of_none q h)]; exact q
theorem BoxAt.same {H H' : Hp} {b : Addr} (h : BoxAt H b) (s : Same H H') : BoxAt H' b := by
  obtain ⟨l, ns, p, r, sd, c, h1, h2, h3⟩ := h
  exact ⟨l, ns, p, r, sd, c, s _ _ h1, s _ _ h2, h3⟩
theorem BoxAt.some {H : Hp} {b : Addr} (h : BoxAt H b) : ∃ o, H b = some o := by
  obtain ⟨l, ns, p, r, sd, c, h1, _⟩ := h
  exact ⟨_, h1⟩
theorem BoxAt.ne {H : Hp} {b p : Addr} (h : BoxAt H b) (n : H p = none) : p ≠ b := by
  obtain ⟨o, e⟩ := h.some
  exact fun z => by rw [z, e] at n; cases n
theorem ne_cells {H : Hp} {b l : Addr} {ns : List Int} {r : List V} {a : Addr} (hb : H b = some (.lst (.ref a :: r))) (hl : H l = some (.lst (ns.map V.int))) : l ≠ b := fun z => by
  rw [z, hb] at hl
  cases ns with
  | nil => simp at hl
  | cons n ns => simp at hl
def spDraw : Sp := fun vs H Q _ => ∃ (b : Addr) (m : Int), vs = [.ref b, .int m] ∧ 0 < m ∧ m < 2 ^ 64 ∧ BoxAt H b ∧ ∀ (d : Int) (H' : Hp), 0 ≤ d → d < m → BoxAt H' b → Keep b H H' → Q (.int d) H'
theorem setq {H : Hp} {b : Addr} {o o' : HO} : upd (upd H b o) b o' = upd H b o' := by
  funext x
  by_cases h : x = b
  · rw [h, upd_same, upd_same]
  · rw [upd_ne h, upd_ne h, upd_ne h]
section
variable {P : Program} {w : World} {K : PySem.W.Frag} {mg : Str → Option Value} {base : Heap}
theorem ok_draw (T : Txt K mg) : FnOk P w K mg base CX0 1 T.f_draw T.fd_draw ["box", "sides"] (spDraw) := by
  refine T.F_draw.ok sc_draw (fun vs H Q E h => ?_) (fun cdv A outer s H vs Q E hr h => ?_)
  · obtain ⟨b, m, rfl, _⟩ := h
    rfl
  · obtain ⟨b, m, rfl, m0, m1, ⟨l, ns, pos, rest, seed, cnt, hb, hl, h63, p0, r0, s0, s1⟩, k⟩ := h
    have hlb : l ≠ b := ne_cells hb hl
    refine ⟨_, (pss_cons (ps_asg (pe_op op_add (pe_ix ix_list (pv 0) pe_int (fun _ _ => rfl)) pe_int) (pg_sub (pv 0) pe_int set_list))
      (C8.pss_cut (ps_if (PW.pt (pw_and (pt_cmpR op_eq (pe_ix ix_list (pv 0) pe_int (fun _ _ => rfl)) pe_int (nomark _)) (pw_and1 (pt_cmpR op_lt (pe_ix ix_list (pv 0) pe_int (fun _ _ => rfl)) (pe_callB call_len_seq (by rfl) T.z_len PySem.boot_len (pa_cons (pe_ix ix_list (pv 0) pe_int (fun _ _ => rfl)) pa_nil)) (nomark _))))) (pss_cons (ps_set (i := 2) sc_draw.nd rfl (Or.inl rfl) (pe_callB call_abs (by rfl) T.z_abs (by decide +kernel) (pa_cons (pe_callTy call_int1 (by rfl) T.z_int (by decide +kernel) (pa_cons (pe_ix ix_list (pe_ix ix_list (pv 0) pe_int (fun _ _ => rfl)) (pe_ix ix_list (pv 0) pe_int (fun _ _ => rfl)) (fun _ _ => rfl)) pa_nil)) pa_nil)))
      (pss_cons (ps_asg (pe_op op_add (pe_ix ix_list (pv 0) pe_int (fun _ _ => rfl)) pe_int) (pg_sub (pv 0) pe_int set_list))
      (pss_one (ps_if (pt_cmpR op_ge (pv 2) (pe_op op_pow pe_int pe_int) (nomark _)) (pss_one (ps_asg (pv 2) (pg_sub (pv 0) pe_int set_list))) (pss_one (ps_asg (pe_op op_mod (pe_callTy call_int1 (by rfl) T.z_int (by decide +kernel) (pa_cons (pe_op op_add (pe_op op_add (pe_op op_mul (pe_ix ix_list (pv 0) pe_int (fun _ _ => rfl)) pe_int) (pe_op op_mul (pe_op op_mod (pv 2) pe_int) pe_int)) pe_int) pa_nil)) pe_int) (pg_sub (pv 0) pe_int set_list))))))) pss_nil)
      (pss_cons (ps_if (pt_cmpR op_gt (pe_ix ix_list (pv 0) pe_int (fun _ _ => rfl)) pe_int (nomark _)) (pss_cons (ps_set (i := 3) sc_draw.nd rfl (Or.inl rfl) (pe_op op_mod (pe_callTy call_int1 (by rfl) T.z_int (by decide +kernel) (pa_cons (pe_ix ix_list (pv 0) pe_int (fun _ _ => rfl)) pa_nil)) (pv 1)))
      (pss_cons (ps_asg (pe_op op_fdivW (pe_callTy call_int1 (by rfl) T.z_int (by decide +kernel) (pa_cons (pe_ix ix_list (pv 0) pe_int (fun _ _ => rfl)) pa_nil)) (pv 1)) (pg_sub (pv 0) pe_int set_list))
      (pss_one (ps_ret (pv 3))))) pss_nil)
      (pss_cons (ps_set (i := 4) sc_draw.nd rfl (Or.inl rfl) (pe_callTy call_int1 (by rfl) T.z_int (by decide +kernel) (pa_cons (pe_ix ix_list (pv 0) pe_int (fun _ _ => rfl)) pa_nil)))
      (pss_cons (ps_asg (pe_op op_mod (pe_callTy call_int1 (by rfl) T.z_int (by decide +kernel) (pa_cons (pe_op op_add (pe_op op_add (pe_op op_add (pe_op op_mul (pe_op op_mul (pv 4) (pv 4)) pe_int) (pe_op op_mul (pv 4) pe_int)) (pe_op op_mul (pe_ix ix_list (pv 0) pe_int (fun _ _ => rfl)) pe_int)) pe_int) pa_nil)) pe_int) (pg_sub (pv 0) pe_int set_list))
      (pss_one (ps_ret (pe_op op_mod (pe_callTy call_int1 (by rfl) T.z_int (by decide +kernel) (pa_cons (pe_op op_add (pe_op op_mul (pe_ix ix_list (pv 0) pe_int (fun _ _ => rfl)) pe_int) (pe_op op_fdivW (pe_ix ix_list (pv 0) pe_int (fun _ _ => rfl)) pe_int)) pa_nil)) (pv 1))))))))), ?_⟩
    refine ⟨_, rfl, b, _, _, _, rfl, rfl, SqL.of hb, rfl, _, _, rfl, rfl, _, rfl, b, _, _, _, rfl, rfl, hb, rfl, ?_⟩
    have hl1 : ∀ o, upd H b o l = some (.lst (ns.map V.int)) := fun o => by rw [upd_ne hlb]; exact hl
    -- the rest, from any state of the box
    refine ⟨fun σ H' => ∃ (v : Option V) (pos' rest' seed' c1 : Int), σ = [some (.ref b), some (.int m), v, none, none] ∧ H' = upd H b (.lst [.ref l, .int pos', .int rest', .int seed', .int c1]) ∧ 0 ≤ pos' ∧ 0 ≤ rest' ∧ 0 ≤ seed' ∧ seed' < 2147483563, ?_, ?_⟩
    · refine ⟨_, rfl, b, _, _, _, rfl, rfl, SqL.of upd_same, rfl, rfl, _, rfl, ?_⟩
      refine ite2 (fun c => ?_) (fun c => ?_)
      · refine ⟨_, rfl, b, _, _, _, rfl, rfl, SqL.of upd_same, rfl, _, rfl, b, _, _, _, rfl, rfl, SqL.of upd_same, rfl, l, _, rfl, .inl (SqL.of (hl1 _)), _, _, rfl, rfl, _, rfl, ?_⟩
        refine ite2 (fun c2 => ?_) (fun c2 => ?_)
        · have hp : pos < ((ns.map V.int).length : Int) := of_decide_eq_true c2
          rw [List.length_map] at hp
          have ek : pos = ((pos.toNat : Nat) : Int) := by omega
          have q : atI (ns.map V.int) ((pos.toNat : Nat) : Int) = some (.int ns[pos.toNat]) := atI_nat (by rw [List.getElem?_map, List.getElem?_eq_getElem (by omega)] <;> rfl)
          rw [← ek] at q
          generalize ns[pos.toNat] = n at q
          refine ⟨_, rfl, b, _, _, _, rfl, rfl, SqL.of upd_same, rfl, _, rfl, b, _, _, _, rfl, rfl, SqL.of upd_same, rfl, l, _, _, _, rfl, rfl, SqL.of (hl1 _), q, .inl ⟨_, rfl, _, rfl, ?_⟩⟩
          have a0 : 0 ≤ (if n < 0 then -n else n) := by split <;> omega
          generalize (if n < 0 then -n else n) = cell at a0
          refine ⟨_, rfl, b, _, _, _, rfl, rfl, SqL.of upd_same, rfl, _, _, rfl, rfl, _, rfl, b, _, _, _, rfl, rfl, upd_same, rfl, ?_⟩
          rw [setq]
          refine ⟨_, rfl, _, _, rfl, rfl, ⟨by decide, by decide, by decide⟩, _, _, rfl, rfl, _, rfl, ?_⟩
          refine ite2 (fun c3 => ?_) (fun c3 => ?_)
          · refine ⟨_, rfl, _, rfl, b, _, _, _, rfl, rfl, upd_same, rfl, ?_⟩
            rw [setq]
            exact ⟨_, _, _, _, _, rfl, rfl, by omega, a0, s0, s1⟩
          · refine ⟨_, rfl, b, _, _, _, rfl, rfl, SqL.of upd_same, rfl, _, _, rfl, rfl, .inr ⟨by decide, by decide⟩, _, rfl, _, _, rfl, rfl, (by show (0 : Int) < 1000667; decide), _, _, rfl, rfl, .inr ⟨by decide, by decide⟩, _, _, rfl, rfl, _, _, rfl, rfl, .inl ⟨_, rfl, _, _, rfl, rfl, (by show (0 : Int) < 2147483549; decide), _, rfl, b, _, _, _, rfl, rfl, upd_same, rfl, ?_⟩⟩
            rw [setq]
            exact ⟨_, _, _, _, _, rfl, rfl, by omega, r0, by omega, by omega⟩
        · exact ⟨_, _, _, _, _, rfl, rfl, p0, r0, s0, s1⟩
      · exact ⟨_, _, _, _, _, rfl, rfl, p0, r0, s0, s1⟩
    · rintro σ H' ⟨v, pos', rest', seed', c1, rfl, rfl, p0, r0, s0, s1⟩
      have fin : ∀ (d p r sd : Int), 0 ≤ d → d < m → 0 ≤ p → 0 ≤ r → 0 ≤ sd → sd < 2147483563 → Q (.int d) (upd H b (.lst [.ref l, .int p, .int r, .int sd, .int c1])) := fun d p r sd d0 d1 p0 r0 s0 s1 =>
        k d _ d0 d1 ⟨l, ns, p, r, sd, c1, upd_same, hl1 _, h63, p0, r0, s0, s1⟩ (Keep.upd hb)
      refine ⟨_, rfl, b, _, _, _, rfl, rfl, SqL.of upd_same, rfl, _, _, rfl, rfl, _, rfl, ?_⟩
      refine ite2 (fun c => ?_) (fun c => ?_)
      · refine ⟨_, rfl, b, _, _, _, rfl, rfl, SqL.of upd_same, rfl, .inl ⟨_, rfl, _, rfl, _, _, rfl, rfl, m0, ?_⟩⟩
        refine ⟨_, rfl, b, _, _, _, rfl, rfl, SqL.of upd_same, rfl, .inl ⟨_, rfl, _, rfl, _, _, rfl, rfl, ⟨m0, ?_⟩, _, rfl, b, _, _, _, rfl, rfl, upd_same, rfl, ?_⟩⟩
        · exact Nat.lt_trans (PySem.Flt.log2_lt_of (by decide : 0 < 64) (by omega)) (by decide)
        · rw [setq]
          refine ⟨_, rfl, ?_⟩
          exact fin _ _ _ _ (Int.emod_nonneg _ (by omega)) (Int.emod_lt_of_pos _ m0) p0 (Int.ediv_nonneg r0 (by omega)) s0 s1
      · refine ⟨_, rfl, b, _, _, _, rfl, rfl, SqL.of upd_same, rfl, .inl ⟨_, rfl, ?_⟩⟩
        refine ⟨_, rfl, _, rfl, _, _, rfl, rfl, .inl ⟨by omega, by omega⟩, _, _, rfl, rfl, .inr ⟨by decide, by decide⟩, _, rfl, _, _, rfl, rfl, .inr ⟨by decide, by decide⟩, _, _, rfl, rfl, _, rfl, b, _, _, _, rfl, rfl, SqL.of upd_same, rfl, _, _, rfl, rfl, .inr ⟨by decide, by decide⟩, _, _, rfl, rfl, _, _, rfl, rfl, .inl ⟨_, rfl, _, _, rfl, rfl, (by show (0 : Int) < 2147483563; decide), _, rfl, b, _, _, _, rfl, rfl, upd_same, rfl, ?_⟩⟩
        rw [setq]
        refine ⟨_, rfl, b, _, _, _, rfl, rfl, SqL.of upd_same, rfl, _, _, rfl, rfl, .inr ⟨by decide, by decide⟩, _, rfl, b, _, _, _, rfl, rfl, SqL.of upd_same, rfl, _, _, rfl, rfl, ⟨by decide, by decide⟩, _, _, rfl, rfl, .inl ⟨_, rfl, _, rfl, _, _, rfl, rfl, m0, ?_⟩⟩
        exact fin _ _ _ _ (Int.emod_nonneg _ (by omega)) (Int.emod_lt_of_pos _ m0) p0 r0 (Int.emod_nonneg _ (by decide)) (Int.emod_lt_of_pos _ (by decide))
end
end K0

set_option maxRecDepth 100000
set_option maxHeartbeats 4000000
namespace K0
open PySem L2

theorem Keep.seqL {K : PySem.W.Frag} {b a : Addr} {H H' : Hp} {xs : List V} (k : Keep b H H') (n : a ≠ b) (h : SqL K H a xs) : SqL K H' a xs := by
  rcases h with (h | ⟨o, h⟩) | h
  · exact .inl (.inl (k.1 _ _ n h))
  · exact .inl (.inr ⟨o, k.1 _ _ n h⟩)
  · exact .inr h
theorem Keep.seqT {K : PySem.W.Frag} {b a : Addr} {H H' : Hp} {xs : List V} (k : Keep b H H') (n : a ≠ b) (h : SqT K H a xs) : SqT K H' a xs := by
  rcases h with (h | ⟨o, h⟩) | h
  · exact .inl (.inl (k.1 _ _ n h))
  · exact .inl (.inr ⟨o, k.1 _ _ n h⟩)
  · exact .inr h
theorem Same.seqT' {K : PySem.W.Frag} {a : Addr} {H H' : Hp} {xs : List V} (k : Same H H') (h : SqT K H a xs) : SqT K H' a xs := by
  rcases h with (h | ⟨o, h⟩) | h
  · exact .inl (.inl (k _ _ h))
  · exact .inl (.inr ⟨o, k _ _ h⟩)
  · exact .inr h
theorem cut_ints (ns : List Int) (lo hi : Option Int) : ∃ ns' : List Int, cutV (ns.map V.int) lo hi = ns'.map V.int ∧ ns'.length ≤ ns.length := by
  refine ⟨(ns.drop (HT.sIx (ns.map V.int).length 0 lo)).take (HT.sIx (ns.map V.int).length (ns.map V.int).length hi - HT.sIx (ns.map V.int).length 0 lo), ?_, ?_⟩
  · unfold cutV
    rw [List.map_take, List.map_drop]
  · rw [List.length_take, List.length_drop]
    omega
theorem at_int {ns : List Int} {i : Nat} {v : V} (h : (ns.map V.int)[i]? = some v) : ∃ n, ns[i]? = some n ∧ v = .int n := by
  rw [List.getElem?_map] at h
  cases e : ns[i]? with
  | none => rw [e] at h; cases h
  | some n => rw [e] at h; exact ⟨n, rfl, (Option.some.inj h).symm⟩
theorem ints_of {l : List Int} {i : Nat} {v : V} (h : (l.map V.int)[i]? = some v) : ∃ p ∈ l, v = .int p := by
  obtain ⟨n, h1, h2⟩ := at_int h
  exact ⟨n, List.mem_of_getElem? h1, h2⟩
def spBox (K : PySem.W.Frag) : Sp := fun vs H Q _ => ∃ (a : Addr) (ns : List Int), vs = [.ref a] ∧ SqL K H a (ns.map V.int) ∧ ns.length ≤ 63 ∧ ∀ (b : Addr) (H' : Hp), Same H H' → H b = none → BoxAt H' b → Q (.ref b) H'
def spOf (K : PySem.W.Frag) : Sp := fun vs H Q _ => ∃ (b t : Addr) (xs : List V), vs = [.ref b, .ref t] ∧ BoxAt H b ∧ t ≠ b ∧ SqL K H t xs ∧ xs ≠ [] ∧ xs.length ≤ 1000 ∧ ∀ (i : Nat) (v : V) (H' : Hp), xs[i]? = some v → BoxAt H' b → Keep b H H' → Q v H'
def spPrime : Sp := fun vs H Q _ => ∃ (b : Addr), vs = [.ref b] ∧ BoxAt H b ∧ ∀ (p : Int) (H' : Hp), p ∈ primes → BoxAt H' b → Keep b H H' → Q (.int p) H'
def spNumber : Sp := fun vs H Q _ => ∃ (b : Addr) (p : Int), vs = [.ref b, .int p] ∧ BoxAt H b ∧ 0 < p ∧ p < 10000000000 ∧ ∀ (n : Int) (H' : Hp), -10000000000 ≤ n → n ≤ 10000000002 → BoxAt H' b → Keep b H H' → Q (.int n) H'
section
variable {P : Program} {w : World} {K : PySem.W.Frag} {mg : Str → Option Value} {base : Heap}
theorem ok_box (T : Txt K mg) : FnOk P w K mg base CX0 1 T.f_box T.fd_box ["script"] (spBox K) := by
  refine T.F_box.ok sc_box (fun vs H Q E h => ?_) (fun cdv A outer s H vs Q E hr h => ?_)
  · obtain ⟨b, m, rfl, _⟩ := h
    rfl
  · obtain ⟨a, ns, rfl, hS, h63, k⟩ := h
    refine ⟨_, (pss_cons (ps_set (i := 1) sc_box.nd rfl (Or.inl rfl) pe_int)
      (pss_cons (ps_for PassesOwn.never rfl (pi_list (pe_slice sl_list (pv 0) po_none (po_some pe_int))) (pg_name (i := 2) sc_box.nd rfl (Or.inl rfl)) (pss_one (ps_set (i := 1) sc_box.nd rfl (Or.inl rfl) (pe_op op_mod (pe_callTy call_int1 (by rfl) T.z_int (by decide +kernel) (pa_cons (pe_op op_add (pe_op op_add (pe_op op_mul (pv 1) pe_int) (pe_op op_mul (pe_op op_mod (pe_callTy call_int1 (by rfl) T.z_int (by decide +kernel) (pa_cons (pv 2) pa_nil)) pe_int) pe_int)) pe_int) pa_nil)) pe_int))))
      (pss_one (ps_ret (pe_lst (pa_cons (pe_callTy call_list_of (by rfl) T.z_list (by decide +kernel) (pa_cons (pe_slice sl_list (pv 0) po_none (po_some pe_int)) pa_nil)) (pa_cons pe_int (pa_cons pe_int (pa_cons (pv 1) (pa_cons pe_int pa_nil)))))))))), ?_⟩
    refine ⟨_, rfl, _, rfl, a, _, rfl, hS, fun p hp => ?_⟩
    obtain ⟨n1, e1, l1⟩ := cut_ints ns none (some 63)
    have g1 : Same H (upd H p (.lst (cutV (ns.map V.int) none (some 63)))) := same_new hp _
    have hp1 : upd H p (.lst (cutV (ns.map V.int) none (some 63))) p = some (.lst (n1.map V.int)) := by rw [upd_same, e1]
    generalize upd H p (.lst (cutV (ns.map V.int) none (some 63))) = H1 at g1 hp1
    refine ⟨p, rfl, ⟨_, SqL.of hp1⟩, for_list (K := K) (a := p) (xs := n1.map V.int) (fun i σ H' => ∃ (m : Int) (v : Option V), σ = [some (.ref a), some (.int m), v] ∧ H' = H1 ∧ 0 ≤ m ∧ m < 2147483543)
      ⟨_, _, rfl, rfl, by decide, by decide⟩ (fun i σ H' _ ⟨_, _, _, e, _⟩ => by rw [e]; exact SqL.of hp1) ?_ ?_⟩
    · rintro i y σ H' hi ⟨m, v, rfl, rfl, m0, m1⟩
      obtain ⟨z, _, rfl⟩ := at_int hi
      refine ⟨_, rfl, _, _, rfl, rfl, .inr ⟨by decide, by decide⟩, _, rfl, .inl ⟨_, rfl, _, _, rfl, rfl, (by show (0 : Int) < 1000667; decide), _, _, rfl, rfl, .inr ⟨by decide, by decide⟩, _, _, rfl, rfl, _, _, rfl, rfl, .inl ⟨_, rfl, _, _, rfl, rfl, (by show (0 : Int) < 2147483543; decide), ?_⟩⟩⟩
      exact ⟨_, _, rfl, rfl, Int.emod_nonneg _ (by decide), Int.emod_lt_of_pos _ (by decide)⟩
    · rintro σ H' ⟨m, v, rfl, rfl, m0, m1⟩
      refine ⟨_, rfl, _, rfl, a, _, rfl, g1.seq hS, fun q hq => ?_⟩
      obtain ⟨n2, e2, l2⟩ := cut_ints ns none (some 63)
      refine ⟨q, _, rfl, .inl (SqL.of upd_same), fun l hl => ?_⟩
      refine ⟨_, rfl, (by show 5 ≤ sizeLine; decide), fun b hb => ?_⟩
      have hq1 : H q = none := g1.free hq
      have g2 := same_new hq (.lst (cutV (ns.map V.int) none (some 63)))
      have g3 := same_new hl (.lst (cutV (ns.map V.int) none (some 63)))
      have g4 := same_new hb (.lst [.ref l, .int 0, .int 0, .int m, .int 0])
      refine k b _ (g1.trans (g2.trans (g3.trans g4))) (g1.free (g2.free (g3.free hb))) ⟨l, n2, 0, 0, m, 0, upd_same, ?_, by omega, by decide, by decide, m0, by omega⟩
      refine g4 _ _ ?_
      rw [upd_same, e2]
theorem ok_of (T : Txt K mg) : FnOk P w K mg base CX0 2 T.f_of T.fd_of ["box", "things"] (spOf K) := by
  refine T.F_of.ok sc_of (fun vs H Q E h => ?_) (fun cdv A outer s H vs Q E hr h => ?_)
  · obtain ⟨b, t, xs, rfl, _⟩ := h
    rfl
  · obtain ⟨b, t, xs, rfl, hB, hn, hS, h0, h1, k⟩ := h
    refine ⟨_, (pss_one (ps_ret (pe_ix ix_list (pv 1) (pe_call (ok_draw T) (hr.mono (by decide)) (by rfl) T.g_draw T.F_draw.kp T.b_draw .nil pass0 (pa_cons (pv 0) (pa_cons (pe_callB call_len_seq (by rfl) T.z_len PySem.boot_len (pa_cons (pv 1) pa_nil)) pa_nil))) (fun _ _ => rfl)))), ?_⟩
    have hpos : 0 < xs.length := List.length_pos_iff.mpr h0
    refine ⟨_, rfl, _, rfl, _, rfl, t, _, rfl, .inl hS, b, _, rfl, by omega, by omega, hB, fun d H' d0 d1 hB' hK => ?_⟩
    have ed : d = ((d.toNat : Nat) : Int) := by omega
    have q : xs[d.toNat]? = some xs[d.toNat] := List.getElem?_eq_getElem (by omega)
    refine ⟨t, xs, d, _, rfl, rfl, hK.seqL hn hS, ?_, k d.toNat _ H' q hB' hK⟩
    have z := atI_nat q
    rw [← ed] at z
    exact z
theorem ok_prime (T : Txt K mg) : FnOk P w K mg base CX0 3 T.f_prime T.fd_prime ["box"] (spPrime) := by
  refine T.F_prime.ok sc_prime (fun vs H Q E h => ?_) (fun cdv A outer s H vs Q E hr h => ?_)
  · obtain ⟨b, rfl, _⟩ := h
    rfl
  · obtain ⟨b, rfl, hB, k⟩ := h
    refine ⟨_, (pss_cons (ps_set (i := 1) sc_prime.nd rfl (Or.inl rfl) (pe_call (ok_draw T) (hr.mono (by decide)) (by rfl) T.g_draw T.F_draw.kp T.b_draw .nil pass0 (pa_cons (pv 0) (pa_cons pe_int pa_nil))))
      (pss_cons (ps_if (pt_cmpR op_lt (pv 1) pe_int (nomark _)) (pss_one (ps_ret (pe_call (ok_of T) (hr.mono (by decide)) (by rfl) T.g_of T.F_of.kp T.b_of .nil pass0 (pa_cons (pv 0) (pa_cons (pe_lst (pa_cons pe_int (pa_cons pe_int (pa_cons pe_int (pa_cons pe_int (pa_cons pe_int (pa_cons pe_int (pa_cons pe_int (pa_cons pe_int pa_nil))))))))) pa_nil))))) pss_nil)
      (pss_cons (ps_if (pt_cmpR op_lt (pv 1) pe_int (nomark _)) (pss_one (ps_ret (pe_call (ok_of T) (hr.mono (by decide)) (by rfl) T.g_of T.F_of.kp T.b_of .nil pass0 (pa_cons (pv 0) (pa_cons (pe_lst (pa_cons pe_int (pa_cons pe_int (pa_cons pe_int (pa_cons pe_int pa_nil))))) pa_nil))))) pss_nil)
      (pss_one (ps_ret (pe_call (ok_of T) (hr.mono (by decide)) (by rfl) T.g_of T.F_of.kp T.b_of .nil pass0 (pa_cons (pv 0) (pa_cons (pe_lst (pa_cons pe_int (pa_cons pe_int (pa_cons pe_int (pa_cons pe_int (pa_cons pe_int pa_nil)))))) pa_nil)))))))), ?_⟩
    have fin : ∀ (l : List Int), l ≠ [] → l.length ≤ 1000 → (∀ p ∈ l, p ∈ primes) → ∀ (H1 : Hp), BoxAt H1 b → Keep b H H1 → ∀ p, H1 p = none → spOf K [.ref b, .ref p] (upd H1 p (.lst (l.map V.int))) Q E := fun l l0 l1 lp H1 hB1 hK1 p hp => by
      have g := same_new hp (.lst (l.map V.int))
      refine ⟨b, p, _, rfl, hB1.same g, hB1.ne hp, SqL.of upd_same, by simpa using l0, by simpa using l1, fun i v H' hi hB' hK => ?_⟩
      obtain ⟨n, hn, rfl⟩ := ints_of hi
      exact k n H' (lp n hn) hB' (hK1.trans ((Keep.of_same g).trans hK))
    refine ⟨_, rfl, b, _, rfl, by decide, by decide, hB, fun d H1 d0 d1 hB1 hK1 => ?_⟩
    refine ⟨_, rfl, _, _, rfl, rfl, _, rfl, ite2 (fun c => ?_) (fun c => ?_)⟩
    · exact ⟨_, rfl, (by show 8 ≤ sizeLine; decide), fun p hp => fin [2, 3, 5, 7, 11, 13, 17, 31] (by decide) (by decide) (by decide +kernel) H1 hB1 hK1 p hp⟩
    · refine ⟨_, rfl, _, _, rfl, rfl, _, rfl, ite2 (fun c => ?_) (fun c => ?_)⟩
      · exact ⟨_, rfl, (by show 4 ≤ sizeLine; decide), fun p hp => fin [97, 193, 257, 769] (by decide) (by decide) (by decide +kernel) H1 hB1 hK1 p hp⟩
      · exact ⟨_, rfl, (by show 5 ≤ sizeLine; decide), fun p hp => fin [7681, 12289, 998244353, 2013265921, 9999999967] (by decide) (by decide) (by decide +kernel) H1 hB1 hK1 p hp⟩
theorem ok_number (T : Txt K mg) : FnOk P w K mg base CX0 2 T.f_number T.fd_number ["box", "prime"] (spNumber) := by
  refine T.F_number.ok sc_number (fun vs H Q E h => ?_) (fun cdv A outer s H vs Q E hr h => ?_)
  · obtain ⟨b, p, rfl, _⟩ := h
    rfl
  · obtain ⟨b, p, rfl, hB, p0, p1, k⟩ := h
    refine ⟨_, (pss_cons (ps_set (i := 2) sc_number.nd rfl (Or.inl rfl) (pe_call (ok_draw T) (hr.mono (by decide)) (by rfl) T.g_draw T.F_draw.kp T.b_draw .nil pass0 (pa_cons (pv 0) (pa_cons pe_int pa_nil))))
      (pss_cons (ps_if (pt_cmpR op_lt (pv 2) pe_int (nomark _)) (pss_one (ps_ret (pe_call (ok_draw T) (hr.mono (by decide)) (by rfl) T.g_draw T.F_draw.kp T.b_draw .nil pass0 (pa_cons (pv 0) (pa_cons (pv 1) pa_nil))))) pss_nil)
      (pss_cons (ps_if (pt_cmpR op_eq (pv 2) pe_int (nomark _)) (pss_one (ps_ret pe_int)) pss_nil)
      (pss_cons (ps_if (pt_cmpR op_eq (pv 2) pe_int (nomark _)) (pss_one (ps_ret (pe_op op_sub (pe_call (ok_draw T) (hr.mono (by decide)) (by rfl) T.g_draw T.F_draw.kp T.b_draw .nil pass0 (pa_cons (pv 0) (pa_cons pe_int pa_nil))) pe_int))) pss_nil)
      (pss_cons (ps_if (pt_cmpR op_eq (pv 2) pe_int (nomark _)) (pss_one (ps_ret (pe_op op_add (pe_op op_sub (pv 1) pe_int) (pe_call (ok_draw T) (hr.mono (by decide)) (by rfl) T.g_draw T.F_draw.kp T.b_draw .nil pass0 (pa_cons (pv 0) (pa_cons pe_int pa_nil)))))) pss_nil)
      (pss_cons (ps_if (pt_cmpR op_eq (pv 2) pe_int (nomark _)) (pss_one (ps_ret (pe_op op_sub pe_int (pe_call (ok_draw T) (hr.mono (by decide)) (by rfl) T.g_draw T.F_draw.kp T.b_draw .nil pass0 (pa_cons (pv 0) (pa_cons (pe_op op_pow pe_int pe_int) pa_nil)))))) pss_nil)
      (pss_one (ps_ret (pe_call (ok_draw T) (hr.mono (by decide)) (by rfl) T.g_draw T.F_draw.kp T.b_draw .nil pass0 (pa_cons (pv 0) (pa_cons (pe_op op_pow pe_int pe_int) pa_nil))))))))))), ?_⟩
    refine ⟨_, rfl, b, _, rfl, by decide, by decide, hB, fun d H1 d0 d1 hB1 hK1 => ?_⟩
    have e10 : (10 : Int) ^ (Int.toNat 10) = 10000000000 := by decide
    refine ⟨_, rfl, _, _, rfl, rfl, _, rfl, ite2 (fun c => ?_) (fun c => ?_)⟩
    · exact ⟨_, rfl, _, rfl, b, _, rfl, p0, by omega, hB1, fun n H' n0 n1 hB' hK => k n H' (by omega) (by omega) hB' (hK1.trans hK)⟩
    refine ⟨_, rfl, rfl, _, rfl, ite2 (fun c => ?_) (fun c => ?_)⟩
    · exact k 0 H1 (by decide) (by decide) hB1 hK1
    refine ⟨_, rfl, rfl, _, rfl, ite2 (fun c => ?_) (fun c => ?_)⟩
    · refine ⟨_, rfl, b, _, rfl, by decide, by decide, hB1, fun n H' n0 n1 hB' hK => ⟨_, _, rfl, rfl, ?_⟩⟩
      exact k (n - 1) H' (by omega) (by omega) hB' (hK1.trans hK)
    refine ⟨_, rfl, rfl, _, rfl, ite2 (fun c => ?_) (fun c => ?_)⟩
    · refine ⟨_, rfl, _, _, rfl, rfl, _, rfl, b, _, rfl, by decide, by decide, hB1, fun n H' n0 n1 hB' hK => ⟨_, _, rfl, rfl, ?_⟩⟩
      exact k (p - 1 + n) H' (by omega) (by omega) hB' (hK1.trans hK)
    refine ⟨_, rfl, rfl, _, rfl, ite2 (fun c => ?_) (fun c => ?_)⟩
    · refine ⟨_, rfl, _, _, rfl, rfl, ⟨by decide, by decide, by decide⟩, b, _, rfl, by decide, by decide, hB1, fun n H' n0 n1 hB' hK => ⟨_, _, rfl, rfl, ?_⟩⟩
      exact k (0 - n) H' (by omega) (by omega) hB' (hK1.trans hK)
    · refine ⟨_, rfl, _, _, rfl, rfl, ⟨by decide, by decide, by decide⟩, b, _, rfl, by decide, by decide, hB1, fun n H' n0 n1 hB' hK => ?_⟩
      exact k n H' (by omega) (by omega) hB' (hK1.trans hK)
end
end K0

set_option maxRecDepth 100000
set_option maxHeartbeats 4000000
namespace K0
open PySem L2

def spPower : Sp := fun vs H Q _ => ∃ (x : Int) (n : Nat) (p : Int), vs = [.int x, .int (n : Int), .int p] ∧ 1 < p ∧ p < 2 ^ 64 ∧ Q (.int (x ^ n % p)) H
def spInv : Sp := fun vs H Q E => ∃ (x p : Int), vs = [.int x, .int p] ∧ Prm p ∧ p < 2 ^ 64 ∧ (x % p = 0 → E (.type "ZeroDivisionError") none H) ∧ (x % p ≠ 0 → ∀ (r : Int) (H' : Hp), 0 < r → r < p → (r * x) % p = 1 → Same H H' → Q (.int r) H')
/-! ### values of any kind -/
def Sc (x : V) : Prop := match x with | .non => True | .bl _ => True | .int _ => True | .str _ => True | _ => False
/-- two values that are alike, n deep; none of their parts is the box at b -/
def EqV (K : PySem.W.Frag) (b : Addr) (H : Hp) : Nat → V → V → Prop
  | 0, x, y => Sc x ∧ x = y
  | n + 1, x, y => (Sc x ∧ x = y) ∨ ∃ (a c : Addr) (xs ys : List V), x = .ref a ∧ y = .ref c ∧ a ≠ b ∧ c ≠ b ∧ ((SqL K H a xs ∧ SqL K H c ys) ∨ (SqT K H a xs ∧ SqT K H c ys)) ∧ xs.length ≤ 1000 ∧ xs.length = ys.length ∧
      ∀ (i : Nat) (u v : V), xs[i]? = some u → ys[i]? = some v → EqV K b H n u v
theorem EqV.keep {K : PySem.W.Frag} {b : Addr} {H H' : Hp} (k : Keep b H H') : ∀ {n : Nat} {x y : V}, EqV K b H n x y → EqV K b H' n x y
  | 0, _, _, h => h
  | n + 1, x, y, h => by
    rcases h with h | ⟨a, c, xs, ys, e1, e2, n1, n2, h, l1, l2, r⟩
    · exact .inl h
    · refine .inr ⟨a, c, xs, ys, e1, e2, n1, n2, ?_, l1, l2, fun i u v hu hv => (r i u v hu hv).keep k⟩
      rcases h with ⟨h1, h2⟩ | ⟨h1, h2⟩
      · exact .inl ⟨k.seqL n1 h1, k.seqL n2 h2⟩
      · exact .inr ⟨k.seqT n1 h1, k.seqT n2 h2⟩
theorem EqV.sc {K : PySem.W.Frag} {b : Addr} {H : Hp} {x : V} (h : Sc x) : ∀ {n : Nat}, EqV K b H n x x
  | 0 => ⟨h, rfl⟩
  | _ + 1 => .inl ⟨h, rfl⟩
theorem EqV.up {K : PySem.W.Frag} {b : Addr} {H : Hp} : ∀ {n : Nat} {x y : V}, EqV K b H n x y → EqV K b H (n + 1) x y
  | 0, _, _, h => .inl h
  | n + 1, x, y, h => by
    rcases h with h | ⟨a, c, xs, ys, e1, e2, n1, n2, h, l1, l2, r⟩
    · exact .inl h
    · exact .inr ⟨a, c, xs, ys, e1, e2, n1, n2, h, l1, l2, fun i u v hu hv => (r i u v hu hv).up⟩
/-- its type's name -/
def Kd (K : PySem.W.Frag) (H : Hp) (x : V) (k : String) : Prop := TyX K H x (.type k)
theorem kdL {K : PySem.W.Frag} {H : Hp} {a : Addr} {xs : List V} (h : SqL K H a xs) : Kd K H (.ref a) "list" := by
  rcases h with (h | ⟨o, h⟩) | ⟨o, its, n, h, hc, _⟩
  · exact .base (.lst h)
  · exact .base (.frz h)
  · exact .kList h hc
theorem kdT {K : PySem.W.Frag} {H : Hp} {a : Addr} {xs : List V} (h : SqT K H a xs) : Kd K H (.ref a) "tuple" := by
  rcases h with (h | ⟨o, h⟩) | ⟨o, its, n, h, hc, _⟩
  · exact .base (.tup h)
  · exact .fTuple h
  · exact .kTuple h hc
def kinds : List String := ["NoneType", "bool", "int", "str", "list", "tuple"]
/-- data, by its kind -/
theorem EqV.kd {K : PySem.W.Frag} {b : Addr} {H : Hp} {n : Nat} {x y : V} (h : EqV K b H n x y) : ∃ k, k ∈ kinds ∧ Kd K H x k ∧ (k = "int" ↔ ∃ i, x = .int i) ∧ (k = "bool" ↔ ∃ i, x = .bl i) := by
  have sc : Sc x → ∃ k, k ∈ kinds ∧ Kd K H x k ∧ (k = "int" ↔ ∃ i, x = .int i) ∧ (k = "bool" ↔ ∃ i, x = .bl i) := fun s => by
    match x, s with
    | .non, _ => exact ⟨"NoneType", by decide, .base .non, by simp, by simp⟩
    | .bl c, _ => exact ⟨"bool", by decide, .base (.bl c), by simp, by simp⟩
    | .int c, _ => exact ⟨"int", by decide, .base (.int c), by simp, by simp⟩
    | .str c, _ => exact ⟨"str", by decide, .base (.str c), by simp, by simp⟩
  cases n with
  | zero => exact sc h.1
  | succ n =>
    rcases h with h | ⟨a, c, xs, ys, rfl, _, _, _, h, _⟩
    · exact sc h.1
    · rcases h with ⟨h, _⟩ | ⟨h, _⟩
      · exact ⟨"list", by decide, kdL h, by simp, by simp⟩
      · exact ⟨"tuple", by decide, kdT h, by simp, by simp⟩
def isI (x : V) : Bool := match x with | .int _ => true | _ => false
def isB (x : V) : Bool := match x with | .bl _ => true | _ => false
section
variable {P : Program} {w : World} {K : PySem.W.Frag} {mg : Str → Option Value} {base : Heap}
theorem ok_inverse (T : Txt K mg) : FnOk P w K mg base (L2.CX P w) 1 T.f_inverse T.fd_inverse ["worth", "p"] (spInv) := by
  refine T.F_inverse.okX sc_inverse (fun vs H Q E h => ?_) (fun cdv A outer s H vs Q E hr h => ?_)
  · obtain ⟨b, m, rfl, _⟩ := h
    rfl
  · obtain ⟨x, p, rfl, P1, p2, kE, k⟩ := h
    have p1 := P1.1
    refine ⟨_, (pss_cons (ps_par (i := 2) (j := 3) (by rfl) sc_inverse.nd rfl rfl (by decide) rfl rfl (pa_cons (pe_op op_mod (pv 0) (pv 1)) (pa_cons (pv 1) pa_nil)) (by rfl))
      (pss_cons (ps_if (pt_cmpR op_eq (pv 2) pe_int (nomark _)) (pss_one (ps_raise rfl (takes_of rfl rfl rfl rfl) (pmk_exbS exb_ZeroDivisionError (by rfl) T.z_ZeroDivisionError (by decide +kernel)))) pss_nil)
      (pss_cons (ps_asg (pe_tup (pa_cons pe_int (pa_cons pe_int pa_nil))) (pg_tup (by rfl) (pgs_cons (pg_name (i := 4) sc_inverse.nd rfl (Or.inl rfl)) (pgs_cons (pg_name (i := 5) sc_inverse.nd rfl (Or.inl rfl)) pgs_nil))))
      (pss_cons (ps_while (passes_of rfl) (pt_cmpR op_gt (pv 2) pe_int (nomark _)) (pss_cons (ps_set (i := 6) sc_inverse.nd rfl (Or.inl rfl) (pe_op op_fdivW (pv 3) (pv 2)))
      (pss_cons (ps_par (i := 2) (j := 3) (by rfl) sc_inverse.nd rfl rfl (by decide) rfl rfl (pa_cons (pe_op op_sub (pv 3) (pe_op op_mul (pv 6) (pv 2))) (pa_cons (pv 2) pa_nil)) (by rfl))
      (pss_one (ps_par (i := 4) (j := 5) (by rfl) sc_inverse.nd rfl rfl (by decide) rfl rfl (pa_cons (pe_op op_sub (pv 5) (pe_op op_mul (pv 6) (pv 4))) (pa_cons (pv 4) pa_nil)) (by rfl))))))
      (pss_one (ps_ret (pe_op op_mod (pv 4) (pv 1)))))))), ?_⟩
    refine ⟨_, rfl, _, rfl, _, _, rfl, rfl, (by show (0 : Int) < p; omega), _, rfl, _, _, rfl, ?_⟩
    refine ⟨_, rfl, rfl, _, rfl, ite2 (fun c => ?_) (fun c => ?_)⟩
    · exact kE (V.int.inj (of_decide_eq_true c))
    have nz : x % p ≠ 0 := fun z => c (decide_eq_true (congrArg V.int z))
    refine ⟨(by show 2 ≤ sizeLine; decide), fun tp htp => ⟨tp, _, rfl, SqT.of upd_same, rfl, _, _, rfl, _, _, rfl, rfl, ?_⟩⟩
    have gS := same_new htp (.tup [.int 1, .int 0])
    generalize upd H tp (.tup [.int 1, .int 0]) = HH at gS ⊢
    refine ⟨fun m σ H' => ∃ low high one other : Int, ∃ v : Option V, σ = [some (.int x), some (.int p), some (.int low), some (.int high), some (.int one), some (.int other), v] ∧ H' = HH ∧ InvI x p low high one other ∧ m = low.toNat,
      ⟨_, _, _, _, _, _, rfl, rfl, inv_start P1 nz, rfl⟩, ?_⟩
    rintro m σ H' ⟨low, high, one, other, v, rfl, rfl, I, rfl⟩
    have l0 := I.l0
    have lh := I.lh
    have hp := I.hp
    refine ⟨_, rfl, _, _, rfl, rfl, _, rfl, ite2 (fun c => ?_) (fun c => ?_)⟩
    · have l1 : 1 < low := of_decide_eq_true c
      refine ⟨fun σ' H'' => ∃ low' high' one' other' : Int, ∃ v : Option V, σ' = [some (.int x), some (.int p), some (.int low'), some (.int high'), some (.int one'), some (.int other'), v] ∧ H'' = H' ∧ InvI x p low' high' one' other' ∧ low'.toNat < low.toNat, ?_, ?_⟩
      · rintro σ' H'' ⟨low', high', one', other', v, rfl, rfl, I', hl⟩
        exact ⟨_, hl, _, _, _, _, _, rfl, rfl, I', rfl⟩
      · have q0 : 0 ≤ high / low := Int.ediv_nonneg (by omega) l0
        have q1 : high / low ≤ high := Int.ediv_le_self _ (by omega)
        refine ⟨_, rfl, _, rfl, _, _, rfl, rfl, ⟨by omega, Nat.lt_trans (PySem.Flt.log2_lt_of (by decide : 0 < 64) (by omega)) (by decide)⟩, ?_⟩
        refine ⟨_, rfl, _, rfl, _, rfl, _, _, rfl, rfl, .inl ⟨by omega, by omega⟩, _, _, rfl, rfl, _, rfl, _, _, rfl, ?_⟩
        refine ⟨_, rfl, _, rfl, _, rfl, _, _, rfl, rfl, .inl ⟨by omega, by omega⟩, _, _, rfl, rfl, _, rfl, _, _, rfl, ?_⟩
        obtain ⟨I', hl⟩ := inv_turn I l1
        exact ⟨_, _, _, _, _, rfl, rfl, I', hl⟩
    · have l1 : ¬ 1 < low := fun z => c (decide_eq_true z)
      obtain ⟨r0, r1, r2⟩ := inv_end I l1
      exact ⟨_, rfl, _, rfl, _, _, rfl, rfl, (by show (0 : Int) < p; omega), k nz _ _ r0 r1 r2 gS⟩
end
end K0

set_option maxRecDepth 100000
set_option maxHeartbeats 4000000
namespace K0
open PySem L2

def ItzS (Sq : Hp → Addr → List V → Prop) (a b : Addr) : It :=
  ⟨fun i H => ∃ (xs ys : List V) (x y : V), Sq H a xs ∧ Sq H b ys ∧ xs[i]? = some x ∧ ys[i]? = some y,
    fun i H v H' => ∃ T x y, v = .ref T ∧ H T = none ∧ H' = upd H T (.tup [x, y]) ∧ (∀ xs, Sq H a xs → xs[i]? = some x) ∧ ∀ ys, Sq H b ys → ys[i]? = some y,
    fun i H => ∃ xs ys : List V, Sq H a xs ∧ Sq H b ys ∧ (xs.length ≤ i ∨ ys.length ≤ i)⟩
theorem lc_zipS {Sq : Hp → Addr → List V → Prop} {a b : Addr} {xs ys : List V} {g : TG} {tt : TT} {te : TE} {vs : List Nat} {σ : L2.St} {H1 : Hp} {D : Addr} {Qd : Hp → Prop} (hl : xs.length = ys.length) (Pv : Nat → Hp → Prop) (h0 : Pv 0 (upd H1 D (.lst []))) (hq : ∀ i H, Pv i H → Sq H a xs ∧ Sq H b ys)
    (hs : ∀ (i : Nat) (x y : V) (T : Addr) (H : Hp), xs[i]? = some x → ys[i]? = some y → Pv i H → H T = none → g (.ref T) (wipe σ vs) (upd H T (.tup [x, y])) fun σ2 H2 => wipe σ2 vs = wipe σ vs ∧ tt σ2 H2 fun b H3 =>
      if b = true then te σ2 H3 fun y H4 => ∃ acc, H4 D = some (.lst acc) ∧ acc.length < sizeLine ∧ Pv (i + 1) (upd H4 D (.lst (acc ++ [y]))) else Pv (i + 1) H3) (hd : ∀ H, Pv xs.length H → Qd H) :
    ∃ W : Nat → Nat → Hp → Prop, (∃ m, W 0 m (upd H1 D (.lst []))) ∧ ∀ i m H, W i m H →
      ((ItzS Sq a b).stop i H ∧ Qd H) ∨ ((ItzS Sq a b).go i H ∧ ∃ Nx : Hp → Prop, (∀ H', Nx H' → ∃ m', m' < m ∧ W (i + 1) m' H') ∧ ∀ x H', (ItzS Sq a b).yld i H x H' → g x (wipe σ vs) H' fun σ2 H2 => wipe σ2 vs = wipe σ vs ∧ tt σ2 H2 fun b H3 =>
        if b = true then te σ2 H3 fun y H4 => ∃ acc, H4 D = some (.lst acc) ∧ acc.length < sizeLine ∧ Nx (upd H4 D (.lst (acc ++ [y]))) else Nx H3) := by
  refine ⟨fun i m H => m = xs.length - i ∧ i ≤ xs.length ∧ Pv i H, ⟨xs.length, rfl, Nat.zero_le _, h0⟩, ?_⟩
  rintro i m H ⟨rfl, hi, p⟩
  obtain ⟨qx, qy⟩ := hq i H p
  by_cases hlt : i < xs.length
  · have hx : xs[i]? = some xs[i] := List.getElem?_eq_getElem hlt
    have hy : ys[i]? = some ys[i] := List.getElem?_eq_getElem (by omega)
    refine .inr ⟨⟨xs, ys, _, _, qx, qy, hx, hy⟩, Pv (i + 1), fun H' p' => ⟨xs.length - (i + 1), by omega, rfl, hlt, p'⟩, fun v H' y => ?_⟩
    obtain ⟨T, x, y, rfl, hT, rfl, ex, ey⟩ := y
    exact hs i x y T H (ex xs qx) (ey ys qy) p hT
  · have e : i = xs.length := by omega
    subst e
    exact .inl ⟨⟨xs, ys, qx, qy, .inl (Nat.le_refl _)⟩, hd H p⟩
theorem isi_b {K : PySem.W.Frag} {H : Hp} {x : V} {k t : String} {r : Bool} {Q : VK} (ty : Kd K H x k) (h : kitB k t = some r) (q : Q (.bl r) H) : rIsi K [x, .ty t] H Q := ⟨x, .ty t, _, _, r, rfl, .ty t, ty, kit_ty h, q⟩
theorem kit_lt {K : PySem.W.Frag} {k : String} {r1 r2 : Bool} (h1 : kitB k "list" = some r1) (h2 : kitB k "tuple" = some r2) : PySem.W.kitAny K (.type k) [.type "list", .type "tuple"] = some (r1 || r2) := by
  refine kitAny_cons (kit_ty h1) (fun e => ?_) (fun e => by rw [e]; rfl)
  rw [e, Bool.false_or]
  exact kitAny_cons (kit_ty h2) (fun e => by rw [e]; exact kitAny_nil) (fun e => e)
theorem EqV.cs {K : PySem.W.Frag} {b : Addr} {H : Hp} {n : Nat} {x y : V} (h : EqV K b H n x y) : (Sc x ∧ x = y) ∨ ∃ (m : Nat) (a c : Addr) (xs ys : List V), n = m + 1 ∧ x = .ref a ∧ y = .ref c ∧ a ≠ b ∧ c ≠ b ∧ ((SqL K H a xs ∧ SqL K H c ys) ∨ (SqT K H a xs ∧ SqT K H c ys)) ∧ xs.length ≤ 1000 ∧ xs.length = ys.length ∧
      ∀ (i : Nat) (u v : V), xs[i]? = some u → ys[i]? = some v → EqV K b H m u v := by
  cases n with
  | zero => exact .inl h
  | succ m =>
    rcases h with h | ⟨a, c, xs, ys, h⟩
    · exact .inl h
    · exact .inr ⟨m, a, c, xs, ys, rfl, h⟩
def spSame (K : PySem.W.Frag) : Nat → Sp
  | 0 => fun _ _ _ _ => False
  | n + 1 => fun vs H Q _ => ∃ (b : Addr) (x y : V), vs = [x, y] ∧ EqV K b H n x y ∧ ∀ H', Same H H' → Q (.bl true) H'
section
variable {P : Program} {w : World} {K : PySem.W.Frag} {mg : Str → Option Value} {base : Heap}
theorem ok_same_step (T : Txt K mg) {n : Nat} (G : FnOk P w K mg base CX0 n T.f_same T.fd_same ["found", "due"] (spSame K n)) : FnOk P w K mg base CX0 (n + 1) T.f_same T.fd_same ["found", "due"] (spSame K (n + 1)) := by
  refine T.F_same.ok sc_same (fun vs H Q E h => ?_) (fun cdv A outer s H vs Q E hr h => ?_)
  · obtain ⟨b, x, y, rfl, _⟩ := h
    rfl
  · obtain ⟨b, x, y, rfl, hE, k⟩ := h
    refine ⟨_, (pss_cons (ps_if (pt_val (pe_callB call_isiT (by rfl) T.z_isinstance (by decide +kernel) (pa_cons (pv 1) (pa_cons (pe_tup (pa_cons (pe_bltn (v := .ty "list") (by rfl) T.z_list (by decide +kernel) rfl) (pa_cons (pe_bltn (v := .ty "tuple") (by rfl) T.z_tuple (by decide +kernel) rfl) pa_nil))) pa_nil)))) (pss_cons (ps_if (PW.pt (pw_or (pt_cmpR op_ne (pe_callB call_isi (by rfl) T.z_isinstance (by decide +kernel) (pa_cons (pv 0) (pa_cons (pe_bltn (v := .ty "list") (by rfl) T.z_list (by decide +kernel) rfl) pa_nil))) (pe_callB call_isi (by rfl) T.z_isinstance (by decide +kernel) (pa_cons (pv 1) (pa_cons (pe_bltn (v := .ty "list") (by rfl) T.z_list (by decide +kernel) rfl) pa_nil))) (nomark _)) (pw_or1 (pt_cmpR op_ne (pe_callB call_isi (by rfl) T.z_isinstance (by decide +kernel) (pa_cons (pv 0) (pa_cons (pe_bltn (v := .ty "tuple") (by rfl) T.z_tuple (by decide +kernel) rfl) pa_nil))) (pe_callB call_isi (by rfl) T.z_isinstance (by decide +kernel) (pa_cons (pv 1) (pa_cons (pe_bltn (v := .ty "tuple") (by rfl) T.z_tuple (by decide +kernel) rfl) pa_nil))) (nomark _))))) (pss_one (ps_ret pe_bl)) pss_nil)
      (pss_one (ps_ret (pe_and (pe_cmpR op_eq (pe_callB call_len_seq (by rfl) T.z_len PySem.boot_len (pa_cons (pv 0) pa_nil)) (pe_callB call_len_seq (by rfl) T.z_len PySem.boot_len (pa_cons (pv 1) pa_nil)) (nomark _)) (pe_one (pe_callB (cr_all rfl) (by rfl) T.z_all (by decide +kernel) (pa_cons (pe_lc (own := [("a", 2), ("b", 3)]) (g := gTup K 2 (gCons (gName 2) (gCons (gName 3) gNil))) (tt := tYes) (by rfl) sc_same.nd (RZ.pi_zipA (by rfl) T.z_zip (pa_cons (pv 0) (pa_cons (pv 1) pa_nil))) (blkOk_by (own := [("a", 2), ("b", 3)]) (N := ["found", "due", "a", "b"]) (sc := defScope s_same) (by decide +kernel)) (fun _ _ _ _ _ => (pg_tup (by rfl) (pgs_cons (pg_name (i := 2) sc_same.nd rfl (Or.inl rfl)) (pgs_cons (pg_name (i := 3) sc_same.nd rfl (Or.inl rfl)) pgs_nil)))) (fun _ _ _ _ _ => pts_nil) (fun _ _ _ _ _ => (pe_call G hr (by rfl) T.g_same T.F_same.kp T.b_same .nil pass0 (pa_cons (pv 2) (pa_cons (pv 3) pa_nil))))) pa_nil))))))) pss_nil)
      (pss_cons (ps_if (PW.pt (pw_or (pt_cmpR op_isN (pv 1) pe_non (nomark _)) (pw_or1 (pt_cmpR op_isN (pv 0) pe_non (nomark _))))) (pss_one (ps_ret (pe_and (pe_cmpR op_isN (pv 1) pe_non (nomark _)) (pe_one (pe_cmpR op_isN (pv 0) pe_non (nomark _)))))) pss_nil)
      (pss_cons (ps_if (PW.pt (pw_or (pt_val (pe_callB call_isi (by rfl) T.z_isinstance (by decide +kernel) (pa_cons (pv 1) (pa_cons (pe_bltn (v := .ty "bool") (by rfl) T.z_bool (by decide +kernel) rfl) pa_nil)))) (pw_or1 (pt_val (pe_callB call_isi (by rfl) T.z_isinstance (by decide +kernel) (pa_cons (pv 0) (pa_cons (pe_bltn (v := .ty "bool") (by rfl) T.z_bool (by decide +kernel) rfl) pa_nil))))))) (pss_one (ps_ret (pe_and (pe_callB call_isi (by rfl) T.z_isinstance (by decide +kernel) (pa_cons (pv 1) (pa_cons (pe_bltn (v := .ty "bool") (by rfl) T.z_bool (by decide +kernel) rfl) pa_nil))) (pe_and (pe_callB call_isi (by rfl) T.z_isinstance (by decide +kernel) (pa_cons (pv 0) (pa_cons (pe_bltn (v := .ty "bool") (by rfl) T.z_bool (by decide +kernel) rfl) pa_nil))) (pe_one (pe_cmpR op_eq (pv 0) (pv 1) (nomark _))))))) pss_nil)
      (pss_cons (ps_if (pt_val (pe_callB call_isi (by rfl) T.z_isinstance (by decide +kernel) (pa_cons (pv 1) (pa_cons (pe_bltn (v := .ty "int") (by rfl) T.z_int (by decide +kernel) rfl) pa_nil)))) (pss_one (ps_ret (pe_and (pe_callB call_isi (by rfl) T.z_isinstance (by decide +kernel) (pa_cons (pv 0) (pa_cons (pe_bltn (v := .ty "int") (by rfl) T.z_int (by decide +kernel) rfl) pa_nil))) (pe_one (pe_cmpR op_eq (pv 0) (pv 1) (nomark _)))))) pss_nil)
      (pss_one (ps_ret (pe_and (pe_callB call_isi (by rfl) T.z_isinstance (by decide +kernel) (pa_cons (pv 0) (pa_cons (pe_bltn (v := .ty "str") (by rfl) T.z_str (by decide +kernel) rfl) pa_nil))) (pe_one (pe_cmpR op_eq (pv 0) (pv 1) (nomark _)))))))))), ?_⟩
    rcases hE.cs with ⟨hs, rfl⟩ | ⟨m, a, c, xs, ys, rfl, rfl, rfl, na, nc, hq, l1, l2, hr2⟩
    · -- scalars
      have top : ∀ (kd : String), Kd K H x kd → (∀ H1, Same H H1 → Kd K H1 x kd) → True := fun _ _ _ => trivial
      refine ⟨_, rfl, (by show 2 ≤ sizeLine; decide), fun tp htp => ?_⟩
      have g1 := same_new htp (.tup [.ty "list", .ty "tuple"])
      have e1 : upd H tp (.tup [.ty "list", .ty "tuple"]) tp = some (.tup [.ty "list", .ty "tuple"]) := upd_same
      generalize upd H tp (.tup [.ty "list", .ty "tuple"]) = H1 at g1 e1 ⊢
      match x, hs with
      | .non, _ =>
        refine ⟨_, tp, _, .type "NoneType", [.type "list", .type "tuple"], false, rfl, e1, .cons (.ty _) (.cons (.ty _) .nil), .base .non, kit_lt (r1 := false) (r2 := false) (by decide +kernel) (by decide +kernel), ?_⟩
        refine ⟨_, rfl, iteF ?_⟩
        refine ⟨_, rfl, rfl, _, rfl, iteT ?_⟩
        exact ⟨_, rfl, rfl, _, rfl, iteT ⟨_, rfl, rfl, k _ g1⟩⟩
      | .bl z, _ =>
        have ty : Kd K H1 (.bl z) "bool" := .base (.bl z)
        refine ⟨_, tp, _, _, [.type "list", .type "tuple"], false, rfl, e1, .cons (.ty _) (.cons (.ty _) .nil), ty, kit_lt (r1 := false) (r2 := false) (by decide +kernel) (by decide +kernel), ?_⟩
        refine ⟨_, rfl, iteF ?_⟩
        refine ⟨_, rfl, rfl, _, rfl, iteF ⟨_, rfl, rfl, _, rfl, iteF ?_⟩⟩
        refine ⟨_, rfl, _, _, _, _, true, rfl, .ty _, ty, kit_ty (by decide +kernel), _, rfl, iteT ?_⟩
        refine ⟨_, rfl, _, _, _, _, true, rfl, .ty _, ty, kit_ty (by decide +kernel), _, rfl, iteT ?_⟩
        refine ⟨_, rfl, _, _, _, _, true, rfl, .ty _, ty, kit_ty (by decide +kernel), _, rfl, iteT ?_⟩
        refine ⟨_, rfl, _, rfl, rfl, ?_⟩
        have e : decide (V.bl z = V.bl z) = true := decide_eq_true rfl
        show Q (.bl (decide (V.bl z = V.bl z))) H1
        rw [e]
        exact k _ g1
      | .int z, _ =>
        have ty : Kd K H1 (.int z) "int" := .base (.int z)
        refine ⟨_, tp, _, _, [.type "list", .type "tuple"], false, rfl, e1, .cons (.ty _) (.cons (.ty _) .nil), ty, kit_lt (r1 := false) (r2 := false) (by decide +kernel) (by decide +kernel), ?_⟩
        refine ⟨_, rfl, iteF ?_⟩
        refine ⟨_, rfl, rfl, _, rfl, iteF ⟨_, rfl, rfl, _, rfl, iteF ?_⟩⟩
        refine ⟨_, rfl, _, _, _, _, false, rfl, .ty _, ty, kit_ty (by decide +kernel), _, rfl, iteF ?_⟩
        refine ⟨_, rfl, _, _, _, _, false, rfl, .ty _, ty, kit_ty (by decide +kernel), _, rfl, iteF ?_⟩
        refine ⟨_, rfl, _, _, _, _, true, rfl, .ty _, ty, kit_ty (by decide +kernel), _, rfl, iteT ?_⟩
        refine ⟨_, rfl, _, _, _, _, true, rfl, .ty _, ty, kit_ty (by decide +kernel), _, rfl, iteT ?_⟩
        refine ⟨_, rfl, _, rfl, rfl, ?_⟩
        have e : decide (V.int z = V.int z) = true := decide_eq_true rfl
        show Q (.bl (decide (V.int z = V.int z))) H1
        rw [e]
        exact k _ g1
      | .str z, _ =>
        have ty : Kd K H1 (.str z) "str" := .base (.str z)
        refine ⟨_, tp, _, _, [.type "list", .type "tuple"], false, rfl, e1, .cons (.ty _) (.cons (.ty _) .nil), ty, kit_lt (r1 := false) (r2 := false) (by decide +kernel) (by decide +kernel), ?_⟩
        refine ⟨_, rfl, iteF ?_⟩
        refine ⟨_, rfl, rfl, _, rfl, iteF ⟨_, rfl, rfl, _, rfl, iteF ?_⟩⟩
        refine ⟨_, rfl, _, _, _, _, false, rfl, .ty _, ty, kit_ty (by decide +kernel), _, rfl, iteF ?_⟩
        refine ⟨_, rfl, _, _, _, _, false, rfl, .ty _, ty, kit_ty (by decide +kernel), _, rfl, iteF ?_⟩
        refine ⟨_, rfl, _, _, _, _, false, rfl, .ty _, ty, kit_ty (by decide +kernel), _, rfl, iteF ?_⟩
        refine ⟨_, rfl, _, _, _, _, true, rfl, .ty _, ty, kit_ty (by decide +kernel), _, rfl, iteT ?_⟩
        refine ⟨_, rfl, _, rfl, rfl, ?_⟩
        have e : decide (V.str z = V.str z) = true := decide_eq_true rfl
        show Q (.bl (decide (V.str z = V.str z))) H1
        rw [e]
        exact k _ g1
    · refine ⟨_, rfl, (by show 2 ≤ sizeLine; decide), fun tp htp => ?_⟩
      have g1 := same_new htp (.tup [.ty "list", .ty "tuple"])
      have e1 : upd H tp (.tup [.ty "list", .ty "tuple"]) tp = some (.tup [.ty "list", .ty "tuple"]) := upd_same
      generalize upd H tp (.tup [.ty "list", .ty "tuple"]) = H1 at g1 e1 ⊢
      rcases hq with ⟨q1, q2⟩ | ⟨q1, q2⟩
      · have t1 : Kd K H1 (.ref a) "list" := kdL (g1.seq q1)
        have t2 : Kd K H1 (.ref c) "list" := kdL (g1.seq q2)
        refine ⟨_, tp, _, _, [.type "list", .type "tuple"], true, rfl, e1, .cons (.ty _) (.cons (.ty _) .nil), t2, kit_lt (r1 := true) (r2 := false) (by decide +kernel) (by decide +kernel), ?_⟩
        refine ⟨_, rfl, iteT ?_⟩
        refine ⟨_, rfl, _, _, _, _, true, rfl, .ty _, t1, kit_ty (by decide +kernel), _, rfl, _, _, _, _, true, rfl, .ty _, t2, kit_ty (by decide +kernel), rfl, _, rfl, iteF ?_⟩
        refine ⟨_, rfl, _, _, _, _, false, rfl, .ty _, t1, kit_ty (by decide +kernel), _, rfl, _, _, _, _, false, rfl, .ty _, t2, kit_ty (by decide +kernel), rfl, _, rfl, iteF ?_⟩
        refine ⟨_, rfl, a, _, rfl, .inl (g1.seq q1), _, rfl, c, _, rfl, .inl (g1.seq q2), rfl, _, rfl, ?_⟩
        have e : decide (V.int ((xs.length : Nat) : Int) = V.int ((ys.length : Nat) : Int)) = true := decide_eq_true (by rw [l2])
        rw [e]
        refine iteT ?_
        refine ⟨_, rfl, _, rfl, a, c, xs, ys, rfl, .inl ⟨g1.seq q1, g1.seq q2, fun D hD => lc_zipS (Sq := SqL K) (a := a) (b := c) (xs := xs) (ys := ys) l2 (fun i H' => Same H1 H' ∧ H' D = some (.lst ((List.replicate i true).map V.bl)))
          ⟨same_new hD _, upd_same⟩ (fun i H' ⟨gs, _⟩ => ⟨(g1.trans gs).seq q1, (g1.trans gs).seq q2⟩) ?_ ?_⟩⟩
        · rintro i u v T' Hx hu hv ⟨gs, eD⟩ hT
          have gT := same_new hT (.tup [u, v])
          refine ⟨T', _, rfl, SqT.of upd_same, rfl, u, _, rfl, v, _, rfl, rfl, rfl, ?_⟩
          refine ⟨_, rfl, _, rfl, b, u, v, rfl, (hr2 i u v hu hv).keep (Keep.of_same (g1.trans (gs.trans gT))), fun H3 g3 => ?_⟩
          have hi : i < xs.length := (List.getElem?_eq_some_iff.mp hu).1
          refine ⟨_, g3 _ _ (gT _ _ eD), by rw [List.length_map, List.length_replicate]; exact small1000 (by omega), fun x o ho => ?_, ?_⟩
          · rw [upd_ne (ne_of_none ho hD)]
            exact g3 _ _ (gT _ _ (gs _ _ ho))
          · rw [upd_same, List.replicate_succ', List.map_append]
            rfl
        · rintro H' ⟨gs, eD⟩
          refine ⟨D, List.replicate xs.length true, rfl, SqL.of eD, ?_⟩
          have ea : (List.replicate xs.length true).all id = true := by simp
          rw [ea]
          exact k _ (g1.trans gs)
      · have t1 : Kd K H1 (.ref a) "tuple" := kdT (Same.seqT' g1 q1)
        have t2 : Kd K H1 (.ref c) "tuple" := kdT (Same.seqT' g1 q2)
        refine ⟨_, tp, _, _, [.type "list", .type "tuple"], true, rfl, e1, .cons (.ty _) (.cons (.ty _) .nil), t2, kit_lt (r1 := false) (r2 := true) (by decide +kernel) (by decide +kernel), ?_⟩
        refine ⟨_, rfl, iteT ?_⟩
        refine ⟨_, rfl, _, _, _, _, false, rfl, .ty _, t1, kit_ty (by decide +kernel), _, rfl, _, _, _, _, false, rfl, .ty _, t2, kit_ty (by decide +kernel), rfl, _, rfl, iteF ?_⟩
        refine ⟨_, rfl, _, _, _, _, true, rfl, .ty _, t1, kit_ty (by decide +kernel), _, rfl, _, _, _, _, true, rfl, .ty _, t2, kit_ty (by decide +kernel), rfl, _, rfl, iteF ?_⟩
        refine ⟨_, rfl, a, _, rfl, .inr (Same.seqT' g1 q1), _, rfl, c, _, rfl, .inr (Same.seqT' g1 q2), rfl, _, rfl, ?_⟩
        have e : decide (V.int ((xs.length : Nat) : Int) = V.int ((ys.length : Nat) : Int)) = true := decide_eq_true (by rw [l2])
        rw [e]
        refine iteT ?_
        refine ⟨_, rfl, _, rfl, a, c, xs, ys, rfl, .inr ⟨Same.seqT' g1 q1, Same.seqT' g1 q2, fun D hD => lc_zipS (Sq := SqT K) (a := a) (b := c) (xs := xs) (ys := ys) l2 (fun i H' => Same H1 H' ∧ H' D = some (.lst ((List.replicate i true).map V.bl)))
          ⟨same_new hD _, upd_same⟩ (fun i H' ⟨gs, _⟩ => ⟨Same.seqT' (g1.trans gs) q1, Same.seqT' (g1.trans gs) q2⟩) ?_ ?_⟩⟩
        · rintro i u v T' Hx hu hv ⟨gs, eD⟩ hT
          have gT := same_new hT (.tup [u, v])
          refine ⟨T', _, rfl, SqT.of upd_same, rfl, u, _, rfl, v, _, rfl, rfl, rfl, ?_⟩
          refine ⟨_, rfl, _, rfl, b, u, v, rfl, (hr2 i u v hu hv).keep (Keep.of_same (g1.trans (gs.trans gT))), fun H3 g3 => ?_⟩
          have hi : i < xs.length := (List.getElem?_eq_some_iff.mp hu).1
          refine ⟨_, g3 _ _ (gT _ _ eD), by rw [List.length_map, List.length_replicate]; exact small1000 (by omega), fun x o ho => ?_, ?_⟩
          · rw [upd_ne (ne_of_none ho hD)]
            exact g3 _ _ (gT _ _ (gs _ _ ho))
          · rw [upd_same, List.replicate_succ', List.map_append]
            rfl
        · rintro H' ⟨gs, eD⟩
          refine ⟨D, List.replicate xs.length true, rfl, SqL.of eD, ?_⟩
          have ea : (List.replicate xs.length true).all id = true := by simp
          rw [ea]
          exact k _ (g1.trans gs)
theorem ok_same (T : Txt K mg) : ∀ n : Nat, FnOk P w K mg base CX0 n T.f_same T.fd_same ["found", "due"] (spSame K n)
  | 0 => ⟨fun vs H Q E h => h.elim, fun A outer s H args us vs Q E _ _ _ _ h => h.elim⟩
  | n + 1 => ok_same_step T (ok_same T n)
end
end K0

set_option maxRecDepth 100000
set_option maxHeartbeats 4000000
namespace K0
open PySem L2 K1

def SqX (K : PySem.W.Frag) (H : Hp) (a : Addr) (xs : List V) : Prop := SqL K H a xs ∨ SqT K H a xs
theorem sL {K : PySem.W.Frag} {a : Addr} {H H' : Hp} {xs : List V} (k : Same H H') (h : SqL K H a xs) : SqL K H' a xs := by
  rcases h with (h | ⟨o, h⟩) | h
  · exact .inl (.inl (k _ _ h))
  · exact .inl (.inr ⟨o, k _ _ h⟩)
  · exact .inr h
theorem sT {K : PySem.W.Frag} {a : Addr} {H H' : Hp} {xs : List V} (k : Same H H') (h : SqT K H a xs) : SqT K H' a xs := by
  rcases h with (h | ⟨o, h⟩) | h
  · exact .inl (.inl (k _ _ h))
  · exact .inl (.inr ⟨o, k _ _ h⟩)
  · exact .inr h
theorem SqX.same {K : PySem.W.Frag} {a : Addr} {H H' : Hp} {xs : List V} (k : Same H H') (h : SqX K H a xs) : SqX K H' a xs := h.elim (fun h => .inl (sL k h)) fun h => .inr (sT k h)
theorem mapT {f : Int → Int} {ns : List Int} {i : Nat} {n : Int} (h : ns[i]? = some n) : ((ns.take i).map f).map V.int ++ [V.int (f n)] = ((ns.take (i + 1)).map f).map V.int := by
  rw [List.take_add_one, h, List.map_append, List.map_append]
  rfl
theorem cut_to {xs : List V} {j : Nat} (h : j ≤ xs.length) : cutV xs none (some (j : Int)) = xs.take j := by
  unfold cutV
  rw [HT.sIx_none, HT.sIx_nat, List.drop_zero, Nat.min_eq_left h]
  rfl
def spTrim (K : PySem.W.Frag) : Sp := fun vs H Q _ => ∃ (a : Addr) (ns : List Int), vs = [.ref a] ∧ SqT K H a (ns.map V.int) ∧ ns.length ≤ 1000 ∧
  ∀ (t : Addr) (H' : Hp), Same H H' → SqT K H' t ((trimZ ns).map V.int) → Q (.ref t) H'
def padL (ns : List Int) (n : Nat) : List Int := ns ++ List.replicate (n - ns.length) 0
theorem padL_len {ns : List Int} {n : Nat} (h : ns.length ≤ n) : (padL ns n).length = n := by
  unfold padL
  rw [List.length_append, List.length_replicate]
  omega
def addL (one other : List Int) (s : Int) : List Int := List.zipWith (fun a b => a + s * b) (padL one (max one.length other.length)) (padL other (max one.length other.length))
theorem zipT (f : Int → Int → Int) {xs ys : List Int} {i : Nat} {x y : Int} (hx : xs[i]? = some x) (hy : ys[i]? = some y) :
    (List.zipWith f (xs.take i) (ys.take i)).map V.int ++ [V.int (f x y)] = (List.zipWith f (xs.take (i + 1)) (ys.take (i + 1))).map V.int := by
  have hl : (xs.take i).length = (ys.take i).length := by
    have h1 := (List.getElem?_eq_some_iff.mp hx).1
    have h2 := (List.getElem?_eq_some_iff.mp hy).1
    rw [List.length_take, List.length_take]
    omega
  rw [List.take_add_one, List.take_add_one, hx, hy, List.zipWith_append hl, List.map_append]
  rfl
def spPad (K : PySem.W.Frag) : Sp := fun vs H Q _ => ∃ (a : Addr) (ns : List Int) (n : Nat), vs = [.ref a, .int (n : Int)] ∧ SqT K H a (ns.map V.int) ∧ ns.length ≤ n ∧ n ≤ 1000 ∧
  ∀ (t : Addr) (H' : Hp), Same H H' → H t = none → H' t = some (.lst ((padL ns n).map V.int)) → Q (.ref t) H'
def spAdd (K : PySem.W.Frag) : Sp := fun vs H Q _ => ∃ (a b : Addr) (one other : List Int) (s : Int), vs = [.ref a, .ref b, .int s] ∧ SqT K H a (one.map V.int) ∧ SqT K H b (other.map V.int) ∧ one.length ≤ 1000 ∧ other.length ≤ 1000 ∧ (s = 1 ∨ s = -1) ∧
  ∀ (t : Addr) (H' : Hp), Same H H' → H t = none → H' t = some (.lst ((addL one other s).map V.int)) → Q (.ref t) H'
/-- a list or tuple of whole numbers and p: a new tuple of them modulo p -/
def spWorths (K : PySem.W.Frag) : Sp := fun vs H Q _ => ∃ (a : Addr) (ns : List Int) (p : Int), vs = [.ref a, .int p] ∧ SqX K H a (ns.map V.int) ∧ 0 < p ∧ ns.length ≤ 1000 ∧
  ∀ (t : Addr) (H' : Hp), Same H H' → H t = none → H' t = some (.tup ((red p ns).map V.int)) → Q (.ref t) H'
section
variable {P : Program} {w : World} {K : PySem.W.Frag} {mg : Str → Option Value} {base : Heap}
theorem ok_worths_of (T : Txt K mg) : FnOk P w K mg base CX0 1 T.f_worths_of T.fd_worths_of ["numbers", "p"] (spWorths K) := by
  refine T.F_worths_of.ok sc_worths_of (fun vs H Q E h => ?_) (fun cdv A outer s H vs Q E hr h => ?_)
  · obtain ⟨a, ns, p, rfl, _⟩ := h
    rfl
  · obtain ⟨a, ns, p, rfl, hq, p0, hl, k⟩ := h
    rcases hq with hq | hq
    · refine ⟨_, (pss_one (ps_ret (pe_callTy call_tuple_of (by rfl) T.z_tuple (by decide +kernel) (pa_cons (pe_lc (own := [("number", 2)]) (g := gName 2) (tt := tYes) (by rfl) sc_worths_of.nd (pi_list (pv 0)) (blkOk_by (own := [("number", 2)]) (N := ["numbers", "p", "number"]) (sc := defScope s_worths_of) (by decide +kernel)) (fun _ _ _ _ _ => (pg_name (i := 2) sc_worths_of.nd rfl (Or.inl rfl))) (fun _ _ _ _ _ => pts_nil) (fun _ _ _ _ _ => (pe_op op_mod (pv 2) (pv 1)))) pa_nil)))), ?_⟩
      refine ⟨_, rfl, a, rfl, ⟨_, hq⟩, fun D hD => lc_list (K := K) (a := a) (xs := ns.map V.int) (fun i Hx => Same H Hx ∧ Hx D = some (.lst ((red p (ns.take i)).map V.int)))
        ⟨same_new hD _, upd_same⟩ (fun i Hx _ ⟨gs, _⟩ => sL gs hq) ?_ ?_⟩
      · rintro i z Hx hi ⟨gs, eD⟩
        obtain ⟨n, hn, rfl⟩ := at_int hi
        refine ⟨rfl, _, rfl, _, rfl, _, _, rfl, rfl, p0, _, eD, ?_, fun x o ho => ?_, ?_⟩
        · unfold red
          rw [List.length_map, List.length_map, List.length_take]
          exact small1000 (by omega)
        · rw [upd_ne (ne_of_none ho hD)]
          exact gs _ _ ho
        · rw [upd_same]
          exact congrArg (fun l => some (HO.lst l)) (mapT (f := (· % p)) hn)
      rintro Hx ⟨gs, eD⟩
      rw [List.length_map, List.take_length] at eD
      refine ⟨D, _, rfl, .inl ⟨SqL.of eD, fun t ht => k t _ (gs.trans (same_new ht _)) ?_ upd_same⟩⟩
      cases e : H t with
      | none => rfl
      | some o =>
        rw [gs _ _ e] at ht
        cases ht
    · refine ⟨_, (pss_one (ps_ret (pe_callTy call_tuple_of (by rfl) T.z_tuple (by decide +kernel) (pa_cons (pe_lc (own := [("number", 2)]) (g := gName 2) (tt := tYes) (by rfl) sc_worths_of.nd (pi_tup (pv 0)) (blkOk_by (own := [("number", 2)]) (N := ["numbers", "p", "number"]) (sc := defScope s_worths_of) (by decide +kernel)) (fun _ _ _ _ _ => (pg_name (i := 2) sc_worths_of.nd rfl (Or.inl rfl))) (fun _ _ _ _ _ => pts_nil) (fun _ _ _ _ _ => (pe_op op_mod (pv 2) (pv 1)))) pa_nil)))), ?_⟩
      refine ⟨_, rfl, a, rfl, ⟨_, hq⟩, fun D hD => lc_tup (K := K) (a := a) (xs := ns.map V.int) (fun i Hx => Same H Hx ∧ Hx D = some (.lst ((red p (ns.take i)).map V.int)))
        ⟨same_new hD _, upd_same⟩ (fun i Hx _ ⟨gs, _⟩ => sT gs hq) ?_ ?_⟩
      · rintro i z Hx hi ⟨gs, eD⟩
        obtain ⟨n, hn, rfl⟩ := at_int hi
        refine ⟨rfl, _, rfl, _, rfl, _, _, rfl, rfl, p0, _, eD, ?_, fun x o ho => ?_, ?_⟩
        · unfold red
          rw [List.length_map, List.length_map, List.length_take]
          exact small1000 (by omega)
        · rw [upd_ne (ne_of_none ho hD)]
          exact gs _ _ ho
        · rw [upd_same]
          exact congrArg (fun l => some (HO.lst l)) (mapT (f := (· % p)) hn)
      rintro Hx ⟨gs, eD⟩
      rw [List.length_map, List.take_length] at eD
      refine ⟨D, _, rfl, .inl ⟨SqL.of eD, fun t ht => k t _ (gs.trans (same_new ht _)) ?_ upd_same⟩⟩
      cases e : H t with
      | none => rfl
      | some o =>
        rw [gs _ _ e] at ht
        cases ht
theorem ok_trimmed (T : Txt K mg) : FnOk P w K mg base CX0 1 T.f_trimmed T.fd_trimmed ["worths"] (spTrim K) := by
  refine T.F_trimmed.ok sc_trimmed (fun vs H Q E h => ?_) (fun cdv A outer s H vs Q E hr h => ?_)
  · obtain ⟨a, ns, rfl, _⟩ := h
    rfl
  · obtain ⟨a, ns, rfl, hq, hl, k⟩ := h
    refine ⟨_, (pss_cons (ps_set (i := 1) sc_trimmed.nd rfl (Or.inl rfl) (pe_callB call_len_seq (by rfl) T.z_len PySem.boot_len (pa_cons (pv 0) pa_nil)))
      (pss_cons (ps_while PassesOwn.never (PW.pt (pw_and (pt_cmpR op_gt (pv 1) pe_int (nomark _)) (pw_and1 (pt_cmpR op_eq (pe_ix ix_tup (pv 0) (pe_op op_sub (pv 1) pe_int) (fun _ _ => rfl)) pe_int (nomark _))))) (pss_one (ps_aug (i := 1) sc_trimmed.nd rfl (.inl rfl) pe_int ip_sub)))
      (pss_one (ps_ret (pe_slice sl_tupA (pv 0) po_none (po_some (pv 1))))))), ?_⟩
    refine ⟨_, rfl, a, _, rfl, .inr hq, ?_⟩
    rw [List.length_map]
    refine ⟨fun m σ H' => ∃ n : Nat, σ = [some (.ref a), some (.int (n : Int))] ∧ H' = H ∧ n ≤ ns.length ∧ (∀ i, n ≤ i → i < ns.length → ns[i]? = some 0) ∧ n = m,
      ⟨_, ns.length, rfl, rfl, Nat.le_refl _, fun i h1 h2 => absurd h2 (by omega), rfl⟩, ?_⟩
    rintro m σ H' ⟨n, rfl, rfl, hn, hz, rfl⟩
    refine ⟨_, rfl, _, _, rfl, rfl, _, rfl, ite2 (fun c => ?_) (fun c => ?_)⟩
    · have n0 : 0 < n := by
        have : (0 : Int) < (n : Int) := of_decide_eq_true c
        omega
      have hlt : n - 1 < ns.length := by omega
      have e1 : ns[n - 1]? = some ns[n - 1] := List.getElem?_eq_getElem hlt
      have e2 : (n : Int) - 1 = ((n - 1 : Nat) : Int) := by omega
      have e3 : atI (ns.map V.int) ((n : Int) - 1) = some (V.int ns[n - 1]) := by
        rw [e2]
        exact atI_nat (by rw [List.getElem?_map, e1]; rfl)
      refine ⟨_, rfl, _, rfl, _, _, rfl, rfl, a, _, _, _, rfl, rfl, hq, e3, rfl, _, rfl, ite2 (fun c2 => ?_) (fun c2 => ?_)⟩
      · have z0 : ns[n - 1] = 0 := V.int.inj (of_decide_eq_true c2)
        refine ⟨fun σ' H'' => ∃ n' : Nat, σ' = [some (.ref a), some (.int (n' : Int))] ∧ H'' = H' ∧ n' ≤ ns.length ∧ (∀ i, n' ≤ i → i < ns.length → ns[i]? = some 0) ∧ n' < n, ?_, ?_⟩
        · rintro σ' H'' ⟨n', rfl, rfl, h1, h2, h3⟩
          exact ⟨n', h3, n', rfl, rfl, h1, h2, rfl⟩
        · refine ⟨_, rfl, _, _, rfl, rfl, n - 1, ?_, rfl, by omega, fun i h1 h2 => ?_, by omega⟩
          · rw [← e2]
            rfl
          · by_cases h : i = n - 1
            · subst h
              rw [e1, z0]
            · exact hz i (by omega) h2
      · have nz : ns.getD (n - 1) 0 ≠ 0 := fun z => c2 (decide_eq_true (congrArg V.int (by
          rw [List.getD_eq_getElem?_getD, e1] at z
          exact z)))
        refine ⟨_, rfl, _, rfl, _, rfl, a, _, rfl, hq, fun w => ?_, fun _ p hp => ?_⟩
        · have e := w.2
          rw [HT.sIx_nat, List.length_map] at e
          have en : n = ns.length := by omega
          have tz := trimZ_take hn hz (.inr nz)
          rw [en, List.take_length] at tz
          exact k a _ (Same.refl _) (by rw [tz]; exact hq)
        · refine k p _ (same_new hp _) (SqT.of ?_)
          rw [upd_same, cut_to (by rw [List.length_map]; exact hn), trimZ_take hn hz (.inr nz), List.map_take]
    · have n0 : n = 0 := by
        have : ¬ (0 : Int) < (n : Int) := fun z => c (decide_eq_true z)
        omega
      refine ⟨_, rfl, _, rfl, _, rfl, a, _, rfl, hq, fun w => ?_, fun _ p hp => ?_⟩
      · have e := w.2
        rw [HT.sIx_nat, List.length_map] at e
        have en : n = ns.length := by omega
        have tz := trimZ_take hn hz (.inl n0)
        rw [en, List.take_length] at tz
        exact k a _ (Same.refl _) (by rw [tz]; exact hq)
      · refine k p _ (same_new hp _) (SqT.of ?_)
        rw [upd_same, cut_to (by rw [List.length_map]; exact hn), trimZ_take hn hz (.inl n0), List.map_take]
theorem ok_padded (T : Txt K mg) : FnOk P w K mg base CX0 1 T.f_padded T.fd_padded ["worths", "size"] (spPad K) := by
  refine T.F_padded.ok sc_padded (fun vs H Q E h => ?_) (fun cdv A outer s H vs Q E hr h => ?_)
  · obtain ⟨a, ns, n, rfl, _⟩ := h
    rfl
  · obtain ⟨a, ns, n, rfl, hq, h1, h2, k⟩ := h
    refine ⟨_, (pss_one (ps_ret (pe_op op_cat (pe_callTy call_list_of (by rfl) T.z_list (by decide +kernel) (pa_cons (pv 0) pa_nil)) (pe_op op_rep (pe_lst (pa_cons pe_int pa_nil)) (pe_op op_sub (pv 1) (pe_callB call_len_seq (by rfl) T.z_len PySem.boot_len (pa_cons (pv 0) pa_nil))))))), ?_⟩
    refine ⟨_, rfl, a, _, rfl, .inr hq, fun l hl => ?_⟩
    have g1 := same_new hl (.lst (ns.map V.int))
    have e1 : upd H l (.lst (ns.map V.int)) l = some (.lst (ns.map V.int)) := upd_same
    generalize upd H l (.lst (ns.map V.int)) = H1 at g1 e1 ⊢
    refine ⟨(by show 1 ≤ sizeLine; decide), fun z hz => ?_⟩
    have g2 := same_new hz (.lst [.int 0])
    have e2 : upd H1 z (.lst [.int 0]) z = some (.lst [.int 0]) := upd_same
    generalize upd H1 z (.lst [.int 0]) = H2 at g2 e2 ⊢
    have en : ((n : Int) - ((ns.map V.int).length : Nat)) = ((n - ns.length : Nat) : Int) := by
      rw [List.length_map]
      omega
    refine ⟨_, rfl, _, rfl, a, _, rfl, .inr (sT (g1.trans g2) hq), _, _, rfl, rfl, ?_⟩
    simp only [en]
    refine ⟨z, _, _, rfl, rfl, e2, by omega, by omega, ?_, fun p hp => ?_⟩
    · rw [Int.toNat_natCast]
      show 1 * (n - ns.length) ≤ sizeLine
      exact Nat.le_trans (by omega) (show 1000 ≤ sizeLine by decide)
    have rep : (List.replicate ((n - ns.length : Nat) : Int).toNat [V.int 0]).flatten = (List.replicate (n - ns.length) (0 : Int)).map V.int := by
      rw [Int.toNat_natCast, List.map_replicate]
      generalize n - ns.length = j
      induction j with
      | zero => rfl
      | succ j ih =>
        rw [List.replicate_succ, List.flatten_cons, ih, List.replicate_succ]
        rfl
    rw [rep]
    have g3 := same_new hp (.lst ((List.replicate (n - ns.length) (0 : Int)).map V.int))
    refine ⟨l, p, _, _, rfl, rfl, g3 _ _ (g2 _ _ e1), upd_same, ?_, fun r hr => ?_⟩
    · rw [List.length_map, List.length_map, List.length_replicate]
      exact Nat.le_trans (by omega) (show 1000 ≤ sizeLine by decide)
    rw [← List.map_append]
    have gg := g1.trans (g2.trans (g3.trans (same_new hr (.lst ((ns ++ List.replicate (n - ns.length) (0 : Int)).map V.int)))))
    refine k r _ gg ?_ upd_same
    cases e : H r with
    | none => rfl
    | some o =>
      rw [g3 _ _ (g2 _ _ (g1 _ _ e))] at hr
      cases hr
theorem ok_added (T : Txt K mg) : FnOk P w K mg base CX0 2 T.f_added T.fd_added ["one", "other", "sign"] (spAdd K) := by
  refine T.F_added.ok sc_added (fun vs H Q E h => ?_) (fun cdv A outer s H vs Q E hr h => ?_)
  · obtain ⟨a, b, one, other, s, rfl, _⟩ := h
    rfl
  · obtain ⟨a, b, one, other, s, rfl, ha, hb, l1, l2, hs, k⟩ := h
    refine ⟨_, (pss_cons (ps_set (i := 3) sc_added.nd rfl (Or.inl rfl) (pe_callB (call_max2 rfl) (by rfl) T.z_max (by decide +kernel) (pa_cons (pe_callB call_len_seq (by rfl) T.z_len PySem.boot_len (pa_cons (pv 0) pa_nil)) (pa_cons (pe_callB call_len_seq (by rfl) T.z_len PySem.boot_len (pa_cons (pv 1) pa_nil)) pa_nil))))
      (pss_one (ps_ret (pe_lc (own := [("low", 4), ("high", 5)]) (g := gTup K 2 (gCons (gName 4) (gCons (gName 5) gNil))) (tt := tYes) (by rfl) sc_added.nd (RZ.pi_zipA (by rfl) T.z_zip (pa_cons (pe_call (ok_padded T) (hr.mono (by decide)) (by rfl) T.g_padded T.F_padded.kp T.b_padded .nil pass0 (pa_cons (pv 0) (pa_cons (pv 3) pa_nil))) (pa_cons (pe_call (ok_padded T) (hr.mono (by decide)) (by rfl) T.g_padded T.F_padded.kp T.b_padded .nil pass0 (pa_cons (pv 1) (pa_cons (pv 3) pa_nil))) pa_nil))) (blkOk_by (own := [("low", 4), ("high", 5)]) (N := ["one", "other", "sign", "size", "low", "high"]) (sc := defScope s_added) (by decide +kernel)) (fun _ _ _ _ _ => (pg_tup (by rfl) (pgs_cons (pg_name (i := 4) sc_added.nd rfl (Or.inl rfl)) (pgs_cons (pg_name (i := 5) sc_added.nd rfl (Or.inl rfl)) pgs_nil)))) (fun _ _ _ _ _ => pts_nil) (fun _ _ _ _ _ => (pe_op op_add (pv 4) (pe_op op_mul (pv 2) (pv 5)))))))), ?_⟩
    refine ⟨_, rfl, a, _, rfl, .inr ha, _, rfl, b, _, rfl, .inr hb, _, _, rfl, ?_⟩
    have em : (if ((other.map V.int).length : Int) > ((one.map V.int).length : Int) then ((other.map V.int).length : Int) else ((one.map V.int).length : Int)) = ((max one.length other.length : Nat) : Int) := by
      rw [List.length_map, List.length_map]
      split <;> omega
    rw [em]
    have mx : max one.length other.length ≤ 1000 := Nat.max_le.mpr ⟨l1, l2⟩
    refine ⟨_, rfl, _, rfl, a, one, _, rfl, ha, Nat.le_max_left _ _, mx, fun p H1 g1 hp ep => ⟨_, rfl, _, rfl, b, other, _, rfl, sT g1 hb, Nat.le_max_right _ _, mx, fun q H2 g2 hq eq => ?_⟩⟩
    have ep2 := g2 _ _ ep
    have lp := padL_len (ns := one) (Nat.le_max_left one.length other.length)
    have lq := padL_len (ns := other) (Nat.le_max_right one.length other.length)
    refine ⟨p, q, _, _, rfl, .inl ⟨SqL.of ep2, SqL.of eq, fun D hD => lc_zipS (Sq := SqL K) (a := p) (b := q) (xs := (padL one (max one.length other.length)).map V.int) (ys := (padL other (max one.length other.length)).map V.int) (by rw [List.length_map, List.length_map, lp, lq]) (fun i H' => Same H2 H' ∧ H' D = some (.lst ((List.zipWith (fun a b => a + s * b) ((padL one (max one.length other.length)).take i) ((padL other (max one.length other.length)).take i)).map V.int)))
      ⟨same_new hD _, upd_same⟩ (fun i H' ⟨gs, _⟩ => ⟨sL gs (SqL.of ep2), sL gs (SqL.of eq)⟩) ?_ ?_⟩⟩
    · rintro i x y TT Hx hx hy ⟨gs, eD⟩ hT
      obtain ⟨x, hx2, rfl⟩ := at_int hx
      obtain ⟨y, hy2, rfl⟩ := at_int hy
      have gT := same_new hT (.tup [.int x, .int y])
      have eD' := gT _ _ eD
      refine ⟨TT, _, rfl, SqT.of upd_same, rfl, _, _, rfl, _, _, rfl, rfl, rfl, _, rfl, _, rfl, _, rfl, _, _, rfl, rfl, .inl ⟨by omega, by omega⟩, _, _, rfl, rfl, _, eD', ?_, fun u o ho => ?_, ?_⟩
      · rw [List.length_map, List.length_zipWith, List.length_take, List.length_take]
        exact small1000 (by omega)
      · have ho' := gT _ _ (gs _ _ ho)
        rw [upd_ne (ne_of_none ho hD)]
        exact ho'
      · rw [upd_same]
        exact congrArg (fun l => some (HO.lst l)) (zipT (fun a b => a + s * b) hx2 hy2)
    rintro Hx ⟨gs, eD⟩
    rw [List.length_map, lp] at eD
    refine k D _ (g1.trans (g2.trans gs)) ?_ ?_
    · cases e : H D with
      | none => rfl
      | some o =>
        rw [g2 _ _ (g1 _ _ e)] at hD
        cases hD
    · rw [eD]
      unfold addL
      rw [List.take_of_length_le (Nat.le_of_eq lp), List.take_of_length_le (Nat.le_of_eq lq)]
end
end K0

set_option maxRecDepth 100000
set_option maxHeartbeats 4000000
namespace K0
open PySem L2 K1

def mI (one other : List Int) (k : Nat) : Nat → List Int → List Int
  | 0, made => made
  | m + 1, made => (mI one other k m made).set (k + m) ((mI one other k m made).getD (k + m) 0 + one.getD k 0 * other.getD m 0)
def mO (one other : List Int) : Nat → List Int
  | 0 => List.replicate (one.length + other.length) 0
  | k + 1 => mI one other k other.length (mO one other k)
def mulL (one other : List Int) : List Int := mO one other one.length
theorem mI_len (one other made : List Int) (k m : Nat) : (mI one other k m made).length = made.length := by
  induction m with
  | zero => rfl
  | succ m ih => show ((mI one other k m made).set _ _).length = _; rw [List.length_set, ih]
theorem mO_len (one other : List Int) (k : Nat) : (mO one other k).length = one.length + other.length := by
  induction k with
  | zero => exact List.length_replicate
  | succ k ih => show (mI one other k _ _).length = _; rw [mI_len, ih]
theorem ixN_ok {n j : Nat} (h : j < n) : ixN n (j : Int) = some j := by
  unfold ixN
  rw [if_pos (by omega), if_pos (by omega)]
  rfl
theorem at_get {l : List Int} {j : Nat} (h : j < l.length) : atI (l.map V.int) (j : Int) = some (V.int (l.getD j 0)) :=
  atI_nat (by rw [List.getElem?_map, List.getElem?_eq_getElem h, List.getD_eq_getElem?_getD, List.getElem?_eq_getElem h]; rfl)
theorem getD_of {l : List Int} {i : Nat} {x : Int} (h : l[i]? = some x) : l.getD i 0 = x := by
  rw [List.getD_eq_getElem?_getD, h]
  rfl
theorem same_upd {H H1 : Hp} {D : Addr} {o : HO} (hD : H D = none) (g : Same H H1) : Same H (upd H1 D o) := fun x u hx => by
  rw [upd_ne (ne_of_none hx hD)]
  exact g _ _ hx
theorem none_of {H H1 : Hp} {x : Addr} (g : Same H H1) (h : H1 x = none) : H x = none := by
  cases e : H x with
  | none => rfl
  | some o =>
    rw [g _ _ e] at h
    cases h
def Sm (ns : List Int) : Prop := ∀ z ∈ ns, 0 ≤ z ∧ z < 18446744073709551616
def spMul (K : PySem.W.Frag) : Sp := fun vs H Q _ => ∃ (a b : Addr) (one other : List Int), vs = [.ref a, .ref b] ∧ SqT K H a (one.map V.int) ∧ SqT K H b (other.map V.int) ∧ one.length ≤ 300 ∧ other.length ≤ 300 ∧ Sm one ∧
  ∀ (t : Addr) (H' : Hp), Same H H' → H t = none → H' t = some (.lst ((mulL one other).map V.int)) → Q (.ref t) H'
theorem rep_z {j : Nat} : (List.replicate ((j : Nat) : Int).toNat [V.int 0]).flatten = (List.replicate j (0 : Int)).map V.int := by
  rw [Int.toNat_natCast, List.map_replicate]
  induction j with
  | zero => rfl
  | succ j ih =>
    rw [List.replicate_succ, List.flatten_cons, ih, List.replicate_succ]
    rfl
section
variable {P : Program} {w : World} {K : PySem.W.Frag} {mg : Str → Option Value} {base : Heap}
theorem ok_multiplied (T : Txt K mg) : FnOk P w K mg base CX0 1 T.f_multiplied T.fd_multiplied ["one", "other"] (spMul K) := by
  refine T.F_multiplied.ok sc_multiplied (fun vs H Q E h => ?_) (fun cdv A outer s H vs Q E hr h => ?_)
  · obtain ⟨a, b, one, other, rfl, _⟩ := h
    rfl
  · obtain ⟨a, b, one, other, rfl, ha, hb, l1, l2, hs, k⟩ := h
    refine ⟨_, (pss_cons (ps_set (i := 2) sc_multiplied.nd rfl (Or.inl rfl) (pe_op op_rep (pe_lst (pa_cons pe_int pa_nil)) (pe_op op_add (pe_callB call_len_seq (by rfl) T.z_len PySem.boot_len (pa_cons (pv 0) pa_nil)) (pe_callB call_len_seq (by rfl) T.z_len PySem.boot_len (pa_cons (pv 1) pa_nil)))))
      (pss_cons (ps_for PassesOwn.never rfl (EnT.pi_enumT (by rfl) T.z_enumerate (pa_cons (pv 0) pa_nil)) (pg_tup (by rfl) (pgs_cons (pg_name (i := 3) sc_multiplied.nd rfl (Or.inl rfl)) (pgs_cons (pg_name (i := 4) sc_multiplied.nd rfl (Or.inl rfl)) pgs_nil))) (pss_one (ps_for PassesOwn.never rfl (EnT.pi_enumT (by rfl) T.z_enumerate (pa_cons (pv 1) pa_nil)) (pg_tup (by rfl) (pgs_cons (pg_name (i := 5) sc_multiplied.nd rfl (Or.inl rfl)) (pgs_cons (pg_name (i := 6) sc_multiplied.nd rfl (Or.inl rfl)) pgs_nil))) (pss_one (ps_asg (pe_op op_add (pe_ix ix_list (pv 2) (pe_op op_add (pv 3) (pv 5)) (fun _ _ => rfl)) (pe_op op_mul (pv 4) (pv 6))) (pg_sub (pv 2) (pe_op op_add (pv 3) (pv 5)) set_list))))))
      (pss_one (ps_ret (pv 2))))), ?_⟩
    refine ⟨(by show 1 ≤ sizeLine; decide), fun z hz => ?_⟩
    have g1 := same_new hz (.lst [.int 0])
    have e1 : upd H z (.lst [.int 0]) z = some (.lst [.int 0]) := upd_same
    generalize upd H z (.lst [.int 0]) = H1 at g1 e1 ⊢
    have en : (((one.map V.int).length : Nat) : Int) + (((other.map V.int).length : Nat) : Int) = ((one.length + other.length : Nat) : Int) := by
      rw [List.length_map, List.length_map]
      omega
    refine ⟨_, rfl, a, _, rfl, .inr (sT g1 ha), _, rfl, b, _, rfl, .inr (sT g1 hb), _, _, rfl, rfl, ?_⟩
    simp only [en]
    refine ⟨z, _, _, rfl, rfl, e1, by omega, by omega, ?_, fun D hD => ?_⟩
    · rw [Int.toNat_natCast]
      show 1 * (one.length + other.length) ≤ sizeLine
      exact Nat.le_trans (by omega) (show 1000 ≤ sizeLine by decide)
    rw [rep_z]
    have hDH := none_of g1 hD
    have g2 := same_upd (o := .lst ((List.replicate (one.length + other.length) (0 : Int)).map V.int)) hDH g1
    have e2 : upd H1 D (.lst ((List.replicate (one.length + other.length) (0 : Int)).map V.int)) D = some (.lst ((mO one other 0).map V.int)) := upd_same
    generalize upd H1 D (.lst ((List.replicate (one.length + other.length) (0 : Int)).map V.int)) = H2 at g2 e2 ⊢
    refine ⟨_, rfl, a, _, rfl, sT g2 ha, EnT.for_enT (K := K) (a := a) (xs := one.map V.int) (fun i σ Hx => (∃ v3 v4 v5 v6, σ = [some (.ref a), some (.ref b), some (.ref D), v3, v4, v5, v6]) ∧ Same H Hx ∧ Hx D = some (.lst ((mO one other i).map V.int)))
      ⟨⟨_, _, _, _, rfl⟩, g2, e2⟩ (fun i σ Hx _ ⟨_, gs, _⟩ => sT gs ha) ?_ ?_⟩
    · rintro i x TT σ Hx hx ⟨⟨v3, v4, v5, v6, rfl⟩, gs, eD⟩ hT
      obtain ⟨x, hx2, rfl⟩ := at_int hx
      have gT := same_new hT (.tup [.int (i : Nat), .int x])
      refine ⟨TT, _, rfl, SqT.of upd_same, rfl, _, _, rfl, _, _, rfl, rfl, ?_⟩
      have eD' := gT _ _ eD
      replace gs := gs.trans gT
      generalize upd Hx TT (.tup [.int (i : Nat), .int x]) = Hy at gs eD' ⊢
      clear gT eD hT
      have xb := hs x (List.mem_of_getElem? hx2)
      have hi : i < one.length := (List.getElem?_eq_some_iff.mp hx2).1
      refine ⟨_, rfl, b, _, rfl, sT gs hb, EnT.for_enT (K := K) (a := b) (xs := other.map V.int) (fun m σ Hz => (∃ v5 v6, σ = [some (.ref a), some (.ref b), some (.ref D), some (.int (i : Nat)), some (.int x), v5, v6]) ∧ Same H Hz ∧ Hz D = some (.lst ((mI one other i m (mO one other i)).map V.int)))
        ⟨⟨_, _, rfl⟩, gs, eD'⟩ (fun m σ Hz _ ⟨_, gz, _⟩ => sT gz hb) ?_ ?_⟩
      · rintro m y UU σ Hz hy ⟨⟨v5, v6, rfl⟩, gz, eZ⟩ hU
        obtain ⟨y, hy2, rfl⟩ := at_int hy
        have hm : m < other.length := (List.getElem?_eq_some_iff.mp hy2).1
        have gU := same_new hU (.tup [.int (m : Nat), .int y])
        refine ⟨UU, _, rfl, SqT.of upd_same, rfl, _, _, rfl, _, _, rfl, rfl, ?_⟩
        have eZ' := gU _ _ eZ
        replace gz := gz.trans gU
        generalize upd Hz UU (.tup [.int (m : Nat), .int y]) = Hw at gz eZ' ⊢
        clear gU eZ hU
        have ei : (i : Int) + (m : Int) = ((i + m : Nat) : Int) := by omega
        have hlen : (mI one other i m (mO one other i)).length = one.length + other.length := by rw [mI_len, mO_len]
        have hj : i + m < (mI one other i m (mO one other i)).length := by omega
        refine ⟨_, rfl, _, rfl, _, rfl, _, _, rfl, rfl, D, _, _, V.int ((mI one other i m (mO one other i)).getD (i + m) 0), rfl, rfl, SqL.of eZ', (by rw [ei]; exact at_get hj), _, rfl, _, rfl, _, _, rfl, rfl, .inl ⟨by omega, by omega⟩, _, _, rfl, rfl,
          _, rfl, _, rfl, _, rfl, _, _, rfl, rfl, D, _, _, i + m, rfl, rfl, eZ', (by rw [ei, List.length_map]; exact ixN_ok hj), ?_⟩
        refine ⟨⟨_, _, rfl⟩, same_upd hDH gz, ?_⟩
        rw [upd_same, ← List.map_set]
        have ex : one.getD i 0 = x := getD_of hx2
        have ey : other.getD m 0 = y := getD_of hy2
        show some (HO.lst (((mI one other i m (mO one other i)).set (i + m) ((mI one other i m (mO one other i)).getD (i + m) 0 + x * y)).map V.int)) = some (HO.lst ((mI one other i (m + 1) (mO one other i)).map V.int))
        rw [← ex, ← ey]
        rfl
      · rintro σ Hz ⟨⟨v5, v6, rfl⟩, gz, eZ⟩
        rw [List.length_map] at eZ
        exact ⟨⟨_, _, _, _, rfl⟩, gz, eZ⟩
    rintro σ Hx ⟨⟨v3, v4, v5, v6, rfl⟩, gs, eD⟩
    rw [List.length_map] at eD
    exact ⟨_, rfl, k D Hx gs hDH eD⟩
end
end K0

set_option maxRecDepth 100000
set_option maxHeartbeats 4000000
namespace K0
open PySem L2 K1

def spEv (K : PySem.W.Frag) : Sp := fun vs H Q _ => ∃ (a : Addr) (ns : List Int) (x p : Int), vs = [.ref a, .int x, .int p] ∧ SqX K H a (ns.map V.int) ∧ 0 < p ∧ p < 18446744073709551616 ∧ ns.length ≤ 1000 ∧ Q (.int (ev ns x % p)) H
theorem ev_turn {p x : Int} {ns : List Int} {i : Nat} {y : Int} (hi : i < ns.length) (h : ns[ns.length - 1 - i]? = some y) : (ev (ns.drop (ns.length - i)) x % p * x + y) % p = ev (ns.drop (ns.length - (i + 1))) x % p := by
  have e : ns.drop (ns.length - (i + 1)) = y :: ns.drop (ns.length - i) := by
    have e1 : ns.length - (i + 1) = ns.length - 1 - i := by omega
    have hlt : ns.length - 1 - i < ns.length := by omega
    rw [e1, List.drop_eq_getElem_cons hlt]
    have : ns[ns.length - 1 - i] = y := by
      rw [List.getElem?_eq_getElem hlt] at h
      exact Option.some.inj h
    rw [this]
    congr 2
    omega
  rw [e]
  refine Cg.iff.mp ?_
  refine (((Cg.mod p _).mul (Cg.refl p x)).add (Cg.refl p y)).trans (Cg.of_eq ?_)
  show _ = y + x * ev (ns.drop (ns.length - i)) x
  grind
section
variable {P : Program} {w : World} {K : PySem.W.Frag} {mg : Str → Option Value} {base : Heap}
theorem ok_worth_at (T : Txt K mg) : FnOk P w K mg base CX0 1 T.f_worth_at T.fd_worth_at ["coefficients", "x", "p"] (spEv K) := by
  refine T.F_worth_at.ok sc_worth_at (fun vs H Q E h => ?_) (fun cdv A outer s H vs Q E hr h => ?_)
  · obtain ⟨a, ns, x, p, rfl, _⟩ := h
    rfl
  · obtain ⟨a, ns, x, p, rfl, hq, p0, p1, hl, k⟩ := h
    refine ⟨_, (pss_cons (ps_set (i := 3) sc_worth_at.nd rfl (Or.inl rfl) pe_int)
      (pss_cons (ps_for PassesOwn.never rfl (RT.pi_revA (by rfl) T.z_reversed (pv 0)) (pg_name (i := 4) sc_worth_at.nd rfl (Or.inl rfl)) (pss_one (ps_set (i := 3) sc_worth_at.nd rfl (Or.inl rfl) (pe_op op_mod (pe_op op_add (pe_op op_mul (pv 3) (pv 1)) (pv 4)) (pv 2)))))
      (pss_one (ps_ret (pv 3))))), ?_⟩
    rcases hq with hq | hq
    · refine ⟨_, rfl, a, _, rfl, .inl ⟨hq, RT.for_Itv (K := K) (a := a) (xs := ns.map V.int) (fun i σ Hx => (∃ v, σ = [some (.ref a), some (.int x), some (.int p), some (.int (ev (ns.drop (ns.length - i)) x % p)), v]) ∧ Hx = H)
        ⟨⟨_, by rw [Nat.sub_zero, List.drop_length, show ev [] x % p = 0 from Int.zero_emod p]; rfl⟩, rfl⟩ (fun i σ Hx ⟨_, e⟩ => e ▸ hq) ?_ ?_⟩⟩
      · rintro i y σ Hx hi hy ⟨⟨v, rfl⟩, rfl⟩
        rw [List.length_map] at hi hy
        obtain ⟨y, hy2, rfl⟩ := at_int hy
        have b0 := Int.emod_nonneg (ev (ns.drop (ns.length - i)) x) (show p ≠ 0 by omega)
        have b1 := Int.emod_lt_of_pos (ev (ns.drop (ns.length - i)) x) p0
        refine ⟨_, rfl, _, rfl, _, _, rfl, rfl, .inl ⟨by omega, by omega⟩, _, rfl, _, _, rfl, rfl, _, rfl, _, _, rfl, rfl, p0, ?_⟩
        refine ⟨⟨some (.int y), ?_⟩, rfl⟩
        rw [← ev_turn hi hy2]
        rfl
      · rintro σ Hx ⟨⟨v, rfl⟩, rfl⟩
        refine ⟨_, rfl, ?_⟩
        rw [List.length_map, Nat.sub_self, List.drop_zero]
        exact k
    · refine ⟨_, rfl, a, _, rfl, .inr ⟨hq, RT.for_ItvT (K := K) (a := a) (xs := ns.map V.int) (fun i σ Hx => (∃ v, σ = [some (.ref a), some (.int x), some (.int p), some (.int (ev (ns.drop (ns.length - i)) x % p)), v]) ∧ Hx = H)
        ⟨⟨_, by rw [Nat.sub_zero, List.drop_length, show ev [] x % p = 0 from Int.zero_emod p]; rfl⟩, rfl⟩ (fun i σ Hx ⟨_, e⟩ => e ▸ hq) ?_ ?_⟩⟩
      · rintro i y σ Hx hi hy ⟨⟨v, rfl⟩, rfl⟩
        rw [List.length_map] at hi hy
        obtain ⟨y, hy2, rfl⟩ := at_int hy
        have b0 := Int.emod_nonneg (ev (ns.drop (ns.length - i)) x) (show p ≠ 0 by omega)
        have b1 := Int.emod_lt_of_pos (ev (ns.drop (ns.length - i)) x) p0
        refine ⟨_, rfl, _, rfl, _, _, rfl, rfl, .inl ⟨by omega, by omega⟩, _, rfl, _, _, rfl, rfl, _, rfl, _, _, rfl, rfl, p0, ?_⟩
        refine ⟨⟨some (.int y), ?_⟩, rfl⟩
        rw [← ev_turn hi hy2]
        rfl
      · rintro σ Hx ⟨⟨v, rfl⟩, rfl⟩
        refine ⟨_, rfl, ?_⟩
        rw [List.length_map, Nat.sub_self, List.drop_zero]
        exact k
end
end K0

set_option maxRecDepth 100000
set_option maxHeartbeats 4000000
namespace K0
open PySem L2 K1

def linL (p r : Int) (m : List Int) : List Int := List.zipWith (fun a b => (a - r * b) % p) (0 :: m) (m ++ [0])
theorem linL_len (p r : Int) (m : List Int) : (linL p r m).length = m.length + 1 := by
  unfold linL
  rw [List.length_zipWith, List.length_cons, List.length_append, List.length_singleton]
  exact Nat.min_self _
def wr (p : Int) (rs : List Int) : List Int := rs.foldl (fun m r => linL p r m) [1]
theorem wr_take {p : Int} {rs : List Int} {i : Nat} {r : Int} (h : rs[i]? = some r) : wr p (rs.take (i + 1)) = linL p r (wr p (rs.take i)) := by
  unfold wr
  rw [List.take_add_one, h, List.foldl_append]
  rfl
theorem wr_len (p : Int) (rs : List Int) : (wr p rs).length = rs.length + 1 := by
  have key : ∀ (rs m : List Int), (rs.foldl (fun m r => linL p r m) m).length = rs.length + m.length := by
    intro rs
    induction rs with
    | nil => intro m; show m.length = 0 + m.length; omega
    | cons r rs ih =>
      intro m
      show (rs.foldl _ (linL p r m)).length = _
      rw [ih, linL_len, List.length_cons]
      omega
  exact key rs [1]
def spRoots (K : PySem.W.Frag) : Sp := fun vs H Q _ => ∃ (a : Addr) (rs : List Int) (p : Int), vs = [.ref a, .int p] ∧ SqL K H a (rs.map V.int) ∧ 0 < p ∧ rs.length ≤ 300 ∧ Sm rs ∧
  ∀ (t : Addr) (H' : Hp), Same H H' → H t = none → H' t = some (.lst ((wr p rs).map V.int)) → Q (.ref t) H'
section
variable {P : Program} {w : World} {K : PySem.W.Frag} {mg : Str → Option Value} {base : Heap}
theorem ok_with_roots (T : Txt K mg) : FnOk P w K mg base CX0 1 T.f_with_roots T.fd_with_roots ["roots", "p"] (spRoots K) := by
  refine T.F_with_roots.ok sc_with_roots (fun vs H Q E h => ?_) (fun cdv A outer s H vs Q E hr h => ?_)
  · obtain ⟨a, rs, p, rfl, _⟩ := h
    rfl
  · obtain ⟨a, rs, p, rfl, ha, p0, hl, hs, k⟩ := h
    refine ⟨_, (pss_cons (ps_set (i := 2) sc_with_roots.nd rfl (Or.inl rfl) (pe_lst (pa_cons pe_int pa_nil)))
      (pss_cons (ps_for PassesOwn.never rfl (pi_list (pv 0)) (pg_name (i := 3) sc_with_roots.nd rfl (Or.inr rfl)) (pss_one (ps_setLc (i := 2) (own := [("low", 4), ("high", 5)]) (g := gTup K 2 (gCons (gName 4) (gCons (gName 5) gNil))) (tt := tYes) (by rfl) sc_with_roots.nd rfl rfl (sw_true rfl rfl rfl (by decide +kernel)) (RZ.pi_zipA (by rfl) T.z_zip (pa_cons (pe_op op_cat (pe_lst (pa_cons pe_int pa_nil)) (pv 2)) (pa_cons (pe_op op_cat (pv 2) (pe_lst (pa_cons pe_int pa_nil))) pa_nil))) (blkOk_by (own := [("low", 4), ("high", 5)]) (N := ["roots", "p", "made", "root", "low", "high"]) (sc := defScope s_with_roots) (by decide +kernel)) (fun _ _ _ _ _ => (pg_tup (by rfl) (pgs_cons (pg_name (i := 4) sc_with_roots.nd rfl (Or.inl rfl)) (pgs_cons (pg_name (i := 5) sc_with_roots.nd rfl (Or.inl rfl)) pgs_nil)))) (fun _ _ _ _ _ => pts_nil) (fun _ _ _ _ _ => (pe_op op_mod (pe_op op_sub (pv 4) (pe_op op_mul (pv 3) (pv 5))) (pv 1))))))
      (pss_one (ps_ret (pv 2))))), ?_⟩
    refine ⟨(by show 1 ≤ sizeLine; decide), fun M hM => ?_⟩
    have g1 := same_new hM (.lst [.int 1])
    have e1 : upd H M (.lst [.int 1]) M = some (.lst ((wr p (rs.take 0)).map V.int)) := upd_same
    generalize upd H M (.lst [.int 1]) = H1 at g1 e1 ⊢
    refine ⟨_, rfl, a, rfl, ⟨_, sL g1 ha⟩, for_list (K := K) (a := a) (xs := rs.map V.int) (fun i σ Hx => ∃ (M : Addr) (v3 v4 v5 : Option V), σ = [some (.ref a), some (.int p), some (.ref M), v3, v4, v5] ∧ Same H Hx ∧ H M = none ∧ Hx M = some (.lst ((wr p (rs.take i)).map V.int)))
      ⟨M, _, _, _, rfl, g1, hM, e1⟩ (fun i σ Hx _ ⟨_, _, _, _, _, gs, _⟩ => sL gs ha) ?_ ?_⟩
    · rintro i r σ Hx hr ⟨M, v3, v4, v5, rfl, gs, hM, eM⟩
      obtain ⟨r, hr2, rfl⟩ := at_int hr
      have rb := hs r (List.mem_of_getElem? hr2)
      generalize hm : wr p (rs.take i) = m at eM
      have lm : m.length ≤ 301 := by
        rw [← hm, wr_len, List.length_take]
        omega
      refine ⟨(by show 1 ≤ sizeLine; decide), fun z hz => ?_⟩
      have gz := same_new hz (.lst [.int 0])
      have ez : upd Hx z (.lst [.int 0]) z = some (.lst [.int 0]) := upd_same
      generalize upd Hx z (.lst [.int 0]) = Ha at gz ez ⊢
      refine ⟨_, rfl, z, M, _, _, rfl, rfl, ez, gz _ _ eM, ?_, fun q hq => ?_⟩
      · rw [List.length_map]
        exact Nat.le_trans (show 1 + m.length ≤ 1000 by omega) (show 1000 ≤ sizeLine by decide)
      have gq := same_new hq (.lst ([V.int 0] ++ m.map V.int))
      have eq : upd Ha q (.lst ([V.int 0] ++ m.map V.int)) q = some (.lst ((0 :: m).map V.int)) := upd_same
      generalize upd Ha q (.lst ([V.int 0] ++ m.map V.int)) = Hb at gq eq ⊢
      refine ⟨_, rfl, (by show 1 ≤ sizeLine; decide), fun u hu => ?_⟩
      have gu := same_new hu (.lst [.int 0])
      have eu : upd Hb u (.lst [.int 0]) u = some (.lst [.int 0]) := upd_same
      generalize upd Hb u (.lst [.int 0]) = Hc at gu eu ⊢
      have eM' := gu _ _ (gq _ _ (gz _ _ eM))
      refine ⟨M, u, _, _, rfl, rfl, eM', eu, ?_, fun w hw => ?_⟩
      · rw [List.length_map]
        exact Nat.le_trans (show m.length + 1 ≤ 1000 by omega) (show 1000 ≤ sizeLine by decide)
      have gw := same_new hw (.lst (m.map V.int ++ [V.int 0]))
      have ew : upd Hc w (.lst (m.map V.int ++ [V.int 0])) w = some (.lst ((m ++ [0]).map V.int)) := by
        rw [upd_same, List.map_append]
        rfl
      generalize upd Hc w (.lst (m.map V.int ++ [V.int 0])) = Hd at gw ew ⊢
      have eq' := gw _ _ (gu _ _ eq)
      have gd := gs.trans (gz.trans (gq.trans (gu.trans gw)))
      refine ⟨q, w, _, _, rfl, .inl ⟨SqL.of eq', SqL.of ew, fun D hD => lc_zipS (Sq := SqL K) (a := q) (b := w) (xs := (0 :: m).map V.int) (ys := (m ++ [0]).map V.int) (by simp) (fun i H' => Same Hd H' ∧ H' D = some (.lst ((List.zipWith (fun a b => (a - r * b) % p) ((0 :: m).take i) ((m ++ [0]).take i)).map V.int)))
        ⟨same_new hD _, upd_same⟩ (fun i H' ⟨gs, _⟩ => ⟨sL gs (SqL.of eq'), sL gs (SqL.of ew)⟩) ?_ ?_⟩⟩
      · rintro j x y TT Hy hx hy ⟨gy, eD⟩ hT
        obtain ⟨x, hx2, rfl⟩ := at_int hx
        obtain ⟨y, hy2, rfl⟩ := at_int hy
        have gT := same_new hT (.tup [.int x, .int y])
        have eD' := gT _ _ eD
        refine ⟨TT, _, rfl, SqT.of upd_same, rfl, _, _, rfl, _, _, rfl, rfl, rfl, _, rfl, _, rfl, _, rfl, _, _, rfl, rfl, .inl ⟨by omega, by omega⟩, _, _, rfl, rfl, _, rfl, _, _, rfl, rfl, p0, _, eD', ?_, fun u o ho => ?_, ?_⟩
        · rw [List.length_map, List.length_zipWith, List.length_take, List.length_take, List.length_cons]
          exact small1000 (by omega)
        · have ho' := gT _ _ (gy _ _ ho)
          rw [upd_ne (ne_of_none ho hD)]
          exact ho'
        · rw [upd_same]
          exact congrArg (fun l => some (HO.lst l)) (zipT (fun a b => (a - r * b) % p) hx2 hy2)
      rintro Hy ⟨gy, eD⟩
      refine ⟨D, _, _, _, rfl, gd.trans gy, none_of gd hD, ?_⟩
      rw [eD, List.length_map, wr_take hr2, hm]
      unfold linL
      rw [List.take_of_length_le (Nat.le_refl _), List.take_of_length_le (by simp)]
    · rintro σ Hx ⟨M, v3, v4, v5, rfl, gs, hM, eM⟩
      rw [List.length_map, List.take_length] at eM
      exact ⟨_, rfl, k M Hx gs hM eM⟩
end
end K0

set_option maxRecDepth 100000
set_option maxHeartbeats 4000000
namespace K0
open PySem L2 K1

/-- the list divided by x - r, by what its ends are worth at r -/
def synL (p r : Int) (cs : List Int) : List Int := (List.range (cs.drop 1).length).map fun k => ev ((cs.drop 1).drop k) r % p
theorem cut_from1 (xs : List V) : cutV xs (some 1) none = xs.drop 1 := by
  unfold cutV
  rw [HT.sIx_none, show (some (1 : Int)) = some ((1 : Nat) : Int) from rfl, HT.sIx_nat]
  cases xs with
  | nil => rfl
  | cons x xs =>
    rw [List.length_cons, Nat.min_eq_left (by omega)]
    show xs.take (xs.length + 1 - 1) = xs
    exact List.take_of_length_le (by omega)
theorem rev_range {g : Nat → Int} (n : Nat) : ((List.range n).map fun j => g (n - (j + 1))).reverse = (List.range n).map g := by
  apply List.ext_getElem?
  intro i
  by_cases h : i < n
  · rw [List.getElem?_reverse (by rw [List.length_map, List.length_range]; exact h), List.length_map, List.length_range, List.getElem?_map, List.getElem?_map,
      List.getElem?_range (by omega), List.getElem?_range h]
    show some (g (n - (n - 1 - i + 1))) = some (g i)
    congr 2
    omega
  · rw [List.getElem?_eq_none (by rw [List.length_reverse, List.length_map, List.length_range]; omega), List.getElem?_eq_none (by rw [List.length_map, List.length_range]; omega)]
theorem range_map {α : Type} (f : Nat → α) (i : Nat) : (List.range (i + 1)).map f = (List.range i).map f ++ [f i] := by
  rw [List.range_succ, List.map_append]
  rfl
def spSyn (K : PySem.W.Frag) : Sp := fun vs H Q _ => ∃ (a : Addr) (cs : List Int) (r p : Int), vs = [.ref a, .int r, .int p] ∧ SqL K H a (cs.map V.int) ∧ 0 < p ∧ p < 18446744073709551616 ∧ cs.length ≤ 1000 ∧
  ∀ (t : Addr) (H' : Hp), Same H H' → H t = none → H' t = some (.lst ((synL p r cs).map V.int)) → Q (.ref t) H'
section
variable {P : Program} {w : World} {K : PySem.W.Frag} {mg : Str → Option Value} {base : Heap}
theorem ok_without_root (T : Txt K mg) : FnOk P w K mg base CX0 1 T.f_without_root T.fd_without_root ["coefficients", "root", "p"] (spSyn K) := by
  refine T.F_without_root.ok sc_without_root (fun vs H Q E h => ?_) (fun cdv A outer s H vs Q E hr h => ?_)
  · obtain ⟨a, cs, r, p, rfl, _⟩ := h
    rfl
  · obtain ⟨a, cs, r, p, rfl, ha, p0, p1, hl, k⟩ := h
    refine ⟨_, (pss_cons (ps_par (i := 3) (j := 4) (by rfl) sc_without_root.nd rfl rfl (by decide) rfl rfl (pa_cons (pe_lst pa_nil) (pa_cons pe_int pa_nil)) (by rfl))
      (pss_cons (ps_for PassesOwn.never rfl (RT.pi_revA (by rfl) T.z_reversed (pe_slice sl_list (pv 0) (po_some pe_int) po_none)) (pg_name (i := 5) sc_without_root.nd rfl (Or.inl rfl)) (pss_cons (ps_set (i := 4) sc_without_root.nd rfl (Or.inl rfl) (pe_op op_mod (pe_op op_add (pe_op op_mul (pv 4) (pv 1)) (pv 5)) (pv 2)))
      (pss_one (ps_expr (pe_bm PySem.F.plainAttrs_list PySem.F.slot_list_append PySem.F.type_list_append mt_append (pv 3) (pa_cons (pv 4) pa_nil))))))
      (pss_one (ps_ret (pe_revL (pv 3)))))), ?_⟩
    refine ⟨(by show 0 ≤ sizeLine; decide), fun M hM => ⟨_, _, rfl, ?_⟩⟩
    have g1 := same_new hM (.lst [])
    have e1 : upd H M (.lst []) M = some (.lst (((List.range 0).map fun j => ev ((cs.drop 1).drop ((cs.drop 1).length - (j + 1))) r % p).map V.int)) := upd_same
    generalize upd H M (.lst []) = H1 at g1 e1 ⊢
    refine ⟨_, rfl, _, rfl, a, _, rfl, sL g1 ha, fun q hq => ?_⟩
    rw [cut_from1, ← List.map_drop]
    generalize hc1 : cs.drop 1 = tl at e1 ⊢
    have lt : tl.length ≤ 1000 := by
      rw [← hc1, List.length_drop]
      omega
    have gq := same_new hq (.lst (tl.map V.int))
    have eq : upd H1 q (.lst (tl.map V.int)) q = some (.lst (tl.map V.int)) := upd_same
    generalize upd H1 q (.lst (tl.map V.int)) = H2 at gq eq ⊢
    have e2 := gq _ _ e1
    have nM : q ≠ M := fun z => by
      rw [z, e1] at hq
      cases hq
    refine ⟨q, _, rfl, .inl ⟨SqL.of eq, RT.for_Itv (K := K) (a := q) (xs := tl.map V.int) (fun i σ Hx => (∃ v5, σ = [some (.ref a), some (.int r), some (.int p), some (.ref M), some (.int (ev (tl.drop (tl.length - i)) r % p)), v5]) ∧ Same H Hx ∧ Hx q = some (.lst (tl.map V.int)) ∧ Hx M = some (.lst (((List.range i).map fun j => ev (tl.drop (tl.length - (j + 1))) r % p).map V.int)))
      ⟨⟨_, by rw [Nat.sub_zero, List.drop_length, show ev [] r % p = 0 from Int.zero_emod p]; rfl⟩, g1.trans gq, eq, e2⟩ (fun i σ Hx ⟨_, _, eq, _⟩ => SqL.of eq) ?_ ?_⟩⟩
    · rintro i y σ Hx hi hy ⟨⟨v, rfl⟩, gs, eq, eM⟩
      rw [List.length_map] at hi hy
      obtain ⟨y, hy2, rfl⟩ := at_int hy
      have b0 := Int.emod_nonneg (ev (tl.drop (tl.length - i)) r) (show p ≠ 0 by omega)
      have b1 := Int.emod_lt_of_pos (ev (tl.drop (tl.length - i)) r) p0
      refine ⟨_, rfl, _, rfl, _, _, rfl, rfl, .inl ⟨by omega, by omega⟩, _, rfl, _, _, rfl, rfl, _, rfl, _, _, rfl, rfl, p0, ?_⟩
      have et := ev_turn (p := p) (x := r) hi hy2
      refine ⟨_, rfl, .inl ⟨rfl, _, SqL.of eM⟩, _, rfl, M, _, _, rfl, rfl, eM, ?_, ?_⟩
      · rw [List.length_map, List.length_map, List.length_range]
        exact small1000 (by omega)
      refine ⟨⟨some (.int y), ?_⟩, same_upd hM gs, ?_, ?_⟩
      · rw [← et]
        rfl
      · rw [upd_ne nM]
        exact eq
      · rw [upd_same, range_map, List.map_append, ← et]
        rfl
    · rintro σ Hx ⟨⟨v, rfl⟩, gs, eq, eM⟩
      rw [List.length_map] at eM
      refine ⟨_, rfl, M, _, rfl, SqL.of eM, fun t ht => ?_⟩
      refine k t _ (gs.trans (same_new ht _)) (none_of gs ht) ?_
      rw [upd_same, ← List.map_reverse, rev_range (g := fun k => ev (tl.drop k) r % p)]
      unfold synL
      rw [hc1]
end
end K0

set_option maxRecDepth 100000
set_option maxHeartbeats 4000000
namespace K0
open PySem L2 K1

/-- a Poly at a: its coefficients, its p -/
def PolyAt {K : PySem.W.Frag} {mg : Str → Option Value} (T : Txt K mg) (H : Hp) (a : Addr) (cs : List Int) (p : Int) : Prop :=
  ∃ (d t : Addr), H a = some (.ins T.C_Poly d [("coefficients", .ref t), ("p", .int p)]) ∧ SqT K H t (cs.map V.int)
theorem PolyAt.same {K : PySem.W.Frag} {mg : Str → Option Value} {T : Txt K mg} {H H' : Hp} {a : Addr} {cs : List Int} {p : Int} (h : PolyAt T H a cs p) (g : Same H H') : PolyAt T H' a cs p :=
  let ⟨d, t, h1, h2⟩ := h
  ⟨d, t, g _ _ h1, sT g h2⟩
/-- but what stands at x all stays -/
def But (x : Addr) (H H' : Hp) : Prop := ∀ y o, y ≠ x → H y = some o → H' y = some o
def spInit {K : PySem.W.Frag} {mg : Str → Option Value} (T : Txt K mg) : Sp := fun vs H Q _ => ∃ (x dx a : Addr) (ns : List Int) (p : Int), vs = [.ref x, .ref a, .int p] ∧ H x = some (.ins T.C_Poly dx []) ∧ SqX K H a (ns.map V.int) ∧ 0 < p ∧ ns.length ≤ 1000 ∧
  ∀ H', But x H H' → PolyAt T H' x (can p ns) p → Q .non H'
section
variable {P : Program} {w : World} {K : PySem.W.Frag} {mg : Str → Option Value} {base : Heap}
theorem ok_m_init (T : Txt K mg) : FnOk P w K mg base CX0 2 T.f_m_init T.fd_m_init ["self", "coefficients", "p"] (spInit T) := by
  refine T.F_m_init.ok sc_m_init (fun vs H Q E h => ?_) (fun cdv A outer s H vs Q E hr h => ?_)
  · obtain ⟨x, dx, a, ns, p, rfl, _⟩ := h
    rfl
  · obtain ⟨x, dx, a, ns, p, rfl, hx, hq, p0, hl, k⟩ := h
    refine ⟨_, (pss_cons (ps_fld (pv 0) (pe_call (ok_trimmed T) (hr.mono (by decide)) (by rfl) T.g_trimmed T.F_trimmed.kp T.b_trimmed .nil pass0 (pa_cons (pe_call (ok_worths_of T) (hr.mono (by decide)) (by rfl) T.g_worths_of T.F_worths_of.kp T.b_worths_of .nil pass0 (pa_cons (pv 1) (pa_cons (pv 2) pa_nil))) pa_nil)) rfl)
      (pss_one (ps_fld (pv 0) (pv 2) rfl))), ?_⟩
    refine ⟨_, rfl, _, rfl, a, ns, p, rfl, hq, p0, hl, fun t H1 g1 ht et => ⟨t, red p ns, rfl, SqT.of et, ?_, fun u H2 g2 hu => ?_⟩⟩
    · unfold red
      rw [List.length_map]
      exact hl
    have hx2 := g2 _ _ (g1 _ _ hx)
    refine ⟨_, rfl, x, _, dx, _, rfl, hx2, T.cl, T.n_coefficients, (by show 0 < 1000; decide), ?_⟩
    refine ⟨_, rfl, _, rfl, x, _, dx, _, rfl, upd_same, T.cl, T.n_p, (by show 1 < 1000; decide), ?_⟩
    rw [setq]
    refine k _ (fun y o n hy => ?_) ⟨dx, u, upd_same, ?_⟩
    · rw [upd_ne n]
      exact g2 _ _ (g1 _ _ hy)
    · have nu : u ≠ x ∨ True := .inr trivial
      rcases hu with (hu | ⟨o, hu⟩) | hu
      · refine .inl (.inl ?_)
        rw [upd_ne (ne_of hu hx2 (by intro z; cases z))]
        exact hu
      · refine .inl (.inr ⟨o, ?_⟩)
        rw [upd_ne (ne_of hu hx2 (by intro z; cases z))]
        exact hu
      · exact .inr hu
end
end K0

set_option maxRecDepth 100000
set_option maxHeartbeats 4000000
namespace K0
open PySem L2 K1

theorem mkP {K : PySem.W.Frag} {mg : Str → Option Value} {T : Txt K mg} {H2 : Hp} {R : Addr → Hp → Prop} {E : XK} {a : Addr} {ns : List Int} {p : Int} (hq : SqX K H2 a (ns.map V.int)) (p0 : 0 < p) (hl : ns.length ≤ 1000)
    (k : ∀ (x : Addr) (H' : Hp), Same H2 H' → H2 x = none → PolyAt T H' x (can p ns) p → R x H') :
    ∀ x dx, H2 x = none → H2 dx = none → dx ≠ x → spInit T [.ref x, .ref a, .int p] (upd (upd H2 dx (.own x)) x (.ins T.C_Poly dx [])) (fun v H3 => v = .non ∧ R x H3) E := by
  intro x dx hx hdx ne
  have g : Same H2 (upd (upd H2 dx (.own x)) x (.ins T.C_Poly dx [])) := fun y o hy => by
    rw [upd_ne (ne_of_none hy hx), upd_ne (ne_of_none hy hdx)]
    exact hy
  refine ⟨x, dx, a, ns, p, rfl, upd_same, hq.same g, p0, hl, fun H' bt pa => ⟨rfl, k x H' (fun y o hy => bt y o (ne_of_none hy hx) (g _ _ hy)) hx pa⟩⟩
theorem tyP {K : PySem.W.Frag} {mg : Str → Option Value} (T : Txt K mg) {H : Hp} {a : Addr} {cs : List Int} {p : Int} (h : PolyAt T H a cs p) : TyX K H (.ref a) (.ref T.C_Poly) := by
  obtain ⟨d, t, h1, _⟩ := h
  exact .base (.ins h1 T.cl T.ca T.cn T.ct T.mo)
def spCall {K : PySem.W.Frag} {mg : Str → Option Value} (T : Txt K mg) : Sp := fun vs H Q _ => ∃ (a : Addr) (cs : List Int) (x p : Int), vs = [.ref a, .int x] ∧ PolyAt T H a cs p ∧ 0 < p ∧ p < 18446744073709551616 ∧ cs.length ≤ 1000 ∧ Q (.int (ev cs x % p)) H
def spDeg {K : PySem.W.Frag} {mg : Str → Option Value} (T : Txt K mg) : Sp := fun vs H Q _ => ∃ (a : Addr) (cs : List Int) (p : Int), vs = [.ref a] ∧ PolyAt T H a cs p ∧ Q (.int ((cs.length : Nat) - 1)) H
def spBin {K : PySem.W.Frag} {mg : Str → Option Value} (T : Txt K mg) (f : List Int → List Int → List Int) : Sp := fun vs H Q _ => ∃ (a b : Addr) (cs ds : List Int) (p : Int), vs = [.ref a, .ref b] ∧ PolyAt T H a cs p ∧ PolyAt T H b ds p ∧ 0 < p ∧ Sm cs ∧ cs.length ≤ 100 ∧ ds.length ≤ 100 ∧
  ∀ (x : Addr) (H' : Hp), Same H H' → H x = none → PolyAt T H' x (can p (f cs ds)) p → Q (.ref x) H'
def spUn {K : PySem.W.Frag} {mg : Str → Option Value} (T : Txt K mg) (f : Int → Int → List Int → List Int) : Sp := fun vs H Q _ => ∃ (a : Addr) (cs : List Int) (w p : Int), vs = [.ref a, .int w] ∧ PolyAt T H a cs p ∧ 0 < p ∧ p < 18446744073709551616 ∧ Sm cs ∧ cs.length ≤ 100 ∧
  ∀ (x : Addr) (H' : Hp), Same H H' → H x = none → PolyAt T H' x (can p (f p w cs)) p → Q (.ref x) H'
theorem addL_len (cs ds : List Int) (s : Int) : (addL cs ds s).length = max cs.length ds.length := by
  unfold addL
  rw [List.length_zipWith, padL_len (Nat.le_max_left _ _), padL_len (Nat.le_max_right _ _), Nat.min_self]
theorem mulL_len (cs ds : List Int) : (mulL cs ds).length = cs.length + ds.length := mO_len cs ds _
def txtP (n : Nat) : Str := Str.empty ++ Str.ofString "Poly(" ++ (toString (n : Int) : Str) ++ Str.ofString " coefficients)"
section
variable {P : Program} {w : World} {K : PySem.W.Frag} {mg : Str → Option Value} {base : Heap}
theorem ok_m_call (T : Txt K mg) : FnOk P w K mg base CX0 2 T.f_m_call T.fd_m_call ["self", "x"] (spCall T) := by
  refine T.F_m_call.ok sc_m_call (fun vs H Q E h => ?_) (fun cdv A outer s H vs Q E hr h => ?_)
  · obtain ⟨a, cs, x, p, rfl, _⟩ := h
    rfl
  · obtain ⟨a, cs, x, p, rfl, ⟨d, t, h1, h2⟩, p0, p1, hl, k⟩ := h
    refine ⟨_, (pss_one (ps_ret (pe_call (ok_worth_at T) (hr.mono (by decide)) (by rfl) T.g_worth_at T.F_worth_at.kp T.b_worth_at .nil pass0 (pa_cons (pe_fld (pv 0) rfl) (pa_cons (pv 1) (pa_cons (pe_fld (pv 0) rfl) pa_nil)))))), ?_⟩
    exact ⟨_, rfl, a, _, d, _, _, rfl, h1, T.cl, T.n_coefficients, rfl, _, rfl, _, rfl, a, _, d, _, _, rfl, h1, T.cl, T.n_p, rfl, t, cs, x, p, rfl, .inr h2, p0, p1, hl, k⟩
theorem ok_m_degree (T : Txt K mg) : FnOk P w K mg base CX0 1 T.f_m_degree T.fd_m_degree ["self"] (spDeg T) := by
  refine T.F_m_degree.ok sc_m_degree (fun vs H Q E h => ?_) (fun cdv A outer s H vs Q E hr h => ?_)
  · obtain ⟨a, cs, p, rfl, _⟩ := h
    rfl
  · obtain ⟨a, cs, p, rfl, ⟨d, t, h1, h2⟩, k⟩ := h
    refine ⟨_, (pss_one (ps_ret (pe_op op_sub (pe_callB call_len_seq (by rfl) T.z_len PySem.boot_len (pa_cons (pe_fld (pv 0) rfl) pa_nil)) pe_int))), ?_⟩
    refine ⟨_, rfl, a, _, d, _, _, rfl, h1, T.cl, T.n_coefficients, rfl, t, _, rfl, .inr h2, _, _, rfl, rfl, ?_⟩
    rw [List.length_map]
    exact k
theorem ok_m_add (T : Txt K mg) : FnOk P w K mg base CX0 4 T.f_m_add T.fd_m_add ["self", "other"] (spBin T (fun cs ds => addL cs ds 1)) := by
  refine T.F_m_add.ok sc_m_add (fun vs H Q E h => ?_) (fun cdv A outer s H vs Q E hr h => ?_)
  · obtain ⟨a, b, cs, ds, p, rfl, _⟩ := h
    rfl
  · obtain ⟨a, b, cs, ds, p, rfl, ⟨d, t, h1, h2⟩, ⟨d2, t2, h3, h4⟩, p0, hs, l1, l2, k⟩ := h
    refine ⟨_, (pss_one (ps_ret (pe_makeK T.mk_ (ok_m_init T) (hr.mono (by decide)) (by rfl) T.gC_Poly T.kb1 pass0 (pa_cons (pe_call (ok_added T) (hr.mono (by decide)) (by rfl) T.g_added T.F_added.kp T.b_added .nil pass0 (pa_cons (pe_fld (pv 0) rfl) (pa_cons (pe_fld (pv 1) rfl) (pa_cons pe_int pa_nil)))) pa_nil) (pk_cons (pe_fld (pv 0) rfl) pk_nil)))), ?_⟩
    refine ⟨_, rfl, a, _, d, _, _, rfl, h1, T.cl, T.n_coefficients, rfl, _, rfl, b, _, d2, _, _, rfl, h3, T.cl, T.n_coefficients, rfl, t, t2, cs, ds, _, rfl, h2, h4, by omega, by omega, by decide, fun l H1 g1 hl el => ?_⟩
    refine ⟨_, rfl, a, _, d, _, _, rfl, g1 _ _ h1, T.cl, T.n_p, rfl, rfl, rfl, mkP (.inl (SqL.of el)) p0 ?_ fun x H' g hx pa => k x H' (g1.trans g) (none_of g1 hx) pa⟩
    rw [addL_len]
    omega
theorem ok_m_sub (T : Txt K mg) : FnOk P w K mg base CX0 4 T.f_m_sub T.fd_m_sub ["self", "other"] (spBin T (fun cs ds => addL cs ds (-1))) := by
  refine T.F_m_sub.ok sc_m_sub (fun vs H Q E h => ?_) (fun cdv A outer s H vs Q E hr h => ?_)
  · obtain ⟨a, b, cs, ds, p, rfl, _⟩ := h
    rfl
  · obtain ⟨a, b, cs, ds, p, rfl, ⟨d, t, h1, h2⟩, ⟨d2, t2, h3, h4⟩, p0, hs, l1, l2, k⟩ := h
    refine ⟨_, (pss_one (ps_ret (pe_makeK T.mk_ (ok_m_init T) (hr.mono (by decide)) (by rfl) T.gC_Poly T.kb1 pass0 (pa_cons (pe_call (ok_added T) (hr.mono (by decide)) (by rfl) T.g_added T.F_added.kp T.b_added .nil pass0 (pa_cons (pe_fld (pv 0) rfl) (pa_cons (pe_fld (pv 1) rfl) (pa_cons (pe_un un_neg pe_int) pa_nil)))) pa_nil) (pk_cons (pe_fld (pv 0) rfl) pk_nil)))), ?_⟩
    refine ⟨_, rfl, a, _, d, _, _, rfl, h1, T.cl, T.n_coefficients, rfl, _, rfl, b, _, d2, _, _, rfl, h3, T.cl, T.n_coefficients, rfl, _, rfl, t, t2, cs, ds, _, rfl, h2, h4, by omega, by omega, by decide, fun l H1 g1 hl el => ?_⟩
    refine ⟨_, rfl, a, _, d, _, _, rfl, g1 _ _ h1, T.cl, T.n_p, rfl, rfl, rfl, mkP (.inl (SqL.of el)) p0 ?_ fun x H' g hx pa => k x H' (g1.trans g) (none_of g1 hx) pa⟩
    rw [addL_len]
    omega
theorem ok_m_mul (T : Txt K mg) : FnOk P w K mg base CX0 4 T.f_m_mul T.fd_m_mul ["self", "other"] (spBin T mulL) := by
  refine T.F_m_mul.ok sc_m_mul (fun vs H Q E h => ?_) (fun cdv A outer s H vs Q E hr h => ?_)
  · obtain ⟨a, b, cs, ds, p, rfl, _⟩ := h
    rfl
  · obtain ⟨a, b, cs, ds, p, rfl, ⟨d, t, h1, h2⟩, ⟨d2, t2, h3, h4⟩, p0, hs, l1, l2, k⟩ := h
    refine ⟨_, (pss_one (ps_ret (pe_makeK T.mk_ (ok_m_init T) (hr.mono (by decide)) (by rfl) T.gC_Poly T.kb1 pass0 (pa_cons (pe_call (ok_multiplied T) (hr.mono (by decide)) (by rfl) T.g_multiplied T.F_multiplied.kp T.b_multiplied .nil pass0 (pa_cons (pe_fld (pv 0) rfl) (pa_cons (pe_fld (pv 1) rfl) pa_nil))) pa_nil) (pk_cons (pe_fld (pv 0) rfl) pk_nil)))), ?_⟩
    refine ⟨_, rfl, a, _, d, _, _, rfl, h1, T.cl, T.n_coefficients, rfl, _, rfl, b, _, d2, _, _, rfl, h3, T.cl, T.n_coefficients, rfl, t, t2, cs, ds, rfl, h2, h4, by omega, by omega, hs, fun l H1 g1 hl el => ?_⟩
    refine ⟨_, rfl, a, _, d, _, _, rfl, g1 _ _ h1, T.cl, T.n_p, rfl, rfl, rfl, mkP (.inl (SqL.of el)) p0 ?_ fun x H' g hx pa => k x H' (g1.trans g) (none_of g1 hx) pa⟩
    rw [mulL_len]
    omega
end
end K0

set_option maxRecDepth 100000
set_option maxHeartbeats 4000000
namespace K0
open PySem L2 K1

theorem lay_ints (ns : List Int) : PyData.canLayAll0 (ns.map PyData.int) = true := by
  induction ns with
  | nil => rfl
  | cons n ns ih =>
    rw [List.map_cons]
    simp [PyData.canLayAll0, PyData.canLay0, ih]
theorem dep_ints (ns : List Int) : PyData.depthAll (ns.map PyData.int) ≤ 1 := by
  induction ns with
  | nil => simp [PyData.depthAll]
  | cons n ns ih =>
    rw [List.map_cons]
    simp [PyData.depthAll, PyData.depth]
    omega
theorem shT (ns : List Int) : SeqAt.shaped (.tuple (ns.map PyData.int)) = true := by
  have h1 := lay_ints ns
  have h2 := dep_ints ns
  unfold SeqAt.shaped
  simp [PyData.canLay0, PyData.depth, h1]
  omega
theorem shL (ns : List Int) : SeqAt.shaped (.list (ns.map PyData.int)) = true := by
  have h1 := lay_ints ns
  have h2 := dep_ints ns
  unfold SeqAt.shaped
  simp [PyData.canLay0, PyData.depth, h1]
  omega
theorem eqvI (xs ys : List Int) : PyData.eqvAll (xs.map PyData.int) (ys.map PyData.int) = decide (xs = ys) := by
  induction xs generalizing ys with
  | nil => cases ys <;> simp [PyData.eqvAll]
  | cons x xs ih =>
    cases ys with
    | nil => simp [PyData.eqvAll]
    | cons y ys =>
      rw [List.map_cons, List.map_cons]
      simp only [PyData.eqvAll, PyData.eqv, ih]
      by_cases h : x = y
      · subst h
        simp
      · simp [h]
theorem dpI {K : PySem.W.Frag} {H : Hp} : ∀ ns : List Int, DpAll K H (ns.map V.int) (ns.map PyData.int)
  | [] => .nil
  | n :: ns => .cons (.int n) (dpI ns)
theorem txt_len : ∀ n : Nat, n < 1001 → (Str.ofString (toString (n : Int))).length ≤ 10 := by decide +kernel
def sclL (_ w : Int) (cs : List Int) : List Int := cs.map fun c => w * c
def fac (p w : Int) : Nat → Int
  | 0 => 1
  | i + 1 => fac p w i * w % p
def stpL (p w : Int) (cs : List Int) : List Int := (List.range cs.length).map fun i => cs.getD i 0 * fac p w i
def spEqP {K : PySem.W.Frag} {mg : Str → Option Value} (T : Txt K mg) : Sp := fun vs H Q _ => ∃ (a : Addr) (y : V) (cs : List Int) (p : Int), vs = [.ref a, y] ∧ PolyAt T H a cs p ∧
  ((∃ (b : Addr) (ds : List Int) (q : Int), y = .ref b ∧ PolyAt T H b ds q ∧ Q (.bl (decide (p = q) && decide (cs = ds))) H) ∨ (∃ t, TyX K H y t ∧ PySem.W.kitOne K t (.ref T.C_Poly) = some false ∧ Q (.bl false) H))
def spRep {K : PySem.W.Frag} {mg : Str → Option Value} (T : Txt K mg) : Sp := fun vs H Q _ => ∃ (a : Addr) (cs : List Int) (p : Int), vs = [.ref a] ∧ PolyAt T H a cs p ∧ cs.length ≤ 1000 ∧ Q (.str (txtP cs.length)) H
section
variable {P : Program} {w : World} {K : PySem.W.Frag} {mg : Str → Option Value} {base : Heap}
theorem ok_m_scaled (T : Txt K mg) : FnOk P w K mg base CX0 4 T.f_m_scaled T.fd_m_scaled ["self", "worth"] (spUn T sclL) := by
  refine T.F_m_scaled.ok sc_m_scaled (fun vs H Q E h => ?_) (fun cdv A outer s H vs Q E hr h => ?_)
  · obtain ⟨a, cs, w, p, rfl, _⟩ := h
    rfl
  · obtain ⟨a, cs, w, p, rfl, ⟨d, t, h1, h2⟩, p0, p1, hs, hl, k⟩ := h
    refine ⟨_, (pss_one (ps_ret (pe_makeK T.mk_ (ok_m_init T) (hr.mono (by decide)) (by rfl) T.gC_Poly T.kb1 pass0 (pa_cons (pe_lc (own := [("coefficient", 2)]) (g := gName 2) (tt := tYes) (by rfl) sc_m_scaled.nd (pi_tup (pe_fld (pv 0) rfl)) (blkOk_by (own := [("coefficient", 2)]) (N := ["self", "worth", "coefficient"]) (sc := defScope s_m_scaled) (by decide +kernel)) (fun _ _ _ _ _ => (pg_name (i := 2) sc_m_scaled.nd rfl (Or.inl rfl))) (fun _ _ _ _ _ => pts_nil) (fun _ _ _ _ _ => (pe_op op_mul (pv 1) (pv 2)))) pa_nil) (pk_cons (pe_fld (pv 0) rfl) pk_nil)))), ?_⟩
    refine ⟨_, rfl, a, _, d, _, _, rfl, h1, T.cl, T.n_coefficients, rfl, t, rfl, ⟨_, h2⟩, fun D hD => lc_tup (K := K) (a := t) (xs := cs.map V.int) (fun i Hx => Same H Hx ∧ Hx D = some (.lst (((cs.take i).map fun c => w * c).map V.int)))
      ⟨same_new hD _, upd_same⟩ (fun i Hx _ ⟨gs, _⟩ => sT gs h2) ?_ ?_⟩
    · rintro i z Hx hi ⟨gs, eD⟩
      obtain ⟨n, hn, rfl⟩ := at_int hi
      have nb := hs n (List.mem_of_getElem? hn)
      refine ⟨rfl, _, rfl, _, rfl, _, _, rfl, rfl, .inr ⟨by omega, by omega⟩, _, eD, ?_, fun x o ho => ?_, ?_⟩
      · rw [List.length_map, List.length_map, List.length_take]
        exact small1000 (by omega)
      · rw [upd_ne (ne_of_none ho hD)]
        exact gs _ _ ho
      · rw [upd_same]
        exact congrArg (fun l => some (HO.lst l)) (mapT (f := fun c => w * c) hn)
    rintro Hx ⟨gs, eD⟩
    rw [List.length_map, List.take_length] at eD
    refine ⟨_, rfl, a, _, d, _, _, rfl, gs _ _ h1, T.cl, T.n_p, rfl, rfl, rfl, mkP (ns := sclL p w cs) (.inl (SqL.of eD)) p0 ?_ fun x H' g hx pa => k x H' (gs.trans g) (none_of gs hx) pa⟩
    unfold sclL
    rw [List.length_map]
    omega
theorem ok_m_stepped (T : Txt K mg) : FnOk P w K mg base CX0 4 T.f_m_stepped T.fd_m_stepped ["self", "worth"] (spUn T stpL) := by
  refine T.F_m_stepped.ok sc_m_stepped (fun vs H Q E h => ?_) (fun cdv A outer s H vs Q E hr h => ?_)
  · obtain ⟨a, cs, w, p, rfl, _⟩ := h
    rfl
  · obtain ⟨a, cs, w, p, rfl, ⟨d, t, h1, h2⟩, p0, p1, hs, hl, k⟩ := h
    refine ⟨_, (pss_cons (ps_par (i := 2) (j := 3) (by rfl) sc_m_stepped.nd rfl rfl (by decide) rfl rfl (pa_cons (pe_lst pa_nil) (pa_cons pe_int pa_nil)) (by rfl))
      (pss_cons (ps_for PassesOwn.never rfl (pi_tup (pe_fld (pv 0) rfl)) (pg_name (i := 4) sc_m_stepped.nd rfl (Or.inl rfl)) (pss_cons (ps_expr (pe_bm PySem.F.plainAttrs_list PySem.F.slot_list_append PySem.F.type_list_append mt_append (pv 2) (pa_cons (pe_op op_mul (pv 4) (pv 3)) pa_nil)))
      (pss_one (ps_set (i := 3) sc_m_stepped.nd rfl (Or.inl rfl) (pe_op op_mod (pe_op op_mul (pv 3) (pv 1)) (pe_fld (pv 0) rfl))))))
      (pss_one (ps_ret (pe_makeK T.mk_ (ok_m_init T) (hr.mono (by decide)) (by rfl) T.gC_Poly T.kb1 pass0 (pa_cons (pv 2) pa_nil) (pk_cons (pe_fld (pv 0) rfl) pk_nil)))))), ?_⟩
    refine ⟨(by show 0 ≤ sizeLine; decide), fun M hM => ⟨_, _, rfl, ?_⟩⟩
    have g1 := same_new hM (.lst [])
    have e1 : upd H M (.lst []) M = some (.lst (((List.range 0).map fun i => cs.getD i 0 * fac p w i).map V.int)) := upd_same
    generalize upd H M (.lst []) = H1 at g1 e1 ⊢
    refine ⟨_, rfl, a, _, d, _, _, rfl, g1 _ _ h1, T.cl, T.n_coefficients, rfl, t, rfl, ⟨_, sT g1 h2⟩, for_tup (K := K) (a := t) (xs := cs.map V.int) (fun i σ Hx => (∃ v4, σ = [some (.ref a), some (.int w), some (.ref M), some (.int (fac p w i)), v4]) ∧ (0 ≤ fac p w i ∧ fac p w i ≤ p) ∧ Same H Hx ∧ Hx M = some (.lst (((List.range i).map fun i => cs.getD i 0 * fac p w i).map V.int)))
      ⟨⟨_, rfl⟩, ⟨by show (0 : Int) ≤ 1; decide, by show (1 : Int) ≤ p; omega⟩, g1, e1⟩ (fun i σ Hx _ ⟨_, _, gs, _⟩ => sT gs h2) ?_ ?_⟩
    · rintro i z σ Hx hi ⟨⟨v4, rfl⟩, ⟨f0, f1⟩, gs, eM⟩
      obtain ⟨n, hn, rfl⟩ := at_int hi
      have nb := hs n (List.mem_of_getElem? hn)
      have en : cs.getD i 0 = n := getD_of hn
      have il : i < cs.length := (List.getElem?_eq_some_iff.mp hn).1
      refine ⟨_, rfl, .inl ⟨rfl, _, SqL.of eM⟩, _, rfl, _, rfl, _, _, rfl, rfl, .inl ⟨by omega, by omega⟩, M, _, _, rfl, rfl, eM, ?_, ?_⟩
      · rw [List.length_map, List.length_map, List.length_range]
        exact small1000 (by omega)
      have gs2 := same_upd (o := .lst (((List.range i).map fun i => cs.getD i 0 * fac p w i).map V.int ++ [V.int (n * fac p w i)])) hM gs
      refine ⟨_, rfl, _, rfl, _, _, rfl, rfl, .inl ⟨by omega, by omega⟩, _, rfl, a, _, d, _, _, rfl, gs2 _ _ h1, T.cl, T.n_p, rfl, _, _, rfl, rfl, p0, ?_⟩
      refine ⟨⟨_, rfl⟩, ⟨Int.emod_nonneg _ (by omega), Int.le_of_lt (Int.emod_lt_of_pos _ p0)⟩, gs2, ?_⟩
      rw [upd_same, range_map, List.map_append, en]
      rfl
    · rintro σ Hx ⟨⟨v4, rfl⟩, _, gs, eM⟩
      rw [List.length_map] at eM
      refine ⟨_, rfl, _, rfl, a, _, d, _, _, rfl, gs _ _ h1, T.cl, T.n_p, rfl, rfl, rfl, mkP (ns := stpL p w cs) (.inl (SqL.of eM)) p0 ?_ fun x H' g hx pa => k x H' (gs.trans g) (none_of gs hx) pa⟩
      unfold stpL
      rw [List.length_map, List.length_range]
      omega
theorem ok_m_eq (T : Txt K mg) : FnOk P w K mg base CX0 1 T.f_m_eq T.fd_m_eq ["self", "other"] (spEqP T) := by
  refine T.F_m_eq.ok sc_m_eq (fun vs H Q E h => ?_) (fun cdv A outer s H vs Q E hr h => ?_)
  · obtain ⟨a, y, cs, p, rfl, _⟩ := h
    rfl
  · obtain ⟨a, y, cs, p, rfl, hp, k⟩ := h
    refine ⟨_, (pss_one (ps_ret (pe_and (pe_callB call_isi (by rfl) T.z_isinstance (by decide +kernel) (pa_cons (pv 1) (pa_cons (pe_glob (v := .ref T.C_Poly) (by rfl) T.gC_Poly rfl) pa_nil))) (pe_and (pe_cmpR op_eq (pe_fld (pv 0) rfl) (pe_fld (pv 1) rfl) (nomark _)) (pe_one (pe_cmpR (op_eqD hr.units) (pe_fld (pv 0) rfl) (pe_fld (pv 1) rfl) (nomark _))))))), ?_⟩
    obtain ⟨d, t, h1, h2⟩ := id hp
    rcases k with ⟨b, ds, q, rfl, hb, k⟩ | ⟨ty, hty, hk, k⟩
    · obtain ⟨d2, t2, h3, h4⟩ := id hb
      refine ⟨_, rfl, _, _, _, _, _, rfl, .own _, tyP T hb, T.kk, _, rfl, iteT ?_⟩
      refine ⟨_, rfl, a, _, d, _, _, rfl, h1, T.cl, T.n_p, rfl, _, rfl, b, _, d2, _, _, rfl, h3, T.cl, T.n_p, rfl, rfl, _, rfl, ite2 (fun c => ?_) (fun c => ?_)⟩
      · have e : p = q := V.int.inj (of_decide_eq_true c)
        rw [decide_eq_true e, Bool.true_and] at k
        refine ⟨_, rfl, a, _, d, _, _, rfl, h1, T.cl, T.n_coefficients, rfl, _, rfl, b, _, d2, _, _, rfl, h3, T.cl, T.n_coefficients, rfl, _, _, .tup h2 (dpI cs), .tup h4 (dpI ds), shT cs, shT ds, ?_⟩
        rw [show PyData.eqv (.tuple (cs.map PyData.int)) (.tuple (ds.map PyData.int)) = decide (cs = ds) from eqvI cs ds]
        exact k
      · have e : ¬ p = q := fun z => c (decide_eq_true (congrArg V.int z))
        rw [decide_eq_false e, Bool.false_and] at k
        exact k
    · exact ⟨_, rfl, _, _, _, _, _, rfl, .own _, hty, hk, _, rfl, iteF k⟩
theorem ok_m_repr (T : Txt K mg) : FnOk P w K mg base CX0 1 T.f_m_repr T.fd_m_repr ["self"] (spRep T) := by
  refine T.F_m_repr.ok sc_m_repr (fun vs H Q E h => ?_) (fun cdv A outer s H vs Q E hr h => ?_)
  · obtain ⟨a, cs, p, rfl, _⟩ := h
    rfl
  · obtain ⟨a, cs, p, rfl, ⟨d, t, h1, h2⟩, hl, k⟩ := h
    refine ⟨_, (pss_one (ps_ret (pe_joined (PJ.cons pe_str (PJ.cons (pe_fmt (pe_callB call_len_seq (by rfl) T.z_len PySem.boot_len (pa_cons (pe_fld (pv 0) rfl) pa_nil))) (PJ.cons pe_str PJ.nil)))))), ?_⟩
    have hz := txt_len cs.length (by omega)
    have hs1 : 100 ≤ sizeLine := by decide
    have e0 : (Str.empty ++ Str.ofString "Poly(").length = 5 := by decide +kernel
    have e2 : (Str.ofString " coefficients)").length = 14 := by decide +kernel
    refine ⟨_, rfl, (by rw [e0]; omega), ?_⟩
    refine ⟨_, rfl, a, _, d, _, _, rfl, h1, T.cl, T.n_coefficients, rfl, t, _, rfl, .inr h2, .inr ⟨_, rfl, ?_, _, rfl, ?_, _, rfl, ?_, ?_⟩⟩
    · rw [List.length_map]
      exact Nat.lt_trans (PySem.Flt.log2_lt_of (by decide : 0 < 64) (by omega)) (by decide)
    · rw [Str.length_append, e0, List.length_map]
      omega
    · rw [Str.length_append, Str.length_append, e0, e2, List.length_map]
      omega
    · rw [List.length_map]
      exact k
end
end K0

set_option maxRecDepth 100000
set_option maxHeartbeats 4000000
namespace K0
open PySem L2 K1

def subAt (p f : Int) (d : List Int) (base : Nat) : Nat → List Int → List Int
  | 0, r => r
  | k + 1, r => (subAt p f d base k r).set (base + k) (((subAt p f d base k r).getD (base + k) 0 - f * d.getD k 0) % p)
theorem subAt_len {p f : Int} {d : List Int} {base : Nat} (k : Nat) (r : List Int) : (subAt p f d base k r).length = r.length := by
  induction k with
  | zero => rfl
  | succ k ih => show ((subAt p f d base k r).set _ _).length = _; rw [List.length_set, ih]
/-- one turn of the division: the factor, what is left -/
def dfac (p lead : Int) (r : List Int) : Int := r.getD (r.length - 1) 0 * lead % p
def drest (p lead : Int) (d r : List Int) : List Int := (subAt p (dfac p lead r) d (r.length - d.length) d.length r).dropLast
def dst (p lead : Int) (d cs : List Int) : Nat → List Int × List Int
  | 0 => ([], cs)
  | j + 1 => ((dst p lead d cs j).1 ++ [dfac p lead (dst p lead d cs j).2], drest p lead d (dst p lead d cs j).2)
theorem dst_len {p lead : Int} {d cs : List Int} (j : Nat) : (dst p lead d cs j).1.length = j ∧ (dst p lead d cs j).2.length = cs.length - j := by
  induction j with
  | zero => exact ⟨rfl, rfl⟩
  | succ j ih =>
    refine ⟨?_, ?_⟩
    · show ((dst p lead d cs j).1 ++ [_]).length = _
      rw [List.length_append, ih.1]
      rfl
    · show ((subAt _ _ _ _ _ (dst p lead d cs j).2).dropLast).length = _
      rw [List.length_dropLast, subAt_len, ih.2]
      omega
def divN (d cs : List Int) : Nat := cs.length + 1 - d.length
def divQ (p lead : Int) (cs d : List Int) : List Int := (dst p lead d cs (divN d cs)).1.reverse
def divR (p lead : Int) (cs d : List Int) : List Int := (dst p lead d cs (divN d cs)).2
theorem at_last {l : List Int} (h : 0 < l.length) : atI (l.map V.int) (-1) = some (V.int (l.getD (l.length - 1) 0)) := by
  have e : ixN (l.map V.int).length (-1) = some (l.length - 1) := by
    unfold ixN
    rw [if_neg (by omega), if_pos (by rw [List.length_map]; omega), List.length_map]
    congr 1
    omega
  unfold atI
  rw [e]
  show (l.map V.int)[l.length - 1]? = _
  rw [List.getElem?_map, List.getD_eq_getElem?_getD, List.getElem?_eq_getElem (show l.length - 1 < l.length by omega)]
  rfl
def spInv0 : Sp := fun vs H Q _ => ∃ (x p : Int), vs = [.int x, .int p] ∧ Prm p ∧ p < 2 ^ 64 ∧ x % p ≠ 0 ∧ ∀ (r : Int) (H' : Hp), 0 < r → r < p → (r * x) % p = 1 → Same H H' → Q (.int r) H'
def spDiv {K : PySem.W.Frag} {mg : Str → Option Value} (T : Txt K mg) : Sp := fun vs H Q E => ∃ (a b : Addr) (cs ds : List Int) (p : Int), vs = [.ref a, .ref b] ∧ PolyAt T H a cs p ∧ PolyAt T H b ds p ∧ Prm p ∧ p < 2 ^ 64 ∧ cs.length ≤ 100 ∧ ds.length ≤ 100 ∧ Sm ds ∧
  (ds = [] → E (.type "ZeroDivisionError") none H) ∧ (ds ≠ [] → ds.getD (ds.length - 1) 0 % p ≠ 0 ∧ ∀ (lead : Int), 0 < lead → lead < p → (lead * ds.getD (ds.length - 1) 0) % p = 1 →
    ∀ (t x y : Addr) (H' : Hp), Same H H' → H t = none → H' t = some (.tup [.ref x, .ref y]) → PolyAt T H' x (can p (divQ p lead cs ds)) p → PolyAt T H' y (can p (divR p lead cs ds)) p → Q (.ref t) H')
section
variable {P : Program} {w : World} {K : PySem.W.Frag} {mg : Str → Option Value} {base : Heap}
theorem ok_inverse0 (T : Txt K mg) : FnOk P w K mg base CX0 1 T.f_inverse T.fd_inverse ["worth", "p"] (spInv0) := by
  refine T.F_inverse.ok sc_inverse (fun vs H Q E h => ?_) (fun cdv A outer s H vs Q E hr h => ?_)
  · obtain ⟨b, m, rfl, _⟩ := h
    rfl
  · obtain ⟨x, p, rfl, P1, p2, nz, k⟩ := h
    have p1 := P1.1
    refine ⟨_, (pss_cons (ps_par (i := 2) (j := 3) (by rfl) sc_inverse.nd rfl rfl (by decide) rfl rfl (pa_cons (pe_op op_mod (pv 0) (pv 1)) (pa_cons (pv 1) pa_nil)) (by rfl))
      (pss_cons (ps_if (pt_cmpR op_eq (pv 2) pe_int (nomark _)) (pss_one ps_never) pss_nil)
      (pss_cons (ps_asg (pe_tup (pa_cons pe_int (pa_cons pe_int pa_nil))) (pg_tup (by rfl) (pgs_cons (pg_name (i := 4) sc_inverse.nd rfl (Or.inl rfl)) (pgs_cons (pg_name (i := 5) sc_inverse.nd rfl (Or.inl rfl)) pgs_nil))))
      (pss_cons (ps_while PassesOwn.never (pt_cmpR op_gt (pv 2) pe_int (nomark _)) (pss_cons (ps_set (i := 6) sc_inverse.nd rfl (Or.inl rfl) (pe_op op_fdivW (pv 3) (pv 2)))
      (pss_cons (ps_par (i := 2) (j := 3) (by rfl) sc_inverse.nd rfl rfl (by decide) rfl rfl (pa_cons (pe_op op_sub (pv 3) (pe_op op_mul (pv 6) (pv 2))) (pa_cons (pv 2) pa_nil)) (by rfl))
      (pss_one (ps_par (i := 4) (j := 5) (by rfl) sc_inverse.nd rfl rfl (by decide) rfl rfl (pa_cons (pe_op op_sub (pv 5) (pe_op op_mul (pv 6) (pv 4))) (pa_cons (pv 4) pa_nil)) (by rfl))))))
      (pss_one (ps_ret (pe_op op_mod (pv 4) (pv 1)))))))), ?_⟩
    refine ⟨_, rfl, _, rfl, _, _, rfl, rfl, (by show (0 : Int) < p; omega), _, rfl, _, _, rfl, ?_⟩
    refine ⟨_, rfl, rfl, _, rfl, ite2 (fun c => ?_) (fun c => ?_)⟩
    · exact absurd (V.int.inj (of_decide_eq_true c)) nz
    refine ⟨(by show 2 ≤ sizeLine; decide), fun tp htp => ⟨tp, _, rfl, SqT.of upd_same, rfl, _, _, rfl, _, _, rfl, rfl, ?_⟩⟩
    have gS := same_new htp (.tup [.int 1, .int 0])
    generalize upd H tp (.tup [.int 1, .int 0]) = HH at gS ⊢
    refine ⟨fun m σ H' => ∃ low high one other : Int, ∃ v : Option V, σ = [some (.int x), some (.int p), some (.int low), some (.int high), some (.int one), some (.int other), v] ∧ H' = HH ∧ InvI x p low high one other ∧ m = low.toNat,
      ⟨_, _, _, _, _, _, rfl, rfl, inv_start P1 nz, rfl⟩, ?_⟩
    rintro m σ H' ⟨low, high, one, other, v, rfl, rfl, I, rfl⟩
    have l0 := I.l0
    have lh := I.lh
    have hp := I.hp
    refine ⟨_, rfl, _, _, rfl, rfl, _, rfl, ite2 (fun c => ?_) (fun c => ?_)⟩
    · have l1 : 1 < low := of_decide_eq_true c
      refine ⟨fun σ' H'' => ∃ low' high' one' other' : Int, ∃ v : Option V, σ' = [some (.int x), some (.int p), some (.int low'), some (.int high'), some (.int one'), some (.int other'), v] ∧ H'' = H' ∧ InvI x p low' high' one' other' ∧ low'.toNat < low.toNat, ?_, ?_⟩
      · rintro σ' H'' ⟨low', high', one', other', v, rfl, rfl, I', hl⟩
        exact ⟨_, hl, _, _, _, _, _, rfl, rfl, I', rfl⟩
      · have q0 : 0 ≤ high / low := Int.ediv_nonneg (by omega) l0
        have q1 : high / low ≤ high := Int.ediv_le_self _ (by omega)
        refine ⟨_, rfl, _, rfl, _, _, rfl, rfl, ⟨by omega, Nat.lt_trans (PySem.Flt.log2_lt_of (by decide : 0 < 64) (by omega)) (by decide)⟩, ?_⟩
        refine ⟨_, rfl, _, rfl, _, rfl, _, _, rfl, rfl, .inl ⟨by omega, by omega⟩, _, _, rfl, rfl, _, rfl, _, _, rfl, ?_⟩
        refine ⟨_, rfl, _, rfl, _, rfl, _, _, rfl, rfl, .inl ⟨by omega, by omega⟩, _, _, rfl, rfl, _, rfl, _, _, rfl, ?_⟩
        obtain ⟨I', hl⟩ := inv_turn I l1
        exact ⟨_, _, _, _, _, rfl, rfl, I', hl⟩
    · have l1 : ¬ 1 < low := fun z => c (decide_eq_true z)
      obtain ⟨r0, r1, r2⟩ := inv_end I l1
      exact ⟨_, rfl, _, rfl, _, _, rfl, rfl, (by show (0 : Int) < p; omega), k _ _ r0 r1 r2 gS⟩
theorem ok_m_divided (T : Txt K mg) : FnOk P w K mg base (L2.CX P w) 4 T.f_m_divided T.fd_m_divided ["self", "other"] (spDiv T) := by
  refine T.F_m_divided.okX sc_m_divided (fun vs H Q E h => ?_) (fun cdv A outer s H vs Q E hr h => ?_)
  · obtain ⟨a, b, cs, ds, p, rfl, _⟩ := h
    rfl
  · obtain ⟨a, b, cs, ds, p, rfl, ⟨d, t, h1, h2⟩, ⟨d2, t2, h3, h4⟩, P1, p2, l1, l2, hs, kE, k⟩ := h
    have p1 := P1.1
    refine ⟨_, (pss_cons (ps_if (pt_not (pt_truth (pe_fld (pv 1) rfl) (fun _ => rfl))) (pss_one (ps_raise rfl (takes_of rfl rfl rfl rfl) (pmk_exbS exb_ZeroDivisionError (by rfl) T.z_ZeroDivisionError (by decide +kernel)))) pss_nil)
      (pss_cons (ps_set (i := 2) sc_m_divided.nd rfl (Or.inl rfl) (pe_call (ok_inverse0 T) (hr.mono (by decide)) (by rfl) T.g_inverse T.F_inverse.kp T.b_inverse .nil pass0 (pa_cons (pe_ix ix_tup (pe_fld (pv 1) rfl) (pe_un un_neg pe_int) (fun _ _ => rfl)) (pa_cons (pe_fld (pv 0) rfl) pa_nil))))
      (pss_cons (ps_par (i := 3) (j := 4) (by rfl) sc_m_divided.nd rfl rfl (by decide) rfl rfl (pa_cons (pe_lst pa_nil) (pa_cons (pe_callTy call_list_of (by rfl) T.z_list (by decide +kernel) (pa_cons (pe_fld (pv 0) rfl) pa_nil)) pa_nil)) (by rfl))
      (pss_cons (ps_while (passes_of rfl) (pt_cmpR op_ge (pe_callB call_len_seq (by rfl) T.z_len PySem.boot_len (pa_cons (pv 4) pa_nil)) (pe_callB call_len_seq (by rfl) T.z_len PySem.boot_len (pa_cons (pe_fld (pv 1) rfl) pa_nil)) (nomark _)) (pss_cons (ps_set (i := 5) sc_m_divided.nd rfl (Or.inl rfl) (pe_op op_mod (pe_op op_mul (pe_ix ix_list (pv 4) (pe_un un_neg pe_int) (fun _ _ => rfl)) (pv 2)) (pe_fld (pv 0) rfl)))
      (pss_cons (ps_expr (pe_bm PySem.F.plainAttrs_list PySem.F.slot_list_append PySem.F.type_list_append mt_append (pv 3) (pa_cons (pv 5) pa_nil)))
      (pss_cons (ps_set (i := 6) sc_m_divided.nd rfl (Or.inl rfl) (pe_op op_sub (pe_callB call_len_seq (by rfl) T.z_len PySem.boot_len (pa_cons (pv 4) pa_nil)) (pe_callB call_len_seq (by rfl) T.z_len PySem.boot_len (pa_cons (pe_fld (pv 1) rfl) pa_nil))))
      (pss_cons (ps_for (passes_of rfl) rfl (EnT.pi_enumT (by rfl) T.z_enumerate (pa_cons (pe_fld (pv 1) rfl) pa_nil)) (pg_tup (by rfl) (pgs_cons (pg_name (i := 7) sc_m_divided.nd rfl (Or.inl rfl)) (pgs_cons (pg_name (i := 8) sc_m_divided.nd rfl (Or.inl rfl)) pgs_nil))) (pss_one (ps_asg (pe_op op_mod (pe_op op_sub (pe_ix ix_list (pv 4) (pe_op op_add (pv 6) (pv 7)) (fun _ _ => rfl)) (pe_op op_mul (pv 5) (pv 8))) (pe_fld (pv 0) rfl)) (pg_sub (pv 4) (pe_op op_add (pv 6) (pv 7)) set_list))))
      (pss_one (ps_expr (pe_bm0 PySem.F.plainAttrs_list PySem.F.slot_list_pop PySem.F.type_list_pop mt_pop (pv 4)))))))))
      (pss_one (ps_ret (pe_tup (pa_cons (pe_makeK T.mk_ (ok_m_init T) (hr.mono (by decide)) (by rfl) T.gC_Poly T.kb1 pass0 (pa_cons (pe_revL (pv 3)) pa_nil) (pk_cons (pe_fld (pv 0) rfl) pk_nil)) (pa_cons (pe_makeK T.mk_ (ok_m_init T) (hr.mono (by decide)) (by rfl) T.gC_Poly T.kb1 pass0 (pa_cons (pv 4) pa_nil) (pk_cons (pe_fld (pv 0) rfl) pk_nil)) pa_nil))))))))), ?_⟩
    refine ⟨_, rfl, b, _, d2, _, _, rfl, h3, T.cl, T.n_coefficients, rfl, !ds.isEmpty, .inr (.inl ⟨_, h4, by rw [List.isEmpty_map]⟩), ?_⟩
    by_cases hd : ds = []
    · subst hd
      exact kE rfl
    obtain ⟨nz, k⟩ := k hd
    have l0 : 0 < ds.length := Nat.pos_of_ne_zero fun z => hd (List.eq_nil_of_length_eq_zero z)
    have ne : (!!ds.isEmpty) = false := by
      cases ds with
      | nil => exact absurd rfl hd
      | cons x xs => rfl
    rw [ne]
    refine iteF ⟨_, rfl, b, _, d2, _, _, rfl, h3, T.cl, T.n_coefficients, rfl, _, rfl, t2, _, _, _, rfl, rfl, h4, at_last l0, _, rfl, a, _, d, _, _, rfl, h1, T.cl, T.n_p, rfl, _, p, rfl, P1, p2, nz, fun lead H1 r0 r1 r2 g1 => ?_⟩
    refine ⟨(by show 0 ≤ sizeLine; decide), fun M hM => ?_⟩
    have g2 := same_new hM (.lst [])
    have eM : upd H1 M (.lst []) M = some (.lst ((dst p lead ds cs 0).1.map V.int)) := upd_same
    generalize upd H1 M (.lst []) = H2 at g2 eM ⊢
    have g02 := g1.trans g2
    refine ⟨_, rfl, a, _, d, _, _, rfl, g02 _ _ h1, T.cl, T.n_coefficients, rfl, t, _, rfl, .inr (sT g02 h2), fun R hR => ⟨_, _, rfl, ?_⟩⟩
    have g3 := same_new hR (.lst (cs.map V.int))
    have eR : upd H2 R (.lst (cs.map V.int)) R = some (.lst ((dst p lead ds cs 0).2.map V.int)) := upd_same
    generalize upd H2 R (.lst (cs.map V.int)) = H3 at g3 eR ⊢
    have hM0 := none_of g1 hM
    have hR0 := none_of g02 hR
    have nMR : M ≠ R := fun z => by
      rw [← z, eM] at hR
      cases hR
    replace eM := g3 _ _ eM
    have g03 := g02.trans g3
    refine ⟨fun m σ Hx => ∃ (j : Nat) (v5 v6 v7 v8 : Option V), σ = [some (.ref a), some (.ref b), some (.int lead), some (.ref M), some (.ref R), v5, v6, v7, v8] ∧ Same H Hx ∧ Hx M = some (.lst ((dst p lead ds cs j).1.map V.int)) ∧ Hx R = some (.lst ((dst p lead ds cs j).2.map V.int)) ∧ j ≤ divN ds cs ∧ cs.length + 1 - j = m,
      ⟨_, 0, _, _, _, _, rfl, g03, eM, eR, Nat.zero_le _, rfl⟩, ?_⟩
    clear g03 eM eR g3 g02 g2 g1 hM hR
    rintro m σ Hx ⟨j, v5, v6, v7, v8, rfl, gs, eM, eR, hj, rfl⟩
    obtain ⟨lw, lr⟩ := dst_len (p := p) (lead := lead) (d := ds) (cs := cs) j
    refine ⟨_, rfl, R, _, rfl, .inl (SqL.of eR), _, rfl, b, _, d2, _, _, rfl, gs _ _ h3, T.cl, T.n_coefficients, rfl, t2, _, rfl, .inr (sT gs h4), _, _, rfl, rfl, _, rfl, ite2 (fun c => ?_) (fun c => ?_)⟩
    · have c' : ds.length ≤ (dst p lead ds cs j).2.length := by
        have := of_decide_eq_true c
        rw [List.length_map, List.length_map] at this
        omega
      have hjc : j < cs.length := by omega
      generalize hr2 : (dst p lead ds cs j).2 = r at eR c' lr c
      generalize hw2 : (dst p lead ds cs j).1 = wl at eM lw
      have p0 : 0 < p := by omega
      refine ⟨fun σ' Hy => ∃ v5 v6 v7 v8 : Option V, σ' = [some (.ref a), some (.ref b), some (.int lead), some (.ref M), some (.ref R), v5, v6, v7, v8] ∧ Same H Hy ∧ Hy M = some (.lst ((dst p lead ds cs (j + 1)).1.map V.int)) ∧ Hy R = some (.lst ((dst p lead ds cs (j + 1)).2.map V.int)), ?_, ?_⟩
      · rintro σ' Hy ⟨v5', v6', v7', v8', rfl, gs', eM', eR'⟩
        exact ⟨cs.length + 1 - (j + 1), by omega, j + 1, _, _, _, _, rfl, gs', eM', eR', by unfold divN; omega, rfl⟩
      refine ⟨_, rfl, _, rfl, R, _, _, _, rfl, rfl, SqL.of eR, at_last (by omega), _, rfl, _, _, rfl, rfl, .inr ⟨by omega, by omega⟩, _, rfl, a, _, d, _, _, rfl, gs _ _ h1, T.cl, T.n_p, rfl, _, _, rfl, rfl, p0, ?_⟩
      refine ⟨_, rfl, .inl ⟨rfl, _, SqL.of eM⟩, _, rfl, M, _, _, rfl, rfl, eM, ?_, ?_⟩
      · rw [List.length_map]
        exact small1000 (by omega)
      have gs1 := same_upd (o := .lst (wl.map V.int ++ [V.int (r.getD (r.length - 1) 0 * lead % p)])) hM0 gs
      have eM1 : upd Hx M (.lst (wl.map V.int ++ [V.int (r.getD (r.length - 1) 0 * lead % p)])) M = some (.lst ((dst p lead ds cs (j + 1)).1.map V.int)) := by
        rw [upd_same]
        show _ = some (HO.lst (((dst p lead ds cs j).1 ++ [dfac p lead (dst p lead ds cs j).2]).map V.int))
        rw [hr2, hw2, List.map_append]
        rfl
      have eR1 : upd Hx M (.lst (wl.map V.int ++ [V.int (r.getD (r.length - 1) 0 * lead % p)])) R = some (.lst (r.map V.int)) := by
        rw [upd_ne (Ne.symm nMR)]
        exact eR
      generalize upd Hx M (.lst (wl.map V.int ++ [V.int (r.getD (r.length - 1) 0 * lead % p)])) = Ha at gs1 eM1 eR1 ⊢
      have eb : (((r.map V.int).length : Nat) : Int) - (((ds.map V.int).length : Nat) : Int) = ((r.length - ds.length : Nat) : Int) := by
        rw [List.length_map, List.length_map]
        omega
      refine ⟨_, rfl, R, _, rfl, .inl (SqL.of eR1), _, rfl, b, _, d2, _, _, rfl, gs1 _ _ h3, T.cl, T.n_coefficients, rfl, t2, _, rfl, .inr (sT gs1 h4), _, _, rfl, rfl, ?_⟩
      simp only [eb]
      generalize hf : r.getD (r.length - 1) 0 * lead % p = f
      have hff : dfac p lead r = f := hf
      refine ⟨_, rfl, b, _, d2, _, _, rfl, gs1 _ _ h3, T.cl, T.n_coefficients, rfl, t2, _, rfl, sT gs1 h4, EnT.for_enT (K := K) (a := t2) (xs := ds.map V.int) (fun i σ Hy => (∃ v7 v8 : Option V, σ = [some (.ref a), some (.ref b), some (.int lead), some (.ref M), some (.ref R), some (.int f), some (.int ((r.length - ds.length : Nat) : Int)), v7, v8]) ∧ Same H Hy ∧ Hy M = some (.lst ((dst p lead ds cs (j + 1)).1.map V.int)) ∧ Hy R = some (.lst ((subAt p f ds (r.length - ds.length) i r).map V.int)))
        ⟨⟨_, _, rfl⟩, gs1, eM1, eR1⟩ (fun i σ Hy _ ⟨_, gy, _⟩ => sT gy h4) ?_ ?_⟩
      · rintro i x TT σ Hy hx ⟨⟨v7, v8, rfl⟩, gy, eMy, eRy⟩ hT
        obtain ⟨x, hx2, rfl⟩ := at_int hx
        have hi : i < ds.length := (List.getElem?_eq_some_iff.mp hx2).1
        have xb := hs x (List.mem_of_getElem? hx2)
        have gT := same_new hT (.tup [.int (i : Nat), .int x])
        refine ⟨TT, _, rfl, SqT.of upd_same, rfl, _, _, rfl, _, _, rfl, rfl, ?_⟩
        have eM' := gT _ _ eMy
        have eR' := gT _ _ eRy
        replace gy := gy.trans gT
        generalize upd Hy TT (.tup [.int (i : Nat), .int x]) = Hz at gy eM' eR' ⊢
        have ei : ((r.length - ds.length : Nat) : Int) + (i : Int) = ((r.length - ds.length + i : Nat) : Int) := by omega
        have hlen : (subAt p f ds (r.length - ds.length) i r).length = r.length := subAt_len i r
        have hjj : r.length - ds.length + i < (subAt p f ds (r.length - ds.length) i r).length := by omega
        refine ⟨_, rfl, _, rfl, _, rfl, _, _, rfl, rfl, R, _, _, V.int ((subAt p f ds (r.length - ds.length) i r).getD (r.length - ds.length + i) 0), rfl, rfl, SqL.of eR', (by rw [ei]; exact at_get hjj), _, rfl, _, rfl, _, _, rfl, rfl, .inr ⟨by omega, by omega⟩, _, _, rfl, rfl,
          _, rfl, a, _, d, _, _, rfl, gy _ _ h1, T.cl, T.n_p, rfl, _, _, rfl, rfl, p0, _, rfl, _, rfl, _, rfl, _, _, rfl, rfl, R, _, _, r.length - ds.length + i, rfl, rfl, eR', (by rw [ei, List.length_map]; exact ixN_ok hjj), ?_⟩
        refine ⟨⟨_, _, rfl⟩, same_upd hR0 gy, ?_, ?_⟩
        · rw [upd_ne nMR]
          exact eM'
        · have ex : ds.getD i 0 = x := getD_of hx2
          rw [upd_same, ← List.map_set, ← ex]
          rfl
      · rintro σ Hy ⟨⟨v7, v8, rfl⟩, gy, eMy, eRy⟩
        rw [List.length_map] at eRy
        have hlen : (subAt p f ds (r.length - ds.length) ds.length r).length = r.length := subAt_len ds.length r
        refine ⟨_, rfl, .inl ⟨rfl, _, SqL.of eRy⟩, R, _, V.int ((subAt p f ds (r.length - ds.length) ds.length r).getD (r.length - 1) 0), rfl, rfl, eRy, ?_, ?_⟩
        · rw [List.length_map, hlen, List.getElem?_map, List.getD_eq_getElem?_getD, List.getElem?_eq_getElem (show r.length - 1 < _ by omega)]
          rfl
        refine ⟨_, _, _, _, rfl, same_upd hR0 gy, ?_, ?_⟩
        · rw [upd_ne nMR]
          exact eMy
        · rw [upd_same]
          show _ = some (HO.lst ((drest p lead ds (dst p lead ds cs j).2).map V.int))
          rw [hr2]
          unfold drest
          rw [hff, List.map_dropLast]
    · have c' : ¬ ds.length ≤ (dst p lead ds cs j).2.length := fun z => c (decide_eq_true (by rw [List.length_map, List.length_map]; omega))
      have ej : j = divN ds cs := by
        unfold divN at hj ⊢
        omega
      subst ej
      refine ⟨_, rfl, M, _, rfl, SqL.of eM, fun W hW => ?_⟩
      have gW := same_new hW (.lst (((dst p lead ds cs (divN ds cs)).1.map V.int).reverse))
      have eW : upd Hx W (.lst (((dst p lead ds cs (divN ds cs)).1.map V.int).reverse)) W = some (.lst ((divQ p lead cs ds).map V.int)) := by
        rw [upd_same]
        unfold divQ
        rw [List.map_reverse]
      generalize upd Hx W (.lst (((dst p lead ds cs (divN ds cs)).1.map V.int).reverse)) = Ha at gW eW ⊢
      have lq : (divQ p lead cs ds).length ≤ 1000 := by
        unfold divQ
        rw [List.length_reverse, lw]
        unfold divN
        omega
      have ga := gs.trans gW
      refine ⟨_, rfl, a, _, d, _, _, rfl, ga _ _ h1, T.cl, T.n_p, rfl, rfl, rfl, mkP (T := T) (p := p) (ns := divQ p lead cs ds) (.inl (SqL.of eW)) (by omega) lq fun x Hb gb hx pa => ?_⟩
      have gb0 := ga.trans gb
      have eR2 := gb _ _ (gW _ _ eR)
      refine ⟨_, rfl, _, rfl, a, _, d, _, _, rfl, gb0 _ _ h1, T.cl, T.n_p, rfl, rfl, rfl, mkP (T := T) (p := p) (ns := divR p lead cs ds) (.inl (SqL.of eR2)) (by omega) (by unfold divR; omega) fun y Hc gc hy pb => ?_⟩
      refine ⟨(by show 2 ≤ sizeLine; decide), fun tt ht => ?_⟩
      have gt := same_new ht (.tup [.ref x, .ref y])
      exact k lead r0 r1 r2 tt x y _ (gb0.trans (gc.trans gt)) (none_of (gb0.trans gc) ht) upd_same (pa.same (gc.trans gt)) (pb.same gt)
end
end K0

set_option maxRecDepth 100000
set_option maxHeartbeats 4000000
namespace K0
open PySem L2 K1

def invF (p x : Int) : Int := x ^ (p - 2).toNat % p
theorem invF_eq {p x r : Int} (P : Prm p) (hx : x % p ≠ 0) (r0 : 0 < r) (r1 : r < p) (h : (r * x) % p = 1) : r = invF p x := by
  have p1 := P.1
  exact inv_uniq P (by omega) r1 (Int.emod_nonneg _ (by omega)) (Int.emod_lt_of_pos _ (by omega)) h (fermat_inv P hx)
def rts (p : Int) (ds : List (Int × Int)) : List Int := ds.map fun d => d.1 % p
def prt (p : Int) (ds : List (Int × Int)) (i : Nat) : List Int := synL p ((rts p ds).getD i 0) (wr p (rts p ds))
def fct (p : Int) (ds : List (Int × Int)) (i : Nat) : Int := (ds.getD i (0, 0)).2 * invF p (ev (prt p ds i) ((rts p ds).getD i 0) % p)
def tot (p : Int) (ds : List (Int × Int)) : Nat → List Int
  | 0 => List.replicate ds.length 0
  | i + 1 => List.zipWith (fun a b => (a + fct p ds i * b) % p) (tot p ds i) (prt p ds i)
theorem prt_len (p : Int) (ds : List (Int × Int)) (i : Nat) : (prt p ds i).length = ds.length := by
  unfold prt synL
  rw [List.length_map, List.length_range, List.length_drop, wr_len]
  unfold rts
  rw [List.length_map]
  omega
theorem tot_len (p : Int) (ds : List (Int × Int)) (i : Nat) : (tot p ds i).length = ds.length := by
  induction i with
  | zero => exact List.length_replicate
  | succ i ih => show (List.zipWith _ (tot p ds i) _).length = _; rw [List.length_zipWith, ih, prt_len, Nat.min_self]
theorem syn_sm {p r : Int} {cs : List Int} (h : 0 < p) : ∀ z ∈ synL p r cs, 0 ≤ z ∧ z < p := fun z hz => by
  obtain ⟨k, _, rfl⟩ := List.mem_map.mp hz
  exact ⟨Int.emod_nonneg _ (by omega), Int.emod_lt_of_pos _ h⟩
/-- qs: where the pairs stand -/
def DotsAt (K : PySem.W.Frag) (H : Hp) (qs : List Addr) (ds : List (Int × Int)) : Prop := qs.length = ds.length ∧ ∀ (i : Nat) (q : Addr) (d : Int × Int), qs[i]? = some q → ds[i]? = some d → SqX K H q [.int d.1, .int d.2]
theorem DotsAt.same {K : PySem.W.Frag} {H H' : Hp} {qs : List Addr} {ds : List (Int × Int)} (g : Same H H') (h : DotsAt K H qs ds) : DotsAt K H' qs ds := ⟨h.1, fun i q d a b => (h.2 i q d a b).same g⟩
def spThr {K : PySem.W.Frag} {mg : Str → Option Value} (T : Txt K mg) : Sp := fun vs H Q _ => ∃ (a : Addr) (qs : List Addr) (ds : List (Int × Int)) (p : Int), vs = [.ref a, .int p] ∧ SqX K H a (qs.map V.ref) ∧ DotsAt K H qs ds ∧ Prm p ∧ p < 2 ^ 64 ∧ ds.length ≤ 100 ∧ (∀ i, i < ds.length → ev (prt p ds i) ((rts p ds).getD i 0) % p ≠ 0) ∧
  ∀ (x : Addr) (H' : Hp), Same H H' → H x = none → PolyAt T H' x (can p (tot p ds ds.length)) p → Q (.ref x) H'
theorem at_ref {qs : List Addr} {i : Nat} {v : V} (h : (qs.map V.ref)[i]? = some v) : ∃ q, qs[i]? = some q ∧ v = .ref q := by
  rw [List.getElem?_map] at h
  obtain ⟨q, e, rfl⟩ := Option.map_eq_some_iff.mp h
  exact ⟨q, e, rfl⟩
theorem dot_at {qs : List Addr} {ds : List (Int × Int)} {i : Nat} {q : Addr} (hl : qs.length = ds.length) (h : qs[i]? = some q) : ∃ d, ds[i]? = some d := by
  have := (List.getElem?_eq_some_iff.mp h).1
  exact ⟨_, List.getElem?_eq_getElem (by omega)⟩
/-- unpacking a pair -/
theorem any2 {K : PySem.W.Frag} {q : Addr} {x y : Int} {t : TGs} {σ : L2.St} {H : Hp} {Q : L2.St → Hp → Prop} (h : SqX K H q [.int x, .int y]) (k : t [.int x, .int y] σ H Q) : EnT.gAny K 2 t (.ref q) σ H Q := by
  rcases h with h | h
  · exact .inr ⟨q, _, rfl, h, rfl, k⟩
  · exact .inl ⟨q, _, rfl, h, rfl, k⟩
section
variable {P : Program} {w : World} {K : PySem.W.Frag} {mg : Str → Option Value} {base : Heap}
theorem ok_m_through (T : Txt K mg) : FnOk P w K mg base CX0 4 T.f_m_through T.fd_m_through ["points", "p"] (spThr T) := by
  refine T.F_m_through.ok sc_m_through (fun vs H Q E h => ?_) (fun cdv A outer s H vs Q E hr h => ?_)
  · obtain ⟨a, qs, ds, p, rfl, _⟩ := h
    rfl
  · obtain ⟨a, qs, ds, p, rfl, hq, hds, P1, p2, hl, hne, k⟩ := h
    have p1 := P1.1
    have p0 : 0 < p := by omega
    rcases hq with hq | hq
    · refine ⟨_, (pss_cons (ps_setLc (i := 4) (own := [("x", 2), ("_", 3)]) (g := EnT.gAny K 2 (gCons (gName 2) (gCons (gName 3) gNil))) (tt := tYes) (by rfl) sc_m_through.nd rfl rfl (sw_true rfl rfl rfl (by decide +kernel)) (pi_list (pv 0)) (blkOk_by (own := [("x", 2), ("_", 3)]) (N := ["points", "p", "x", "_", "roots", "product", "total", "root", "worth", "part", "factor", "low", "high"]) (sc := defScope s_m_through) (by decide +kernel)) (fun _ _ _ _ _ => (EnT.pg_any (by rfl) (pgs_cons (pg_name (i := 2) sc_m_through.nd rfl (Or.inl rfl)) (pgs_cons (pg_name (i := 3) sc_m_through.nd rfl (Or.inl rfl)) pgs_nil)))) (fun _ _ _ _ _ => pts_nil) (fun _ _ _ _ _ => (pe_op op_mod (pv 2) (pv 1))))
      (pss_cons (ps_set (i := 5) sc_m_through.nd rfl (Or.inl rfl) (pe_call (ok_with_roots T) (hr.mono (by decide)) (by rfl) T.g_with_roots T.F_with_roots.kp T.b_with_roots .nil pass0 (pa_cons (pv 4) (pa_cons (pv 1) pa_nil))))
      (pss_cons (ps_set (i := 6) sc_m_through.nd rfl (Or.inl rfl) (pe_op op_rep (pe_lst (pa_cons pe_int pa_nil)) (pe_callB call_len_seq (by rfl) T.z_len PySem.boot_len (pa_cons (pv 4) pa_nil))))
      (pss_cons (ps_for PassesOwn.never rfl (RZ.pi_zipA (by rfl) T.z_zip (pa_cons (pv 4) (pa_cons (pv 0) pa_nil))) (pg_tup (by rfl) (pgs_cons (pg_name (i := 7) sc_m_through.nd rfl (Or.inl rfl)) (pgs_cons (EnT.pg_any (by rfl) (pgs_cons (pg_name (i := 3) sc_m_through.nd rfl (Or.inl rfl)) (pgs_cons (pg_name (i := 8) sc_m_through.nd rfl (Or.inl rfl)) pgs_nil))) pgs_nil))) (pss_cons (ps_set (i := 9) sc_m_through.nd rfl (Or.inl rfl) (pe_call (ok_without_root T) (hr.mono (by decide)) (by rfl) T.g_without_root T.F_without_root.kp T.b_without_root .nil pass0 (pa_cons (pv 5) (pa_cons (pv 7) (pa_cons (pv 1) pa_nil)))))
      (pss_cons (ps_set (i := 10) sc_m_through.nd rfl (Or.inr rfl) (pe_op op_mul (pv 8) (pe_call (ok_inverse0 T) (hr.mono (by decide)) (by rfl) T.g_inverse T.F_inverse.kp T.b_inverse .nil pass0 (pa_cons (pe_call (ok_worth_at T) (hr.mono (by decide)) (by rfl) T.g_worth_at T.F_worth_at.kp T.b_worth_at .nil pass0 (pa_cons (pv 9) (pa_cons (pv 7) (pa_cons (pv 1) pa_nil)))) (pa_cons (pv 1) pa_nil)))))
      (pss_one (ps_setLc (i := 6) (own := [("low", 11), ("high", 12)]) (g := gTup K 2 (gCons (gName 11) (gCons (gName 12) gNil))) (tt := tYes) (by rfl) sc_m_through.nd rfl rfl (sw_true rfl rfl rfl (by decide +kernel)) (RZ.pi_zipA (by rfl) T.z_zip (pa_cons (pv 6) (pa_cons (pv 9) pa_nil))) (blkOk_by (own := [("low", 11), ("high", 12)]) (N := ["points", "p", "x", "_", "roots", "product", "total", "root", "worth", "part", "factor", "low", "high"]) (sc := defScope s_m_through) (by decide +kernel)) (fun _ _ _ _ _ => (pg_tup (by rfl) (pgs_cons (pg_name (i := 11) sc_m_through.nd rfl (Or.inl rfl)) (pgs_cons (pg_name (i := 12) sc_m_through.nd rfl (Or.inl rfl)) pgs_nil)))) (fun _ _ _ _ _ => pts_nil) (fun _ _ _ _ _ => (pe_op op_mod (pe_op op_add (pv 11) (pe_op op_mul (pv 10) (pv 12))) (pv 1))))))))
      (pss_one (ps_ret (pe_makeK T.mk_ (ok_m_init T) (hr.mono (by decide)) (by rfl) T.gC_Poly T.kb1 pass0 (pa_cons (pv 6) pa_nil) (pk_cons (pv 1) pk_nil)))))))), ?_⟩
      refine ⟨_, rfl, a, rfl, ⟨_, hq⟩, fun D hD => lc_list (K := K) (a := a) (xs := qs.map V.ref) (fun i Hx => Same H Hx ∧ Hx D = some (.lst ((rts p (ds.take i)).map V.int)))
        ⟨same_new hD _, upd_same⟩ (fun i Hx _ ⟨gs, _⟩ => sL gs hq) ?_ ?_⟩
      · rintro i z Hx hi ⟨gs, eD⟩
        obtain ⟨q, hq2, rfl⟩ := at_ref hi
        obtain ⟨d, hd2⟩ := dot_at hds.1 hq2
        refine any2 ((hds.same gs).2 i q d hq2 hd2) ?_
        refine ⟨_, _, rfl, _, _, rfl, rfl, rfl, _, rfl, _, rfl, _, _, rfl, rfl, p0, _, eD, ?_, fun x o ho => ?_, ?_⟩
        · unfold rts
          rw [List.length_map, List.length_map, List.length_take]
          exact small1000 (by omega)
        · rw [upd_ne (ne_of_none ho hD)]
          exact gs _ _ ho
        · rw [upd_same]
          unfold rts
          rw [List.take_add_one, hd2, List.map_append, List.map_append]
          rfl
      rintro Hx ⟨gs, eD⟩
      have lqs := hds.1
      rw [List.length_map, lqs, List.take_length] at eD
      have lr : (rts p ds).length = ds.length := by
        unfold rts
        rw [List.length_map]
      have smr : Sm (rts p ds) := fun z hz => by
        obtain ⟨d, _, rfl⟩ := List.mem_map.mp hz
        have := Int.emod_nonneg d.1 (show p ≠ 0 by omega)
        have := Int.emod_lt_of_pos d.1 p0
        omega
      refine ⟨_, rfl, _, rfl, D, rts p ds, p, rfl, SqL.of eD, p0, by omega, smr, fun M H1 g1 hM eM => ?_⟩
      have eD1 := g1 _ _ eD
      refine ⟨(by show 1 ≤ sizeLine; decide), fun z hz => ?_⟩
      have gz := same_new hz (.lst [.int 0])
      have ez : upd H1 z (.lst [.int 0]) z = some (.lst [.int 0]) := upd_same
      generalize upd H1 z (.lst [.int 0]) = H2 at gz ez ⊢
      refine ⟨_, rfl, D, _, rfl, .inl (SqL.of (gz _ _ eD1)), z, _, _, rfl, rfl, ez, by omega, by rw [List.length_map]; omega, ?_, fun R hR => ?_⟩
      · rw [Int.toNat_natCast, List.length_map]
        show 1 * (rts p ds).length ≤ sizeLine
        exact Nat.le_trans (by omega) (show 1000 ≤ sizeLine by decide)
      rw [rep_z, List.length_map, lr]
      have g02 := gs.trans (g1.trans gz)
      have gR := same_new hR (.lst ((List.replicate ds.length (0 : Int)).map V.int))
      have eR : upd H2 R (.lst ((List.replicate ds.length (0 : Int)).map V.int)) R = some (.lst ((tot p ds 0).map V.int)) := upd_same
      have eD3 := gR _ _ (gz _ _ eD1)
      have eM3 := gR _ _ (gz _ _ eM)
      have hR0 := none_of g02 hR
      generalize upd H2 R (.lst ((List.replicate ds.length (0 : Int)).map V.int)) = H3 at gR eR eD3 eM3 ⊢
      have g03 := g02.trans gR
      clear gR gz ez g1 gs eD eD1 hz hR hM eM g02
      refine ⟨_, rfl, _, rfl, D, a, _, _, rfl, .inl ⟨SqL.of eD3, sL g03 hq, RZ.for_zipL (K := K) (a := D) (b := a) (xs := (rts p ds).map V.int) (ys := qs.map V.ref) (by rw [List.length_map, List.length_map, lr, lqs]) (fun i σ Hx => (∃ (R : Addr) (v3 v7 v8 v9 v10 v11 v12 : Option V), σ = [some (.ref a), some (.int p), none, v3, some (.ref D), some (.ref M), some (.ref R), v7, v8, v9, v10, v11, v12] ∧ Hx R = some (.lst ((tot p ds i).map V.int))) ∧ Same H3 Hx)
        ⟨⟨R, _, _, _, _, _, _, _, rfl, eR⟩, Same.refl _⟩ (fun i σ Hx ⟨_, gx⟩ => ⟨SqL.of (gx _ _ eD3), sL (g03.trans gx) hq⟩) ?_ ?_⟩⟩
      · rintro i x y TT σ Hx hx hy ⟨⟨R, v3, v7, v8, v9, v10, v11, v12, rfl, eR⟩, gx⟩ hT
        obtain ⟨x, hx2, rfl⟩ := at_int hx
        obtain ⟨q, hq2, rfl⟩ := at_ref hy
        obtain ⟨d, hd2⟩ := dot_at lqs hq2
        have hi : i < ds.length := (List.getElem?_eq_some_iff.mp hd2).1
        have ex : (rts p ds).getD i 0 = x := getD_of hx2
        have ed : ds.getD i (0, 0) = d := by
          rw [List.getD_eq_getElem?_getD, hd2]
          rfl
        have gT := same_new hT (.tup [.int x, .ref q])
        have sq := (hds.same (g03.trans (gx.trans gT))).2 i q d hq2 hd2
        refine ⟨TT, _, rfl, SqT.of upd_same, rfl, _, _, rfl, _, _, rfl, any2 sq ⟨_, _, rfl, _, _, rfl, rfl, rfl, ?_⟩⟩
        have eR2 := gT _ _ eR
        replace gx := gx.trans gT
        generalize upd Hx TT (.tup [.int x, .ref q]) = Ha at gx eR2 sq ⊢
        clear gT eR hT
        refine ⟨_, rfl, _, rfl, _, rfl, M, wr p (rts p ds), x, p, rfl, SqL.of (gx _ _ eM3), p0, p2, by rw [wr_len]; omega, fun S H1 g1 hS eS => ?_⟩
        have eprt : synL p x (wr p (rts p ds)) = prt p ds i := by
          unfold prt
          rw [ex]
        rw [eprt] at eS
        have lp := prt_len p ds i
        have lt := tot_len p ds i
        have nz : ev (prt p ds i) x % p % p ≠ 0 := by
          rw [Int.emod_emod_of_dvd _ (Int.dvd_refl p), ← ex]
          exact hne i hi
        refine ⟨_, rfl, _, rfl, _, rfl, _, rfl, S, prt p ds i, x, p, rfl, .inl (SqL.of eS), p0, p2, by omega, _, rfl, _, p, rfl, P1, p2, nz, fun r H2 r0 r1 r2 g2 => ⟨_, _, rfl, rfl, .inr ⟨by omega, by omega⟩, ?_⟩⟩
        have ef : d.2 * r = fct p ds i := by
          unfold fct
          rw [ed, ex, invF_eq P1 nz r0 r1 r2]
        simp only [ef]
        have eR3 := g2 _ _ (g1 _ _ eR2)
        have eS3 := g2 _ _ eS
        have gx3 := gx.trans (g1.trans g2)
        refine ⟨_, rfl, _, rfl, R, S, _, _, rfl, .inl ⟨SqL.of eR3, SqL.of eS3, fun D2 hD2 => lc_zipS (Sq := SqL K) (a := R) (b := S) (xs := (tot p ds i).map V.int) (ys := (prt p ds i).map V.int) (by rw [List.length_map, List.length_map, lp, lt]) (fun j H' => Same H2 H' ∧ H' D2 = some (.lst ((List.zipWith (fun a b => (a + fct p ds i * b) % p) ((tot p ds i).take j) ((prt p ds i).take j)).map V.int)))
          ⟨same_new hD2 _, upd_same⟩ (fun j H' ⟨gs, _⟩ => ⟨sL gs (SqL.of eR3), sL gs (SqL.of eS3)⟩) ?_ ?_⟩⟩
        · rintro j x2 y2 UU Hy hx3 hy3 ⟨gy, eD2⟩ hU
          obtain ⟨x2, hx4, rfl⟩ := at_int hx3
          obtain ⟨y2, hy4, rfl⟩ := at_int hy3
          have yb := syn_sm p0 y2 (by unfold prt at hy4; exact List.mem_of_getElem? hy4)
          have gU := same_new hU (.tup [.int x2, .int y2])
          have eD' := gU _ _ eD2
          refine ⟨UU, _, rfl, SqT.of upd_same, rfl, _, _, rfl, _, _, rfl, rfl, rfl, _, rfl, _, rfl, _, rfl, _, _, rfl, rfl, .inr ⟨by omega, by omega⟩, _, _, rfl, rfl, _, rfl, _, _, rfl, rfl, p0, _, eD', ?_, fun u o ho => ?_, ?_⟩
          · rw [List.length_map, List.length_zipWith, List.length_take, List.length_take]
            exact small1000 (by omega)
          · have ho' := gU _ _ (gy _ _ ho)
            rw [upd_ne (ne_of_none ho hD2)]
            exact ho'
          · rw [upd_same]
            exact congrArg (fun l => some (HO.lst l)) (zipT (fun a b => (a + fct p ds i * b) % p) hx4 hy4)
        rintro Hy ⟨gy, eD2⟩
        refine ⟨⟨D2, _, _, _, _, _, _, _, rfl, ?_⟩, gx3.trans gy⟩
        rw [eD2, List.length_map]
        show _ = some (HO.lst ((List.zipWith (fun a b => (a + fct p ds i * b) % p) (tot p ds i) (prt p ds i)).map V.int))
        rw [List.take_of_length_le (Nat.le_refl _), List.take_of_length_le (Nat.le_of_eq (lp.trans lt.symm))]
      · rintro σ Hx ⟨⟨R, v3, v7, v8, v9, v10, v11, v12, rfl, eR⟩, gx⟩
        rw [List.length_map, lr] at eR
        refine ⟨_, rfl, _, rfl, rfl, rfl, mkP (T := T) (p := p) (ns := tot p ds ds.length) (.inl (SqL.of eR)) p0 (by rw [tot_len]; omega) fun x H' g hx pa => k x H' (g03.trans (gx.trans g)) (none_of (g03.trans gx) hx) pa⟩
    · refine ⟨_, (pss_cons (ps_setLc (i := 4) (own := [("x", 2), ("_", 3)]) (g := EnT.gAny K 2 (gCons (gName 2) (gCons (gName 3) gNil))) (tt := tYes) (by rfl) sc_m_through.nd rfl rfl (sw_true rfl rfl rfl (by decide +kernel)) (pi_tup (pv 0)) (blkOk_by (own := [("x", 2), ("_", 3)]) (N := ["points", "p", "x", "_", "roots", "product", "total", "root", "worth", "part", "factor", "low", "high"]) (sc := defScope s_m_through) (by decide +kernel)) (fun _ _ _ _ _ => (EnT.pg_any (by rfl) (pgs_cons (pg_name (i := 2) sc_m_through.nd rfl (Or.inl rfl)) (pgs_cons (pg_name (i := 3) sc_m_through.nd rfl (Or.inl rfl)) pgs_nil)))) (fun _ _ _ _ _ => pts_nil) (fun _ _ _ _ _ => (pe_op op_mod (pv 2) (pv 1))))
      (pss_cons (ps_set (i := 5) sc_m_through.nd rfl (Or.inl rfl) (pe_call (ok_with_roots T) (hr.mono (by decide)) (by rfl) T.g_with_roots T.F_with_roots.kp T.b_with_roots .nil pass0 (pa_cons (pv 4) (pa_cons (pv 1) pa_nil))))
      (pss_cons (ps_set (i := 6) sc_m_through.nd rfl (Or.inl rfl) (pe_op op_rep (pe_lst (pa_cons pe_int pa_nil)) (pe_callB call_len_seq (by rfl) T.z_len PySem.boot_len (pa_cons (pv 4) pa_nil))))
      (pss_cons (ps_for PassesOwn.never rfl (EnT.pi_zipLT (by rfl) T.z_zip (pa_cons (pv 4) (pa_cons (pv 0) pa_nil))) (pg_tup (by rfl) (pgs_cons (pg_name (i := 7) sc_m_through.nd rfl (Or.inl rfl)) (pgs_cons (EnT.pg_any (by rfl) (pgs_cons (pg_name (i := 3) sc_m_through.nd rfl (Or.inl rfl)) (pgs_cons (pg_name (i := 8) sc_m_through.nd rfl (Or.inl rfl)) pgs_nil))) pgs_nil))) (pss_cons (ps_set (i := 9) sc_m_through.nd rfl (Or.inl rfl) (pe_call (ok_without_root T) (hr.mono (by decide)) (by rfl) T.g_without_root T.F_without_root.kp T.b_without_root .nil pass0 (pa_cons (pv 5) (pa_cons (pv 7) (pa_cons (pv 1) pa_nil)))))
      (pss_cons (ps_set (i := 10) sc_m_through.nd rfl (Or.inr rfl) (pe_op op_mul (pv 8) (pe_call (ok_inverse0 T) (hr.mono (by decide)) (by rfl) T.g_inverse T.F_inverse.kp T.b_inverse .nil pass0 (pa_cons (pe_call (ok_worth_at T) (hr.mono (by decide)) (by rfl) T.g_worth_at T.F_worth_at.kp T.b_worth_at .nil pass0 (pa_cons (pv 9) (pa_cons (pv 7) (pa_cons (pv 1) pa_nil)))) (pa_cons (pv 1) pa_nil)))))
      (pss_one (ps_setLc (i := 6) (own := [("low", 11), ("high", 12)]) (g := gTup K 2 (gCons (gName 11) (gCons (gName 12) gNil))) (tt := tYes) (by rfl) sc_m_through.nd rfl rfl (sw_true rfl rfl rfl (by decide +kernel)) (RZ.pi_zipA (by rfl) T.z_zip (pa_cons (pv 6) (pa_cons (pv 9) pa_nil))) (blkOk_by (own := [("low", 11), ("high", 12)]) (N := ["points", "p", "x", "_", "roots", "product", "total", "root", "worth", "part", "factor", "low", "high"]) (sc := defScope s_m_through) (by decide +kernel)) (fun _ _ _ _ _ => (pg_tup (by rfl) (pgs_cons (pg_name (i := 11) sc_m_through.nd rfl (Or.inl rfl)) (pgs_cons (pg_name (i := 12) sc_m_through.nd rfl (Or.inl rfl)) pgs_nil)))) (fun _ _ _ _ _ => pts_nil) (fun _ _ _ _ _ => (pe_op op_mod (pe_op op_add (pv 11) (pe_op op_mul (pv 10) (pv 12))) (pv 1))))))))
      (pss_one (ps_ret (pe_makeK T.mk_ (ok_m_init T) (hr.mono (by decide)) (by rfl) T.gC_Poly T.kb1 pass0 (pa_cons (pv 6) pa_nil) (pk_cons (pv 1) pk_nil)))))))), ?_⟩
      refine ⟨_, rfl, a, rfl, ⟨_, hq⟩, fun D hD => lc_tup (K := K) (a := a) (xs := qs.map V.ref) (fun i Hx => Same H Hx ∧ Hx D = some (.lst ((rts p (ds.take i)).map V.int)))
        ⟨same_new hD _, upd_same⟩ (fun i Hx _ ⟨gs, _⟩ => sT gs hq) ?_ ?_⟩
      · rintro i z Hx hi ⟨gs, eD⟩
        obtain ⟨q, hq2, rfl⟩ := at_ref hi
        obtain ⟨d, hd2⟩ := dot_at hds.1 hq2
        refine any2 ((hds.same gs).2 i q d hq2 hd2) ?_
        refine ⟨_, _, rfl, _, _, rfl, rfl, rfl, _, rfl, _, rfl, _, _, rfl, rfl, p0, _, eD, ?_, fun x o ho => ?_, ?_⟩
        · unfold rts
          rw [List.length_map, List.length_map, List.length_take]
          exact small1000 (by omega)
        · rw [upd_ne (ne_of_none ho hD)]
          exact gs _ _ ho
        · rw [upd_same]
          unfold rts
          rw [List.take_add_one, hd2, List.map_append, List.map_append]
          rfl
      rintro Hx ⟨gs, eD⟩
      have lqs := hds.1
      rw [List.length_map, lqs, List.take_length] at eD
      have lr : (rts p ds).length = ds.length := by
        unfold rts
        rw [List.length_map]
      have smr : Sm (rts p ds) := fun z hz => by
        obtain ⟨d, _, rfl⟩ := List.mem_map.mp hz
        have := Int.emod_nonneg d.1 (show p ≠ 0 by omega)
        have := Int.emod_lt_of_pos d.1 p0
        omega
      refine ⟨_, rfl, _, rfl, D, rts p ds, p, rfl, SqL.of eD, p0, by omega, smr, fun M H1 g1 hM eM => ?_⟩
      have eD1 := g1 _ _ eD
      refine ⟨(by show 1 ≤ sizeLine; decide), fun z hz => ?_⟩
      have gz := same_new hz (.lst [.int 0])
      have ez : upd H1 z (.lst [.int 0]) z = some (.lst [.int 0]) := upd_same
      generalize upd H1 z (.lst [.int 0]) = H2 at gz ez ⊢
      refine ⟨_, rfl, D, _, rfl, .inl (SqL.of (gz _ _ eD1)), z, _, _, rfl, rfl, ez, by omega, by rw [List.length_map]; omega, ?_, fun R hR => ?_⟩
      · rw [Int.toNat_natCast, List.length_map]
        show 1 * (rts p ds).length ≤ sizeLine
        exact Nat.le_trans (by omega) (show 1000 ≤ sizeLine by decide)
      rw [rep_z, List.length_map, lr]
      have g02 := gs.trans (g1.trans gz)
      have gR := same_new hR (.lst ((List.replicate ds.length (0 : Int)).map V.int))
      have eR : upd H2 R (.lst ((List.replicate ds.length (0 : Int)).map V.int)) R = some (.lst ((tot p ds 0).map V.int)) := upd_same
      have eD3 := gR _ _ (gz _ _ eD1)
      have eM3 := gR _ _ (gz _ _ eM)
      have hR0 := none_of g02 hR
      generalize upd H2 R (.lst ((List.replicate ds.length (0 : Int)).map V.int)) = H3 at gR eR eD3 eM3 ⊢
      have g03 := g02.trans gR
      clear gR gz ez g1 gs eD eD1 hz hR hM eM g02
      refine ⟨_, rfl, _, rfl, D, a, _, _, rfl, SqL.of eD3, sT g03 hq, EnT.for_zipLT (K := K) (a := D) (b := a) (xs := (rts p ds).map V.int) (ys := qs.map V.ref) (by rw [List.length_map, List.length_map, lr, lqs]) (fun i σ Hx => (∃ (R : Addr) (v3 v7 v8 v9 v10 v11 v12 : Option V), σ = [some (.ref a), some (.int p), none, v3, some (.ref D), some (.ref M), some (.ref R), v7, v8, v9, v10, v11, v12] ∧ Hx R = some (.lst ((tot p ds i).map V.int))) ∧ Same H3 Hx)
        ⟨⟨R, _, _, _, _, _, _, _, rfl, eR⟩, Same.refl _⟩ (fun i σ Hx ⟨_, gx⟩ => ⟨SqL.of (gx _ _ eD3), sT (g03.trans gx) hq⟩) ?_ ?_⟩
      · rintro i x y TT σ Hx hx hy ⟨⟨R, v3, v7, v8, v9, v10, v11, v12, rfl, eR⟩, gx⟩ hT
        obtain ⟨x, hx2, rfl⟩ := at_int hx
        obtain ⟨q, hq2, rfl⟩ := at_ref hy
        obtain ⟨d, hd2⟩ := dot_at lqs hq2
        have hi : i < ds.length := (List.getElem?_eq_some_iff.mp hd2).1
        have ex : (rts p ds).getD i 0 = x := getD_of hx2
        have ed : ds.getD i (0, 0) = d := by
          rw [List.getD_eq_getElem?_getD, hd2]
          rfl
        have gT := same_new hT (.tup [.int x, .ref q])
        have sq := (hds.same (g03.trans (gx.trans gT))).2 i q d hq2 hd2
        refine ⟨TT, _, rfl, SqT.of upd_same, rfl, _, _, rfl, _, _, rfl, any2 sq ⟨_, _, rfl, _, _, rfl, rfl, rfl, ?_⟩⟩
        have eR2 := gT _ _ eR
        replace gx := gx.trans gT
        generalize upd Hx TT (.tup [.int x, .ref q]) = Ha at gx eR2 sq ⊢
        clear gT eR hT
        refine ⟨_, rfl, _, rfl, _, rfl, M, wr p (rts p ds), x, p, rfl, SqL.of (gx _ _ eM3), p0, p2, by rw [wr_len]; omega, fun S H1 g1 hS eS => ?_⟩
        have eprt : synL p x (wr p (rts p ds)) = prt p ds i := by
          unfold prt
          rw [ex]
        rw [eprt] at eS
        have lp := prt_len p ds i
        have lt := tot_len p ds i
        have nz : ev (prt p ds i) x % p % p ≠ 0 := by
          rw [Int.emod_emod_of_dvd _ (Int.dvd_refl p), ← ex]
          exact hne i hi
        refine ⟨_, rfl, _, rfl, _, rfl, _, rfl, S, prt p ds i, x, p, rfl, .inl (SqL.of eS), p0, p2, by omega, _, rfl, _, p, rfl, P1, p2, nz, fun r H2 r0 r1 r2 g2 => ⟨_, _, rfl, rfl, .inr ⟨by omega, by omega⟩, ?_⟩⟩
        have ef : d.2 * r = fct p ds i := by
          unfold fct
          rw [ed, ex, invF_eq P1 nz r0 r1 r2]
        simp only [ef]
        have eR3 := g2 _ _ (g1 _ _ eR2)
        have eS3 := g2 _ _ eS
        have gx3 := gx.trans (g1.trans g2)
        refine ⟨_, rfl, _, rfl, R, S, _, _, rfl, .inl ⟨SqL.of eR3, SqL.of eS3, fun D2 hD2 => lc_zipS (Sq := SqL K) (a := R) (b := S) (xs := (tot p ds i).map V.int) (ys := (prt p ds i).map V.int) (by rw [List.length_map, List.length_map, lp, lt]) (fun j H' => Same H2 H' ∧ H' D2 = some (.lst ((List.zipWith (fun a b => (a + fct p ds i * b) % p) ((tot p ds i).take j) ((prt p ds i).take j)).map V.int)))
          ⟨same_new hD2 _, upd_same⟩ (fun j H' ⟨gs, _⟩ => ⟨sL gs (SqL.of eR3), sL gs (SqL.of eS3)⟩) ?_ ?_⟩⟩
        · rintro j x2 y2 UU Hy hx3 hy3 ⟨gy, eD2⟩ hU
          obtain ⟨x2, hx4, rfl⟩ := at_int hx3
          obtain ⟨y2, hy4, rfl⟩ := at_int hy3
          have yb := syn_sm p0 y2 (by unfold prt at hy4; exact List.mem_of_getElem? hy4)
          have gU := same_new hU (.tup [.int x2, .int y2])
          have eD' := gU _ _ eD2
          refine ⟨UU, _, rfl, SqT.of upd_same, rfl, _, _, rfl, _, _, rfl, rfl, rfl, _, rfl, _, rfl, _, rfl, _, _, rfl, rfl, .inr ⟨by omega, by omega⟩, _, _, rfl, rfl, _, rfl, _, _, rfl, rfl, p0, _, eD', ?_, fun u o ho => ?_, ?_⟩
          · rw [List.length_map, List.length_zipWith, List.length_take, List.length_take]
            exact small1000 (by omega)
          · have ho' := gU _ _ (gy _ _ ho)
            rw [upd_ne (ne_of_none ho hD2)]
            exact ho'
          · rw [upd_same]
            exact congrArg (fun l => some (HO.lst l)) (zipT (fun a b => (a + fct p ds i * b) % p) hx4 hy4)
        rintro Hy ⟨gy, eD2⟩
        refine ⟨⟨D2, _, _, _, _, _, _, _, rfl, ?_⟩, gx3.trans gy⟩
        rw [eD2, List.length_map]
        show _ = some (HO.lst ((List.zipWith (fun a b => (a + fct p ds i * b) % p) (tot p ds i) (prt p ds i)).map V.int))
        rw [List.take_of_length_le (Nat.le_refl _), List.take_of_length_le (Nat.le_of_eq (lp.trans lt.symm))]
      · rintro σ Hx ⟨⟨R, v3, v7, v8, v9, v10, v11, v12, rfl, eR⟩, gx⟩
        rw [List.length_map, lr] at eR
        refine ⟨_, rfl, _, rfl, rfl, rfl, mkP (T := T) (p := p) (ns := tot p ds ds.length) (.inl (SqL.of eR)) p0 (by rw [tot_len]; omega) fun x H' g hx pa => k x H' (g03.trans (gx.trans g)) (none_of (g03.trans gx) hx) pa⟩
end
end K0

set_option maxRecDepth 100000
set_option maxHeartbeats 4000000
namespace K0
open PySem L2 K1

def spRaised : Sp := fun vs H Q _ => ∃ (x : Int) (n : Nat) (p : Int), vs = [.int x, .int (n : Int), .int p] ∧ 1 < p ∧ p < 18446744073709551616 ∧ n < 2 ^ 40 ∧ Q (.int (x ^ n % p)) H
def spInvF : Sp := fun vs H Q _ => ∃ (x p : Int), vs = [.int x, .int p] ∧ 1 < p ∧ p < 2 ^ 40 ∧ Q (.int (invF p x)) H
def spLEv (K : PySem.W.Frag) : Sp := fun vs H Q _ => ∃ (a : Addr) (cs : List Int) (x p : Int), vs = [.ref a, .int x, .int p] ∧ SqL K H a (cs.map V.int) ∧ 1 < p ∧ p < 18446744073709551616 ∧ cs.length ≤ 1000 ∧ ∀ H', Same H H' → Q (.int (ev cs x % p)) H'
theorem ev_take {p x : Int} {cs : List Int} {i : Nat} {c : Int} (h : cs[i]? = some c) : (ev (cs.take i) x % p + c * (x ^ i % p)) % p = ev (cs.take (i + 1)) x % p := by
  have il := (List.getElem?_eq_some_iff.mp h).1
  have e : cs.take (i + 1) = cs.take i ++ [c] := by
    rw [List.take_add_one, h]
    rfl
  rw [e, ev_snoc, List.length_take, Nat.min_eq_left (by omega)]
  refine Cg.iff.mp ?_
  refine ((Cg.mod p _).add ((Cg.refl p c).mul (Cg.mod p _))).trans (Cg.of_eq ?_)
  rw [Int.mul_comm]
section
variable {P : Program} {w : World} {K : PySem.W.Frag} {mg : Str → Option Value} {base : Heap}
theorem ok_worth (T : Txt K mg) : FnOk P w K mg base CX0 1 T.f_worth T.fd_worth ["coefs", "spot", "prime"] (spLEv K) := by
  refine T.F_worth.ok sc_worth (fun vs H Q E h => ?_) (fun cdv A outer s H vs Q E hr h => ?_)
  · obtain ⟨a, cs, x, p, rfl, _⟩ := h
    rfl
  · obtain ⟨a, cs, x, p, rfl, hq, p1, p2, hl, k⟩ := h
    have p0 : 0 < p := by omega
    refine ⟨_, (pss_cons (ps_asg (pe_tup (pa_cons pe_int (pa_cons pe_int pa_nil))) (pg_tup (by rfl) (pgs_cons (pg_name (i := 3) sc_worth.nd rfl (Or.inl rfl)) (pgs_cons (pg_name (i := 4) sc_worth.nd rfl (Or.inl rfl)) pgs_nil))))
      (pss_cons (ps_for PassesOwn.never rfl (pi_list (pv 0)) (pg_name (i := 5) sc_worth.nd rfl (Or.inl rfl)) (pss_cons (ps_set (i := 3) sc_worth.nd rfl (Or.inl rfl) (pe_op op_mod (pe_callTy call_int1 (by rfl) T.z_int (by decide +kernel) (pa_cons (pe_op op_add (pv 3) (pe_op op_mul (pv 5) (pv 4))) pa_nil)) (pv 2)))
      (pss_one (ps_set (i := 4) sc_worth.nd rfl (Or.inl rfl) (pe_op op_mod (pe_callTy call_int1 (by rfl) T.z_int (by decide +kernel) (pa_cons (pe_op op_mul (pv 4) (pv 1)) pa_nil)) (pv 2))))))
      (pss_one (ps_ret (pv 3))))), ?_⟩
    refine ⟨(by show 2 ≤ sizeLine; decide), fun tp htp => ⟨tp, _, rfl, SqT.of upd_same, rfl, _, _, rfl, _, _, rfl, rfl, ?_⟩⟩
    have g1 := same_new htp (.tup [.int 0, .int 1])
    generalize upd H tp (.tup [.int 0, .int 1]) = H1 at g1 ⊢
    refine ⟨_, rfl, a, rfl, ⟨_, sL g1 hq⟩, for_list (K := K) (a := a) (xs := cs.map V.int) (fun i σ Hx => (∃ v, σ = [some (.ref a), some (.int x), some (.int p), some (.int (ev (cs.take i) x % p)), some (.int (x ^ i % p)), v]) ∧ Hx = H1)
      ⟨⟨_, by rw [List.take_zero, show ev [] x % p = 0 from Int.zero_emod p, Int.pow_zero, Int.emod_eq_of_lt (by omega) p1]; rfl⟩, rfl⟩ (fun i σ Hx _ ⟨_, e⟩ => e ▸ sL g1 hq) ?_ ?_⟩
    · rintro i y σ Hx hy ⟨⟨v, rfl⟩, rfl⟩
      obtain ⟨y, hy2, rfl⟩ := at_int hy
      have b0 := Int.emod_nonneg (x ^ i) (show p ≠ 0 by omega)
      have b1 := Int.emod_lt_of_pos (x ^ i) p0
      refine ⟨_, rfl, _, rfl, _, rfl, _, _, rfl, rfl, .inr ⟨by omega, by omega⟩, _, _, rfl, rfl, .inl ⟨_, rfl, _, rfl, _, _, rfl, rfl, p0, ?_⟩⟩
      refine ⟨_, rfl, _, rfl, _, _, rfl, rfl, .inl ⟨by omega, by omega⟩, .inl ⟨_, rfl, _, rfl, _, _, rfl, rfl, p0, ?_⟩⟩
      refine ⟨⟨some (.int y), ?_⟩, rfl⟩
      have e2 : x ^ i % p * x % p = x ^ (i + 1) % p := by
        rw [Int.pow_succ]
        exact Cg.iff.mp ((Cg.mod p _).mul (Cg.refl p x))
      rw [← ev_take hy2, ← e2]
      rfl
    · rintro σ Hx ⟨⟨v, rfl⟩, rfl⟩
      rw [List.length_map, List.take_length]
      exact ⟨_, rfl, k _ g1⟩
theorem ok_raised (T : Txt K mg) : FnOk P w K mg base CX0 1 T.f_raised T.fd_raised ["base", "times", "prime"] (spRaised) := by
  refine T.F_raised.ok sc_raised (fun vs H Q E h => ?_) (fun cdv A outer s H vs Q E hr h => ?_)
  · obtain ⟨x, n, p, rfl, _⟩ := h
    rfl
  · obtain ⟨x, n, p, rfl, p1, p2, hn, k⟩ := h
    have p0 : 0 < p := by omega
    refine ⟨_, (pss_cons (ps_par (i := 3) (j := 4) (by rfl) sc_raised.nd rfl rfl (by decide) rfl rfl (pa_cons pe_int (pa_cons (pe_op op_mod (pe_callTy call_int1 (by rfl) T.z_int (by decide +kernel) (pa_cons (pv 0) pa_nil)) (pv 2)) pa_nil)) (by rfl))
      (pss_cons (ps_for PassesOwn.never rfl (pi_range1 (by rfl) T.z_range (pa_cons pe_int pa_nil)) (pg_name (i := 5) sc_raised.nd rfl (Or.inl rfl)) (pss_cons (ps_if (pt_cmpR op_eq (pv 1) pe_int (nomark _)) (pss_one ps_break) pss_nil)
      (pss_cons (ps_if (pt_cmpR op_eq (pe_op op_mod (pe_callTy call_int1 (by rfl) T.z_int (by decide +kernel) (pa_cons (pv 1) pa_nil)) pe_int) pe_int (nomark _)) (pss_one (ps_set (i := 3) sc_raised.nd rfl (Or.inl rfl) (pe_op op_mod (pe_callTy call_int1 (by rfl) T.z_int (by decide +kernel) (pa_cons (pe_op op_mul (pv 3) (pv 4)) pa_nil)) (pv 2)))) pss_nil)
      (pss_cons (ps_set (i := 4) sc_raised.nd rfl (Or.inl rfl) (pe_op op_mod (pe_callTy call_int1 (by rfl) T.z_int (by decide +kernel) (pa_cons (pe_op op_mul (pv 4) (pv 4)) pa_nil)) (pv 2)))
      (pss_one (ps_set (i := 1) sc_raised.nd rfl (Or.inl rfl) (pe_op op_fdivW (pe_callTy call_int1 (by rfl) T.z_int (by decide +kernel) (pa_cons (pv 1) pa_nil)) pe_int)))))))
      (pss_one (ps_ret (pv 3))))), ?_⟩
    refine ⟨_, rfl, .inl ⟨_, rfl, _, rfl, _, _, rfl, rfl, p0, _, _, rfl, ?_⟩⟩
    refine ⟨40, rfl, by decide, by decide, for_range (lo := 0) (n := 40) (fun i σ Hx => (∃ (l m b : Int) (v : Option V), σ = [some (.int x), some (.int l), some (.int p), some (.int m), some (.int b), v] ∧ InvP x n p m b l ∧ l < 2 ^ (40 - i)) ∧ Hx = H)
      ⟨⟨_, _, _, _, rfl, powi_start n p1, by show (n : Int) < 2 ^ 40; omega⟩, rfl⟩ ?_ ?_⟩
    · rintro i σ Hx hi ⟨⟨l, m, b, v, rfl, I, hl⟩, rfl⟩
      have l0 := I.l0
      have m0 := I.m0
      have m1 := I.m1
      have b0 := I.b0
      have b1 := I.b1
      refine ⟨_, rfl, rfl, _, rfl, ite2 (fun c => ?_) (fun c => ?_)⟩
      · have e : l = 0 := V.int.inj (of_decide_eq_true c)
        refine ⟨_, rfl, ?_⟩
        rw [powi_end I (by omega)]
        exact k
      have lp : 0 < l := by
        have : l ≠ 0 := fun z => c (decide_eq_true (congrArg V.int z))
        omega
      have half : l / 2 < 2 ^ (40 - (i + 1)) := by
        have e : 40 - i = (40 - (i + 1)) + 1 := by omega
        rw [e, Int.pow_succ] at hl
        omega
      refine ⟨_, rfl, .inl ⟨_, rfl, _, _, rfl, rfl, (by show (0 : Int) < 2; decide), rfl, _, rfl, ite2 (fun c => ?_) (fun c => ?_)⟩⟩
      · have o : l % 2 = 1 := V.int.inj (of_decide_eq_true c)
        refine ⟨_, rfl, _, rfl, _, _, rfl, rfl, .inl ⟨by omega, by omega⟩, .inl ⟨_, rfl, _, rfl, _, _, rfl, rfl, p0, ?_⟩⟩
        refine ⟨_, rfl, _, rfl, _, _, rfl, rfl, .inl ⟨by omega, by omega⟩, .inl ⟨_, rfl, _, rfl, _, _, rfl, rfl, p0, ?_⟩⟩
        refine ⟨_, rfl, .inl ⟨_, rfl, _, _, rfl, rfl, ⟨by decide, by decide⟩, ?_⟩⟩
        exact ⟨⟨_, _, _, _, rfl, powi_turn1 I lp o, half⟩, rfl⟩
      · have o : ¬ l % 2 = 1 := fun z => c (decide_eq_true (congrArg V.int z))
        refine ⟨_, rfl, _, rfl, _, _, rfl, rfl, .inl ⟨by omega, by omega⟩, .inl ⟨_, rfl, _, rfl, _, _, rfl, rfl, p0, ?_⟩⟩
        refine ⟨_, rfl, .inl ⟨_, rfl, _, _, rfl, rfl, ⟨by decide, by decide⟩, ?_⟩⟩
        exact ⟨⟨_, _, _, _, rfl, powi_turn0 I lp o, half⟩, rfl⟩
    · rintro σ Hx ⟨⟨l, m, b, v, rfl, I, hl⟩, rfl⟩
      have l0 := I.l0
      have : ¬ 0 < l := by
        have : (2 : Int) ^ (40 - 40) = 1 := rfl
        omega
      refine ⟨_, rfl, ?_⟩
      rw [powi_end I this]
      exact k
theorem ok_law_inverse (T : Txt K mg) : FnOk P w K mg base CX0 2 T.f_law_inverse T.fd_law_inverse ["digit", "prime"] (spInvF) := by
  refine T.F_law_inverse.ok sc_law_inverse (fun vs H Q E h => ?_) (fun cdv A outer s H vs Q E hr h => ?_)
  · obtain ⟨x, p, rfl, _⟩ := h
    rfl
  · obtain ⟨x, p, rfl, p1, p2, k⟩ := h
    refine ⟨_, (pss_one (ps_ret (pe_call (ok_raised T) (hr.mono (by decide)) (by rfl) T.g_raised T.F_raised.kp T.b_raised .nil pass0 (pa_cons (pv 0) (pa_cons (pe_op op_sub (pv 1) pe_int) (pa_cons (pv 1) pa_nil)))))), ?_⟩
    refine ⟨_, rfl, _, rfl, _, _, rfl, rfl, _, rfl, x, (p - 2).toNat, p, ?_, p1, by omega, by omega, k⟩
    have e : ((p - 2).toNat : Int) = p - 2 := by omega
    rw [e]
    rfl
end
end K0

set_option maxRecDepth 100000
set_option maxHeartbeats 4000000
namespace K0
open PySem L2 K1

def Sw (ns : List Int) : Prop := ∀ z ∈ ns, -18446744073709551616 < z ∧ z < 18446744073709551616
def spTrm (K : PySem.W.Frag) : Sp := fun vs H Q _ => ∃ (a : Addr) (cs : List Int) (p : Int), vs = [.ref a, .int p] ∧ SqL K H a (cs.map V.int) ∧ 0 < p ∧ cs.length ≤ 1000 ∧
  ∀ (t : Addr) (H' : Hp), Same H H' → H t = none → H' t = some (.lst ((can p cs).map V.int)) → Q (.ref t) H'
def spPrd (K : PySem.W.Frag) : Sp := fun vs H Q _ => ∃ (a b : Addr) (one other : List Int) (p : Int), vs = [.ref a, .ref b, .int p] ∧ SqL K H a (one.map V.int) ∧ SqL K H b (other.map V.int) ∧ 0 < p ∧ one.length ≤ 300 ∧ other.length ≤ 300 ∧ Sw one ∧
  ∀ (t : Addr) (H' : Hp), Same H H' → H t = none → H' t = some (.lst ((can p (mulL one other)).map V.int)) → Q (.ref t) H'
theorem zeros_at {l : List Int} {n : Nat} (hn : n < l.length) (hz : ∀ i, n + 1 ≤ i → i < l.length → l[i]? = some 0) (h0 : l.getD n 0 = 0) : ∀ i, n ≤ i → i < l.length → l[i]? = some 0 := fun i h1 h2 => by
  by_cases e : i = n
  · subst e
    rw [List.getD_eq_getElem?_getD, List.getElem?_eq_getElem hn] at h0
    rw [List.getElem?_eq_getElem hn]
    exact congrArg some h0
  · exact hz i (by omega) h2
section
variable {P : Program} {w : World} {K : PySem.W.Frag} {mg : Str → Option Value} {base : Heap}
theorem ok_trim (T : Txt K mg) : FnOk P w K mg base CX0 1 T.f_trim T.fd_trim ["coefs", "prime"] (spTrm K) := by
  refine T.F_trim.ok sc_trim (fun vs H Q E h => ?_) (fun cdv A outer s H vs Q E hr h => ?_)
  · obtain ⟨a, cs, p, rfl, _⟩ := h
    rfl
  · obtain ⟨a, cs, p, rfl, hq, p0, hl, k⟩ := h
    refine ⟨_, (pss_cons (ps_setLc (i := 3) (own := [("coef", 2)]) (g := gName 2) (tt := tYes) (by rfl) sc_trim.nd rfl rfl (sw_true rfl rfl rfl (by decide +kernel)) (pi_list (pv 0)) (blkOk_by (own := [("coef", 2)]) (N := ["coefs", "prime", "coef", "held", "k"]) (sc := defScope s_trim) (by decide +kernel)) (fun _ _ _ _ _ => (pg_name (i := 2) sc_trim.nd rfl (Or.inl rfl))) (fun _ _ _ _ _ => pts_nil) (fun _ _ _ _ _ => (pe_op op_mod (pe_callTy call_int1 (by rfl) T.z_int (by decide +kernel) (pa_cons (pv 2) pa_nil)) (pv 1))))
      (pss_cons (ps_for PassesOwn.never rfl (pi_range1 (by rfl) T.z_range (pa_cons (pe_callB call_len_seq (by rfl) T.z_len PySem.boot_len (pa_cons (pv 3) pa_nil)) pa_nil)) (pg_name (i := 4) sc_trim.nd rfl (Or.inl rfl)) (pss_cons (ps_if (pt_cmpR op_ne (pe_ix ix_list (pv 3) (pe_un un_neg pe_int) (fun _ _ => rfl)) pe_int (nomark _)) (pss_one ps_break) pss_nil)
      (pss_one (ps_expr (pe_bm0 PySem.F.plainAttrs_list PySem.F.slot_list_pop PySem.F.type_list_pop mt_pop (pv 3))))))
      (pss_one (ps_ret (pv 3))))), ?_⟩
    refine ⟨_, rfl, a, rfl, ⟨_, hq⟩, fun D hD => lc_list (K := K) (a := a) (xs := cs.map V.int) (fun i Hx => Same H Hx ∧ Hx D = some (.lst ((red p (cs.take i)).map V.int)))
      ⟨same_new hD _, upd_same⟩ (fun i Hx _ ⟨gs, _⟩ => sL gs hq) ?_ ?_⟩
    · rintro i z Hx hi ⟨gs, eD⟩
      obtain ⟨n, hn, rfl⟩ := at_int hi
      refine ⟨rfl, _, rfl, .inl ⟨_, rfl, _, rfl, _, _, rfl, rfl, p0, _, eD, ?_, fun x o ho => ?_, ?_⟩⟩
      · unfold red
        rw [List.length_map, List.length_map, List.length_take]
        exact small1000 (by omega)
      · rw [upd_ne (ne_of_none ho hD)]
        exact gs _ _ ho
      · rw [upd_same]
        exact congrArg (fun l => some (HO.lst l)) (mapT (f := (· % p)) hn)
    rintro Hx ⟨gs, eD⟩
    rw [List.length_map, List.take_length] at eD
    have lr : (red p cs).length = cs.length := by
      unfold red
      rw [List.length_map]
    generalize hr2 : red p cs = r at eD lr
    refine ⟨_, rfl, D, _, rfl, .inl (SqL.of eD), cs.length, ?_, by omega, by omega, for_range (lo := 0) (n := cs.length) (fun i σ Hy => (∃ v2 v4, σ = [some (.ref a), some (.int p), v2, some (.ref D), v4]) ∧ Same H Hy ∧ Hy D = some (.lst ((r.take (cs.length - i)).map V.int)) ∧ ∀ j, cs.length - i ≤ j → j < r.length → r[j]? = some 0)
      ⟨⟨_, _, rfl⟩, gs, ?_, fun j h1 h2 => absurd h2 (by omega)⟩ ?_ ?_⟩
    · rw [List.length_map, lr]
    · rw [Nat.sub_zero, ← lr, List.take_length]
      exact eD
    · rintro i σ Hy hi ⟨⟨v2, v4, rfl⟩, gy, eY, hz⟩
      have e1 : cs.length - i = (cs.length - (i + 1)) + 1 := by omega
      have lt : (r.take (cs.length - i)).length = cs.length - i := by rw [List.length_take]; omega
      have eg : (r.take (cs.length - i)).getD ((r.take (cs.length - i)).length - 1) 0 = r.getD (cs.length - (i + 1)) 0 := by
        rw [lt, List.getD_eq_getElem?_getD, List.getD_eq_getElem?_getD, List.getElem?_take_of_lt (by omega)]
        congr 2
      refine ⟨_, rfl, _, rfl, D, _, _, _, rfl, rfl, SqL.of eY, at_last (by omega), rfl, _, rfl, ite2 (fun c => ?_) (fun c => ?_)⟩
      · have nz : r.getD (cs.length - (i + 1)) 0 ≠ 0 := by
          rw [eg] at c
          intro z
          rw [z] at c
          cases c
        refine ⟨_, rfl, k D Hy gy hD ?_⟩
        rw [eY]
        unfold can
        rw [hr2, trimZ_take (n := cs.length - i) (by omega) hz (.inr (by rw [e1, Nat.add_sub_cancel]; exact nz))]
      · have z0 : r.getD (cs.length - (i + 1)) 0 = 0 := by
          rw [eg] at c
          exact Classical.byContradiction fun z => c (by simpa using z)
        refine ⟨_, rfl, .inl ⟨rfl, _, SqL.of eY⟩, D, _, V.int ((r.take (cs.length - i)).getD ((r.take (cs.length - i)).length - 1) 0), rfl, rfl, eY, ?_, ?_⟩
        · rw [List.length_map, List.getElem?_map, List.getD_eq_getElem?_getD, List.getElem?_eq_getElem (by omega)]
          rfl
        refine ⟨⟨_, _, rfl⟩, same_upd hD gy, ?_, zeros_at (by omega) (by rw [← e1]; exact hz) z0⟩
        rw [upd_same, ← List.map_dropLast]
        congr 3
        rw [List.dropLast_eq_take, lt, List.take_take, Nat.min_eq_left (by omega)]
        congr 1
    · rintro σ Hy ⟨⟨v2, v4, rfl⟩, gy, eY, hz⟩
      rw [Nat.sub_self] at eY hz
      refine ⟨_, rfl, k D Hy gy hD ?_⟩
      rw [eY]
      unfold can
      rw [hr2, trimZ_take (n := 0) (Nat.zero_le _) hz (.inl rfl)]
theorem ok_product (T : Txt K mg) : FnOk P w K mg base CX0 2 T.f_product T.fd_product ["left", "right", "prime"] (spPrd K) := by
  refine T.F_product.ok sc_product (fun vs H Q E h => ?_) (fun cdv A outer s H vs Q E hr h => ?_)
  · obtain ⟨a, b, one, other, p, rfl, _⟩ := h
    rfl
  · obtain ⟨a, b, one, other, p, rfl, ha, hb, p0, l1, l2, hs, k⟩ := h
    refine ⟨_, (pss_cons (ps_set (i := 3) sc_product.nd rfl (Or.inl rfl) (pe_op op_rep (pe_lst (pa_cons pe_int pa_nil)) (pe_op op_add (pe_callB call_len_seq (by rfl) T.z_len PySem.boot_len (pa_cons (pv 0) pa_nil)) (pe_callB call_len_seq (by rfl) T.z_len PySem.boot_len (pa_cons (pv 1) pa_nil)))))
      (pss_cons (ps_for PassesOwn.never rfl (pi_range1 (by rfl) T.z_range (pa_cons (pe_callB call_len_seq (by rfl) T.z_len PySem.boot_len (pa_cons (pv 0) pa_nil)) pa_nil)) (pg_name (i := 4) sc_product.nd rfl (Or.inl rfl)) (pss_one (ps_for PassesOwn.never rfl (pi_range1 (by rfl) T.z_range (pa_cons (pe_callB call_len_seq (by rfl) T.z_len PySem.boot_len (pa_cons (pv 1) pa_nil)) pa_nil)) (pg_name (i := 5) sc_product.nd rfl (Or.inl rfl)) (pss_one (ps_asg (pe_op op_mod (pe_callTy call_int1 (by rfl) T.z_int (by decide +kernel) (pa_cons (pe_op op_add (pe_ix ix_list (pv 3) (pe_op op_add (pv 4) (pv 5)) (fun _ _ => rfl)) (pe_op op_mul (pe_ix ix_list (pv 0) (pv 4) (fun _ _ => rfl)) (pe_ix ix_list (pv 1) (pv 5) (fun _ _ => rfl)))) pa_nil)) (pv 2)) (pg_sub (pv 3) (pe_op op_add (pv 4) (pv 5)) set_list))))))
      (pss_one (ps_ret (pe_call (ok_trim T) (hr.mono (by decide)) (by rfl) T.g_trim T.F_trim.kp T.b_trim .nil pass0 (pa_cons (pv 3) (pa_cons (pv 2) pa_nil))))))), ?_⟩
    refine ⟨(by show 1 ≤ sizeLine; decide), fun z hz => ?_⟩
    have g1 := same_new hz (.lst [.int 0])
    have e1 : upd H z (.lst [.int 0]) z = some (.lst [.int 0]) := upd_same
    generalize upd H z (.lst [.int 0]) = H1 at g1 e1 ⊢
    have en : (((one.map V.int).length : Nat) : Int) + (((other.map V.int).length : Nat) : Int) = ((one.length + other.length : Nat) : Int) := by
      rw [List.length_map, List.length_map]
      omega
    refine ⟨_, rfl, a, _, rfl, .inl (sL g1 ha), _, rfl, b, _, rfl, .inl (sL g1 hb), _, _, rfl, rfl, ?_⟩
    simp only [en]
    refine ⟨z, _, _, rfl, rfl, e1, by omega, by omega, ?_, fun D hD => ?_⟩
    · rw [Int.toNat_natCast]
      show 1 * (one.length + other.length) ≤ sizeLine
      exact Nat.le_trans (by omega) (show 1000 ≤ sizeLine by decide)
    rw [rep_z]
    have hDH := none_of g1 hD
    have g2 := same_upd (o := .lst ((List.replicate (one.length + other.length) (0 : Int)).map V.int)) hDH g1
    have e2 : upd H1 D (.lst ((List.replicate (one.length + other.length) (0 : Int)).map V.int)) D = some (.lst ((red p (mO one other 0)).map V.int)) := by
      rw [upd_same]
      show _ = some (HO.lst (((List.replicate (one.length + other.length) (0 : Int)).map (· % p)).map V.int))
      rw [show (List.replicate (one.length + other.length) (0 : Int)).map (· % p) = List.replicate (one.length + other.length) 0 by rw [List.map_replicate, Int.zero_emod]]
    generalize upd H1 D (.lst ((List.replicate (one.length + other.length) (0 : Int)).map V.int)) = H2 at g2 e2 ⊢
    refine ⟨_, rfl, a, _, rfl, .inl (sL g2 ha), one.length, by rw [List.length_map], by omega, by omega, for_range (lo := 0) (n := one.length) (fun i σ Hx => (∃ v4 v5, σ = [some (.ref a), some (.ref b), some (.int p), some (.ref D), v4, v5]) ∧ Same H Hx ∧ Hx D = some (.lst ((red p (mO one other i)).map V.int)))
      ⟨⟨_, _, rfl⟩, g2, e2⟩ ?_ ?_⟩
    · rintro i σ Hx hi ⟨⟨v4, v5, rfl⟩, gs, eD⟩
      rw [show (0 : Int) + (i : Nat) = (i : Nat) from Int.zero_add _]
      have ei1 : one[i]? = some one[i] := List.getElem?_eq_getElem hi
      have xb := hs _ (List.mem_of_getElem? ei1)
      have ex : one.getD i 0 = one[i] := getD_of ei1
      refine ⟨_, rfl, b, _, rfl, .inl (sL gs hb), other.length, by rw [List.length_map], by omega, by omega, for_range (lo := 0) (n := other.length) (fun m σ Hz => (∃ v5, σ = [some (.ref a), some (.ref b), some (.int p), some (.ref D), some (.int (i : Nat)), v5]) ∧ Same H Hz ∧ Hz D = some (.lst ((red p (mI one other i m (mO one other i))).map V.int)))
        ⟨⟨_, rfl⟩, gs, eD⟩ ?_ ?_⟩
      · rintro m σ Hz hm ⟨⟨v5, rfl⟩, gz, eZ⟩
        rw [show (0 : Int) + (m : Nat) = (m : Nat) from Int.zero_add _]
        have ei : (i : Int) + (m : Int) = ((i + m : Nat) : Int) := by omega
        generalize hst : mI one other i m (mO one other i) = st at eZ
        have hlen : (red p st).length = one.length + other.length := by
          rw [← hst]
          unfold red
          rw [List.length_map, mI_len, mO_len]
        have hj : i + m < (red p st).length := by omega
        refine ⟨_, rfl, _, rfl, _, rfl, _, _, rfl, rfl, D, _, _, V.int ((red p st).getD (i + m) 0), rfl, rfl, SqL.of eZ, (by rw [ei]; exact at_get hj), _, rfl, _, rfl, a, _, _, _, rfl, rfl, sL gz ha, at_get hi, _, rfl, _, rfl, b, _, _, _, rfl, rfl, sL gz hb, at_get hm, _, _, rfl, rfl, .inl ⟨by rw [ex]; omega, by rw [ex]; omega⟩, _, _, rfl, rfl, .inl ⟨_, rfl, _, rfl, _, _, rfl, rfl, p0,
          _, rfl, _, rfl, _, rfl, _, _, rfl, rfl, D, _, _, i + m, rfl, rfl, eZ, (by rw [ei, List.length_map]; exact ixN_ok hj), ?_⟩⟩
        refine ⟨⟨_, rfl⟩, same_upd hDH gz, ?_⟩
        rw [upd_same, ← List.map_set]
        show some (HO.lst (((red p st).set (i + m) (((red p st).getD (i + m) 0 + one.getD i 0 * other.getD m 0) % p)).map V.int)) = some (HO.lst ((red p ((mI one other i m (mO one other i)).set (i + m) ((mI one other i m (mO one other i)).getD (i + m) 0 + one.getD i 0 * other.getD m 0))).map V.int))
        rw [hst]
        congr 3
        have hj2 : i + m < st.length := by
          unfold red at hj
          rwa [List.length_map] at hj
        unfold red
        rw [List.map_set]
        congr 1
        rw [List.getD_eq_getElem?_getD, List.getD_eq_getElem?_getD (l := st), List.getElem?_map, List.getElem?_eq_getElem hj2]
        exact Cg.iff.mp ((Cg.mod p _).add (Cg.refl p _))
      · rintro σ Hz ⟨⟨v5, rfl⟩, gz, eZ⟩
        exact ⟨⟨_, _, rfl⟩, gz, eZ⟩
    · rintro σ Hx ⟨⟨v4, v5, rfl⟩, gs, eD⟩
      have lm : (red p (mO one other one.length)).length ≤ 1000 := by
        unfold red
        rw [List.length_map, mO_len]
        omega
      refine ⟨_, rfl, _, rfl, D, _, p, rfl, SqL.of eD, p0, lm, fun t H' g ht et => k t H' (gs.trans g) (none_of gs ht) ?_⟩
      rw [et, can_red]
      rfl
end
end K0

set_option maxRecDepth 100000
set_option maxHeartbeats 4000000
namespace K0
open PySem L2 K1

theorem getD_app {r z : List Int} {i : Nat} (h : i < r.length) : (r ++ z).getD i 0 = r.getD i 0 := by
  rw [List.getD_eq_getElem?_getD, List.getD_eq_getElem?_getD, List.getElem?_append_left h]
theorem set_app {r z : List Int} {i : Nat} {v : Int} (h : i < r.length) : (r ++ z).set i v = r.set i v ++ z := List.set_append_left i v h
theorem subAt_get {p f : Int} {d r : List Int} {base : Nat} : ∀ (k i : Nat), base + k ≤ i → (subAt p f d base k r).getD i 0 = r.getD i 0
  | 0, _, _ => rfl
  | k + 1, i, h => by
    show ((subAt p f d base k r).set (base + k) _).getD i 0 = _
    rw [List.getD_eq_getElem?_getD, List.getElem?_set_ne (by omega), ← List.getD_eq_getElem?_getD]
    exact subAt_get k i (by omega)
/-- the top goes away -/
theorem subAt_top {p lead : Int} {d r : List Int} (h0 : 0 < d.length) (h1 : d.length ≤ r.length) (hl : (lead * d.getD (d.length - 1) 0) % p = 1 % p) :
    subAt p (dfac p lead r) d (r.length - d.length) d.length r = drest p lead d r ++ [0] := by
  have hlen := subAt_len (p := p) (f := dfac p lead r) (d := d) (base := r.length - d.length) d.length r
  have e : (subAt p (dfac p lead r) d (r.length - d.length) d.length r).getD (r.length - 1) 0 = 0 := by
    obtain ⟨m, em⟩ : ∃ m, d.length = m + 1 := ⟨d.length - 1, by omega⟩
    have ei : r.length - 1 = r.length - d.length + m := by omega
    have eq : subAt p (dfac p lead r) d (r.length - d.length) d.length r = (subAt p (dfac p lead r) d (r.length - d.length) m r).set (r.length - d.length + m) (((subAt p (dfac p lead r) d (r.length - d.length) m r).getD (r.length - d.length + m) 0 - dfac p lead r * d.getD m 0) % p) := by
      exact (congrArg (fun n => subAt p (dfac p lead r) d (r.length - d.length) n r) em).trans rfl
    have lm := subAt_len (p := p) (f := dfac p lead r) (d := d) (base := r.length - d.length) m r
    rw [eq, ei, List.getD_eq_getElem?_getD, List.getElem?_set_self (by omega)]
    show ((subAt p (dfac p lead r) d (r.length - d.length) m r).getD (r.length - d.length + m) 0 - dfac p lead r * d.getD m 0) % p = 0
    rw [subAt_get m _ (Nat.le_refl _), ← ei]
    have em2 : d.length - 1 = m := by omega
    rw [em2] at hl
    refine cg_zero.mp ?_
    unfold dfac
    generalize r.getD (r.length - 1) 0 = x
    have c1 : Cg p (x * lead % p * d.getD m 0) (x * (lead * d.getD m 0)) := ((Cg.mod p _).mul (Cg.refl p _)).trans (Cg.of_eq (Int.mul_assoc _ _ _))
    have c2 : Cg p (x * (lead * d.getD m 0)) (x * 1) := (Cg.refl p x).mul (Cg.iff.mpr hl)
    exact ((Cg.refl p x).sub (c1.trans c2)).trans (Cg.of_eq (by omega))
  unfold drest
  generalize hs : subAt p (dfac p lead r) d (r.length - d.length) d.length r = s at e hlen ⊢
  have ne : s ≠ [] := fun z => by
    rw [z] at hlen
    have : 0 = r.length := hlen
    omega
  have el : s.getLast ne = 0 := by
    rw [List.getLast_eq_getElem]
    rw [List.getD_eq_getElem?_getD, List.getElem?_eq_getElem (show r.length - 1 < s.length by omega)] at e
    have e' : s[r.length - 1]'(by omega) = 0 := e
    have : s.length - 1 = r.length - 1 := by omega
    simp only [this]
    exact e'
  rw (occs := .pos [1]) [← List.dropLast_concat_getLast ne]
  rw [el]
def spDvd (K : PySem.W.Frag) : Sp := fun vs H Q _ => ∃ (a b : Addr) (cs ds : List Int) (p : Int), vs = [.ref a, .ref b, .int p] ∧ SqL K H a (cs.map V.int) ∧ SqL K H b (ds.map V.int) ∧ can p cs = cs ∧ ds ≠ [] ∧ Prm p ∧ p < 2 ^ 34 ∧ cs.length ≤ 100 ∧ ds.length ≤ 100 ∧ Sm ds ∧ ds.getD (ds.length - 1) 0 % p ≠ 0 ∧
  ∀ (t x y : Addr) (H' : Hp), Same H H' → H t = none → H' t = some (.tup [.ref x, .ref y]) → H' x = some (.lst ((can p (divQ p (invF p (ds.getD (ds.length - 1) 0)) cs ds)).map V.int)) → H' y = some (.lst ((can p (divR p (invF p (ds.getD (ds.length - 1) 0)) cs ds)).map V.int)) → Q (.ref t) H'
section
variable {P : Program} {w : World} {K : PySem.W.Frag} {mg : Str → Option Value} {base : Heap}
theorem ok_divide (T : Txt K mg) : FnOk P w K mg base CX0 3 T.f_divide T.fd_divide ["left", "right", "prime"] (spDvd K) := by
  refine T.F_divide.ok sc_divide (fun vs H Q E h => ?_) (fun cdv A outer s H vs Q E hr h => ?_)
  · obtain ⟨a, b, cs, ds, p, rfl, _⟩ := h
    rfl
  · obtain ⟨a, b, cs, ds, p, rfl, ha, hb, hc, hd, P1, p2, l1, l2, hs, nz, k⟩ := h
    have p1 := P1.1
    have p0 : 0 < p := by omega
    refine ⟨_, (pss_cons (ps_set (i := 3) sc_divide.nd rfl (Or.inl rfl) (pe_call (ok_trim T) (hr.mono (by decide)) (by rfl) T.g_trim T.F_trim.kp T.b_trim .nil pass0 (pa_cons (pv 0) (pa_cons (pv 2) pa_nil))))
      (pss_cons (ps_set (i := 4) sc_divide.nd rfl (Or.inl rfl) (pe_op op_rep (pe_lst (pa_cons pe_int pa_nil)) (pe_callB (call_max2 rfl) (by rfl) T.z_max (by decide +kernel) (pa_cons pe_int (pa_cons (pe_op op_add (pe_op op_sub (pe_callB call_len_seq (by rfl) T.z_len PySem.boot_len (pa_cons (pv 3) pa_nil)) (pe_callB call_len_seq (by rfl) T.z_len PySem.boot_len (pa_cons (pv 1) pa_nil))) pe_int) pa_nil)))))
      (pss_cons (ps_set (i := 5) sc_divide.nd rfl (Or.inl rfl) (pe_call (ok_law_inverse T) (hr.mono (by decide)) (by rfl) T.g_law_inverse T.F_law_inverse.kp T.b_law_inverse .nil pass0 (pa_cons (pe_ix ix_list (pv 1) (pe_un un_neg pe_int) (fun _ _ => rfl)) (pa_cons (pv 2) pa_nil))))
      (pss_cons (ps_for PassesOwn.never rfl (pi_range1 (by rfl) T.z_range (pa_cons (pe_callB call_len_seq (by rfl) T.z_len PySem.boot_len (pa_cons (pv 4) pa_nil)) pa_nil)) (pg_name (i := 6) sc_divide.nd rfl (Or.inl rfl)) (pss_cons (ps_set (i := 7) sc_divide.nd rfl (Or.inl rfl) (pe_op op_sub (pe_op op_sub (pe_callB call_len_seq (by rfl) T.z_len PySem.boot_len (pa_cons (pv 4) pa_nil)) pe_int) (pv 6)))
      (pss_cons (ps_asg (pe_op op_mod (pe_callTy call_int1 (by rfl) T.z_int (by decide +kernel) (pa_cons (pe_op op_mul (pe_ix ix_list (pv 3) (pe_op op_sub (pe_op op_add (pv 7) (pe_callB call_len_seq (by rfl) T.z_len PySem.boot_len (pa_cons (pv 1) pa_nil))) pe_int) (fun _ _ => rfl)) (pv 5)) pa_nil)) (pv 2)) (pg_sub (pv 4) (pv 7) set_list))
      (pss_one (ps_for PassesOwn.never rfl (pi_range1 (by rfl) T.z_range (pa_cons (pe_callB call_len_seq (by rfl) T.z_len PySem.boot_len (pa_cons (pv 1) pa_nil)) pa_nil)) (pg_name (i := 8) sc_divide.nd rfl (Or.inl rfl)) (pss_one (ps_asg (pe_op op_mod (pe_callTy call_int1 (by rfl) T.z_int (by decide +kernel) (pa_cons (pe_op op_sub (pe_ix ix_list (pv 3) (pe_op op_add (pv 7) (pv 8)) (fun _ _ => rfl)) (pe_op op_mul (pe_ix ix_list (pv 4) (pv 7) (fun _ _ => rfl)) (pe_ix ix_list (pv 1) (pv 8) (fun _ _ => rfl)))) pa_nil)) (pv 2)) (pg_sub (pv 3) (pe_op op_add (pv 7) (pv 8)) set_list))))))))
      (pss_one (ps_ret (pe_tup (pa_cons (pe_call (ok_trim T) (hr.mono (by decide)) (by rfl) T.g_trim T.F_trim.kp T.b_trim .nil pass0 (pa_cons (pv 4) (pa_cons (pv 2) pa_nil))) (pa_cons (pe_call (ok_trim T) (hr.mono (by decide)) (by rfl) T.g_trim T.F_trim.kp T.b_trim .nil pass0 (pa_cons (pv 3) (pa_cons (pv 2) pa_nil))) pa_nil))))))))), ?_⟩
    have l0 : 0 < ds.length := Nat.pos_of_ne_zero fun z => hd (List.eq_nil_of_length_eq_zero z)
    generalize hL : invF p (ds.getD (ds.length - 1) 0) = L at k
    have hL1 : (L * ds.getD (ds.length - 1) 0) % p = 1 % p := by
      rw [← hL, one_mod P1]
      exact fermat_inv P1 nz
    have Lb : 0 ≤ L ∧ L < p := by
      rw [← hL]
      exact ⟨Int.emod_nonneg _ (by omega), Int.emod_lt_of_pos _ p0⟩
    refine ⟨_, rfl, _, rfl, a, cs, p, rfl, ha, p0, by omega, fun R H1 g1 hR eR => ?_⟩
    rw [hc] at eR
    refine ⟨(by show 1 ≤ sizeLine; decide), fun z hz => ?_⟩
    have g2 := same_new hz (.lst [.int 0])
    have e2 : upd H1 z (.lst [.int 0]) z = some (.lst [.int 0]) := upd_same
    have eR2 := g2 _ _ eR
    generalize upd H1 z (.lst [.int 0]) = H2 at g2 e2 eR2 ⊢
    have g02 := g1.trans g2
    have en : (if ((((cs.map V.int).length : Nat) : Int) - (((ds.map V.int).length : Nat) : Int) + 1) > 0 then ((((cs.map V.int).length : Nat) : Int) - (((ds.map V.int).length : Nat) : Int) + 1) else 0) = ((divN ds cs : Nat) : Int) := by
      rw [List.length_map, List.length_map]
      unfold divN
      split <;> omega
    have hn : divN ds cs ≤ 101 := by
      unfold divN
      omega
    refine ⟨_, rfl, R, _, rfl, .inl (SqL.of eR2), _, rfl, b, _, rfl, .inl (sL g02 hb), _, _, rfl, rfl, _, _, rfl, rfl, _, _, rfl, ?_⟩
    simp only [en]
    refine ⟨z, _, _, rfl, rfl, e2, by omega, by omega, ?_, fun W hW => ?_⟩
    · rw [Int.toNat_natCast]
      show 1 * divN ds cs ≤ sizeLine
      exact Nat.le_trans (by omega) (show 1000 ≤ sizeLine by decide)
    rw [rep_z]
    have nRW : R ≠ W := fun y => by
      rw [← y, eR2] at hW
      cases hW
    have hR0 := hR
    have hW0 := none_of g02 hW
    have g3 := same_new hW (.lst ((List.replicate (divN ds cs) (0 : Int)).map V.int))
    have eW : upd H2 W (.lst ((List.replicate (divN ds cs) (0 : Int)).map V.int)) W = some (.lst ((List.replicate (divN ds cs) (0 : Int)).map V.int)) := upd_same
    have eR3 := g3 _ _ eR2
    generalize upd H2 W (.lst ((List.replicate (divN ds cs) (0 : Int)).map V.int)) = H3 at g3 eW eR3 ⊢
    have g03 := g02.trans g3
    refine ⟨_, rfl, _, rfl, b, _, _, _, rfl, rfl, sL g03 hb, at_last l0, _, rfl, _, p, rfl, p1, by omega, ?_⟩
    rw [hL]
    clear g3 g2 eR2 e2 hW hz g02 eR
    refine ⟨_, rfl, W, _, rfl, .inl (SqL.of eW), divN ds cs, by rw [List.length_map, List.length_replicate], by omega, by omega, for_range (lo := 0) (n := divN ds cs) (fun i σ Hx => (∃ v6 v7 v8, σ = [some (.ref a), some (.ref b), some (.int p), some (.ref R), some (.ref W), some (.int L), v6, v7, v8]) ∧ Same H Hx ∧ Hx W = some (.lst ((List.replicate (divN ds cs - i) (0 : Int) ++ (dst p L ds cs i).1.reverse).map V.int)) ∧ Hx R = some (.lst (((dst p L ds cs i).2 ++ List.replicate i (0 : Int)).map V.int)))
      ⟨⟨_, _, _, rfl⟩, g03, by rw [eW]; show _ = some (HO.lst ((List.replicate (divN ds cs - 0) (0 : Int) ++ []).map V.int)); rw [List.append_nil, Nat.sub_zero], by rw [eR3]; show _ = some (HO.lst ((cs ++ []).map V.int)); rw [List.append_nil]⟩ ?_ ?_⟩
    · rintro i σ Hx hi ⟨⟨v6, v7, v8, rfl⟩, gs, eW, eR⟩
      rw [show (0 : Int) + (i : Nat) = (i : Nat) from Int.zero_add _]
      obtain ⟨lw, lr⟩ := dst_len (p := p) (lead := L) (d := ds) (cs := cs) i
      have hni : ds.length ≤ cs.length - i := by
        unfold divN at hi
        omega
      have hnn : divN ds cs = cs.length + 1 - ds.length := rfl
      have esw : (dst p L ds cs (i + 1)).1.reverse = dfac p L (dst p L ds cs i).2 :: (dst p L ds cs i).1.reverse := by
        show ((dst p L ds cs i).1 ++ [dfac p L (dst p L ds cs i).2]).reverse = _
        rw [List.reverse_append]
        rfl
      have esr : (dst p L ds cs (i + 1)).2 = drest p L ds (dst p L ds cs i).2 := rfl
      generalize (dst p L ds cs i).1.reverse = w at eW esw
      generalize (dst p L ds cs i).2 = r at eR esr esw lr
      have lW : ((List.replicate (divN ds cs - i) (0 : Int) ++ w).map V.int).length = divN ds cs - i + w.length := by
        rw [List.length_map, List.length_append, List.length_replicate]
      have lw2 : w.length = i := by
        have := congrArg List.length esw
        rw [List.length_reverse, (dst_len (p := p) (lead := L) (d := ds) (cs := cs) (i + 1)).1, List.length_cons] at this
        omega
      have elow : ((((List.replicate (divN ds cs - i) (0 : Int) ++ w).map V.int).length : Nat) : Int) - 1 - (i : Int) = ((r.length - ds.length : Nat) : Int) := by
        rw [lW]
        omega
      refine ⟨_, rfl, W, _, rfl, .inl (SqL.of eW), _, _, rfl, rfl, _, rfl, _, _, rfl, rfl, ?_⟩
      simp only [elow]
      generalize hlow : r.length - ds.length = low at *
      have eix : (low : Int) + (((ds.map V.int).length : Nat) : Int) - 1 = ((r.length - 1 : Nat) : Int) := by
        rw [List.length_map]
        omega
      have atR : atI ((r ++ List.replicate i (0 : Int)).map V.int) ((r.length - 1 : Nat) : Int) = some (V.int (r.getD (r.length - 1) 0)) := by
        rw [at_get (by rw [List.length_append]; omega), getD_app (by omega)]
      have hlw : low < divN ds cs - i + w.length := by omega
      refine ⟨_, rfl, _, rfl, _, rfl, b, _, rfl, .inl (sL gs hb), _, _, rfl, rfl, _, _, rfl, rfl, R, _, _, V.int (r.getD (r.length - 1) 0), rfl, rfl, SqL.of eR, (by rw [eix]; exact atR), _, rfl, _, _, rfl, rfl, .inr ⟨by omega, by omega⟩, .inl ⟨_, rfl, _, rfl, _, _, rfl, rfl, p0,
        _, rfl, _, rfl, W, _, _, low, rfl, rfl, eW, (by rw [lW]; exact ixN_ok hlw), ?_⟩⟩
      have ef : r.getD (r.length - 1) 0 * L % p = dfac p L r := rfl
      simp only [ef]
      generalize hfr : dfac p L r = f at *
      have eW1 : upd Hx W (.lst (((List.replicate (divN ds cs - i) (0 : Int) ++ w).map V.int).set low (V.int f))) W = some (.lst ((List.replicate (divN ds cs - (i + 1)) (0 : Int) ++ f :: w).map V.int)) := by
        rw [upd_same, ← List.map_set]
        congr 3
        have e1 : divN ds cs - i = (divN ds cs - (i + 1)) + 1 := by omega
        have e2 : low = divN ds cs - (i + 1) := by omega
        rw [e1, List.replicate_succ', List.append_assoc, e2, List.set_append_right _ _ (by rw [List.length_replicate]; exact Nat.le_refl _), List.length_replicate, Nat.sub_self]
        rfl
      have eR1 : upd Hx W (.lst (((List.replicate (divN ds cs - i) (0 : Int) ++ w).map V.int).set low (V.int f))) R = some (.lst ((r ++ List.replicate i (0 : Int)).map V.int)) := by
        rw [upd_ne nRW]
        exact eR
      have gs1 := same_upd (o := .lst (((List.replicate (divN ds cs - i) (0 : Int) ++ w).map V.int).set low (V.int f))) hW0 gs
      generalize upd Hx W (.lst (((List.replicate (divN ds cs - i) (0 : Int) ++ w).map V.int).set low (V.int f))) = Ha at eW1 eR1 gs1 ⊢
      refine ⟨_, rfl, b, _, rfl, .inl (sL gs1 hb), ds.length, by rw [List.length_map], by omega, by omega, for_range (lo := 0) (n := ds.length) (fun j σ Hz => (∃ v8, σ = [some (.ref a), some (.ref b), some (.int p), some (.ref R), some (.ref W), some (.int L), some (.int (i : Nat)), some (.int (low : Nat)), v8]) ∧ Same H Hz ∧ Hz W = some (.lst ((List.replicate (divN ds cs - (i + 1)) (0 : Int) ++ f :: w).map V.int)) ∧ Hz R = some (.lst ((subAt p f ds low j r ++ List.replicate i (0 : Int)).map V.int)))
        ⟨⟨_, rfl⟩, gs1, eW1, eR1⟩ ?_ ?_⟩
      · rintro j σ Hz hj ⟨⟨v8, rfl⟩, gz, eWz, eRz⟩
        rw [show (0 : Int) + (j : Nat) = (j : Nat) from Int.zero_add _]
        have ej1 : ds[j]? = some ds[j] := List.getElem?_eq_getElem hj
        have db := hs _ (List.mem_of_getElem? ej1)
        have ed : ds.getD j 0 = ds[j] := getD_of ej1
        have ls : (subAt p f ds low j r).length = r.length := subAt_len j r
        have hlj : low + j < (subAt p f ds low j r).length := by omega
        have ei : (low : Int) + (j : Int) = ((low + j : Nat) : Int) := by omega
        have atR : atI ((subAt p f ds low j r ++ List.replicate i (0 : Int)).map V.int) ((low + j : Nat) : Int) = some (V.int ((subAt p f ds low j r).getD (low + j) 0)) := by
          rw [at_get (by rw [List.length_append]; omega), getD_app hlj]
        have atW : atI ((List.replicate (divN ds cs - (i + 1)) (0 : Int) ++ f :: w).map V.int) (low : Int) = some (V.int f) := by
          have e2 : low = divN ds cs - (i + 1) := by omega
          rw [at_get (by rw [List.length_append, List.length_replicate, List.length_cons]; omega), List.getD_eq_getElem?_getD, List.getElem?_append_right (by rw [List.length_replicate]; omega), List.length_replicate, e2, Nat.sub_self]
          rfl
        refine ⟨_, rfl, _, rfl, _, rfl, _, _, rfl, rfl, R, _, _, _, rfl, rfl, SqL.of eRz, (by rw [ei]; exact atR), _, rfl, _, rfl, W, _, _, _, rfl, rfl, SqL.of eWz, atW, _, rfl, _, rfl, b, _, _, _, rfl, rfl, sL gz hb, at_get hj, _, _, rfl, rfl, .inr ⟨by rw [ed]; omega, by rw [ed]; omega⟩, _, _, rfl, rfl, .inl ⟨_, rfl, _, rfl, _, _, rfl, rfl, p0,
          _, rfl, _, rfl, _, rfl, _, _, rfl, rfl, R, _, _, low + j, rfl, rfl, eRz, (by rw [ei, List.length_map, List.length_append]; exact ixN_ok (by omega)), ?_⟩⟩
        refine ⟨⟨_, rfl⟩, same_upd hR0 gz, ?_, ?_⟩
        · rw [upd_ne (Ne.symm nRW)]
          exact eWz
        · rw [upd_same, ← List.map_set, set_app hlj]
          rfl
      · rintro σ Hz ⟨⟨v8, rfl⟩, gz, eWz, eRz⟩
        refine ⟨⟨_, _, _, rfl⟩, gz, ?_, ?_⟩
        · rw [eWz, esw]
        · have et := subAt_top (p := p) (lead := L) (d := ds) (r := r) l0 (by omega) hL1
          rw [hfr, hlow] at et
          rw [eRz, et, esr, List.append_assoc]
          rfl
    · rintro σ Hx ⟨⟨v6, v7, v8, rfl⟩, gs, eW, eR⟩
      obtain ⟨lw, lr⟩ := dst_len (p := p) (lead := L) (d := ds) (cs := cs) (divN ds cs)
      rw [Nat.sub_self, List.replicate_zero, List.nil_append] at eW
      refine ⟨_, rfl, _, rfl, W, divQ p L cs ds, p, rfl, SqL.of eW, p0, ?_, fun x Ha ga hx ex => ?_⟩
      · unfold divQ
        rw [List.length_reverse, lw]
        omega
      refine ⟨_, rfl, _, rfl, R, _, p, rfl, SqL.of (ga _ _ eR), p0, ?_, fun y Hb gb hy ey => ?_⟩
      · rw [List.length_append, lr, List.length_replicate]
        omega
      refine ⟨(by show 2 ≤ sizeLine; decide), fun t ht => ?_⟩
      have gt := same_new ht (.tup [.ref x, .ref y])
      rw [can_zeros] at ey
      exact k t x y _ (gs.trans (ga.trans (gb.trans gt))) (none_of (gs.trans (ga.trans gb)) ht) upd_same (gt _ _ (gb _ _ ex)) (gt _ _ ey)
end
end K0

set_option maxRecDepth 100000
set_option maxHeartbeats 4000000
namespace K0
open PySem L2 K1

def Bd (cs : List Int) : Prop := ∀ c ∈ cs, -10000000002 ≤ c ∧ c ≤ 10000000002
def spCoefs : Sp := fun vs H Q _ => ∃ (b : Addr) (p : Int), vs = [.ref b, .int p] ∧ BoxAt H b ∧ 0 < p ∧ p < 10000000000 ∧ ∀ (l : Addr) (cs : List Int) (H' : Hp), BoxAt H' b → Keep b H H' → l ≠ b → H l = none → H' l = some (.lst (cs.map V.int)) → cs.length ≤ 23 → Bd cs → Q (.ref l) H'
def spPoly {K : PySem.W.Frag} {mg : Str → Option Value} (T : Txt K mg) : Sp := fun vs H Q _ => ∃ (b l : Addr) (cs : List Int) (p : Int), vs = [.ref b, .ref l, .int p] ∧ BoxAt H b ∧ l ≠ b ∧ H l = some (.lst (cs.map V.int)) ∧ 0 < p ∧ cs.length ≤ 100 ∧
  ∀ (x : Addr) (H' : Hp), BoxAt H' b → Keep b H H' → x ≠ b → PolyAt T H' x (can p cs) p → Q (.ref x) H'
def spTot (K : PySem.W.Frag) : Sp := fun vs H Q _ => ∃ (a b : Addr) (cs ds : List Int) (p s : Int), vs = [.ref a, .ref b, .int p, .int s] ∧ SqL K H a (cs.map V.int) ∧ SqL K H b (ds.map V.int) ∧ 0 < p ∧ cs.length ≤ 300 ∧ ds.length ≤ 300 ∧ (s = 1 ∨ s = -1) ∧
  ∀ (t : Addr) (H' : Hp), Same H H' → H t = none → H' t = some (.lst ((can p (addL cs ds s)).map V.int)) → Q (.ref t) H'
theorem BoxAt.upd {H1 H2 : Hp} {b D : Addr} {o : HO} (h1 : BoxAt H1 b) (hD : H1 D = none) (k : Keep b H1 H2) (h2 : BoxAt H2 b) : BoxAt (L2.upd H2 D o) b := by
  have nb := h1.ne hD
  obtain ⟨l, ns, pos, rest, seed, cnt, hb, hl, _⟩ := h1
  obtain ⟨l2, ns2, pos2, rest2, seed2, cnt2, hb2, hl2, q⟩ := h2
  obtain ⟨r', e⟩ := k.2 l _ hb
  rw [hb2] at e
  cases e
  have nl : D ≠ l := fun z => by
    rw [z, hl] at hD
    cases hD
  exact ⟨l, ns2, pos2, rest2, seed2, cnt2, by rw [upd_ne (Ne.symm nb)]; exact hb2, by rw [upd_ne (Ne.symm nl)]; exact hl2, q⟩
theorem Keep.at {H H2 : Hp} {b D : Addr} {o : HO} (hD : H D = none) (nb : D ≠ b) (k : Keep b H H2) : Keep b H (L2.upd H2 D o) :=
  ⟨fun x u n h => by rw [upd_ne (ne_of_none h hD)]; exact k.1 x u n h, fun l r h => by
    obtain ⟨r', e⟩ := k.2 l r h
    exact ⟨r', by rw [upd_ne (Ne.symm nb)]; exact e⟩⟩
theorem take_ints {l : List Int} {d : Int} (d0 : 0 ≤ d) (h : d ≤ l.length) : cutV (l.map V.int) none (some d) = (l.take d.toNat).map V.int := by
  have e : d = ((d.toNat : Nat) : Int) := by omega
  rw [e, cut_to (by rw [List.length_map]; omega), Int.toNat_natCast, List.map_take]
theorem PolyAt.updL {K : PySem.W.Frag} {mg : Str → Option Value} {T : Txt K mg} {H : Hp} {a P : Addr} {cs : List Int} {p : Int} {xs ys : List V} (h : PolyAt T H a cs p) (hP : H P = some (.lst xs)) : PolyAt T (upd H P (.lst ys)) a cs p := by
  obtain ⟨d, t, h1, h2⟩ := h
  refine ⟨d, t, ?_, ?_⟩
  · rw [upd_ne (ne_of h1 hP (by intro z; cases z))]
    exact h1
  · rcases h2 with (h2 | ⟨o, h2⟩) | h2
    · refine .inl (.inl ?_)
      rw [upd_ne (ne_of h2 hP (by intro z; cases z))]
      exact h2
    · refine .inl (.inr ⟨o, ?_⟩)
      rw [upd_ne (ne_of h2 hP (by intro z; cases z))]
      exact h2
    · exact .inr h2
section
variable {P : Program} {w : World} {K : PySem.W.Frag} {mg : Str → Option Value} {base : Heap}
theorem ok_coefs (T : Txt K mg) : FnOk P w K mg base CX0 3 T.f_coefs T.fd_coefs ["box", "prime"] (spCoefs) := by
  refine T.F_coefs.ok sc_coefs (fun vs H Q E h => ?_) (fun cdv A outer s H vs Q E hr h => ?_)
  · obtain ⟨b, p, rfl, _⟩ := h
    rfl
  · obtain ⟨b, p, rfl, hB, p0, p1, k⟩ := h
    refine ⟨_, (pss_cons (ps_set (i := 2) sc_coefs.nd rfl (Or.inl rfl) (pe_call (ok_of T) (hr.mono (by decide)) (by rfl) T.g_of T.F_of.kp T.b_of .nil pass0 (pa_cons (pv 0) (pa_cons (pe_lst (pa_cons pe_int (pa_cons pe_int (pa_cons pe_int (pa_cons pe_int (pa_cons pe_int (pa_cons pe_int (pa_cons pe_int (pa_cons pe_int (pa_cons pe_int pa_nil)))))))))) pa_nil))))
      (pss_one (ps_ret (pe_op op_cat (pe_lc (own := [("k", 3)]) (g := gName 3) (tt := tYes) (by rfl) sc_coefs.nd (pi_range1 (by rfl) T.z_range (pa_cons (pv 2) pa_nil)) (blkOk_by (own := [("k", 3)]) (N := ["box", "prime", "size", "k"]) (sc := defScope s_coefs) (by decide +kernel)) (fun _ _ _ _ _ => (pg_name (i := 3) sc_coefs.nd rfl (Or.inl rfl))) (fun _ _ _ _ _ => pts_nil) (fun _ _ _ _ _ => (pe_call (ok_number T) (hr.mono (by decide)) (by rfl) T.g_number T.F_number.kp T.b_number .nil pass0 (pa_cons (pv 0) (pa_cons (pv 1) pa_nil))))) (pe_slice sl_list (pe_lst (pa_cons pe_int (pa_cons (pv 1) (pa_cons (pe_op op_sub pe_int (pv 1)) pa_nil)))) po_none (po_some (pe_call (ok_draw T) (hr.mono (by decide)) (by rfl) T.g_draw T.F_draw.kp T.b_draw .nil pass0 (pa_cons (pv 0) (pa_cons pe_int pa_nil))))))))), ?_⟩
    refine ⟨_, rfl, (by show 9 ≤ sizeLine; decide), fun u hu => ?_⟩
    have gu := same_new hu (.lst ([0, 1, 2, 3, 4, 5, 6, 8, 20].map V.int))
    refine ⟨b, u, _, rfl, hB.same gu, hB.ne hu, SqL.of upd_same, by simp, by simp, fun i v H1 hi hB1 hK1 => ?_⟩
    obtain ⟨n, hn, rfl⟩ := ints_of (l := [0, 1, 2, 3, 4, 5, 6, 8, 20]) hi
    have nb : 0 ≤ n ∧ n ≤ 20 := by
      simp only [List.mem_cons, List.not_mem_nil, or_false] at hn
      omega
    replace hK1 := (Keep.of_same gu).trans hK1
    clear gu hi hu
    refine ⟨_, rfl, n.toNat, by rw [Int.toNat_of_nonneg nb.1], by omega, by omega, fun D hD => lc_range (lo := 0) (n := n.toNat) (fun i Hx => BoxAt Hx b ∧ Keep b H1 Hx ∧ ∃ cs : List Int, Hx D = some (.lst (cs.map V.int)) ∧ cs.length = i ∧ Bd cs)
      ⟨hB1.same (same_new hD _), Keep.of_same (same_new hD _), [], upd_same, rfl, fun c h => by cases h⟩ ?_ ?_⟩
    · rintro i Hx hi ⟨hBx, hKx, cs, eD, lc, bc⟩
      have nD : D ≠ b := hB1.ne hD
      refine ⟨rfl, _, rfl, _, rfl, b, p, rfl, hBx, p0, p1, fun v H2 v0 v1 hB2 hK2 => ⟨_, hK2.1 _ _ nD eD, ?_, ?_, ?_, cs ++ [v], ?_, ?_, ?_⟩⟩
      · rw [List.length_map, lc]
        exact small1000 (by omega)
      · exact hB1.upd hD (hKx.trans hK2) hB2
      · exact Keep.at hD nD (hKx.trans hK2)
      · rw [upd_same, List.map_append]
        rfl
      · rw [List.length_append, lc]
        rfl
      · intro c hc
        rcases List.mem_append.mp hc with h | h
        · exact bc c h
        · rw [List.mem_singleton.mp h]
          omega
    rintro Hx ⟨hBx, hKx, cs, eD, lc, bc⟩
    have nD : D ≠ b := hB1.ne hD
    refine ⟨_, rfl, _, rfl, _, _, rfl, rfl, (by show 3 ≤ sizeLine; decide), fun z hz => ?_⟩
    have gz := same_new hz (.lst [.int 0, .int p, .int (0 - p)])
    have ez : upd Hx z (.lst [.int 0, .int p, .int (0 - p)]) z = some (.lst ([0, p, 0 - p].map V.int)) := upd_same
    have nz : z ≠ b := hBx.ne hz
    have eD2 := gz _ _ eD
    have hB2 := hBx.same gz
    have hK2 := hKx.trans (Keep.of_same gz)
    generalize upd Hx z (.lst [.int 0, .int p, .int (0 - p)]) = H2 at gz ez eD2 hB2 hK2 ⊢
    refine ⟨_, rfl, b, _, rfl, by decide, by decide, hB2, fun d H3 d0 d1 hB3 hK3 => ⟨_, rfl, z, _, rfl, SqL.of (hK3.1 _ _ nz ez), fun q hq => ?_⟩⟩
    rw [take_ints d0 (by show d ≤ 3; omega)]
    have gq := same_new hq (.lst (([0, p, 0 - p].take d.toNat).map V.int))
    have eq : upd H3 q (.lst (([0, p, 0 - p].take d.toNat).map V.int)) q = some (.lst (([0, p, 0 - p].take d.toNat).map V.int)) := upd_same
    have eD3 := gq _ _ (hK3.1 _ _ nD eD2)
    have hB4 := hB3.same gq
    have hK4 := hK1.trans (hK2.trans (hK3.trans (Keep.of_same gq)))
    generalize upd H3 q (.lst (([0, p, 0 - p].take d.toNat).map V.int)) = H4 at gq eq eD3 hB4 hK4 ⊢
    have lt : ([0, p, 0 - p].take d.toNat).length ≤ 3 := by
      rw [List.length_take]
      exact Nat.min_le_right _ _
    refine ⟨D, q, _, _, rfl, rfl, eD3, eq, ?_, fun r hr => ?_⟩
    · rw [List.length_map, List.length_map]
      exact Nat.le_trans (show cs.length + ([0, p, 0 - p].take d.toNat).length ≤ 1000 by omega) (show 1000 ≤ sizeLine by decide)
    rw [← List.map_append]
    have gr := same_new hr (.lst ((cs ++ [0, p, 0 - p].take d.toNat).map V.int))
    have nr : r ≠ b := hB4.ne hr
    have hr0 : H r = none := by
      cases e : H r with
      | none => rfl
      | some o =>
        rw [hK4.1 _ _ nr e] at hr
        cases hr
    refine k r _ _ (hB4.same gr) (hK4.trans (Keep.of_same gr)) nr hr0 upd_same ?_ ?_
    · rw [List.length_append]
      omega
    · intro c hc
      rcases List.mem_append.mp hc with h | h
      · exact bc c h
      · have := List.mem_of_mem_take h
        simp only [List.mem_cons, List.not_mem_nil, or_false] at this
        omega
theorem ok_poly (T : Txt K mg) : FnOk P w K mg base CX0 4 T.f_poly T.fd_poly ["box", "coefs", "prime"] (spPoly T) := by
  refine T.F_poly.ok sc_poly (fun vs H Q E h => ?_) (fun cdv A outer s H vs Q E hr h => ?_)
  · obtain ⟨b, l, cs, p, rfl, _⟩ := h
    rfl
  · obtain ⟨b, l, cs, p, rfl, hB, nl, hl, p0, hc, k⟩ := h
    refine ⟨_, (pss_cons (ps_par (i := 3) (j := 4) (by rfl) sc_poly.nd rfl rfl (by decide) rfl rfl (pa_cons (pe_call (ok_draw T) (hr.mono (by decide)) (by rfl) T.g_draw T.F_draw.kp T.b_draw .nil pass0 (pa_cons (pv 0) (pa_cons pe_int pa_nil))) (pa_cons (pe_callTy call_list_of (by rfl) T.z_list (by decide +kernel) (pa_cons (pv 1) pa_nil)) pa_nil)) (by rfl))
      (pss_cons (ps_if (pt_cmpR op_eq (pv 3) pe_int (nomark _)) (pss_one (ps_ret (pe_makeK T.mk_ (ok_m_init T) (hr.mono (by decide)) (by rfl) T.gC_Poly T.kb1 pass0 (pa_cons (pe_callTy call_tuple_of (by rfl) T.z_tuple (by decide +kernel) (pa_cons (pv 1) pa_nil)) pa_nil) (pk_cons (pv 2) pk_nil)))) pss_nil)
      (C8.pss_cut (ps_if (pt_cmpR op_eq (pv 3) pe_int (nomark _)) (pss_one (ps_set (i := 5) sc_poly.nd rfl (Or.inl rfl) (pe_makeK0 T.mk_ (ok_m_init T) (hr.mono (by decide)) (by rfl) T.gC_Poly T.kb2 pass0 (pk_cons (pv 2) (pk_cons (pv 4) pk_nil))))) (pss_one (ps_set (i := 5) sc_poly.nd rfl (Or.inl rfl) (pe_makeK T.mk_ (ok_m_init T) (hr.mono (by decide)) (by rfl) T.gC_Poly T.kb1 pass0 (pa_cons (pv 4) pa_nil) (pk_cons (pv 2) pk_nil)))))
      (pss_cons (ps_expr (pe_bm PySem.F.plainAttrs_list PySem.F.slot_list_append PySem.F.type_list_append mt_append (pv 4) (pa_cons pe_int pa_nil)))
      (pss_cons (ps_asg (pe_op op_add (pe_ix ix_list (pv 4) pe_int (fun _ _ => rfl)) pe_int) (pg_sub (pv 4) pe_int set_list))
      (pss_one (ps_ret (pv 5)))))))), ?_⟩
    refine ⟨_, rfl, b, _, rfl, by decide, by decide, hB, fun d H1 d0 d1 hB1 hK1 => ⟨_, rfl, l, _, rfl, .inl (SqL.of (hK1.1 _ _ nl hl)), fun P hP => ⟨_, _, rfl, ?_⟩⟩⟩
    have gP := same_new hP (.lst (cs.map V.int))
    have eP : upd H1 P (.lst (cs.map V.int)) P = some (.lst (cs.map V.int)) := upd_same
    have nP : P ≠ b := hB1.ne hP
    have el := gP _ _ (hK1.1 _ _ nl hl)
    generalize upd H1 P (.lst (cs.map V.int)) = H2 at gP eP el ⊢
    have hB2 := hB1.same gP
    refine ⟨_, rfl, rfl, _, rfl, ite2 (fun c => ?_) (fun c => ?_)⟩
    · refine ⟨_, rfl, l, _, rfl, .inl ⟨SqL.of el, fun t ht => ⟨_, rfl, rfl, rfl, mkP (T := T) (p := p) (ns := cs) (.inr (SqT.of upd_same)) p0 (by omega) fun x H' g hx pa => ?_⟩⟩⟩
      have gt := (same_new ht (.tup (cs.map V.int))).trans g
      have nx : x ≠ b := fun z => by
        obtain ⟨o, ho⟩ := (hB2.same (same_new ht (.tup (cs.map V.int)))).some
        rw [z, ho] at hx
        cases hx
      exact k x H' (hB2.same gt) (hK1.trans (Keep.of_same (gP.trans gt))) nx pa
    refine ⟨fun σ H' => ∃ x : Addr, σ = [some (.ref b), some (.ref l), some (.int p), some (.int d), some (.ref P), some (.ref x)] ∧ Same H2 H' ∧ H2 x = none ∧ PolyAt T H' x (can p cs) p, ?_, ?_⟩
    · refine ⟨_, rfl, rfl, _, rfl, ite2 (fun c => ?_) (fun c => ?_)⟩
      · exact ⟨_, rfl, _, rfl, rfl, rfl, mkP (T := T) (p := p) (ns := cs) (.inl (SqL.of eP)) p0 (by omega) fun x H' g hx pa => ⟨x, rfl, g, hx, pa⟩⟩
      · exact ⟨_, rfl, _, rfl, rfl, rfl, mkP (T := T) (p := p) (ns := cs) (.inl (SqL.of eP)) p0 (by omega) fun x H' g hx pa => ⟨x, rfl, g, hx, pa⟩⟩
    rintro σ H3 ⟨x, rfl, g3, hx, pa⟩
    have eP3 := g3 _ _ eP
    have nx : x ≠ b := fun z => by
      obtain ⟨o, ho⟩ := hB2.some
      rw [z, ho] at hx
      cases hx
    refine ⟨_, rfl, .inl ⟨rfl, _, SqL.of eP3⟩, P, _, _, rfl, rfl, eP3, ?_, ?_⟩
    · rw [List.length_map]
      exact small1000 (by omega)
    have pa1 := pa.updL (ys := cs.map V.int ++ [V.int 1]) eP3
    have eP4 : upd H3 P (.lst (cs.map V.int ++ [V.int 1])) P = some (.lst ((cs ++ [1]).map V.int)) := by
      rw [upd_same, List.map_append]
      rfl
    have h0 : 0 < (cs ++ [1]).length := by simp
    refine ⟨_, rfl, P, _, (0 : Int), V.int ((cs ++ [1]).getD 0 0), rfl, rfl, SqL.of eP4, at_get h0, _, _, rfl, rfl, _, rfl, P, _, (0 : Int), 0, rfl, rfl, eP4, (by rw [List.length_map]; exact ixN_ok h0), _, rfl, ?_⟩
    rw [setq]
    have kk : Keep b H1 H3 := Keep.of_same (gP.trans g3)
    refine k x _ (hB1.upd hP kk (hB2.same g3)) (hK1.trans (Keep.at hP nP kk)) nx ?_
    have := pa.updL (ys := ((cs ++ [1]).map V.int).set 0 (V.int ((cs ++ [1]).getD 0 0 + 1))) eP3
    exact this
end
end K0

set_option maxRecDepth 100000
set_option maxHeartbeats 4000000
namespace K0
open PySem L2 K1

theorem an {P : V → Prop} : ∀ v ∈ ([] : List V), P v := fun _ h => by cases h
theorem ac {P : V → Prop} {x : V} {xs : List V} (h : P x) (t : ∀ v ∈ xs, P v) : ∀ v ∈ x :: xs, P v := fun v hv => by
  rcases List.mem_cons.mp hv with rfl | hv
  · exact h
  · exact t v hv
theorem eqI {K : PySem.W.Frag} {b : Addr} {H : Hp} {n : Nat} (i : Int) : EqV K b H n (.int i) (.int i) := EqV.sc (x := .int i) trivial
theorem eqB {K : PySem.W.Frag} {b : Addr} {H : Hp} {n : Nat} (i : Bool) : EqV K b H n (.bl i) (.bl i) := EqV.sc (x := .bl i) trivial
theorem eqSt {K : PySem.W.Frag} {b : Addr} {H : Hp} {n : Nat} {x y : Str} (h : x = y) : EqV K b H n (.str x) (.str y) := h ▸ EqV.sc (x := .str x) trivial
theorem off (l : List Addr) : ∃ b : Addr, ∀ a ∈ l, a ≠ b := by
  have h : ∃ b : Addr, ∀ a ∈ l, a < b := by
    induction l with
    | nil => exact ⟨0, fun a h => by cases h⟩
    | cons x l ih =>
      obtain ⟨b, h⟩ := ih
      refine ⟨max b (x + 1), fun a ha => ?_⟩
      rcases List.mem_cons.mp ha with rfl | ha
      · exact Nat.lt_of_lt_of_le (Nat.lt_succ_self _) (Nat.le_max_right _ _)
      · exact Nat.lt_of_lt_of_le (h a ha) (Nat.le_max_left _ _)
  obtain ⟨b, h⟩ := h
  exact ⟨b, fun a ha => Nat.ne_of_lt (h a ha)⟩
theorem eqT {K : PySem.W.Frag} {H : Hp} {n : Nat} {t u : Addr} {xs : List Int} (h : SqT K H t (xs.map V.int)) (h' : SqT K H u (xs.map V.int)) (hl : xs.length ≤ 1000) : ∃ b, EqV K b H (n + 1) (.ref t) (.ref u) := by
  obtain ⟨b, hb⟩ := off [t, u]
  refine ⟨b, .inr ⟨t, u, _, _, rfl, rfl, hb _ List.mem_cons_self, hb _ (List.mem_cons_of_mem _ List.mem_cons_self), .inr ⟨h, h'⟩, by rw [List.length_map]; exact hl, rfl, fun i x y hx hy => ?_⟩⟩
  have e : x = y := Option.some.inj (hx.symm.trans hy)
  subst e
  obtain ⟨z, _, rfl⟩ := at_int hx
  exact eqI z
theorem same_ok {K : PySem.W.Frag} {b : Addr} {x y : V} {H : Hp} {Q : VK} {E : XK} (h : EqV K b H 7 x y) (q : ∀ H', Same H H' → Q (.bl true) H') : spSame K 8 [x, y] H Q E := ⟨b, x, y, rfl, h, q⟩
theorem txt_eq (n : Nat) : txtP n = Str.ofString "Poly(" ++ Str.ofString (toString (n : Int)) ++ Str.ofString " coefficients)" := by
  unfold txtP
  have e : Str.empty ++ Str.ofString "Poly(" = Str.ofString "Poly(" := by decide +kernel
  rw [e]
def spIsPoly {K : PySem.W.Frag} {mg : Str → Option Value} (T : Txt K mg) : Sp := fun vs H Q _ => ∃ (a l : Addr) (cs : List Int) (p : Int), vs = [.ref a, .ref l, .int p] ∧ PolyAt T H a cs p ∧ SqL K H l (cs.map V.int) ∧ cs.length ≤ 1000 ∧ ∀ H', Same H H' → Q (.bl true) H'
section
variable {P : Program} {w : World} {K : PySem.W.Frag} {mg : Str → Option Value} {base : Heap}
theorem ok_is_poly (T : Txt K mg) : FnOk P w K mg base CX0 9 T.f_is_poly T.fd_is_poly ["found", "coefs", "prime"] (spIsPoly T) := by
  refine T.F_is_poly.ok sc_is_poly (fun vs H Q E h => ?_) (fun cdv A outer s H vs Q E hr h => ?_)
  · obtain ⟨a, l, cs, p, rfl, _⟩ := h
    rfl
  · obtain ⟨a, l, cs, p, rfl, pa, hl, hc, k⟩ := h
    refine ⟨_, (pss_cons (ps_if (PW.pt (pw_or (pt_not (pt_val (pe_callB call_isi (by rfl) T.z_isinstance (by decide +kernel) (pa_cons (pv 0) (pa_cons (pe_glob (v := .ref T.C_Poly) (by rfl) T.gC_Poly rfl) pa_nil))))) (pw_or1 (pt_not (pt_val (pe_call (ok_same T 8) (hr.mono (by decide)) (by rfl) T.g_same T.F_same.kp T.b_same .nil pass0 (pa_cons (pe_fld (pv 0) rfl) (pa_cons (pe_callTy call_tuple_of (by rfl) T.z_tuple (by decide +kernel) (pa_cons (pv 1) pa_nil)) pa_nil)))))))) (pss_one (ps_ret pe_bl)) pss_nil)
      (pss_cons (ps_if (PW.pt (pw_or (pt_not (pt_val (pe_call (ok_same T 8) (hr.mono (by decide)) (by rfl) T.g_same T.F_same.kp T.b_same .nil pass0 (pa_cons (pe_fld (pv 0) rfl) (pa_cons (pv 2) pa_nil))))) (pw_or1 (pt_not (pt_val (pe_call (ok_same T 8) (hr.mono (by decide)) (by rfl) T.g_same T.F_same.kp T.b_same .nil pass0 (pa_cons (pe_prop (pv 0) T.cl T.pp (ok_m_degree T) (hr.mono (by decide)) T.b_m_degree .nil pass0 rfl) (pa_cons (pe_op op_sub (pe_callB call_len_seq (by rfl) T.z_len PySem.boot_len (pa_cons (pv 1) pa_nil)) pe_int) pa_nil)))))))) (pss_one (ps_ret pe_bl)) pss_nil)
      (pss_one (ps_ret (pe_call (ok_same T 8) (hr.mono (by decide)) (by rfl) T.g_same T.F_same.kp T.b_same .nil pass0 (pa_cons (pe_callB (OV.call_repr T.f_repr T.n_repr ((ok_m_repr T).raw T.b_m_repr .nil) (hr.mono (by decide)) pass0) (by rfl) T.z_repr (by decide +kernel) (pa_cons (pv 0) pa_nil)) (pa_cons (pe_op op_add_str (pe_op op_add_str pe_str (pe_callTy call_str_int (by rfl) T.z_str (by decide +kernel) (pa_cons (pe_callB call_len_seq (by rfl) T.z_len PySem.boot_len (pa_cons (pv 1) pa_nil)) pa_nil))) pe_str) pa_nil))))))), ?_⟩
    obtain ⟨d, t, h1, h2⟩ := id pa
    refine ⟨_, rfl, _, _, _, _, _, rfl, .own _, tyP T pa, T.kk, _, rfl, iteF ?_⟩
    refine ⟨_, rfl, a, _, d, _, _, rfl, h1, T.cl, T.n_coefficients, rfl, _, rfl, l, _, rfl, .inl ⟨hl, fun u hu => ?_⟩⟩
    have g1 := same_new hu (.tup (cs.map V.int))
    have eu : SqT K (upd H u (.tup (cs.map V.int))) u (cs.map V.int) := SqT.of upd_same
    generalize upd H u (.tup (cs.map V.int)) = H1 at g1 eu ⊢
    obtain ⟨bb, he⟩ := eqT (n := 6) (sT g1 h2) eu hc
    refine ⟨bb, _, _, rfl, he, fun H2 g2 => ⟨_, rfl, iteF ?_⟩⟩
    have g02 := g1.trans g2
    refine ⟨_, rfl, a, _, d, _, _, rfl, g02 _ _ h1, T.cl, T.n_p, rfl, _, rfl, 0, _, _, rfl, eqI p, fun H3 g3 => ⟨_, rfl, iteF ?_⟩⟩
    have g03 := g02.trans g3
    refine ⟨_, rfl, a, d, _, rfl, g03 _ _ h1, a, cs, p, rfl, pa.same g03, _, rfl, l, _, rfl, .inl (sL g03 hl), _, _, rfl, rfl, 0, _, _, rfl, (by rw [List.length_map]; exact eqI _), fun H4 g4 => ⟨_, rfl, iteF ?_⟩⟩
    have g04 := g03.trans g4
    refine ⟨_, rfl, a, d, _, rfl, g04 _ _ h1, a, cs, p, rfl, pa.same g04, hc, _, rfl, ?_⟩
    have hz := txt_len cs.length (by omega)
    have hs1 : 100 ≤ sizeLine := by decide
    have e0 : (Str.ofString "Poly(").length = 5 := by decide +kernel
    have e2 : (Str.ofString " coefficients)").length = 14 := by decide +kernel
    refine ⟨_, rfl, l, _, rfl, .inl (sL g04 hl), _, rfl, ?_, _, _, rfl, rfl, ?_, _, _, rfl, rfl, ?_, 0, _, _, rfl, eqSt ?_, fun H5 g5 => k H5 (g04.trans g5)⟩
    · rw [List.length_map]
      exact Nat.lt_trans (PySem.Flt.log2_lt_of (by decide : 0 < 64) (by omega)) (by decide)
    · rw [e0, List.length_map]
      show 5 + (Str.ofString (toString (cs.length : Int))).length ≤ sizeLine
      omega
    · rw [Str.length_append, e0, e2, List.length_map]
      show 5 + (Str.ofString (toString (cs.length : Int))).length + 14 ≤ sizeLine
      omega
    · rw [List.length_map]
      exact txt_eq _
theorem ok_total (T : Txt K mg) : FnOk P w K mg base CX0 2 T.f_total T.fd_total ["left", "right", "prime", "sign"] (spTot K) := by
  refine T.F_total.ok sc_total (fun vs H Q E h => ?_) (fun cdv A outer s H vs Q E hr h => ?_)
  · obtain ⟨a, b, cs, ds, p, s, rfl, _⟩ := h
    rfl
  · obtain ⟨a, b, cs, ds, p, s, rfl, ha, hb, p0, l1, l2, hs, k⟩ := h
    refine ⟨_, (pss_cons (ps_set (i := 4) sc_total.nd rfl (Or.inl rfl) (pe_callB (call_max2 rfl) (by rfl) T.z_max (by decide +kernel) (pa_cons (pe_callB call_len_seq (by rfl) T.z_len PySem.boot_len (pa_cons (pv 0) pa_nil)) (pa_cons (pe_callB call_len_seq (by rfl) T.z_len PySem.boot_len (pa_cons (pv 1) pa_nil)) pa_nil))))
      (C8.pss_cut (ps_set (i := 5) sc_total.nd rfl (Or.inl rfl) (pe_op op_cat (pe_callTy call_list_of (by rfl) T.z_list (by decide +kernel) (pa_cons (pv 0) pa_nil)) (pe_op op_rep (pe_lst (pa_cons pe_int pa_nil)) (pe_op op_sub (pv 4) (pe_callB call_len_seq (by rfl) T.z_len PySem.boot_len (pa_cons (pv 0) pa_nil))))))
      (C8.pss_cut (ps_set (i := 6) sc_total.nd rfl (Or.inl rfl) (pe_op op_cat (pe_callTy call_list_of (by rfl) T.z_list (by decide +kernel) (pa_cons (pv 1) pa_nil)) (pe_op op_rep (pe_lst (pa_cons pe_int pa_nil)) (pe_op op_sub (pv 4) (pe_callB call_len_seq (by rfl) T.z_len PySem.boot_len (pa_cons (pv 1) pa_nil))))))
      (pss_one (ps_ret (pe_call (ok_trim T) (hr.mono (by decide)) (by rfl) T.g_trim T.F_trim.kp T.b_trim .nil pass0 (pa_cons (pe_lc (own := [("a", 7), ("b", 8)]) (g := gTup K 2 (gCons (gName 7) (gCons (gName 8) gNil))) (tt := tYes) (by rfl) sc_total.nd (RZ.pi_zipA (by rfl) T.z_zip (pa_cons (pv 5) (pa_cons (pv 6) pa_nil))) (blkOk_by (own := [("a", 7), ("b", 8)]) (N := ["left", "right", "prime", "sign", "longer", "first", "second", "a", "b"]) (sc := defScope s_total) (by decide +kernel)) (fun _ _ _ _ _ => (pg_tup (by rfl) (pgs_cons (pg_name (i := 7) sc_total.nd rfl (Or.inl rfl)) (pgs_cons (pg_name (i := 8) sc_total.nd rfl (Or.inl rfl)) pgs_nil)))) (fun _ _ _ _ _ => pts_nil) (fun _ _ _ _ _ => (pe_op op_add (pv 7) (pe_op op_mul (pv 3) (pv 8))))) (pa_cons (pv 2) pa_nil)))))))), ?_⟩
    refine ⟨_, rfl, a, _, rfl, .inl ha, _, rfl, b, _, rfl, .inl hb, _, _, rfl, ?_⟩
    have em : (if (((ds.map V.int).length : Nat) : Int) > (((cs.map V.int).length : Nat) : Int) then (((ds.map V.int).length : Nat) : Int) else (((cs.map V.int).length : Nat) : Int)) = ((max cs.length ds.length : Nat) : Int) := by
      rw [List.length_map, List.length_map]
      split <;> omega
    simp only [em]
    generalize hN : max cs.length ds.length = N
    have n1 : cs.length ≤ N := hN ▸ Nat.le_max_left _ _
    have n2 : ds.length ≤ N := hN ▸ Nat.le_max_right _ _
    have n3 : N ≤ 300 := hN ▸ Nat.max_le.mpr ⟨l1, l2⟩
    refine ⟨fun σ H' => ∃ F : Addr, σ = [some (.ref a), some (.ref b), some (.int p), some (.int s), some (.int (N : Int)), some (.ref F), none, none, none] ∧ Same H H' ∧ H' F = some (.lst ((padL cs N).map V.int)), ?_, ?_⟩
    · refine ⟨_, rfl, a, _, rfl, .inl ha, fun l hl => ?_⟩
      have g1 := same_new hl (.lst (cs.map V.int))
      have e1 : upd H l (.lst (cs.map V.int)) l = some (.lst (cs.map V.int)) := upd_same
      generalize upd H l (.lst (cs.map V.int)) = H1 at g1 e1 ⊢
      refine ⟨(by show 1 ≤ sizeLine; decide), fun z hz => ?_⟩
      have g2 := same_new hz (.lst [.int 0])
      have e2 : upd H1 z (.lst [.int 0]) z = some (.lst [.int 0]) := upd_same
      generalize upd H1 z (.lst [.int 0]) = H2 at g2 e2 ⊢
      have en : ((N : Int) - (((cs.map V.int).length : Nat) : Int)) = ((N - cs.length : Nat) : Int) := by
        rw [List.length_map]
        omega
      refine ⟨_, rfl, _, rfl, a, _, rfl, .inl (sL (g1.trans g2) ha), _, _, rfl, rfl, ?_⟩
      simp only [en]
      refine ⟨z, _, _, rfl, rfl, e2, by omega, by omega, ?_, fun q hq => ?_⟩
      · rw [Int.toNat_natCast]
        show 1 * (N - cs.length) ≤ sizeLine
        exact Nat.le_trans (by omega) (show 1000 ≤ sizeLine by decide)
      rw [rep_z]
      have g3 := same_new hq (.lst ((List.replicate (N - cs.length) (0 : Int)).map V.int))
      refine ⟨l, q, _, _, rfl, rfl, g3 _ _ (g2 _ _ e1), upd_same, ?_, fun r hr => ?_⟩
      · rw [List.length_map, List.length_map, List.length_replicate]
        exact Nat.le_trans (by omega) (show 1000 ≤ sizeLine by decide)
      rw [← List.map_append]
      exact ⟨r, rfl, g1.trans (g2.trans (g3.trans (same_new hr _))), upd_same⟩
    rintro σ H1 ⟨F, rfl, g1, eF⟩
    refine ⟨fun σ H' => ∃ S : Addr, σ = [some (.ref a), some (.ref b), some (.int p), some (.int s), some (.int (N : Int)), some (.ref F), some (.ref S), none, none] ∧ Same H1 H' ∧ H' S = some (.lst ((padL ds N).map V.int)), ?_, ?_⟩
    · have hb1 := sL g1 hb
      refine ⟨_, rfl, b, _, rfl, .inl hb1, fun l hl => ?_⟩
      have g1 := same_new hl (.lst (ds.map V.int))
      have e1 : upd H1 l (.lst (ds.map V.int)) l = some (.lst (ds.map V.int)) := upd_same
      generalize upd H1 l (.lst (ds.map V.int)) = H2 at g1 e1 ⊢
      refine ⟨(by show 1 ≤ sizeLine; decide), fun z hz => ?_⟩
      have g2 := same_new hz (.lst [.int 0])
      have e2 : upd H2 z (.lst [.int 0]) z = some (.lst [.int 0]) := upd_same
      generalize upd H2 z (.lst [.int 0]) = H3 at g2 e2 ⊢
      have en : ((N : Int) - (((ds.map V.int).length : Nat) : Int)) = ((N - ds.length : Nat) : Int) := by
        rw [List.length_map]
        omega
      refine ⟨_, rfl, _, rfl, b, _, rfl, .inl (sL (g1.trans g2) hb1), _, _, rfl, rfl, ?_⟩
      simp only [en]
      refine ⟨z, _, _, rfl, rfl, e2, by omega, by omega, ?_, fun q hq => ?_⟩
      · rw [Int.toNat_natCast]
        show 1 * (N - ds.length) ≤ sizeLine
        exact Nat.le_trans (by omega) (show 1000 ≤ sizeLine by decide)
      rw [rep_z]
      have g3 := same_new hq (.lst ((List.replicate (N - ds.length) (0 : Int)).map V.int))
      refine ⟨l, q, _, _, rfl, rfl, g3 _ _ (g2 _ _ e1), upd_same, ?_, fun r hr => ?_⟩
      · rw [List.length_map, List.length_map, List.length_replicate]
        exact Nat.le_trans (by omega) (show 1000 ≤ sizeLine by decide)
      rw [← List.map_append]
      exact ⟨r, rfl, g1.trans (g2.trans (g3.trans (same_new hr _))), upd_same⟩
    rintro σ H2 ⟨S, rfl, g2, eS⟩
    have eF2 := g2 _ _ eF
    have lp := padL_len n1
    have lq := padL_len n2
    refine ⟨_, rfl, _, rfl, F, S, _, _, rfl, .inl ⟨SqL.of eF2, SqL.of eS, fun D hD => lc_zipS (Sq := SqL K) (a := F) (b := S) (xs := (padL cs N).map V.int) (ys := (padL ds N).map V.int) (by rw [List.length_map, List.length_map, lp, lq]) (fun i H' => Same H2 H' ∧ H' D = some (.lst ((List.zipWith (fun a b => a + s * b) ((padL cs N).take i) ((padL ds N).take i)).map V.int)))
      ⟨same_new hD _, upd_same⟩ (fun i H' ⟨gs, _⟩ => ⟨sL gs (SqL.of eF2), sL gs (SqL.of eS)⟩) ?_ ?_⟩⟩
    · rintro i x y TT Hx hx hy ⟨gs, eD⟩ hT
      obtain ⟨x, hx2, rfl⟩ := at_int hx
      obtain ⟨y, hy2, rfl⟩ := at_int hy
      have gT := same_new hT (.tup [.int x, .int y])
      have eD' := gT _ _ eD
      refine ⟨TT, _, rfl, SqT.of upd_same, rfl, _, _, rfl, _, _, rfl, rfl, rfl, _, rfl, _, rfl, _, rfl, _, _, rfl, rfl, .inl ⟨by omega, by omega⟩, _, _, rfl, rfl, _, eD', ?_, fun u o ho => ?_, ?_⟩
      · rw [List.length_map, List.length_zipWith, List.length_take, List.length_take]
        exact small1000 (by omega)
      · have ho' := gT _ _ (gs _ _ ho)
        rw [upd_ne (ne_of_none ho hD)]
        exact ho'
      · rw [upd_same]
        exact congrArg (fun l => some (HO.lst l)) (zipT (fun a b => a + s * b) hx2 hy2)
    rintro Hx ⟨gs, eD⟩
    rw [List.length_map, lp, List.take_of_length_le (Nat.le_of_eq lp), List.take_of_length_le (Nat.le_of_eq lq)] at eD
    have ea : List.zipWith (fun a b => a + s * b) (padL cs N) (padL ds N) = addL cs ds s := by
      unfold addL
      rw [hN]
    rw [ea] at eD
    refine ⟨_, rfl, D, addL cs ds s, p, rfl, SqL.of eD, p0, by rw [addL_len]; omega, fun t H' g ht et => k t H' (g1.trans (g2.trans (gs.trans g))) (none_of (g1.trans (g2.trans gs)) ht) et⟩
end
end K0

set_option maxRecDepth 100000
set_option maxHeartbeats 4000000
namespace K0
open PySem L2 K1

section
variable {X : Cx} {CX : CXT} {k : Nat} {C f : Addr} {fd : FuncData} {ps : List Str} {sp : Sp} {E : L2.St → XK} {o e : Expr} {es : List Expr} {m : Str} {pos apos : Pos} {ta : TE} {t : TA}
def tMethS (C : Addr) (m : Str) (sp : Sp) (E : L2.St → XK) (ta : TE) (t : TA) : TE := fun σ H Q => ta σ H fun x H1 => ∃ (a dx : Addr) (fs : List (Str × V)), x = .ref a ∧ H1 a = some (.ins C dx fs) ∧ fs.lookup m = none ∧ t σ H1 fun vs H2 => sp (.ref a :: vs) H2 Q (E σ)
/-- o.m(e, ..) where what is raised is wished for at the slots -/
theorem pe_methS {pl : Sem Bool} (he : PE X o ta) (c : Cls X.K C) (hm : Meth X.K C m f) (F : FnOk X.prog X.w X.K X.mg X.base CX k f fd ps sp) (hr : Room k X.A) (hb : Binds X.K fd ps []) (hx : ∀ σ, PassesAt CX X σ (E σ)) (ha : PA X (e :: es) t)
    (hst : starEach (e :: es) X.env = (false, eval e X.env) :: starEach es X.env := by rfl) (hpl : (backTo pos (starEach es X.env)).any (·.1) = false := by rfl)
    (ht : eval (.Call (.Attribute o m apos) (e :: es) [] pos) X.env = (do
      let ov ← eval o X.env
      standAt apos.atName
      let (f, first) ← holding [ov] (getMethod ov m pl)
      callWith pos f first (backTo pos (starEach (e :: es) X.env)) (backToKw pos (keywordEach [] X.env))) := by rfl) :
    PE X (.Call (.Attribute o m apos) (e :: es) [] pos) (tMethS C m sp E ta t) := by
  refine ⟨fun pins s σ H Q I h => ?_⟩
  refine PySem.W.methodCall_KW (pl := pl) (thn (he.run pins s σ H _ I h)
    fun u s1 ⟨x, H1, I1, rx, a, dx, fs, ex, ea, l, q⟩ => ?_) ht
  subst ex
  obtain rfl : u = Value.ref a := rx
  refine getmeth_ok I1 ea c hm l ?_
  refine PySem.W.callWith_K (first := [.ref a]) (h₀ := X.base) I.ok.mod.kin hm.kp (thn (ha.run pos pins s1 σ H1 _ I1 q)
    fun us s2 ⟨vs, H2, I2, r, q2⟩ => ⟨I2.kIn, ?_⟩) hst hpl
  exact run_fnS (us := .ref a :: us) (vs := .ref a :: vs) F hr hb (hx σ) I2 (.cons rfl r) q2
end
def spSplit {K : PySem.W.Frag} {mg : Str → Option Value} (T : Txt K mg) : Sp := fun vs H Q _ => ∃ (a b : Addr) (cs ds : List Int) (p : Int), vs = [.ref a, .ref b] ∧ PolyAt T H a cs p ∧ PolyAt T H b ds p ∧ Prm p ∧ p < 2 ^ 64 ∧ cs.length ≤ 100 ∧ ds.length ≤ 100 ∧ Sm ds ∧
  (ds = [] → Q .non H) ∧ (ds ≠ [] → ds.getD (ds.length - 1) 0 % p ≠ 0 ∧ ∀ (lead : Int), 0 < lead → lead < p → (lead * ds.getD (ds.length - 1) 0) % p = 1 →
    ∀ (t x y : Addr) (H' : Hp), Same H H' → H t = none → H' t = some (.tup [.ref x, .ref y]) → PolyAt T H' x (can p (divQ p lead cs ds)) p → PolyAt T H' y (can p (divR p lead cs ds)) p → Q (.ref t) H')
def spDvn {K : PySem.W.Frag} {mg : Str → Option Value} (T : Txt K mg) : Sp := fun vs H Q _ => ∃ (a b f s : Addr) (cs ds : List Int) (p : Int), vs = [.ref a, .ref b, .ref f, .ref s, .int p] ∧ PolyAt T H a cs p ∧ PolyAt T H b ds p ∧ SqL K H f (cs.map V.int) ∧ SqL K H s (ds.map V.int) ∧ Prm p ∧ p < 2 ^ 34 ∧ cs.length ≤ 100 ∧ ds.length ≤ 100 ∧ can p cs = cs ∧ can p ds = ds ∧ ∀ H', Same H H' → Q (.bl true) H'
theorem can_sm {p : Int} {ds : List Int} (p0 : 0 < p) (p1 : p < 18446744073709551616) (h : can p ds = ds) : Sm ds := fun z hz => by
  rw [← h] at hz
  obtain ⟨c, _, rfl⟩ := List.mem_map.mp (trimZ_mem z hz)
  have := Int.emod_nonneg c (show p ≠ 0 by omega)
  have := Int.emod_lt_of_pos c p0
  omega
theorem can_nz {p : Int} {ds : List Int} (p0 : 0 < p) (h : can p ds = ds) (hd : ds ≠ []) : ds.getD (ds.length - 1) 0 % p ≠ 0 := by
  have l0 : 0 < ds.length := Nat.pos_of_ne_zero fun z => hd (List.eq_nil_of_length_eq_zero z)
  have hl : (can p ds).length = (ds.length - 1) + 1 := by
    rw [h]
    omega
  have nz := can_last hl
  rw [h] at nz
  have hm : ds.getD (ds.length - 1) 0 ∈ ds := by
    rw [List.getD_eq_getElem?_getD, List.getElem?_eq_getElem (show ds.length - 1 < ds.length by omega)]
    exact List.getElem_mem _
  have hm2 : ds.getD (ds.length - 1) 0 ∈ can p ds := by
    rw [h]
    exact hm
  rw [red_fix _ (trimZ_mem _ hm2)]
  exact nz
section
variable {P : Program} {w : World} {K : PySem.W.Frag} {mg : Str → Option Value} {base : Heap}
theorem ok_split (T : Txt K mg) : FnOk P w K mg base CX0 5 T.f_split T.fd_split ["left", "right"] (spSplit T) := by
  refine T.F_split.ok sc_split (fun vs H Q E h => ?_) (fun cdv A outer s H vs Q E hr h => ?_)
  · obtain ⟨a, b, cs, ds, p, rfl, _⟩ := h
    rfl
  · obtain ⟨a, b, cs, ds, p, rfl, pa, pb, P1, p2, l1, l2, hs, kE, k⟩ := h
    refine ⟨_, pss_one (ps_try_only (c := .type "ZeroDivisionError") (tb := fun W => tRet (tMethS T.C_Poly "divided" (spDiv T) (WE W) (tVar 0) (tCons (tVar 1) tNil))) (ts := fun _ _ _ => tRet (tC .non)) (Wout := fun _ _ _ _ => False) rfl rfl ⟨rfl, by decide, Or.inr ⟨T.z_ZeroDivisionError, by decide +kernel, by decide⟩⟩ takes0
      (fun W pn xe tk _ => by exact pss_one (ps_ret (pe_methS (pv 0) T.cl T.me_m_divided (ok_m_divided T) (hr.mono (by decide)) T.b_m_divided (fun σ => passAt tk σ) (by exact (pa_cons (pv 1) pa_nil)))))
      (fun a oe cls d pn hz hf => pss_one (ps_ret pe_non))), ?_⟩
    have ez : PySem.W.exmOne K (.type "ZeroDivisionError") (.type "ZeroDivisionError") = some true := by first | rfl | decide +kernel
    obtain ⟨d, t, h1, h2⟩ := id pa
    exact ⟨_, rfl, a, d, _, rfl, h1, rfl, _, rfl, a, b, cs, ds, p, rfl, pa, pb, P1, p2, l1, l2, hs, fun e => ⟨true, ez, fun _ a ha => kE e, fun q => nomatch q⟩, fun e => k e⟩
theorem ok_division (T : Txt K mg) : FnOk P w K mg base CX0 10 T.f_division T.fd_division ["left", "right", "first", "second", "prime"] (spDvn T) := by
  refine T.F_division.ok sc_division (fun vs H Q E h => ?_) (fun cdv A outer s H vs Q E hr h => ?_)
  · obtain ⟨a, b, f, s, cs, ds, p, rfl, _⟩ := h
    rfl
  · obtain ⟨a, b, f, s2, cs, ds, p, rfl, pa, pb, hf, hs, P1, p2, l1, l2, hc, hd, k⟩ := h
    have p1 := P1.1
    have p0 : 0 < p := by omega
    refine ⟨_, (pss_cons (ps_set (i := 5) sc_division.nd rfl (Or.inl rfl) (pe_call (ok_split T) (hr.mono (by decide)) (by rfl) T.g_split T.F_split.kp T.b_split .nil pass0 (pa_cons (pv 0) (pa_cons (pv 1) pa_nil))))
      (pss_cons (ps_if (pt_cmpR (op_eqD hr.units) (pv 3) (pe_lst pa_nil) (nomark _)) (pss_one (ps_ret (pe_cmpR op_isN (pv 5) pe_non (nomark _)))) pss_nil)
      (pss_cons (ps_if (PW.pt (pw_or (pt_not (pt_val (pe_callB call_isi (by rfl) T.z_isinstance (by decide +kernel) (pa_cons (pv 5) (pa_cons (pe_bltn (v := .ty "tuple") (by rfl) T.z_tuple (by decide +kernel) rfl) pa_nil))))) (pw_or1 (pt_cmpR op_ne (pe_callB call_len_seq (by rfl) T.z_len PySem.boot_len (pa_cons (pv 5) pa_nil)) pe_int (nomark _))))) (pss_one (ps_ret pe_bl)) pss_nil)
      (pss_cons (ps_asg (pe_call (ok_divide T) (hr.mono (by decide)) (by rfl) T.g_divide T.F_divide.kp T.b_divide .nil pass0 (pa_cons (pv 2) (pa_cons (pv 3) (pa_cons (pv 4) pa_nil)))) (pg_tup (by rfl) (pgs_cons (pg_name (i := 6) sc_division.nd rfl (Or.inl rfl)) (pgs_cons (pg_name (i := 7) sc_division.nd rfl (Or.inl rfl)) pgs_nil))))
      (pss_one (ps_ret (pe_and (pe_call (ok_is_poly T) (hr.mono (by decide)) (by rfl) T.g_is_poly T.F_is_poly.kp T.b_is_poly .nil pass0 (pa_cons (pe_ix ix_tup (pv 5) pe_int (fun _ _ => rfl)) (pa_cons (pv 6) (pa_cons (pv 4) pa_nil)))) (pe_one (pe_call (ok_is_poly T) (hr.mono (by decide)) (by rfl) T.g_is_poly T.F_is_poly.kp T.b_is_poly .nil pass0 (pa_cons (pe_ix ix_tup (pv 5) pe_int (fun _ _ => rfl)) (pa_cons (pv 7) (pa_cons (pv 4) pa_nil)))))))))))), ?_⟩
    have sm := can_sm p0 (by omega) hd
    refine ⟨_, rfl, _, rfl, a, b, cs, ds, p, rfl, pa, pb, P1, by omega, l1, l2, sm, fun e => ?_, fun e => ⟨can_nz p0 hd e, fun lead r0 r1 r2 t x y H1 g1 ht et px py => ?_⟩⟩
    · refine ⟨_, rfl, (by show 0 ≤ sizeLine; decide), fun z hz => ?_⟩
      have g := same_new hz (.lst [])
      refine ⟨_, _, .lst (sL g hs) (dpI ds), .lst (SqL.of upd_same) .nil, shL ds, shL [], _, rfl, ?_⟩
      rw [show PyData.eqv (.list (ds.map PyData.int)) (.list []) = decide (ds = []) from eqvI ds [], decide_eq_true e]
      exact iteT ⟨_, rfl, rfl, k _ g⟩
    refine ⟨_, rfl, (by show 0 ≤ sizeLine; decide), fun z hz => ?_⟩
    have g := same_new hz (.lst [])
    have gg := g1.trans g
    refine ⟨_, _, .lst (sL gg hs) (dpI ds), .lst (SqL.of upd_same) .nil, shL ds, shL [], _, rfl, ?_⟩
    rw [show PyData.eqv (.list (ds.map PyData.int)) (.list []) = decide (ds = []) from eqvI ds [], decide_eq_false e]
    refine iteF ?_
    have et2 := g _ _ et
    refine ⟨_, rfl, _, _, _, _, _, rfl, .ty "tuple", kdT (SqT.of et2), kit_ty (show kitB "tuple" "tuple" = some true by decide), _, rfl, iteF ?_⟩
    refine ⟨_, rfl, t, _, rfl, .inr (SqT.of et2), rfl, _, rfl, iteF ?_⟩
    refine ⟨_, rfl, _, rfl, _, rfl, f, s2, cs, ds, p, rfl, sL gg hf, sL gg hs, hc, e, P1, p2, l1, l2, sm, can_nz p0 hd e, fun tt qx qy H2 g2 ht2 et3 eqx eqy => ?_⟩
    have L1 := invF_eq P1 (can_nz p0 hd e) r0 r1 r2
    subst L1
    have g12 := g.trans g2
    have g02 := gg.trans g2
    refine ⟨tt, _, rfl, SqT.of et3, rfl, _, _, rfl, _, _, rfl, rfl, ?_⟩
    have lq : (can p (divQ p (invF p (ds.getD (ds.length - 1) 0)) cs ds)).length ≤ 1000 := by
      have := can_len p (divQ p (invF p (ds.getD (ds.length - 1) 0)) cs ds)
      have l3 := (dst_len (p := p) (lead := invF p (ds.getD (ds.length - 1) 0)) (d := ds) (cs := cs) (divN ds cs)).1
      unfold divQ at this ⊢
      rw [List.length_reverse, l3] at this
      unfold divN at this ⊢
      omega
    have lr : (can p (divR p (invF p (ds.getD (ds.length - 1) 0)) cs ds)).length ≤ 1000 := by
      have := can_len p (divR p (invF p (ds.getD (ds.length - 1) 0)) cs ds)
      have l3 := (dst_len (p := p) (lead := invF p (ds.getD (ds.length - 1) 0)) (d := ds) (cs := cs) (divN ds cs)).2
      unfold divR at this ⊢
      omega
    have et4 := g2 _ _ et2
    refine ⟨_, rfl, t, _, _, _, rfl, rfl, SqT.of et4, rfl, _, rfl, _, rfl, x, qx, _, p, rfl, px.same g12, SqL.of eqx, lq, fun H3 g3 => ⟨_, rfl, iteT ?_⟩⟩
    exact ⟨_, rfl, t, _, _, _, rfl, rfl, SqT.of (g3 _ _ et4), rfl, _, rfl, _, rfl, y, qy, _, p, rfl, py.same (g12.trans g3), SqL.of (g3 _ _ eqy), lr, fun H4 g4 => k H4 (g02.trans (g3.trans g4))⟩
end
end K0

set_option maxRecDepth 100000
set_option maxHeartbeats 4000000
namespace K0
open PySem L2 K1

theorem PolyAt.keep {K : PySem.W.Frag} {mg : Str → Option Value} {T : Txt K mg} {H H' : Hp} {a b : Addr} {cs : List Int} {p : Int} (h : PolyAt T H a cs p) (hB : BoxAt H b) (k : Keep b H H') : PolyAt T H' a cs p := by
  obtain ⟨d, t, h1, h2⟩ := h
  obtain ⟨l, ns, pos, rest, seed, cnt, hb, _⟩ := hB
  refine ⟨d, t, k.1 _ _ (ne_of h1 hb (by intro z; cases z)) h1, ?_⟩
  rcases h2 with (h2 | ⟨o, h2⟩) | h2
  · exact .inl (.inl (k.1 _ _ (ne_of h2 hb (by intro z; cases z)) h2))
  · exact .inl (.inr ⟨o, k.1 _ _ (ne_of h2 hb (by intro z; cases z)) h2⟩)
  · exact .inr h2
def spWths {K : PySem.W.Frag} {mg : Str → Option Value} (T : Txt K mg) : Sp := fun vs H Q _ => ∃ (b a f : Addr) (cs : List Int) (p : Int), vs = [.ref b, .ref a, .ref f, .int p] ∧ BoxAt H b ∧ PolyAt T H a cs p ∧ f ≠ b ∧ H f = some (.lst (cs.map V.int)) ∧ 1 < p ∧ p < 10000000000 ∧ cs.length ≤ 100 ∧ can p cs = cs ∧ ∀ H', BoxAt H' b → Keep b H H' → Q (.bl true) H'
def spEqs {K : PySem.W.Frag} {mg : Str → Option Value} (T : Txt K mg) : Sp := fun vs H Q _ => ∃ (a b f s : Addr) (cs ds : List Int) (p : Int), vs = [.ref a, .ref b, .ref f, .ref s, .int p] ∧ PolyAt T H a cs p ∧ PolyAt T H b ds p ∧ SqL K H f (cs.map V.int) ∧ SqL K H s (ds.map V.int) ∧ 1 < p ∧ cs.length ≤ 100 ∧ ds.length ≤ 100 ∧ can p cs = cs ∧ ∀ H', Same H H' → Q (.bl true) H'
section
variable {P : Program} {w : World} {K : PySem.W.Frag} {mg : Str → Option Value} {base : Heap}
theorem ok_worths (T : Txt K mg) : FnOk P w K mg base CX0 10 T.f_worths T.fd_worths ["box", "left", "first", "prime"] (spWths T) := by
  refine T.F_worths.ok sc_worths (fun vs H Q E h => ?_) (fun cdv A outer s H vs Q E hr h => ?_)
  · obtain ⟨b, a, f, cs, p, rfl, _⟩ := h
    rfl
  · obtain ⟨b, a, f, cs, p, rfl, hB, pa, nf, hf, p1, p2, hc, hcan, k⟩ := h
    have p0 : 0 < p := by omega
    refine ⟨_, (pss_cons (ps_for PassesOwn.never rfl (pi_range1 (by rfl) T.z_range (pa_cons pe_int pa_nil)) (pg_name (i := 4) sc_worths.nd rfl (Or.inl rfl)) (pss_cons (ps_set (i := 5) sc_worths.nd rfl (Or.inl rfl) (pe_call (ok_number T) (hr.mono (by decide)) (by rfl) T.g_number T.F_number.kp T.b_number .nil pass0 (pa_cons (pv 0) (pa_cons (pv 3) pa_nil))))
      (pss_cons (ps_if (pt_not (pt_val (pe_call (ok_same T 8) (hr.mono (by decide)) (by rfl) T.g_same T.F_same.kp T.b_same .nil pass0 (pa_cons (StX.pe_callO (pv 1) T.cO ((ok_m_call T).raw T.b_m_call .nil) (hr.mono (by decide)) pass0 (pa_cons (pv 5) pa_nil)) (pa_cons (pe_call (ok_worth T) (hr.mono (by decide)) (by rfl) T.g_worth T.F_worth.kp T.b_worth .nil pass0 (pa_cons (pv 2) (pa_cons (pv 5) (pa_cons (pv 3) pa_nil)))) pa_nil))))) (pss_one (ps_ret pe_bl)) pss_nil)
      (pss_cons (ps_set (i := 6) sc_worths.nd rfl (Or.inr rfl) (pe_call (ok_number T) (hr.mono (by decide)) (by rfl) T.g_number T.F_number.kp T.b_number .nil pass0 (pa_cons (pv 0) (pa_cons (pv 3) pa_nil))))
      (pss_cons (ps_set (i := 8) sc_worths.nd rfl (Or.inl rfl) (pe_call (ok_trim T) (hr.mono (by decide)) (by rfl) T.g_trim T.F_trim.kp T.b_trim .nil pass0 (pa_cons (pe_lc (own := [("coef", 7)]) (g := gName 7) (tt := tYes) (by rfl) sc_worths.nd (pi_list (pv 2)) (blkOk_by (own := [("coef", 7)]) (N := ["box", "left", "first", "prime", "k", "spot", "gain", "coef", "due", "lift"]) (sc := defScope s_worths) (by decide +kernel)) (fun _ _ _ _ _ => (pg_name (i := 7) sc_worths.nd rfl (Or.inl rfl))) (fun _ _ _ _ _ => pts_nil) (fun _ _ _ _ _ => (pe_op op_mul (pv 7) (pv 6)))) (pa_cons (pv 3) pa_nil))))
      (pss_cons (ps_if (pt_not (pt_val (pe_call (ok_is_poly T) (hr.mono (by decide)) (by rfl) T.g_is_poly T.F_is_poly.kp T.b_is_poly .nil pass0 (pa_cons (pe_meth (pv 1) T.cl T.me_m_scaled (ok_m_scaled T) (hr.mono (by decide)) T.b_m_scaled .nil pass0 (pa_cons (pv 6) pa_nil)) (pa_cons (pv 8) (pa_cons (pv 3) pa_nil)))))) (pss_one (ps_ret pe_bl)) pss_nil)
      (pss_cons (ps_par (i := 8) (j := 9) (by rfl) sc_worths.nd rfl rfl (by decide) rfl rfl (pa_cons (pe_lst pa_nil) (pa_cons pe_int pa_nil)) (by rfl))
      (pss_cons (ps_for PassesOwn.never rfl (pi_list (pv 2)) (pg_name (i := 7) sc_worths.nd rfl (Or.inl rfl)) (pss_cons (ps_expr (pe_bm PySem.F.plainAttrs_list PySem.F.slot_list_append PySem.F.type_list_append mt_append (pv 8) (pa_cons (pe_op op_mul (pv 7) (pv 9)) pa_nil)))
      (pss_one (ps_set (i := 9) sc_worths.nd rfl (Or.inl rfl) (pe_op op_mod (pe_callTy call_int1 (by rfl) T.z_int (by decide +kernel) (pa_cons (pe_op op_mul (pv 9) (pv 6)) pa_nil)) (pv 3))))))
      (pss_one (ps_if (pt_not (pt_val (pe_call (ok_is_poly T) (hr.mono (by decide)) (by rfl) T.g_is_poly T.F_is_poly.kp T.b_is_poly .nil pass0 (pa_cons (OV.pe_methK (pv 1) T.cl T.me_m_stepped (ok_m_stepped T) (hr.mono (by decide)) T.kb_m_stepped pass0 (pk_cons (pv 6) pk_nil)) (pa_cons (pe_call (ok_trim T) (hr.mono (by decide)) (by rfl) T.g_trim T.F_trim.kp T.b_trim .nil pass0 (pa_cons (pv 8) (pa_cons (pv 3) pa_nil))) (pa_cons (pv 3) pa_nil)))))) (pss_one (ps_ret pe_bl)) pss_nil))))))))))
      (pss_one (ps_ret pe_bl))), ?_⟩
    have sm := can_sm p0 (by omega) hcan
    refine ⟨3, rfl, by decide, by decide, for_range (lo := 0) (n := 3) (fun _ σ H' => (∃ v4 v5 v6 v7 v8 v9 : Option V, σ = [some (.ref b), some (.ref a), some (.ref f), some (.int p), v4, v5, v6, v7, v8, v9]) ∧ BoxAt H' b ∧ Keep b H H')
      ⟨⟨_, _, _, _, _, _, rfl⟩, hB, Keep.refl⟩ ?_ (fun σ H' ⟨⟨_, _, _, _, _, _, e⟩, hB', hK'⟩ => k H' hB' hK')⟩
    rintro i σ H0 hi ⟨⟨v4, v5, v6, v7, v8, v9, rfl⟩, hB0, hK0⟩
    refine ⟨_, rfl, _, rfl, b, p, rfl, hB0, p0, p2, fun sp H1 s0 s1 hB1 hK1 => ?_⟩
    replace hK1 := hK0.trans hK1
    have pa1 := pa.keep hB hK1
    obtain ⟨d, t, h1, h2⟩ := id pa1
    have hf1 := hK1.1 _ _ nf hf
    refine ⟨_, rfl, a, rfl, _, rfl, .inr ⟨d, _, h1⟩, a, cs, sp, p, rfl, pa1, p0, by omega, by omega, _, rfl, _, rfl, _, rfl, f, cs, sp, p, rfl, SqL.of hf1, p1, by omega, by omega, fun H2 g2 => ⟨0, _, _, rfl, eqI _, fun H3 g3 => ⟨_, rfl, iteF ?_⟩⟩⟩
    have hB3 := hB1.same (g2.trans g3)
    have hK3 := hK1.trans (Keep.of_same (g2.trans g3))
    clear g2 g3 pa1 h1 h2 hf1
    refine ⟨_, rfl, _, rfl, b, p, rfl, hB3, p0, p2, fun gn H4 s0 s1 hB4 hK4 => ?_⟩
    replace hK4 := hK3.trans hK4
    have pa4 := pa.keep hB hK4
    obtain ⟨d4, t4, h1, h2⟩ := id pa4
    have hf4 := hK4.1 _ _ nf hf
    refine ⟨_, rfl, f, rfl, ⟨_, SqL.of hf4⟩, fun D hD => lc_list (K := K) (a := f) (xs := cs.map V.int) (fun i Hx => Same H4 Hx ∧ Hx D = some (.lst (((cs.take i).map fun c => c * gn).map V.int)))
      ⟨same_new hD _, upd_same⟩ (fun i Hx _ ⟨gs, _⟩ => SqL.of (gs _ _ hf4)) ?_ ?_⟩
    · rintro j z Hx hj ⟨gs, eD⟩
      obtain ⟨n, hn, rfl⟩ := at_int hj
      have nb := sm n (List.mem_of_getElem? hn)
      refine ⟨rfl, _, rfl, _, rfl, _, _, rfl, rfl, .inl ⟨by omega, by omega⟩, _, eD, ?_, fun x o ho => ?_, ?_⟩
      · rw [List.length_map, List.length_map, List.length_take]
        exact small1000 (by omega)
      · rw [upd_ne (ne_of_none ho hD)]
        exact gs _ _ ho
      · rw [upd_same]
        exact congrArg (fun l => some (HO.lst l)) (mapT (f := fun c => c * gn) hn)
    rintro Hx ⟨gs, eD⟩
    rw [List.length_map, List.take_length] at eD
    have esc : (cs.map fun c => c * gn) = sclL p gn cs := by
      unfold sclL
      exact List.map_congr_left fun c _ => Int.mul_comm _ _
    rw [esc] at eD
    have lsc : (sclL p gn cs).length ≤ 1000 := by
      unfold sclL
      rw [List.length_map]
      omega
    have lcan := can_len p (sclL p gn cs)
    refine ⟨_, rfl, D, _, p, rfl, SqL.of eD, p0, lsc, fun du H5 g5 hdu edu => ?_⟩
    have g45 := gs.trans g5
    refine ⟨_, rfl, a, d4, _, rfl, g45 _ _ h1, rfl, _, rfl, a, cs, gn, p, rfl, pa4.same g45, p0, by omega, sm, hc, fun x H6 g6 hx px => ⟨_, rfl, _, rfl, x, du, _, p, rfl, px, SqL.of (g6 _ _ edu), by omega, fun H7 g7 => ⟨_, rfl, iteF ?_⟩⟩⟩
    have g47 := g45.trans (g6.trans g7)
    refine ⟨(by show 0 ≤ sizeLine; decide), fun M hM => ⟨_, _, rfl, ?_⟩⟩
    have g8 := same_new hM (.lst [])
    have eM : upd H7 M (.lst []) M = some (.lst (((List.range 0).map fun i => cs.getD i 0 * fac p gn i).map V.int)) := upd_same
    have hM4 := none_of g47 hM
    have g48 := g47.trans g8
    generalize upd H7 M (.lst []) = H8 at g8 eM g48 ⊢
    refine ⟨_, rfl, f, rfl, ⟨_, SqL.of (g48 _ _ hf4)⟩, for_list (K := K) (a := f) (xs := cs.map V.int) (fun j σ Hx => (∃ v7 : Option V, σ = [some (.ref b), some (.ref a), some (.ref f), some (.int p), some (.int (0 + (i : Nat))), some (.int sp), some (.int gn), v7, some (.ref M), some (.int (fac p gn j))]) ∧ (0 ≤ fac p gn j ∧ fac p gn j ≤ p) ∧ Same H4 Hx ∧ Hx M = some (.lst (((List.range j).map fun i => cs.getD i 0 * fac p gn i).map V.int)))
      ⟨⟨_, rfl⟩, ⟨by show (0 : Int) ≤ 1; decide, by show (1 : Int) ≤ p; omega⟩, g48, eM⟩ (fun j σ Hx _ ⟨_, _, gx, _⟩ => SqL.of (gx _ _ hf4)) ?_ ?_⟩
    · rintro j z σ Hx hj ⟨⟨v7, rfl⟩, ⟨f0, f1⟩, gx, eM⟩
      obtain ⟨n, hn, rfl⟩ := at_int hj
      have nb := sm n (List.mem_of_getElem? hn)
      have en : cs.getD j 0 = n := getD_of hn
      have jl : j < cs.length := (List.getElem?_eq_some_iff.mp hn).1
      refine ⟨_, rfl, .inl ⟨rfl, _, SqL.of eM⟩, _, rfl, _, rfl, _, _, rfl, rfl, .inl ⟨by omega, by omega⟩, M, _, _, rfl, rfl, eM, ?_, ?_⟩
      · rw [List.length_map, List.length_map, List.length_range]
        exact small1000 (by omega)
      refine ⟨_, rfl, _, rfl, _, _, rfl, rfl, .inl ⟨by omega, by omega⟩, .inl ⟨_, rfl, _, rfl, _, _, rfl, rfl, p0, ?_⟩⟩
      refine ⟨⟨_, rfl⟩, ⟨Int.emod_nonneg _ (by omega), Int.le_of_lt (Int.emod_lt_of_pos _ p0)⟩, same_upd hM4 gx, ?_⟩
      rw [upd_same, range_map, List.map_append, en]
      rfl
    rintro σ Hx ⟨⟨v7, rfl⟩, _, gx, eM⟩
    rw [List.length_map] at eM
    have lst : (stpL p gn cs).length ≤ 1000 := by
      unfold stpL
      rw [List.length_map, List.length_range]
      omega
    have lcan2 := can_len p (stpL p gn cs)
    refine ⟨_, rfl, a, d4, _, rfl, gx _ _ h1, rfl, _, rfl, rfl, a, cs, gn, p, rfl, pa4.same gx, p0, by omega, sm, hc, fun x H9 g9 hx px => ?_⟩
    refine ⟨_, rfl, _, rfl, M, stpL p gn cs, p, rfl, SqL.of (g9 _ _ eM), p0, lst, fun u H10 g10 hu eu => ⟨_, rfl, x, u, _, p, rfl, px.same g10, SqL.of eu, by omega, fun H11 g11 => ⟨_, rfl, iteF ?_⟩⟩⟩
    have g4z := gx.trans (g9.trans (g10.trans g11))
    exact ⟨⟨_, _, _, _, _, _, rfl⟩, hB4.same g4z, hK4.trans (Keep.of_same g4z)⟩
theorem ok_equals (T : Txt K mg) : FnOk P w K mg base CX0 9 T.f_equals T.fd_equals ["left", "right", "first", "second", "prime"] (spEqs T) := by
  refine T.F_equals.ok sc_equals (fun vs H Q E h => ?_) (fun cdv A outer s H vs Q E hr h => ?_)
  · obtain ⟨a, b, f, s, cs, ds, p, rfl, _⟩ := h
    rfl
  · obtain ⟨a, b, f, s2, cs, ds, p, rfl, pa, pb, hf, hs, p1, l1, l2, hc, k⟩ := h
    have p0 : 0 < p := by omega
    refine ⟨_, (C8.pss_cut (ps_set (i := 5) sc_equals.nd rfl (Or.inl rfl) (pe_ifExp (pt_cmpR op_eq (pv 4) pe_int (nomark _)) pe_int pe_int))
      (pss_cons (ps_if (PW.pt (pw_or (pt_not (pt_val (pe_call (ok_same T 8) (hr.mono (by decide)) (by rfl) T.g_same T.F_same.kp T.b_same .nil pass0 (pa_cons (pe_cmpR (OV.op_eqO (fun _ _ => rfl) T.f_eq T.n_eq ((ok_m_eq T).raw T.b_m_eq .nil) (hr.mono (by decide)) pass0) (pv 0) (pv 1) (nomark _)) (pa_cons (pe_cmpR (op_eqD hr.units) (pv 2) (pv 3) (nomark _)) pa_nil))))) (pw_or1 (pt_not (pt_val (pe_call (ok_same T 8) (hr.mono (by decide)) (by rfl) T.g_same T.F_same.kp T.b_same .nil pass0 (pa_cons (pe_cmpR (OV.op_neO T.mo T.ne_ T.f_eq T.n_eq ((ok_m_eq T).raw T.b_m_eq .nil) (hr.mono (by decide)) pass0) (pv 0) (pv 1) (nomark _)) (pa_cons (pe_cmpR (op_neD hr.units) (pv 2) (pv 3) (nomark _)) pa_nil)))))))) (pss_one (ps_ret pe_bl)) pss_nil)
      (pss_cons (ps_if (pt_not (pt_val (pe_call (ok_same T 8) (hr.mono (by decide)) (by rfl) T.g_same T.F_same.kp T.b_same .nil pass0 (pa_cons (pe_cmpR (OV.op_eqO (fun _ _ => rfl) T.f_eq T.n_eq ((ok_m_eq T).raw T.b_m_eq .nil) (hr.mono (by decide)) pass0) (pv 0) (pe_makeK T.mk_ (ok_m_init T) (hr.mono (by decide)) (by rfl) T.gC_Poly T.kb1 pass0 (pa_cons (pe_fld (pv 0) rfl) pa_nil) (pk_cons (pv 4) pk_nil)) (nomark _)) (pa_cons pe_bl pa_nil))))) (pss_one (ps_ret pe_bl)) pss_nil)
      (pss_cons (ps_if (pt_not (pt_val (pe_call (ok_same T 8) (hr.mono (by decide)) (by rfl) T.g_same T.F_same.kp T.b_same .nil pass0 (pa_cons (pe_cmpR (OV.op_eqO (fun _ _ => rfl) T.f_eq T.n_eq ((ok_m_eq T).raw T.b_m_eq .nil) (hr.mono (by decide)) pass0) (pv 0) (pe_makeK T.mk_ (ok_m_init T) (hr.mono (by decide)) (by rfl) T.gC_Poly T.kb1 pass0 (pa_cons (pe_fld (pv 0) rfl) pa_nil) (pk_cons (pv 5) pk_nil)) (nomark _)) (pa_cons pe_bl pa_nil))))) (pss_one (ps_ret pe_bl)) pss_nil)
      (pss_cons (ps_if (PW.pt (pw_or (pt_not (pt_val (pe_call (ok_same T 8) (hr.mono (by decide)) (by rfl) T.g_same T.F_same.kp T.b_same .nil pass0 (pa_cons (pe_cmpR (OV.op_eqO (fun _ _ => rfl) T.f_eq T.n_eq ((ok_m_eq T).raw T.b_m_eq .nil) (hr.mono (by decide)) pass0) (pv 0) (pe_fld (pv 0) rfl) (nomark _)) (pa_cons pe_bl pa_nil))))) (pw_or1 (pt_not (pt_val (pe_call (ok_same T 8) (hr.mono (by decide)) (by rfl) T.g_same T.F_same.kp T.b_same .nil pass0 (pa_cons (pe_cmpR (OV.op_eqO (fun _ _ => rfl) T.f_eq T.n_eq ((ok_m_eq T).raw T.b_m_eq .nil) (hr.mono (by decide)) pass0) (pv 0) (pe_callB (OV.call_repr T.f_repr T.n_repr ((ok_m_repr T).raw T.b_m_repr .nil) (hr.mono (by decide)) pass0) (by rfl) T.z_repr (by decide +kernel) (pa_cons (pv 0) pa_nil)) (nomark _)) (pa_cons pe_bl pa_nil)))))))) (pss_one (ps_ret pe_bl)) pss_nil)
      (pss_one (ps_ret (pe_call (ok_same T 8) (hr.mono (by decide)) (by rfl) T.g_same T.F_same.kp T.b_same .nil pass0 (pa_cons (pe_cmpR (OV.op_eqO (fun _ _ => rfl) T.f_eq T.n_eq ((ok_m_eq T).raw T.b_m_eq .nil) (hr.mono (by decide)) pass0) (pv 0) pe_non (nomark _)) (pa_cons pe_bl pa_nil)))))))))), ?_⟩
    obtain ⟨d, t, h1, h2⟩ := id pa
    refine ⟨fun σ H' => ∃ q : Int, 0 < q ∧ p ≠ q ∧ σ = [some (.ref a), some (.ref b), some (.ref f), some (.ref s2), some (.int p), some (.int q)] ∧ H' = H, ?_, ?_⟩
    · refine ⟨_, rfl, rfl, _, rfl, ite2 (fun c => ?_) (fun c => ?_)⟩
      · have e : p = 5 := V.int.inj (of_decide_eq_true c)
        exact ⟨7, by decide, by omega, rfl, rfl⟩
      · exact ⟨5, by decide, fun z => c (decide_eq_true (congrArg V.int z)), rfl, rfl⟩
    rintro σ H0 ⟨q, q0, nq, rfl, rfl⟩
    have ev1 : PyData.eqv (.list (cs.map PyData.int)) (.list (ds.map PyData.int)) = decide (cs = ds) := eqvI cs ds
    refine ⟨_, rfl, _, rfl, a, d, _, .ref T.C_Poly, rfl, h1, tyP T pb, T.nf_Poly, a, _, cs, p, rfl, pa, .inl ⟨b, ds, p, rfl, pb, _, rfl, _, rfl, _, _, .lst hf (dpI cs), .lst hs (dpI ds), shL cs, shL ds, 0, _, _, rfl, (by rw [ev1, decide_eq_true (rfl : p = p), Bool.true_and]; exact eqB _), fun H1 g1 => ⟨_, rfl, iteF ?_⟩⟩⟩
    refine ⟨_, rfl, _, rfl, a, d, _, .ref T.C_Poly, rfl, g1 _ _ h1, tyP T (pb.same g1), T.nf_Poly, a, _, cs, p, rfl, pa.same g1, .inl ⟨b, ds, p, rfl, pb.same g1, _, rfl, _, rfl, _, rfl, _, _, .lst (sL g1 hf) (dpI cs), .lst (sL g1 hs) (dpI ds), shL cs, shL ds, 0, _, _, rfl, (by rw [ev1, decide_eq_true (rfl : p = p), Bool.true_and]; exact eqB _), fun H2 g2 => ⟨_, rfl, iteF ?_⟩⟩⟩
    replace g2 := g1.trans g2
    clear g1
    refine ⟨_, rfl, _, rfl, a, _, d, _, _, rfl, g2 _ _ h1, T.cl, T.n_coefficients, rfl, _, rfl, rfl, rfl, mkP (T := T) (p := p) (ns := cs) (.inr (sT g2 h2)) p0 (by omega) fun x H3 g3 hx px => ?_⟩
    rw [hc] at px
    replace g3 := g2.trans g3
    refine ⟨a, d, _, .ref T.C_Poly, rfl, g3 _ _ h1, tyP T px, T.nf_Poly, a, _, cs, p, rfl, pa.same g3, .inl ⟨x, cs, p, rfl, px, 0, _, _, rfl, (by rw [decide_eq_true (rfl : p = p), decide_eq_true (rfl : cs = cs)]; exact eqB _), fun H4 g4 => ⟨_, rfl, iteF ?_⟩⟩⟩
    replace g4 := g3.trans g4
    clear g3 g2 px hx
    refine ⟨_, rfl, _, rfl, a, _, d, _, _, rfl, g4 _ _ h1, T.cl, T.n_coefficients, rfl, _, rfl, rfl, rfl, mkP (T := T) (p := q) (ns := cs) (.inr (sT g4 h2)) q0 (by omega) fun x H5 g5 hx px => ?_⟩
    replace g5 := g4.trans g5
    refine ⟨a, d, _, .ref T.C_Poly, rfl, g5 _ _ h1, tyP T px, T.nf_Poly, a, _, cs, p, rfl, pa.same g5, .inl ⟨x, _, q, rfl, px, 0, _, _, rfl, (by rw [decide_eq_false nq, Bool.false_and]; exact eqB _), fun H6 g6 => ⟨_, rfl, iteF ?_⟩⟩⟩
    replace g6 := g5.trans g6
    clear g5 g4 px hx
    refine ⟨_, rfl, _, rfl, a, _, d, _, _, rfl, g6 _ _ h1, T.cl, T.n_coefficients, rfl, a, d, _, .type "tuple", rfl, g6 _ _ h1, kdT (sT g6 h2), T.nf_tuple, a, _, cs, p, rfl, pa.same g6, .inr ⟨.type "tuple", kdT (sT g6 h2), T.k_tuple, 0, _, _, rfl, eqB _, fun H7 g7 => ⟨_, rfl, iteF ?_⟩⟩⟩
    replace g7 := g6.trans g7
    clear g6
    refine ⟨_, rfl, _, rfl, a, d, _, rfl, g7 _ _ h1, a, cs, p, rfl, pa.same g7, by omega, _, rfl, a, d, _, .type "str", rfl, g7 _ _ h1, .base (.str _), T.nf_str, a, _, cs, p, rfl, pa.same g7, .inr ⟨.type "str", .base (.str _), T.k_str, 0, _, _, rfl, eqB _, fun H8 g8 => ⟨_, rfl, iteF ?_⟩⟩⟩
    replace g8 := g7.trans g8
    exact ⟨_, rfl, a, d, _, .type "NoneType", rfl, g8 _ _ h1, .base .non, T.nf_NoneType, a, _, cs, p, rfl, pa.same g8, .inr ⟨.type "NoneType", .base .non, T.k_NoneType, 0, _, _, rfl, eqB _, fun H9 g9 => k H9 (g8.trans g9)⟩⟩
end
end K0

set_option maxRecDepth 100000
namespace K0
open PySem L2 K1
/-! ### Lagrange -/
def lin (r : Int) (m : List Int) : List Int := List.zipWith (fun a b => a - r * b) (0 :: m) (m ++ [0])
theorem lin_len (r : Int) (m : List Int) : (lin r m).length = m.length + 1 := by
  unfold lin
  rw [List.length_zipWith, List.length_cons, List.length_append, List.length_singleton]
  exact Nat.min_self _
def cf (m : List Int) (k : Nat) : Int := m.getD k 0
theorem cf_big {m : List Int} {k : Nat} (h : m.length ≤ k) : cf m k = 0 := by
  unfold cf
  rw [List.getD_eq_getElem?_getD, List.getElem?_eq_none h]
  rfl
theorem cf_lin (r : Int) (m : List Int) (k : Nat) : cf (lin r m) k = cf (0 :: m) k - r * cf m k := by
  by_cases h : k < m.length + 1
  · have e1 : (0 :: m)[k]? = some (cf (0 :: m) k) := by
      unfold cf
      rw [List.getD_eq_getElem?_getD, List.getElem?_eq_getElem (by rw [List.length_cons]; exact h)]
      rfl
    have e2 : (m ++ [0])[k]? = some (cf m k) := by
      by_cases c : k < m.length
      · unfold cf
        rw [List.getElem?_append_left c, List.getD_eq_getElem?_getD, List.getElem?_eq_getElem c]
        rfl
      · rw [cf_big (by omega), List.getElem?_append_right (by omega)]
        have : k - m.length = 0 := by omega
        rw [this]
        rfl
    unfold lin
    show (List.zipWith _ _ _).getD k 0 = _
    rw [List.getD_eq_getElem?_getD, List.getElem?_zipWith, e1, e2]
    rfl
  · rw [cf_big (by rw [lin_len]; omega), cf_big (m := 0 :: m) (by rw [List.length_cons]; omega), cf_big (m := m) (by omega)]
    omega
theorem cf_ext {l m : List Int} (hl : l.length = m.length) (h : ∀ k, cf l k = cf m k) : l = m := by
  apply List.ext_getElem?
  intro k
  by_cases c : k < l.length
  · have := h k
    unfold cf at this
    rw [List.getD_eq_getElem?_getD, List.getD_eq_getElem?_getD, List.getElem?_eq_getElem c, List.getElem?_eq_getElem (hl ▸ c)] at this
    rw [List.getElem?_eq_getElem c, List.getElem?_eq_getElem (hl ▸ c)]
    exact congrArg some this
  · rw [List.getElem?_eq_none (by omega), List.getElem?_eq_none (by omega)]
theorem lin_comm (a b : Int) (m : List Int) : lin a (lin b m) = lin b (lin a m) := by
  refine cf_ext (by rw [lin_len, lin_len, lin_len, lin_len]) fun k => ?_
  rw [cf_lin a (lin b m), cf_lin b (lin a m), cf_lin b m, cf_lin a m]
  have c0 : ∀ l : List Int, cf (0 :: l) 0 = 0 := fun _ => rfl
  have cs : ∀ (l : List Int) (k : Nat), cf (0 :: l) (k + 1) = cf l k := fun _ _ => rfl
  cases k with
  | zero => rw [c0, c0, c0]; grind
  | succ k => rw [cs (lin b m), cs (lin a m), cs m, cf_lin b m, cf_lin a m]; grind
def wr0 (rs : List Int) : List Int := rs.foldl (fun m r => lin r m) [1]
theorem fold_lin (r : Int) (l m : List Int) : l.foldl (fun m r => lin r m) (lin r m) = lin r (l.foldl (fun m r => lin r m) m) := by
  induction l generalizing m with
  | nil => rfl
  | cons a l ih =>
    show l.foldl _ (lin a (lin r m)) = lin r (l.foldl _ (lin a m))
    rw [lin_comm, ih]
theorem wr0_out (l1 l2 : List Int) (r : Int) : wr0 (l1 ++ r :: l2) = lin r (wr0 (l1 ++ l2)) := by
  unfold wr0
  rw [List.foldl_append, List.foldl_append]
  exact fold_lin r l2 _
theorem linL_red (p r : Int) (m : List Int) : linL p r (red p m) = red p (lin r m) := by
  have hl : (red p m).length = m.length := by
    unfold red
    rw [List.length_map]
  have e : linL p r (red p m) = red p (lin r (red p m)) := by
    unfold linL lin red
    rw [List.map_zipWith]
  rw [e]
  refine red_ext (by rw [lin_len, lin_len, hl]) fun i _ => ?_
  have hm : ∀ k, Cg p (cf (red p m) k) (cf m k) := fun k => by
    unfold cf red
    rw [List.getD_eq_getElem?_getD, List.getD_eq_getElem?_getD, List.getElem?_map]
    cases m[k]? with
    | none => exact Cg.refl _ _
    | some z => exact Cg.mod p z
  have h0 : ∀ k, Cg p (cf (0 :: red p m) k) (cf (0 :: m) k) := fun k => by
    cases k with
    | zero => exact Cg.refl _ _
    | succ k => exact hm k
  show Cg p (cf (lin r (red p m)) i) (cf (lin r m) i)
  rw [cf_lin, cf_lin]
  exact (h0 i).sub ((Cg.refl p r).mul (hm i))
theorem wr_red {p : Int} (hp : 1 < p) (rs : List Int) : wr p rs = red p (wr0 rs) := by
  have key : ∀ (rs m : List Int), rs.foldl (fun m r => linL p r m) (red p m) = red p (rs.foldl (fun m r => lin r m) m) := by
    intro rs
    induction rs with
    | nil => intro m; rfl
    | cons a l ih =>
      intro m
      show l.foldl _ (linL p a (red p m)) = red p (l.foldl _ (lin a m))
      rw [linL_red, ih]
  have e : red p [1] = [1] := by
    show [(1 : Int) % p] = [1]
    rw [Int.emod_eq_of_lt (by omega) hp]
  have := key rs [1]
  rw [e] at this
  exact this
theorem ev_lin (r : Int) (m : List Int) (x : Int) : ev (lin r m) x = (x - r) * ev m x := by
  have key : ∀ (m : List Int) (q : Int), ev (List.zipWith (fun a b => a - r * b) (q :: m) (m ++ [0])) x = q + (x - r) * ev m x := by
    intro m
    induction m with
    | nil =>
      intro q
      show (q - r * 0) + x * 0 = q + (x - r) * 0
      omega
    | cons a m ih =>
      intro q
      show (q - r * a) + x * ev (List.zipWith (fun a b => a - r * b) (a :: m) (m ++ [0])) x = q + (x - r) * (a + x * ev m x)
      rw [ih]
      grind
  have := key m 0
  unfold lin
  rw [this]
  omega
/-- the ends of lin r (q :: Q) are worth Q at r -/
theorem ends_lin (p r : Int) : ∀ (m : List Int) (q : Int) (k : Nat), k ≤ m.length → ev ((List.zipWith (fun a b => a - r * b) (q :: m) (m ++ [0])).drop k) r = cf (q :: m) k
  | m, q, 0, _ => by
    have key : ∀ (m : List Int) (q : Int), ev (List.zipWith (fun a b => a - r * b) (q :: m) (m ++ [0])) r = q := by
      intro m
      induction m with
      | nil =>
        intro q
        show (q - r * 0) + r * 0 = q
        omega
      | cons a m ih =>
        intro q
        show (q - r * a) + r * ev (List.zipWith (fun a b => a - r * b) (a :: m) (m ++ [0])) r = q
        rw [ih]
        omega
    exact key m q
  | [], q, k + 1, h => absurd h (by show ¬ k + 1 ≤ 0; omega)
  | a :: m, q, k + 1, h => ends_lin p r m a k (by rw [List.length_cons] at h; omega)
theorem syn_lin {p r : Int} (Q : List Int) (h : 0 < Q.length) : synL p r (red p (lin r Q)) = red p Q := by
  match Q, h with
  | q :: m, _ =>
    have e : (red p (lin r (q :: m))).drop 1 = red p (List.zipWith (fun a b => a - r * b) (q :: m) (m ++ [0])) := rfl
    have hl : (red p (List.zipWith (fun a b => a - r * b) (q :: m) (m ++ [0]))).length = m.length + 1 := by
      unfold red
      rw [List.length_map, List.length_zipWith, List.length_cons, List.length_append, List.length_singleton]
      exact Nat.min_self _
    unfold synL
    rw [e, hl]
    apply List.ext_getElem?
    intro k
    by_cases c : k < m.length + 1
    · rw [List.getElem?_map, List.getElem?_range c]
      have e2 : (red p (List.zipWith (fun a b => a - r * b) (q :: m) (m ++ [0]))).drop k = red p ((List.zipWith (fun a b => a - r * b) (q :: m) (m ++ [0])).drop k) := by
        unfold red
        rw [List.map_drop]
      show some (ev (List.drop k _) r % p) = _
      rw [e2, Cg.iff.mp (ev_red p _ r), ends_lin p r m q k (by omega)]
      unfold red cf
      rw [List.getElem?_map, List.getD_eq_getElem?_getD, List.getElem?_eq_getElem (show k < (q :: m).length by rw [List.length_cons]; exact c)]
      rfl
    · rw [List.getElem?_eq_none (by rw [List.length_map, List.length_range]; omega), List.getElem?_eq_none (by unfold red; rw [List.length_map, List.length_cons]; omega)]
theorem ev_wr0 (rs : List Int) (x : Int) : ∀ z ∈ rs, Cg 0 x z → ev (wr0 rs) x = 0 := fun z hz hx => by
  obtain ⟨l1, l2, e⟩ := List.append_of_mem hz
  subst e
  rw [wr0_out, ev_lin]
  obtain ⟨k, hk⟩ := hx
  have : x - z = 0 := by omega
  rw [this]
  omega
theorem ev_wr0_nz {p x : Int} (P : Prm p) (rs : List Int) (h : ∀ z ∈ rs, ¬ Cg p (x - z) 0) : ¬ Cg p (ev (wr0 rs) x) 0 := by
  induction rs with
  | nil =>
    intro z
    have e : ev (wr0 []) x = 1 := by
      show (1 : Int) + x * 0 = 1
      omega
    rw [e] at z
    have := cg_zero.mp z
    rw [one_mod P] at this
    omega
  | cons a l ih =>
    have e : wr0 (a :: l) = lin a (wr0 l) := wr0_out [] l a
    rw [e, ev_lin]
    intro z
    exact ih (fun y hy => h y (List.mem_cons_of_mem _ hy)) (prm_mul P z (h a List.mem_cons_self))
section
variable {p : Int} {ds : List (Int × Int)}
theorem prt_others (hp : 1 < p) {i : Nat} (hi : i < ds.length) (x : Int) : Cg p (ev (prt p ds i) x) (ev (wr0 ((rts p ds).take i ++ (rts p ds).drop (i + 1))) x) := by
  have lr : (rts p ds).length = ds.length := by
    unfold rts
    rw [List.length_map]
  have e : rts p ds = (rts p ds).take i ++ (rts p ds).getD i 0 :: (rts p ds).drop (i + 1) := by
    rw [List.getD_eq_getElem?_getD, List.getElem?_eq_getElem (by omega)]
    show _ = _ ++ (rts p ds)[i] :: _
    rw [← List.drop_eq_getElem_cons, List.take_append_drop]
  have ew : wr p (rts p ds) = red p (lin ((rts p ds).getD i 0) (wr0 ((rts p ds).take i ++ (rts p ds).drop (i + 1)))) := by
    rw [wr_red hp, ← wr0_out, ← e]
  have l0 : 0 < (wr0 ((rts p ds).take i ++ (rts p ds).drop (i + 1))).length := by
    have := congrArg List.length (wr_red hp ((rts p ds).take i ++ (rts p ds).drop (i + 1)))
    rw [wr_len] at this
    unfold red at this
    rw [List.length_map] at this
    omega
  unfold prt
  rw [ew, syn_lin _ l0]
  exact ev_red p _ x
theorem rts_lt (hp : 1 < p) : ∀ z ∈ rts p ds, 0 ≤ z ∧ z < p := fun z hz => by
  obtain ⟨d, _, rfl⟩ := List.mem_map.mp hz
  exact ⟨Int.emod_nonneg _ (by omega), Int.emod_lt_of_pos _ (by omega)⟩
theorem prt_self (P : Prm p) (nd : (rts p ds).Nodup) {i : Nat} (hi : i < ds.length) : ev (prt p ds i) ((rts p ds).getD i 0) % p ≠ 0 := by
  have p1 := P.1
  have lr : (rts p ds).length = ds.length := by
    unfold rts
    rw [List.length_map]
  intro z
  refine ev_wr0_nz P ((rts p ds).take i ++ (rts p ds).drop (i + 1)) (fun y hy c => ?_) ((prt_others p1 hi _).symm.trans (cg_zero.mpr z))
  have ei : (rts p ds)[i]? = some ((rts p ds).getD i 0) := by
    rw [List.getD_eq_getElem?_getD, List.getElem?_eq_getElem (by omega)]
    rfl
  have b1 := rts_lt p1 _ (List.mem_of_getElem? ei)
  have hy2 : y ∈ rts p ds := by
    rcases List.mem_append.mp hy with h | h
    · exact List.mem_of_mem_take h
    · exact List.mem_of_mem_drop h
  have b2 := rts_lt p1 _ hy2
  have e : (rts p ds).getD i 0 = y := by
    refine Cg.eq_of (p := p) ?_ b1.1 b1.2 b2.1 b2.2
    have := c.add (Cg.refl p y)
    refine (Cg.of_eq (by omega)).trans (this.trans (Cg.of_eq (by omega)))
  have split : rts p ds = (rts p ds).take i ++ (rts p ds).getD i 0 :: (rts p ds).drop (i + 1) := by
    rw [List.getD_eq_getElem?_getD, List.getElem?_eq_getElem (by omega)]
    show _ = _ ++ (rts p ds)[i] :: _
    rw [← List.drop_eq_getElem_cons, List.take_append_drop]
  rw [split, List.nodup_append] at nd
  obtain ⟨_, n2, n3⟩ := nd
  rcases List.mem_append.mp hy with h | h
  · exact n3 y h _ List.mem_cons_self e.symm
  · exact (List.nodup_cons.mp n2).1 (e ▸ h)
theorem prt_other (P : Prm p) {i j : Nat} (hi : i < ds.length) (hj : j < ds.length) (ne : i ≠ j) : Cg p (ev (prt p ds i) ((rts p ds).getD j 0)) 0 := by
  have lr : (rts p ds).length = ds.length := by
    unfold rts
    rw [List.length_map]
  have ej : (rts p ds)[j]? = some ((rts p ds).getD j 0) := by
    rw [List.getD_eq_getElem?_getD, List.getElem?_eq_getElem (by omega)]
    rfl
  have hm : (rts p ds).getD j 0 ∈ (rts p ds).take i ++ (rts p ds).drop (i + 1) := by
    rcases Nat.lt_or_ge j i with h | h
    · refine List.mem_append_left _ (List.mem_of_getElem? (i := j) ?_)
      rw [List.getElem?_take_of_lt h]
      exact ej
    · refine List.mem_append_right _ (List.mem_of_getElem? (i := j - (i + 1)) ?_)
      rw [List.getElem?_drop]
      have : i + 1 + (j - (i + 1)) = j := by omega
      rw [this]
      exact ej
  refine (prt_others P.1 hi _).trans (Cg.of_eq ?_)
  exact ev_wr0 _ _ _ hm (Cg.refl 0 _)
theorem ev_zipm (f : Int) : ∀ (A B : List Int) (x : Int), A.length = B.length → Cg p (ev (List.zipWith (fun a b => (a + f * b) % p) A B) x) (ev A x + f * ev B x)
  | [], [], x, _ => Cg.of_eq (by show (0 : Int) = 0 + f * 0; omega)
  | a :: A, b :: B, x, h => by
    have ih := ev_zipm f A B x (by simpa using h)
    refine ((Cg.mod p (a + f * b)).add ((Cg.refl p x).mul ih)).trans (Cg.of_eq ?_)
    show _ = (a + x * ev A x) + f * (b + x * ev B x)
    grind
theorem ev_zero (n : Nat) (x : Int) : ev (List.replicate n 0) x = 0 := by
  induction n with
  | zero => rfl
  | succ n ih =>
    rw [List.replicate_succ]
    show (0 : Int) + x * ev (List.replicate n 0) x = 0
    rw [ih]
    omega
/-- through the points -/
theorem tot_ok (P : Prm p) (nd : (rts p ds).Nodup) {j : Nat} (hj : j < ds.length) : Cg p (ev (tot p ds ds.length) ((rts p ds).getD j 0)) (ds.getD j (0, 0)).2 := by
  have key : ∀ k, k ≤ ds.length → Cg p (ev (tot p ds k) ((rts p ds).getD j 0)) (if j < k then (ds.getD j (0, 0)).2 else 0) := by
    intro k
    induction k with
    | zero =>
      intro _
      rw [if_neg (by omega)]
      exact Cg.of_eq (ev_zero _ _)
    | succ k ih =>
      intro hk
      have h0 := ih (by omega)
      have h1 := ev_zipm (p := p) (fct p ds k) (tot p ds k) (prt p ds k) ((rts p ds).getD j 0) (by rw [tot_len, prt_len])
      refine h1.trans ?_
      by_cases e : k = j
      · subst e
        rw [if_neg (by omega)] at h0
        rw [if_pos (by omega)]
        have nz := prt_self P nd hj
        have inv : Cg p (invF p (ev (prt p ds k) ((rts p ds).getD k 0) % p) * ev (prt p ds k) ((rts p ds).getD k 0)) 1 := by
          have nz2 : ev (prt p ds k) ((rts p ds).getD k 0) % p % p ≠ 0 := by
            rw [Int.emod_emod_of_dvd _ (Int.dvd_refl p)]
            exact nz
          have := cg_one P (fermat_inv P nz2)
          exact ((Cg.refl p _).mul (Cg.mod p _).symm).trans this
        have f2 : Cg p (fct p ds k * ev (prt p ds k) ((rts p ds).getD k 0)) (ds.getD k (0, 0)).2 := by
          unfold fct
          refine (Cg.of_eq (Int.mul_assoc _ _ _)).trans (((Cg.refl p _).mul inv).trans (Cg.of_eq (by omega)))
        exact (h0.add f2).trans (Cg.of_eq (by omega))
      · have z := prt_other P (by omega : k < ds.length) hj e
        have f2 : Cg p (fct p ds k * ev (prt p ds k) ((rts p ds).getD j 0)) 0 := ((Cg.refl p _).mul z).trans (Cg.of_eq (by omega))
        have := h0.add f2
        by_cases c : j < k
        · rw [if_pos c] at this
          rw [if_pos (by omega)]
          exact this.trans (Cg.of_eq (by omega))
        · rw [if_neg c] at this
          rw [if_neg (by omega)]
          exact this.trans (Cg.of_eq (by omega))
  have := key ds.length (Nat.le_refl _)
  rwa [if_pos hj] at this
end
end K0

set_option maxRecDepth 100000
set_option maxHeartbeats 4000000
namespace K0
open PySem L2 K1

def spLine : Sp := fun vs H Q _ => ∃ (b : Addr) (p : Int), vs = [.ref b, .int p] ∧ BoxAt H b ∧ p ∈ primes ∧ ∀ H', BoxAt H' b → Keep b H H' → Q (.bl true) H'
def DotC (H : Hp) (q : Addr) (d : Int × Int) : Prop := H q = some (.lst [.int d.1, .int d.2]) ∨ H q = some (.tup [.int d.1, .int d.2])
/-- what the loop has laid: the pool at P, the dots at D -/
structure LnI (b P D : Addr) (H : Hp) (pool : List Int) (qs : List Addr) (ds : List (Int × Int)) : Prop where
  pP : H P = some (.lst (pool.map V.int))
  pD : H D = some (.lst (qs.map V.ref))
  lq : qs.length = ds.length
  dots : ∀ (i : Nat) (q : Addr) (d : Int × Int), qs[i]? = some q → ds[i]? = some d → DotC H q d ∧ q ≠ b ∧ q ≠ P ∧ q ≠ D
theorem LnI.keep {b P D : Addr} {H H' : Hp} {pool : List Int} {qs : List Addr} {ds : List (Int × Int)} (h : LnI b P D H pool qs ds) (nP : P ≠ b) (nD : D ≠ b) (k : Keep b H H') : LnI b P D H' pool qs ds :=
  ⟨k.1 _ _ nP h.pP, k.1 _ _ nD h.pD, h.lq, fun i q d a c => by
    obtain ⟨x, n1, n2, n3⟩ := h.dots i q d a c
    exact ⟨x.elim (fun x => .inl (k.1 _ _ n1 x)) (fun x => .inr (k.1 _ _ n1 x)), n1, n2, n3⟩⟩
theorem LnI.pool {b P D : Addr} {H : Hp} {pool : List Int} {qs : List Addr} {ds : List (Int × Int)} (h : LnI b P D H pool qs ds) (n : D ≠ P) (s : Int) : LnI b P D (upd H P (.lst (pool.map V.int ++ [.int s]))) (pool ++ [s]) qs ds :=
  ⟨by rw [upd_same, List.map_append]; rfl, by rw [upd_ne n]; exact h.pD, h.lq, fun i q d a c => by
    obtain ⟨x, n1, n2, n3⟩ := h.dots i q d a c
    exact ⟨x.elim (fun x => .inl (by rw [upd_ne n2]; exact x)) (fun x => .inr (by rw [upd_ne n2]; exact x)), n1, n2, n3⟩⟩
theorem LnI.dot {b P D q : Addr} {H : Hp} {o : HO} {pool : List Int} {qs : List Addr} {ds : List (Int × Int)} {d : Int × Int} (h : LnI b P D H pool qs ds) (n : D ≠ P) (hB : BoxAt H b) (hq : H q = none) (ho : o = .lst [.int d.1, .int d.2] ∨ o = .tup [.int d.1, .int d.2]) :
    LnI b P D (upd (upd H q o) D (.lst (qs.map V.ref ++ [.ref q]))) pool (qs ++ [q]) (ds ++ [d]) := by
  have nD : q ≠ D := fun z => by
    rw [z, h.pD] at hq
    cases hq
  have nP : q ≠ P := fun z => by
    rw [z, h.pP] at hq
    cases hq
  have nb : q ≠ b := hB.ne hq
  refine ⟨by rw [upd_ne (Ne.symm n), upd_ne (Ne.symm nP)]; exact h.pP, by rw [upd_same, List.map_append]; rfl, by rw [List.length_append, List.length_append, h.lq]; rfl, fun i x e a c => ?_⟩
  by_cases hi : i < qs.length
  · rw [List.getElem?_append_left hi] at a
    rw [List.getElem?_append_left (by rw [← h.lq]; exact hi)] at c
    obtain ⟨y, n1, n2, n3⟩ := h.dots i x e a c
    have nx : x ≠ q := fun z => by
      rw [z] at y
      rcases y with y | y <;> rw [y] at hq <;> cases hq
    exact ⟨y.elim (fun y => .inl (by rw [upd_ne n3, upd_ne nx]; exact y)) (fun y => .inr (by rw [upd_ne n3, upd_ne nx]; exact y)), n1, n2, n3⟩
  · have il : i < (qs ++ [q]).length := (List.getElem?_eq_some_iff.mp a).1
    rw [List.length_append, List.length_singleton] at il
    have ei : i = qs.length := by omega
    subst ei
    rw [List.getElem?_append_right (Nat.le_refl _), Nat.sub_self] at a
    rw [h.lq, List.getElem?_append_right (Nat.le_refl _), Nat.sub_self] at c
    obtain rfl : q = x := Option.some.inj a
    obtain rfl : d = e := Option.some.inj c
    refine ⟨?_, nb, nP, nD⟩
    rcases ho with ho | ho
    · exact .inl (by rw [upd_ne nD, upd_same, ho])
    · exact .inr (by rw [upd_ne nD, upd_same, ho])
theorem ix_dot0 {K : PySem.W.Frag} {H : Hp} {q : Addr} {d : Int × Int} {Q : VK} (h : DotC H q d) (k : Q (.int d.1) H) : rIx K (.ref q) (.int 0) H Q := by
  rcases h with h | h
  · exact .inl ⟨q, _, 0, _, rfl, rfl, SqL.of h, rfl, k⟩
  · exact .inr (.inl ⟨q, _, 0, _, rfl, rfl, SqT.of h, rfl, k⟩)
theorem ix_dot1 {K : PySem.W.Frag} {H : Hp} {q : Addr} {d : Int × Int} {Q : VK} (h : DotC H q d) (k : Q (.int d.2) H) : rIx K (.ref q) (.int 1) H Q := by
  rcases h with h | h
  · exact .inl ⟨q, _, 1, _, rfl, rfl, SqL.of h, rfl, k⟩
  · exact .inr (.inl ⟨q, _, 1, _, rfl, rfl, SqT.of h, rfl, k⟩)
theorem DotC.same {H H' : Hp} {q : Addr} {d : Int × Int} (h : DotC H q d) (g : Same H H') : DotC H' q d := h.elim (fun h => .inl (g _ _ h)) (fun h => .inr (g _ _ h))
/-- a list of pairs -/
def KpAt (H : Hp) (M : Addr) (ds : List (Int × Int)) : Prop := ∃ ts : List Addr, H M = some (.lst (ts.map V.ref)) ∧ ts.length = ds.length ∧ ∀ (j : Nat) (t : Addr) (d : Int × Int), ts[j]? = some t → ds[j]? = some d → H t = some (.tup [.int d.1, .int d.2])
theorem lc_kept {K : PySem.W.Frag} {a0 a1 a2 a3 a5 a6 a7 a8 a9 a10 a11 a12 : Option V} {D : Addr} {H : Hp} {qs : List Addr} {ds : List (Int × Int)} {Q : VK} (hD : H D = some (.lst (qs.map V.ref))) (lq : qs.length = ds.length)
    (dots : ∀ (i : Nat) (q : Addr) (d : Int × Int), qs[i]? = some q → ds[i]? = some d → DotC H q d) (hl : ds.length ≤ 7) (k : ∀ (M : Addr) (H' : Hp), Same H H' → H M = none → KpAt H' M ds → Q (.ref M) H') :
    tLc (iList K (tVar 4)) (gName 9) tYes (tTup (tCons (tOp (rIx K) (tVar 9) (tC (.int 0))) (tCons (tOp (rIx K) (tVar 9) (tC (.int 1))) tNil))) [9] [a0, a1, a2, a3, some (.ref D), a5, a6, a7, a8, a9, a10, a11, a12] H Q := by
  refine ⟨_, rfl, D, rfl, ⟨_, SqL.of hD⟩, fun M hM => lc_list (K := K) (a := D) (xs := qs.map V.ref) (fun i Hx => Same H Hx ∧ ∃ ts : List Addr, Hx M = some (.lst (ts.map V.ref)) ∧ ts.length = i ∧ ∀ (j : Nat) (t : Addr) (d : Int × Int), ts[j]? = some t → ds[j]? = some d → Hx t = some (.tup [.int d.1, .int d.2]))
    ⟨same_new hM _, [], upd_same, rfl, fun j t d h => by cases h⟩ (fun i Hx _ ⟨gs, _⟩ => SqL.of (gs _ _ hD)) ?_ ?_⟩
  · rintro i z Hx hi ⟨gs, ts, eM, lt, ht⟩
    obtain ⟨q, hq, rfl⟩ := at_ref hi
    obtain ⟨d, hd⟩ := dot_at lq hq
    have i7 : i < ds.length := (List.getElem?_eq_some_iff.mp hd).1
    have dc := (dots i q d hq hd).same gs
    refine ⟨rfl, _, rfl, ix_dot0 dc ⟨_, rfl, ix_dot1 dc ⟨(by show 2 ≤ sizeLine; decide), fun t ht0 => ?_⟩⟩⟩
    have gt := same_new ht0 (.tup [.int d.1, .int d.2])
    have et : upd Hx t (.tup [.int d.1, .int d.2]) t = some (.tup [.int d.1, .int d.2]) := upd_same
    replace eM := gt _ _ eM
    replace gs := gs.trans gt
    replace ht : ∀ (j : Nat) (t' : Addr) (d' : Int × Int), ts[j]? = some t' → ds[j]? = some d' → upd Hx t (.tup [.int d.1, .int d.2]) t' = some (.tup [.int d'.1, .int d'.2]) := fun j t' d' a c => gt _ _ (ht j t' d' a c)
    generalize upd Hx t (.tup [.int d.1, .int d.2]) = Hy at eM gs ht et ⊢
    refine ⟨_, eM, ?_, same_upd hM gs, ts ++ [t], ?_, ?_, fun j t' d' a c => ?_⟩
    · rw [List.length_map]
      exact small1000 (by omega)
    · rw [upd_same, List.map_append]
      rfl
    · rw [List.length_append, lt]
      rfl
    · have key : Hy t' = some (.tup [.int d'.1, .int d'.2]) := by
        by_cases hj : j < ts.length
        · rw [List.getElem?_append_left hj] at a
          exact ht j t' d' a c
        · have jl : j < (ts ++ [t]).length := (List.getElem?_eq_some_iff.mp a).1
          rw [List.length_append, List.length_singleton] at jl
          have ej : j = i := by omega
          subst ej
          rw [← lt, List.getElem?_append_right (Nat.le_refl _), Nat.sub_self] at a
          obtain rfl : t = t' := Option.some.inj a
          rw [hd] at c
          obtain rfl : d = d' := Option.some.inj c
          exact et
      rw [upd_ne (ne_of key eM (by intro z; cases z))]
      exact key
  · rintro Hx ⟨gs, ts, eM, lt, ht⟩
    rw [List.length_map] at lt
    exact k M Hx gs hM ⟨ts, eM, lt.trans lq, ht⟩
theorem KpAt.same {H H' : Hp} {M : Addr} {ds : List (Int × Int)} (h : KpAt H M ds) (g : Same H H') : KpAt H' M ds := by
  obtain ⟨ts, h1, h2, h3⟩ := h
  exact ⟨ts, g _ _ h1, h2, fun j t d a c => g _ _ (h3 j t d a c)⟩
theorem KpAt.keep {H H' : Hp} {M b : Addr} {ds : List (Int × Int)} (h : KpAt H M ds) (n : M ≠ b) (hB : BoxAt H b) (k : Keep b H H') : KpAt H' M ds := by
  obtain ⟨ts, h1, h2, h3⟩ := h
  obtain ⟨l, ns, pos, rest, seed, cnt, hb, _⟩ := hB
  exact ⟨ts, k.1 _ _ n h1, h2, fun j t d a c => k.1 _ _ (ne_of (h3 j t d a c) hb (by intro z; cases z)) (h3 j t d a c)⟩
def prD (d : Int × Int) : PyData := .tuple [.int d.1, .int d.2]
theorem dpKp {K : PySem.W.Frag} {H : Hp} : ∀ (ts : List Addr) (ds : List (Int × Int)), ts.length = ds.length → (∀ (j : Nat) (t : Addr) (d : Int × Int), ts[j]? = some t → ds[j]? = some d → H t = some (.tup [.int d.1, .int d.2])) → DpAll K H (ts.map V.ref) (ds.map prD)
  | [], [], _, _ => .nil
  | t :: ts, d :: ds, hl, h => .cons (.tup (SqT.of (h 0 t d rfl rfl)) (.cons (.int _) (.cons (.int _) .nil))) (dpKp ts ds (by simpa using hl) fun j t d a c => h (j + 1) t d a c)
theorem KpAt.dp {K : PySem.W.Frag} {H : Hp} {M : Addr} {ds : List (Int × Int)} (h : KpAt H M ds) : Dp K H (.ref M) (.list (ds.map prD)) := by
  obtain ⟨ts, h1, h2, h3⟩ := h
  exact .lst (SqL.of h1) (dpKp ts ds h2 h3)
theorem lay_prs (ds : List (Int × Int)) : PyData.canLayAll0 (ds.map prD) = true := by
  induction ds with
  | nil => rfl
  | cons n ns ih =>
    rw [List.map_cons]
    simp [prD, PyData.canLayAll0, PyData.canLay0, ih]
theorem dep_prs (ds : List (Int × Int)) : PyData.depthAll (ds.map prD) ≤ 2 := by
  induction ds with
  | nil => simp [PyData.depthAll]
  | cons n ns ih =>
    rw [List.map_cons]
    simp [prD, PyData.depthAll, PyData.depth]
    omega
theorem shP (ds : List (Int × Int)) : SeqAt.shaped (.list (ds.map prD)) = true := by
  have h1 := lay_prs ds
  have h2 := dep_prs ds
  unfold SeqAt.shaped
  simp [PyData.canLay0, PyData.depth, h1]
  omega
theorem eqP (ds : List (Int × Int)) : PyData.eqv (.list (ds.map prD)) (.list (ds.map prD)) = true := SeqAt.eqv_refl _ (SeqAt.canLay_of_shaped (shP ds))
theorem KpAt.updL {H : Hp} {M D : Addr} {o : HO} {xs : List V} {ds : List (Int × Int)} (h : KpAt H M ds) (hD : H D = some (.lst xs)) (n : M ≠ D) : KpAt (upd H D o) M ds := by
  obtain ⟨ts, h1, h2, h3⟩ := h
  exact ⟨ts, by rw [upd_ne n]; exact h1, h2, fun j t d a c => by rw [upd_ne (ne_of (h3 j t d a c) hD (by intro z; cases z))]; exact h3 j t d a c⟩
theorem all_rep (n : Nat) : (List.replicate n true).all id = true := by
  rw [List.all_eq_true]
  intro x hx
  rw [(List.mem_replicate.mp hx).2]
  rfl
theorem dot_ok {p : Int} {ds : List (Int × Int)} (P : Prm p) (nd : (rts p ds).Nodup) {j : Nat} {d : Int × Int} (h : ds[j]? = some d) : ev (can p (tot p ds ds.length)) d.1 % p = d.2 % p := by
  have hj := (List.getElem?_eq_some_iff.mp h).1
  have e1 : (rts p ds).getD j 0 = d.1 % p := by
    refine getD_of ?_
    unfold rts
    rw [List.getElem?_map, h]
    rfl
  have e2 : ds.getD j (0, 0) = d := by
    rw [List.getD_eq_getElem?_getD, h]
    rfl
  have t := tot_ok P nd hj
  rw [e1, e2] at t
  exact Cg.iff.mp ((ev_can p _ _).trans ((ev_x _ (Cg.mod p d.1).symm).trans t))
theorem if_kept {K : PySem.W.Frag} {a0 a1 a2 a3 a5 a6 a7 a8 a9 a10 a11 a12 : Option V} {D : Addr} {H : Hp} {qs : List Addr} {ds : List (Int × Int)} {tt tu tv : TS} {DD : Ends} {tm : TE} (hD : H D = some (.lst (qs.map V.ref))) (lq : qs.length = ds.length)
    (dots : ∀ (i : Nat) (q : Addr) (d : Int × Int), qs[i]? = some q → ds[i]? = some d → DotC H q d) (hl : ds.length ≤ 7) (k : ∀ (M : Addr) (H' : Hp), Same H H' → KpAt H' M ds → tm [a0, a1, a2, a3, some (.ref D), a5, a6, a7, a8, a9, a10, a11, a12] H' fun y H2 => rNeD K (.ref M) y H2 fun x H3 => ∃ c, x = .bl c ∧ if c = true then tt { DD with nx := fun σ H => tv DD σ H } [a0, a1, a2, a3, some (.ref D), a5, a6, a7, a8, a9, a10, a11, a12] H3 else tu { DD with nx := fun σ H => tv DD σ H } [a0, a1, a2, a3, some (.ref D), a5, a6, a7, a8, a9, a10, a11, a12] H3) :
    tSeq (tIfS (tTest (tOp (rNeD K) (tLc (iList K (tVar 4)) (gName 9) tYes (tTup (tCons (tOp (rIx K) (tVar 9) (tC (.int 0))) (tCons (tOp (rIx K) (tVar 9) (tC (.int 1))) tNil))) [9]) tm)) tt tu) tv DD [a0, a1, a2, a3, some (.ref D), a5, a6, a7, a8, a9, a10, a11, a12] H := by
  have := lc_kept (K := K) (a0 := a0) (a1 := a1) (a2 := a2) (a3 := a3) (a5 := a5) (a6 := a6) (a7 := a7) (a8 := a8) (a9 := a9) (a10 := a10) (a11 := a11) (a12 := a12) (Q := fun x1 H1 => tm [a0, a1, a2, a3, some (.ref D), a5, a6, a7, a8, a9, a10, a11, a12] H1 fun y H2 => rNeD K x1 y H2 fun x H3 => ∃ c, x = .bl c ∧ if c = true then tt { DD with nx := fun σ H => tv DD σ H } [a0, a1, a2, a3, some (.ref D), a5, a6, a7, a8, a9, a10, a11, a12] H3 else tu { DD with nx := fun σ H => tv DD σ H } [a0, a1, a2, a3, some (.ref D), a5, a6, a7, a8, a9, a10, a11, a12] H3) hD lq dots hl (fun M H' g _ kp => k M H' g kp)
  exact this
theorem len_of_sub : ∀ (l D : List Int), l.Nodup → (∀ x ∈ l, x ∈ D) → l.length ≤ D.length
  | [], _, _, _ => Nat.zero_le _
  | x :: l, D, hn, hs => by
    obtain ⟨h1, h2⟩ := List.nodup_cons.mp hn
    have hx : x ∈ D := hs x List.mem_cons_self
    have ih := len_of_sub l (D.erase x) h2 fun y hy =>
      (List.mem_erase_of_ne (fun e : y = x => h1 (e ▸ hy))).2 (hs y (List.mem_cons_of_mem _ hy))
    have e := List.length_erase_of_mem hx
    have hp : 0 < D.length := List.length_pos_of_mem hx
    rw [List.length_cons]
    omega
/-- the walk to a free place -/
def Wk (p s0 : Int) (pool : List Int) (j : Nat) (s : Int) : Prop := s ∉ pool ∨ (s = (s0 + j) % p ∧ ∀ i, i < j → (s0 + i) % p ∈ pool)
theorem wk_turn {p s0 s : Int} {pool : List Int} {j : Nat} (h : Wk p s0 pool j s) (hs : s ∈ pool) : Wk p s0 pool (j + 1) ((s + 1) % p) := by
  rcases h with h | ⟨e, h⟩
  · exact absurd hs h
  · refine .inr ⟨?_, fun i hi => ?_⟩
    · rw [e]
      refine Cg.iff.mp (((Cg.mod p _).add (Cg.refl p 1)).trans (Cg.of_eq ?_))
      omega
    · by_cases c : i < j
      · exact h i c
      · have : i = j := by omega
        rw [this, ← e]
        exact hs
theorem wk_stay {p s0 s : Int} {pool : List Int} {j : Nat} (hs : s ∉ pool) : Wk p s0 pool (j + 1) s := .inl hs
theorem wk_end {p s0 s : Int} {pool : List Int} {n : Nat} (h : Wk p s0 pool n s) (hl : pool.length < n) (hn : (n : Int) ≤ p) : s ∉ pool := by
  rcases h with h | ⟨_, h⟩
  · exact h
  · exfalso
    have q := len_of_sub ((List.range n).map fun i => (s0 + (i : Nat)) % p) pool ?_ ?_
    · rw [List.length_map, List.length_range] at q
      omega
    · refine List.pairwise_map.mpr (List.Pairwise.imp_of_mem (R := fun a b => a < b) ?_ List.pairwise_lt_range)
      intro a c ha hc hac e
      have ha' := List.mem_range.mp ha
      have hc' := List.mem_range.mp hc
      obtain ⟨k, hk⟩ := Cg.iff.mpr e
      have hk2 : (a : Int) - c = p * k := by omega
      have k0 : k ≠ 0 := fun z => by
        rw [z] at hk2
        omega
      have hp : 0 < p := by omega
      rcases Int.lt_or_gt_of_ne k0 with z | z
      · have : p * k ≤ p * (-1) := Int.mul_le_mul_of_nonneg_left (by omega) (by omega)
        omega
      · have : p * 1 ≤ p * k := Int.mul_le_mul_of_nonneg_left (by omega) (by omega)
        omega
    · intro x hx
      obtain ⟨i, hi, rfl⟩ := List.mem_map.mp hx
      exact h i (List.mem_range.mp hi)
theorem inV_i (x : Int) (l : List Int) : inV (.int x) (l.map V.int) = decide (x ∈ l) := by
  unfold inV
  induction l with
  | nil => rfl
  | cons a l ih =>
    rw [List.map_cons, List.any_cons, ih]
    show (eqV (.int a) (.int x) || _) = _
    by_cases h : a = x
    · subst h
      simp [eqV]
    · have h2 : ¬ x = a := fun z => h z.symm
      simp [eqV, h, h2]
theorem flat_i (l : List Int) : (l.map V.int).all flatV = true := by
  induction l with
  | nil => rfl
  | cons a l ih => rw [List.map_cons, List.all_cons, ih]; rfl
section
variable {P : Program} {w : World} {K : PySem.W.Frag} {mg : Str → Option Value} {base : Heap}
theorem ok_line (T : Txt K mg) : FnOk P w K mg base CX0 10 T.f_line T.fd_line ["box", "prime"] (spLine) := by
  refine T.F_line.ok sc_line (fun vs H Q E h => ?_) (fun cdv A outer s H vs Q E hr h => ?_)
  · obtain ⟨b, p, rfl, _⟩ := h
    rfl
  · obtain ⟨b, p, rfl, hB, hp, k⟩ := h
    have P1 := prm_all p hp
    have pb := primes_lt p hp
    have p0 : 0 < p := by omega
    refine ⟨_, (pss_cons (ps_par3 (i := 2) (j := 3) (l := 4) (by rfl) sc_line.nd rfl rfl rfl (by decide) (by decide) (by decide) rfl rfl rfl (pa_cons (pe_callB (call_min2 rfl) (by rfl) T.z_min (by decide +kernel) (pa_cons (pe_call (ok_draw T) (hr.mono (by decide)) (by rfl) T.g_draw T.F_draw.kp T.b_draw .nil pass0 (pa_cons (pv 0) (pa_cons pe_int pa_nil))) (pa_cons (pv 1) pa_nil))) (pa_cons (pe_lst pa_nil) (pa_cons (pe_lst pa_nil) pa_nil))) (by rfl))
      (C8.pss_cut (ps_for PassesOwn.never rfl (pi_range1 (by rfl) T.z_range (pa_cons (pv 2) pa_nil)) (pg_name (i := 5) sc_line.nd rfl (Or.inl rfl)) (pss_cons (ps_set (i := 6) sc_line.nd rfl (Or.inl rfl) (pe_call (ok_draw T) (hr.mono (by decide)) (by rfl) T.g_draw T.F_draw.kp T.b_draw .nil pass0 (pa_cons (pv 0) (pa_cons (pv 1) pa_nil))))
      (C8.pss_cut (ps_for PassesOwn.never rfl (pi_range1 (by rfl) T.z_range (pa_cons (pv 2) pa_nil)) (pg_name (i := 7) sc_line.nd rfl (Or.inl rfl)) (pss_one (ps_if (pt_cmpR op_in_seq (pv 6) (pv 3) (by rfl)) (pss_one (ps_set (i := 6) sc_line.nd rfl (Or.inl rfl) (pe_op op_mod (pe_callTy call_int1 (by rfl) T.z_int (by decide +kernel) (pa_cons (pe_op op_add (pv 6) pe_int) pa_nil)) (pv 1)))) pss_nil)))
      (pss_cons (ps_expr (pe_bm PySem.F.plainAttrs_list PySem.F.slot_list_append PySem.F.type_list_append mt_append (pv 3) (pa_cons (pv 6) pa_nil)))
      (C8.pss_cut (ps_if (pt_cmpR op_lt (pv 1) (pe_op op_pow pe_int pe_int) (nomark _)) (pss_one (ps_set (i := 6) sc_line.nd rfl (Or.inl rfl) (pe_op op_add (pv 6) (pe_op op_mul (pv 1) (pe_op op_sub (pe_call (ok_draw T) (hr.mono (by decide)) (by rfl) T.g_draw T.F_draw.kp T.b_draw .nil pass0 (pa_cons (pv 0) (pa_cons pe_int pa_nil))) pe_int))))) pss_nil)
      (pss_cons (ps_set (i := 8) sc_line.nd rfl (Or.inl rfl) (pe_call (ok_number T) (hr.mono (by decide)) (by rfl) T.g_number T.F_number.kp T.b_number .nil pass0 (pa_cons (pv 0) (pa_cons (pv 1) pa_nil))))
      (pss_one (ps_expr (pe_bm PySem.F.plainAttrs_list PySem.F.slot_list_append PySem.F.type_list_append mt_append (pv 4) (pa_cons (pe_ifExp (pt_cmpR op_eq (pe_call (ok_draw T) (hr.mono (by decide)) (by rfl) T.g_draw T.F_draw.kp T.b_draw .nil pass0 (pa_cons (pv 0) (pa_cons pe_int pa_nil))) pe_int (nomark _)) (pe_lst (pa_cons (pv 6) (pa_cons (pv 8) pa_nil))) (pe_tup (pa_cons (pv 6) (pa_cons (pv 8) pa_nil)))) pa_nil))))))))))
      (C8.pss_cut (ps_setLc (i := 10) (own := [("dot", 9)]) (g := gName 9) (tt := tYes) (te := (tTup (tCons (tOp (rIx K) (tVar 9) (tC (.int 0))) (tCons (tOp (rIx K) (tVar 9) (tC (.int 1))) tNil)))) (by rfl) sc_line.nd rfl rfl (sw_true rfl rfl rfl (by decide +kernel)) (pi_list (pv 4)) (blkOk_by (own := [("dot", 9)]) (N := ["box", "prime", "many", "pool", "dots", "k", "spot", "step", "height", "dot", "kept", "told", "coefs"]) (sc := defScope s_line) (by decide +kernel)) (fun _ _ _ _ _ => (pg_name (i := 9) sc_line.nd rfl (Or.inl rfl))) (fun _ _ _ _ _ => pts_nil) (fun _ _ _ _ _ => (pe_tup (pa_cons (pe_ix ix_seq (pv 9) pe_int (fun _ _ => rfl)) (pa_cons (pe_ix ix_seq (pv 9) pe_int (fun _ _ => rfl)) pa_nil)))))
      (C8.pss_cut (ps_if (pt_cmpR op_eq (pe_call (ok_draw T) (hr.mono (by decide)) (by rfl) T.g_draw T.F_draw.kp T.b_draw .nil pass0 (pa_cons (pv 0) (pa_cons pe_int pa_nil))) pe_int (nomark _)) (pss_one (ps_set (i := 11) sc_line.nd rfl (Or.inl rfl) (OV.pe_st (pe_glob (v := .ref T.C_Poly) (by rfl) T.gC_Poly rfl) T.st (ok_m_through T) (hr.mono (by decide)) T.kbt1 pass0 (pa_cons (pv 4) pa_nil) (pk_cons (pv 1) pk_nil)))) (pss_one (ps_set (i := 11) sc_line.nd rfl (Or.inl rfl) (OV.pe_st0 (pe_glob (v := .ref T.C_Poly) (by rfl) T.gC_Poly rfl) T.st (ok_m_through T) (hr.mono (by decide)) T.kbt2 pass0 (pk_cons (pv 1) (pk_cons (pe_callTy call_tuple_of (by rfl) T.z_tuple (by decide +kernel) (pa_cons (pv 4) pa_nil)) pk_nil))))))
      (pss_cons (ps_if (pt_cmpR (op_neD hr.units) (pe_lc (own := [("dot", 9)]) (g := gName 9) (tt := tYes) (te := (tTup (tCons (tOp (rIx K) (tVar 9) (tC (.int 0))) (tCons (tOp (rIx K) (tVar 9) (tC (.int 1))) tNil)))) (by rfl) sc_line.nd (pi_list (pv 4)) (blkOk_by (own := [("dot", 9)]) (N := ["box", "prime", "many", "pool", "dots", "k", "spot", "step", "height", "dot", "kept", "told", "coefs"]) (sc := defScope s_line) (by decide +kernel)) (fun _ _ _ _ _ => (pg_name (i := 9) sc_line.nd rfl (Or.inl rfl))) (fun _ _ _ _ _ => pts_nil) (fun _ _ _ _ _ => (pe_tup (pa_cons (pe_ix ix_seq (pv 9) pe_int (fun _ _ => rfl)) (pa_cons (pe_ix ix_seq (pv 9) pe_int (fun _ _ => rfl)) pa_nil))))) (pv 10) (nomark _)) (pss_one (ps_ret pe_bl)) pss_nil)
      (pss_cons (ps_if (PW.pt (pw_or (pt_not (pt_val (pe_callB call_isi (by rfl) T.z_isinstance (by decide +kernel) (pa_cons (pv 11) (pa_cons (pe_glob (v := .ref T.C_Poly) (by rfl) T.gC_Poly rfl) pa_nil))))) (pw_or (pt_not (pt_val (pe_callB call_isi (by rfl) T.z_isinstance (by decide +kernel) (pa_cons (pe_fld (pv 11) rfl) (pa_cons (pe_bltn (v := .ty "tuple") (by rfl) T.z_tuple (by decide +kernel) rfl) pa_nil))))) (pw_or1 (pt_cmpR op_gt (pe_callB call_len_seq (by rfl) T.z_len PySem.boot_len (pa_cons (pe_fld (pv 11) rfl) pa_nil)) (pv 2) (nomark _)))))) (pss_one (ps_ret pe_bl)) pss_nil)
      (pss_cons (ps_set (i := 12) sc_line.nd rfl (Or.inr rfl) (pe_call (ok_trim T) (hr.mono (by decide)) (by rfl) T.g_trim T.F_trim.kp T.b_trim .nil pass0 (pa_cons (pe_callTy call_list_of (by rfl) T.z_list (by decide +kernel) (pa_cons (pe_fld (pv 11) rfl) pa_nil)) (pa_cons (pv 1) pa_nil))))
      (pss_cons (ps_if (pt_not (pt_val (pe_call (ok_is_poly T) (hr.mono (by decide)) (by rfl) T.g_is_poly T.F_is_poly.kp T.b_is_poly .nil pass0 (pa_cons (pv 11) (pa_cons (pv 12) (pa_cons (pv 1) pa_nil)))))) (pss_one (ps_ret pe_bl)) pss_nil)
      (pss_cons (ps_expr (pe_bm PySem.F.plainAttrs_list PySem.F.slot_list_append PySem.F.type_list_append mt_append (pv 4) (pa_cons (pe_tup (pa_cons pe_int (pa_cons pe_int pa_nil))) pa_nil)))
      (pss_one (ps_ret (pe_callB (cr_all rfl) (by rfl) T.z_all (by decide +kernel) (pa_cons (pe_lc (own := [("dot", 9)]) (g := gName 9) (tt := tYes) (te := (tOp rEq (tCall (spLEv K) [] E0 (tCons (tVar 12) (tCons (tOp (rIx K) (tVar 9) (tC (.int 0))) (tCons (tVar 1) tNil)))) (tOp (rI (fun _ j => 0 < j) fun i j => V.int (i % j)) (tCB (fun xs H Q => (∃ i, xs = [V.int i] ∧ Q (V.int i) H) ∨ ∃ k, xs = [V.bl k] ∧ Q (V.int (if k = true then 1 else 0)) H) (tCons (tOp (rIx K) (tVar 9) (tC (.int 1))) tNil)) (tVar 1)))) (by rfl) sc_line.nd (pi_list (pv 10)) (blkOk_by (own := [("dot", 9)]) (N := ["box", "prime", "many", "pool", "dots", "k", "spot", "step", "height", "dot", "kept", "told", "coefs"]) (sc := defScope s_line) (by decide +kernel)) (fun _ _ _ _ _ => (pg_name (i := 9) sc_line.nd rfl (Or.inl rfl))) (fun _ _ _ _ _ => pts_nil) (fun _ _ _ _ _ => (pe_cmpR op_eq (pe_call (ok_worth T) (hr.mono (by decide)) (by rfl) T.g_worth T.F_worth.kp T.b_worth .nil pass0 (pa_cons (pv 12) (pa_cons (pe_ix ix_seq (pv 9) pe_int (fun _ _ => rfl)) (pa_cons (pv 1) pa_nil)))) (pe_op op_mod (pe_callTy call_int1 (by rfl) T.z_int (by decide +kernel) (pa_cons (pe_ix ix_seq (pv 9) pe_int (fun _ _ => rfl)) pa_nil)) (pv 1)) (nomark _)))) pa_nil))))))))))))), ?_⟩
    refine ⟨_, rfl, b, 7, rfl, by decide, by decide, hB, fun d H1 d0 d1 hB1 hK1 => ⟨_, rfl, _, _, rfl, ?_⟩⟩
    obtain ⟨n, en, n7, np⟩ : ∃ n : Nat, (if p < d then p else d) = (n : Int) ∧ n ≤ 7 ∧ (n : Int) ≤ p := by
      split
      · exact ⟨p.toNat, by omega, by omega, by omega⟩
      · exact ⟨d.toNat, by omega, by omega, by omega⟩
    simp only [en]
    clear en
    refine ⟨(by show 0 ≤ sizeLine; decide), fun P hP => ⟨(by show 0 ≤ sizeLine; decide), fun D hD => ⟨_, _, _, rfl, ?_⟩⟩⟩
    have nP : P ≠ b := hB1.ne hP
    have gP := same_new hP (.lst [])
    have gD := same_new hD (.lst [])
    have hD1 : H1 D = none := none_of gP hD
    have nDP : D ≠ P := fun z => by
      rw [z, upd_same] at hD
      cases hD
    have nD : D ≠ b := hB1.ne hD1
    have eP : upd (upd H1 P (.lst [])) D (.lst []) P = some (.lst []) := gD _ _ upd_same
    have eD : upd (upd H1 P (.lst [])) D (.lst []) D = some (.lst []) := upd_same
    have gPD := gP.trans gD
    generalize upd (upd H1 P (.lst [])) D (.lst []) = H2 at gPD eP eD ⊢
    clear gP gD hD
    refine ⟨fun σ' H' => ∃ (v5 v6 v7 v8 v9 v10 v11 v12 : Option V) (pool : List Int) (qs : List Addr) (ds : List (Int × Int)), σ' = [some (.ref b), some (.int p), some (.int (n : Nat)), some (.ref P), some (.ref D), v5, v6, v7, v8, v9, v10, v11, v12] ∧ LnI b P D H' pool qs ds ∧ pool = rts p ds ∧ pool.Nodup ∧ ds.length = n ∧ BoxAt H' b ∧ Keep b H1 H', ?_, ?_⟩
    · refine ⟨_, rfl, (n : Nat), rfl, by omega, by omega, for_range (lo := 0) (n := n) (fun i σ' H' => ∃ (v5 v6 v7 v8 v9 v10 v11 v12 : Option V) (pool : List Int) (qs : List Addr) (ds : List (Int × Int)), σ' = [some (.ref b), some (.int p), some (.int (n : Nat)), some (.ref P), some (.ref D), v5, v6, v7, v8, v9, v10, v11, v12] ∧ LnI b P D H' pool qs ds ∧ pool = rts p ds ∧ pool.Nodup ∧ ds.length = i ∧ BoxAt H' b ∧ Keep b H1 H')
        ⟨_, _, _, _, _, _, _, _, [], [], [], rfl, ⟨eP, eD, rfl, fun i q d a => by cases a⟩, rfl, List.nodup_nil, rfl, hB1.same gPD, Keep.of_same gPD⟩ ?_ (fun _ _ h => h)⟩
      rintro i σ' H3 hi ⟨v5, v6, v7, v8, v9, v10, v11, v12, pool, qs, ds, rfl, L, Lp, Ln, li, hB3, hK3⟩
      clear eP eD gPD
      refine ⟨_, rfl, _, rfl, b, p, rfl, p0, by omega, hB3, fun s0 H4 s00 s01 hB4 hK4 => ?_⟩
      replace L := L.keep nP nD hK4
      replace hK4 := hK3.trans hK4
      have lpool : pool.length = i := by
        rw [Lp]
        unfold rts
        rw [List.length_map, li]
      refine ⟨fun σ' H' => ∃ (s : Int) (v7 : Option V), σ' = [some (.ref b), some (.int p), some (.int (n : Nat)), some (.ref P), some (.ref D), some (.int (0 + (i : Nat))), some (.int s), v7, v8, v9, v10, v11, v12] ∧ H' = H4 ∧ 0 ≤ s ∧ s < p ∧ s ∉ pool, ?_, ?_⟩
      · refine ⟨_, rfl, (n : Nat), rfl, by omega, by omega, for_range (lo := 0) (n := n) (fun j σ' H' => ∃ (s : Int) (v7 : Option V), σ' = [some (.ref b), some (.int p), some (.int (n : Nat)), some (.ref P), some (.ref D), some (.int (0 + (i : Nat))), some (.int s), v7, v8, v9, v10, v11, v12] ∧ H' = H4 ∧ 0 ≤ s ∧ s < p ∧ Wk p s0 pool j s)
          ⟨s0, _, rfl, rfl, s00, s01, .inr ⟨by rw [Int.emod_eq_of_lt (by omega) (by omega)]; omega, fun k h => absurd h (Nat.not_lt_zero _)⟩⟩ ?_ ?_⟩
        · rintro j σ' _ hj ⟨s, v7, rfl, rfl, a0, a1, wk⟩
          refine ⟨_, rfl, _, rfl, P, pool.map V.int, rfl, .inl (SqL.of L.pP), rfl, flat_i _, _, rfl, ?_⟩
          simp only [inV_i]
          by_cases hs : s ∈ pool
          · rw [if_pos (by simpa using hs)]
            refine ⟨_, rfl, _, _, rfl, rfl, .inl ⟨_, rfl, _, rfl, _, _, rfl, rfl, p0, ?_⟩⟩
            exact ⟨_, _, rfl, rfl, Int.emod_nonneg _ (by omega), Int.emod_lt_of_pos _ p0, wk_turn wk hs⟩
          · rw [if_neg (by simpa using hs)]
            exact ⟨_, _, rfl, rfl, a0, a1, wk_stay hs⟩
        · rintro σ' _ ⟨s, v7, rfl, rfl, a0, a1, wk⟩
          exact ⟨_, _, rfl, rfl, a0, a1, wk_end wk (by omega) np⟩
      rintro σ' Hy ⟨s, v7, rfl, e4, s0', s1', hs⟩
      subst Hy
      refine ⟨_, rfl, .inl ⟨rfl, _, SqL.of L.pP⟩, _, rfl, P, pool.map V.int, _, rfl, rfl, L.pP, ?_, ?_⟩
      · rw [List.length_map]
        exact small1000 (by omega)
      have L5 := L.pool nDP s
      have hB5 := BoxAt.upd (o := .lst (pool.map V.int ++ [.int s])) hB1 hP hK4 hB4
      have hK5 := Keep.at (o := .lst (pool.map V.int ++ [.int s])) hP nP hK4
      generalize upd H4 P (.lst (pool.map V.int ++ [.int s])) = H5 at L5 hB5 hK5 ⊢
      refine ⟨fun σ' H' => ∃ (s' : Int), σ' = [some (.ref b), some (.int p), some (.int (n : Nat)), some (.ref P), some (.ref D), some (.int (0 + (i : Nat))), some (.int s'), v7, v8, v9, v10, v11, v12] ∧ s' % p = s ∧ BoxAt H' b ∧ Keep b H5 H', ?_, ?_⟩
      · have cp : CPow 10 9 := ⟨by decide, by decide, by decide⟩
        refine ⟨_, rfl, _, _, rfl, rfl, cp, _, _, rfl, rfl, _, rfl, ?_⟩
        have sp : s % p = s := Int.emod_eq_of_lt s0' s1'
        show ite _ _ _
        split
        · rename_i hpp
          have hpp : p < 10 ^ 9 := of_decide_eq_true hpp
          refine ⟨_, rfl, _, rfl, _, rfl, b, 4, rfl, by decide, by decide, hB5, fun e H6 e0 e1 hB6 hK6 => ⟨_, _, rfl, rfl, _, _, rfl, rfl, .inl ⟨by omega, by omega⟩, _, _, rfl, rfl, _, rfl, ?_, hB6, hK6⟩⟩
          rw [Int.add_mul_emod_self_left]
          exact sp
        · exact ⟨_, rfl, sp, hB5, Keep.refl⟩
      rintro σ' H6 ⟨s', rfl, es, hB6, hK6⟩
      refine ⟨_, rfl, _, rfl, b, p, rfl, hB6, p0, by omega, fun h H7 h0 h1 hB7 hK7 => ?_⟩
      have L7 := (L5.keep nP nD hK6).keep nP nD hK7
      refine ⟨_, rfl, .inl ⟨rfl, _, SqL.of L7.pD⟩, _, rfl, b, 4, rfl, by decide, by decide, hB7, fun f H8 f0 f1 hB8 hK8 => ⟨rfl, _, rfl, ?_⟩⟩
      have L8 := L7.keep nP nD hK8
      have hK18 := hK5.trans (hK6.trans (hK7.trans hK8))
      clear L L5 L7 hK4 hK5 hK6 hK7 hK8
      have fin : ∀ (o : HO) (q : Addr), H8 q = none → (o = .lst [.int s', .int h] ∨ o = .tup [.int s', .int h]) → ∃ (w5 w6 w7 w8 w9 w10 w11 w12 : Option V) (pool : List Int) (qs' : List Addr) (ds : List (Int × Int)), [some (.ref b), some (.int p), some (.int (n : Nat)), some (.ref P), some (.ref D), some (.int (0 + (i : Nat))), some (.int s'), v7, some (.int h), v9, v10, v11, v12] = [some (.ref b), some (.int p), some (.int (n : Nat)), some (.ref P), some (.ref D), w5, w6, w7, w8, w9, w10, w11, w12] ∧ LnI b P D (upd (upd H8 q o) D (.lst (qs.map V.ref ++ [.ref q]))) pool qs' ds ∧ pool = rts p ds ∧ pool.Nodup ∧ ds.length = i + 1 ∧ BoxAt (upd (upd H8 q o) D (.lst (qs.map V.ref ++ [.ref q]))) b ∧ Keep b H1 (upd (upd H8 q o) D (.lst (qs.map V.ref ++ [.ref q]))) := fun o q hq ho => by
        have gq := same_new hq o
        have hK9 := hK18.trans (Keep.of_same gq)
        refine ⟨_, _, _, _, _, _, _, _, _, _, ds ++ [(s', h)], rfl, L8.dot (d := (s', h)) nDP hB8 hq ho, ?_, ?_, ?_, BoxAt.upd hB1 hD1 hK9 (hB8.same gq), Keep.at hD1 nD hK9⟩
        · rw [Lp]
          unfold rts
          rw [List.map_append]
          show _ = _ ++ [s' % p]
          rw [es]
        · refine List.nodup_append.mpr ⟨Ln, List.pairwise_singleton _ _, fun a ha c hc z => ?_⟩
          rw [List.mem_singleton.mp hc] at z
          exact hs (z ▸ ha)
        · rw [List.length_append, li]
          rfl
      have lqs : (qs.map V.ref).length < sizeLine := by
        rw [List.length_map, L8.lq]
        exact small1000 (by omega)
      show ite _ _ _
      split
      · refine ⟨_, rfl, _, rfl, (by show 2 ≤ sizeLine; decide), fun q hq => ⟨D, _, _, rfl, rfl, (same_new hq _) _ _ L8.pD, lqs, fin _ q hq (.inl rfl)⟩⟩
      · refine ⟨_, rfl, _, rfl, (by show 2 ≤ sizeLine; decide), fun q hq => ⟨D, _, _, rfl, rfl, (same_new hq _) _ _ L8.pD, lqs, fin _ q hq (.inr rfl)⟩⟩
    rintro σ' H3 ⟨v5, v6, v7, v8, v9, v10, v11, v12, pool, qs, ds, rfl, L, Lp, Ln, ld, hB3, hK3⟩
    clear eP eD gPD
    have dts : ∀ (i : Nat) (q : Addr) (d : Int × Int), qs[i]? = some q → ds[i]? = some d → DotC H3 q d := fun i q d a c => (L.dots i q d a c).1
    have nd : (rts p ds).Nodup := Lp ▸ Ln
    refine ⟨fun σ' H' => ∃ (M : Addr), σ' = [some (.ref b), some (.int p), some (.int (n : Nat)), some (.ref P), some (.ref D), v5, v6, v7, v8, v9, some (.ref M), v11, v12] ∧ Same H3 H' ∧ M ≠ b ∧ M ≠ D ∧ KpAt H' M ds, lc_kept L.pD L.lq dts (by omega) (fun M H' g hM kp => ⟨M, rfl, g, hB3.ne hM, (fun z => by rw [z, L.pD] at hM; cases hM), kp⟩), ?_⟩
    rintro σ' H4 ⟨M, rfl, g4, nM, nMD, kp⟩
    have hB4 := hB3.same g4
    have hK4 := hK3.trans (Keep.of_same g4)
    replace L := L.keep nP nD (Keep.of_same g4)
    clear dts
    refine ⟨fun σ' H' => ∃ (x : Addr), σ' = [some (.ref b), some (.int p), some (.int (n : Nat)), some (.ref P), some (.ref D), v5, v6, v7, v8, v9, some (.ref M), some (.ref x), v12] ∧ BoxAt H' b ∧ Keep b H4 H' ∧ PolyAt T H' x (can p (tot p ds ds.length)) p, ?_, ?_⟩
    · refine ⟨_, rfl, b, 2, rfl, by decide, by decide, hB4, fun e H5 e0 e1 hB5 hK5 => ⟨rfl, _, rfl, ?_⟩⟩
      have L5 := L.keep nP nD hK5
      have dt5 : DotsAt K H5 qs ds := ⟨L5.lq, fun i q d a c => (L5.dots i q d a c).1.elim (fun h => .inl (SqL.of h)) (fun h => .inr (SqT.of h))⟩
      show ite _ _ _
      split
      · refine ⟨rfl, _, rfl, _, rfl, rfl, rfl, D, qs, ds, p, rfl, .inl (SqL.of L5.pD), dt5, P1, by omega, by omega, fun i hi => prt_self P1 nd hi, fun x H' g hx pa => ⟨x, rfl, hB5.same g, hK5.trans (Keep.of_same g), pa⟩⟩
      · refine ⟨rfl, _, rfl, _, rfl, D, _, rfl, .inl ⟨SqL.of L5.pD, fun l hl => ?_⟩⟩
        have gl := same_new hl (.tup (qs.map V.ref))
        refine ⟨rfl, rfl, l, qs, ds, p, rfl, .inr (SqT.of upd_same), dt5.same gl, P1, by omega, by omega, fun i hi => prt_self P1 nd hi, fun x H' g hx pa => ⟨x, rfl, (hB5.same gl).same g, hK5.trans (Keep.of_same (gl.trans g)), pa⟩⟩
    rintro σ' H6 ⟨x, rfl, hB6, hK6, pa⟩
    replace L := L.keep nP nD hK6
    replace kp := kp.keep nM hB4 hK6
    replace hK6 := hK4.trans hK6
    clear hK3 hK4 hB3 hB4 g4
    refine if_kept (K := K) L.pD L.lq (fun i q d a c => (L.dots i q d a c).1) (by omega) (fun M2 H7 g7 kp2 => ?_)
    replace L := L.keep nP nD (Keep.of_same g7)
    replace kp := kp.same g7
    replace pa := pa.same g7
    have hB7 := hB6.same g7
    have hK7 := hK6.trans (Keep.of_same g7)
    clear hB6 hK6 g7
    refine ⟨_, rfl, _, _, kp2.dp, kp.dp, shP ds, shP ds, _, rfl, ?_⟩
    rw [eqP]
    refine iteF ?_
    obtain ⟨d', t, h1, h2⟩ := id pa
    refine ⟨_, rfl, _, _, _, _, _, rfl, .own _, tyP T pa, T.kk, _, rfl, iteF ?_⟩
    have kt : PySem.W.kitOne K (.type "tuple") (.type "tuple") = some true := rfl
    refine ⟨_, rfl, x, _, d', _, _, rfl, h1, T.cl, T.n_coefficients, rfl, _, _, _, _, _, rfl, .ty _, kdT h2, kt, _, rfl, iteF ?_⟩
    have lt := tot_len p ds ds.length
    have lc := can_len p (tot p ds ds.length)
    generalize ec : can p (tot p ds ds.length) = cs at pa h2 lc
    have cc : can p cs = cs := by
      rw [← ec, can_can]
    refine ⟨_, rfl, x, _, d', _, _, rfl, h1, T.cl, T.n_coefficients, rfl, t, _, rfl, .inr h2, _, rfl, _, _, rfl, rfl, _, rfl, ?_⟩
    rw [decide_eq_false (by rw [List.length_map]; omega)]
    refine iteF ?_
    refine ⟨_, rfl, x, _, d', _, _, rfl, h1, T.cl, T.n_coefficients, rfl, t, _, rfl, .inr h2, fun l hl => ?_⟩
    have gl := same_new hl (.lst (cs.map V.int))
    refine ⟨_, rfl, l, cs, p, rfl, SqL.of upd_same, p0, by omega, fun C H8 g8 hC eC => ?_⟩
    rw [cc] at eC
    have nCD : C ≠ D := fun z => by
      rw [z, gl _ _ L.pD] at hC
      cases hC
    replace g8 := gl.trans g8
    clear gl hC hl
    refine ⟨_, rfl, _, rfl, _, rfl, x, C, cs, p, rfl, pa.same g8, SqL.of eC, by omega, fun H9 g9 => ⟨_, rfl, iteF ?_⟩⟩
    replace g8 := g8.trans g9
    have L9 := L.keep nP nD (Keep.of_same g8)
    have kp9 := kp.same g8
    have hB9 := hB7.same g8
    have hK9 := hK7.trans (Keep.of_same g8)
    have eC9 := g9 _ _ eC
    have lqs : (qs.map V.ref).length < sizeLine := by
      rw [List.length_map, L.lq]
      exact small1000 (by omega)
    clear g8 g9 eC kp hB7 hK7 L pa h1 h2 kp2
    refine ⟨_, rfl, .inl ⟨rfl, _, SqL.of L9.pD⟩, (by show 2 ≤ sizeLine; decide), fun q hq => ⟨D, _, _, rfl, rfl, (same_new hq _) _ _ L9.pD, lqs, ?_⟩⟩
    have gq := same_new hq (.tup [.int 0, .int 1])
    have kpA := (kp9.same gq).updL (o := .lst (qs.map V.ref ++ [.ref q])) (gq _ _ L9.pD) nMD
    have eCA : upd (upd H9 q (.tup [.int 0, .int 1])) D (.lst (qs.map V.ref ++ [.ref q])) C = some (.lst (cs.map V.int)) := by
      rw [upd_ne nCD]
      exact gq _ _ eC9
    have hKq := hK9.trans (Keep.of_same gq)
    have hBA := BoxAt.upd (o := .lst (qs.map V.ref ++ [.ref q])) hB1 hD1 hKq (hB9.same gq)
    have hKA := Keep.at (o := .lst (qs.map V.ref ++ [.ref q])) hD1 nD hKq
    generalize upd (upd H9 q (.tup [.int 0, .int 1])) D (.lst (qs.map V.ref ++ [.ref q])) = HA at kpA eCA hBA hKA ⊢
    obtain ⟨ts, m1, m2, m3⟩ := kpA
    refine ⟨_, rfl, M, rfl, ⟨_, SqL.of m1⟩, fun B hB0 => lc_list (K := K) (a := M) (xs := ts.map V.ref) (fun i Hx => Same HA Hx ∧ Hx B = some (.lst ((List.replicate i true).map V.bl))) ⟨same_new hB0 _, upd_same⟩ (fun i Hx _ ⟨gs, _⟩ => SqL.of (gs _ _ m1)) ?_ ?_⟩
    · rintro j z Hx hj ⟨gs, eB⟩
      obtain ⟨u, hu, rfl⟩ := at_ref hj
      obtain ⟨e, he⟩ := dot_at m2 hu
      have jl : j < ds.length := (List.getElem?_eq_some_iff.mp he).1
      have dc : DotC Hx u e := .inr (gs _ _ (m3 j u e hu he))
      refine ⟨rfl, _, rfl, _, rfl, ix_dot0 dc ⟨_, rfl, C, cs, e.1, p, rfl, SqL.of (gs _ _ eCA), pb.1, by omega, by omega, fun Hy gy => ⟨_, rfl, ix_dot1 (dc.same gy) (.inl ⟨_, rfl, _, rfl, _, _, rfl, rfl, p0, rfl, _, gy _ _ eB, ?_, same_upd hB0 (gs.trans gy), ?_⟩)⟩⟩⟩
      · rw [List.length_map, List.length_replicate]
        exact small1000 (by omega)
      · have dk := dot_ok P1 nd he
        rw [ec] at dk
        rw [upd_same, dk, decide_eq_true rfl, List.replicate_succ', List.map_append]
        rfl
    rintro Hx ⟨gs, eB⟩
    refine ⟨B, List.replicate _ true, rfl, SqL.of eB, ?_⟩
    rw [all_rep]
    exact k Hx (hBA.same gs) (hK1.trans (hKA.trans (Keep.of_same gs)))
end
end K0

set_option maxRecDepth 100000
set_option maxHeartbeats 4000000
namespace K0
open PySem L2 K1

def spLaw (K : PySem.W.Frag) : Sp := fun vs H Q _ => ∃ (a : Addr) (ns : List Int), vs = [.ref a] ∧ SqL K H a (ns.map V.int) ∧ ns.length ≤ 63 ∧ ∀ H', Q (.bl true) H'
theorem cut_ints2 (ns : List Int) (lo hi : Option Int) : ∃ ns' : List Int, cutV (ns.map V.int) lo hi = ns'.map V.int ∧ ns'.length ≤ ns.length ∧ ∀ z ∈ ns', z ∈ ns := by
  refine ⟨(ns.drop (HT.sIx (ns.map V.int).length 0 lo)).take (HT.sIx (ns.map V.int).length (ns.map V.int).length hi - HT.sIx (ns.map V.int).length 0 lo), ?_, ?_, fun z hz => List.mem_of_mem_drop (List.mem_of_mem_take hz)⟩
  · unfold cutV
    rw [List.map_take, List.map_drop]
  · rw [List.length_take, List.length_drop]
    omega
theorem can_sw {p : Int} {ds : List Int} (p0 : 0 < p) (p1 : p < 18446744073709551616) (h : can p ds = ds) : Sw ds := fun z hz => by
  have := can_sm p0 p1 h z hz
  omega
/-- what stands when all is drawn -/
structure LwI {K : PySem.W.Frag} {mg : Str → Option Value} (T : Txt K mg) (b : Addr) (p : Int) (x y f s : Addr) (cs ds : List Int) (H : Hp) : Prop where
  hB : BoxAt H b
  px : PolyAt T H x cs p
  py : PolyAt T H y ds p
  nf : f ≠ b
  ns : s ≠ b
  hf : H f = some (.lst (cs.map V.int))
  hs : H s = some (.lst (ds.map V.int))
theorem LwI.keep {K : PySem.W.Frag} {mg : Str → Option Value} {T : Txt K mg} {b : Addr} {p : Int} {x y f s : Addr} {cs ds : List Int} {H H' : Hp} (h : LwI T b p x y f s cs ds H) (hB : BoxAt H' b) (k : Keep b H H') : LwI T b p x y f s cs ds H' :=
  ⟨hB, h.px.keep h.hB k, h.py.keep h.hB k, h.nf, h.ns, k.1 _ _ h.nf h.hf, k.1 _ _ h.ns h.hs⟩
theorem LwI.same {K : PySem.W.Frag} {mg : Str → Option Value} {T : Txt K mg} {b : Addr} {p : Int} {x y f s : Addr} {cs ds : List Int} {H H' : Hp} (h : LwI T b p x y f s cs ds H) (g : Same H H') : LwI T b p x y f s cs ds H' := h.keep (h.hB.same g) (Keep.of_same g)
section
variable {P : Program} {w : World} {K : PySem.W.Frag} {mg : Str → Option Value} {base : Heap}
theorem ok_law (T : Txt K mg) : FnOk P w K mg base CX0 11 T.f_law T.fd_law ["script"] (spLaw K) := by
  refine T.F_law.ok sc_law (fun vs H Q E h => ?_) (fun cdv A outer s H vs Q E hr h => ?_)
  · obtain ⟨a, ns, rfl, _⟩ := h
    rfl
  · obtain ⟨a, ns, rfl, hS, h63, k⟩ := h
    refine ⟨_, (pss_cons (ps_set (i := 1) sc_law.nd rfl (Or.inl rfl) (pe_call (ok_box T) (hr.mono (by decide)) (by rfl) T.g_box T.F_box.kp T.b_box .nil pass0 (pa_cons (pv 0) pa_nil)))
      (pss_cons (ps_set (i := 2) sc_law.nd rfl (Or.inr rfl) (pe_call (ok_prime T) (hr.mono (by decide)) (by rfl) T.g_prime T.F_prime.kp T.b_prime .nil pass0 (pa_cons (pv 1) pa_nil)))
      (pss_cons (ps_par (i := 3) (j := 4) (by rfl) sc_law.nd rfl rfl (by decide) rfl rfl (pa_cons (pe_call (ok_coefs T) (hr.mono (by decide)) (by rfl) T.g_coefs T.F_coefs.kp T.b_coefs .nil pass0 (pa_cons (pv 1) (pa_cons (pv 2) pa_nil))) (pa_cons (pe_call (ok_coefs T) (hr.mono (by decide)) (by rfl) T.g_coefs T.F_coefs.kp T.b_coefs .nil pass0 (pa_cons (pv 1) (pa_cons (pv 2) pa_nil))) pa_nil)) (by rfl))
      (pss_cons (ps_set (i := 5) sc_law.nd rfl (Or.inl rfl) (pe_call (ok_draw T) (hr.mono (by decide)) (by rfl) T.g_draw T.F_draw.kp T.b_draw .nil pass0 (pa_cons (pv 1) (pa_cons pe_int pa_nil))))
      (C8.pss_cut (ps_if (pt_cmpR op_eq (pv 5) pe_int (nomark _)) (pss_one (ps_set (i := 3) sc_law.nd rfl (Or.inl rfl) (pe_call (ok_product T) (hr.mono (by decide)) (by rfl) T.g_product T.F_product.kp T.b_product .nil pass0 (pa_cons (pe_slice sl_list (pv 3) po_none (po_some pe_int)) (pa_cons (pe_slice sl_list (pv 4) po_none (po_some pe_int)) (pa_cons (pv 2) pa_nil)))))) (pss_one (ps_if (pt_cmpR op_eq (pv 5) pe_int (nomark _)) (pss_one (ps_setLc (i := 4) (own := [("coef", 6)]) (g := gName 6) (tt := tYes) (te := (tIf (tAnd (tTest (tOp (rI0 fun i j => V.bl (decide (i < j))) (tVar 2) (tOp (rI CPow fun i j => V.int (i ^ j.toNat)) (tC (.int 10)) (tC (.int 9))))) (tTest (tOp (rI0 fun i j => V.bl (decide (i < j))) (tVar 6) (tOp (rI CMul fun i j => V.int (i * j)) (tC (.int 8)) (tOp (rI CPow fun i j => V.int (i ^ j.toNat)) (tC (.int 10)) (tC (.int 9))))))) (tOp (rI0 fun i j => V.int (i + j)) (tVar 6) (tVar 2)) (tVar 6))) (by rfl) sc_law.nd rfl rfl (sw_true rfl rfl rfl (by decide +kernel)) (pi_list (pv 3)) (blkOk_by (own := [("coef", 6)]) (N := ["script", "box", "prime", "left", "right", "way", "coef", "one", "two", "first", "second"]) (sc := defScope s_law) (by decide +kernel)) (fun _ _ _ _ _ => (pg_name (i := 6) sc_law.nd rfl (Or.inl rfl))) (fun _ _ _ _ _ => pts_nil) (fun _ _ _ _ _ => (pe_ifExp (PW.pt (pw_and (pt_cmpR op_lt (pv 2) (pe_op op_pow pe_int pe_int) (nomark _)) (pw_and1 (pt_cmpR op_lt (pv 6) (pe_op op_mul pe_int (pe_op op_pow pe_int pe_int)) (nomark _))))) (pe_op op_add (pv 6) (pv 2)) (pv 6))))) pss_nil)))
      (C8.pss_cut (ps_par (i := 7) (j := 8) (by rfl) sc_law.nd rfl rfl (by decide) rfl rfl (pa_cons (pe_call (ok_poly T) (hr.mono (by decide)) (by rfl) T.g_poly T.F_poly.kp T.b_poly .nil pass0 (pa_cons (pv 1) (pa_cons (pv 3) (pa_cons (pv 2) pa_nil)))) (pa_cons (pe_call (ok_poly T) (hr.mono (by decide)) (by rfl) T.g_poly T.F_poly.kp T.b_poly .nil pass0 (pa_cons (pv 1) (pa_cons (pv 4) (pa_cons (pv 2) pa_nil)))) pa_nil)) (by rfl))
      (C8.pss_cut (ps_par (i := 9) (j := 10) (by rfl) sc_law.nd rfl rfl (by decide) rfl rfl (pa_cons (pe_call (ok_trim T) (hr.mono (by decide)) (by rfl) T.g_trim T.F_trim.kp T.b_trim .nil pass0 (pa_cons (pv 3) (pa_cons (pv 2) pa_nil))) (pa_cons (pe_call (ok_trim T) (hr.mono (by decide)) (by rfl) T.g_trim T.F_trim.kp T.b_trim .nil pass0 (pa_cons (pv 4) (pa_cons (pv 2) pa_nil))) pa_nil)) (by rfl))
      (C8.pss_cut (ps_if (PW.pt (pw_or (pt_not (pt_val (pe_call (ok_is_poly T) (hr.mono (by decide)) (by rfl) T.g_is_poly T.F_is_poly.kp T.b_is_poly .nil pass0 (pa_cons (pv 7) (pa_cons (pv 9) (pa_cons (pv 2) pa_nil)))))) (pw_or1 (pt_not (pt_val (pe_call (ok_is_poly T) (hr.mono (by decide)) (by rfl) T.g_is_poly T.F_is_poly.kp T.b_is_poly .nil pass0 (pa_cons (pv 8) (pa_cons (pv 10) (pa_cons (pv 2) pa_nil))))))))) (pss_one (ps_ret pe_bl)) pss_nil)
      (C8.pss_cut (ps_if (PW.pt (pw_or (pt_not (pt_val (pe_call (ok_worths T) (hr.mono (by decide)) (by rfl) T.g_worths T.F_worths.kp T.b_worths .nil pass0 (pa_cons (pv 1) (pa_cons (pv 7) (pa_cons (pv 9) (pa_cons (pv 2) pa_nil))))))) (pw_or1 (pt_not (pt_val (pe_call (ok_equals T) (hr.mono (by decide)) (by rfl) T.g_equals T.F_equals.kp T.b_equals .nil pass0 (pa_cons (pv 7) (pa_cons (pv 8) (pa_cons (pv 9) (pa_cons (pv 10) (pa_cons (pv 2) pa_nil))))))))))) (pss_one (ps_ret pe_bl)) pss_nil)
      (C8.pss_cut (ps_if (pt_not (pt_val (pe_call (ok_is_poly T) (hr.mono (by decide)) (by rfl) T.g_is_poly T.F_is_poly.kp T.b_is_poly .nil pass0 (pa_cons (pe_op (OV.op_bin T.sf T.f_add T.n_add ((ok_m_add T).raw T.b_m_add .nil) (hr.mono (by decide)) pass0) (pv 7) (pv 8)) (pa_cons (pe_call (ok_total T) (hr.mono (by decide)) (by rfl) T.g_total T.F_total.kp T.b_total .nil pass0 (pa_cons (pv 9) (pa_cons (pv 10) (pa_cons (pv 2) (pa_cons pe_int pa_nil))))) (pa_cons (pv 2) pa_nil)))))) (pss_one (ps_ret pe_bl)) pss_nil)
      (C8.pss_cut (ps_if (pt_not (pt_val (pe_call (ok_is_poly T) (hr.mono (by decide)) (by rfl) T.g_is_poly T.F_is_poly.kp T.b_is_poly .nil pass0 (pa_cons (pe_op (OV.op_bin T.sf T.f_sub T.n_sub ((ok_m_sub T).raw T.b_m_sub .nil) (hr.mono (by decide)) pass0) (pv 7) (pv 8)) (pa_cons (pe_call (ok_total T) (hr.mono (by decide)) (by rfl) T.g_total T.F_total.kp T.b_total .nil pass0 (pa_cons (pv 9) (pa_cons (pv 10) (pa_cons (pv 2) (pa_cons (pe_op op_sub pe_int pe_int) pa_nil))))) (pa_cons (pv 2) pa_nil)))))) (pss_one (ps_ret pe_bl)) pss_nil)
      (C8.pss_cut (ps_if (pt_not (pt_val (pe_call (ok_is_poly T) (hr.mono (by decide)) (by rfl) T.g_is_poly T.F_is_poly.kp T.b_is_poly .nil pass0 (pa_cons (pe_op (OV.op_bin T.sf T.f_sub T.n_sub ((ok_m_sub T).raw T.b_m_sub .nil) (hr.mono (by decide)) pass0) (pv 8) (pv 7)) (pa_cons (pe_call (ok_total T) (hr.mono (by decide)) (by rfl) T.g_total T.F_total.kp T.b_total .nil pass0 (pa_cons (pv 10) (pa_cons (pv 9) (pa_cons (pv 2) (pa_cons (pe_op op_sub pe_int pe_int) pa_nil))))) (pa_cons (pv 2) pa_nil)))))) (pss_one (ps_ret pe_bl)) pss_nil)
      (C8.pss_cut (ps_if (pt_not (pt_val (pe_call (ok_is_poly T) (hr.mono (by decide)) (by rfl) T.g_is_poly T.F_is_poly.kp T.b_is_poly .nil pass0 (pa_cons (pe_op (OV.op_bin T.sf T.f_mul T.n_mul ((ok_m_mul T).raw T.b_m_mul .nil) (hr.mono (by decide)) pass0) (pv 7) (pv 8)) (pa_cons (pe_call (ok_product T) (hr.mono (by decide)) (by rfl) T.g_product T.F_product.kp T.b_product .nil pass0 (pa_cons (pv 9) (pa_cons (pv 10) (pa_cons (pv 2) pa_nil)))) (pa_cons (pv 2) pa_nil)))))) (pss_one (ps_ret pe_bl)) pss_nil)
      (C8.pss_cut (ps_if (PW.pt (pw_or (pt_not (pt_val (pe_call (ok_division T) (hr.mono (by decide)) (by rfl) T.g_division T.F_division.kp T.b_division .nil pass0 (pa_cons (pv 7) (pa_cons (pv 8) (pa_cons (pv 9) (pa_cons (pv 10) (pa_cons (pv 2) pa_nil)))))))) (pw_or1 (pt_not (pt_val (pe_call (ok_division T) (hr.mono (by decide)) (by rfl) T.g_division T.F_division.kp T.b_division .nil pass0 (pa_cons (pv 8) (pa_cons (pv 7) (pa_cons (pv 10) (pa_cons (pv 9) (pa_cons (pv 2) pa_nil))))))))))) (pss_one (ps_ret pe_bl)) pss_nil)
      (C8.pss_cut (ps_if (PW.pt (pw_or (pt_not (pt_val (pe_call (ok_line T) (hr.mono (by decide)) (by rfl) T.g_line T.F_line.kp T.b_line .nil pass0 (pa_cons (pv 1) (pa_cons (pv 2) pa_nil))))) (pw_or1 (pt_not (pt_val (pe_call (ok_is_poly T) (hr.mono (by decide)) (by rfl) T.g_is_poly T.F_is_poly.kp T.b_is_poly .nil pass0 (pa_cons (pe_makeK0 T.mk_ (ok_m_init T) (hr.mono (by decide)) (by rfl) T.gC_Poly T.kb3 pass0 (pk_cons (pv 2) pk_nil)) (pa_cons (pe_lst pa_nil) (pa_cons (pv 2) pa_nil))))))))) (pss_one (ps_ret pe_bl)) pss_nil)
      (pss_one (ps_ret (pe_and (pe_call (ok_is_poly T) (hr.mono (by decide)) (by rfl) T.g_is_poly T.F_is_poly.kp T.b_is_poly .nil pass0 (pa_cons (pv 7) (pa_cons (pv 9) (pa_cons (pv 2) pa_nil)))) (pe_one (pe_call (ok_is_poly T) (hr.mono (by decide)) (by rfl) T.g_is_poly T.F_is_poly.kp T.b_is_poly .nil pass0 (pa_cons (pv 8) (pa_cons (pv 10) (pa_cons (pv 2) pa_nil))))))))))))))))))))))), ?_⟩
    refine ⟨_, rfl, a, ns, rfl, hS, h63, fun b H1 g1 hb0 hB1 => ⟨_, rfl, b, rfl, hB1, fun p H2 hp hB2 hK2 => ?_⟩⟩
    have P1 := prm_all p hp
    have pb := primes_lt p hp
    have p0 : 0 < p := by omega
    have p64 : p < 18446744073709551616 := by omega
    refine ⟨_, rfl, _, rfl, b, p, rfl, hB2, p0, by omega, fun l cs H3 hB3 hK3 nl hl0 hl lc bc => ⟨_, rfl, _, rfl, b, p, rfl, hB3, p0, by omega, fun r ds H4 hB4 hK4 nr hr0 hr' ld bd => ⟨_, _, rfl, ?_⟩⟩⟩
    replace hl := hK4.1 _ _ nl hl
    refine ⟨_, rfl, b, 6, rfl, by decide, by decide, hB4, fun e H5 e0 e1 hB5 hK5 => ?_⟩
    replace hl := hK5.1 _ _ nl hl
    replace hr' := hK5.1 _ _ nr hr'
    clear hK2 hK3 hK4 hK5 hl0 hr0 hB1 hB2 hB3 hB4
    refine ⟨fun σ' H' => ∃ (l r : Addr) (cs ds : List Int) (v5 v6 v7 v8 v9 v10 : Option V), σ' = [some (.ref a), some (.ref b), some (.int p), some (.ref l), some (.ref r), v5, v6, v7, v8, v9, v10] ∧ BoxAt H' b ∧ l ≠ b ∧ r ≠ b ∧ H' l = some (.lst (cs.map V.int)) ∧ H' r = some (.lst (ds.map V.int)) ∧ cs.length ≤ 46 ∧ ds.length ≤ 46, ?_, ?_⟩
    · refine ⟨_, rfl, rfl, _, rfl, ite2 (fun _ => ?_) (fun _ => ?_)⟩
      · refine ⟨_, rfl, _, rfl, l, _, rfl, SqL.of hl, fun u hu => ?_⟩
        obtain ⟨n1, e1', l1, m1⟩ := cut_ints2 cs none (some 9)
        have gu := same_new hu (.lst (cutV (cs.map V.int) none (some 9)))
        have eu : upd H5 u (.lst (cutV (cs.map V.int) none (some 9))) u = some (.lst (n1.map V.int)) := by rw [upd_same, e1']
        generalize upd H5 u (.lst (cutV (cs.map V.int) none (some 9))) = H6 at gu eu ⊢
        refine ⟨_, rfl, _, rfl, r, _, rfl, SqL.of (gu _ _ hr'), fun v hv => ?_⟩
        obtain ⟨n2, e2', l2, m2⟩ := cut_ints2 ds none (some 9)
        have gv := same_new hv (.lst (cutV (ds.map V.int) none (some 9)))
        have ev' : upd H6 v (.lst (cutV (ds.map V.int) none (some 9))) v = some (.lst (n2.map V.int)) := by rw [upd_same, e2']
        generalize upd H6 v (.lst (cutV (ds.map V.int) none (some 9))) = H7 at gv ev' ⊢
        refine ⟨_, rfl, u, v, n1, n2, p, rfl, SqL.of (gv _ _ eu), SqL.of ev', p0, by omega, by omega, fun z hz => ?_, fun t H8 g8 ht et => ?_⟩
        · have := bc z (m1 z hz)
          omega
        · have g := gu.trans (gv.trans g8)
          have hB7 := hB5.same (gu.trans gv)
          have lz := can_len p (mulL n1 n2)
          rw [mulL_len] at lz
          exact ⟨t, r, _, ds, _, _, _, _, _, _, rfl, hB5.same g, hB7.ne ht, nr, et, g _ _ hr', by omega, by omega⟩
      · refine ⟨_, rfl, rfl, _, rfl, ite2 (fun _ => ?_) (fun _ => ?_)⟩
        · refine ⟨_, rfl, l, rfl, ⟨_, SqL.of hl⟩, fun D hD => lc_list (K := K) (a := l) (xs := cs.map V.int) (fun i Hx => Same H5 Hx ∧ Hx D = some (.lst (((cs.take i).map fun c => if p < 10 ^ 9 ∧ c < 8 * 10 ^ 9 then c + p else c).map V.int)))
            ⟨same_new hD _, upd_same⟩ (fun i Hx _ ⟨gs, _⟩ => SqL.of (gs _ _ hl)) ?_ ?_⟩
          · rintro j z Hx hj ⟨gs, eD⟩
            obtain ⟨n, hn, rfl⟩ := at_int hj
            have cp : CPow 10 9 := ⟨by decide, by decide, by decide⟩
            have cm : CMul 8 (10 ^ (9 : Int).toNat) := .inl ⟨by decide, by decide⟩
            have fin : ∀ m : Int, m = (if p < 10 ^ 9 ∧ n < 8 * 10 ^ 9 then n + p else n) → ∃ acc, Hx D = some (.lst acc) ∧ acc.length < sizeLine ∧ (Same H5 (upd Hx D (.lst (acc ++ [.int m]))) ∧ upd Hx D (.lst (acc ++ [.int m])) D = some (.lst (((cs.take (j + 1)).map fun c => if p < 10 ^ 9 ∧ c < 8 * 10 ^ 9 then c + p else c).map V.int))) := fun m hm => by
              refine ⟨_, eD, ?_, same_upd hD gs, ?_⟩
              · rw [List.length_map, List.length_map, List.length_take]
                exact small1000 (by omega)
              · rw [upd_same, hm]
                exact congrArg (fun l => some (HO.lst l)) (mapT (f := fun c => if p < 10 ^ 9 ∧ c < 8 * 10 ^ 9 then c + p else c) hn)
            refine ⟨rfl, _, rfl, _, _, rfl, rfl, cp, _, _, rfl, rfl, _, rfl, ?_⟩
            show ite _ _ _
            refine ite2 (fun h1 => ?_) (fun h1 => ?_)
            · have h1 : p < 10 ^ 9 := of_decide_eq_true h1
              refine ⟨_, rfl, _, _, rfl, rfl, cp, _, _, rfl, rfl, cm, _, _, rfl, rfl, _, rfl, ?_⟩
              show ite _ _ _
              refine ite2 (fun h2 => ?_) (fun h2 => ?_)
              · have h2 : n < 8 * 10 ^ 9 := of_decide_eq_true h2
                exact ⟨_, rfl, _, rfl, _, _, rfl, rfl, fin _ (by rw [if_pos ⟨h1, h2⟩])⟩
              · exact ⟨_, rfl, fin _ (by rw [if_neg fun z => h2 (decide_eq_true z.2)])⟩
            · show ite _ _ _
              refine iteF ?_
              exact ⟨_, rfl, fin _ (by rw [if_neg fun z => h1 (decide_eq_true z.1)])⟩
          · rintro Hx ⟨gs, eD⟩
            exact ⟨l, D, cs, _, _, _, _, _, _, _, rfl, hB5.same gs, nl, hB5.ne hD, gs _ _ hl, eD, by omega, by rw [List.length_map, List.length_map, List.length_take]; omega⟩
        · exact ⟨l, r, cs, ds, _, _, _, _, _, _, rfl, hB5, nl, nr, hl, hr', by omega, by omega⟩
    clear hl hr' lc ld bc bd nl nr hB5
    rintro σ' H6 ⟨l, r, cs, ds, v5, v6, v7, v8, v9, v10, rfl, hB6, nl, nr, hl, hr', lc, ld⟩
    refine ⟨fun σ' H' => ∃ (x y : Addr) (v5 v6 v9 v10 : Option V), σ' = [some (.ref a), some (.ref b), some (.int p), some (.ref l), some (.ref r), v5, v6, some (.ref x), some (.ref y), v9, v10] ∧ BoxAt H' b ∧ H' l = some (.lst (cs.map V.int)) ∧ H' r = some (.lst (ds.map V.int)) ∧ PolyAt T H' x (can p cs) p ∧ PolyAt T H' y (can p ds) p, ?_, ?_⟩
    · exact ⟨_, rfl, _, rfl, _, rfl, b, l, cs, p, rfl, hB6, nl, hl, p0, by omega, fun x H7 hB7 hK7 nx px => ⟨_, rfl, _, rfl, _, rfl, b, r, ds, p, rfl, hB7, nr, hK7.1 _ _ nr hr', p0, by omega, fun y H8 hB8 hK8 ny py => ⟨_, _, rfl, x, y, _, _, _, _, rfl, hB8, hK8.1 _ _ nl (hK7.1 _ _ nl hl), hK8.1 _ _ nr (hK7.1 _ _ nr hr'), px.keep hB7 hK8, py⟩⟩⟩
    clear hB6 hl hr'
    rintro σ' H7 ⟨x, y, v5, v6, v9, v10, rfl, hB7, hl, hr', px, py⟩
    have lc1 := can_len p cs
    have ld1 := can_len p ds
    have cc0 := can_can p cs
    have cd0 := can_can p ds
    refine ⟨fun σ' H' => ∃ (f s' : Addr) (v3 v4 v5 v6 : Option V), σ' = [some (.ref a), some (.ref b), some (.int p), v3, v4, v5, v6, some (.ref x), some (.ref y), some (.ref f), some (.ref s')] ∧ LwI T b p x y f s' (can p cs) (can p ds) H', ?_, ?_⟩
    · exact ⟨_, rfl, _, rfl, l, cs, p, rfl, SqL.of hl, p0, by omega, fun f H8 g8 hf0 hf => ⟨_, rfl, _, rfl, r, ds, p, rfl, SqL.of (g8 _ _ hr'), p0, by omega, fun s' H9 g9 hs0 hs => ⟨_, _, rfl, f, s', _, _, _, _, rfl, hB7.same (g8.trans g9), px.same (g8.trans g9), py.same (g8.trans g9), hB7.ne hf0, (hB7.same g8).ne hs0, g9 _ _ hf, hs⟩⟩⟩
    clear hB7 hl hr' px py
    rintro σ' H7 ⟨f, s', v3, v4, v5, v6, rfl, I⟩
    replace lc1 : (can p cs).length ≤ 46 := Nat.le_trans lc1 lc
    replace ld1 : (can p ds).length ≤ 46 := Nat.le_trans ld1 ld
    clear lc ld
    revert lc1 ld1 cc0 cd0 I
    generalize can p cs = c1
    generalize can p ds = c2
    clear cs ds
    revert c1 c2
    intro cs ds cc cd I lc ld
    refine ⟨fun σ' H' => ∃ (v3 v4 v5 v6 : Option V), σ' = [some (.ref a), some (.ref b), some (.int p), v3, v4, v5, v6, some (.ref x), some (.ref y), some (.ref f), some (.ref s')] ∧ LwI T b p x y f s' cs ds H', ?_, ?_⟩
    · exact ⟨_, rfl, _, rfl, _, rfl, x, f, cs, p, rfl, I.px, SqL.of I.hf, by omega, fun J1 g1 => ⟨_, rfl, iteF ⟨_, rfl, _, rfl, _, rfl, y, s', ds, p, rfl, I.py.same g1, SqL.of (g1 _ _ I.hs), by omega, fun J2 g2 => ⟨_, rfl, iteF ⟨_, _, _, _, rfl, I.same (g1.trans g2)⟩⟩⟩⟩⟩
    rintro σ' H7 ⟨v3, v4, v5, v6, rfl, I⟩
    refine ⟨fun σ' H' => ∃ (v3 v4 v5 v6 : Option V), σ' = [some (.ref a), some (.ref b), some (.int p), v3, v4, v5, v6, some (.ref x), some (.ref y), some (.ref f), some (.ref s')] ∧ LwI T b p x y f s' cs ds H', ?_, ?_⟩
    · refine ⟨_, rfl, _, rfl, _, rfl, _, rfl, b, x, f, cs, p, rfl, I.hB, I.px, I.nf, I.hf, pb.1, by omega, by omega, cc, fun J1 hB1 hK1 => ⟨_, rfl, iteF ?_⟩⟩
      have I1 := I.keep hB1 hK1
      exact ⟨_, rfl, _, rfl, _, rfl, _, rfl, _, rfl, x, y, f, s', cs, ds, p, rfl, I1.px, I1.py, SqL.of I1.hf, SqL.of I1.hs, pb.1, by omega, by omega, cc, fun J2 g2 => ⟨_, rfl, iteF ⟨_, _, _, _, rfl, I1.same g2⟩⟩⟩
    rintro σ' H7 ⟨v3, v4, v5, v6, rfl, I⟩
    refine ⟨fun σ' H' => ∃ (v3 v4 v5 v6 : Option V), σ' = [some (.ref a), some (.ref b), some (.int p), v3, v4, v5, v6, some (.ref x), some (.ref y), some (.ref f), some (.ref s')] ∧ LwI T b p x y f s' cs ds H', ?_, ?_⟩
    · obtain ⟨_, _, h1, _⟩ := id I.px
      obtain ⟨_, _, h2, _⟩ := id I.py
      exact ⟨_, rfl, _, rfl, x, y, _, _, _, _, rfl, rfl, h1, h2, x, y, cs, ds, p, rfl, I.px, I.py, p0, can_sm p0 p64 cc, by omega, by omega, fun z J1 g1 hz pz => ⟨_, rfl, _, rfl, _, rfl, f, s', cs, ds, p, 1, rfl, SqL.of (g1 _ _ I.hf), SqL.of (g1 _ _ I.hs), p0, by omega, by omega, .inl rfl, fun t J2 g2 ht et => ⟨_, rfl, z, t, _, p, rfl, pz.same g2, SqL.of et, Nat.le_trans (can_len _ _) (by rw [addL_len]; omega), fun J3 g3 => ⟨_, rfl, iteF ⟨_, _, _, _, rfl, I.same (g1.trans (g2.trans g3))⟩⟩⟩⟩⟩
    rintro σ' H7 ⟨v3, v4, v5, v6, rfl, I⟩
    refine ⟨fun σ' H' => ∃ (v3 v4 v5 v6 : Option V), σ' = [some (.ref a), some (.ref b), some (.int p), v3, v4, v5, v6, some (.ref x), some (.ref y), some (.ref f), some (.ref s')] ∧ LwI T b p x y f s' cs ds H', ?_, ?_⟩
    · obtain ⟨_, _, h1, _⟩ := id I.px
      obtain ⟨_, _, h2, _⟩ := id I.py
      exact ⟨_, rfl, _, rfl, x, y, _, _, _, _, rfl, rfl, h1, h2, x, y, cs, ds, p, rfl, I.px, I.py, p0, can_sm p0 p64 cc, by omega, by omega, fun z J1 g1 hz pz => ⟨_, rfl, _, rfl, _, rfl, _, _, rfl, rfl, f, s', cs, ds, p, (-1), rfl, SqL.of (g1 _ _ I.hf), SqL.of (g1 _ _ I.hs), p0, by omega, by omega, .inr rfl, fun t J2 g2 ht et => ⟨_, rfl, z, t, _, p, rfl, pz.same g2, SqL.of et, Nat.le_trans (can_len _ _) (by rw [addL_len]; omega), fun J3 g3 => ⟨_, rfl, iteF ⟨_, _, _, _, rfl, I.same (g1.trans (g2.trans g3))⟩⟩⟩⟩⟩
    rintro σ' H7 ⟨v3, v4, v5, v6, rfl, I⟩
    refine ⟨fun σ' H' => ∃ (v3 v4 v5 v6 : Option V), σ' = [some (.ref a), some (.ref b), some (.int p), v3, v4, v5, v6, some (.ref x), some (.ref y), some (.ref f), some (.ref s')] ∧ LwI T b p x y f s' cs ds H', ?_, ?_⟩
    · obtain ⟨_, _, h1, _⟩ := id I.py
      obtain ⟨_, _, h2, _⟩ := id I.px
      exact ⟨_, rfl, _, rfl, y, x, _, _, _, _, rfl, rfl, h1, h2, y, x, ds, cs, p, rfl, I.py, I.px, p0, can_sm p0 p64 cd, by omega, by omega, fun z J1 g1 hz pz => ⟨_, rfl, _, rfl, _, rfl, _, _, rfl, rfl, s', f, ds, cs, p, (-1), rfl, SqL.of (g1 _ _ I.hs), SqL.of (g1 _ _ I.hf), p0, by omega, by omega, .inr rfl, fun t J2 g2 ht et => ⟨_, rfl, z, t, _, p, rfl, pz.same g2, SqL.of et, Nat.le_trans (can_len _ _) (by rw [addL_len]; omega), fun J3 g3 => ⟨_, rfl, iteF ⟨_, _, _, _, rfl, I.same (g1.trans (g2.trans g3))⟩⟩⟩⟩⟩
    rintro σ' H7 ⟨v3, v4, v5, v6, rfl, I⟩
    refine ⟨fun σ' H' => ∃ (v3 v4 v5 v6 : Option V), σ' = [some (.ref a), some (.ref b), some (.int p), v3, v4, v5, v6, some (.ref x), some (.ref y), some (.ref f), some (.ref s')] ∧ LwI T b p x y f s' cs ds H', ?_, ?_⟩
    · obtain ⟨_, _, h1, _⟩ := id I.px
      obtain ⟨_, _, h2, _⟩ := id I.py
      exact ⟨_, rfl, _, rfl, x, y, _, _, _, _, rfl, rfl, h1, h2, x, y, cs, ds, p, rfl, I.px, I.py, p0, can_sm p0 p64 cc, by omega, by omega, fun z J1 g1 hz pz => ⟨_, rfl, _, rfl, _, rfl, f, s', cs, ds, p, rfl, SqL.of (g1 _ _ I.hf), SqL.of (g1 _ _ I.hs), p0, by omega, by omega, can_sw p0 p64 cc, fun t J2 g2 ht et => ⟨_, rfl, z, t, _, p, rfl, pz.same g2, SqL.of et, Nat.le_trans (can_len _ _) (by rw [mulL_len]; omega), fun J3 g3 => ⟨_, rfl, iteF ⟨_, _, _, _, rfl, I.same (g1.trans (g2.trans g3))⟩⟩⟩⟩⟩
    rintro σ' H7 ⟨v3, v4, v5, v6, rfl, I⟩
    refine ⟨fun σ' H' => ∃ (v3 v4 v5 v6 : Option V), σ' = [some (.ref a), some (.ref b), some (.int p), v3, v4, v5, v6, some (.ref x), some (.ref y), some (.ref f), some (.ref s')] ∧ LwI T b p x y f s' cs ds H', ?_, ?_⟩
    · exact ⟨_, rfl, _, rfl, _, rfl, _, rfl, _, rfl, x, y, f, s', cs, ds, p, rfl, I.px, I.py, SqL.of I.hf, SqL.of I.hs, P1, by omega, by omega, by omega, cc, cd, fun J1 g1 => ⟨_, rfl, iteF ⟨_, rfl, _, rfl, _, rfl, _, rfl, _, rfl, y, x, s', f, ds, cs, p, rfl, I.py.same g1, I.px.same g1, SqL.of (g1 _ _ I.hs), SqL.of (g1 _ _ I.hf), P1, by omega, by omega, by omega, cd, cc, fun J2 g2 => ⟨_, rfl, iteF ⟨_, _, _, _, rfl, I.same (g1.trans g2)⟩⟩⟩⟩⟩
    rintro σ' H7 ⟨v3, v4, v5, v6, rfl, I⟩
    refine ⟨fun σ' H' => ∃ (v3 v4 v5 v6 : Option V), σ' = [some (.ref a), some (.ref b), some (.int p), v3, v4, v5, v6, some (.ref x), some (.ref y), some (.ref f), some (.ref s')] ∧ LwI T b p x y f s' cs ds H', ?_, ?_⟩
    · refine ⟨_, rfl, _, rfl, b, p, rfl, I.hB, hp, fun J1 hB1 hK1 => ⟨_, rfl, iteF ?_⟩⟩
      have I1 := I.keep hB1 hK1
      refine ⟨_, rfl, rfl, rfl, mkP (T := T) (p := p) (ns := []) (.inr (.inr T.l0)) p0 (by show 0 ≤ 1000; decide) fun z J2 g2 hz pz => ⟨(by show 0 ≤ sizeLine; decide), fun q hq => ?_⟩⟩
      have gq := same_new hq (.lst [])
      refine ⟨_, rfl, z, q, [], p, rfl, pz.same gq, SqL.of upd_same, by show 0 ≤ 1000; decide, fun J3 g3 => ⟨_, rfl, iteF ⟨_, _, _, _, rfl, I1.same (g2.trans (gq.trans g3))⟩⟩⟩
    rintro σ' H7 ⟨v3, v4, v5, v6, rfl, I⟩
    exact ⟨_, rfl, _, rfl, _, rfl, x, f, cs, p, rfl, I.px, SqL.of I.hf, by omega, fun J1 g1 => ⟨_, rfl, iteT ⟨_, rfl, _, rfl, _, rfl, y, s', ds, p, rfl, I.py.same g1, SqL.of (g1 _ _ I.hs), by omega, fun J2 g2 => k J2⟩⟩⟩
end
end K0

set_option maxRecDepth 100000
set_option maxHeartbeats 4000000
namespace K0
open PySem L2 K1
/-! ### from what the top has written to Txt -/
theorem def_ex {K : PySem.W.Frag} {h : Heap} {mg : Str → Option Value} (X : K.In h) (G : h.Ns mainGlobals mg) {x : Str} {st : Stmt} {f : Addr} {oc : Value} {od an : Option Addr} {osl : Array (Option Value)} {kV doc pm cdv ct : Value}
    (a : PySem.W.nsIn K mainGlobals x = some (some (.ref f)))
    (l : K.lookup f = some ⟨oc, od, .func (PySem.W.fnOf x x (defArgs st) (defBody st) (defScope st) .none kV doc pm an cdv ct), osl⟩)
    (c : PySem.W.codeIn K cdv x = true) (k : PySem.W.keepIn K (.ref f) = true) : ∃ (f : Addr) (fd : FuncData), Fun K x x st f fd ∧ mg x = some (.ref f) :=
  ⟨f, _, fun_mk l c k, PySem.W.mg_of X G a⟩
theorem meth_ex {K : PySem.W.Frag} {C : Addr} {q : Str} {st : Stmt} {f : Addr} {oc : Value} {od an : Option Addr} {osl : Array (Option Value)} {kV doc pm cdv ct : Value} {m : Str}
    (a : PySem.W.findIn K (.ref C) m = some (some (.ref f))) (n : PySem.W.isFn K (.ref f) = true)
    (l : K.lookup f = some ⟨oc, od, .func (PySem.W.fnOf m q (defArgs st) (defBody st) (defScope st) .none kV doc pm an cdv ct), osl⟩)
    (c : PySem.W.codeIn K cdv q = true) (k : PySem.W.keepIn K (.ref f) = true) : ∃ (f : Addr) (fd : FuncData), Fun K m q st f fd ∧ Meth K C m f :=
  ⟨f, _, fun_mk l c k, a, n, k⟩
theorem own_ex {K : PySem.W.Frag} {C : Addr} {q : Str} {st : Stmt} {f : Addr} {oc : Value} {od an : Option Addr} {osl : Array (Option Value)} {kV doc pm cdv ct : Value} {m : Str}
    (a : PySem.W.findIn K (.ref C) m = some (some (.ref f))) (n : PySem.W.isFn K (.ref f) = true)
    (l : K.lookup f = some ⟨oc, od, .func (PySem.W.fnOf m q (defArgs st) (defBody st) (defScope st) .none kV doc pm an cdv ct), osl⟩)
    (c : PySem.W.codeIn K cdv q = true) (k : PySem.W.keepIn K (.ref f) = true) : ∃ (f : Addr) (fd : FuncData), Fun K m q st f fd ∧ PySem.W.findIn K (.ref C) m = some (some (.ref f)) ∧ PySem.W.isFn K (.ref f) = true :=
  ⟨f, _, fun_mk l c k, a, n⟩
theorem call_ex {K : PySem.W.Frag} {C : Addr} {q : Str} {st : Stmt} {f : Addr} {oc : Value} {od an : Option Addr} {osl : Array (Option Value)} {kV doc pm cdv ct : Value}
    (a : PySem.W.findIn K (.ref C) "__call__" = some (some (.ref f))) (n : PySem.W.isFn K (.ref f) = true) (i : PySem.W.fnIn K f = true)
    (l : K.lookup f = some ⟨oc, od, .func (PySem.W.fnOf "__call__" q (defArgs st) (defBody st) (defScope st) .none kV doc pm an cdv ct), osl⟩)
    (c : PySem.W.codeIn K cdv q = true) (k : PySem.W.keepIn K (.ref f) = true) : ∃ (f : Addr) (fd : FuncData), Fun K "__call__" q st f fd ∧ StX.CallO K C f :=
  ⟨f, _, fun_mk l c k, a, n, i⟩
theorem prop_ex {K : PySem.W.Frag} {C : Addr} {q : Str} {st : Stmt} {f : Addr} {oc : Value} {od an : Option Addr} {osl : Array (Option Value)} {kV doc pm cdv ct : Value} {m : Str} {p : Addr} {rest : List Value}
    (a : PySem.W.findIn K (.ref C) m = some (some (.ref p))) (g : PySem.W.specialIn K (.ref p) "__get__" = some (some (.builtin "property.__get__"))) (t : PySem.W.takesIn K (.ref p) = some true) (r : PySem.W.recIn K p "property" = some (.ref f :: rest))
    (l : K.lookup f = some ⟨oc, od, .func (PySem.W.fnOf m q (defArgs st) (defBody st) (defScope st) .none kV doc pm an cdv ct), osl⟩)
    (c : PySem.W.codeIn K cdv q = true) (k : PySem.W.keepIn K (.ref f) = true) : ∃ (p f : Addr) (fd : FuncData), Fun K m q st f fd ∧ PropOf K C m p f :=
  ⟨p, f, _, fun_mk l c k, a, g, t, rest, r⟩
theorem st_ex {K : PySem.W.Frag} {C : Addr} {q : Str} {st : Stmt} {f : Addr} {oc : Value} {od an : Option Addr} {osl : Array (Option Value)} {kV doc pm cdv ct : Value} {m : Str} {p : Addr} {rest : List Value}
    (ty : PySem.W.typeIn K (.ref C) = some (.type "type")) (rd : PySem.W.readsIn K C (.type "type") = true) (ga : PySem.W.specialIn K (.ref C) "__getattribute__" = some (some (.builtin "type.__getattribute__")))
    (a : PySem.W.findCls K (.ref C) (.type "type") m = some (.get (.builtin "staticmethod.__get__") (.ref p) .none (.ref C))) (r : PySem.W.recIn K p "staticmethod" = some (.ref f :: rest))
    (l : K.lookup f = some ⟨oc, od, .func (PySem.W.fnOf m q (defArgs st) (defBody st) (defScope st) .none kV doc pm an cdv ct), osl⟩)
    (c : PySem.W.codeIn K cdv q = true) (k : PySem.W.keepIn K (.ref f) = true) : ∃ (p f : Addr) (fd : FuncData), Fun K m q st f fd ∧ OV.SMet K C (.type "type") m p f :=
  ⟨p, f, _, fun_mk l c k, ty, rd, ga, a, ⟨rest, r⟩, k⟩
abbrev E0At (K : PySem.W.Frag) (t0 : Addr) : Prop := ∃ (o : Obj) (its : Array Value) (n : Nat), K.lookup t0 = some o ∧ o.cls = .type "tuple" ∧ o.data = .seq its n ∧ its.size ≤ sizeLine ∧ Vals ([] : List V) its.toList
theorem ini_ex {K : PySem.W.Frag} {C : Addr} {q : Str} {st : Stmt} {f T t0 : Addr} {oc : Value} {od an dd de : Option Addr} {osl sl se : Array (Option Value)} {kV doc pm cdv ct : Value} {n n0 : Nat}
    (mk : PySem.W.makesIn K C = true) (a : PySem.W.findIn K (.ref C) "__init__" = some (some (.ref f))) (n' : PySem.W.isFn K (.ref f) = true) (kc : PySem.W.keepIn K (.ref C) = true)
    (l : K.lookup f = some ⟨oc, od, .func (PySem.W.fnOf "__init__" q (defArgs st) (defBody st) (defScope st) (.ref T) kV doc pm an cdv ct), osl⟩)
    (c : PySem.W.codeIn K cdv q = true) (k : PySem.W.keepIn K (.ref f) = true)
    (lT : K.lookup T = some ⟨.type "tuple", dd, .seq [Value.ref t0].toArray n, sl⟩) (l0 : K.lookup t0 = some ⟨.type "tuple", de, .seq ([] : List Value).toArray n0, se⟩) :
    ∃ (t0 f : Addr) (fd : FuncData), FunD K "__init__" q (defArgs st) (defBody st) (defScope st) [.ref t0] [] f fd ∧ E0At K t0 ∧ Mk K C f :=
  ⟨t0, f, _, ⟨⟨oc, od, _, kV, doc, pm, an, cdv, ct, osl, rfl, l, c, .inr ⟨by simp, T, _, _, n, rfl, lT, rfl, .cons rfl .nil⟩, .inl rfl⟩, k⟩, ⟨_, _, n0, l0, rfl, rfl, by simp, .nil⟩, mk, a, n', kc⟩
theorem one_of {K : PySem.W.Frag} {x q nm : Str} {st : Stmt} {f : Addr} {fd : FuncData} (F : Fun K x q st f fd)
    (h : ∀ (kV doc pm : Value) (an : Option Addr) (cdv ct v : Value), bindArgs (PySem.W.fnOf x q (defArgs st) (defBody st) (defScope st) .none kV doc pm an cdv ct) ⟨[v], []⟩ = pure [(nm, v)]) :
    ∀ (s : Shared) (v : Value), BindsTo s fd ⟨[v], []⟩ [(nm, v)] := fun s v => by
  obtain ⟨oc, od, kV, doc, pm, an, cdv, ct, osl, rfl, lk, hcd⟩ := F.ex
  exact .of_eq (h kV doc pm an cdv ct v)
theorem Fun.kbn1 {K : PySem.W.Frag} {x qual : Str} {st : Stmt} {f : Addr} {fd : FuncData} {ps ks : List Str} {n : Nat} {g : {α : Type} → List α → List α → List α} (F : Fun K x qual st f fd)
    (h : ∀ (kV doc pm : Value) (an : Option Addr) (cdv ct : Value) (us ws : List Value), us.length = n → ws.length = ks.length → bindArgs (PySem.W.fnOf x qual (defArgs st) (defBody st) (defScope st) .none kV doc pm an cdv ct) ⟨us, ks.zip ws⟩ = pure (ps.zip (g us ws)))
    (hr : ∀ {vs : List V} {us : List Value} {zs : List V} {ws : List Value}, Vals vs us → Vals zs ws → Vals (g vs zs) (g us ws)) : KBn K fd ps n ks g g := by
  obtain ⟨oc, od, kV, doc, pm, an, cdv, ct, osl, rfl, lk, hcd⟩ := F.ex
  exact ⟨fun s us ws _ hu hl => .of_eq (h kV doc pm an cdv ct us ws hu hl), hr⟩
theorem Vals.rev : ∀ {vs : List V} {us : List Value}, Vals vs us → Vals vs.reverse us.reverse := fun r => by
  induction r with
  | nil => exact .nil
  | cons a r ih =>
    rw [List.reverse_cons, List.reverse_cons]
    exact ih.append (.cons a .nil)
theorem one_val {t0 : Addr} {its : List Value} (r : Vals [V.ref t0] its) : its = [Value.ref t0] := by
  cases r with
  | cons a r =>
    cases r
    cases a
    rfl

theorem build {P : Program} {w : World} {K : PySem.W.Frag} {h : Heap} {mg : Str → Option Value} {fa : Addr} (X : K.In h) (G : h.Ns mainGlobals mg) (hfa : mg "law" = some (.ref fa)) {C_Poly : Addr}
    (gC : PySem.W.nsIn K mainGlobals "Poly" = some (some (.ref C_Poly)))
    (D_worths_of : ∃ (f : Addr) (fd : FuncData), Fun K "worths_of" "worths_of" s_worths_of f fd ∧ mg "worths_of" = some (.ref f))
    (D_inverse : ∃ (f : Addr) (fd : FuncData), Fun K "inverse" "inverse" s_inverse f fd ∧ mg "inverse" = some (.ref f))
    (D_trimmed : ∃ (f : Addr) (fd : FuncData), Fun K "_trimmed" "_trimmed" s_trimmed f fd ∧ mg "_trimmed" = some (.ref f))
    (D_padded : ∃ (f : Addr) (fd : FuncData), Fun K "_padded" "_padded" s_padded f fd ∧ mg "_padded" = some (.ref f))
    (D_added : ∃ (f : Addr) (fd : FuncData), Fun K "_added" "_added" s_added f fd ∧ mg "_added" = some (.ref f))
    (D_multiplied : ∃ (f : Addr) (fd : FuncData), Fun K "_multiplied" "_multiplied" s_multiplied f fd ∧ mg "_multiplied" = some (.ref f))
    (D_worth_at : ∃ (f : Addr) (fd : FuncData), Fun K "_worth_at" "_worth_at" s_worth_at f fd ∧ mg "_worth_at" = some (.ref f))
    (D_with_roots : ∃ (f : Addr) (fd : FuncData), Fun K "with_roots" "with_roots" s_with_roots f fd ∧ mg "with_roots" = some (.ref f))
    (D_without_root : ∃ (f : Addr) (fd : FuncData), Fun K "_without_root" "_without_root" s_without_root f fd ∧ mg "_without_root" = some (.ref f))
    (D_box : ∃ (f : Addr) (fd : FuncData), Fun K "_law_box" "_law_box" s_box f fd ∧ mg "_law_box" = some (.ref f))
    (D_draw : ∃ (f : Addr) (fd : FuncData), Fun K "_law_draw" "_law_draw" s_draw f fd ∧ mg "_law_draw" = some (.ref f))
    (D_of : ∃ (f : Addr) (fd : FuncData), Fun K "_law_of" "_law_of" s_of f fd ∧ mg "_law_of" = some (.ref f))
    (D_same : ∃ (f : Addr) (fd : FuncData), Fun K "_law_same" "_law_same" s_same f fd ∧ mg "_law_same" = some (.ref f))
    (D_prime : ∃ (f : Addr) (fd : FuncData), Fun K "_law_prime" "_law_prime" s_prime f fd ∧ mg "_law_prime" = some (.ref f))
    (D_number : ∃ (f : Addr) (fd : FuncData), Fun K "_law_number" "_law_number" s_number f fd ∧ mg "_law_number" = some (.ref f))
    (D_raised : ∃ (f : Addr) (fd : FuncData), Fun K "_law_raised" "_law_raised" s_raised f fd ∧ mg "_law_raised" = some (.ref f))
    (D_law_inverse : ∃ (f : Addr) (fd : FuncData), Fun K "_law_inverse" "_law_inverse" s_law_inverse f fd ∧ mg "_law_inverse" = some (.ref f))
    (D_worth : ∃ (f : Addr) (fd : FuncData), Fun K "_law_worth" "_law_worth" s_worth f fd ∧ mg "_law_worth" = some (.ref f))
    (D_trim : ∃ (f : Addr) (fd : FuncData), Fun K "_law_trim" "_law_trim" s_trim f fd ∧ mg "_law_trim" = some (.ref f))
    (D_product : ∃ (f : Addr) (fd : FuncData), Fun K "_law_product" "_law_product" s_product f fd ∧ mg "_law_product" = some (.ref f))
    (D_divide : ∃ (f : Addr) (fd : FuncData), Fun K "_law_divide" "_law_divide" s_divide f fd ∧ mg "_law_divide" = some (.ref f))
    (D_coefs : ∃ (f : Addr) (fd : FuncData), Fun K "_law_coefs" "_law_coefs" s_coefs f fd ∧ mg "_law_coefs" = some (.ref f))
    (D_poly : ∃ (f : Addr) (fd : FuncData), Fun K "_law_poly" "_law_poly" s_poly f fd ∧ mg "_law_poly" = some (.ref f))
    (D_is_poly : ∃ (f : Addr) (fd : FuncData), Fun K "_law_is_poly" "_law_is_poly" s_is_poly f fd ∧ mg "_law_is_poly" = some (.ref f))
    (D_total : ∃ (f : Addr) (fd : FuncData), Fun K "_law_total" "_law_total" s_total f fd ∧ mg "_law_total" = some (.ref f))
    (D_split : ∃ (f : Addr) (fd : FuncData), Fun K "_law_split" "_law_split" s_split f fd ∧ mg "_law_split" = some (.ref f))
    (D_division : ∃ (f : Addr) (fd : FuncData), Fun K "_law_division" "_law_division" s_division f fd ∧ mg "_law_division" = some (.ref f))
    (D_line : ∃ (f : Addr) (fd : FuncData), Fun K "_law_line" "_law_line" s_line f fd ∧ mg "_law_line" = some (.ref f))
    (D_worths : ∃ (f : Addr) (fd : FuncData), Fun K "_law_worths" "_law_worths" s_worths f fd ∧ mg "_law_worths" = some (.ref f))
    (D_equals : ∃ (f : Addr) (fd : FuncData), Fun K "_law_equals" "_law_equals" s_equals f fd ∧ mg "_law_equals" = some (.ref f))
    (D_law : ∃ (f : Addr) (fd : FuncData), Fun K "law" "law" s_law f fd ∧ mg "law" = some (.ref f))
    (M_m_init : ∃ (t0 f : Addr) (fd : FuncData), FunD K "__init__" "Poly.__init__" (defArgs s_m_init) (defBody s_m_init) (defScope s_m_init) [.ref t0] [] f fd ∧ E0At K t0 ∧ Mk K C_Poly f)
    (M_m_through : ∃ (p f : Addr) (fd : FuncData), Fun K "through" "Poly.through" s_m_through f fd ∧ OV.SMet K C_Poly (.type "type") "through" p f)
    (M_m_degree : ∃ (p f : Addr) (fd : FuncData), Fun K "degree" "Poly.degree" s_m_degree f fd ∧ PropOf K C_Poly "degree" p f)
    (M_m_call : ∃ (f : Addr) (fd : FuncData), Fun K "__call__" "Poly.__call__" s_m_call f fd ∧ StX.CallO K C_Poly f)
    (M_m_add : ∃ (f : Addr) (fd : FuncData), Fun K "__add__" "Poly.__add__" s_m_add f fd ∧ PySem.W.findIn K (.ref C_Poly) "__add__" = some (some (.ref f)) ∧ PySem.W.isFn K (.ref f) = true)
    (M_m_sub : ∃ (f : Addr) (fd : FuncData), Fun K "__sub__" "Poly.__sub__" s_m_sub f fd ∧ PySem.W.findIn K (.ref C_Poly) "__sub__" = some (some (.ref f)) ∧ PySem.W.isFn K (.ref f) = true)
    (M_m_mul : ∃ (f : Addr) (fd : FuncData), Fun K "__mul__" "Poly.__mul__" s_m_mul f fd ∧ PySem.W.findIn K (.ref C_Poly) "__mul__" = some (some (.ref f)) ∧ PySem.W.isFn K (.ref f) = true)
    (M_m_scaled : ∃ (f : Addr) (fd : FuncData), Fun K "scaled" "Poly.scaled" s_m_scaled f fd ∧ Meth K C_Poly "scaled" f)
    (M_m_stepped : ∃ (f : Addr) (fd : FuncData), Fun K "stepped" "Poly.stepped" s_m_stepped f fd ∧ Meth K C_Poly "stepped" f)
    (M_m_divided : ∃ (f : Addr) (fd : FuncData), Fun K "divided" "Poly.divided" s_m_divided f fd ∧ Meth K C_Poly "divided" f)
    (M_m_eq : ∃ (f : Addr) (fd : FuncData), Fun K "__eq__" "Poly.__eq__" s_m_eq f fd ∧ PySem.W.findIn K (.ref C_Poly) "__eq__" = some (some (.ref f)) ∧ PySem.W.isFn K (.ref f) = true)
    (M_m_repr : ∃ (f : Addr) (fd : FuncData), Fun K "__repr__" "Poly.__repr__" s_m_repr f fd ∧ PySem.W.findIn K (.ref C_Poly) "__repr__" = some (some (.ref f)) ∧ PySem.W.isFn K (.ref f) = true)
    (cl : Cls K C_Poly)
    (n_coefficients : PySem.W.findIn K (.ref C_Poly) "coefficients" = some none)
    (n_p : PySem.W.findIn K (.ref C_Poly) "p" = some none)
    (sf : PySem.W.selfFirst K C_Poly = true)
    (mo : PySem.W.mroIn K C_Poly (.type "object") = some true)
    (ne_ : PySem.W.findIn K (.ref C_Poly) "__ne__" = some (some (.builtin "object.__ne__")))
    (ca : PySem.W.findIn K (.ref C_Poly) "__class__" = some (some (.builtin "object.__class__")))
    (cn : PySem.W.specialIn K (.builtin "object.__class__") "__get__" = some (some (.builtin "getset_descriptor.__get__")))
    (ct : PySem.W.takesIn K (.builtin "object.__class__") = some true)
    (kk : PySem.W.kitOne K (.ref C_Poly) (.ref C_Poly) = some true)
    (nf_tuple : PySem.W.notFirst K C_Poly (.type "tuple") = true)
    (k_tuple : PySem.W.kitOne K (.type "tuple") (.ref C_Poly) = some false)
    (nf_str : PySem.W.notFirst K C_Poly (.type "str") = true)
    (k_str : PySem.W.kitOne K (.type "str") (.ref C_Poly) = some false)
    (nf_NoneType : PySem.W.notFirst K C_Poly (.type "NoneType") = true)
    (k_NoneType : PySem.W.kitOne K (.type "NoneType") (.ref C_Poly) = some false)
    (nf_Poly : PySem.W.notFirst K C_Poly (.ref C_Poly) = true)
    (kP_tuple : PySem.W.kitOne K (.ref C_Poly) (.type "tuple") = some false)
    (z_ZeroDivisionError : PySem.W.nsIn K mainGlobals "ZeroDivisionError" = some none)
    (z_abs : PySem.W.nsIn K mainGlobals "abs" = some none)
    (z_all : PySem.W.nsIn K mainGlobals "all" = some none)
    (z_bool : PySem.W.nsIn K mainGlobals "bool" = some none)
    (z_enumerate : PySem.W.nsIn K mainGlobals "enumerate" = some none)
    (z_int : PySem.W.nsIn K mainGlobals "int" = some none)
    (z_isinstance : PySem.W.nsIn K mainGlobals "isinstance" = some none)
    (z_len : PySem.W.nsIn K mainGlobals "len" = some none)
    (z_list : PySem.W.nsIn K mainGlobals "list" = some none)
    (z_max : PySem.W.nsIn K mainGlobals "max" = some none)
    (z_min : PySem.W.nsIn K mainGlobals "min" = some none)
    (z_range : PySem.W.nsIn K mainGlobals "range" = some none)
    (z_repr : PySem.W.nsIn K mainGlobals "repr" = some none)
    (z_reversed : PySem.W.nsIn K mainGlobals "reversed" = some none)
    (z_str : PySem.W.nsIn K mainGlobals "str" = some none)
    (z_tuple : PySem.W.nsIn K mainGlobals "tuple" = some none)
    (z_zip : PySem.W.nsIn K mainGlobals "zip" = some none)
    : ∃ fd : FuncData, (∀ (s : Shared) (v : Value), BindsTo s fd ⟨[v], []⟩ [("script", v)]) ∧ ∀ base : Heap, K.In base → base.Ns mainGlobals mg → FnOk P w K mg base CX0 11 fa fd ["script"] (spLaw K) := by
  obtain ⟨f_worths_of, fd_worths_of, F_worths_of, g_worths_of⟩ := D_worths_of
  obtain ⟨f_inverse, fd_inverse, F_inverse, g_inverse⟩ := D_inverse
  obtain ⟨f_trimmed, fd_trimmed, F_trimmed, g_trimmed⟩ := D_trimmed
  obtain ⟨f_padded, fd_padded, F_padded, g_padded⟩ := D_padded
  obtain ⟨f_added, fd_added, F_added, g_added⟩ := D_added
  obtain ⟨f_multiplied, fd_multiplied, F_multiplied, g_multiplied⟩ := D_multiplied
  obtain ⟨f_worth_at, fd_worth_at, F_worth_at, g_worth_at⟩ := D_worth_at
  obtain ⟨f_with_roots, fd_with_roots, F_with_roots, g_with_roots⟩ := D_with_roots
  obtain ⟨f_without_root, fd_without_root, F_without_root, g_without_root⟩ := D_without_root
  obtain ⟨f_box, fd_box, F_box, g_box⟩ := D_box
  obtain ⟨f_draw, fd_draw, F_draw, g_draw⟩ := D_draw
  obtain ⟨f_of, fd_of, F_of, g_of⟩ := D_of
  obtain ⟨f_same, fd_same, F_same, g_same⟩ := D_same
  obtain ⟨f_prime, fd_prime, F_prime, g_prime⟩ := D_prime
  obtain ⟨f_number, fd_number, F_number, g_number⟩ := D_number
  obtain ⟨f_raised, fd_raised, F_raised, g_raised⟩ := D_raised
  obtain ⟨f_law_inverse, fd_law_inverse, F_law_inverse, g_law_inverse⟩ := D_law_inverse
  obtain ⟨f_worth, fd_worth, F_worth, g_worth⟩ := D_worth
  obtain ⟨f_trim, fd_trim, F_trim, g_trim⟩ := D_trim
  obtain ⟨f_product, fd_product, F_product, g_product⟩ := D_product
  obtain ⟨f_divide, fd_divide, F_divide, g_divide⟩ := D_divide
  obtain ⟨f_coefs, fd_coefs, F_coefs, g_coefs⟩ := D_coefs
  obtain ⟨f_poly, fd_poly, F_poly, g_poly⟩ := D_poly
  obtain ⟨f_is_poly, fd_is_poly, F_is_poly, g_is_poly⟩ := D_is_poly
  obtain ⟨f_total, fd_total, F_total, g_total⟩ := D_total
  obtain ⟨f_split, fd_split, F_split, g_split⟩ := D_split
  obtain ⟨f_division, fd_division, F_division, g_division⟩ := D_division
  obtain ⟨f_line, fd_line, F_line, g_line⟩ := D_line
  obtain ⟨f_worths, fd_worths, F_worths, g_worths⟩ := D_worths
  obtain ⟨f_equals, fd_equals, F_equals, g_equals⟩ := D_equals
  obtain ⟨f_law, fd_law, F_law, g_law⟩ := D_law
  obtain ⟨t0, f_m_init, fd_m_init, F_m_init, l0, mk_⟩ := M_m_init
  obtain ⟨p_through, f_m_through, fd_m_through, F_m_through, st⟩ := M_m_through
  obtain ⟨p_degree, f_m_degree, fd_m_degree, F_m_degree, pp⟩ := M_m_degree
  obtain ⟨f_m_call, fd_m_call, F_m_call, cO⟩ := M_m_call
  obtain ⟨f_m_add, fd_m_add, F_m_add, f_add, n_add⟩ := M_m_add
  obtain ⟨f_m_sub, fd_m_sub, F_m_sub, f_sub, n_sub⟩ := M_m_sub
  obtain ⟨f_m_mul, fd_m_mul, F_m_mul, f_mul, n_mul⟩ := M_m_mul
  obtain ⟨f_m_scaled, fd_m_scaled, F_m_scaled, me_m_scaled⟩ := M_m_scaled
  obtain ⟨f_m_stepped, fd_m_stepped, F_m_stepped, me_m_stepped⟩ := M_m_stepped
  obtain ⟨f_m_divided, fd_m_divided, F_m_divided, me_m_divided⟩ := M_m_divided
  obtain ⟨f_m_eq, fd_m_eq, F_m_eq, f_eq, n_eq⟩ := M_m_eq
  obtain ⟨f_m_repr, fd_m_repr, F_m_repr, f_repr, n_repr⟩ := M_m_repr
  have b_worths_of := F_worths_of.binds (ps := ["numbers", "p"]) fun _ _ _ _ _ _ us hl => match us, hl with | [_, _], _ => rfl
  have b_inverse := F_inverse.binds (ps := ["worth", "p"]) fun _ _ _ _ _ _ us hl => match us, hl with | [_, _], _ => rfl
  have b_trimmed := F_trimmed.binds (ps := ["worths"]) fun _ _ _ _ _ _ us hl => match us, hl with | [_], _ => rfl
  have b_padded := F_padded.binds (ps := ["worths", "size"]) fun _ _ _ _ _ _ us hl => match us, hl with | [_, _], _ => rfl
  have b_added := F_added.binds (ps := ["one", "other", "sign"]) fun _ _ _ _ _ _ us hl => match us, hl with | [_, _, _], _ => rfl
  have b_multiplied := F_multiplied.binds (ps := ["one", "other"]) fun _ _ _ _ _ _ us hl => match us, hl with | [_, _], _ => rfl
  have b_worth_at := F_worth_at.binds (ps := ["coefficients", "x", "p"]) fun _ _ _ _ _ _ us hl => match us, hl with | [_, _, _], _ => rfl
  have b_with_roots := F_with_roots.binds (ps := ["roots", "p"]) fun _ _ _ _ _ _ us hl => match us, hl with | [_, _], _ => rfl
  have b_without_root := F_without_root.binds (ps := ["coefficients", "root", "p"]) fun _ _ _ _ _ _ us hl => match us, hl with | [_, _, _], _ => rfl
  have b_m_degree := F_m_degree.binds (ps := ["self"]) fun _ _ _ _ _ _ us hl => match us, hl with | [_], _ => rfl
  have b_m_call := F_m_call.binds (ps := ["self", "x"]) fun _ _ _ _ _ _ us hl => match us, hl with | [_, _], _ => rfl
  have b_m_add := F_m_add.binds (ps := ["self", "other"]) fun _ _ _ _ _ _ us hl => match us, hl with | [_, _], _ => rfl
  have b_m_sub := F_m_sub.binds (ps := ["self", "other"]) fun _ _ _ _ _ _ us hl => match us, hl with | [_, _], _ => rfl
  have b_m_mul := F_m_mul.binds (ps := ["self", "other"]) fun _ _ _ _ _ _ us hl => match us, hl with | [_, _], _ => rfl
  have b_m_scaled := F_m_scaled.binds (ps := ["self", "worth"]) fun _ _ _ _ _ _ us hl => match us, hl with | [_, _], _ => rfl
  have b_m_stepped := F_m_stepped.binds (ps := ["self", "worth"]) fun _ _ _ _ _ _ us hl => match us, hl with | [_, _], _ => rfl
  have b_m_divided := F_m_divided.binds (ps := ["self", "other"]) fun _ _ _ _ _ _ us hl => match us, hl with | [_, _], _ => rfl
  have b_m_eq := F_m_eq.binds (ps := ["self", "other"]) fun _ _ _ _ _ _ us hl => match us, hl with | [_, _], _ => rfl
  have b_m_repr := F_m_repr.binds (ps := ["self"]) fun _ _ _ _ _ _ us hl => match us, hl with | [_], _ => rfl
  have b_box := F_box.binds (ps := ["script"]) fun _ _ _ _ _ _ us hl => match us, hl with | [_], _ => rfl
  have b_draw := F_draw.binds (ps := ["box", "sides"]) fun _ _ _ _ _ _ us hl => match us, hl with | [_, _], _ => rfl
  have b_of := F_of.binds (ps := ["box", "things"]) fun _ _ _ _ _ _ us hl => match us, hl with | [_, _], _ => rfl
  have b_same := F_same.binds (ps := ["found", "due"]) fun _ _ _ _ _ _ us hl => match us, hl with | [_, _], _ => rfl
  have b_prime := F_prime.binds (ps := ["box"]) fun _ _ _ _ _ _ us hl => match us, hl with | [_], _ => rfl
  have b_number := F_number.binds (ps := ["box", "prime"]) fun _ _ _ _ _ _ us hl => match us, hl with | [_, _], _ => rfl
  have b_raised := F_raised.binds (ps := ["base", "times", "prime"]) fun _ _ _ _ _ _ us hl => match us, hl with | [_, _, _], _ => rfl
  have b_law_inverse := F_law_inverse.binds (ps := ["digit", "prime"]) fun _ _ _ _ _ _ us hl => match us, hl with | [_, _], _ => rfl
  have b_worth := F_worth.binds (ps := ["coefs", "spot", "prime"]) fun _ _ _ _ _ _ us hl => match us, hl with | [_, _, _], _ => rfl
  have b_trim := F_trim.binds (ps := ["coefs", "prime"]) fun _ _ _ _ _ _ us hl => match us, hl with | [_, _], _ => rfl
  have b_product := F_product.binds (ps := ["left", "right", "prime"]) fun _ _ _ _ _ _ us hl => match us, hl with | [_, _, _], _ => rfl
  have b_divide := F_divide.binds (ps := ["left", "right", "prime"]) fun _ _ _ _ _ _ us hl => match us, hl with | [_, _, _], _ => rfl
  have b_coefs := F_coefs.binds (ps := ["box", "prime"]) fun _ _ _ _ _ _ us hl => match us, hl with | [_, _], _ => rfl
  have b_poly := F_poly.binds (ps := ["box", "coefs", "prime"]) fun _ _ _ _ _ _ us hl => match us, hl with | [_, _, _], _ => rfl
  have b_is_poly := F_is_poly.binds (ps := ["found", "coefs", "prime"]) fun _ _ _ _ _ _ us hl => match us, hl with | [_, _, _], _ => rfl
  have b_total := F_total.binds (ps := ["left", "right", "prime", "sign"]) fun _ _ _ _ _ _ us hl => match us, hl with | [_, _, _, _], _ => rfl
  have b_split := F_split.binds (ps := ["left", "right"]) fun _ _ _ _ _ _ us hl => match us, hl with | [_, _], _ => rfl
  have b_division := F_division.binds (ps := ["left", "right", "first", "second", "prime"]) fun _ _ _ _ _ _ us hl => match us, hl with | [_, _, _, _, _], _ => rfl
  have b_line := F_line.binds (ps := ["box", "prime"]) fun _ _ _ _ _ _ us hl => match us, hl with | [_, _], _ => rfl
  have b_worths := F_worths.binds (ps := ["box", "left", "first", "prime"]) fun _ _ _ _ _ _ us hl => match us, hl with | [_, _, _, _], _ => rfl
  have b_equals := F_equals.binds (ps := ["left", "right", "first", "second", "prime"]) fun _ _ _ _ _ _ us hl => match us, hl with | [_, _, _, _, _], _ => rfl
  have b_law := F_law.binds (ps := ["script"]) fun _ _ _ _ _ _ us hl => match us, hl with | [_], _ => rfl
  have kbt1 := K0.Fun.kbn1 F_m_through (ps := ["points", "p"]) (n := 1) (ks := ["p"]) (g := fun us ws => us ++ ws) (fun _ _ _ _ _ _ us ws hu hl => match us, ws, hu, hl with | [_], [_], _, _ => rfl) (fun r1 r2 => r1.append r2)
  have kbt2 := K0.Fun.kbn1 F_m_through (ps := ["points", "p"]) (n := 0) (ks := ["p", "points"]) (g := fun us ws => us ++ ws.reverse) (fun _ _ _ _ _ _ us ws hu hl => match us, ws, hu, hl with | [], [_, _], _, _ => rfl) (fun r1 r2 => r1.append (K0.Vals.rev r2))
  have kb_m_stepped := K0.Fun.kbn1 F_m_stepped (ps := ["self", "worth"]) (n := 1) (ks := ["worth"]) (g := fun us ws => us ++ ws) (fun _ _ _ _ _ _ us ws hu hl => match us, ws, hu, hl with | [_], [_], _, _ => rfl) (fun r1 r2 => r1.append r2)
  obtain ⟨_, kb1⟩ := F_m_init.kbindsD (ps := ["self", "coefficients", "p"]) 2 ["p"] (fun us _ ws => us ++ ws) (by simp) (fun r1 _ r2 => r1.append r2) (fun _ _ _ _ _ _ _ us its ws hu hi hl => match us, its, ws, hu, hi, hl with | [_, _], [_], [_], _, _, _ => ⟨_, rfl, rfl⟩)
  obtain ⟨_, kb2⟩ := F_m_init.kbindsD (ps := ["self", "coefficients", "p"]) 1 ["p", "coefficients"] (fun us _ ws => us ++ ws.reverse) (by simp) (fun r1 _ r2 => r1.append (K0.Vals.rev r2)) (fun _ _ _ _ _ _ _ us its ws hu hi hl => match us, its, ws, hu, hi, hl with | [_], [_], [_, _], _, _, _ => ⟨_, rfl, rfl⟩)
  obtain ⟨its, kb3⟩ := F_m_init.kbindsD (ps := ["self", "coefficients", "p"]) 1 ["p"] (fun us its ws => us ++ (its ++ ws)) (by simp) (fun r1 r2 r3 => r1.append (r2.append r3)) (fun _ _ _ _ _ _ _ us its ws hu hi hl => match us, its, ws, hu, hi, hl with | [_], [_], [_], _, _, _ => ⟨_, rfl, rfl⟩)
  have e3 := kb3.rel (vs := []) (us := []) (zs := []) (ws := []) .nil .nil
  rw [List.nil_append, List.append_nil, List.nil_append, List.append_nil] at e3
  obtain rfl := one_val e3
  have T : Txt K mg :=
    { t0 := t0
      l0 := l0
      f_worths_of := f_worths_of
      fd_worths_of := fd_worths_of
      F_worths_of := F_worths_of
      g_worths_of := g_worths_of
      b_worths_of := b_worths_of
      f_inverse := f_inverse
      fd_inverse := fd_inverse
      F_inverse := F_inverse
      g_inverse := g_inverse
      b_inverse := b_inverse
      f_trimmed := f_trimmed
      fd_trimmed := fd_trimmed
      F_trimmed := F_trimmed
      g_trimmed := g_trimmed
      b_trimmed := b_trimmed
      f_padded := f_padded
      fd_padded := fd_padded
      F_padded := F_padded
      g_padded := g_padded
      b_padded := b_padded
      f_added := f_added
      fd_added := fd_added
      F_added := F_added
      g_added := g_added
      b_added := b_added
      f_multiplied := f_multiplied
      fd_multiplied := fd_multiplied
      F_multiplied := F_multiplied
      g_multiplied := g_multiplied
      b_multiplied := b_multiplied
      f_worth_at := f_worth_at
      fd_worth_at := fd_worth_at
      F_worth_at := F_worth_at
      g_worth_at := g_worth_at
      b_worth_at := b_worth_at
      f_with_roots := f_with_roots
      fd_with_roots := fd_with_roots
      F_with_roots := F_with_roots
      g_with_roots := g_with_roots
      b_with_roots := b_with_roots
      f_without_root := f_without_root
      fd_without_root := fd_without_root
      F_without_root := F_without_root
      g_without_root := g_without_root
      b_without_root := b_without_root
      f_m_init := f_m_init
      fd_m_init := fd_m_init
      F_m_init := F_m_init
      f_m_through := f_m_through
      fd_m_through := fd_m_through
      F_m_through := F_m_through
      f_m_degree := f_m_degree
      fd_m_degree := fd_m_degree
      F_m_degree := F_m_degree
      b_m_degree := b_m_degree
      f_m_call := f_m_call
      fd_m_call := fd_m_call
      F_m_call := F_m_call
      b_m_call := b_m_call
      f_m_add := f_m_add
      fd_m_add := fd_m_add
      F_m_add := F_m_add
      b_m_add := b_m_add
      f_m_sub := f_m_sub
      fd_m_sub := fd_m_sub
      F_m_sub := F_m_sub
      b_m_sub := b_m_sub
      f_m_mul := f_m_mul
      fd_m_mul := fd_m_mul
      F_m_mul := F_m_mul
      b_m_mul := b_m_mul
      f_m_scaled := f_m_scaled
      fd_m_scaled := fd_m_scaled
      F_m_scaled := F_m_scaled
      b_m_scaled := b_m_scaled
      f_m_stepped := f_m_stepped
      fd_m_stepped := fd_m_stepped
      F_m_stepped := F_m_stepped
      b_m_stepped := b_m_stepped
      f_m_divided := f_m_divided
      fd_m_divided := fd_m_divided
      F_m_divided := F_m_divided
      b_m_divided := b_m_divided
      f_m_eq := f_m_eq
      fd_m_eq := fd_m_eq
      F_m_eq := F_m_eq
      b_m_eq := b_m_eq
      f_m_repr := f_m_repr
      fd_m_repr := fd_m_repr
      F_m_repr := F_m_repr
      b_m_repr := b_m_repr
      f_box := f_box
      fd_box := fd_box
      F_box := F_box
      g_box := g_box
      b_box := b_box
      f_draw := f_draw
      fd_draw := fd_draw
      F_draw := F_draw
      g_draw := g_draw
      b_draw := b_draw
      f_of := f_of
      fd_of := fd_of
      F_of := F_of
      g_of := g_of
      b_of := b_of
      f_same := f_same
      fd_same := fd_same
      F_same := F_same
      g_same := g_same
      b_same := b_same
      f_prime := f_prime
      fd_prime := fd_prime
      F_prime := F_prime
      g_prime := g_prime
      b_prime := b_prime
      f_number := f_number
      fd_number := fd_number
      F_number := F_number
      g_number := g_number
      b_number := b_number
      f_raised := f_raised
      fd_raised := fd_raised
      F_raised := F_raised
      g_raised := g_raised
      b_raised := b_raised
      f_law_inverse := f_law_inverse
      fd_law_inverse := fd_law_inverse
      F_law_inverse := F_law_inverse
      g_law_inverse := g_law_inverse
      b_law_inverse := b_law_inverse
      f_worth := f_worth
      fd_worth := fd_worth
      F_worth := F_worth
      g_worth := g_worth
      b_worth := b_worth
      f_trim := f_trim
      fd_trim := fd_trim
      F_trim := F_trim
      g_trim := g_trim
      b_trim := b_trim
      f_product := f_product
      fd_product := fd_product
      F_product := F_product
      g_product := g_product
      b_product := b_product
      f_divide := f_divide
      fd_divide := fd_divide
      F_divide := F_divide
      g_divide := g_divide
      b_divide := b_divide
      f_coefs := f_coefs
      fd_coefs := fd_coefs
      F_coefs := F_coefs
      g_coefs := g_coefs
      b_coefs := b_coefs
      f_poly := f_poly
      fd_poly := fd_poly
      F_poly := F_poly
      g_poly := g_poly
      b_poly := b_poly
      f_is_poly := f_is_poly
      fd_is_poly := fd_is_poly
      F_is_poly := F_is_poly
      g_is_poly := g_is_poly
      b_is_poly := b_is_poly
      f_total := f_total
      fd_total := fd_total
      F_total := F_total
      g_total := g_total
      b_total := b_total
      f_split := f_split
      fd_split := fd_split
      F_split := F_split
      g_split := g_split
      b_split := b_split
      f_division := f_division
      fd_division := fd_division
      F_division := F_division
      g_division := g_division
      b_division := b_division
      f_line := f_line
      fd_line := fd_line
      F_line := F_line
      g_line := g_line
      b_line := b_line
      f_worths := f_worths
      fd_worths := fd_worths
      F_worths := F_worths
      g_worths := g_worths
      b_worths := b_worths
      f_equals := f_equals
      fd_equals := fd_equals
      F_equals := F_equals
      g_equals := g_equals
      b_equals := b_equals
      f_law := f_law
      fd_law := fd_law
      F_law := F_law
      g_law := g_law
      b_law := b_law
      kb1 := kb1
      kb2 := kb2
      kb3 := kb3
      kbt1 := kbt1
      kbt2 := kbt2
      kb_m_stepped := kb_m_stepped
      C_Poly := C_Poly
      gC_Poly := PySem.W.mg_of X G gC
      cl := cl
      mk_ := mk_
      n_coefficients := n_coefficients
      n_p := n_p
      p_degree := p_degree
      pp := pp
      p_through := p_through
      st := st
      sf := sf
      cO := cO
      mo := mo
      ne_ := ne_
      ca := ca
      cn := cn
      ct := ct
      kk := kk
      me_m_scaled := me_m_scaled
      me_m_stepped := me_m_stepped
      me_m_divided := me_m_divided
      f_add := f_add
      n_add := n_add
      f_sub := f_sub
      n_sub := n_sub
      f_mul := f_mul
      n_mul := n_mul
      f_eq := f_eq
      n_eq := n_eq
      f_repr := f_repr
      n_repr := n_repr
      nf_tuple := nf_tuple
      k_tuple := k_tuple
      nf_str := nf_str
      k_str := k_str
      nf_NoneType := nf_NoneType
      k_NoneType := k_NoneType
      nf_Poly := nf_Poly
      kP_tuple := kP_tuple
      z_ZeroDivisionError := PySem.W.mg_none_of X G z_ZeroDivisionError
      z_abs := PySem.W.mg_none_of X G z_abs
      z_all := PySem.W.mg_none_of X G z_all
      z_bool := PySem.W.mg_none_of X G z_bool
      z_enumerate := PySem.W.mg_none_of X G z_enumerate
      z_int := PySem.W.mg_none_of X G z_int
      z_isinstance := PySem.W.mg_none_of X G z_isinstance
      z_len := PySem.W.mg_none_of X G z_len
      z_list := PySem.W.mg_none_of X G z_list
      z_max := PySem.W.mg_none_of X G z_max
      z_min := PySem.W.mg_none_of X G z_min
      z_range := PySem.W.mg_none_of X G z_range
      z_repr := PySem.W.mg_none_of X G z_repr
      z_reversed := PySem.W.mg_none_of X G z_reversed
      z_str := PySem.W.mg_none_of X G z_str
      z_tuple := PySem.W.mg_none_of X G z_tuple
      z_zip := PySem.W.mg_none_of X G z_zip }
  have e : fa = T.f_law := by
    have := hfa.symm.trans T.g_law
    cases this
    rfl
  subst e
  exact ⟨T.fd_law, one_of T.F_law (fun _ _ _ _ _ _ _ => rfl), fun base _ _ => ok_law T⟩
end K0

namespace K0
open PySem L2
theorem walk {l : PySem.W.OpenLaw} {q : Program} {loose : List Str} {XP : (Str → Option Value) → Heap → Prop} {YP : World → Heap → Prop} {d : DefRec} {K : Params → PySem.W.Frag} (hn : l.most = some 63) (hdf : d.params.defaults = [])
    (hY : ∀ (w : World) (h : Heap), YP w h → (K w.params).In h)
    (F : ∀ (w : World) (mg : Str → Option Value) (fa : Addr) (h : Heap), (K w.params).In h → h.Ns mainGlobals mg → mg d.name = some (.ref fa) →
      ∃ fd : FuncData, (∀ (s : Shared) (u : Value), BindsTo s fd ⟨[u], []⟩ [("script", u)]) ∧ ∀ base : Heap, (K w.params).In base → base.Ns mainGlobals mg → FnOk l.prog w (K w.params) mg base CX0 11 fa fd ["script"] (spLaw (K w.params))) :
    PySem.W.WalkO q loose XP YP l.row.toRowW d [] (fun f vs => PySem.call f vs) :=
  L2.walk_of (n := 63) (k := 11) (x := "script") (CX := fun _ => CX0) (sp := fun w => spLaw (K w.params)) hn (by decide) hdf ⟨rfl, by decide, by decide⟩ hY F (fun _ _ a ns hl _ hS => ⟨a, ns, rfl, hS, hl, fun _ => rfl⟩) fun _ _ _ _ _ z => z
end K0
open PySem PySem.W PyProof.Rows in
set_option maxRecDepth 100000 in
set_option maxHeartbeats 0 in
theorem PySem.Challenge.cw_shownrun_k01_polys_by_slow_sums_holds : PySem.Challenge.rw_shownrun_k01_polys_by_slow_sums.Holds := by
  w_on; o_law; k_head; (case hw => w_witness2)
  k_fill
  refine K0.walk (l := PySem.Challenge.rw_shownrun_k01_polys_by_slow_sums) rfl rfl (fun w h Y => PySem.W.kIn_of Y) ?F
  case F =>
    intro w mg fa h KX G hmg
    refine' K0.build KX G hmg ?gC ?D_worths_of ?D_inverse ?D_trimmed ?D_padded ?D_added ?D_multiplied ?D_worth_at ?D_with_roots ?D_without_root ?D_box ?D_draw ?D_of ?D_same ?D_prime ?D_number ?D_raised ?D_law_inverse ?D_worth ?D_trim ?D_product ?D_divide ?D_coefs ?D_poly ?D_is_poly ?D_total ?D_split ?D_division ?D_line ?D_worths ?D_equals ?D_law ?M_m_init ?M_m_through ?M_m_degree ?M_m_call ?M_m_add ?M_m_sub ?M_m_mul ?M_m_scaled ?M_m_stepped ?M_m_divided ?M_m_eq ?M_m_repr ?cl ?n_coefficients ?n_p ?sf ?mo ?ne_ ?ca ?cn ?ct ?kk ?nf_tuple ?k_tuple ?nf_str ?k_str ?nf_NoneType ?k_NoneType ?nf_Poly ?kP_tuple ?z_ZeroDivisionError ?z_abs ?z_all ?z_bool ?z_enumerate ?z_int ?z_isinstance ?z_len ?z_list ?z_max ?z_min ?z_range ?z_repr ?z_reversed ?z_str ?z_tuple ?z_zip
    (case gC => first | k_is | rfl | decide +kernel)
    (case D_worths_of => refine' K0.def_ex KX G ?a ?l ?c ?k; (case a => k_is); (case l => k_is); (case c => k_is); (case k => k_is))
    (case D_inverse => refine' K0.def_ex KX G ?a ?l ?c ?k; (case a => k_is); (case l => k_is); (case c => k_is); (case k => k_is))
    (case D_trimmed => refine' K0.def_ex KX G ?a ?l ?c ?k; (case a => k_is); (case l => k_is); (case c => k_is); (case k => k_is))
    (case D_padded => refine' K0.def_ex KX G ?a ?l ?c ?k; (case a => k_is); (case l => k_is); (case c => k_is); (case k => k_is))
    (case D_added => refine' K0.def_ex KX G ?a ?l ?c ?k; (case a => k_is); (case l => k_is); (case c => k_is); (case k => k_is))
    (case D_multiplied => refine' K0.def_ex KX G ?a ?l ?c ?k; (case a => k_is); (case l => k_is); (case c => k_is); (case k => k_is))
    (case D_worth_at => refine' K0.def_ex KX G ?a ?l ?c ?k; (case a => k_is); (case l => k_is); (case c => k_is); (case k => k_is))
    (case D_with_roots => refine' K0.def_ex KX G ?a ?l ?c ?k; (case a => k_is); (case l => k_is); (case c => k_is); (case k => k_is))
    (case D_without_root => refine' K0.def_ex KX G ?a ?l ?c ?k; (case a => k_is); (case l => k_is); (case c => k_is); (case k => k_is))
    (case D_box => refine' K0.def_ex KX G ?a ?l ?c ?k; (case a => k_is); (case l => k_is); (case c => k_is); (case k => k_is))
    (case D_draw => refine' K0.def_ex KX G ?a ?l ?c ?k; (case a => k_is); (case l => k_is); (case c => k_is); (case k => k_is))
    (case D_of => refine' K0.def_ex KX G ?a ?l ?c ?k; (case a => k_is); (case l => k_is); (case c => k_is); (case k => k_is))
    (case D_same => refine' K0.def_ex KX G ?a ?l ?c ?k; (case a => k_is); (case l => k_is); (case c => k_is); (case k => k_is))
    (case D_prime => refine' K0.def_ex KX G ?a ?l ?c ?k; (case a => k_is); (case l => k_is); (case c => k_is); (case k => k_is))
    (case D_number => refine' K0.def_ex KX G ?a ?l ?c ?k; (case a => k_is); (case l => k_is); (case c => k_is); (case k => k_is))
    (case D_raised => refine' K0.def_ex KX G ?a ?l ?c ?k; (case a => k_is); (case l => k_is); (case c => k_is); (case k => k_is))
    (case D_law_inverse => refine' K0.def_ex KX G ?a ?l ?c ?k; (case a => k_is); (case l => k_is); (case c => k_is); (case k => k_is))
    (case D_worth => refine' K0.def_ex KX G ?a ?l ?c ?k; (case a => k_is); (case l => k_is); (case c => k_is); (case k => k_is))
    (case D_trim => refine' K0.def_ex KX G ?a ?l ?c ?k; (case a => k_is); (case l => k_is); (case c => k_is); (case k => k_is))
    (case D_product => refine' K0.def_ex KX G ?a ?l ?c ?k; (case a => k_is); (case l => k_is); (case c => k_is); (case k => k_is))
    (case D_divide => refine' K0.def_ex KX G ?a ?l ?c ?k; (case a => k_is); (case l => k_is); (case c => k_is); (case k => k_is))
    (case D_coefs => refine' K0.def_ex KX G ?a ?l ?c ?k; (case a => k_is); (case l => k_is); (case c => k_is); (case k => k_is))
    (case D_poly => refine' K0.def_ex KX G ?a ?l ?c ?k; (case a => k_is); (case l => k_is); (case c => k_is); (case k => k_is))
    (case D_is_poly => refine' K0.def_ex KX G ?a ?l ?c ?k; (case a => k_is); (case l => k_is); (case c => k_is); (case k => k_is))
    (case D_total => refine' K0.def_ex KX G ?a ?l ?c ?k; (case a => k_is); (case l => k_is); (case c => k_is); (case k => k_is))
    (case D_split => refine' K0.def_ex KX G ?a ?l ?c ?k; (case a => k_is); (case l => k_is); (case c => k_is); (case k => k_is))
    (case D_division => refine' K0.def_ex KX G ?a ?l ?c ?k; (case a => k_is); (case l => k_is); (case c => k_is); (case k => k_is))
    (case D_line => refine' K0.def_ex KX G ?a ?l ?c ?k; (case a => k_is); (case l => k_is); (case c => k_is); (case k => k_is))
    (case D_worths => refine' K0.def_ex KX G ?a ?l ?c ?k; (case a => k_is); (case l => k_is); (case c => k_is); (case k => k_is))
    (case D_equals => refine' K0.def_ex KX G ?a ?l ?c ?k; (case a => k_is); (case l => k_is); (case c => k_is); (case k => k_is))
    (case D_law => refine' K0.def_ex KX G ?a ?l ?c ?k; (case a => k_is); (case l => k_is); (case c => k_is); (case k => k_is))
    (case M_m_init => refine' K0.ini_ex ?mk ?a ?n ?kc ?l ?c ?k ?lT ?l0; (case mk => k_is); (case a => k_is); (case n => k_is); (case kc => k_is); (case l => k_is); (case c => k_is); (case k => k_is); (case lT => k_is); (case l0 => k_is))
    (case M_m_through => refine' K0.st_ex ?ty ?rd ?ga ?a ?r ?l ?c ?k; (case ty => k_is); (case rd => k_is); (case ga => k_is); (case a => k_is); (case r => k_is); (case l => k_is); (case c => k_is); (case k => k_is))
    (case M_m_degree => refine' K0.prop_ex ?a ?g ?t ?r ?l ?c ?k; (case a => k_is); (case g => k_is); (case t => k_is); (case r => k_is); (case l => k_is); (case c => k_is); (case k => k_is))
    (case M_m_call => refine' K0.call_ex ?a ?n ?i ?l ?c ?k; (case a => k_is); (case n => k_is); (case i => k_is); (case l => k_is); (case c => k_is); (case k => k_is))
    (case M_m_add => refine' K0.own_ex ?a ?n ?l ?c ?k; (case a => k_is); (case n => k_is); (case l => k_is); (case c => k_is); (case k => k_is))
    (case M_m_sub => refine' K0.own_ex ?a ?n ?l ?c ?k; (case a => k_is); (case n => k_is); (case l => k_is); (case c => k_is); (case k => k_is))
    (case M_m_mul => refine' K0.own_ex ?a ?n ?l ?c ?k; (case a => k_is); (case n => k_is); (case l => k_is); (case c => k_is); (case k => k_is))
    (case M_m_scaled => refine' K0.meth_ex ?a ?n ?l ?c ?k; (case a => k_is); (case n => k_is); (case l => k_is); (case c => k_is); (case k => k_is))
    (case M_m_stepped => refine' K0.meth_ex ?a ?n ?l ?c ?k; (case a => k_is); (case n => k_is); (case l => k_is); (case c => k_is); (case k => k_is))
    (case M_m_divided => refine' K0.meth_ex ?a ?n ?l ?c ?k; (case a => k_is); (case n => k_is); (case l => k_is); (case c => k_is); (case k => k_is))
    (case M_m_eq => refine' K0.own_ex ?a ?n ?l ?c ?k; (case a => k_is); (case n => k_is); (case l => k_is); (case c => k_is); (case k => k_is))
    (case M_m_repr => refine' K0.own_ex ?a ?n ?l ?c ?k; (case a => k_is); (case n => k_is); (case l => k_is); (case c => k_is); (case k => k_is))
    (case cl => refine' ⟨?a, ?b, ?c, ?d⟩; (case a => k_is); (case b => k_is); (case c => k_is); (case d => k_is))
    (case n_coefficients => first | k_is | rfl | decide +kernel)
    (case n_p => first | k_is | rfl | decide +kernel)
    (case sf => first | k_is | rfl | decide +kernel)
    (case mo => first | k_is | rfl | decide +kernel)
    (case ne_ => first | k_is | rfl | decide +kernel)
    (case ca => first | k_is | rfl | decide +kernel)
    (case cn => first | k_is | rfl | decide +kernel)
    (case ct => first | k_is | rfl | decide +kernel)
    (case kk => first | k_is | rfl | decide +kernel)
    (case nf_tuple => first | k_is | rfl | decide +kernel)
    (case k_tuple => first | k_is | rfl | decide +kernel)
    (case nf_str => first | k_is | rfl | decide +kernel)
    (case k_str => first | k_is | rfl | decide +kernel)
    (case nf_NoneType => first | k_is | rfl | decide +kernel)
    (case k_NoneType => first | k_is | rfl | decide +kernel)
    (case nf_Poly => first | k_is | rfl | decide +kernel)
    (case kP_tuple => first | k_is | rfl | decide +kernel)
    (case z_ZeroDivisionError => first | k_is | rfl | decide +kernel)
    (case z_abs => first | k_is | rfl | decide +kernel)
    (case z_all => first | k_is | rfl | decide +kernel)
    (case z_bool => first | k_is | rfl | decide +kernel)
    (case z_enumerate => first | k_is | rfl | decide +kernel)
    (case z_int => first | k_is | rfl | decide +kernel)
    (case z_isinstance => first | k_is | rfl | decide +kernel)
    (case z_len => first | k_is | rfl | decide +kernel)
    (case z_list => first | k_is | rfl | decide +kernel)
    (case z_max => first | k_is | rfl | decide +kernel)
    (case z_min => first | k_is | rfl | decide +kernel)
    (case z_range => first | k_is | rfl | decide +kernel)
    (case z_repr => first | k_is | rfl | decide +kernel)
    (case z_reversed => first | k_is | rfl | decide +kernel)
    (case z_str => first | k_is | rfl | decide +kernel)
    (case z_tuple => first | k_is | rfl | decide +kernel)
    (case z_zip => first | k_is | rfl | decide +kernel)

