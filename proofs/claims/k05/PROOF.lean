import PyProof.Rows.All
import Wide.All
import OpenK.AllK
import Wide.FinOn
import HandS.Sort
import HandS.ForMost
import HandS.Star
import HandS.SlotsOwn
import HandS.IsInst
import PyProof.InstNe
import HandS.More
import HandS.ClsMeth
import HandS.Defaults
import HandS.NoneIn
import KE.GoesMore
import KE.GoesEnum
import HandS.Zip
import KE.GoesZip
import HandS.Deep
import HandS.TupMul
import HandS.TupSets
import KE.DataFind
import HandS.Wide
import HandS.Conv
import HandS.Style
import HandS.Codes
import HandS.Rev
import HandS.TupAny
import HandS.FStr
import HandS.Property
import HandS.MakeKw
import HandS.MakeKwOnly
import HandS.ForExc
import HandS.ExcInit
import HandS.ExcBuiltin
import HandS.TryOnly
import KE.KDictPairs
import HandS.Ends
import PySem.Challenge.RW_shownrun_k05_bags_told
set_option Elab.async false
set_option linter.all false
set_option maxRecDepth 100000
namespace K0
/-! mathematics: primes by trial, the inverse, the power -/
def Prm (p : Int) : Prop := 1 < p ∧ ∀ d : Int, d ∣ p → d.natAbs = 1 ∨ d.natAbs = p.natAbs
/-- no d with lo ≤ d < lo + 2 ^ k divides n -/
def clear (n : Nat) : Nat → Nat → Bool
  | 0, lo => n % lo != 0
  | k + 1, lo => clear n k lo && clear n k (lo + 2 ^ k)
theorem clear_ok {n : Nat} : ∀ {k lo : Nat}, clear n k lo = true → ∀ d, lo ≤ d → d < lo + 2 ^ k → ¬ d ∣ n
  | 0, lo, h, d, h1, h2, hd => by
    have e : d = lo := by
      have : (2:Nat) ^ 0 = 1 := rfl
      omega
    subst e
    have := Nat.mod_eq_zero_of_dvd hd
    simp [clear, this] at h
  | k + 1, lo, h, d, h1, h2, hd => by
    unfold clear at h
    rw [Bool.and_eq_true] at h
    by_cases c : d < lo + 2 ^ k
    · exact clear_ok h.1 d h1 c hd
    · refine clear_ok h.2 d (by omega) ?_ hd
      have : (2:Nat) ^ (k + 1) = 2 ^ k + 2 ^ k := by rw [Nat.pow_succ]; omega
      omega
theorem prm_of {n k : Nat} (h1 : 1 < n) (hk : n < (2 + 2 ^ k) * (2 + 2 ^ k)) (h : clear n k 2 = true) : Prm (n : Int) := by
  refine ⟨by omega, fun d hd => ?_⟩
  have hd' : d.natAbs ∣ n := by
    have := Int.natAbs_dvd_natAbs.mpr hd
    simpa using this
  obtain ⟨c, hc⟩ := hd'
  have key : ∀ e : Nat, e ∣ n → 2 ≤ e → 2 + 2 ^ k ≤ e := fun e he h2 => by
    by_cases z : e < 2 + 2 ^ k
    · exact absurd he (clear_ok h e h2 z)
    · omega
  by_cases a1 : d.natAbs = 1
  · exact .inl a1
  · right
    have d0 : d.natAbs ≠ 0 := fun z => by rw [z, Nat.zero_mul] at hc; omega
    by_cases c1 : c = 1
    · rw [c1, Nat.mul_one] at hc
      simp [hc]
    · have c0 : c ≠ 0 := fun z => by rw [z, Nat.mul_zero] at hc; omega
      have k1 := key d.natAbs ⟨c, hc⟩ (by omega)
      have k2 := key c ⟨d.natAbs, by rw [Nat.mul_comm]; exact hc⟩ (by omega)
      have := Nat.mul_le_mul k1 k2
      omega
/-- small primes: every smaller number from 2 on tried -/
theorem prm_small {n : Nat} (h1 : 1 < n) (h : ∀ d, d < n → 2 ≤ d → n % d ≠ 0) : Prm (n : Int) := by
  refine ⟨by omega, fun d hd => ?_⟩
  have hd' : d.natAbs ∣ n := by
    have := Int.natAbs_dvd_natAbs.mpr hd
    simpa using this
  have le := Nat.le_of_dvd (by omega) hd'
  by_cases a1 : d.natAbs = 1
  · exact .inl a1
  · right
    by_cases c : d.natAbs = n
    · simpa using c
    · have d0 : d.natAbs ≠ 0 := fun z => by
        rw [z] at hd'
        have := Nat.eq_zero_of_zero_dvd hd'
        omega
      exact absurd (Nat.mod_eq_zero_of_dvd hd') (h d.natAbs (by omega) (by omega))
def primes : List Int := [2, 3, 5, 7, 11, 13, 17, 31, 97, 193, 257, 769, 7681, 12289, 998244353, 2013265921, 9999999967]
theorem prm_all : ∀ p ∈ primes, Prm p := by
  intro p hp
  simp only [primes, List.mem_cons, List.not_mem_nil, or_false] at hp
  rcases hp with rfl | rfl | rfl | rfl | rfl | rfl | rfl | rfl | rfl | rfl | rfl | rfl | rfl | rfl | rfl | rfl | rfl
  · exact prm_small (n := 2) (by decide) (by decide +kernel)
  · exact prm_small (n := 3) (by decide) (by decide +kernel)
  · exact prm_small (n := 5) (by decide) (by decide +kernel)
  · exact prm_small (n := 7) (by decide) (by decide +kernel)
  · exact prm_small (n := 11) (by decide) (by decide +kernel)
  · exact prm_small (n := 13) (by decide) (by decide +kernel)
  · exact prm_small (n := 17) (by decide) (by decide +kernel)
  · exact prm_small (n := 31) (by decide) (by decide +kernel)
  · exact prm_small (n := 97) (by decide) (by decide +kernel)
  · exact prm_small (n := 193) (by decide) (by decide +kernel)
  · exact prm_small (n := 257) (by decide) (by decide +kernel)
  · exact prm_small (n := 769) (by decide) (by decide +kernel)
  · exact prm_of (n := 7681) (k := 7) (by decide) (by decide +kernel) (by decide +kernel)
  · exact prm_of (n := 12289) (k := 7) (by decide) (by decide +kernel) (by decide +kernel)
  · exact prm_of (n := 998244353) (k := 15) (by decide) (by decide +kernel) (by decide +kernel)
  · exact prm_of (n := 2013265921) (k := 16) (by decide) (by decide +kernel) (by decide +kernel)
  · exact prm_of (n := 9999999967) (k := 17) (by decide) (by decide +kernel) (by decide +kernel)
theorem primes_lt : ∀ p ∈ primes, 1 < p ∧ p < 10 ^ 10 := by decide +kernel

/-! ### the inverse -/
theorem dvd_ml {a b : Int} (c : Int) (h : a ∣ b) : a ∣ c * b := by
  obtain ⟨k, rfl⟩ := h
  exact ⟨c * k, by rw [Int.mul_left_comm]⟩
/-- what holds between two turns -/
structure InvI (w p low high one other : Int) : Prop where
  l0 : 0 ≤ low
  lh : low < high
  hp : high ≤ p
  h1 : 1 < high
  e1 : p ∣ one * w - low
  e2 : p ∣ other * w - high
  co : ∀ d : Int, d ∣ low → d ∣ high → d ∣ 1
theorem inv_start {w p : Int} (P : Prm p) (h : w % p ≠ 0) : InvI w p (w % p) p 1 0 := by
  have p1 := P.1
  have a := Int.emod_nonneg w (show p ≠ 0 by omega)
  have b := Int.emod_lt_of_pos w (show 0 < p by omega)
  refine ⟨a, b, Int.le_refl _, p1, ?_, ?_, fun d h1 h2 => ?_⟩
  · rw [Int.one_mul]
    exact Int.dvd_self_sub_emod
  · rw [Int.zero_mul, Int.zero_sub]
    exact Int.dvd_neg.mpr (Int.dvd_refl p)
  · rcases P.2 d h2 with q | q
    · have : d ∣ 1 := Int.natAbs_dvd_natAbs.mp (by rw [q]; exact Nat.dvd_refl 1)
      exact this
    · exfalso
      have z : p.natAbs ∣ (w % p).natAbs := by rw [← q]; exact Int.natAbs_dvd_natAbs.mpr h1
      have le := Nat.le_of_dvd (by omega) z
      omega
theorem inv_turn {w p low high one other : Int} (I : InvI w p low high one other) (h : 1 < low) :
    InvI w p (high - high / low * low) low (other - high / low * one) one ∧ (high - high / low * low).toNat < low.toNat := by
  have m := Int.emod_nonneg high (show low ≠ 0 by omega)
  have m2 := Int.emod_lt_of_pos high (show 0 < low by omega)
  have e : high - high / low * low = high % low := by
    have := Int.mul_ediv_add_emod high low
    rw [Int.mul_comm]
    omega
  refine ⟨⟨by omega, by omega, by have := I.lh; have := I.hp; omega, h, ?_, I.e1, fun d h1 h2 => ?_⟩, by omega⟩
  · have q := Int.dvd_sub I.e2 (dvd_ml (high / low) I.e1)
    have e3 : (other - high / low * one) * w - (high - high / low * low) = other * w - high - high / low * (one * w - low) := by
      rw [Int.sub_mul, Int.mul_sub, Int.mul_assoc]
      omega
    rw [e3]
    exact q
  · refine I.co d h2 ?_
    have q := Int.dvd_add h1 (dvd_ml (high / low) h2)
    have : high - high / low * low + high / low * low = high := by omega
    rw [this] at q
    exact q
theorem inv_end {w p low high one other : Int} (I : InvI w p low high one other) (h : ¬ 1 < low) :
    0 < one % p ∧ one % p < p ∧ (one % p * w) % p = 1 := by
  have l0 := I.l0
  have p1 : 1 < p := Int.lt_of_lt_of_le I.h1 I.hp
  have l1 : low = 1 := by
    by_cases z : low = 0
    · exfalso
      have := I.co high (by rw [z]; exact Int.dvd_zero _) (Int.dvd_refl _)
      have := Int.le_of_dvd (by omega) this
      have := I.h1
      omega
    · omega
  have a := Int.emod_nonneg one (show p ≠ 0 by omega)
  have b := Int.emod_lt_of_pos one (show 0 < p by omega)
  have c : (one % p * w) % p = 1 := by
    have e1 := I.e1
    rw [l1] at e1
    have : (one * w) % p = 1 % p := Int.emod_eq_emod_iff_emod_sub_eq_zero.mpr (Int.emod_eq_zero_of_dvd e1)
    rw [Int.mul_emod, Int.emod_emod, ← Int.mul_emod, this]
    exact Int.emod_eq_of_lt (by omega) p1
  refine ⟨?_, b, c⟩
  by_cases z : one % p = 0
  · rw [z, Int.zero_mul, Int.zero_emod] at c
    omega
  · omega

/-! ### the power -/
theorem pow_turn1 {p made base : Int} {n : Nat} : (made * base ^ (2 * n + 1)) % p = ((made * base % p) * (base * base % p) ^ n) % p := by
  have e : made * base ^ (2 * n + 1) = (made * base) * (base * base) ^ n := by
    rw [Int.pow_succ, Int.pow_mul, show base ^ 2 = base * base by rw [Int.pow_succ, Int.pow_succ, Int.pow_zero, Int.one_mul]]
    rw [Int.mul_comm ((base * base) ^ n) base, Int.mul_assoc]
  have pm : ∀ m : Nat, ∀ x : Int, (x % p) ^ m % p = x ^ m % p := by
    intro m x
    induction m with
    | zero => rw [Int.pow_zero, Int.pow_zero]
    | succ m ih => rw [Int.pow_succ, Int.pow_succ, Int.mul_emod, ih, Int.emod_emod, ← Int.mul_emod]
  rw [e, Int.mul_emod, ← pm n (base * base), ← Int.mul_emod, Int.mul_emod (made * base % p), Int.emod_emod, ← Int.mul_emod]
theorem pow_turn0 {p made base : Int} {n : Nat} : (made * base ^ (2 * n)) % p = (made * (base * base % p) ^ n) % p := by
  have e : base ^ (2 * n) = (base * base) ^ n := by
    rw [Int.pow_mul, show base ^ 2 = base * base by rw [Int.pow_succ, Int.pow_succ, Int.pow_zero, Int.one_mul]]
  have pm : ∀ m : Nat, ∀ x : Int, (x % p) ^ m % p = x ^ m % p := by
    intro m x
    induction m with
    | zero => rw [Int.pow_zero, Int.pow_zero]
    | succ m ih => rw [Int.pow_succ, Int.pow_succ, Int.mul_emod, ih, Int.emod_emod, ← Int.mul_emod]
  rw [e, Int.mul_emod, ← pm n (base * base), ← Int.mul_emod]
theorem pow_mod (p x : Int) (m : Nat) : (x % p) ^ m % p = x ^ m % p := by
  induction m with
  | zero => rw [Int.pow_zero, Int.pow_zero]
  | succ m ih => rw [Int.pow_succ, Int.pow_succ, Int.mul_emod, ih, Int.emod_emod, ← Int.mul_emod]
structure InvP (w : Int) (n : Nat) (p made base left : Int) : Prop where
  m0 : 0 ≤ made
  m1 : made < p
  b0 : 0 ≤ base
  b1 : base < p
  l0 : 0 ≤ left
  e : (made * base ^ left.toNat) % p = w ^ n % p
theorem powi_start {w p : Int} (n : Nat) (h : 1 < p) : InvP w n p 1 (w % p) (n : Int) :=
  ⟨by omega, h, Int.emod_nonneg w (by omega), Int.emod_lt_of_pos w (by omega), by omega, by rw [Int.one_mul, Int.toNat_natCast, pow_mod]⟩
theorem powi_turn1 {w p made base left : Int} {n : Nat} (I : InvP w n p made base left) (h : 0 < left) (o : left % 2 = 1) : InvP w n p (made * base % p) (base * base % p) (left / 2) := by
  have p0 : 0 < p := Int.lt_of_le_of_lt I.m0 I.m1
  refine ⟨Int.emod_nonneg _ (by omega), Int.emod_lt_of_pos _ p0, Int.emod_nonneg _ (by omega), Int.emod_lt_of_pos _ p0, by omega, ?_⟩
  have q := I.e
  have : left.toNat = 2 * (left / 2).toNat + 1 := by omega
  rw [this, pow_turn1] at q
  exact q
theorem powi_turn0 {w p made base left : Int} {n : Nat} (I : InvP w n p made base left) (h : 0 < left) (o : ¬ left % 2 = 1) : InvP w n p made (base * base % p) (left / 2) := by
  have p0 : 0 < p := Int.lt_of_le_of_lt I.m0 I.m1
  refine ⟨I.m0, I.m1, Int.emod_nonneg _ (by omega), Int.emod_lt_of_pos _ p0, by omega, ?_⟩
  have q := I.e
  have : left.toNat = 2 * (left / 2).toNat := by omega
  rw [this, pow_turn0] at q
  exact q
theorem powi_end {w p made base left : Int} {n : Nat} (I : InvP w n p made base left) (h : ¬ 0 < left) : made = w ^ n % p := by
  have q := I.e
  have : left.toNat = 0 := by have := I.l0; omega
  rw [this, Int.pow_zero, Int.mul_one, Int.emod_eq_of_lt I.m0 I.m1] at q
  exact q
theorem due_start {w p : Int} (h : 1 < p) : (1 : Int) = w ^ 0 % p := by
  rw [Int.pow_zero, Int.emod_eq_of_lt (by omega) h]
theorem due_turn {w p : Int} (i : Nat) : (w ^ i % p * w) % p = w ^ (i + 1) % p := by
  rw [Int.pow_succ, Int.mul_emod, Int.emod_emod, ← Int.mul_emod]
end K0

set_option maxRecDepth 100000
/-! bags of lists of ints, in Lean alone -/
namespace BM
open TS
abbrev B10 : Int := 10000000000
/-- d ints, each a worth -/
def Ok (d : Nat) (n : List Int) : Prop := n.length = d ∧ Bd B10 n
def le (a b : List Int) : Bool := decide (code B10 a ≤ code B10 b)
def srt (l : List (List Int)) : List (List Int) := l.mergeSort le
theorem srt_perm (l : List (List Int)) : (srt l).Perm l := List.mergeSort_perm l le
abbrev Asc (l : List (List Int)) : Prop := l.Pairwise fun a b => code B10 a ≤ code B10 b
theorem srt_asc (l : List (List Int)) : Asc (srt l) := by
  have h := List.pairwise_mergeSort (le := le) (fun a b c h1 h2 => by
    have h1 := of_decide_eq_true h1
    have h2 := of_decide_eq_true h2
    exact decide_eq_true (Int.le_trans h1 h2)) (fun a b => by
    unfold le
    rcases Int.le_total (code B10 a) (code B10 b) with h | h
    · rw [decide_eq_true h]; rfl
    · rw [decide_eq_true h, Bool.or_true]) l
  exact h.imp fun h => of_decide_eq_true h
theorem code_inj {B : Int} : ∀ {a b : List Int}, a.length = b.length → Bd B a → Bd B b → code B a = code B b → a = b
  | [], [], _, _, _, _ => rfl
  | x :: a, y :: b, hl, ha, hb, h => by
    have hl' : a.length = b.length := by simpa using hl
    rcases Int.lt_trichotomy x y with c | c | c
    · have := code_lt hl' ha.tail hb.tail c
      omega
    · subst c
      have h' : x * B ^ a.length + code B a = x * B ^ b.length + code B b := h
      rw [hl'] at h'
      rw [code_inj hl' ha.tail hb.tail (by omega)]
    · have := code_lt hl'.symm hb.tail ha.tail c
      omega
theorem asc_uniq {d : Nat} : ∀ {l m : List (List Int)}, (∀ a ∈ l, Ok d a) → l.Perm m → Asc l → Asc m → l = m
  | [], m, _, p, _, _ => (List.nil_perm.mp p).symm
  | a :: l, [], _, p, _, _ => by have := p.length_eq; simp at this
  | a :: l, b :: m, ho, p, h1, h2 => by
    have q1 := List.pairwise_cons.mp h1
    have q2 := List.pairwise_cons.mp h2
    have oa := ho a List.mem_cons_self
    have ob := ho b (p.mem_iff.mpr List.mem_cons_self)
    have e : a = b := by
      refine code_inj (by rw [oa.1, ob.1]) oa.2 ob.2 (Int.le_antisymm ?_ ?_)
      · rcases List.mem_cons.mp (p.mem_iff.mpr List.mem_cons_self : b ∈ a :: l) with z | z
        · rw [z]
          exact Int.le_refl _
        · exact q1.1 b z
      · rcases List.mem_cons.mp (p.mem_iff.mp List.mem_cons_self : a ∈ b :: m) with z | z
        · rw [z]
          exact Int.le_refl _
        · exact q2.1 a z
    subst e
    rw [asc_uniq (fun x hx => ho x (List.mem_cons_of_mem _ hx)) p.cons_inv q1.2 q2.2]
theorem srt_of {d : Nat} {l ys : List (List Int)} (ho : ∀ a ∈ l, Ok d a) (p : ys.Perm l) (s : Asc ys) : ys = srt l :=
  asc_uniq (fun a ha => ho a (p.mem_iff.mp ha)) (p.trans (srt_perm l).symm) s (srt_asc l)
theorem srt_eq {d : Nat} {l m : List (List Int)} (ho : ∀ a ∈ l, Ok d a) (p : l.Perm m) : srt l = srt m :=
  srt_of (fun a ha => ho a (p.mem_iff.mpr ha)) ((srt_perm l).trans p) (srt_asc l)
theorem srt_ok {d : Nat} {l : List (List Int)} (ho : ∀ a ∈ l, Ok d a) : ∀ a ∈ srt l, Ok d a := fun a ha => ho a ((srt_perm l).mem_iff.mp ha)
theorem srt_len (l : List (List Int)) : (srt l).length = l.length := (srt_perm l).length_eq
theorem srt_iff {d : Nat} {l m : List (List Int)} (ho : ∀ a ∈ l, Ok d a) : srt l = srt m ↔ l.Perm m :=
  ⟨fun e => (srt_perm l).symm.trans (e ▸ srt_perm m), srt_eq ho⟩
/-! ### merging -/
def mrg (g p : Int) (n : List Int) : List Int := (n.getD 0 0 + g * n.getD 1 0) % p :: n.drop 2
theorem mrg_ok {d : Nat} {g p : Int} {n : List Int} (p0 : 0 < p) (p1 : p ≤ B10) (h : Ok (d + 2) n) : Ok (d + 1) (mrg g p n) := by
  refine ⟨?_, fun m hm => ?_⟩
  · show (n.drop 2).length + 1 = d + 1
    rw [List.length_drop, h.1]
    omega
  · rcases List.mem_cons.mp hm with rfl | hm
    · have := Int.emod_nonneg (n.getD 0 0 + g * n.getD 1 0) (show p ≠ 0 by omega)
      have := Int.emod_lt_of_pos (n.getD 0 0 + g * n.getD 1 0) p0
      exact ⟨by omega, by omega⟩
    · exact h.2 m (List.mem_of_mem_drop hm)
/-! ### products -/
def stepP (p z t : Int) (n : List Int) : Int := t * (z - n.getD 0 0) % p
def prd (p z : Int) (l : List (List Int)) : Int := l.foldl (stepP p z) 1
theorem stepP_comm (p z t : Int) (a b : List Int) : stepP p z (stepP p z t a) b = stepP p z (stepP p z t b) a := by
  unfold stepP
  rw [Int.mul_emod, Int.emod_emod_of_dvd _ (Int.dvd_refl p), ← Int.mul_emod, Int.mul_emod (t * (z - b.getD 0 0) % p), Int.emod_emod_of_dvd _ (Int.dvd_refl p), ← Int.mul_emod]
  congr 1
  rw [Int.mul_assoc, Int.mul_assoc, Int.mul_comm (z - a.getD 0 0)]
theorem prd_perm {p z : Int} {l m : List (List Int)} (h : l.Perm m) : prd p z l = prd p z m := by
  unfold prd
  have key : ∀ t, l.foldl (stepP p z) t = m.foldl (stepP p z) t := by
    induction h with
    | nil => intro t; rfl
    | cons x _ ih => intro t; exact ih _
    | swap x y l =>
      intro t
      show l.foldl (stepP p z) (stepP p z (stepP p z t y) x) = l.foldl (stepP p z) (stepP p z (stepP p z t x) y)
      rw [stepP_comm]
    | trans _ _ h1 h2 => intro t; rw [h1, h2]
  exact key 1
end BM

set_option maxRecDepth 100000
set_option maxHeartbeats 4000000
/-! operators, ==, !=, repr of instances whose class has a def for them -/
namespace OV
open PySem PySem.Spec PyProof.Rows L2
section
variable {X : Cx} {CX : CXT} {C g : Addr} {n : Nat} {sp : Sp} {E : XK}
/-- x op y, both instances of C -/
def rBin (C : Addr) (sp : Sp) (E : XK) : R2 := fun x y H Q => ∃ (a b dx dy : Addr) (fs gs : List (Str × V)), x = .ref a ∧ y = .ref b ∧ H a = some (.ins C dx fs) ∧ H b = some (.ins C dy gs) ∧ sp [x, y] H Q E
theorem op_bin {op : Operator} (hc : PySem.W.selfFirst X.K C = true) (hs : PySem.W.findIn X.K (.ref C) (PySem.dunder op.info.2) = some (some (.ref g))) (hf : PySem.W.isFn X.K (.ref g) = true) (F : FnR X.prog X.w X.K X.mg X.base CX n g sp)
    (hr : Room n X.A) (hx : Passes CX X E) : OpR X (binaryOp op) (rBin C sp E) := by
  intro pins s σ H x y v u Q I rx ry h
  obtain ⟨a, b, dx, dy, fs, gs, rfl, rfl, ha, hb, q⟩ := h
  cases (show v = Value.ref a from rx)
  cases (show u = Value.ref b from ry)
  obtain ⟨ox, od, J, _⟩ := StX.insC_at I (.inr ⟨dx, fs, ha⟩)
  obtain ⟨oy, oe, J', _⟩ := StX.insC_at I (.inr ⟨dy, gs, hb⟩)
  obtain ⟨m, hF⟩ := I.fr
  refine PySem.W.binop_K hF I.ok.mod.kin J J'.type hc hs hf ?_
  refine wpAny_mono (wpAny_call (run_fnR (us := [.ref a, .ref b]) (vs := [.ref a, .ref b]) F hr hx I (.cons rfl (.cons rfl .nil)) q)) (fun w s' z => ?_) fun _ _ x => x
  obtain ⟨z', H', I', rz, qz⟩ := z
  exact SlX.cmpback rz ⟨z', H', I', rz, qz⟩
/-- x == y, x an instance of C, y anything that is no instance of a class below -/
def rEqO (K : PySem.W.Frag) (C : Addr) (sp : Sp) (E : XK) : R2 := fun x y H Q => ∃ (a dx : Addr) (fs : List (Str × V)) (t : Value), x = .ref a ∧ H a = some (.ins C dx fs) ∧ TyX K H y t ∧ PySem.W.notFirst K C t = true ∧ sp [x, y] H Q E
theorem op_eqO {op : CmpOp} (hop : ∀ a b, compareOp op a b = richCompare op a b) (hs : PySem.W.findIn X.K (.ref C) (cmpInfo op).2.1 = some (some (.ref g))) (hf : PySem.W.isFn X.K (.ref g) = true) (F : FnR X.prog X.w X.K X.mg X.base CX n g sp)
    (hr : Room n X.A) (hx : Passes CX X E) : OpR X (compareOp op) (rEqO X.K C sp E) := by
  intro pins s σ H x y v u Q I rx ry h
  obtain ⟨a, dx, fs, t, rfl, ha, ty, hn, q⟩ := h
  cases (show v = Value.ref a from rx)
  obtain ⟨ox, od, J, _⟩ := StX.insC_at I (.inr ⟨dx, fs, ha⟩)
  obtain ⟨PH, kx, ph, _⟩ := kit_of I ry ty
  obtain ⟨m, hF⟩ := I.fr
  rw [hop]
  refine PySem.W.cmp_K (op := op) (tb := t) hr.units0 hF I.ok.mod.kin J (kx.ty _ _ I.kIn ph) hn hs hf ?_
  refine wpAny_mono (wpAny_call (run_fnR (us := [.ref a, u]) (vs := [.ref a, y]) F hr hx I (.cons rfl (.cons ry .nil)) q)) (fun w s' z => ?_) fun _ _ x => x
  obtain ⟨z', H', I', rz, qz⟩ := z
  exact SlX.cmpback rz ⟨z', H', I', rz, qz⟩
/-- repr(x) -/
def rRepr (C : Addr) (sp : Sp) (E : XK) : List V → Hp → VK → Prop := fun xs H Q => ∃ (a dx : Addr) (fs : List (Str × V)), xs = [.ref a] ∧ H a = some (.ins C dx fs) ∧ sp [.ref a] H (fun z H' => ∃ t, z = .str t ∧ Q z H') E
theorem call_repr (hs : PySem.W.findIn X.K (.ref C) "__repr__" = some (some (.ref g))) (hf : PySem.W.isFn X.K (.ref g) = true) (F : FnR X.prog X.w X.K X.mg X.base CX n g sp)
    (hr : Room (n + 1) X.A) (hx : Passes CX X E) : CallR X (.builtin "repr") (rRepr C sp E) := by
  intro pins s σ H xs us Q I r h
  obtain ⟨a, dx, fs, rfl, ha, q⟩ := h
  obtain ⟨u, rfl, ru⟩ := r.one
  cases (show u = Value.ref a from ru)
  obtain ⟨ox, od, J, _⟩ := StX.insC_at I (.inr ⟨dx, fs, ha⟩)
  obtain ⟨m, hF⟩ := I.fr
  have hr2 : Room n X.A.in1 := Room.in1 hr
  refine PySem.W.repr_K hr2.units0 hF I.ok.mod.kin J hs hf ?_
  refine wpAny_mono (wpAny_call (SlX.run_at (us := [.ref a]) (ws := [.ref a]) F hr2 I.env0.in1 hx I (.cons rfl .nil) q)) (fun w s' z => ?_) fun _ _ x => x
  obtain ⟨z', H', I', rz, t, ez, qz⟩ := z
  subst ez
  obtain ⟨tk, e⟩ := (show ∃ tk, w = Value.str t tk from rz)
  cases e
  exact ⟨.str t, H', I', ⟨tk, rfl⟩, qz⟩
end
end OV

set_option maxRecDepth 100000
set_option maxHeartbeats 4000000
/-! x != y where the class has its own == and no own != -/
namespace OV
open PySem PySem.Spec PyProof.Rows L2
section
variable {prog : Program} {w : World} {A : Around} {E : Value → Shared → Prop} {s : Shared} {K : PySem.W.Frag} {x C f L : Addr} {ox : Obj} {od : Option Obj} {h₀ : Heap} {m : Str → Option Value}
theorem bound_ne {M : Model} {args : List Value} {Q : Option Value → Shared → Prop} (X : K.In s.heap) (I : PySem.W.InstAt s.heap x ox C od) (hn : PySem.W.findIn K (.ref C) "__ne__" = some (some (.builtin "object.__ne__")))
    (h : wpAny M A (call (.builtin "object.__ne__") (.ref x :: args)) (fun v => Q (some v)) E s) : wpAny M A (callSpecialIfBound? (.ref x) "__ne__" args) Q E s := by
  have fin : wpAny M A (call (.builtin "object.__ne__") ([.ref x] ++ args) >>= fun v => pure (some v)) Q E s :=
    wpAny_bind (wpAny_mono h (fun v s' z => wpAny_pure z) fun _ _ z => z)
  simp only [callSpecialIfBound?, bindSpecialIfBound?]
  refine wpAny_holding (wpAny_bind (wpAny_bind (wpAny_bind (I.type.here
    ((PySem.W.looks_findIn X hn).here ?_)))))
  refine wpAny_bind (wpAny_askSetting
    (wpAny_ite ?_))
  split
  · exact wpAny_bind (wpAny_of_eq (F.cmp_object.ne.bind _)
      (wpAny_pure (by exact fin)))
  · exact wpAny_tryCatch (wpAny_bind (wpAny_of_eq (F.cmp_object.ne.bind _)
      (wpAny_pure (by exact fin))))
theorem entry_ne {b : Value} {Q : Fin → Shared → Prop} (hu : A.units < cLine) (X : K.In s.heap) (I : PySem.W.InstAt s.heap x ox C od) (hs : PySem.W.findIn K (.ref C) "__eq__" = some (some (.ref f))) (hf : PySem.W.isFn K (.ref f) = true)
    (h : wpAny (model prog w) A (call (.ref f) [.ref x, b]) (fun v s' => ∃ r, v = .bool r ∧ Q (.done (.ret (.bool (!r)))) s') E s) :
    wpAny (model prog w) A (Builtin.«object.__ne__» ⟨[.ref x, b], []⟩) Q E s := by
  have step : wpAny (model prog w) A (callSpecialIfBound? (.ref x) "__eq__" [b]) (fun o s' => ∃ r, o = some (.bool r) ∧ Q (.done (.ret (.bool (!r)))) s') E s :=
    PySem.W.ifBound_K X I hs hf (wpAny_mono h (fun v s' ⟨r, e, q⟩ => ⟨r, by rw [e], q⟩) fun _ _ z => z)
  unfold Builtin.«object.__ne__»
  repeat (first
    | with_reducible refine wpAny_cRoomFor hu ?_
    | (refine wpAny_bind (m := callSpecialIfBound? (.ref x) (Str.ofString "__eq__") [b]) (wpAny_mono step (fun o s' z => ?_) fun _ _ z => z); obtain ⟨r, rfl, q⟩ := z)
    | exact wpAny_bind (wpAny_truthy_bool (wpAny_pure q))
    | exact wpAny_pure q
    | wp_step)
theorem rc_ne {b tb : Value} {Q : Value → Shared → Prop} (hu : A.units + 1 < cLine) (F₀ : Fr h₀ L s.heap m) (X₀ : K.In h₀) (I : PySem.W.InstAt s.heap x ox C od) (hb : PySem.W.Looks (model prog w) s.heap (typeOf b) tb) (hn : PySem.W.notFirst K C tb = true)
    (hm : PySem.W.mroIn K C (.type "object") = some true) (hne : PySem.W.findIn K (.ref C) "__ne__" = some (some (.builtin "object.__ne__"))) (hs : PySem.W.findIn K (.ref C) "__eq__" = some (some (.ref f))) (hf : PySem.W.isFn K (.ref f) = true)
    (h : wpAny (model prog w) A.in1 (call (.ref f) [.ref x, b]) (fun v s' => ∃ r, v = .bool r ∧ Q (.bool (!r)) s') E s) : wpAny (model prog w) A (richCompare .NotEq (.ref x) b) Q E s := by
  have X := X₀.keeps F₀.keep
  have hu1 : A.in1.units < cLine := hu
  have one : wpAny (model prog w) A (tryCompare (.ref x) "__ne__" b) (fun r s' => ∃ v, r = some v ∧ Q v s') E s := by
    unfold tryCompare
    refine wpAny_bind (bound_ne X I hne ?_)
    refine wpAny_call (codeAny_call_builtin F.cmp_object.ne.plain F.cmpEntry_ne
      (PySem.W.check_slot F.cmpKind_ne F.cmpSplit_ne (I.type.andThen (PySem.W.looks_mroIn X hm)) (F.cmpArgs_ne _ _) ?_))
    refine entry_ne (A := A.in1) hu1 X I hs hf (wpAny_mono h (fun v s' ⟨r, e, q⟩ => ⟨r, e, ?_⟩) fun _ _ z => z)
    exact wpAny_pure ⟨_, rfl, q⟩
  have e1 : (cmpInfo CmpOp.NotEq) = ("!=", Str.ofString "__ne__", Str.ofString "__ne__") := rfl
  unfold richCompare
  rw [e1]
  simp only [oneThing_ref]
  refine wpAny_holding (wpAny_bind (wpAny_cRoomFor (Nat.lt_of_succ_lt hu) ?_))
  refine wpAny_bind (I.type.here (wpAny_bind
    (hb.here ?_)))
  split
  · rename_i q
    have e : PySem.W.subIn K tb (.ref C) = some false := by
      rcases Bool.or_eq_true_iff.mp hn with e | e
      · rw [beq_iff_eq.mp e] at q
        simp at q
      · exact beq_iff_eq.mp e
    refine wpAny_bind ((PySem.W.looks_subIn X e).here ?_)
    simp only [Bool.false_eq_true, if_false]
    refine wpAny_bind (m := tryCompare (.ref x) (Str.ofString "__ne__") b) (wpAny_mono one (fun r s' z => ?_) fun _ _ z => z)
    obtain ⟨v, rfl, hq⟩ := z
    exact wpAny_pure hq
  · refine wpAny_bind (wpAny_pure ?_)
    simp only [Bool.false_eq_true, if_false]
    refine wpAny_bind (m := tryCompare (.ref x) (Str.ofString "__ne__") b) (wpAny_mono one (fun r s' z => ?_) fun _ _ z => z)
    obtain ⟨v, rfl, hq⟩ := z
    exact wpAny_pure hq
end
section
variable {X : Cx} {CX : CXT} {C g : Addr} {n : Nat} {sp : Sp} {E : XK}
def rNeO (K : PySem.W.Frag) (C : Addr) (sp : Sp) (E : XK) : R2 := fun x y H Q => ∃ (a dx : Addr) (fs : List (Str × V)) (t : Value), x = .ref a ∧ H a = some (.ins C dx fs) ∧ TyX K H y t ∧ PySem.W.notFirst K C t = true ∧ sp [x, y] H (fun z H' => ∃ r, z = .bl r ∧ Q (.bl (!r)) H') E
theorem op_neO (hm : PySem.W.mroIn X.K C (.type "object") = some true) (hne : PySem.W.findIn X.K (.ref C) "__ne__" = some (some (.builtin "object.__ne__"))) (hs : PySem.W.findIn X.K (.ref C) "__eq__" = some (some (.ref g))) (hf : PySem.W.isFn X.K (.ref g) = true)
    (F : FnR X.prog X.w X.K X.mg X.base CX n g sp) (hr : Room (n + 1) X.A) (hx : Passes CX X E) : OpR X (compareOp .NotEq) (rNeO X.K C sp E) := by
  intro pins s σ H x y v u Q I rx ry h
  obtain ⟨a, dx, fs, t, rfl, ha, ty, hn, q⟩ := h
  cases (show v = Value.ref a from rx)
  obtain ⟨ox, od, J, _⟩ := StX.insC_at I (.inr ⟨dx, fs, ha⟩)
  obtain ⟨PH, kx, ph, _⟩ := kit_of I ry ty
  obtain ⟨m, hF⟩ := I.fr
  have hr2 : Room n X.A.in1 := Room.in1 hr
  have h0 : X.A.units + 1 < cLine := hr2.units0
  show wpAny _ _ (richCompare .NotEq (.ref a) u) _ _ _
  refine rc_ne h0 hF I.ok.mod.kin J (kx.ty _ _ I.kIn ph) hn hm hne hs hf ?_
  refine wpAny_mono (wpAny_call (SlX.run_at (us := [.ref a, u]) (ws := [.ref a, y]) F hr2 I.env0.in1 hx I (.cons rfl (.cons ry .nil)) q)) (fun w s' z => ?_) fun _ _ x => x
  obtain ⟨z', H', I', rz, r, ez, qz⟩ := z
  subst ez
  cases (show w = Value.bool r from rz)
  exact ⟨r, rfl, .bl (!r), H', I', rfl, qz⟩
end
end OV

set_option maxRecDepth 100000
set_option maxHeartbeats 4000000
/-! o.m(k = v, ..) of an instance; C.m(..) where m is a staticmethod of the class C -/
namespace OV
open PySem PySem.Spec PyProof.Rows L2
/-- C.m is a staticmethod: its record at p, its def at g -/
structure SMet (K : PySem.W.Frag) (C : Addr) (mc : Value) (m : Str) (p g : Addr) : Prop where
  ty : PySem.W.typeIn K (.ref C) = some mc
  rd : PySem.W.readsIn K C mc = true
  ga : PySem.W.specialIn K (.ref C) "__getattribute__" = some (some (.builtin "type.__getattribute__"))
  at_ : PySem.W.findCls K (.ref C) mc m = some (.get (.builtin "staticmethod.__get__") (.ref p) .none (.ref C))
  rc : ∃ rest, PySem.W.recIn K p "staticmethod" = some (.ref g :: rest)
  kp : PySem.W.keepIn K (.ref g) = true
/-- o.m(k = v, ..) -/
def tMethK (C : Addr) (m : Str) (j : Nat) (sp : Sp) (gV : List V → List V → List V) (E : XK) (ta : TE) (tk : TA) : TE := fun σ H Q => ta σ H fun x H1 => ∃ (a dx : Addr) (fs : List (Str × V)), x = .ref a ∧ H1 a = some (.ins C dx fs) ∧ fs.lookup m = none ∧
  tk σ H1 fun zs H2 => zs.length = j ∧ sp (gV [.ref a] zs) H2 Q E
/-- C.m(e, .., k = v, ..) -/
def tSt (C : Addr) (n j : Nat) (sp : Sp) (gV : List V → List V → List V) (E : XK) (ta : TE) (t tk : TA) : TE := fun σ H Q => ta σ H fun x H1 => x = .ref C ∧ t σ H1 fun vs H2 => tk σ H2 fun zs H3 => vs.length = n ∧ zs.length = j ∧ sp (gV vs zs) H3 Q E
section
variable {X : Cx} {CX : CXT} {k n : Nat} {C f p : Addr} {fd : FuncData} {ps ks : List Str} {sp : Sp} {E : XK} {o e : Expr} {es : List Expr} {m : Str} {pos apos : Pos} {kws : List Keyword} {ta : TE} {t tk : TA} {g : List Value → List Value → List Value} {gV : List V → List V → List V} {mc : Value}
theorem pe_methK {pl : Sem Bool} (he : PE X o ta) (c : Cls X.K C) (hm : Meth X.K C m f) (F : FnOk X.prog X.w X.K X.mg X.base CX k f fd ps sp) (hr : Room k X.A) (hb : KBn X.K fd ps 1 ks g gV) (hx : Passes CX X E) (hkw : PK X kws tk)
    (hall : (backToKw pos (keywordEach kws X.env)).all (·.1.isSome) = true := by rfl) (hks : (backToKw pos (keywordEach kws X.env)).filterMap (·.1) = ks := by rfl)
    (hpl : ((backTo pos (starEach [] X.env)).any (·.1) || (backToKw pos (keywordEach kws X.env)).any (·.1.isNone)) = false := by rfl)
    (ht : eval (.Call (.Attribute o m apos) [] kws pos) X.env = (do
      let ov ← eval o X.env
      standAt apos.atName
      let (f, first) ← holding [ov] (getMethod ov m pl)
      callWith pos f first (backTo pos (starEach [] X.env)) (backToKw pos (keywordEach kws X.env))) := by rfl) :
    PE X (.Call (.Attribute o m apos) [] kws pos) (tMethK C m ks.length sp gV E ta tk) := by
  refine ⟨fun pins s σ H Q I h => ?_⟩
  refine PySem.W.methodCall_KW (pl := pl) (thn (he.run pins s σ H _ I h)
    fun u s1 ⟨x, H1, I1, rx, a, dx, fs, ex, ea, l, q⟩ => ?_) ht
  subst ex
  obtain rfl : u = Value.ref a := rx
  refine getmeth_ok I1 ea c hm l ?_
  refine PySem.W.callWith_KW0 (first := [.ref a]) (h₀ := X.base) I.ok.mod.kin hm.kp hall ?_ hpl
  refine thn (hkw.run pos pins s1 σ H1 _ I1 q) fun ws s2 ⟨zs, H2, I2, rz, l2, q2⟩ => ⟨I2.kIn, ?_⟩
  rw [hks]
  exact run_fnN (us := [.ref a]) (vs := [.ref a]) F hr hb hx I2 (.cons rfl .nil) rz rfl l2 q2
theorem getst {pl : Sem Bool} {A : Around} {E' : Value → Shared → Prop} {pins : List (Addr × Obj)} {σ : L2.St} {H : Hp} {s : Shared} {g : Addr} {Q : Value × List Value → Shared → Prop} (I : Inv X pins σ H s) (c : SMet X.K C mc m p g)
    (h : ∀ s', Inv X pins σ H s' → Q (.ref g, []) s') : wpAny (model X.prog X.w) A (getMethod (.ref C) m pl) Q E' s := by
  obtain ⟨mm, hF⟩ := I.fr
  obtain ⟨rest, hp⟩ := c.rc
  refine PySem.W.method_of_cls hF I.ok.mod.kin c.ga ?_
  exact PySem.W.cls_sm hF I.ok.mod.kin c.ty c.rd c.at_ hp rfl (h _ (I.tok _))
theorem pe_st {pl : Sem Bool} {q : Addr} (he : PE X o ta) (c : SMet X.K C mc m p q) (F : FnOk X.prog X.w X.K X.mg X.base CX k q fd ps sp) (hr : Room k X.A) (hb : KBn X.K fd ps n ks g gV) (hx : Passes CX X E) (ha : PA X (e :: es) t) (hkw : PK X kws tk)
    (hall : (backToKw pos (keywordEach kws X.env)).all (·.1.isSome) = true := by rfl) (hks : (backToKw pos (keywordEach kws X.env)).filterMap (·.1) = ks := by rfl)
    (hst : starEach (e :: es) X.env = (false, eval e X.env) :: starEach es X.env := by rfl)
    (hpl : ((backTo pos (starEach (e :: es) X.env)).any (·.1) || (backToKw pos (keywordEach kws X.env)).any (·.1.isNone)) = false := by rfl)
    (ht : eval (.Call (.Attribute o m apos) (e :: es) kws pos) X.env = (do
      let ov ← eval o X.env
      standAt apos.atName
      let (f, first) ← holding [ov] (getMethod ov m pl)
      callWith pos f first (backTo pos (starEach (e :: es) X.env)) (backToKw pos (keywordEach kws X.env))) := by rfl) :
    PE X (.Call (.Attribute o m apos) (e :: es) kws pos) (tSt C n ks.length sp gV E ta t tk) := by
  refine ⟨fun pins s σ H Q I h => ?_⟩
  refine PySem.W.methodCall_KW (pl := pl) (thn (he.run pins s σ H _ I h)
    fun u s1 ⟨x, H1, I1, rx, ex, y⟩ => ?_) ht
  subst ex
  obtain rfl : u = Value.ref C := rx
  refine getst I1 c fun s2 I2 => ?_
  refine PySem.W.callWith_KW (first := []) (h₀ := X.base) I.ok.mod.kin c.kp hall (thn (ha.run pos pins s2 σ H1 _ I2 y)
    fun us s3 ⟨vs, H2, I3, r, y2⟩ => ?_) hpl hst
  refine thn (hkw.run pos pins s3 σ H2 _ I3 y2) fun ws s4 ⟨zs, H3, I4, rz, l1, l2, y3⟩ => ⟨I4.kIn, ?_⟩
  rw [hks]
  exact run_fnN F hr hb hx I4 r rz l1 l2 y3
theorem pe_st0 {pl : Sem Bool} {q : Addr} (he : PE X o ta) (c : SMet X.K C mc m p q) (F : FnOk X.prog X.w X.K X.mg X.base CX k q fd ps sp) (hr : Room k X.A) (hb : KBn X.K fd ps 0 ks g gV) (hx : Passes CX X E) (hkw : PK X kws tk)
    (hall : (backToKw pos (keywordEach kws X.env)).all (·.1.isSome) = true := by rfl) (hks : (backToKw pos (keywordEach kws X.env)).filterMap (·.1) = ks := by rfl)
    (hpl : ((backTo pos (starEach [] X.env)).any (·.1) || (backToKw pos (keywordEach kws X.env)).any (·.1.isNone)) = false := by rfl)
    (ht : eval (.Call (.Attribute o m apos) [] kws pos) X.env = (do
      let ov ← eval o X.env
      standAt apos.atName
      let (f, first) ← holding [ov] (getMethod ov m pl)
      callWith pos f first (backTo pos (starEach [] X.env)) (backToKw pos (keywordEach kws X.env))) := by rfl) :
    PE X (.Call (.Attribute o m apos) [] kws pos) (tSt C 0 ks.length sp gV E ta tNil tk) := by
  refine ⟨fun pins s σ H Q I h => ?_⟩
  refine PySem.W.methodCall_KW (pl := pl) (thn (he.run pins s σ H _ I h)
    fun u s1 ⟨x, H1, I1, rx, ex, y⟩ => ?_) ht
  subst ex
  obtain rfl : u = Value.ref C := rx
  refine getst I1 c fun s2 I2 => ?_
  refine PySem.W.callWith_KW0 (first := []) (h₀ := X.base) I.ok.mod.kin c.kp hall ?_ hpl
  refine thn (hkw.run pos pins s2 σ H1 _ I2 y) fun ws s4 ⟨zs, H3, I4, rz, l1, l2, y3⟩ => ⟨I4.kIn, ?_⟩
  rw [hks]
  exact run_fnN (us := []) (vs := []) F hr hb hx I4 .nil rz rfl l2 y3
end
end OV

set_option maxRecDepth 100000
set_option maxHeartbeats 4000000
/-! o.m(e, .., k = v, ..) of an instance -/
namespace OV
open PySem PySem.Spec PyProof.Rows L2
def tMethKA (C : Addr) (m : Str) (n j : Nat) (sp : Sp) (gV : List V → List V → List V) (E : XK) (ta : TE) (t tk : TA) : TE := fun σ H Q => ta σ H fun x H1 => ∃ (a dx : Addr) (fs : List (Str × V)), x = .ref a ∧ H1 a = some (.ins C dx fs) ∧ fs.lookup m = none ∧
  t σ H1 fun vs H2 => tk σ H2 fun zs H3 => vs.length = n ∧ zs.length = j ∧ sp (gV (.ref a :: vs) zs) H3 Q E
section
variable {X : Cx} {CX : CXT} {k n : Nat} {C f p : Addr} {fd : FuncData} {ps ks : List Str} {sp : Sp} {E : XK} {o e : Expr} {es : List Expr} {m : Str} {pos apos : Pos} {kws : List Keyword} {ta : TE} {t tk : TA} {g : List Value → List Value → List Value} {gV : List V → List V → List V}
theorem pe_methKA {pl : Sem Bool} (he : PE X o ta) (c : Cls X.K C) (hm : Meth X.K C m f) (F : FnOk X.prog X.w X.K X.mg X.base CX k f fd ps sp) (hr : Room k X.A) (hb : KBn X.K fd ps (n + 1) ks g gV) (hx : Passes CX X E) (ha : PA X (e :: es) t) (hkw : PK X kws tk)
    (hall : (backToKw pos (keywordEach kws X.env)).all (·.1.isSome) = true := by rfl) (hks : (backToKw pos (keywordEach kws X.env)).filterMap (·.1) = ks := by rfl)
    (hst : starEach (e :: es) X.env = (false, eval e X.env) :: starEach es X.env := by rfl)
    (hpl : ((backTo pos (starEach (e :: es) X.env)).any (·.1) || (backToKw pos (keywordEach kws X.env)).any (·.1.isNone)) = false := by rfl)
    (ht : eval (.Call (.Attribute o m apos) (e :: es) kws pos) X.env = (do
      let ov ← eval o X.env
      standAt apos.atName
      let (f, first) ← holding [ov] (getMethod ov m pl)
      callWith pos f first (backTo pos (starEach (e :: es) X.env)) (backToKw pos (keywordEach kws X.env))) := by rfl) :
    PE X (.Call (.Attribute o m apos) (e :: es) kws pos) (tMethKA C m n ks.length sp gV E ta t tk) := by
  refine ⟨fun pins s σ H Q I h => ?_⟩
  refine PySem.W.methodCall_KW (pl := pl) (thn (he.run pins s σ H _ I h)
    fun u s1 ⟨x, H1, I1, rx, a, dx, fs, ex, ea, l, q⟩ => ?_) ht
  subst ex
  obtain rfl : u = Value.ref a := rx
  refine getmeth_ok I1 ea c hm l ?_
  refine PySem.W.callWith_KW (first := [.ref a]) (h₀ := X.base) I.ok.mod.kin hm.kp hall (thn (ha.run pos pins s1 σ H1 _ I1 q)
    fun us s3 ⟨vs, H2, I3, r, y2⟩ => ?_) hpl hst
  refine thn (hkw.run pos pins s3 σ H2 _ I3 y2) fun ws s4 ⟨zs, H3, I4, rz, l1, l2, y3⟩ => ⟨I4.kIn, ?_⟩
  rw [hks]
  exact run_fnN (us := .ref a :: us) (vs := .ref a :: vs) F hr hb hx I4 (.cons rfl r) rz (by rw [List.length_cons, l1]) l2 y3
end
end OV

set_option maxRecDepth 100000
set_option maxHeartbeats 4000000
/-! enumerate(a tuple) -/
namespace EnT
open PySem PySem.Spec PyProof.Rows L2
set_option maxHeartbeats 1000000 in
theorem meets1 {v : Value} {o : Obj} {H : Heap → Prop} (B : Begins v o H) :
    Meets (Builtin.«enumerate.__new__» ⟨[.type "enumerate", v], []⟩) (fun _ R s => H s.heap ∧
      R (.ok (.ret (.ref (s.heap.push o).objs.size)))
        { s with heap := (s.heap.push o).push { cls := .type "enumerate", data := .fields #[.none, .bool false, .ref s.heap.objs.size, rawInt 0, .none, .none] } }) :=
  .of_wp fun prog w A R s h => by
    obtain ⟨hp, g, d, tk, os⟩ := s
    obtain ⟨h1, h⟩ := h
    have hsub := sub_enumerate
    have q1 : ∀ {A' : Around} {E : Value → Shared → Prop} {Q : Value → Shared → Prop},
        Q (.ref hp.objs.size) ⟨hp.push o, g, d, tk, os⟩ → wpAny (model prog w) A' (pyIter v) Q E ⟨hp, g, d, tk, os⟩ :=
      fun q => B.iter prog w _ _ ⟨hp, g, d, tk, os⟩ _ h1 q
    wp_walk using q1
    refine wpAny_stack_any fun st => wpAny_pure ?_
    split
    · rename_i c _ _ _ _ _
      cases (c == Value.type "enumerate")
      · wp_walk using q1
        exact ⟨_, rfl, h⟩
      · wp_walk using q1
        exact ⟨_, rfl, h⟩
    · wp_walk using q1
      exact ⟨_, rfl, h⟩
section
variable {prog : Program} {w : World} {A : Around} {E : Value → Shared → Prop} {s : Shared}
theorem call1 {v : Value} {o : Obj} {H : Heap → Prop} {Q : Value → Shared → Prop} (B : Begins v o H) (h1 : H s.heap)
    (h : ∀ h', IsEnum h' (s.heap.objs.size + 1) s.heap.objs.size 0 .none → h'.get? s.heap.objs.size = some o →
      (∀ b u, s.heap.get? b = some u → h'.get? b = some u) → Q (.ref (s.heap.objs.size + 1)) { s with heap := h' }) :
    wpAny (model prog w) A (call (.type "enumerate") [v]) Q E s := by
  refine callType_new F.called_enumerate (by decide) (F.typeCall_enumerate_1 _) (F.newCall_enumerate_1 _)
    (fun obj => F.args_object_init_2 obj _) F.entry_enumerate_new (meets1 B) ⟨h1, ?_⟩
  have hz : (s.heap.push o).objs.size = s.heap.objs.size + 1 := Heap.size_push ..
  show _ ∧ _
  rw [hz]
  have he : IsEnum ((s.heap.push o).push
      { cls := .type "enumerate", data := .fields #[.none, .bool false, .ref s.heap.objs.size, rawInt 0, .none, .none] }) (s.heap.objs.size + 1) s.heap.objs.size 0 .none := by
    have q := Heap.get?_push_size (s.heap.push o)
      (o := { cls := .type "enumerate", data := .fields #[.none, .bool false, .ref s.heap.objs.size, rawInt 0, .none, .none] }) rfl
    rw [hz] at q
    exact q
  exact ⟨⟨_, he, rfl⟩, h _ he (Heap.get?_push_of_some _ (Heap.get?_push_size _ B.free))
    fun b u x => Heap.get?_push_of_some _ (Heap.get?_push_of_some _ x)⟩
end
/-- the tuple at a as it stands at each turn, each item in a new pair -/
def IteT (K : PySem.W.Frag) (a : Addr) : It :=
  ⟨fun i H => ∃ (xs : List V) (x : V), SqT K H a xs ∧ xs[i]? = some x,
    fun i H v H' => ∃ T x, v = .ref T ∧ H T = none ∧ H' = upd H T (.tup [.int (i : Nat), x]) ∧ ∀ xs, SqT K H a xs → xs[i]? = some x,
    fun i H => ∃ xs : List V, SqT K H a xs ∧ xs.length = i⟩
theorem turnT {P : Program} {w : World} {K : PySem.W.Frag} {elts : List Expr} {kk : Nat} {tpos : Pos} (a e it : Addr) :
    Turn P w K (.Tuple elts kk tpos) (IteT K a) [e, it] e
      (fun i h => (∃ old, IsEnum h e it ((i : Nat) : Int) old) ∧ h.IsTupleIter it a i ∧ e ≠ it ∧ e ≠ a ∧ a ≠ it) where
  mem := by simp
  obj := fun i h st b hb => by
    obtain ⟨⟨old, he⟩, ⟨o, ho, hc, hd⟩, _⟩ := st
    have e' : b = e ∨ b = it := by simpa using hb
    rcases e' with z | z
    · rw [z]
      exact ⟨_, he, fun v q => nomatch q⟩
    · rw [z]
      exact ⟨o, ho, fun v q => by rw [hd] at q; cases q⟩
  keep := fun i h h' st k =>
    let ⟨⟨old, he⟩, hi, hne⟩ := st
    ⟨⟨old, k e (by simp) _ he⟩, hi.at fun o q => k it (by simp) o q, hne⟩
  item := by
    intro X hP hw hK hc i pins s σ H E I hf st hg
    subst hP hw hK
    obtain ⟨⟨old, he⟩, hit, hne, hea, hai⟩ := st
    obtain ⟨xs, x, hq, hx⟩ := hg
    obtain ⟨its, rv, p, hz⟩ := I.tuple hq
    obtain ⟨u, hu, ru⟩ := rv.get hx
    have hel : e < s.heap.objs.size := Heap.lt_size he
    have hil : it < s.heap.objs.size := by
      obtain ⟨_, q, _⟩ := hit
      exact Heap.lt_size q
    have hh : X.A.in1.handled = none := I.ok.hd hc
    have D := Draws.tuple (prog := X.prog) (w := X.w) hh it a hai its.toArray
    have hlt : i < its.toArray.size := by
      have := (List.getElem?_eq_some_iff.mp hu).1
      simpa using this
    have hef : e ∉ [it, a] := by simp [hne, hea]
    refine wpAny_pyNext_enum_itemD D he ⟨hit, p⟩ hlt hne hef fun y h' tk hy ho hst hT hsz hk => ?_
    have ey : y = u := by
      have : its.toArray[i]? = some u := by simpa using hu
      exact Option.some.inj (hy.symm.trans this)
    subst ey
    refine ⟨_, rfl, wpAny_letOwnedTupleGo_enum (s := { s with heap := h', toks := tk + 1 }) ho fun h'' he' sb => ?_⟩
    have hT2 : h''.get? s.heap.objs.size = some { cls := .type "tuple", data := .seq #[.int i tk, y] } := (sb.2 _ (Nat.ne_of_gt hel)).trans hT
    have new : ObjOk X.prog X.w (upd H s.heap.objs.size (.tup [.int (i : Nat), x])) h'' s.heap.objs.size (.tup [.int (i : Nat), x]) :=
      ⟨by show 2 ≤ sizeLine; decide, [.int i tk, y], .cons ⟨_, rfl⟩ (.cons ru .nil), ⟨_, hT2, rfl, _, rfl⟩⟩
    have I1 : Inv X pins σ (upd H s.heap.objs.size (.tup [.int (i : Nat), x])) { s with heap := h'', toks := tk + 1 } :=
      I.turnedNew (t' := tk + 1) (ch := [e, it])
        (fun b ob hb q => (sb.2 b (fun z => hb (by simp [z]))).trans (hk b ob (fun z => hb (by simp [z])) (fun z => hb (by simp [z])) q))
        hf (Nat.le_refl _) new
    refine ⟨.ref s.heap.objs.size, _, I1, rfl, ⟨_, x, rfl, I.hok.fresh (Nat.le_refl _), rfl, fun ys hy => by rw [I.tuple_inj hy hq]; exact hx⟩,
      ⟨⟨y, ?_⟩, hst.1.at fun o q => (sb.2 it (Ne.symm hne)).trans q, hne, hea, hai⟩, fun b hb => ?_⟩
    · have e1 : ((i + 1 : Nat) : Int) = (i : Int) + 1 := by omega
      rw [e1]
      exact he'
    · have hb' : b < s.heap.objs.size := by
        have e' : b = e ∨ b = it := by simpa using hb
        rcases e' with z | z
        · rw [z]
          exact hel
        · rw [z]
          exact hil
      rw [upd_ne (Nat.ne_of_lt hb')]
      exact (hf b hb).1
  done := by
    intro X hP hw hK hc i pins s σ H E I hf st hg
    subst hP hw hK
    obtain ⟨⟨old, he⟩, hit, hne, hea, hai⟩ := st
    obtain ⟨xs, hq, hx⟩ := hg
    obtain ⟨its, rv, p, hz⟩ := I.tuple hq
    obtain ⟨f0, f1, f2, f3, f4, f5⟩ := hf it (by simp)
    have hl := rv.length
    have hh : X.A.in1.handled = none := I.ok.hd hc
    have D := Draws.tuple (prog := X.prog) (w := X.w) hh it a hai its.toArray
    have ei : i = its.toArray.size := by simpa using (hx.symm.trans hl)
    subst ei
    exact wpAny_pyNext_enum_endD D he ⟨hit, p⟩
      fun h' eb => ⟨rfl, I.turned (t' := s.toks) (fun b o hb q => eb b o hb q) f0 f1 f3 f4 f5⟩
  self := fun A i s Q E st h => let ⟨⟨_, he⟩, _⟩ := st; wpAny_pyIter_enum he h
def iEnumT (K : PySem.W.Frag) (ta : TA) : TI := fun σ H R => ta σ H fun vs H1 => ∃ a xs, vs = [.ref a] ∧ SqT K H1 a xs ∧ R (IteT K a) H1
theorem pi_enumT {X : Cx} {e : Expr} {ta : TA} {p pos tpos : Pos} {elts : List Expr} {kk : Nat} (hg : Gl X "enumerate") (hm : X.mg "enumerate" = none) (ha : PA X [e] ta)
    (hs : starEach [e] X.env = [(false, eval e X.env)] := by rfl) : PI X (.Tuple elts kk tpos) (.Call (.Name "enumerate" p) [e] [] pos) (iEnumT X.K ta) := by
  refine ⟨fun pins s σ H R I h => ?_⟩
  refine Call_ (ld_blt I hg hm boot_enumerate (PyProof.Rows.callWith_type1
    (thn (ha.run pos pins s σ H _ I h) fun us s1 ⟨vs, H1, I1, r1, q1⟩ => ?_) hs rfl))
  obtain ⟨a, xs, ex, hq, q⟩ := q1
  subst ex
  obtain ⟨u, rfl, ru⟩ := r1.one
  cases (show u = Value.ref a from ru)
  obtain ⟨its, rv, p', hz⟩ := I1.tuple hq
  have al : a < s1.heap.objs.size := by
    obtain ⟨o, ho, _⟩ := id p'
    exact Heap.lt_size ho
  refine call1 (begins_tuple a its.toArray) p' fun h' he hit hk => wpAny_pyIter_enum he ?_
  have I2 : Inv X pins σ H1 { s1 with heap := h' } := I1.kept (t' := s1.toks) hk
  refine ⟨s1.heap.objs.size + 1, [s1.heap.objs.size + 1, s1.heap.objs.size], _, _, H1, rfl, I2, turnT a (s1.heap.objs.size + 1) s1.heap.objs.size,
    ⟨⟨.none, he⟩, ⟨_, hit, rfl, rfl⟩, Nat.succ_ne_self _, Nat.ne_of_gt (Nat.lt_succ_of_lt al), Nat.ne_of_lt al⟩, fun b hb => ?_, q⟩
  have e' : b = s1.heap.objs.size + 1 ∨ b = s1.heap.objs.size := by simpa using hb
  have hle : s1.heap.objs.size ≤ b := by
    rcases e' with z | z
    · rw [z]
      exact Nat.le_add_right _ _
    · rw [z]
      exact Nat.le_refl _
  exact I1.fpOk hle (I1.hok.fresh hle)
/-- a loop over enumerate of a tuple -/
theorem for_enT {K : PySem.W.Frag} {a : Addr} {xs : List V} {g : TG} {tb : TS} {D : Ends} {σ : L2.St} {H : Hp} (Pv : Nat → L2.St → Hp → Prop) (h0 : Pv 0 σ H) (hq : ∀ i σ H, i ≤ xs.length → Pv i σ H → SqT K H a xs)
    (hs : ∀ (i : Nat) (x : V) (T : Addr) (σ : L2.St) (H : Hp), xs[i]? = some x → Pv i σ H → H T = none → g (.ref T) σ (upd H T (.tup [.int (i : Nat), x])) fun σ2 H2 => tb { D with nx := Pv (i + 1), ct := Pv (i + 1), bk := D.nx } σ2 H2) (hd : ∀ σ H, Pv xs.length σ H → D.nx σ H) :
    ∃ W : Nat → Nat → L2.St → Hp → Prop, (∃ m, W 0 m σ H) ∧ ∀ i m σ H, W i m σ H →
      ((IteT K a).stop i H ∧ D.nx σ H) ∨ ((IteT K a).go i H ∧ ∃ N : L2.St → Hp → Prop, (∀ σ' H', N σ' H' → ∃ m', m' < m ∧ W (i + 1) m' σ' H') ∧ ∀ v H', (IteT K a).yld i H v H' → g v σ H' fun σ2 H2 => tb { D with nx := N, ct := N, bk := D.nx } σ2 H2) := by
  refine ⟨fun i m σ H => m = xs.length - i ∧ i ≤ xs.length ∧ Pv i σ H, ⟨_, rfl, Nat.zero_le _, h0⟩, ?_⟩
  rintro i m σ H ⟨rfl, hi, p⟩
  have q := hq i σ H hi p
  by_cases hlt : i < xs.length
  · have e : xs[i]? = some xs[i] := List.getElem?_eq_getElem hlt
    refine .inr ⟨⟨xs, xs[i], q, e⟩, Pv (i + 1), fun σ' H' p' => ⟨xs.length - (i + 1), by omega, rfl, hlt, p'⟩, fun v H' y => ?_⟩
    obtain ⟨T, x, rfl, hT, rfl, hx⟩ := y
    exact hs i x T σ H (hx xs q) p hT
  · have e : i = xs.length := by omega
    subst e
    exact .inl ⟨⟨xs, q, rfl⟩, hd σ H p⟩
/-- a target of two or more names, the value a tuple or a list -/
def gAny (K : PySem.W.Frag) (n : Nat) (t : TGs) : TG := fun v σ H Q => gTup K n t v σ H Q ∨ gUnl K n t v σ H Q
theorem pg_any {X : Cx} {pos : Pos} {es : List Expr} {k : Nat} {t : TGs} {n : Nat} (hc : X.calm = true) (h : PGs X es t)
    (hn : (assignEach es X.env).length = n := by rfl) (hst : (assignEach es X.env).findIdx? (·.1) = none := by rfl) : PG X (.Tuple es k pos) (gAny X.K n t) :=
  ⟨fun pins s σ H v u Q I r hw => hw.elim ((pg_tup hc h hn hst).run pins s σ H v u Q I r) ((pg_unl hc h hn hst).run pins s σ H v u Q I r)⟩
end EnT

set_option maxRecDepth 100000
set_option maxHeartbeats 4000000
/-! zip(a list, a tuple) -/
namespace EnT
open PySem PySem.Spec PyProof.Rows L2
def ItzLT (K : PySem.W.Frag) (a b : Addr) : It :=
  ⟨fun i H => ∃ (xs ys : List V) (x y : V), SqL K H a xs ∧ SqT K H b ys ∧ xs.length = ys.length ∧ xs[i]? = some x ∧ ys[i]? = some y,
    fun i H v H' => ∃ T x y, v = .ref T ∧ H T = none ∧ H' = upd H T (.tup [x, y]) ∧ (∀ xs, SqL K H a xs → xs[i]? = some x) ∧ ∀ ys, SqT K H b ys → ys[i]? = some y,
    fun i H => ∃ xs ys : List V, SqL K H a xs ∧ SqT K H b ys ∧ xs.length = i ∧ ys.length = i⟩
theorem turnLT {P : Program} {w : World} {K : PySem.W.Frag} {elts : List Expr} {kk : Nat} {tpos : Pos} {a b z TI TO i1 i2 : Addr} (D : ZipSep2 z TI TO i1 i2 [i1, a] [i2, b]) (n1 : a ≠ i1) (n2 : b ≠ i2) :
    Turn P w K (.Tuple elts kk tpos) (ItzLT K a b) [z, TI, TO, i1, i2] z
      (fun i h => IsZip h z TI TO .none ∧ IsTupOf2 h TI (.ref i1) (.ref i2) ∧ (∃ x y, IsTupOf2 h TO x y) ∧ h.IsListIter i1 a i ∧ h.IsTupleIter i2 b i) where
  mem := by simp
  obj := fun i h st c hc => by
    obtain ⟨hz, hTI, ⟨x, y, hTO⟩, ⟨o1, e1, _, d1⟩, ⟨o2, e2, _, d2⟩⟩ := st
    have e' : c = z ∨ c = TI ∨ c = TO ∨ c = i1 ∨ c = i2 := by simpa using hc
    rcases e' with q | q | q | q | q
    · rw [q]
      exact ⟨_, hz, fun v q => nomatch q⟩
    · rw [q]
      exact ⟨_, hTI, fun v q => nomatch q⟩
    · rw [q]
      exact ⟨_, hTO, fun v q => nomatch q⟩
    · rw [q]
      exact ⟨o1, e1, fun v q => by rw [d1] at q; cases q⟩
    · rw [q]
      exact ⟨o2, e2, fun v q => by rw [d2] at q; cases q⟩
  keep := fun i h h' st k => by
    obtain ⟨hz, hTI, ⟨x, y, hTO⟩, h1, h2⟩ := st
    exact ⟨k z (by simp) _ hz, k TI (by simp) _ hTI, ⟨x, y, k TO (by simp) _ hTO⟩,
      h1.at fun o q => k i1 (by simp) o q, h2.at fun o q => k i2 (by simp) o q⟩
  item := by
    intro X hP hw hK hc i pins s σ H E I hf st hg
    subst hP hw hK
    obtain ⟨hz, hTI, ⟨x0, y0, hTO⟩, h1, h2⟩ := st
    obtain ⟨xs, ys, x, y, hqx, hqy, hll, hx, hy⟩ := hg
    obtain ⟨its, rv, p, _⟩ := I.list hqx
    obtain ⟨its2, rv2, p2, _⟩ := I.tuple hqy
    obtain ⟨u, hu, ru⟩ := rv.get hx
    obtain ⟨u2, hu2, ru2⟩ := rv2.get hy
    have hzl : z < s.heap.objs.size := Heap.lt_size hz
    have hh : X.A.in1.handled = none := I.ok.hd hc
    have D1 := Draws.list (prog := X.prog) (w := X.w) hh i1 a n1 its.toArray
    have D2 := Draws.tuple (prog := X.prog) (w := X.w) hh i2 b n2 its2.toArray
    have lt1 : i < its.toArray.size := by
      have := (List.getElem?_eq_some_iff.mp hu).1
      simpa using this
    have lt2 : i < its2.toArray.size := by
      have := (List.getElem?_eq_some_iff.mp hu2).1
      simpa using this
    refine wpAny_pyNext_zipD2_item D D1 D2 hz hTI hTO ⟨h1, p.isList⟩ ⟨h2, p2⟩ lt1 lt2
      fun v1 v2 h' tk hv1 hv2 z' TO' st1 st2 hT hsz hk => ?_
    have e1 : v1 = u := by
      have : its.toArray[i]? = some u := by simpa using hu
      exact Option.some.inj (hv1.symm.trans this)
    have e2 : v2 = u2 := by
      have : its2.toArray[i]? = some u2 := by simpa using hu2
      exact Option.some.inj (hv2.symm.trans this)
    subst e1 e2
    refine ⟨_, rfl, wpAny_letOwnedTupleGo_zip (s := { s with heap := h', toks := tk }) z' fun h'' z'' sb => ?_⟩
    have hT2 : h''.get? s.heap.objs.size = some { cls := .type "tuple", data := .seq #[v1, v2] } := (sb.2 _ (Nat.ne_of_gt hzl)).trans hT
    have new : ObjOk X.prog X.w (upd H s.heap.objs.size (.tup [x, y])) h'' s.heap.objs.size (.tup [x, y]) :=
      ⟨by show 2 ≤ sizeLine; decide, [v1, v2], .cons ru (.cons ru2 .nil), ⟨_, hT2, rfl, _, rfl⟩⟩
    have I1 : Inv X pins σ (upd H s.heap.objs.size (.tup [x, y])) { s with heap := h'', toks := tk } :=
      I.turnedNew (t' := tk) (ch := [z, TI, TO, i1, i2])
        (fun c o hb q => (sb.2 c (fun q' => hb (by simp [q']))).trans
          (hk c o (fun q' => hb (by simp [q'])) (fun q' => hb (by simp [q'])) (fun q' => hb (by simp [q'])) (fun q' => hb (by simp [q'])) q))
        hf (Nat.le_refl _) new
    have i1z : i1 ≠ z := fun q => D.zf1 (by rw [q]; exact List.mem_cons_self)
    have i2z : i2 ≠ z := fun q => D.zf2 (by rw [q]; exact List.mem_cons_self)
    refine ⟨.ref s.heap.objs.size, _, I1, rfl, ⟨_, x, y, rfl, I.hok.fresh (Nat.le_refl _), rfl,
      fun l hl => by rw [I.list_inj hl hqx]; exact hx, fun l hl => by rw [I.tuple_inj hl hqy]; exact hy⟩,
      ⟨z'', ?_, ⟨v1, v2, ?_⟩, ?_, ?_⟩, fun c hcm => ?_⟩
    · exact (sb.2 _ D.TIz).trans (hk _ _ D.TIz D.TITO D.TIi1 D.TIi2 hTI)
    · exact (sb.2 _ D.TOz).trans TO'
    · exact st1.1.at fun o q => (sb.2 _ i1z).trans q
    · exact st2.1.at fun o q => (sb.2 _ i2z).trans q
    · have hlt : c < s.heap.objs.size := by
        have e' : c = z ∨ c = TI ∨ c = TO ∨ c = i1 ∨ c = i2 := by simpa using hcm
        rcases e' with q | q | q | q | q
        · rw [q]
          exact hzl
        · rw [q]
          exact Heap.lt_size hTI
        · rw [q]
          exact Heap.lt_size hTO
        · rw [q]
          obtain ⟨_, e1, _⟩ := h1
          exact Heap.lt_size e1
        · rw [q]
          obtain ⟨_, e2, _⟩ := h2
          exact Heap.lt_size e2
      rw [upd_ne (Nat.ne_of_lt hlt)]
      exact (hf c hcm).1
  done := by
    intro X hP hw hK hc i pins s σ H E I hf st hg
    subst hP hw hK
    obtain ⟨hz, hTI, ⟨x0, y0, hTO⟩, h1, h2⟩ := st
    obtain ⟨xs, ys, hqx, hqy, l1, l2⟩ := hg
    obtain ⟨its, rv, p, _⟩ := I.list hqx
    obtain ⟨its2, rv2, p2, _⟩ := I.tuple hqy
    have m1 := rv.length
    have m2 := rv2.length
    have hh : X.A.in1.handled = none := I.ok.hd hc
    have D1 := Draws.list (prog := X.prog) (w := X.w) hh i1 a n1 its.toArray
    have D2 := Draws.tuple (prog := X.prog) (w := X.w) hh i2 b n2 its2.toArray
    have e1 : i = its.toArray.size := by simpa using (l1.symm.trans m1)
    have e2 : i ≤ its2.toArray.size := by
      have : i = its2.toArray.size := by simpa using (l2.symm.trans m2)
      exact Nat.le_of_eq this
    exact wpAny_pyNext_zipD2_end D D1 D2 hz hTI hTO ⟨h1, p.isList⟩ ⟨h2, p2⟩ (Nat.le_of_eq e1) e2 (.inl e1)
      fun h' tk hk => ⟨rfl, I.turnedL (t' := tk) (ch := [z, TI, TO, i1, i2]) (fun c o hb q =>
        hk c o (fun q' => hb (by simp [q'])) (fun q' => hb (by simp [q'])) (fun q' => hb (by simp [q'])) (fun q' => hb (by simp [q'])) q) hf⟩
  self := fun A i s Q E st h => wpAny_pyIter_zip st.1 h
def iZipLT (K : PySem.W.Frag) (ta : TA) : TI := fun σ H R => ta σ H fun vs H1 => ∃ a b xs ys, vs = [.ref a, .ref b] ∧ SqL K H1 a xs ∧ SqT K H1 b ys ∧ R (ItzLT K a b) H1
theorem pi_zipLT {X : Cx} {e e2 : Expr} {ta : TA} {p pos tpos : Pos} {elts : List Expr} {kk : Nat} (hg : Gl X "zip") (hm : X.mg "zip" = none) (ha : PA X [e, e2] ta)
    (hs : starEach [e, e2] X.env = (false, eval e X.env) :: starEach [e2] X.env := by rfl) (hpl : (backTo pos (starEach [e2] X.env)).any (·.1) = false := by rfl) :
    PI X (.Tuple elts kk tpos) (.Call (.Name "zip" p) [e, e2] [] pos) (iZipLT X.K ta) := by
  refine ⟨fun pins s σ H R I h => ?_⟩
  refine Call_ (ld_blt I hg hm PyProof.Rows.boot_zip (PyProof.Rows.callWith_type1
    (thn (ha.run pos pins s σ H _ I h) fun us s1 ⟨vs, H1, I1, r1, q1⟩ => ?_) hs hpl))
  obtain ⟨a, b, xs, ys, ex, hqx, hqy, q⟩ := q1
  subst ex
  cases r1 with
  | cons r rr =>
    cases rr with
    | cons r' rr =>
      cases rr
      cases r
      cases r'
      obtain ⟨its, rv, p1, _⟩ := I1.list hqx
      obtain ⟨its2, rv2, p2, _⟩ := I1.tuple hqy
      obtain ⟨o2, ho2, _⟩ := id p2
      have al : a < s1.heap.objs.size := p1.lt
      have bl : b < s1.heap.objs.size := Heap.lt_size ho2
      refine zip_begins2 (begins_list a its.toArray) (begins_tuple b its2.toArray) p1.isList p2
        fun h' hz hTI hTO g1 g2 hsz hk => wpAny_pyIter_zip hz ?_
      have I2 : Inv X pins σ H1 { s1 with heap := h' } := I1.kept (t' := s1.toks) hk
      have S := zip_sep2 (N := s1.heap.objs.size) (fp1 := [a]) (fp2 := [b]) (fun c hc => by rw [List.mem_singleton.mp hc]; exact al) (fun c hc => by rw [List.mem_singleton.mp hc]; exact bl)
      refine ⟨s1.heap.objs.size + 4, [s1.heap.objs.size + 4, s1.heap.objs.size + 2, s1.heap.objs.size + 3, s1.heap.objs.size, s1.heap.objs.size + 1], _, _, H1, rfl, I2,
        turnLT S (Nat.ne_of_lt al) (Nat.ne_of_lt (Nat.lt_succ_of_lt bl)), ⟨hz, hTI, ⟨_, _, hTO⟩, ⟨_, g1, rfl, rfl⟩, ⟨_, g2, rfl, rfl⟩⟩, fun c hcm => ?_, q⟩
      have e' : c = s1.heap.objs.size + 4 ∨ c = s1.heap.objs.size + 2 ∨ c = s1.heap.objs.size + 3 ∨ c = s1.heap.objs.size ∨ c = s1.heap.objs.size + 1 := by simpa using hcm
      have hle : s1.heap.objs.size ≤ c := by
        rcases e' with z | z | z | z | z <;> rw [z] <;> first | exact Nat.le_refl _ | exact Nat.le_add_right _ _
      exact I1.fpOk hle (I1.hok.fresh hle)
/-- a loop over zip of a list and a tuple of one length -/
theorem for_zipLT {K : PySem.W.Frag} {a b : Addr} {xs ys : List V} {g : TG} {tb : TS} {D : Ends} {σ : L2.St} {H : Hp} (hl : xs.length = ys.length) (Pv : Nat → L2.St → Hp → Prop) (h0 : Pv 0 σ H) (hq : ∀ i σ H, Pv i σ H → SqL K H a xs ∧ SqT K H b ys)
    (hs : ∀ (i : Nat) (x y : V) (T : Addr) (σ : L2.St) (H : Hp), xs[i]? = some x → ys[i]? = some y → Pv i σ H → H T = none → g (.ref T) σ (upd H T (.tup [x, y])) fun σ2 H2 => tb { D with nx := Pv (i + 1), ct := Pv (i + 1), bk := D.nx } σ2 H2) (hd : ∀ σ H, Pv xs.length σ H → D.nx σ H) :
    ∃ W : Nat → Nat → L2.St → Hp → Prop, (∃ m, W 0 m σ H) ∧ ∀ i m σ H, W i m σ H →
      ((ItzLT K a b).stop i H ∧ D.nx σ H) ∨ ((ItzLT K a b).go i H ∧ ∃ N : L2.St → Hp → Prop, (∀ σ' H', N σ' H' → ∃ m', m' < m ∧ W (i + 1) m' σ' H') ∧ ∀ v H', (ItzLT K a b).yld i H v H' → g v σ H' fun σ2 H2 => tb { D with nx := N, ct := N, bk := D.nx } σ2 H2) := by
  refine ⟨fun i m σ H => m = xs.length - i ∧ i ≤ xs.length ∧ Pv i σ H, ⟨_, rfl, Nat.zero_le _, h0⟩, ?_⟩
  rintro i m σ H ⟨rfl, hi, p⟩
  obtain ⟨q1, q2⟩ := hq i σ H p
  by_cases hlt : i < xs.length
  · have e : xs[i]? = some xs[i] := List.getElem?_eq_getElem hlt
    have e2 : ys[i]? = some ys[i] := List.getElem?_eq_getElem (hl ▸ hlt)
    refine .inr ⟨⟨xs, ys, _, _, q1, q2, hl, e, e2⟩, Pv (i + 1), fun σ' H' p' => ⟨xs.length - (i + 1), by omega, rfl, hlt, p'⟩, fun v H' y => ?_⟩
    obtain ⟨T, x, y, rfl, hT, rfl, hx, hy⟩ := y
    exact hs i x y T σ H (hx xs q1) (hy ys q2) p hT
  · have e : i = xs.length := by omega
    subst e
    exact .inl ⟨⟨xs, ys, q1, q2, rfl, hl.symm⟩, hd σ H p⟩
end EnT

set_option maxRecDepth 100000
set_option maxHeartbeats 4000000
/-! rules for own classes with a star parameter, own len, own in, counts and members of tuples of data -/
namespace BR
open PySem PySem.Spec PyProof.Rows L2 StX
section
variable {X : Cx} {CX : CXT} {k i : Nat} {f C : Addr} {sp : Sp} {E : XK} {x m : Str} {e o : Expr} {es : List Expr} {te ta : TE} {t : TA} {p sp_ pos apos : Pos}
/-- C() -/
def tMakeR0 (C : Addr) (sp : Sp) (E : XK) : TE := fun σ H Q => ∀ x dx, H x = Option.none → H dx = Option.none → dx ≠ x →
  sp [V.ref x] (upd (upd H dx (.own x)) x (.ins C dx [])) (fun v H2 => v = .non ∧ Q (.ref x) H2) E
theorem pe_makeR0 (M : Mk X.K C f) (F : FnR X.prog X.w X.K X.mg X.base CX k f sp) (hr : Room (k + 1) X.A) (hg : Gl X x) (hm : X.mg x = some (.ref C)) (hx : Passes CX X E)
    (hdb : (x == ("__debug__" : Str)) = false := by decide) : PE X (.Call (.Name x p) [] [] pos) (tMakeR0 C sp E) := by
  refine ⟨fun pins s σ H Q I h => ?_⟩
  refine wpAny_Call_Name_kw (ld_glob I hg hm ?_ hdb)
  exact PySem.W.callWith_K0 I.kIn M.kp (run_makeR (us := []) M F hr hx I .nil h)
/-- C(*e) -/
def tMakeRS (K : PySem.W.Frag) (C : Addr) (sp : Sp) (E : XK) (te : TE) : TE := fun σ H Q => te σ H fun y H1 => ∃ a xs, y = V.ref a ∧ (SqT K H1 a xs ∨ SqL K H1 a xs) ∧ ∀ x dx, H1 x = Option.none → H1 dx = Option.none → dx ≠ x →
  sp (V.ref x :: xs) (upd (upd H1 dx (.own x)) x (.ins C dx [])) (fun v H2 => v = .non ∧ Q (.ref x) H2) E
theorem pe_makeRS (M : Mk X.K C f) (F : FnR X.prog X.w X.K X.mg X.base CX k f sp) (hr : Room (k + 1) X.A) (hg : Gl X x) (hm : X.mg x = some (.ref C)) (hx : Passes CX X E) (he : PE X e te) (hdb : (x == ("__debug__" : Str)) = false := by decide)
    (hst : starEach [.Starred e sp_] X.env = [(true, eval e X.env)] := by rfl) :
    PE X (.Call (.Name x p) [.Starred e sp_] [] pos) (tMakeRS X.K C sp E te) := by
  refine ⟨fun pins s σ H Q I h => ?_⟩
  refine wpAny_Call_Name_kw (ld_glob I hg hm ?_ hdb)
  refine PySem.W.callWith_S (h₀ := X.base) I.ok.mod.kin M.kp (thn (he.run pins s σ H _ I h) fun v s1 ⟨y, H1, I1, ry, a, xs, ey, hxs, q⟩ => ?_) hst
  subst ey
  obtain rfl : v = Value.ref a := ry
  exact star_any I1 hxs fun us s2 I2 rv => ⟨I2.kIn, run_makeR M F hr hx I2 rv q⟩
end
/-! ### len(x), v in x by own defs -/
section
variable {X : Cx} {CX : CXT} {C g : Addr} {n : Nat} {sp : Sp} {E : XK}
def rLenO (C : Addr) (sp : Sp) (E : XK) : List V → Hp → VK → Prop := fun xs H Q => ∃ (a dx : Addr) (fs : List (Str × V)), xs = [.ref a] ∧ H a = some (.ins C dx fs) ∧ sp [.ref a] H (fun z H' => ∃ i : Int, z = .int i ∧ 0 ≤ i ∧ i < 2 ^ 63 ∧ Q z H') E
theorem call_lenO (hs : PySem.W.findIn X.K (.ref C) "__len__" = some (some (.ref g))) (hf : PySem.W.isFn X.K (.ref g) = true) (F : FnR X.prog X.w X.K X.mg X.base CX n g sp)
    (hr : Room (n + 1) X.A) (hx : Passes CX X E) : CallR X (.builtin "len") (rLenO C sp E) := by
  intro pins s σ H xs us Q I r h
  obtain ⟨a, dx, fs, rfl, ha, q⟩ := h
  obtain ⟨u, rfl, ru⟩ := r.one
  cases (show u = Value.ref a from ru)
  obtain ⟨ox, od, J, _⟩ := StX.insC_at I (.inr ⟨dx, fs, ha⟩)
  obtain ⟨m, hF⟩ := I.fr
  have hr2 : Room n X.A.in1 := Room.in1 hr
  refine PySem.W.len_K hF I.ok.mod.kin J hs hf ?_
  refine wpAny_mono (wpAny_call (SlX.run_at (us := [.ref a]) (ws := [.ref a]) F hr2 I.env0.in1 hx I (.cons rfl .nil) q)) (fun w s' z => ?_) fun _ _ x => x
  obtain ⟨z', H', I', rz, i, ez, h0, h1, qz⟩ := z
  subst ez
  obtain ⟨tk, e⟩ := (show ∃ tk, w = Value.int i tk from rz)
  cases e
  exact ⟨⟨h0, h1⟩, ⟨.int i, H', I'.tok _, ⟨_, rfl⟩, qz⟩⟩
def rInO (C : Addr) (sp : Sp) (E : XK) : R2 := fun x y H Q => ∃ (b dy : Addr) (gs : List (Str × V)), y = .ref b ∧ H b = some (.ins C dy gs) ∧ sp [y, x] H (fun z H' => ∃ r, z = .bl r ∧ Q z H') E
theorem op_inO (hs : PySem.W.findIn X.K (.ref C) "__contains__" = some (some (.ref g))) (hf : PySem.W.isFn X.K (.ref g) = true) (F : FnR X.prog X.w X.K X.mg X.base CX n g sp)
    (hr : Room n X.A) (hx : Passes CX X E) : OpR X (compareOp .In) (rInO C sp E) := by
  intro pins s σ H x y v u Q I rx ry h
  obtain ⟨b, dy, gs, rfl, hb, q⟩ := h
  cases (show u = Value.ref b from ry)
  obtain ⟨ox, od, J, _⟩ := StX.insC_at I (.inr ⟨dy, gs, hb⟩)
  obtain ⟨m, hF⟩ := I.fr
  refine PySem.W.in_K hF I.ok.mod.kin J hs hf ?_
  refine wpAny_mono (wpAny_call (run_fnR (us := [.ref b, v]) (vs := [.ref b, x]) F hr hx I (.cons rfl (.cons rx .nil)) q)) (fun w s' z => ?_) fun _ _ x => x
  obtain ⟨z', H', I', rz, r, ez, qz⟩ := z
  subst ez
  cases (show w = Value.bool r from rz)
  exact wpAny_truthy_bool ⟨.bl r, H', I', rfl, qz⟩
end
/-! ### tuples of data: in, count -/
section
variable {X : Cx}
def rInDT (K : PySem.W.Frag) : R2 := fun x y H Q => ∃ d ds, Dp K H x d ∧ Dp K H y (.tuple ds) ∧ SeqAt.shaped d = true ∧ SeqAt.shaped (.tuple ds) = true ∧ Q (.bl (ds.any fun z => PyData.eqv z d)) H
theorem op_inDT (hu : X.A.units + 65 < cLine) : OpR X (compareOp .In) (rInDT X.K) := by
  intro pins s σ H x y v u Q I rx ry h
  obtain ⟨d, ds, hd, he, sd, se, q⟩ := h
  obtain ⟨as, r1⟩ := Dp.reads I d x v hd rx
  obtain ⟨bs, r2⟩ := Dp.reads I (.tuple ds) y u he ry
  exact SeqAt.in_tuple_reads r2 r1 (SeqAt.canLay_of_shaped se) (SeqAt.canLay_of_shaped sd) (room_in_shaped sd hu) ⟨.bl _, H, I, rfl, q⟩
/-- l.count(x), t.count(x) -/
def rCntD (K : PySem.W.Frag) (c : List PyData → PyData) : V → List V → Hp → VK → Prop := fun x xs H Q => ∃ (a : Addr) (y : V) (d : PyData) (ds : List PyData), x = .ref a ∧ xs = [y] ∧ Dp K H (.ref a) (c ds) ∧ Dp K H y d ∧ PyData.plainAll ds = true ∧ d.plain = true ∧ d.depth ≤ 60 ∧
  Q (.int ((ds.countP fun z => PyData.eqv z d : Nat) : Int)) H
theorem mt_lcountD (hu : X.A.units + 65 < cLine) : MtR X "list.count" (rCntD X.K .list) := by
  intro pins s σ H x xs v us Q I rx rxs h
  obtain ⟨a, y, d, ds, rfl, rfl, hl, hy, pl, pd, hdp, q⟩ := h
  cases rx
  cases rxs with
  | cons ry rt =>
    rename_i uy ut
    cases rt
    obtain ⟨bs, r1⟩ := Dp.reads I d y uy hy ry
    cases hl with
    | lst hs ha =>
      obtain ⟨its, rv, hl, hlen⟩ := I.list hs
      obtain ⟨as, h4⟩ := Dp.readsAll I ds _ its ha rv
      exact SeqAt.count_list_data hl.isList (vs := its.toArray) (show ReadsAll s.heap its.toArray.toList ds as by simpa using h4) r1 pl pd (by have := Nat.min_le_right (PyData.depthAll ds) d.depth; omega) ⟨.int _, H, I.tok _, ⟨_, rfl⟩, q⟩
theorem mt_tcountD (hu : X.A.units + 65 < cLine) : MtR X "tuple.count" (rCntD X.K .tuple) := by
  intro pins s σ H x xs v us Q I rx rxs h
  obtain ⟨a, y, d, ds, rfl, rfl, hl, hy, pl, pd, hdp, q⟩ := h
  cases rx
  cases rxs with
  | cons ry rt =>
    rename_i uy ut
    cases rt
    obtain ⟨bs, r1⟩ := Dp.reads I d y uy hy ry
    cases hl with
    | tup hs ha =>
      obtain ⟨its, rv, hl, hlen⟩ := I.tuple hs
      obtain ⟨as, h4⟩ := Dp.readsAll I ds _ its ha rv
      exact SeqAt.count_tuple_data hl (vs := its.toArray) (show ReadsAll s.heap its.toArray.toList ds as by simpa using h4) r1 pl pd (by have := Nat.min_le_right (PyData.depthAll ds) d.depth; omega) ⟨.int _, H, I.tok _, ⟨_, rfl⟩, q⟩
def rTupOf (K : PySem.W.Frag) : List V → Hp → VK → Prop := fun xs H Q => ∃ p ys, xs = [.ref p] ∧ ((SqL K H p ys ∧ ∀ l, H l = none → Q (.ref l) (upd H l (.tup ys))) ∨ (SqT K H p ys ∧ Q (.ref p) H))
theorem call_tupleD : CallR X (.type "tuple") (rTupOf X.K) := call_tuple_of
def rLstOf (K : PySem.W.Frag) : List V → Hp → VK → Prop := fun xs H Q => ∃ p ys, xs = [.ref p] ∧ (SqL K H p ys ∨ SqT K H p ys) ∧ ∀ l, H l = none → Q (.ref l) (upd H l (.lst ys))
theorem call_listD : CallR X (.type "list") (rLstOf X.K) := call_list_of
/-- tuple(l), the new object itself told -/
def rTupF (K : PySem.W.Frag) : List V → Hp → VK → Prop := fun xs H Q => ∃ p ys, xs = [.ref p] ∧ SqL K H p ys ∧ ∀ l o, H l = none → o.cls = .type "tuple" → o.dict = none → Q (.ref l) (upd H l (.frz o (.tup ys)))
theorem call_tupleF : CallR X (.type "tuple") (rTupF X.K) := by
  intro pins s σ H xs us Q I r h
  obtain ⟨p, ys, rfl, hq, q⟩ := h
  obtain ⟨u, rfl, rx⟩ := vals1 r
  cases rx
  obtain ⟨its, r', pl, hz⟩ := I.list hq
  have hlen := r'.length
  refine call_tuple_list pl.isList (fun h' kp => ?_) (by simp only [List.size_toArray] <;> omega)
  have I1 : Inv X pins σ H { s with heap := h' } := I.kept (t' := s.toks) kp
  have hg : (h'.push ({ cls := .type "tuple", data := .seq its.toArray } : Obj)).get? h'.objs.size = some { cls := .type "tuple", data := .seq its.toArray } := Heap.get?_push_size _ rfl
  have I2 : Inv X pins σ (upd H h'.objs.size (.frz ({ cls := .type "tuple", data := .seq its.toArray } : Obj) (.tup ys))) { s with heap := h'.push { cls := .type "tuple", data := .seq its.toArray } } :=
    I1.laid (t' := s.toks) (fun b o e => Heap.get?_push_of_some _ e) (Nat.le_refl _) (show ObjOk X.prog X.w _ _ _ (.frz _ (.tup ys)) from ⟨hg, hz, its, r', IsTup.new _ _⟩)
  exact ⟨.ref h'.objs.size, _, I2, rfl, q _ _ (I1.hok.fresh (Nat.le_refl _)) rfl rfl⟩
/-- t.m(e, ..), t a tuple whose object is told -/
def tyF (x : V) (H : Hp) : Prop := ∃ p o xs, x = .ref p ∧ H p = some (.frz o (.tup xs)) ∧ o.cls = .type "tuple" ∧ o.dict = none
theorem tyF_is {pins : List (Addr × Obj)} {σ : L2.St} {H : Hp} {s : Shared} {x : V} {v : Value} (I : Inv X pins σ H s) (r : RelV x v) (ty : tyF x H) :
    s.TypeIs v "tuple" ∧ ∀ a, v = .ref a → ∃ ob, s.heap.get? a = some ob ∧ ob.dict = none := by
  obtain ⟨p, o, xs, rfl, e, hc, hd⟩ := ty
  cases r
  have z := (I.hok p _ e).1
  refine ⟨⟨o, z, hc⟩, fun a e2 => ?_⟩
  cases e2
  exact ⟨o, z, hd⟩
def tBMT (r : V → List V → Hp → VK → Prop) (to : TE) (t : TA) : TE := fun σ H Q => to σ H fun x H1 => tyF x H1 ∧ t σ H1 fun xs H2 => r x xs H2 Q
theorem pe_bmT {o e : Expr} {es : List Expr} {to : TE} {t : TA} {name : Str} {apos cpos : Pos} {id : String} {r : V → List V → Hp → VK → Prop} (pa : PlainAttrs "tuple") (slot : Slot "tuple" name id) (hty : typeOf (.builtin id) = pure (.type "method_descriptor")) (hm : MtR X id r) (ho : PE X o to) (ha : PA X (e :: es) t)
    (hbase : attributeBase o name X.env (eval o X.env) = eval o X.env := by rfl)
    (hfew : ((backTo cpos (starEach (e :: es) X.env)).all (fun x => !x.1) && (backToKw cpos (keywordEach [] X.env)).all (fun x => x.1.isSome)
      && decide ((e :: es).length + ([] : List Keyword).length + (if ([] : List Keyword).isEmpty then 0 else 1) < 30)) = true := by rfl)
    (hline : (apos.endLine == cpos.line) = true := by rfl) (hs : starEach (e :: es) X.env = (false, eval e X.env) :: starEach es X.env := by rfl) (hplain : (backTo cpos (starEach es X.env)).any (·.1) = false := by rfl) :
    PE X (.Call (.Attribute o name apos) (e :: es) [] cpos) (tBMT r to t) := by
  refine ⟨fun pins s σ H Q I h => ?_⟩
  refine wpAny_Call_method_late hbase hfew hline rfl (thn (ho.run pins s σ H _ I h) fun v s1 ⟨x, H1, I1, r1, ty, q1⟩ => ?_)
  obtain ⟨h1, h2⟩ := tyF_is I1 r1 ty
  refine ⟨"tuple", id, pa, slot, hty, h1, h2, ?_⟩
  have hA := ha.run cpos pins s1 σ H1 _ I1 q1
  rw [hs] at hA ⊢
  refine Calls.callWith_builtin (by show (false || (backTo cpos (starEach es X.env)).any (·.1)) = false; rw [hplain] <;> rfl) (Calls.evalArgs_plain ?_)
  exact thn hA fun us s2 ⟨vs, H2, I2, r2, q2⟩ => hm pins s2 σ H2 x vs v us Q I2 r1 r2 q2
/-- t * 1 -/
theorem tuple_mul1 (l : Addr) (items : Array Value) (n : Nat) (dd : Option Addr) (sl : Array (Option Value)) (u : Tok) :
    Meets (Builtin.«tuple.__mul__» ⟨[.ref l, .int 1 u], []⟩) (fun _ R s => s.heap.get? l = some { cls := .type "tuple", dict := dd, data := .seq items n, slots := sl } ∧ R (.ok (.ret (Value.ref l))) s) :=
  .of_wp fun prog w A R s h => by
    obtain ⟨hp, g, d, tk, os⟩ := s
    obtain ⟨hl, h⟩ := h
    have f1 := AutoSeq1.idx_int
    wp_walk using wpAny_loadPart' hl
    repeat (first
      | (refine wpAny_ite_false (decide_eq_false (by decide)) ?_; wp_walk using wpAny_loadPart' hl)
      | (refine wpAny_ite_true (decide_eq_true (by simp)) ?_; wp_walk using wpAny_loadPart' hl))
    exact ⟨_, rfl, h⟩
def rRep1 (K : PySem.W.Frag) : R2 := fun x y H Q => ∃ l xs, x = .ref l ∧ y = .int 1 ∧ SqT K H l xs ∧ Q (.ref l) H
theorem op_rep1 : OpR X (binaryOp .Mult) (rRep1 X.K) := by
  intro pins s σ H x y v u Q I rx ry h
  obtain ⟨l, xs, rfl, rfl, hT, q⟩ := h
  cases rx
  obtain ⟨t, rfl⟩ := ry
  obtain ⟨its, r, ⟨⟨cls, dd, data, sl⟩, ho, hc, n, hd⟩, hs⟩ := I.tuple hT
  simp only at hc hd
  subst hc hd
  refine wpAny_binaryOp_repeat_ref (T := "tuple") (U := "int") (by decide) ⟨_, ho, rfl⟩ (fun s' => typeIs_int s' 1 t) noFill_tuple_mul F.fills_int_mul F.slot_int_rmul repeat_tuple F.slot_int_index.lookup
    (call_meets F.slot_int_rmul (typeIs_int s 1 t) F.entry_int_rmul (F.args_int_rmul_2 _ _) (int_rmul_tuple 1 t l its.toArray n dd sl)
      ⟨ho, rfl, ⟨_, ho, rfl⟩, call_meets F.slot_tuple_mul ⟨_, ho, rfl⟩ F.entry_tuple_mul (F.args_tuple_mul_2 _ _) (tuple_mul1 l its.toArray n dd sl t) ⟨ho, ?_⟩⟩)
  exact ⟨.ref l, H, I, rfl, q⟩
/-- t * k, k from 1 on: some tuple -/
def rRepX (K : PySem.W.Frag) : R2 := fun x y H Q => rRep1 K x y H Q ∨ rRepT K x y H Q
theorem op_repX : OpR X (binaryOp .Mult) (rRepX X.K) := fun pins s σ H x y v u Q I rx ry h => h.elim (op_rep1 pins s σ H x y v u Q I rx ry) (op_repT pins s σ H x y v u Q I rx ry)
def rSortX (K : PySem.W.Frag) (B : Int) : List V → Hp → VK → Prop := fun vs H Q => ∃ d, 1 ≤ d ∧ rSortU K d B vs H Q
theorem cr_sortX {B : Int} : CallR X (.builtin "sorted") (rSortX X.K B) := fun pins s σ H vs us Q I r ⟨_, hd, h⟩ => cr_sortT hd pins s σ H vs us Q I r h
end
end BR

set_option maxRecDepth 100000
set_option maxHeartbeats 4000000
namespace K0
open PySem L2
/-- the first two exchanged -/
def sw2 {α : Type} : List α → List α
  | a :: b :: r => b :: a :: r
  | l => l
def top (i : Nat) : Stmt := PySem.Challenge.pw_shownrun_k05_bags_told.main.body.getD i (.Pass ⟨0, 0, 0, 0⟩)

abbrev s_m_init : Stmt := inClass (top 1) 0
abbrev s_m_times : Stmt := inClass (top 1) 1
abbrev s_m_listed : Stmt := inClass (top 1) 2
abbrev s_m_merged : Stmt := inClass (top 1) 3
abbrev s_m_product : Stmt := inClass (top 1) 4
abbrev s_m_add : Stmt := inClass (top 1) 5
abbrev s_m_contains : Stmt := inClass (top 1) 6
abbrev s_m_len : Stmt := inClass (top 1) 7
abbrev s_m_eq : Stmt := inClass (top 1) 8
abbrev s_m_repr : Stmt := inClass (top 1) 9
abbrev s_box : Stmt := top 3
abbrev s_draw : Stmt := top 4
abbrev s_of : Stmt := top 5
abbrev s_same : Stmt := top 6
abbrev s_prime : Stmt := top 7
abbrev s_number : Stmt := top 8
abbrev s_bag : Stmt := top 9
abbrev s_shuffled : Stmt := top 10
abbrev s_merge : Stmt := top 11
abbrev s_items : Stmt := top 12
abbrev s_strange : Stmt := top 13
abbrev s_is_bag : Stmt := top 14
abbrev s_asked : Stmt := top 15
abbrev s_nearby : Stmt := top 16
abbrev s_merged_down : Stmt := top 17
abbrev s_law : Stmt := top 18
theorem sc_m_init : FnScope ["self", "items", "item"] ["self", "items"] (defScope s_m_init) := ⟨rfl, rfl, rfl, by decide +kernel, rfl, by decide +kernel, by decide +kernel⟩
theorem sc_m_times : FnScope ["self", "item"] ["self", "item"] (defScope s_m_times) := ⟨rfl, rfl, rfl, by decide +kernel, rfl, by decide +kernel, by decide +kernel⟩
theorem sc_m_listed : FnScope ["self"] ["self"] (defScope s_m_listed) := ⟨rfl, rfl, rfl, by decide +kernel, rfl, by decide +kernel, by decide +kernel⟩
theorem sc_m_merged : FnScope ["self", "worth", "p", "item", "made"] ["self", "worth", "p"] (defScope s_m_merged) := ⟨rfl, rfl, rfl, by decide +kernel, rfl, by decide +kernel, by decide +kernel⟩
theorem sc_m_product : FnScope ["self", "worth", "p", "total", "item"] ["self", "worth", "p"] (defScope s_m_product) := ⟨rfl, rfl, rfl, by decide +kernel, rfl, by decide +kernel, by decide +kernel⟩
theorem sc_m_add : FnScope ["self", "other", "both"] ["self", "other"] (defScope s_m_add) := ⟨rfl, rfl, rfl, by decide +kernel, rfl, by decide +kernel, by decide +kernel⟩
theorem sc_m_contains : FnScope ["self", "item"] ["self", "item"] (defScope s_m_contains) := ⟨rfl, rfl, rfl, by decide +kernel, rfl, by decide +kernel, by decide +kernel⟩
theorem sc_m_len : FnScope ["self"] ["self"] (defScope s_m_len) := ⟨rfl, rfl, rfl, by decide +kernel, rfl, by decide +kernel, by decide +kernel⟩
theorem sc_m_eq : FnScope ["self", "other"] ["self", "other"] (defScope s_m_eq) := ⟨rfl, rfl, rfl, by decide +kernel, rfl, by decide +kernel, by decide +kernel⟩
theorem sc_m_repr : FnScope ["self"] ["self"] (defScope s_m_repr) := ⟨rfl, rfl, rfl, by decide +kernel, rfl, by decide +kernel, by decide +kernel⟩
theorem sc_box : FnScope ["script", "mixed", "cell"] ["script"] (defScope s_box) := ⟨rfl, rfl, rfl, by decide +kernel, rfl, by decide +kernel, by decide +kernel⟩
theorem sc_draw : FnScope ["box", "sides", "cell", "digit", "seed"] ["box", "sides"] (defScope s_draw) := ⟨rfl, rfl, rfl, by decide +kernel, rfl, by decide +kernel, by decide +kernel⟩
theorem sc_of : FnScope ["box", "things"] ["box", "things"] (defScope s_of) := ⟨rfl, rfl, rfl, by decide +kernel, rfl, by decide +kernel, by decide +kernel⟩
theorem sc_same : FnScope ["found", "due", "a", "b"] ["found", "due"] (defScope s_same) := ⟨rfl, rfl, rfl, by decide +kernel, rfl, by decide +kernel, by decide +kernel⟩
theorem sc_prime : FnScope ["box", "way"] ["box"] (defScope s_prime) := ⟨rfl, rfl, rfl, by decide +kernel, rfl, by decide +kernel, by decide +kernel⟩
theorem sc_number : FnScope ["box", "prime", "way"] ["box", "prime"] (defScope s_number) := ⟨rfl, rfl, rfl, by decide +kernel, rfl, by decide +kernel, by decide +kernel⟩
theorem sc_bag : FnScope ["box", "items", "way", "made", "k"] ["box", "items"] (defScope s_bag) := ⟨rfl, rfl, rfl, by decide +kernel, rfl, by decide +kernel, by decide +kernel⟩
theorem sc_shuffled : FnScope ["box", "items", "found", "k", "held"] ["box", "items"] (defScope s_shuffled) := ⟨rfl, rfl, rfl, by decide +kernel, rfl, by decide +kernel, by decide +kernel⟩
theorem sc_merge : FnScope ["items", "gain", "prime", "found", "piece"] ["items", "gain", "prime"] (defScope s_merge) := ⟨rfl, rfl, rfl, by decide +kernel, rfl, by decide +kernel, by decide +kernel⟩
theorem sc_items : FnScope ["box", "prime", "long", "many", "wide", "found", "k", "j"] ["box", "prime", "long", "many"] (defScope s_items) := ⟨rfl, rfl, rfl, by decide +kernel, rfl, by decide +kernel, by decide +kernel⟩
theorem sc_strange : FnScope ["box", "items", "prime", "long", "held", "way", "pick"] ["box", "items", "prime", "long"] (defScope s_strange) := ⟨rfl, rfl, rfl, by decide +kernel, rfl, by decide +kernel, by decide +kernel⟩
theorem sc_is_bag : FnScope ["found", "items"] ["found", "items"] (defScope s_is_bag) := ⟨rfl, rfl, rfl, by decide +kernel, rfl, by decide +kernel, by decide +kernel⟩
theorem sc_asked : FnScope ["box", "bag", "items", "prime", "long", "piece", "k"] ["box", "bag", "items", "prime", "long"] (defScope s_asked) := ⟨rfl, rfl, rfl, by decide +kernel, rfl, by decide +kernel, by decide +kernel⟩
theorem sc_nearby : FnScope ["box", "items", "prime", "long", "found", "way", "k", "pick", "place", "held"] ["box", "items", "prime", "long"] (defScope s_nearby) := ⟨rfl, rfl, rfl, by decide +kernel, rfl, by decide +kernel, by decide +kernel⟩
theorem sc_merged_down : FnScope ["box", "bag", "items", "prime", "long", "held", "found", "k", "gain", "spot", "due", "piece"] ["box", "bag", "items", "prime", "long"] (defScope s_merged_down) := ⟨rfl, rfl, rfl, by decide +kernel, rfl, by decide +kernel, by decide +kernel⟩
theorem sc_law : FnScope ["script", "box", "prime", "long", "first", "second", "left", "right", "twin", "listed", "item", "near", "due", "told"] ["script"] (defScope s_law) := ⟨rfl, rfl, rfl, by decide +kernel, rfl, by decide +kernel, by decide +kernel⟩
/-- what the top has written -/
structure Txt (K : PySem.W.Frag) (mg : Str → Option Value) where
  f_m_init : Addr
  fd_m_init : FuncData
  F_m_init : Fun K "__init__" "Bag.__init__" s_m_init f_m_init fd_m_init
  f_m_times : Addr
  fd_m_times : FuncData
  F_m_times : Fun K "times" "Bag.times" s_m_times f_m_times fd_m_times
  b_m_times : Binds K fd_m_times ["self", "item"] []
  f_m_listed : Addr
  fd_m_listed : FuncData
  F_m_listed : Fun K "listed" "Bag.listed" s_m_listed f_m_listed fd_m_listed
  b_m_listed : Binds K fd_m_listed ["self"] []
  f_m_merged : Addr
  fd_m_merged : FuncData
  F_m_merged : Fun K "merged" "Bag.merged" s_m_merged f_m_merged fd_m_merged
  f_m_product : Addr
  fd_m_product : FuncData
  F_m_product : Fun K "product" "Bag.product" s_m_product f_m_product fd_m_product
  f_m_add : Addr
  fd_m_add : FuncData
  F_m_add : Fun K "__add__" "Bag.__add__" s_m_add f_m_add fd_m_add
  b_m_add : Binds K fd_m_add ["self", "other"] []
  f_m_contains : Addr
  fd_m_contains : FuncData
  F_m_contains : Fun K "__contains__" "Bag.__contains__" s_m_contains f_m_contains fd_m_contains
  b_m_contains : Binds K fd_m_contains ["self", "item"] []
  f_m_len : Addr
  fd_m_len : FuncData
  F_m_len : Fun K "__len__" "Bag.__len__" s_m_len f_m_len fd_m_len
  b_m_len : Binds K fd_m_len ["self"] []
  f_m_eq : Addr
  fd_m_eq : FuncData
  F_m_eq : Fun K "__eq__" "Bag.__eq__" s_m_eq f_m_eq fd_m_eq
  b_m_eq : Binds K fd_m_eq ["self", "other"] []
  f_m_repr : Addr
  fd_m_repr : FuncData
  F_m_repr : Fun K "__repr__" "Bag.__repr__" s_m_repr f_m_repr fd_m_repr
  b_m_repr : Binds K fd_m_repr ["self"] []
  f_box : Addr
  fd_box : FuncData
  F_box : Fun K "_law_box" "_law_box" s_box f_box fd_box
  g_box : mg "_law_box" = some (.ref f_box)
  b_box : Binds K fd_box ["script"] []
  f_draw : Addr
  fd_draw : FuncData
  F_draw : Fun K "_law_draw" "_law_draw" s_draw f_draw fd_draw
  g_draw : mg "_law_draw" = some (.ref f_draw)
  b_draw : Binds K fd_draw ["box", "sides"] []
  f_of : Addr
  fd_of : FuncData
  F_of : Fun K "_law_of" "_law_of" s_of f_of fd_of
  g_of : mg "_law_of" = some (.ref f_of)
  b_of : Binds K fd_of ["box", "things"] []
  f_same : Addr
  fd_same : FuncData
  F_same : Fun K "_law_same" "_law_same" s_same f_same fd_same
  g_same : mg "_law_same" = some (.ref f_same)
  b_same : Binds K fd_same ["found", "due"] []
  f_prime : Addr
  fd_prime : FuncData
  F_prime : Fun K "_law_prime" "_law_prime" s_prime f_prime fd_prime
  g_prime : mg "_law_prime" = some (.ref f_prime)
  b_prime : Binds K fd_prime ["box"] []
  f_number : Addr
  fd_number : FuncData
  F_number : Fun K "_law_number" "_law_number" s_number f_number fd_number
  g_number : mg "_law_number" = some (.ref f_number)
  b_number : Binds K fd_number ["box", "prime"] []
  f_bag : Addr
  fd_bag : FuncData
  F_bag : Fun K "_law_bag" "_law_bag" s_bag f_bag fd_bag
  g_bag : mg "_law_bag" = some (.ref f_bag)
  b_bag : Binds K fd_bag ["box", "items"] []
  f_shuffled : Addr
  fd_shuffled : FuncData
  F_shuffled : Fun K "_law_shuffled" "_law_shuffled" s_shuffled f_shuffled fd_shuffled
  g_shuffled : mg "_law_shuffled" = some (.ref f_shuffled)
  b_shuffled : Binds K fd_shuffled ["box", "items"] []
  f_merge : Addr
  fd_merge : FuncData
  F_merge : Fun K "_law_merge" "_law_merge" s_merge f_merge fd_merge
  g_merge : mg "_law_merge" = some (.ref f_merge)
  b_merge : Binds K fd_merge ["items", "gain", "prime"] []
  f_items : Addr
  fd_items : FuncData
  F_items : Fun K "_law_items" "_law_items" s_items f_items fd_items
  g_items : mg "_law_items" = some (.ref f_items)
  b_items : Binds K fd_items ["box", "prime", "long", "many"] []
  f_strange : Addr
  fd_strange : FuncData
  F_strange : Fun K "_law_strange" "_law_strange" s_strange f_strange fd_strange
  g_strange : mg "_law_strange" = some (.ref f_strange)
  b_strange : Binds K fd_strange ["box", "items", "prime", "long"] []
  f_is_bag : Addr
  fd_is_bag : FuncData
  F_is_bag : Fun K "_law_is_bag" "_law_is_bag" s_is_bag f_is_bag fd_is_bag
  g_is_bag : mg "_law_is_bag" = some (.ref f_is_bag)
  b_is_bag : Binds K fd_is_bag ["found", "items"] []
  f_asked : Addr
  fd_asked : FuncData
  F_asked : Fun K "_law_asked" "_law_asked" s_asked f_asked fd_asked
  g_asked : mg "_law_asked" = some (.ref f_asked)
  b_asked : Binds K fd_asked ["box", "bag", "items", "prime", "long"] []
  f_nearby : Addr
  fd_nearby : FuncData
  F_nearby : Fun K "_law_nearby" "_law_nearby" s_nearby f_nearby fd_nearby
  g_nearby : mg "_law_nearby" = some (.ref f_nearby)
  b_nearby : Binds K fd_nearby ["box", "items", "prime", "long"] []
  f_merged_down : Addr
  fd_merged_down : FuncData
  F_merged_down : Fun K "_law_merged_down" "_law_merged_down" s_merged_down f_merged_down fd_merged_down
  g_merged_down : mg "_law_merged_down" = some (.ref f_merged_down)
  b_merged_down : Binds K fd_merged_down ["box", "bag", "items", "prime", "long"] []
  f_law : Addr
  fd_law : FuncData
  F_law : Fun K "law" "law" s_law f_law fd_law
  g_law : mg "law" = some (.ref f_law)
  b_law : Binds K fd_law ["script"] []
  kb_m_merged1 : KBn K fd_m_merged ["self", "worth", "p"] 2 ["p"] (fun us ws => us ++ ws) (fun vs zs => vs ++ zs)
  kb_m_merged0 : KBn K fd_m_merged ["self", "worth", "p"] 1 ["p", "worth"] (fun us ws => us ++ ws.reverse) (fun vs zs => vs ++ zs.reverse)
  kb_m_product1 : KBn K fd_m_product ["self", "worth", "p"] 2 ["p"] (fun us ws => us ++ ws) (fun vs zs => vs ++ zs)
  kb_m_product0 : KBn K fd_m_product ["self", "worth", "p"] 1 ["p", "worth"] (fun us ws => us ++ ws.reverse) (fun vs zs => vs ++ zs.reverse)
  kb_m_times0 : KBn K fd_m_times ["self", "item"] 1 ["item"] (fun us ws => us ++ ws) (fun vs zs => vs ++ zs)
  C_Bag : Addr
  gC_Bag : mg "Bag" = some (.ref C_Bag)
  cl : Cls K C_Bag
  mk_ : Mk K C_Bag f_m_init
  n__members : NoAttr K C_Bag "_members"
  sf : PySem.W.selfFirst K C_Bag = true
  mo : PySem.W.mroIn K C_Bag (.type "object") = some true
  ne_ : PySem.W.findIn K (.ref C_Bag) "__ne__" = some (some (.builtin "object.__ne__"))
  ca : PySem.W.findIn K (.ref C_Bag) "__class__" = some (some (.builtin "object.__class__"))
  cn : PySem.W.specialIn K (.builtin "object.__class__") "__get__" = some (some (.builtin "getset_descriptor.__get__"))
  ct : PySem.W.takesIn K (.builtin "object.__class__") = some true
  kk : PySem.W.kitOne K (.ref C_Bag) (.ref C_Bag) = some true
  me_m_times : Meth K C_Bag "times" f_m_times
  me_m_listed : Meth K C_Bag "listed" f_m_listed
  me_m_merged : Meth K C_Bag "merged" f_m_merged
  me_m_product : Meth K C_Bag "product" f_m_product
  f_add : PySem.W.findIn K (.ref C_Bag) "__add__" = some (some (.ref f_m_add))
  n_add : PySem.W.isFn K (.ref f_m_add) = true
  f_eq : PySem.W.findIn K (.ref C_Bag) "__eq__" = some (some (.ref f_m_eq))
  n_eq : PySem.W.isFn K (.ref f_m_eq) = true
  f_repr : PySem.W.findIn K (.ref C_Bag) "__repr__" = some (some (.ref f_m_repr))
  n_repr : PySem.W.isFn K (.ref f_m_repr) = true
  f_len : PySem.W.findIn K (.ref C_Bag) "__len__" = some (some (.ref f_m_len))
  n_len : PySem.W.isFn K (.ref f_m_len) = true
  f_contains : PySem.W.findIn K (.ref C_Bag) "__contains__" = some (some (.ref f_m_contains))
  n_contains : PySem.W.isFn K (.ref f_m_contains) = true
  nf_list : PySem.W.notFirst K C_Bag (.type "list") = true
  k_list : PySem.W.kitOne K (.type "list") (.ref C_Bag) = some false
  nf_NoneType : PySem.W.notFirst K C_Bag (.type "NoneType") = true
  k_NoneType : PySem.W.kitOne K (.type "NoneType") (.ref C_Bag) = some false
  nf_Bag : PySem.W.notFirst K C_Bag (.ref C_Bag) = true
  z_abs : mg "abs" = none
  z_all : mg "all" = none
  z_bool : mg "bool" = none
  z_int : mg "int" = none
  z_isinstance : mg "isinstance" = none
  z_len : mg "len" = none
  z_list : mg "list" = none
  z_min : mg "min" = none
  z_range : mg "range" = none
  z_repr : mg "repr" = none
  z_sorted : mg "sorted" = none
  z_str : mg "str" = none
  z_tuple : mg "tuple" = none
  z_zip : mg "zip" = none
end K0

set_option maxRecDepth 100000
set_option maxHeartbeats 4000000
namespace K0
open PySem L2 BR

/-! ### the box of draws -/
/-- at b: the law's box -/
def BoxAt (H : Hp) (b : Addr) : Prop := ∃ (l : Addr) (ns : List Int) (pos rest seed cnt : Int), H b = some (.lst [.ref l, .int pos, .int rest, .int seed, .int cnt]) ∧ H l = some (.lst (ns.map V.int)) ∧ ns.length ≤ 63 ∧ 0 ≤ pos ∧ 0 ≤ rest ∧ 0 ≤ seed ∧ seed < 2147483563
/-- all that is tracked but b stands -/
def Keep (b : Addr) (H H' : Hp) : Prop := (∀ x o, x ≠ b → H x = some o → H' x = some o) ∧ ∀ (l : Addr) (r : List V), H b = some (.lst (.ref l :: r)) → ∃ r' : List V, H' b = some (.lst (.ref l :: r'))
theorem Keep.refl {b : Addr} {H : Hp} : Keep b H H := ⟨fun _ _ _ h => h, fun _ r h => ⟨r, h⟩⟩
theorem Keep.trans {b : Addr} {H H1 H2 : Hp} (a : Keep b H H1) (c : Keep b H1 H2) : Keep b H H2 := ⟨fun x o n h => c.1 x o n (a.1 x o n h), fun l r h => let ⟨r1, h1⟩ := a.2 l r h; c.2 l r1 h1⟩
theorem Keep.of_same {b : Addr} {H H1 : Hp} (a : Same H H1) : Keep b H H1 := ⟨fun x o _ h => a x o h, fun l r h => ⟨r, a _ _ h⟩⟩
theorem Keep.upd {b l : Addr} {H : Hp} {r r' : List V} (hb : H b = some (.lst (.ref l :: r))) : Keep b H (L2.upd H b (.lst (.ref l :: r'))) :=
  ⟨fun x u n h => by rw [upd_ne n]; exact h, fun l2 r2 h => by
    rw [hb] at h
    cases h
    exact ⟨r', upd_same⟩⟩
theorem same_new {H : Hp} {p : Addr} (h : H p = none) (o : HO) : Same H (upd H p o) := fun b u q => by rw [upd_ne (ne_of_none q h)]; exact q
theorem BoxAt.same {H H' : Hp} {b : Addr} (h : BoxAt H b) (s : Same H H') : BoxAt H' b := by
  obtain ⟨l, ns, p, r, sd, c, h1, h2, h3⟩ := h
  exact ⟨l, ns, p, r, sd, c, s _ _ h1, s _ _ h2, h3⟩
theorem BoxAt.some {H : Hp} {b : Addr} (h : BoxAt H b) : ∃ o, H b = some o := by
  obtain ⟨l, ns, p, r, sd, c, h1, _⟩ := h
  exact ⟨_, h1⟩
theorem BoxAt.ne {H : Hp} {b p : Addr} (h : BoxAt H b) (n : H p = none) : p ≠ b := by
  obtain ⟨o, e⟩ := h.some
  exact fun z => by rw [z, e] at n; cases n
theorem ne_cells {H : Hp} {b l : Addr} {ns : List Int} {r : List V} {a : Addr} (hb : H b = some (.lst (.ref a :: r))) (hl : H l = some (.lst (ns.map V.int))) : l ≠ b := fun z => by
  rw [z, hb] at hl
  cases ns with
  | nil => simp at hl
  | cons n ns => simp at hl
def spDraw : Sp := fun vs H Q _ => ∃ (b : Addr) (m : Int), vs = [.ref b, .int m] ∧ 0 < m ∧ m < 2 ^ 64 ∧ BoxAt H b ∧ ∀ (d : Int) (H' : Hp), 0 ≤ d → d < m → BoxAt H' b → Keep b H H' → Q (.int d) H'
theorem setq {H : Hp} {b : Addr} {o o' : HO} : upd (upd H b o) b o' = upd H b o' := by
  funext x
  by_cases h : x = b
  · rw [h, upd_same, upd_same]
  · rw [upd_ne h, upd_ne h, upd_ne h]
section
variable {P : Program} {w : World} {K : PySem.W.Frag} {mg : Str → Option Value} {base : Heap}
theorem ok_draw (T : Txt K mg) : FnOk P w K mg base CX0 1 T.f_draw T.fd_draw ["box", "sides"] (spDraw) := by
  refine T.F_draw.ok sc_draw (fun vs H Q E h => ?_) (fun cdv A outer s H vs Q E hr h => ?_)
  · obtain ⟨b, m, rfl, _⟩ := h
    rfl
  · obtain ⟨b, m, rfl, m0, m1, ⟨l, ns, pos, rest, seed, cnt, hb, hl, h63, p0, r0, s0, s1⟩, k⟩ := h
    have hlb : l ≠ b := ne_cells hb hl
    refine ⟨_, (pss_cons (ps_asg (pe_op op_add (pe_ix ix_list (pv 0) pe_int (fun _ _ => rfl)) pe_int) (pg_sub (pv 0) pe_int set_list))
      (C8.pss_cut (ps_if (PW.pt (pw_and (pt_cmpR op_eq (pe_ix ix_list (pv 0) pe_int (fun _ _ => rfl)) pe_int (nomark _)) (pw_and1 (pt_cmpR op_lt (pe_ix ix_list (pv 0) pe_int (fun _ _ => rfl)) (pe_callB call_len_seq (by rfl) T.z_len PySem.boot_len (pa_cons (pe_ix ix_list (pv 0) pe_int (fun _ _ => rfl)) pa_nil)) (nomark _))))) (pss_cons (ps_set (i := 2) sc_draw.nd rfl (Or.inl rfl) (pe_callB call_abs (by rfl) T.z_abs (by decide +kernel) (pa_cons (pe_callTy call_int1 (by rfl) T.z_int (by decide +kernel) (pa_cons (pe_ix ix_list (pe_ix ix_list (pv 0) pe_int (fun _ _ => rfl)) (pe_ix ix_list (pv 0) pe_int (fun _ _ => rfl)) (fun _ _ => rfl)) pa_nil)) pa_nil)))
      (pss_cons (ps_asg (pe_op op_add (pe_ix ix_list (pv 0) pe_int (fun _ _ => rfl)) pe_int) (pg_sub (pv 0) pe_int set_list))
      (pss_one (ps_if (pt_cmpR op_ge (pv 2) (pe_op op_pow pe_int pe_int) (nomark _)) (pss_one (ps_asg (pv 2) (pg_sub (pv 0) pe_int set_list))) (pss_one (ps_asg (pe_op op_mod (pe_callTy call_int1 (by rfl) T.z_int (by decide +kernel) (pa_cons (pe_op op_add (pe_op op_add (pe_op op_mul (pe_ix ix_list (pv 0) pe_int (fun _ _ => rfl)) pe_int) (pe_op op_mul (pe_op op_mod (pv 2) pe_int) pe_int)) pe_int) pa_nil)) pe_int) (pg_sub (pv 0) pe_int set_list))))))) pss_nil)
      (pss_cons (ps_if (pt_cmpR op_gt (pe_ix ix_list (pv 0) pe_int (fun _ _ => rfl)) pe_int (nomark _)) (pss_cons (ps_set (i := 3) sc_draw.nd rfl (Or.inl rfl) (pe_op op_mod (pe_callTy call_int1 (by rfl) T.z_int (by decide +kernel) (pa_cons (pe_ix ix_list (pv 0) pe_int (fun _ _ => rfl)) pa_nil)) (pv 1)))
      (pss_cons (ps_asg (pe_op op_fdivW (pe_callTy call_int1 (by rfl) T.z_int (by decide +kernel) (pa_cons (pe_ix ix_list (pv 0) pe_int (fun _ _ => rfl)) pa_nil)) (pv 1)) (pg_sub (pv 0) pe_int set_list))
      (pss_one (ps_ret (pv 3))))) pss_nil)
      (pss_cons (ps_set (i := 4) sc_draw.nd rfl (Or.inl rfl) (pe_callTy call_int1 (by rfl) T.z_int (by decide +kernel) (pa_cons (pe_ix ix_list (pv 0) pe_int (fun _ _ => rfl)) pa_nil)))
      (pss_cons (ps_asg (pe_op op_mod (pe_callTy call_int1 (by rfl) T.z_int (by decide +kernel) (pa_cons (pe_op op_add (pe_op op_add (pe_op op_add (pe_op op_mul (pe_op op_mul (pv 4) (pv 4)) pe_int) (pe_op op_mul (pv 4) pe_int)) (pe_op op_mul (pe_ix ix_list (pv 0) pe_int (fun _ _ => rfl)) pe_int)) pe_int) pa_nil)) pe_int) (pg_sub (pv 0) pe_int set_list))
      (pss_one (ps_ret (pe_op op_mod (pe_callTy call_int1 (by rfl) T.z_int (by decide +kernel) (pa_cons (pe_op op_add (pe_op op_mul (pe_ix ix_list (pv 0) pe_int (fun _ _ => rfl)) pe_int) (pe_op op_fdivW (pe_ix ix_list (pv 0) pe_int (fun _ _ => rfl)) pe_int)) pa_nil)) (pv 1))))))))), ?_⟩
    refine ⟨_, rfl, b, _, _, _, rfl, rfl, SqL.of hb, rfl, _, _, rfl, rfl, _, rfl, b, _, _, _, rfl, rfl, hb, rfl, ?_⟩
    have hl1 : ∀ o, upd H b o l = some (.lst (ns.map V.int)) := fun o => by rw [upd_ne hlb]; exact hl
    -- the rest, from any state of the box
    refine ⟨fun σ H' => ∃ (v : Option V) (pos' rest' seed' c1 : Int), σ = [some (.ref b), some (.int m), v, none, none] ∧ H' = upd H b (.lst [.ref l, .int pos', .int rest', .int seed', .int c1]) ∧ 0 ≤ pos' ∧ 0 ≤ rest' ∧ 0 ≤ seed' ∧ seed' < 2147483563, ?_, ?_⟩
    · refine ⟨_, rfl, b, _, _, _, rfl, rfl, SqL.of upd_same, rfl, rfl, _, rfl, ?_⟩
      refine ite2 (fun c => ?_) (fun c => ?_)
      · refine ⟨_, rfl, b, _, _, _, rfl, rfl, SqL.of upd_same, rfl, _, rfl, b, _, _, _, rfl, rfl, SqL.of upd_same, rfl, l, _, rfl, .inl (SqL.of (hl1 _)), _, _, rfl, rfl, _, rfl, ?_⟩
        refine ite2 (fun c2 => ?_) (fun c2 => ?_)
        · have hp : pos < ((ns.map V.int).length : Int) := of_decide_eq_true c2
          rw [List.length_map] at hp
          have ek : pos = ((pos.toNat : Nat) : Int) := by omega
          have q : atI (ns.map V.int) ((pos.toNat : Nat) : Int) = some (.int ns[pos.toNat]) := atI_nat (by rw [List.getElem?_map, List.getElem?_eq_getElem (by omega)] <;> rfl)
          rw [← ek] at q
          generalize ns[pos.toNat] = n at q
          refine ⟨_, rfl, b, _, _, _, rfl, rfl, SqL.of upd_same, rfl, _, rfl, b, _, _, _, rfl, rfl, SqL.of upd_same, rfl, l, _, _, _, rfl, rfl, SqL.of (hl1 _), q, .inl ⟨_, rfl, _, rfl, ?_⟩⟩
          have a0 : 0 ≤ (if n < 0 then -n else n) := by split <;> omega
          generalize (if n < 0 then -n else n) = cell at a0
          refine ⟨_, rfl, b, _, _, _, rfl, rfl, SqL.of upd_same, rfl, _, _, rfl, rfl, _, rfl, b, _, _, _, rfl, rfl, upd_same, rfl, ?_⟩
          rw [setq]
          refine ⟨_, rfl, _, _, rfl, rfl, ⟨by decide, by decide, by decide⟩, _, _, rfl, rfl, _, rfl, ?_⟩
          refine ite2 (fun c3 => ?_) (fun c3 => ?_)
          · refine ⟨_, rfl, _, rfl, b, _, _, _, rfl, rfl, upd_same, rfl, ?_⟩
            rw [setq]
            exact ⟨_, _, _, _, _, rfl, rfl, by omega, a0, s0, s1⟩
          · refine ⟨_, rfl, b, _, _, _, rfl, rfl, SqL.of upd_same, rfl, _, _, rfl, rfl, .inr ⟨by decide, by decide⟩, _, rfl, _, _, rfl, rfl, (by show (0 : Int) < 1000667; decide), _, _, rfl, rfl, .inr ⟨by decide, by decide⟩, _, _, rfl, rfl, _, _, rfl, rfl, .inl ⟨_, rfl, _, _, rfl, rfl, (by show (0 : Int) < 2147483549; decide), _, rfl, b, _, _, _, rfl, rfl, upd_same, rfl, ?_⟩⟩
            rw [setq]
            exact ⟨_, _, _, _, _, rfl, rfl, by omega, r0, by omega, by omega⟩
        · exact ⟨_, _, _, _, _, rfl, rfl, p0, r0, s0, s1⟩
      · exact ⟨_, _, _, _, _, rfl, rfl, p0, r0, s0, s1⟩
    · rintro σ H' ⟨v, pos', rest', seed', c1, rfl, rfl, p0, r0, s0, s1⟩
      have fin : ∀ (d p r sd : Int), 0 ≤ d → d < m → 0 ≤ p → 0 ≤ r → 0 ≤ sd → sd < 2147483563 → Q (.int d) (upd H b (.lst [.ref l, .int p, .int r, .int sd, .int c1])) := fun d p r sd d0 d1 p0 r0 s0 s1 =>
        k d _ d0 d1 ⟨l, ns, p, r, sd, c1, upd_same, hl1 _, h63, p0, r0, s0, s1⟩ (Keep.upd hb)
      refine ⟨_, rfl, b, _, _, _, rfl, rfl, SqL.of upd_same, rfl, _, _, rfl, rfl, _, rfl, ?_⟩
      refine ite2 (fun c => ?_) (fun c => ?_)
      · refine ⟨_, rfl, b, _, _, _, rfl, rfl, SqL.of upd_same, rfl, .inl ⟨_, rfl, _, rfl, _, _, rfl, rfl, m0, ?_⟩⟩
        refine ⟨_, rfl, b, _, _, _, rfl, rfl, SqL.of upd_same, rfl, .inl ⟨_, rfl, _, rfl, _, _, rfl, rfl, ⟨m0, ?_⟩, _, rfl, b, _, _, _, rfl, rfl, upd_same, rfl, ?_⟩⟩
        · exact Nat.lt_trans (PySem.Flt.log2_lt_of (by decide : 0 < 64) (by omega)) (by decide)
        · rw [setq]
          refine ⟨_, rfl, ?_⟩
          exact fin _ _ _ _ (Int.emod_nonneg _ (by omega)) (Int.emod_lt_of_pos _ m0) p0 (Int.ediv_nonneg r0 (by omega)) s0 s1
      · refine ⟨_, rfl, b, _, _, _, rfl, rfl, SqL.of upd_same, rfl, .inl ⟨_, rfl, ?_⟩⟩
        refine ⟨_, rfl, _, rfl, _, _, rfl, rfl, .inl ⟨by omega, by omega⟩, _, _, rfl, rfl, .inr ⟨by decide, by decide⟩, _, rfl, _, _, rfl, rfl, .inr ⟨by decide, by decide⟩, _, _, rfl, rfl, _, rfl, b, _, _, _, rfl, rfl, SqL.of upd_same, rfl, _, _, rfl, rfl, .inr ⟨by decide, by decide⟩, _, _, rfl, rfl, _, _, rfl, rfl, .inl ⟨_, rfl, _, _, rfl, rfl, (by show (0 : Int) < 2147483563; decide), _, rfl, b, _, _, _, rfl, rfl, upd_same, rfl, ?_⟩⟩
        rw [setq]
        refine ⟨_, rfl, b, _, _, _, rfl, rfl, SqL.of upd_same, rfl, _, _, rfl, rfl, .inr ⟨by decide, by decide⟩, _, rfl, b, _, _, _, rfl, rfl, SqL.of upd_same, rfl, _, _, rfl, rfl, ⟨by decide, by decide⟩, _, _, rfl, rfl, .inl ⟨_, rfl, _, rfl, _, _, rfl, rfl, m0, ?_⟩⟩
        exact fin _ _ _ _ (Int.emod_nonneg _ (by omega)) (Int.emod_lt_of_pos _ m0) p0 r0 (Int.emod_nonneg _ (by decide)) (Int.emod_lt_of_pos _ (by decide))
end
end K0

set_option maxRecDepth 100000
set_option maxHeartbeats 4000000
namespace K0
open PySem L2 BR

theorem Keep.seqL {K : PySem.W.Frag} {b a : Addr} {H H' : Hp} {xs : List V} (k : Keep b H H') (n : a ≠ b) (h : SqL K H a xs) : SqL K H' a xs := by
  rcases h with (h | ⟨o, h⟩) | h
  · exact .inl (.inl (k.1 _ _ n h))
  · exact .inl (.inr ⟨o, k.1 _ _ n h⟩)
  · exact .inr h
theorem Keep.seqT {K : PySem.W.Frag} {b a : Addr} {H H' : Hp} {xs : List V} (k : Keep b H H') (n : a ≠ b) (h : SqT K H a xs) : SqT K H' a xs := by
  rcases h with (h | ⟨o, h⟩) | h
  · exact .inl (.inl (k.1 _ _ n h))
  · exact .inl (.inr ⟨o, k.1 _ _ n h⟩)
  · exact .inr h
theorem Same.seqT' {K : PySem.W.Frag} {a : Addr} {H H' : Hp} {xs : List V} (k : Same H H') (h : SqT K H a xs) : SqT K H' a xs := by
  rcases h with (h | ⟨o, h⟩) | h
  · exact .inl (.inl (k _ _ h))
  · exact .inl (.inr ⟨o, k _ _ h⟩)
  · exact .inr h
theorem cut_ints (ns : List Int) (lo hi : Option Int) : ∃ ns' : List Int, cutV (ns.map V.int) lo hi = ns'.map V.int ∧ ns'.length ≤ ns.length := by
  refine ⟨(ns.drop (HT.sIx (ns.map V.int).length 0 lo)).take (HT.sIx (ns.map V.int).length (ns.map V.int).length hi - HT.sIx (ns.map V.int).length 0 lo), ?_, ?_⟩
  · unfold cutV
    rw [List.map_take, List.map_drop]
  · rw [List.length_take, List.length_drop]
    omega
theorem at_int {ns : List Int} {i : Nat} {v : V} (h : (ns.map V.int)[i]? = some v) : ∃ n, ns[i]? = some n ∧ v = .int n := by
  rw [List.getElem?_map] at h
  cases e : ns[i]? with
  | none => rw [e] at h; cases h
  | some n => rw [e] at h; exact ⟨n, rfl, (Option.some.inj h).symm⟩
theorem ints_of {l : List Int} {i : Nat} {v : V} (h : (l.map V.int)[i]? = some v) : ∃ p ∈ l, v = .int p := by
  obtain ⟨n, h1, h2⟩ := at_int h
  exact ⟨n, List.mem_of_getElem? h1, h2⟩
def spBox (K : PySem.W.Frag) : Sp := fun vs H Q _ => ∃ (a : Addr) (ns : List Int), vs = [.ref a] ∧ SqL K H a (ns.map V.int) ∧ ns.length ≤ 63 ∧ ∀ (b : Addr) (H' : Hp), Same H H' → H b = none → BoxAt H' b → Q (.ref b) H'
def spOf (K : PySem.W.Frag) : Sp := fun vs H Q _ => ∃ (b t : Addr) (xs : List V), vs = [.ref b, .ref t] ∧ BoxAt H b ∧ t ≠ b ∧ SqL K H t xs ∧ xs ≠ [] ∧ xs.length ≤ 1000 ∧ ∀ (i : Nat) (v : V) (H' : Hp), xs[i]? = some v → BoxAt H' b → Keep b H H' → Q v H'
def spPrime : Sp := fun vs H Q _ => ∃ (b : Addr), vs = [.ref b] ∧ BoxAt H b ∧ ∀ (p : Int) (H' : Hp), p ∈ primes → BoxAt H' b → Keep b H H' → Q (.int p) H'
def spNumber : Sp := fun vs H Q _ => ∃ (b : Addr) (p : Int), vs = [.ref b, .int p] ∧ BoxAt H b ∧ 0 < p ∧ p < 10000000000 ∧ ∀ (n : Int) (H' : Hp), -10000000000 ≤ n → n ≤ 10000000002 → BoxAt H' b → Keep b H H' → Q (.int n) H'
section
variable {P : Program} {w : World} {K : PySem.W.Frag} {mg : Str → Option Value} {base : Heap}
theorem ok_box (T : Txt K mg) : FnOk P w K mg base CX0 1 T.f_box T.fd_box ["script"] (spBox K) := by
  refine T.F_box.ok sc_box (fun vs H Q E h => ?_) (fun cdv A outer s H vs Q E hr h => ?_)
  · obtain ⟨b, m, rfl, _⟩ := h
    rfl
  · obtain ⟨a, ns, rfl, hS, h63, k⟩ := h
    refine ⟨_, (pss_cons (ps_set (i := 1) sc_box.nd rfl (Or.inl rfl) pe_int)
      (pss_cons (ps_for PassesOwn.never rfl (pi_list (pe_slice sl_list (pv 0) po_none (po_some pe_int))) (pg_name (i := 2) sc_box.nd rfl (Or.inl rfl)) (pss_one (ps_set (i := 1) sc_box.nd rfl (Or.inl rfl) (pe_op op_mod (pe_callTy call_int1 (by rfl) T.z_int (by decide +kernel) (pa_cons (pe_op op_add (pe_op op_add (pe_op op_mul (pv 1) pe_int) (pe_op op_mul (pe_op op_mod (pe_callTy call_int1 (by rfl) T.z_int (by decide +kernel) (pa_cons (pv 2) pa_nil)) pe_int) pe_int)) pe_int) pa_nil)) pe_int))))
      (pss_one (ps_ret (pe_lst (pa_cons (pe_callTy call_listD (by rfl) T.z_list (by decide +kernel) (pa_cons (pe_slice sl_list (pv 0) po_none (po_some pe_int)) pa_nil)) (pa_cons pe_int (pa_cons pe_int (pa_cons (pv 1) (pa_cons pe_int pa_nil)))))))))), ?_⟩
    refine ⟨_, rfl, _, rfl, a, _, rfl, hS, fun p hp => ?_⟩
    obtain ⟨n1, e1, l1⟩ := cut_ints ns none (some 63)
    have g1 : Same H (upd H p (.lst (cutV (ns.map V.int) none (some 63)))) := same_new hp _
    have hp1 : upd H p (.lst (cutV (ns.map V.int) none (some 63))) p = some (.lst (n1.map V.int)) := by rw [upd_same, e1]
    generalize upd H p (.lst (cutV (ns.map V.int) none (some 63))) = H1 at g1 hp1
    refine ⟨p, rfl, ⟨_, SqL.of hp1⟩, for_list (K := K) (a := p) (xs := n1.map V.int) (fun i σ H' => ∃ (m : Int) (v : Option V), σ = [some (.ref a), some (.int m), v] ∧ H' = H1 ∧ 0 ≤ m ∧ m < 2147483543)
      ⟨_, _, rfl, rfl, by decide, by decide⟩ (fun i σ H' _ ⟨_, _, _, e, _⟩ => by rw [e]; exact SqL.of hp1) ?_ ?_⟩
    · rintro i y σ H' hi ⟨m, v, rfl, rfl, m0, m1⟩
      obtain ⟨z, _, rfl⟩ := at_int hi
      refine ⟨_, rfl, _, _, rfl, rfl, .inr ⟨by decide, by decide⟩, _, rfl, .inl ⟨_, rfl, _, _, rfl, rfl, (by show (0 : Int) < 1000667; decide), _, _, rfl, rfl, .inr ⟨by decide, by decide⟩, _, _, rfl, rfl, _, _, rfl, rfl, .inl ⟨_, rfl, _, _, rfl, rfl, (by show (0 : Int) < 2147483543; decide), ?_⟩⟩⟩
      exact ⟨_, _, rfl, rfl, Int.emod_nonneg _ (by decide), Int.emod_lt_of_pos _ (by decide)⟩
    · rintro σ H' ⟨m, v, rfl, rfl, m0, m1⟩
      refine ⟨_, rfl, _, rfl, a, _, rfl, g1.seq hS, fun q hq => ?_⟩
      obtain ⟨n2, e2, l2⟩ := cut_ints ns none (some 63)
      refine ⟨q, _, rfl, .inl (SqL.of upd_same), fun l hl => ?_⟩
      refine ⟨_, rfl, (by show 5 ≤ sizeLine; decide), fun b hb => ?_⟩
      have hq1 : H q = none := g1.free hq
      have g2 := same_new hq (.lst (cutV (ns.map V.int) none (some 63)))
      have g3 := same_new hl (.lst (cutV (ns.map V.int) none (some 63)))
      have g4 := same_new hb (.lst [.ref l, .int 0, .int 0, .int m, .int 0])
      refine k b _ (g1.trans (g2.trans (g3.trans g4))) (g1.free (g2.free (g3.free hb))) ⟨l, n2, 0, 0, m, 0, upd_same, ?_, by omega, by decide, by decide, m0, by omega⟩
      refine g4 _ _ ?_
      rw [upd_same, e2]
theorem ok_of (T : Txt K mg) : FnOk P w K mg base CX0 2 T.f_of T.fd_of ["box", "things"] (spOf K) := by
  refine T.F_of.ok sc_of (fun vs H Q E h => ?_) (fun cdv A outer s H vs Q E hr h => ?_)
  · obtain ⟨b, t, xs, rfl, _⟩ := h
    rfl
  · obtain ⟨b, t, xs, rfl, hB, hn, hS, h0, h1, k⟩ := h
    refine ⟨_, (pss_one (ps_ret (pe_ix ix_list (pv 1) (pe_call (ok_draw T) (hr.mono (by decide)) (by rfl) T.g_draw T.F_draw.kp T.b_draw .nil pass0 (pa_cons (pv 0) (pa_cons (pe_callB call_len_seq (by rfl) T.z_len PySem.boot_len (pa_cons (pv 1) pa_nil)) pa_nil))) (fun _ _ => rfl)))), ?_⟩
    have hpos : 0 < xs.length := List.length_pos_iff.mpr h0
    refine ⟨_, rfl, _, rfl, _, rfl, t, _, rfl, .inl hS, b, _, rfl, by omega, by omega, hB, fun d H' d0 d1 hB' hK => ?_⟩
    have ed : d = ((d.toNat : Nat) : Int) := by omega
    have q : xs[d.toNat]? = some xs[d.toNat] := List.getElem?_eq_getElem (by omega)
    refine ⟨t, xs, d, _, rfl, rfl, hK.seqL hn hS, ?_, k d.toNat _ H' q hB' hK⟩
    have z := atI_nat q
    rw [← ed] at z
    exact z
theorem ok_prime (T : Txt K mg) : FnOk P w K mg base CX0 3 T.f_prime T.fd_prime ["box"] (spPrime) := by
  refine T.F_prime.ok sc_prime (fun vs H Q E h => ?_) (fun cdv A outer s H vs Q E hr h => ?_)
  · obtain ⟨b, rfl, _⟩ := h
    rfl
  · obtain ⟨b, rfl, hB, k⟩ := h
    refine ⟨_, (pss_cons (ps_set (i := 1) sc_prime.nd rfl (Or.inl rfl) (pe_call (ok_draw T) (hr.mono (by decide)) (by rfl) T.g_draw T.F_draw.kp T.b_draw .nil pass0 (pa_cons (pv 0) (pa_cons pe_int pa_nil))))
      (pss_cons (ps_if (pt_cmpR op_lt (pv 1) pe_int (nomark _)) (pss_one (ps_ret (pe_call (ok_of T) (hr.mono (by decide)) (by rfl) T.g_of T.F_of.kp T.b_of .nil pass0 (pa_cons (pv 0) (pa_cons (pe_lst (pa_cons pe_int (pa_cons pe_int (pa_cons pe_int (pa_cons pe_int (pa_cons pe_int (pa_cons pe_int (pa_cons pe_int (pa_cons pe_int pa_nil))))))))) pa_nil))))) pss_nil)
      (pss_cons (ps_if (pt_cmpR op_lt (pv 1) pe_int (nomark _)) (pss_one (ps_ret (pe_call (ok_of T) (hr.mono (by decide)) (by rfl) T.g_of T.F_of.kp T.b_of .nil pass0 (pa_cons (pv 0) (pa_cons (pe_lst (pa_cons pe_int (pa_cons pe_int (pa_cons pe_int (pa_cons pe_int pa_nil))))) pa_nil))))) pss_nil)
      (pss_one (ps_ret (pe_call (ok_of T) (hr.mono (by decide)) (by rfl) T.g_of T.F_of.kp T.b_of .nil pass0 (pa_cons (pv 0) (pa_cons (pe_lst (pa_cons pe_int (pa_cons pe_int (pa_cons pe_int (pa_cons pe_int (pa_cons pe_int pa_nil)))))) pa_nil)))))))), ?_⟩
    have fin : ∀ (l : List Int), l ≠ [] → l.length ≤ 1000 → (∀ p ∈ l, p ∈ primes) → ∀ (H1 : Hp), BoxAt H1 b → Keep b H H1 → ∀ p, H1 p = none → spOf K [.ref b, .ref p] (upd H1 p (.lst (l.map V.int))) Q E := fun l l0 l1 lp H1 hB1 hK1 p hp => by
      have g := same_new hp (.lst (l.map V.int))
      refine ⟨b, p, _, rfl, hB1.same g, hB1.ne hp, SqL.of upd_same, by simpa using l0, by simpa using l1, fun i v H' hi hB' hK => ?_⟩
      obtain ⟨n, hn, rfl⟩ := ints_of hi
      exact k n H' (lp n hn) hB' (hK1.trans ((Keep.of_same g).trans hK))
    refine ⟨_, rfl, b, _, rfl, by decide, by decide, hB, fun d H1 d0 d1 hB1 hK1 => ?_⟩
    refine ⟨_, rfl, _, _, rfl, rfl, _, rfl, ite2 (fun c => ?_) (fun c => ?_)⟩
    · exact ⟨_, rfl, (by show 8 ≤ sizeLine; decide), fun p hp => fin [2, 3, 5, 7, 11, 13, 17, 31] (by decide) (by decide) (by decide +kernel) H1 hB1 hK1 p hp⟩
    · refine ⟨_, rfl, _, _, rfl, rfl, _, rfl, ite2 (fun c => ?_) (fun c => ?_)⟩
      · exact ⟨_, rfl, (by show 4 ≤ sizeLine; decide), fun p hp => fin [97, 193, 257, 769] (by decide) (by decide) (by decide +kernel) H1 hB1 hK1 p hp⟩
      · exact ⟨_, rfl, (by show 5 ≤ sizeLine; decide), fun p hp => fin [7681, 12289, 998244353, 2013265921, 9999999967] (by decide) (by decide) (by decide +kernel) H1 hB1 hK1 p hp⟩
theorem ok_number (T : Txt K mg) : FnOk P w K mg base CX0 2 T.f_number T.fd_number ["box", "prime"] (spNumber) := by
  refine T.F_number.ok sc_number (fun vs H Q E h => ?_) (fun cdv A outer s H vs Q E hr h => ?_)
  · obtain ⟨b, p, rfl, _⟩ := h
    rfl
  · obtain ⟨b, p, rfl, hB, p0, p1, k⟩ := h
    refine ⟨_, (pss_cons (ps_set (i := 2) sc_number.nd rfl (Or.inl rfl) (pe_call (ok_draw T) (hr.mono (by decide)) (by rfl) T.g_draw T.F_draw.kp T.b_draw .nil pass0 (pa_cons (pv 0) (pa_cons pe_int pa_nil))))
      (pss_cons (ps_if (pt_cmpR op_lt (pv 2) pe_int (nomark _)) (pss_one (ps_ret (pe_call (ok_draw T) (hr.mono (by decide)) (by rfl) T.g_draw T.F_draw.kp T.b_draw .nil pass0 (pa_cons (pv 0) (pa_cons (pv 1) pa_nil))))) pss_nil)
      (pss_cons (ps_if (pt_cmpR op_eq (pv 2) pe_int (nomark _)) (pss_one (ps_ret pe_int)) pss_nil)
      (pss_cons (ps_if (pt_cmpR op_eq (pv 2) pe_int (nomark _)) (pss_one (ps_ret (pe_op op_sub (pe_call (ok_draw T) (hr.mono (by decide)) (by rfl) T.g_draw T.F_draw.kp T.b_draw .nil pass0 (pa_cons (pv 0) (pa_cons pe_int pa_nil))) pe_int))) pss_nil)
      (pss_cons (ps_if (pt_cmpR op_eq (pv 2) pe_int (nomark _)) (pss_one (ps_ret (pe_op op_add (pe_op op_sub (pv 1) pe_int) (pe_call (ok_draw T) (hr.mono (by decide)) (by rfl) T.g_draw T.F_draw.kp T.b_draw .nil pass0 (pa_cons (pv 0) (pa_cons pe_int pa_nil)))))) pss_nil)
      (pss_cons (ps_if (pt_cmpR op_eq (pv 2) pe_int (nomark _)) (pss_one (ps_ret (pe_op op_sub pe_int (pe_call (ok_draw T) (hr.mono (by decide)) (by rfl) T.g_draw T.F_draw.kp T.b_draw .nil pass0 (pa_cons (pv 0) (pa_cons (pe_op op_pow pe_int pe_int) pa_nil)))))) pss_nil)
      (pss_one (ps_ret (pe_call (ok_draw T) (hr.mono (by decide)) (by rfl) T.g_draw T.F_draw.kp T.b_draw .nil pass0 (pa_cons (pv 0) (pa_cons (pe_op op_pow pe_int pe_int) pa_nil))))))))))), ?_⟩
    refine ⟨_, rfl, b, _, rfl, by decide, by decide, hB, fun d H1 d0 d1 hB1 hK1 => ?_⟩
    have e10 : (10 : Int) ^ (Int.toNat 10) = 10000000000 := by decide
    refine ⟨_, rfl, _, _, rfl, rfl, _, rfl, ite2 (fun c => ?_) (fun c => ?_)⟩
    · exact ⟨_, rfl, _, rfl, b, _, rfl, p0, by omega, hB1, fun n H' n0 n1 hB' hK => k n H' (by omega) (by omega) hB' (hK1.trans hK)⟩
    refine ⟨_, rfl, rfl, _, rfl, ite2 (fun c => ?_) (fun c => ?_)⟩
    · exact k 0 H1 (by decide) (by decide) hB1 hK1
    refine ⟨_, rfl, rfl, _, rfl, ite2 (fun c => ?_) (fun c => ?_)⟩
    · refine ⟨_, rfl, b, _, rfl, by decide, by decide, hB1, fun n H' n0 n1 hB' hK => ⟨_, _, rfl, rfl, ?_⟩⟩
      exact k (n - 1) H' (by omega) (by omega) hB' (hK1.trans hK)
    refine ⟨_, rfl, rfl, _, rfl, ite2 (fun c => ?_) (fun c => ?_)⟩
    · refine ⟨_, rfl, _, _, rfl, rfl, _, rfl, b, _, rfl, by decide, by decide, hB1, fun n H' n0 n1 hB' hK => ⟨_, _, rfl, rfl, ?_⟩⟩
      exact k (p - 1 + n) H' (by omega) (by omega) hB' (hK1.trans hK)
    refine ⟨_, rfl, rfl, _, rfl, ite2 (fun c => ?_) (fun c => ?_)⟩
    · refine ⟨_, rfl, _, _, rfl, rfl, ⟨by decide, by decide, by decide⟩, b, _, rfl, by decide, by decide, hB1, fun n H' n0 n1 hB' hK => ⟨_, _, rfl, rfl, ?_⟩⟩
      exact k (0 - n) H' (by omega) (by omega) hB' (hK1.trans hK)
    · refine ⟨_, rfl, _, _, rfl, rfl, ⟨by decide, by decide, by decide⟩, b, _, rfl, by decide, by decide, hB1, fun n H' n0 n1 hB' hK => ?_⟩
      exact k n H' (by omega) (by omega) hB' (hK1.trans hK)
end
end K0

set_option maxRecDepth 100000
set_option maxHeartbeats 4000000
namespace K0
open PySem L2 BR

def spPower : Sp := fun vs H Q _ => ∃ (x : Int) (n : Nat) (p : Int), vs = [.int x, .int (n : Int), .int p] ∧ 1 < p ∧ p < 2 ^ 64 ∧ Q (.int (x ^ n % p)) H
def spInv : Sp := fun vs H Q E => ∃ (x p : Int), vs = [.int x, .int p] ∧ Prm p ∧ p < 2 ^ 64 ∧ (x % p = 0 → E (.type "ZeroDivisionError") none H) ∧ (x % p ≠ 0 → ∀ (r : Int) (H' : Hp), 0 < r → r < p → (r * x) % p = 1 → Same H H' → Q (.int r) H')
/-! ### values of any kind -/
def Sc (x : V) : Prop := match x with | .non => True | .bl _ => True | .int _ => True | .str _ => True | _ => False
/-- two values that are alike, n deep; none of their parts is the box at b -/
def EqV (K : PySem.W.Frag) (b : Addr) (H : Hp) : Nat → V → V → Prop
  | 0, x, y => Sc x ∧ x = y
  | n + 1, x, y => (Sc x ∧ x = y) ∨ ∃ (a c : Addr) (xs ys : List V), x = .ref a ∧ y = .ref c ∧ a ≠ b ∧ c ≠ b ∧ ((SqL K H a xs ∧ SqL K H c ys) ∨ (SqT K H a xs ∧ SqT K H c ys)) ∧ xs.length ≤ 1000 ∧ xs.length = ys.length ∧
      ∀ (i : Nat) (u v : V), xs[i]? = some u → ys[i]? = some v → EqV K b H n u v
theorem EqV.keep {K : PySem.W.Frag} {b : Addr} {H H' : Hp} (k : Keep b H H') : ∀ {n : Nat} {x y : V}, EqV K b H n x y → EqV K b H' n x y
  | 0, _, _, h => h
  | n + 1, x, y, h => by
    rcases h with h | ⟨a, c, xs, ys, e1, e2, n1, n2, h, l1, l2, r⟩
    · exact .inl h
    · refine .inr ⟨a, c, xs, ys, e1, e2, n1, n2, ?_, l1, l2, fun i u v hu hv => (r i u v hu hv).keep k⟩
      rcases h with ⟨h1, h2⟩ | ⟨h1, h2⟩
      · exact .inl ⟨k.seqL n1 h1, k.seqL n2 h2⟩
      · exact .inr ⟨k.seqT n1 h1, k.seqT n2 h2⟩
theorem EqV.sc {K : PySem.W.Frag} {b : Addr} {H : Hp} {x : V} (h : Sc x) : ∀ {n : Nat}, EqV K b H n x x
  | 0 => ⟨h, rfl⟩
  | _ + 1 => .inl ⟨h, rfl⟩
theorem EqV.up {K : PySem.W.Frag} {b : Addr} {H : Hp} : ∀ {n : Nat} {x y : V}, EqV K b H n x y → EqV K b H (n + 1) x y
  | 0, _, _, h => .inl h
  | n + 1, x, y, h => by
    rcases h with h | ⟨a, c, xs, ys, e1, e2, n1, n2, h, l1, l2, r⟩
    · exact .inl h
    · exact .inr ⟨a, c, xs, ys, e1, e2, n1, n2, h, l1, l2, fun i u v hu hv => (r i u v hu hv).up⟩
/-- its type's name -/
def Kd (K : PySem.W.Frag) (H : Hp) (x : V) (k : String) : Prop := TyX K H x (.type k)
theorem kdL {K : PySem.W.Frag} {H : Hp} {a : Addr} {xs : List V} (h : SqL K H a xs) : Kd K H (.ref a) "list" := by
  rcases h with (h | ⟨o, h⟩) | ⟨o, its, n, h, hc, _⟩
  · exact .base (.lst h)
  · exact .base (.frz h)
  · exact .kList h hc
theorem kdT {K : PySem.W.Frag} {H : Hp} {a : Addr} {xs : List V} (h : SqT K H a xs) : Kd K H (.ref a) "tuple" := by
  rcases h with (h | ⟨o, h⟩) | ⟨o, its, n, h, hc, _⟩
  · exact .base (.tup h)
  · exact .fTuple h
  · exact .kTuple h hc
def kinds : List String := ["NoneType", "bool", "int", "str", "list", "tuple"]
/-- data, by its kind -/
theorem EqV.kd {K : PySem.W.Frag} {b : Addr} {H : Hp} {n : Nat} {x y : V} (h : EqV K b H n x y) : ∃ k, k ∈ kinds ∧ Kd K H x k ∧ (k = "int" ↔ ∃ i, x = .int i) ∧ (k = "bool" ↔ ∃ i, x = .bl i) := by
  have sc : Sc x → ∃ k, k ∈ kinds ∧ Kd K H x k ∧ (k = "int" ↔ ∃ i, x = .int i) ∧ (k = "bool" ↔ ∃ i, x = .bl i) := fun s => by
    match x, s with
    | .non, _ => exact ⟨"NoneType", by decide, .base .non, by simp, by simp⟩
    | .bl c, _ => exact ⟨"bool", by decide, .base (.bl c), by simp, by simp⟩
    | .int c, _ => exact ⟨"int", by decide, .base (.int c), by simp, by simp⟩
    | .str c, _ => exact ⟨"str", by decide, .base (.str c), by simp, by simp⟩
  cases n with
  | zero => exact sc h.1
  | succ n =>
    rcases h with h | ⟨a, c, xs, ys, rfl, _, _, _, h, _⟩
    · exact sc h.1
    · rcases h with ⟨h, _⟩ | ⟨h, _⟩
      · exact ⟨"list", by decide, kdL h, by simp, by simp⟩
      · exact ⟨"tuple", by decide, kdT h, by simp, by simp⟩
def isI (x : V) : Bool := match x with | .int _ => true | _ => false
def isB (x : V) : Bool := match x with | .bl _ => true | _ => false
section
variable {P : Program} {w : World} {K : PySem.W.Frag} {mg : Str → Option Value} {base : Heap}
end
end K0

set_option maxRecDepth 100000
set_option maxHeartbeats 4000000
namespace K0
open PySem L2 BR

def ItzS (Sq : Hp → Addr → List V → Prop) (a b : Addr) : It :=
  ⟨fun i H => ∃ (xs ys : List V) (x y : V), Sq H a xs ∧ Sq H b ys ∧ xs[i]? = some x ∧ ys[i]? = some y,
    fun i H v H' => ∃ T x y, v = .ref T ∧ H T = none ∧ H' = upd H T (.tup [x, y]) ∧ (∀ xs, Sq H a xs → xs[i]? = some x) ∧ ∀ ys, Sq H b ys → ys[i]? = some y,
    fun i H => ∃ xs ys : List V, Sq H a xs ∧ Sq H b ys ∧ (xs.length ≤ i ∨ ys.length ≤ i)⟩
theorem lc_zipS {Sq : Hp → Addr → List V → Prop} {a b : Addr} {xs ys : List V} {g : TG} {tt : TT} {te : TE} {vs : List Nat} {σ : L2.St} {H1 : Hp} {D : Addr} {Qd : Hp → Prop} (hl : xs.length = ys.length) (Pv : Nat → Hp → Prop) (h0 : Pv 0 (upd H1 D (.lst []))) (hq : ∀ i H, Pv i H → Sq H a xs ∧ Sq H b ys)
    (hs : ∀ (i : Nat) (x y : V) (T : Addr) (H : Hp), xs[i]? = some x → ys[i]? = some y → Pv i H → H T = none → g (.ref T) (wipe σ vs) (upd H T (.tup [x, y])) fun σ2 H2 => wipe σ2 vs = wipe σ vs ∧ tt σ2 H2 fun b H3 =>
      if b = true then te σ2 H3 fun y H4 => ∃ acc, H4 D = some (.lst acc) ∧ acc.length < sizeLine ∧ Pv (i + 1) (upd H4 D (.lst (acc ++ [y]))) else Pv (i + 1) H3) (hd : ∀ H, Pv xs.length H → Qd H) :
    ∃ W : Nat → Nat → Hp → Prop, (∃ m, W 0 m (upd H1 D (.lst []))) ∧ ∀ i m H, W i m H →
      ((ItzS Sq a b).stop i H ∧ Qd H) ∨ ((ItzS Sq a b).go i H ∧ ∃ Nx : Hp → Prop, (∀ H', Nx H' → ∃ m', m' < m ∧ W (i + 1) m' H') ∧ ∀ x H', (ItzS Sq a b).yld i H x H' → g x (wipe σ vs) H' fun σ2 H2 => wipe σ2 vs = wipe σ vs ∧ tt σ2 H2 fun b H3 =>
        if b = true then te σ2 H3 fun y H4 => ∃ acc, H4 D = some (.lst acc) ∧ acc.length < sizeLine ∧ Nx (upd H4 D (.lst (acc ++ [y]))) else Nx H3) := by
  refine ⟨fun i m H => m = xs.length - i ∧ i ≤ xs.length ∧ Pv i H, ⟨xs.length, rfl, Nat.zero_le _, h0⟩, ?_⟩
  rintro i m H ⟨rfl, hi, p⟩
  obtain ⟨qx, qy⟩ := hq i H p
  by_cases hlt : i < xs.length
  · have hx : xs[i]? = some xs[i] := List.getElem?_eq_getElem hlt
    have hy : ys[i]? = some ys[i] := List.getElem?_eq_getElem (by omega)
    refine .inr ⟨⟨xs, ys, _, _, qx, qy, hx, hy⟩, Pv (i + 1), fun H' p' => ⟨xs.length - (i + 1), by omega, rfl, hlt, p'⟩, fun v H' y => ?_⟩
    obtain ⟨T, x, y, rfl, hT, rfl, ex, ey⟩ := y
    exact hs i x y T H (ex xs qx) (ey ys qy) p hT
  · have e : i = xs.length := by omega
    subst e
    exact .inl ⟨⟨xs, ys, qx, qy, .inl (Nat.le_refl _)⟩, hd H p⟩
theorem isi_b {K : PySem.W.Frag} {H : Hp} {x : V} {k t : String} {r : Bool} {Q : VK} (ty : Kd K H x k) (h : kitB k t = some r) (q : Q (.bl r) H) : rIsi K [x, .ty t] H Q := ⟨x, .ty t, _, _, r, rfl, .ty t, ty, kit_ty h, q⟩
theorem kit_lt {K : PySem.W.Frag} {k : String} {r1 r2 : Bool} (h1 : kitB k "list" = some r1) (h2 : kitB k "tuple" = some r2) : PySem.W.kitAny K (.type k) [.type "list", .type "tuple"] = some (r1 || r2) := by
  refine kitAny_cons (kit_ty h1) (fun e => ?_) (fun e => by rw [e]; rfl)
  rw [e, Bool.false_or]
  exact kitAny_cons (kit_ty h2) (fun e => by rw [e]; exact kitAny_nil) (fun e => e)
theorem EqV.cs {K : PySem.W.Frag} {b : Addr} {H : Hp} {n : Nat} {x y : V} (h : EqV K b H n x y) : (Sc x ∧ x = y) ∨ ∃ (m : Nat) (a c : Addr) (xs ys : List V), n = m + 1 ∧ x = .ref a ∧ y = .ref c ∧ a ≠ b ∧ c ≠ b ∧ ((SqL K H a xs ∧ SqL K H c ys) ∨ (SqT K H a xs ∧ SqT K H c ys)) ∧ xs.length ≤ 1000 ∧ xs.length = ys.length ∧
      ∀ (i : Nat) (u v : V), xs[i]? = some u → ys[i]? = some v → EqV K b H m u v := by
  cases n with
  | zero => exact .inl h
  | succ m =>
    rcases h with h | ⟨a, c, xs, ys, h⟩
    · exact .inl h
    · exact .inr ⟨m, a, c, xs, ys, rfl, h⟩
def spSame (K : PySem.W.Frag) : Nat → Sp
  | 0 => fun _ _ _ _ => False
  | n + 1 => fun vs H Q _ => ∃ (b : Addr) (x y : V), vs = [x, y] ∧ EqV K b H n x y ∧ ∀ H', Same H H' → Q (.bl true) H'
section
variable {P : Program} {w : World} {K : PySem.W.Frag} {mg : Str → Option Value} {base : Heap}
theorem ok_same_step (T : Txt K mg) {n : Nat} (G : FnOk P w K mg base CX0 n T.f_same T.fd_same ["found", "due"] (spSame K n)) : FnOk P w K mg base CX0 (n + 1) T.f_same T.fd_same ["found", "due"] (spSame K (n + 1)) := by
  refine T.F_same.ok sc_same (fun vs H Q E h => ?_) (fun cdv A outer s H vs Q E hr h => ?_)
  · obtain ⟨b, x, y, rfl, _⟩ := h
    rfl
  · obtain ⟨b, x, y, rfl, hE, k⟩ := h
    refine ⟨_, (pss_cons (ps_if (pt_val (pe_callB call_isiT (by rfl) T.z_isinstance (by decide +kernel) (pa_cons (pv 1) (pa_cons (pe_tup (pa_cons (pe_bltn (v := .ty "list") (by rfl) T.z_list (by decide +kernel) rfl) (pa_cons (pe_bltn (v := .ty "tuple") (by rfl) T.z_tuple (by decide +kernel) rfl) pa_nil))) pa_nil)))) (pss_cons (ps_if (PW.pt (pw_or (pt_cmpR op_ne (pe_callB call_isi (by rfl) T.z_isinstance (by decide +kernel) (pa_cons (pv 0) (pa_cons (pe_bltn (v := .ty "list") (by rfl) T.z_list (by decide +kernel) rfl) pa_nil))) (pe_callB call_isi (by rfl) T.z_isinstance (by decide +kernel) (pa_cons (pv 1) (pa_cons (pe_bltn (v := .ty "list") (by rfl) T.z_list (by decide +kernel) rfl) pa_nil))) (nomark _)) (pw_or1 (pt_cmpR op_ne (pe_callB call_isi (by rfl) T.z_isinstance (by decide +kernel) (pa_cons (pv 0) (pa_cons (pe_bltn (v := .ty "tuple") (by rfl) T.z_tuple (by decide +kernel) rfl) pa_nil))) (pe_callB call_isi (by rfl) T.z_isinstance (by decide +kernel) (pa_cons (pv 1) (pa_cons (pe_bltn (v := .ty "tuple") (by rfl) T.z_tuple (by decide +kernel) rfl) pa_nil))) (nomark _))))) (pss_one (ps_ret pe_bl)) pss_nil)
      (pss_one (ps_ret (pe_and (pe_cmpR op_eq (pe_callB call_len_seq (by rfl) T.z_len PySem.boot_len (pa_cons (pv 0) pa_nil)) (pe_callB call_len_seq (by rfl) T.z_len PySem.boot_len (pa_cons (pv 1) pa_nil)) (nomark _)) (pe_one (pe_callB (cr_all rfl) (by rfl) T.z_all (by decide +kernel) (pa_cons (pe_lc (own := [("a", 2), ("b", 3)]) (g := gTup K 2 (gCons (gName 2) (gCons (gName 3) gNil))) (tt := tYes) (by rfl) sc_same.nd (RZ.pi_zipA (by rfl) T.z_zip (pa_cons (pv 0) (pa_cons (pv 1) pa_nil))) (blkOk_by (own := [("a", 2), ("b", 3)]) (N := ["found", "due", "a", "b"]) (sc := defScope s_same) (by decide +kernel)) (fun _ _ _ _ _ => (pg_tup (by rfl) (pgs_cons (pg_name (i := 2) sc_same.nd rfl (Or.inl rfl)) (pgs_cons (pg_name (i := 3) sc_same.nd rfl (Or.inl rfl)) pgs_nil)))) (fun _ _ _ _ _ => pts_nil) (fun _ _ _ _ _ => (pe_call G hr (by rfl) T.g_same T.F_same.kp T.b_same .nil pass0 (pa_cons (pv 2) (pa_cons (pv 3) pa_nil))))) pa_nil))))))) pss_nil)
      (pss_cons (ps_if (PW.pt (pw_or (pt_cmpR op_isN (pv 1) pe_non (nomark _)) (pw_or1 (pt_cmpR op_isN (pv 0) pe_non (nomark _))))) (pss_one (ps_ret (pe_and (pe_cmpR op_isN (pv 1) pe_non (nomark _)) (pe_one (pe_cmpR op_isN (pv 0) pe_non (nomark _)))))) pss_nil)
      (pss_cons (ps_if (PW.pt (pw_or (pt_val (pe_callB call_isi (by rfl) T.z_isinstance (by decide +kernel) (pa_cons (pv 1) (pa_cons (pe_bltn (v := .ty "bool") (by rfl) T.z_bool (by decide +kernel) rfl) pa_nil)))) (pw_or1 (pt_val (pe_callB call_isi (by rfl) T.z_isinstance (by decide +kernel) (pa_cons (pv 0) (pa_cons (pe_bltn (v := .ty "bool") (by rfl) T.z_bool (by decide +kernel) rfl) pa_nil))))))) (pss_one (ps_ret (pe_and (pe_callB call_isi (by rfl) T.z_isinstance (by decide +kernel) (pa_cons (pv 1) (pa_cons (pe_bltn (v := .ty "bool") (by rfl) T.z_bool (by decide +kernel) rfl) pa_nil))) (pe_and (pe_callB call_isi (by rfl) T.z_isinstance (by decide +kernel) (pa_cons (pv 0) (pa_cons (pe_bltn (v := .ty "bool") (by rfl) T.z_bool (by decide +kernel) rfl) pa_nil))) (pe_one (pe_cmpR op_eq (pv 0) (pv 1) (nomark _))))))) pss_nil)
      (pss_cons (ps_if (pt_val (pe_callB call_isi (by rfl) T.z_isinstance (by decide +kernel) (pa_cons (pv 1) (pa_cons (pe_bltn (v := .ty "int") (by rfl) T.z_int (by decide +kernel) rfl) pa_nil)))) (pss_one (ps_ret (pe_and (pe_callB call_isi (by rfl) T.z_isinstance (by decide +kernel) (pa_cons (pv 0) (pa_cons (pe_bltn (v := .ty "int") (by rfl) T.z_int (by decide +kernel) rfl) pa_nil))) (pe_one (pe_cmpR op_eq (pv 0) (pv 1) (nomark _)))))) pss_nil)
      (pss_one (ps_ret (pe_and (pe_callB call_isi (by rfl) T.z_isinstance (by decide +kernel) (pa_cons (pv 0) (pa_cons (pe_bltn (v := .ty "str") (by rfl) T.z_str (by decide +kernel) rfl) pa_nil))) (pe_one (pe_cmpR op_eq (pv 0) (pv 1) (nomark _)))))))))), ?_⟩
    rcases hE.cs with ⟨hs, rfl⟩ | ⟨m, a, c, xs, ys, rfl, rfl, rfl, na, nc, hq, l1, l2, hr2⟩
    · -- scalars
      have top : ∀ (kd : String), Kd K H x kd → (∀ H1, Same H H1 → Kd K H1 x kd) → True := fun _ _ _ => trivial
      refine ⟨_, rfl, (by show 2 ≤ sizeLine; decide), fun tp htp => ?_⟩
      have g1 := same_new htp (.tup [.ty "list", .ty "tuple"])
      have e1 : upd H tp (.tup [.ty "list", .ty "tuple"]) tp = some (.tup [.ty "list", .ty "tuple"]) := upd_same
      generalize upd H tp (.tup [.ty "list", .ty "tuple"]) = H1 at g1 e1 ⊢
      match x, hs with
      | .non, _ =>
        refine ⟨_, tp, _, .type "NoneType", [.type "list", .type "tuple"], false, rfl, e1, .cons (.ty _) (.cons (.ty _) .nil), .base .non, kit_lt (r1 := false) (r2 := false) (by decide +kernel) (by decide +kernel), ?_⟩
        refine ⟨_, rfl, iteF ?_⟩
        refine ⟨_, rfl, rfl, _, rfl, iteT ?_⟩
        exact ⟨_, rfl, rfl, _, rfl, iteT ⟨_, rfl, rfl, k _ g1⟩⟩
      | .bl z, _ =>
        have ty : Kd K H1 (.bl z) "bool" := .base (.bl z)
        refine ⟨_, tp, _, _, [.type "list", .type "tuple"], false, rfl, e1, .cons (.ty _) (.cons (.ty _) .nil), ty, kit_lt (r1 := false) (r2 := false) (by decide +kernel) (by decide +kernel), ?_⟩
        refine ⟨_, rfl, iteF ?_⟩
        refine ⟨_, rfl, rfl, _, rfl, iteF ⟨_, rfl, rfl, _, rfl, iteF ?_⟩⟩
        refine ⟨_, rfl, _, _, _, _, true, rfl, .ty _, ty, kit_ty (by decide +kernel), _, rfl, iteT ?_⟩
        refine ⟨_, rfl, _, _, _, _, true, rfl, .ty _, ty, kit_ty (by decide +kernel), _, rfl, iteT ?_⟩
        refine ⟨_, rfl, _, _, _, _, true, rfl, .ty _, ty, kit_ty (by decide +kernel), _, rfl, iteT ?_⟩
        refine ⟨_, rfl, _, rfl, rfl, ?_⟩
        have e : decide (V.bl z = V.bl z) = true := decide_eq_true rfl
        show Q (.bl (decide (V.bl z = V.bl z))) H1
        rw [e]
        exact k _ g1
      | .int z, _ =>
        have ty : Kd K H1 (.int z) "int" := .base (.int z)
        refine ⟨_, tp, _, _, [.type "list", .type "tuple"], false, rfl, e1, .cons (.ty _) (.cons (.ty _) .nil), ty, kit_lt (r1 := false) (r2 := false) (by decide +kernel) (by decide +kernel), ?_⟩
        refine ⟨_, rfl, iteF ?_⟩
        refine ⟨_, rfl, rfl, _, rfl, iteF ⟨_, rfl, rfl, _, rfl, iteF ?_⟩⟩
        refine ⟨_, rfl, _, _, _, _, false, rfl, .ty _, ty, kit_ty (by decide +kernel), _, rfl, iteF ?_⟩
        refine ⟨_, rfl, _, _, _, _, false, rfl, .ty _, ty, kit_ty (by decide +kernel), _, rfl, iteF ?_⟩
        refine ⟨_, rfl, _, _, _, _, true, rfl, .ty _, ty, kit_ty (by decide +kernel), _, rfl, iteT ?_⟩
        refine ⟨_, rfl, _, _, _, _, true, rfl, .ty _, ty, kit_ty (by decide +kernel), _, rfl, iteT ?_⟩
        refine ⟨_, rfl, _, rfl, rfl, ?_⟩
        have e : decide (V.int z = V.int z) = true := decide_eq_true rfl
        show Q (.bl (decide (V.int z = V.int z))) H1
        rw [e]
        exact k _ g1
      | .str z, _ =>
        have ty : Kd K H1 (.str z) "str" := .base (.str z)
        refine ⟨_, tp, _, _, [.type "list", .type "tuple"], false, rfl, e1, .cons (.ty _) (.cons (.ty _) .nil), ty, kit_lt (r1 := false) (r2 := false) (by decide +kernel) (by decide +kernel), ?_⟩
        refine ⟨_, rfl, iteF ?_⟩
        refine ⟨_, rfl, rfl, _, rfl, iteF ⟨_, rfl, rfl, _, rfl, iteF ?_⟩⟩
        refine ⟨_, rfl, _, _, _, _, false, rfl, .ty _, ty, kit_ty (by decide +kernel), _, rfl, iteF ?_⟩
        refine ⟨_, rfl, _, _, _, _, false, rfl, .ty _, ty, kit_ty (by decide +kernel), _, rfl, iteF ?_⟩
        refine ⟨_, rfl, _, _, _, _, false, rfl, .ty _, ty, kit_ty (by decide +kernel), _, rfl, iteF ?_⟩
        refine ⟨_, rfl, _, _, _, _, true, rfl, .ty _, ty, kit_ty (by decide +kernel), _, rfl, iteT ?_⟩
        refine ⟨_, rfl, _, rfl, rfl, ?_⟩
        have e : decide (V.str z = V.str z) = true := decide_eq_true rfl
        show Q (.bl (decide (V.str z = V.str z))) H1
        rw [e]
        exact k _ g1
    · refine ⟨_, rfl, (by show 2 ≤ sizeLine; decide), fun tp htp => ?_⟩
      have g1 := same_new htp (.tup [.ty "list", .ty "tuple"])
      have e1 : upd H tp (.tup [.ty "list", .ty "tuple"]) tp = some (.tup [.ty "list", .ty "tuple"]) := upd_same
      generalize upd H tp (.tup [.ty "list", .ty "tuple"]) = H1 at g1 e1 ⊢
      rcases hq with ⟨q1, q2⟩ | ⟨q1, q2⟩
      · have t1 : Kd K H1 (.ref a) "list" := kdL (g1.seq q1)
        have t2 : Kd K H1 (.ref c) "list" := kdL (g1.seq q2)
        refine ⟨_, tp, _, _, [.type "list", .type "tuple"], true, rfl, e1, .cons (.ty _) (.cons (.ty _) .nil), t2, kit_lt (r1 := true) (r2 := false) (by decide +kernel) (by decide +kernel), ?_⟩
        refine ⟨_, rfl, iteT ?_⟩
        refine ⟨_, rfl, _, _, _, _, true, rfl, .ty _, t1, kit_ty (by decide +kernel), _, rfl, _, _, _, _, true, rfl, .ty _, t2, kit_ty (by decide +kernel), rfl, _, rfl, iteF ?_⟩
        refine ⟨_, rfl, _, _, _, _, false, rfl, .ty _, t1, kit_ty (by decide +kernel), _, rfl, _, _, _, _, false, rfl, .ty _, t2, kit_ty (by decide +kernel), rfl, _, rfl, iteF ?_⟩
        refine ⟨_, rfl, a, _, rfl, .inl (g1.seq q1), _, rfl, c, _, rfl, .inl (g1.seq q2), rfl, _, rfl, ?_⟩
        have e : decide (V.int ((xs.length : Nat) : Int) = V.int ((ys.length : Nat) : Int)) = true := decide_eq_true (by rw [l2])
        rw [e]
        refine iteT ?_
        refine ⟨_, rfl, _, rfl, a, c, xs, ys, rfl, .inl ⟨g1.seq q1, g1.seq q2, fun D hD => lc_zipS (Sq := SqL K) (a := a) (b := c) (xs := xs) (ys := ys) l2 (fun i H' => Same H1 H' ∧ H' D = some (.lst ((List.replicate i true).map V.bl)))
          ⟨same_new hD _, upd_same⟩ (fun i H' ⟨gs, _⟩ => ⟨(g1.trans gs).seq q1, (g1.trans gs).seq q2⟩) ?_ ?_⟩⟩
        · rintro i u v T' Hx hu hv ⟨gs, eD⟩ hT
          have gT := same_new hT (.tup [u, v])
          refine ⟨T', _, rfl, SqT.of upd_same, rfl, u, _, rfl, v, _, rfl, rfl, rfl, ?_⟩
          refine ⟨_, rfl, _, rfl, b, u, v, rfl, (hr2 i u v hu hv).keep (Keep.of_same (g1.trans (gs.trans gT))), fun H3 g3 => ?_⟩
          have hi : i < xs.length := (List.getElem?_eq_some_iff.mp hu).1
          refine ⟨_, g3 _ _ (gT _ _ eD), by rw [List.length_map, List.length_replicate]; exact small1000 (by omega), fun x o ho => ?_, ?_⟩
          · rw [upd_ne (ne_of_none ho hD)]
            exact g3 _ _ (gT _ _ (gs _ _ ho))
          · rw [upd_same, List.replicate_succ', List.map_append]
            rfl
        · rintro H' ⟨gs, eD⟩
          refine ⟨D, List.replicate xs.length true, rfl, SqL.of eD, ?_⟩
          have ea : (List.replicate xs.length true).all id = true := by simp
          rw [ea]
          exact k _ (g1.trans gs)
      · have t1 : Kd K H1 (.ref a) "tuple" := kdT (Same.seqT' g1 q1)
        have t2 : Kd K H1 (.ref c) "tuple" := kdT (Same.seqT' g1 q2)
        refine ⟨_, tp, _, _, [.type "list", .type "tuple"], true, rfl, e1, .cons (.ty _) (.cons (.ty _) .nil), t2, kit_lt (r1 := false) (r2 := true) (by decide +kernel) (by decide +kernel), ?_⟩
        refine ⟨_, rfl, iteT ?_⟩
        refine ⟨_, rfl, _, _, _, _, false, rfl, .ty _, t1, kit_ty (by decide +kernel), _, rfl, _, _, _, _, false, rfl, .ty _, t2, kit_ty (by decide +kernel), rfl, _, rfl, iteF ?_⟩
        refine ⟨_, rfl, _, _, _, _, true, rfl, .ty _, t1, kit_ty (by decide +kernel), _, rfl, _, _, _, _, true, rfl, .ty _, t2, kit_ty (by decide +kernel), rfl, _, rfl, iteF ?_⟩
        refine ⟨_, rfl, a, _, rfl, .inr (Same.seqT' g1 q1), _, rfl, c, _, rfl, .inr (Same.seqT' g1 q2), rfl, _, rfl, ?_⟩
        have e : decide (V.int ((xs.length : Nat) : Int) = V.int ((ys.length : Nat) : Int)) = true := decide_eq_true (by rw [l2])
        rw [e]
        refine iteT ?_
        refine ⟨_, rfl, _, rfl, a, c, xs, ys, rfl, .inr ⟨Same.seqT' g1 q1, Same.seqT' g1 q2, fun D hD => lc_zipS (Sq := SqT K) (a := a) (b := c) (xs := xs) (ys := ys) l2 (fun i H' => Same H1 H' ∧ H' D = some (.lst ((List.replicate i true).map V.bl)))
          ⟨same_new hD _, upd_same⟩ (fun i H' ⟨gs, _⟩ => ⟨Same.seqT' (g1.trans gs) q1, Same.seqT' (g1.trans gs) q2⟩) ?_ ?_⟩⟩
        · rintro i u v T' Hx hu hv ⟨gs, eD⟩ hT
          have gT := same_new hT (.tup [u, v])
          refine ⟨T', _, rfl, SqT.of upd_same, rfl, u, _, rfl, v, _, rfl, rfl, rfl, ?_⟩
          refine ⟨_, rfl, _, rfl, b, u, v, rfl, (hr2 i u v hu hv).keep (Keep.of_same (g1.trans (gs.trans gT))), fun H3 g3 => ?_⟩
          have hi : i < xs.length := (List.getElem?_eq_some_iff.mp hu).1
          refine ⟨_, g3 _ _ (gT _ _ eD), by rw [List.length_map, List.length_replicate]; exact small1000 (by omega), fun x o ho => ?_, ?_⟩
          · rw [upd_ne (ne_of_none ho hD)]
            exact g3 _ _ (gT _ _ (gs _ _ ho))
          · rw [upd_same, List.replicate_succ', List.map_append]
            rfl
        · rintro H' ⟨gs, eD⟩
          refine ⟨D, List.replicate xs.length true, rfl, SqL.of eD, ?_⟩
          have ea : (List.replicate xs.length true).all id = true := by simp
          rw [ea]
          exact k _ (g1.trans gs)
theorem ok_same (T : Txt K mg) : ∀ n : Nat, FnOk P w K mg base CX0 n T.f_same T.fd_same ["found", "due"] (spSame K n)
  | 0 => ⟨fun vs H Q E h => h.elim, fun A outer s H args us vs Q E _ _ _ _ h => h.elim⟩
  | n + 1 => ok_same_step T (ok_same T n)
end
end K0

set_option maxRecDepth 100000
set_option maxHeartbeats 4000000
namespace K0
open PySem L2 BM BR

/-! ### items: tuples of ints -/
def tD (n : List Int) : PyData := .tuple (n.map PyData.int)
/-- x is a tuple of the ints n -/
def TI (H : Hp) (x : V) (n : List Int) : Prop := ∃ t, x = .ref t ∧ H t = some (.tup (n.map V.int))
inductive Its (H : Hp) : List V → List (List Int) → Prop
  | nil : Its H [] []
  | cons {x : V} {xs : List V} {n : List Int} {ns : List (List Int)} : TI H x n → Its H xs ns → Its H (x :: xs) (n :: ns)
section
variable {K : PySem.W.Frag} {H H' : Hp} {x y : V} {xs ys : List V} {n : List Int} {ns ms : List (List Int)} {a b c l : Addr}
theorem Its.mono (f : ∀ x n, TI H x n → TI H' x n) (h : Its H xs ns) : Its H' xs ns := by
  induction h with
  | nil => exact .nil
  | cons a _ ih => exact .cons (f _ _ a) ih
theorem sTI (g : Same H H') (h : TI H x n) : TI H' x n := by
  obtain ⟨t, e, h⟩ := h
  exact ⟨t, e, g _ _ h⟩
theorem tup_ne (hb : BoxAt H b) {xs : List V} (h : H a = some (.tup xs)) : a ≠ b := by
  rintro rfl
  obtain ⟨l, ns, pos, rest, seed, cnt, e, _⟩ := hb
  rw [e] at h
  cases h
theorem TI.up (h : TI H x n) : TupI K H x n := by
  obtain ⟨t, e, h⟩ := h
  exact ⟨t, e, SqT.of h⟩
theorem TI.uniq {m : List Int} (h : TI H x n) (g : TI H x m) : n = m := by
  obtain ⟨t, rfl, h⟩ := h
  obtain ⟨u, e, g⟩ := g
  cases e
  rw [h] at g
  have e : n.map V.int = m.map V.int := by injection g with g; injection g
  exact List.map_inj_right (fun a b h => V.int.inj h) |>.mp e
theorem Its.same (g : Same H H') (h : Its H xs ns) : Its H' xs ns := h.mono fun _ _ => sTI g
theorem kTI (hb : BoxAt H b) (k : Keep b H H') (h : TI H x n) : TI H' x n := by
  obtain ⟨t, e, h⟩ := h
  exact ⟨t, e, k.1 _ _ (tup_ne hb h) h⟩
theorem Its.keep (hb : BoxAt H b) (k : Keep b H H') (h : Its H xs ns) : Its H' xs ns := h.mono fun _ _ => kTI hb k
theorem Its.len (h : Its H xs ns) : xs.length = ns.length := by
  induction h with
  | nil => rfl
  | cons _ _ ih => rw [List.length_cons, List.length_cons, ih]
theorem Its.at_ (h : Its H xs ns) {i : Nat} (e : xs[i]? = some x) : ∃ n, ns[i]? = some n ∧ TI H x n := by
  induction h generalizing i with
  | nil => simp at e
  | cons a _ ih =>
    cases i with
    | zero =>
      simp at e
      subst e
      exact ⟨_, rfl, a⟩
    | succ i => exact ih (by simpa using e)
theorem Its.of_at : ∀ {xs : List V} {ns : List (List Int)}, xs.length = ns.length → (∀ (i : Nat) (x : V) (n : List Int), xs[i]? = some x → ns[i]? = some n → TI H x n) → Its H xs ns
  | [], [], _, _ => .nil
  | x :: xs, n :: ns, hl, h => .cons (h 0 x n rfl rfl) (Its.of_at (by simpa using hl) fun i x n e1 e2 => h (i + 1) x n (by simpa using e1) (by simpa using e2))
theorem Its.append (h : Its H xs ns) (g : Its H ys ms) : Its H (xs ++ ys) (ns ++ ms) := by
  induction h with
  | nil => exact g
  | cons a _ ih => exact .cons a ih
theorem Its.snoc (h : Its H xs ns) (g : TI H x n) : Its H (xs ++ [x]) (ns ++ [n]) := h.append (.cons g .nil)
theorem Its.take (h : Its H xs ns) (k : Nat) : Its H (xs.take k) (ns.take k) := by
  induction h generalizing k with
  | nil => simpa using Its.nil
  | cons a _ ih =>
    cases k with
    | zero => simpa using Its.nil
    | succ k => exact .cons a (ih k)
theorem Its.drop (h : Its H xs ns) (k : Nat) : Its H (xs.drop k) (ns.drop k) := by
  induction h generalizing k with
  | nil => simpa using Its.nil
  | cons a r ih =>
    cases k with
    | zero => exact .cons a r
    | succ k => exact ih k
theorem Its.eraseIdx (h : Its H xs ns) (k : Nat) : Its H (xs.eraseIdx k) (ns.eraseIdx k) := by
  rw [List.eraseIdx_eq_take_drop_succ, List.eraseIdx_eq_take_drop_succ]
  exact (h.take k).append (h.drop _)
theorem Its.set (h : Its H xs ns) (k : Nat) (g : TI H x n) : Its H (xs.set k x) (ns.set k n) := by
  induction h generalizing k with
  | nil => simpa using Its.nil
  | cons a r ih =>
    cases k with
    | zero => exact .cons g r
    | succ k => exact .cons a (ih k)
theorem Its.mem (h : Its H xs ns) (e : x ∈ xs) : ∃ n ∈ ns, TI H x n := by
  obtain ⟨i, hi⟩ := List.mem_iff_getElem?.mp e
  obtain ⟨n, e2, t⟩ := h.at_ hi
  exact ⟨n, List.mem_of_getElem? e2, t⟩
theorem Its.perm (p : ys.Perm xs) : ∀ {ns : List (List Int)}, Its H xs ns → ∃ ms, ms.Perm ns ∧ Its H ys ms := by
  induction p with
  | nil => intro ns h; exact ⟨ns, .refl _, h⟩
  | cons x _ ih =>
    intro ns h
    cases h with
    | cons a r =>
      obtain ⟨ms, p, q⟩ := ih r
      exact ⟨_, p.cons _, .cons a q⟩
  | swap x y l =>
    intro ns h
    cases h with
    | cons a r =>
      cases r with
      | cons c r => exact ⟨_, .swap _ _ _, .cons c (.cons a r)⟩
  | trans _ _ h1 h2 =>
    intro ns h
    obtain ⟨m1, p1, q1⟩ := h2 h
    obtain ⟨m2, p2, q2⟩ := h1 q1
    exact ⟨m2, p2.trans p1, q2⟩
theorem Its.asc {B : Int} (h : Its H xs ns) (s : xs.Pairwise fun x y => ∀ n m, TupI K H x n → TupI K H y m → TS.code B n ≤ TS.code B m) : ns.Pairwise fun a b => TS.code B a ≤ TS.code B b := by
  induction h with
  | nil => exact .nil
  | cons a r ih =>
    obtain ⟨s1, s2⟩ := List.pairwise_cons.mp s
    refine List.pairwise_cons.mpr ⟨fun m hm => ?_, ih s2⟩
    obtain ⟨i, hi⟩ := List.mem_iff_getElem?.mp hm
    have hl := (List.getElem?_eq_some_iff.mp hi).1
    have e : _ = some _ := List.getElem?_eq_getElem (by rw [r.len]; exact hl)
    obtain ⟨m', e2, t⟩ := r.at_ e
    rw [hi] at e2
    cases e2
    exact s1 _ (List.mem_of_getElem? e) _ _ a.up t.up
theorem dpInts : ∀ n : List Int, DpAll K H (n.map V.int) (n.map PyData.int)
  | [] => .nil
  | a :: n => .cons (.int a) (dpInts n)
theorem TI.dp (h : TI H x n) : Dp K H x (tD n) := by
  obtain ⟨t, rfl, h⟩ := h
  exact .tup (SqT.of h) (dpInts n)
theorem Its.dp (h : Its H xs ns) : DpAll K H xs (ns.map tD) := by
  induction h with
  | nil => exact .nil
  | cons a _ ih => exact .cons a.dp ih
/-- lists that are not the box -/
theorem lst_ne (hb : BoxAt H b) (h : H l = some (.lst xs)) (g : Its H xs ns) : l ≠ b := by
  rintro rfl
  obtain ⟨l, ns, pos, rest, seed, cnt, e, _⟩ := hb
  rw [e] at h
  cases h
  cases g with
  | cons _ g =>
    cases g with
    | cons a _ =>
      obtain ⟨t, e, _⟩ := a
      cases e
/-- at l: a list of the items ns -/
def Ls (H : Hp) (l : Addr) (ns : List (List Int)) : Prop := ∃ xs, H l = some (.lst xs) ∧ Its H xs ns
theorem Ls.same (h : Ls H l ns) (g : Same H H') : Ls H' l ns := by
  obtain ⟨xs, e, h⟩ := h
  exact ⟨xs, g _ _ e, h.same g⟩
theorem Ls.keep (h : Ls H l ns) (hb : BoxAt H b) (k : Keep b H H') : Ls H' l ns := by
  obtain ⟨xs, e, h⟩ := h
  exact ⟨xs, k.1 _ _ (lst_ne hb e h) e, h.keep hb k⟩
theorem Ls.ne (h : Ls H l ns) (hb : BoxAt H b) : l ≠ b := by
  obtain ⟨xs, e, h⟩ := h
  exact lst_ne hb e h
theorem Ls.dp (h : Ls H l ns) : Dp K H (.ref l) (.list (ns.map tD)) := by
  obtain ⟨xs, e, h⟩ := h
  exact .lst (SqL.of e) h.dp
end
/-! ### data of items -/
theorem eqvI : ∀ n m : List Int, PyData.eqvAll (n.map PyData.int) (m.map PyData.int) = decide (n = m)
  | [], [] => by simp [PyData.eqvAll]
  | [], _ :: _ => by simp [PyData.eqvAll]
  | _ :: _, [] => by simp [PyData.eqvAll]
  | a :: n, b :: m => by
    rw [List.map_cons, List.map_cons]
    have e : PyData.eqvAll (PyData.int a :: n.map PyData.int) (PyData.int b :: m.map PyData.int) = ((a == b) && PyData.eqvAll (n.map PyData.int) (m.map PyData.int)) := by simp only [PyData.eqvAll, PyData.eqv]
    rw [e, eqvI n m]
    by_cases h : a = b
    · subst h
      by_cases g : n = m
      · subst g
        simp
      · simp [g]
    · simp [h]
theorem eqvT (n m : List Int) : PyData.eqv (tD n) (tD m) = decide (n = m) := by
  rw [← eqvI]
  unfold tD
  simp only [PyData.eqv]
theorem eqvTs : ∀ n m : List (List Int), PyData.eqvAll (n.map tD) (m.map tD) = decide (n = m)
  | [], [] => by simp [PyData.eqvAll]
  | [], _ :: _ => by simp [PyData.eqvAll]
  | _ :: _, [] => by simp [PyData.eqvAll]
  | a :: n, b :: m => by
    rw [List.map_cons, List.map_cons]
    have e : PyData.eqvAll (tD a :: n.map tD) (tD b :: m.map tD) = (PyData.eqv (tD a) (tD b) && PyData.eqvAll (n.map tD) (m.map tD)) := by simp only [PyData.eqvAll]
    rw [e, eqvTs n m, eqvT]
    by_cases h : a = b
    · subst h
      by_cases g : n = m
      · subst g
        simp
      · simp [g]
    · simp [h]
theorem eqvTT (n m : List (List Int)) : PyData.eqv (.tuple (n.map tD)) (.tuple (m.map tD)) = decide (n = m) := by
  rw [← eqvTs]
  simp only [PyData.eqv]
theorem eqvLL (n m : List (List Int)) : PyData.eqv (.list (n.map tD)) (.list (m.map tD)) = decide (n = m) := by
  rw [← eqvTs]
  simp only [PyData.eqv]
theorem layI : ∀ n : List Int, PyData.canLayAll0 (n.map PyData.int) = true
  | [] => by simp [PyData.canLayAll0]
  | a :: n => by
    have := layI n
    simp [PyData.canLayAll0, PyData.canLay0, this]
theorem depI : ∀ n : List Int, PyData.depthAll (n.map PyData.int) ≤ 1
  | [] => by simp [PyData.depthAll]
  | a :: n => by
    have := depI n
    simp only [List.map_cons, PyData.depthAll, PyData.depth]
    omega
theorem layT (n : List Int) : (tD n).canLay0 = true := by
  unfold tD
  simp only [PyData.canLay0]
  exact layI n
theorem depT (n : List Int) : (tD n).depth ≤ 2 := by
  have := depI n
  unfold tD
  simp only [PyData.depth]
  omega
theorem layTs : ∀ n : List (List Int), PyData.canLayAll0 (n.map tD) = true
  | [] => by simp [PyData.canLayAll0]
  | a :: n => by
    have := layTs n
    simp [PyData.canLayAll0, layT, this]
theorem depTs : ∀ n : List (List Int), PyData.depthAll (n.map tD) ≤ 2
  | [] => by simp [PyData.depthAll]
  | a :: n => by
    have := depTs n
    have := depT a
    simp only [List.map_cons, PyData.depthAll]
    omega
theorem shT (n : List Int) : SeqAt.shaped (tD n) = true := by
  show ((tD n).canLay0 && decide ((tD n).depth ≤ 64)) = true
  rw [layT, Bool.true_and]
  exact decide_eq_true (Nat.le_trans (depT n) (by decide))
theorem shTT (n : List (List Int)) : SeqAt.shaped (.tuple (n.map tD)) = true := by
  have := depTs n
  show (PyData.canLay0 (.tuple (n.map tD)) && decide (PyData.depth (.tuple (n.map tD)) ≤ 64)) = true
  rw [show PyData.canLay0 (.tuple (n.map tD)) = true by simp only [PyData.canLay0]; exact layTs n, Bool.true_and]
  refine decide_eq_true ?_
  simp only [PyData.depth]
  omega
theorem shLL (n : List (List Int)) : SeqAt.shaped (.list (n.map tD)) = true := by
  have := depTs n
  show (PyData.canLay0 (.list (n.map tD)) && decide (PyData.depth (.list (n.map tD)) ≤ 64)) = true
  rw [show PyData.canLay0 (.list (n.map tD)) = true by simp only [PyData.canLay0]; exact layTs n, Bool.true_and]
  refine decide_eq_true ?_
  simp only [PyData.depth]
  omega
theorem plI : ∀ n : List Int, PyData.plainAll (n.map PyData.int) = true
  | [] => by simp [PyData.plainAll]
  | a :: n => by
    have := plI n
    simp [PyData.plainAll, PyData.plain, this]
theorem plT (n : List Int) : (tD n).plain = true := by
  unfold tD
  simp only [PyData.plain]
  exact plI n
theorem plTs : ∀ n : List (List Int), PyData.plainAll (n.map tD) = true
  | [] => by simp [PyData.plainAll]
  | a :: n => by
    have := plTs n
    simp [PyData.plainAll, plT, this]
theorem cntT (l : List (List Int)) (n : List Int) : (l.map tD).countP (fun z => PyData.eqv z (tD n)) = l.count n := by
  rw [List.countP_map]
  unfold List.count
  refine List.countP_congr fun a _ => ?_
  show PyData.eqv (tD a) (tD n) = true ↔ (a == n) = true
  rw [eqvT]
  simp
theorem anyT (l : List (List Int)) (n : List Int) : ((l.map tD).any fun z => PyData.eqv z (tD n)) = decide (n ∈ l) := by
  rw [List.any_map]
  by_cases h : n ∈ l
  · rw [decide_eq_true h]
    refine List.any_eq_true.mpr ⟨n, h, ?_⟩
    show PyData.eqv (tD n) (tD n) = true
    rw [eqvT]
    exact decide_eq_true rfl
  · rw [decide_eq_false h]
    refine List.any_eq_false.mpr fun a ha z => ?_
    have z : PyData.eqv (tD a) (tD n) = true := z
    rw [eqvT] at z
    exact h (of_decide_eq_true z ▸ ha)
/-! ### equal data for _law_same -/
theorem ti_eqv {K : PySem.W.Frag} {b : Addr} {H : Hp} (hb : BoxAt H b) {x y : V} {n : List Int} (h : TI H x n) (g : TI H y n) (hl : n.length ≤ 1000) : EqV K b H 1 x y := by
  obtain ⟨t, rfl, ht⟩ := h
  obtain ⟨u, rfl, hu⟩ := g
  refine .inr ⟨t, u, _, _, rfl, rfl, tup_ne hb ht, tup_ne hb hu, .inr ⟨SqT.of ht, SqT.of hu⟩, by rw [List.length_map]; exact hl, rfl, fun i x y e1 e2 => ?_⟩
  rw [e1] at e2
  cases e2
  obtain ⟨z, _, rfl⟩ := at_int e1
  exact ⟨trivial, rfl⟩
theorem ls_eqv {K : PySem.W.Frag} {b : Addr} {H : Hp} (hb : BoxAt H b) {l m : Addr} {ns : List (List Int)} (h : Ls H l ns) (g : Ls H m ns) (hl : ∀ n ∈ ns, n.length ≤ 1000) (hn : ns.length ≤ 1000) : EqV K b H 2 (.ref l) (.ref m) := by
  have nl := h.ne hb
  have nm := g.ne hb
  obtain ⟨xs, e1, h⟩ := h
  obtain ⟨ys, e2, g⟩ := g
  refine .inr ⟨l, m, xs, ys, rfl, rfl, nl, nm, .inl ⟨SqL.of e1, SqL.of e2⟩, by rw [h.len]; exact hn, by rw [h.len, g.len], fun i x y e1 e2 => ?_⟩
  obtain ⟨n, i1, t1⟩ := h.at_ e1
  obtain ⟨n', i2, t2⟩ := g.at_ e2
  rw [i1] at i2
  cases i2
  exact ti_eqv hb t1 t2 (hl n (List.mem_of_getElem? i1))
theorem eqv_up {K : PySem.W.Frag} {b : Addr} {H : Hp} {n m : Nat} {x y : V} (h : EqV K b H n x y) (hl : n ≤ m) : EqV K b H m x y := by
  induction hl with
  | refl => exact h
  | step _ ih => exact ih.up
end K0

set_option maxRecDepth 100000
set_option maxHeartbeats 4000000
namespace K0
open PySem L2 BM BR

/-- at a: a Bag whose members are the items ns -/
def BagAt {K : PySem.W.Frag} {mg : Str → Option Value} (T : Txt K mg) (H : Hp) (a : Addr) (ns : List (List Int)) : Prop := ∃ (dx m : Addr) (xs : List V), H a = some (.ins T.C_Bag dx [("_members", .ref m)]) ∧ (∃ o : Obj, H m = some (.frz o (.tup xs)) ∧ o.cls = .type "tuple" ∧ o.dict = none) ∧ Its H xs ns
section
variable {K : PySem.W.Frag} {mg : Str → Option Value} {T : Txt K mg} {H H' : Hp} {a b : Addr} {ns : List (List Int)}
theorem BagAt.same (h : BagAt T H a ns) (g : Same H H') : BagAt T H' a ns := by
  obtain ⟨dx, m, xs, h1, ⟨o, h2, ho⟩, h3⟩ := h
  exact ⟨dx, m, xs, g _ _ h1, ⟨o, g _ _ h2, ho⟩, h3.same g⟩
theorem BagAt.keep (h : BagAt T H a ns) (hb : BoxAt H b) (k : Keep b H H') : BagAt T H' a ns := by
  obtain ⟨dx, m, xs, h1, ⟨o, h2, ho⟩, h3⟩ := h
  refine ⟨dx, m, xs, k.1 _ _ ?_ h1, ⟨o, k.1 _ _ ?_ h2, ho⟩, h3.keep hb k⟩
  · rintro rfl
    obtain ⟨l, ns, pos, rest, seed, cnt, e, _⟩ := hb
    rw [e] at h1
    cases h1
  · rintro rfl
    obtain ⟨l, ns, pos, rest, seed, cnt, e, _⟩ := hb
    rw [e] at h2
    cases h2
theorem BagAt.ins (h : BagAt T H a ns) : ∃ dx fs, H a = some (.ins T.C_Bag dx fs) := by
  obtain ⟨dx, m, xs, h1, _⟩ := h
  exact ⟨dx, _, h1⟩
theorem BagAt.memb (h : BagAt T H a ns) : ∃ dx m xs, H a = some (.ins T.C_Bag dx [("_members", .ref m)]) ∧ SqT K H m xs ∧ tyF (.ref m) H ∧ Its H xs ns := by
  obtain ⟨dx, m, xs, h1, ⟨o, h2, hc, hd⟩, h3⟩ := h
  exact ⟨dx, m, xs, h1, .inl (.inr ⟨o, h2⟩), ⟨m, o, xs, rfl, h2, hc, hd⟩, h3⟩
end
/-- what may stand as an argument of Bag: tuples and lists of ints -/
def Ar (K : PySem.W.Frag) (H : Hp) (x : V) (n : List Int) : Prop := ∃ t, x = .ref t ∧ (H t = some (.tup (n.map V.int)) ∨ SqL K H t (n.map V.int))
inductive Ars (K : PySem.W.Frag) (H : Hp) : List V → List (List Int) → Prop
  | nil : Ars K H [] []
  | cons {x : V} {xs : List V} {n : List Int} {ns : List (List Int)} : Ar K H x n → Ars K H xs ns → Ars K H (x :: xs) (n :: ns)
section
variable {K : PySem.W.Frag} {H H' : Hp} {x : V} {xs : List V} {n : List Int} {ns : List (List Int)}
theorem Ar.same (g : Same H H') (h : Ar K H x n) : Ar K H' x n := by
  obtain ⟨t, e, h⟩ := h
  exact ⟨t, e, h.imp (g _ _) g.seq⟩
theorem Ars.same (g : Same H H') (h : Ars K H xs ns) : Ars K H' xs ns := by
  induction h with
  | nil => exact .nil
  | cons a _ ih => exact .cons (a.same g) ih
theorem Ars.len (h : Ars K H xs ns) : xs.length = ns.length := by
  induction h with
  | nil => rfl
  | cons _ _ ih => rw [List.length_cons, List.length_cons, ih]
theorem Ars.at_ (h : Ars K H xs ns) {i : Nat} (e : xs[i]? = some x) : ∃ n, ns[i]? = some n ∧ Ar K H x n := by
  induction h generalizing i with
  | nil => simp at e
  | cons a _ ih =>
    cases i with
    | zero =>
      simp at e
      subst e
      exact ⟨_, rfl, a⟩
    | succ i => exact ih (by simpa using e)
theorem TI.ar (h : TI H x n) : Ar K H x n := by
  obtain ⟨t, e, h⟩ := h
  exact ⟨t, e, .inl h⟩
theorem Its.ars (h : Its H xs ns) : Ars K H xs ns := by
  induction h with
  | nil => exact .nil
  | cons a _ ih => exact .cons a.ar ih
end
def spInit {K : PySem.W.Frag} {mg : Str → Option Value} (T : Txt K mg) : Sp := fun vs H Q _ => ∃ (x dx t : Addr) (args : List V) (ns : List (List Int)) (d : Nat), vs = [.ref x, .ref t] ∧ H x = some (.ins T.C_Bag dx []) ∧ H t = some (.tup args) ∧ Ars K H args ns ∧ 1 ≤ d ∧ (∀ n ∈ ns, Ok d n) ∧ ns.length < 64 ∧
  ∀ H', (∀ y o, y ≠ x → H y = some o → H' y = some o) → BagAt T H' x (srt ns) → Q .non H'
def spInitR {K : PySem.W.Frag} {mg : Str → Option Value} (T : Txt K mg) : Sp := fun vs H Q E => ∃ ws rest, vs = ws ++ rest ∧ ws.length = ["self"].length ∧ rest.length ≤ sizeLine ∧ ∀ p, H p = none → spInit T (ws ++ [V.ref p]) (upd H p (.tup rest)) Q E
/-- a call of the class, as the rules ask -/
theorem init_of {K : PySem.W.Frag} {mg : Str → Option Value} {T : Txt K mg} {H : Hp} {args : List V} {ns : List (List Int)} {d : Nat} {R : Addr → Hp → Prop} {E : XK} (ha : Ars K H args ns) (hd : 1 ≤ d) (ho : ∀ n ∈ ns, Ok d n) (hl : ns.length < 64)
    (k : ∀ (x : Addr) (H' : Hp), Same H H' → BagAt T H' x (srt ns) → R x H') : ∀ x dx, H x = none → H dx = none → dx ≠ x → spInitR T (V.ref x :: args) (upd (upd H dx (.own x)) x (.ins T.C_Bag dx [])) (fun v H2 => v = .non ∧ R x H2) E := by
  intro x dx hx hdx hne
  refine ⟨[.ref x], args, rfl, rfl, by rw [ha.len]; exact Nat.le_of_lt (small1000 (by omega)), fun p hp => ?_⟩
  have g1 : Same H (upd (upd H dx (.own x)) x (.ins T.C_Bag dx [])) := fun y o e => by
    rw [upd_ne (ne_of_none e hx), upd_ne (ne_of_none e hdx)]
    exact e
  have ex : upd (upd H dx (.own x)) x (.ins T.C_Bag dx []) x = some (.ins T.C_Bag dx []) := upd_same
  generalize upd (upd H dx (.own x)) x (.ins T.C_Bag dx []) = H1 at g1 ex hp ⊢
  have g2 := same_new hp (.tup args)
  refine ⟨x, dx, p, args, ns, d, rfl, g2 _ _ ex, upd_same, (ha.same g1).same g2, hd, ho, hl, fun H' g hB => ⟨rfl, k x H' (fun y o e => ?_) hB⟩⟩
  exact g _ _ (ne_of_none e hx) (g2 _ _ (g1 _ _ e))
def Same' (x : Addr) (H H' : Hp) : Prop := ∀ y o, y ≠ x → H y = some o → H' y = some o
section
variable {P : Program} {w : World} {K : PySem.W.Frag} {mg : Str → Option Value} {base : Heap}
theorem ok_init (T : Txt K mg) : FnR P w K mg base CX0 1 T.f_m_init (spInitR T) := by
  obtain ⟨oc, od, kV, doc, pm, an, cdv, ct, osl, hfd, lk, hcd⟩ := T.F_m_init.ex
  rw [hfd] at lk
  refine StX.fn_star (sp := spInit T) (ps := ["self"]) (pv := "items") lk hcd sc_m_init StX.cxUp_none (StX.bind_star1 (B := fun us => bindArgs _ ⟨us, []⟩) (fun a => rfl) (fun a r rs => rfl)) (fun A outer s H vs Q E hr h => ?_)
  obtain ⟨x, dx, tp, args, ns, d, rfl, hx, ht, ha, hd, ho, hl, k⟩ := h
  suffices hh : ∃ t, PSs (cxOf CX0 P w K mg base ["self", "items", "item"] "Bag.__init__" (defScope s_m_init) T.f_m_init cdv A outer s H E).nox (defBody s_m_init) t ∧ t { nx := fun _ H' => Q .non H', rt := Q } (start ["self", "items", "item"] [V.ref x, V.ref tp]) H by
    obtain ⟨t, h1, h2⟩ := hh
    exact ⟨t, h1.nox, h2⟩
  refine ⟨_, (pss_one (ps_fld (pv 0) (pe_callTy (T := "tuple") call_tupleF (by rfl) T.z_tuple (by decide +kernel) (pa_cons (pe_callB (cr_sortT (d := d) (B := B10) hd) (by rfl) T.z_sorted (by decide +kernel) (pa_cons (pe_lc (own := [("item", 2)]) (g := gName 2) (tt := tYes) (te := tCB (rTupOf K) (tCons (tVar 2) tNil)) (by rfl) sc_m_init.nd (pi_tup (pv 1)) (blkOk_by (own := [("item", 2)]) (N := ["self", "items", "item"]) (sc := defScope s_m_init) (by decide +kernel)) (fun _ _ _ _ _ => (pg_name (i := 2) sc_m_init.nd rfl (Or.inl rfl))) (fun _ _ _ _ _ => pts_nil) (fun _ _ _ _ _ => (pe_callTy (T := "tuple") call_tupleD (by rfl) T.z_tuple (by decide +kernel) (pa_cons (pv 2) pa_nil)))) pa_nil)) pa_nil)) rfl)), ?_⟩
  refine ⟨_, rfl, tp, rfl, ⟨_, SqT.of ht⟩, fun D hD => lc_tup (K := K) (a := tp) (xs := args) (fun i Hx => Same H Hx ∧ ∃ ys, Hx D = some (.lst ys) ∧ Its Hx ys (ns.take i))
    ⟨same_new hD _, _, upd_same, .nil⟩ (fun i Hx _ ⟨gs, _⟩ => SqT.of (gs _ _ ht)) ?_ ?_⟩
  · rintro i z Hx hi ⟨gs, ys, eD, hI⟩
    obtain ⟨n, hn, u, rfl, hu⟩ := (ha.same gs).at_ hi
    have hlen := hI.len
    rw [List.length_take] at hlen
    have next : ∀ (Hy : Hp) (v : V), Same Hx Hy → TI Hy v n → ∃ acc, Hy D = some (.lst acc) ∧ acc.length < sizeLine ∧ Same H (upd Hy D (.lst (acc ++ [v]))) ∧ ∃ ys, upd Hy D (.lst (acc ++ [v])) D = some (.lst ys) ∧ Its (upd Hy D (.lst (acc ++ [v]))) ys (ns.take (i + 1)) := fun Hy v gy tv => by
      refine ⟨ys, gy _ _ eD, small1000 (by omega), fun y o e => ?_, _, upd_same, ?_⟩
      · rw [upd_ne (ne_of_none e hD)]
        exact gy _ _ (gs _ _ e)
      · rw [List.take_add_one, hn]
        refine ((hI.same gy).snoc tv).mono fun x m ⟨q, e, hq⟩ => ⟨q, e, ?_⟩
        rw [upd_ne]
        · exact hq
        · rintro rfl
          rw [gy _ _ eD] at hq
          cases hq
    refine ⟨rfl, _, rfl, u, n.map V.int, rfl, ?_⟩
    rcases hu with hu | hu
    · exact .inr ⟨SqT.of hu, next Hx _ (Same.refl _) ⟨u, rfl, hu⟩⟩
    · exact .inl ⟨hu, fun p hp => next _ _ (same_new hp _) ⟨p, rfl, upd_same⟩⟩
  rintro Hx ⟨gs, ys, eD, hI⟩
  have e0 : ns.take args.length = ns := by rw [ha.len]; exact List.take_length
  rw [e0] at hI
  refine ⟨D, ys, rfl, SqL.of eD, by rw [hI.len]; exact hl, fun x hx => ?_, fun zs p hp hs hpn => ?_⟩
  · obtain ⟨n, hn, t⟩ := hI.mem hx
    obtain ⟨o1, o2⟩ := ho n hn
    exact ⟨n, t.up, o1, o2⟩
  obtain ⟨ms, hm, hJ⟩ := Its.perm hp hI
  have hasc := hJ.asc hs
  have em : ms = srt ns := srt_of ho hm hasc
  subst em
  have g1 := same_new hpn (.lst zs)
  have e1 : upd Hx p (.lst zs) p = some (.lst zs) := upd_same
  generalize upd Hx p (.lst zs) = H1 at g1 e1 ⊢
  refine ⟨p, _, rfl, SqL.of e1, fun q o hq oc od => ?_⟩
  have g2 := same_new hq (.frz o (.tup zs))
  have e2 : upd H1 q (.frz o (.tup zs)) q = some (.frz o (.tup zs)) := upd_same
  generalize upd H1 q (.frz o (.tup zs)) = H2 at g2 e2 ⊢
  have hx2 := g2 _ _ (g1 _ _ (gs _ _ hx))
  refine ⟨_, rfl, x, _, dx, _, rfl, hx2, T.cl, T.n__members, (by show 0 < 1000; decide), ?_⟩
  refine k _ (fun y o n hy => ?_) ⟨dx, q, zs, upd_same, ⟨o, ?_, oc, od⟩, ?_⟩
  · rw [upd_ne n]
    exact g2 _ _ (g1 _ _ (gs _ _ hy))
  · rw [upd_ne (ne_of e2 hx2 (by intro z; cases z))]
    exact e2
  · refine ((hJ.same g1).same g2).mono fun v n ⟨u, e, hu⟩ => ⟨u, e, ?_⟩
    rw [upd_ne (ne_of hu hx2 (by intro z; cases z))]
    exact hu
end
end K0

set_option maxRecDepth 100000
set_option maxHeartbeats 4000000
namespace K0
open PySem L2 BM BR

theorem Ls.of {H : Hp} {l : Addr} {xs : List V} {ns : List (List Int)} (e : H l = some (.lst xs)) (h : Its H xs ns) : Ls H l ns := ⟨xs, e, h⟩
theorem room65 {A : Around} {k : Nat} (hr : Room k A) : A.units + 65 < cLine := by have := hr.un; omega
theorem tyBag {K : PySem.W.Frag} {mg : Str → Option Value} (T : Txt K mg) {H : Hp} {a : Addr} {ns : List (List Int)} (h : BagAt T H a ns) : TyX K H (.ref a) (.ref T.C_Bag) := by
  obtain ⟨d, m, xs, h1, _⟩ := h
  exact .base (.ins h1 T.cl T.ca T.cn T.ct T.mo)
def spTimes {K : PySem.W.Frag} {mg : Str → Option Value} (T : Txt K mg) : Sp := fun vs H Q _ => ∃ (a : Addr) (y : V) (ns : List (List Int)) (n : List Int), vs = [.ref a, y] ∧ BagAt T H a ns ∧ Ar K H y n ∧ ∀ H', Same H H' → Q (.int (ns.count n : Nat)) H'
def spHas {K : PySem.W.Frag} {mg : Str → Option Value} (T : Txt K mg) : Sp := fun vs H Q _ => ∃ (a : Addr) (y : V) (ns : List (List Int)) (n : List Int), vs = [.ref a, y] ∧ BagAt T H a ns ∧ Ar K H y n ∧ ∀ H', Same H H' → Q (.bl (decide (n ∈ ns))) H'
def spListed {K : PySem.W.Frag} {mg : Str → Option Value} (T : Txt K mg) : Sp := fun vs H Q _ => ∃ (a : Addr) (ns : List (List Int)), vs = [.ref a] ∧ BagAt T H a ns ∧ ∀ (l : Addr) H', Same H H' → H l = none → Ls H' l ns → Q (.ref l) H'
def spLen {K : PySem.W.Frag} {mg : Str → Option Value} (T : Txt K mg) : Sp := fun vs H Q _ => ∃ (a : Addr) (ns : List (List Int)), vs = [.ref a] ∧ BagAt T H a ns ∧ Q (.int (ns.length : Nat)) H
def spAdd {K : PySem.W.Frag} {mg : Str → Option Value} (T : Txt K mg) : Sp := fun vs H Q _ => ∃ (a b : Addr) (ns ms : List (List Int)) (d : Nat), vs = [.ref a, .ref b] ∧ BagAt T H a ns ∧ BagAt T H b ms ∧ 1 ≤ d ∧ (∀ n ∈ ns, Ok d n) ∧ (∀ n ∈ ms, Ok d n) ∧ ns.length + ms.length < 64 ∧
  ∀ (x : Addr) H', Same H H' → BagAt T H' x (srt (ns ++ ms)) → Q (.ref x) H'
def spEqB {K : PySem.W.Frag} {mg : Str → Option Value} (T : Txt K mg) : Sp := fun vs H Q _ => ∃ (a : Addr) (y : V) (ns : List (List Int)), vs = [.ref a, y] ∧ BagAt T H a ns ∧
  ((∃ (b : Addr) (ms : List (List Int)), y = .ref b ∧ BagAt T H b ms ∧ Q (.bl (decide (ns = ms))) H) ∨ (∃ ty, TyX K H y ty ∧ PySem.W.kitOne K ty (.ref T.C_Bag) = some false ∧ Q (.bl false) H))
def txtB (n : Nat) : Str := Str.empty ++ Str.ofString "Bag(" ++ (toString (n : Int) : Str) ++ Str.ofString " items)"
theorem txt_len : ∀ n : Nat, n < 101 → (Str.ofString (toString (n : Int))).length ≤ 10 := by decide +kernel
def spRep {K : PySem.W.Frag} {mg : Str → Option Value} (T : Txt K mg) : Sp := fun vs H Q _ => ∃ (a : Addr) (ns : List (List Int)), vs = [.ref a] ∧ BagAt T H a ns ∧ ns.length ≤ 100 ∧ Q (.str (txtB ns.length)) H
section
variable {P : Program} {w : World} {K : PySem.W.Frag} {mg : Str → Option Value} {base : Heap}
theorem ok_m_times (T : Txt K mg) : FnOk P w K mg base CX0 1 T.f_m_times T.fd_m_times ["self", "item"] (spTimes T) := by
  refine T.F_m_times.ok sc_m_times (fun vs H Q E h => ?_) (fun cdv A outer s H vs Q E hr h => ?_)
  · obtain ⟨a, y, ns, n, rfl, _⟩ := h
    rfl
  · obtain ⟨a, y, ns, n, rfl, hbag, ⟨u, rfl, hu⟩, k⟩ := h
    refine ⟨_, (pss_one (ps_ret (pe_bmT PySem.F.plainAttrs_tuple PySem.F.slot_tuple_count PySem.F.type_tuple_count (BR.mt_tcountD (room65 hr)) (pe_fld (pv 0) rfl) (pa_cons (pe_callTy (T := "tuple") call_tupleD (by rfl) T.z_tuple (by decide +kernel) (pa_cons (pv 1) pa_nil)) pa_nil)))), ?_⟩
    obtain ⟨d, m, xs, h1, h2, hty, h3⟩ := hbag.memb
    refine ⟨_, rfl, a, _, d, _, _, rfl, h1, T.cl, T.n__members, rfl, hty, _, rfl, u, n.map V.int, rfl, ?_⟩
    have fin : ∀ (Hy : Hp) (v : V), Same H Hy → TI Hy v n → rCntD K .tuple (.ref m) [v] Hy Q := fun Hy v g tv => by
      refine ⟨m, v, tD n, ns.map tD, rfl, rfl, .tup (Same.seqT' g h2) (h3.same g).dp, tv.dp, plTs _, plT _, Nat.le_trans (depT _) (by decide), ?_⟩
      rw [cntT]
      exact k _ g
    rcases hu with hu | hu
    · exact .inr ⟨SqT.of hu, fin H _ (Same.refl _) ⟨u, rfl, hu⟩⟩
    · exact .inl ⟨hu, fun p hp => fin _ _ (same_new hp _) ⟨p, rfl, upd_same⟩⟩
theorem ok_m_contains (T : Txt K mg) : FnOk P w K mg base CX0 1 T.f_m_contains T.fd_m_contains ["self", "item"] (spHas T) := by
  refine T.F_m_contains.ok sc_m_contains (fun vs H Q E h => ?_) (fun cdv A outer s H vs Q E hr h => ?_)
  · obtain ⟨a, y, ns, n, rfl, _⟩ := h
    rfl
  · obtain ⟨a, y, ns, n, rfl, hbag, ⟨u, rfl, hu⟩, k⟩ := h
    refine ⟨_, (pss_one (ps_ret (pe_cmpR (op_inDT (room65 hr)) (pe_callTy (T := "tuple") call_tupleD (by rfl) T.z_tuple (by decide +kernel) (pa_cons (pv 1) pa_nil)) (pe_fld (pv 0) rfl) (by rfl)))), ?_⟩
    obtain ⟨d, m, xs, h1, h2, hty, h3⟩ := hbag.memb
    refine ⟨_, rfl, u, n.map V.int, rfl, ?_⟩
    have fin : ∀ (Hy : Hp) (v : V), Same H Hy → TI Hy v n → rInDT K v (.ref m) Hy Q := fun Hy v g tv => by
      refine ⟨tD n, ns.map tD, tv.dp, .tup (Same.seqT' g h2) (h3.same g).dp, shT _, shTT _, ?_⟩
      rw [anyT]
      exact k _ g
    rcases hu with hu | hu
    · exact .inr ⟨SqT.of hu, _, rfl, a, _, d, _, _, rfl, h1, T.cl, T.n__members, rfl, fin H _ (Same.refl _) ⟨u, rfl, hu⟩⟩
    · refine .inl ⟨hu, fun p hp => ?_⟩
      have g := same_new hp (.tup (n.map V.int))
      exact ⟨_, rfl, a, _, d, _, _, rfl, g _ _ h1, T.cl, T.n__members, rfl, fin _ _ g ⟨p, rfl, upd_same⟩⟩
theorem ok_m_listed (T : Txt K mg) : FnOk P w K mg base CX0 1 T.f_m_listed T.fd_m_listed ["self"] (spListed T) := by
  refine T.F_m_listed.ok sc_m_listed (fun vs H Q E h => ?_) (fun cdv A outer s H vs Q E hr h => ?_)
  · obtain ⟨a, ns, rfl, _⟩ := h
    rfl
  · obtain ⟨a, ns, rfl, hbag, k⟩ := h
    refine ⟨_, (pss_one (ps_ret (pe_callTy call_listD (by rfl) T.z_list (by decide +kernel) (pa_cons (pe_fld (pv 0) rfl) pa_nil)))), ?_⟩
    obtain ⟨d, m, xs, h1, h2, hty, h3⟩ := hbag.memb
    refine ⟨_, rfl, a, _, d, _, _, rfl, h1, T.cl, T.n__members, rfl, m, xs, rfl, .inr h2, fun l hl => ?_⟩
    have g := same_new hl (.lst xs)
    exact k l _ g hl ⟨xs, upd_same, h3.same g⟩
theorem ok_m_len (T : Txt K mg) : FnOk P w K mg base CX0 1 T.f_m_len T.fd_m_len ["self"] (spLen T) := by
  refine T.F_m_len.ok sc_m_len (fun vs H Q E h => ?_) (fun cdv A outer s H vs Q E hr h => ?_)
  · obtain ⟨a, ns, rfl, _⟩ := h
    rfl
  · obtain ⟨a, ns, rfl, hbag, k⟩ := h
    refine ⟨_, (pss_one (ps_ret (pe_callB call_len_seq (by rfl) T.z_len PySem.boot_len (pa_cons (pe_fld (pv 0) rfl) pa_nil)))), ?_⟩
    obtain ⟨d, m, xs, h1, h2, hty, h3⟩ := hbag.memb
    refine ⟨_, rfl, a, _, d, _, _, rfl, h1, T.cl, T.n__members, rfl, m, xs, rfl, .inr h2, ?_⟩
    rw [h3.len]
    exact k
theorem ok_m_add (T : Txt K mg) : FnOk P w K mg base CX0 3 T.f_m_add T.fd_m_add ["self", "other"] (spAdd T) := by
  refine T.F_m_add.ok sc_m_add (fun vs H Q E h => ?_) (fun cdv A outer s H vs Q E hr h => ?_)
  · obtain ⟨a, b, ns, ms, d, rfl, _⟩ := h
    rfl
  · obtain ⟨a, b, ns, ms, d, rfl, hA, hB, hd, ho, hp, hl, k⟩ := h
    refine ⟨_, (pss_cons (ps_set (i := 2) sc_m_add.nd rfl (Or.inl rfl) (pe_op op_cat (pe_meth0 (pv 0) T.cl T.me_m_listed (ok_m_listed T) (hr.mono (by decide)) T.b_m_listed .nil pass0) (pe_meth0 (pv 1) T.cl T.me_m_listed (ok_m_listed T) (hr.mono (by decide)) T.b_m_listed .nil pass0)))
      (pss_one (ps_ret (BR.pe_makeRS T.mk_ (ok_init T) (hr.mono (by decide)) (by rfl) T.gC_Bag pass0 (pv 2))))), ?_⟩
    have hA0 := hA
    obtain ⟨dx, m, xs, h1, h2, h3⟩ := hA0
    have hB0 := hB
    obtain ⟨dy, m', ys, h1', h2', h3'⟩ := hB0
    refine ⟨_, rfl, a, dx, _, rfl, h1, rfl, a, ns, rfl, hA, fun l1 H1 g1 n1 e1 => ?_⟩
    refine ⟨_, rfl, b, dy, _, rfl, g1 _ _ h1', rfl, b, ms, rfl, hB.same g1, fun l2 H2 g2 n2 e2 => ?_⟩
    obtain ⟨xs1, e1, i1⟩ := e1.same g2
    obtain ⟨xs2, e2, i2⟩ := e2
    refine ⟨l1, l2, xs1, xs2, rfl, rfl, e1, e2, by rw [i1.len, i2.len]; exact Nat.le_of_lt (small1000 (by omega)), fun p hp' => ?_⟩
    have g3 := same_new hp' (.lst (xs1 ++ xs2))
    have e3 : upd H2 p (.lst (xs1 ++ xs2)) p = some (.lst (xs1 ++ xs2)) := upd_same
    generalize upd H2 p (.lst (xs1 ++ xs2)) = H3 at g3 e3 ⊢
    have g := g1.trans (g2.trans g3)
    refine ⟨_, rfl, p, xs1 ++ xs2, rfl, .inr (SqL.of e3), init_of (d := d) (((i1.append i2).same g3).ars) hd (fun n hn => ?_) ?_ fun x H' g4 hx => k x H' (g.trans g4) hx⟩
    · rcases List.mem_append.mp hn with z | z
      · exact ho n z
      · exact hp n z
    · rw [List.length_append]
      exact hl
theorem ok_m_eq (T : Txt K mg) : FnOk P w K mg base CX0 1 T.f_m_eq T.fd_m_eq ["self", "other"] (spEqB T) := by
  refine T.F_m_eq.ok sc_m_eq (fun vs H Q E h => ?_) (fun cdv A outer s H vs Q E hr h => ?_)
  · obtain ⟨a, y, ns, rfl, _⟩ := h
    rfl
  · obtain ⟨a, y, ns, rfl, hA, k⟩ := h
    refine ⟨_, (pss_one (ps_ret (pe_and (pe_callB call_isi (by rfl) T.z_isinstance (by decide +kernel) (pa_cons (pv 1) (pa_cons (pe_glob (v := .ref T.C_Bag) (by rfl) T.gC_Bag rfl) pa_nil))) (pe_one (pe_cmpR (op_eqD hr.units) (pe_fld (pv 0) rfl) (pe_fld (pv 1) rfl) (nomark _)))))), ?_⟩
    obtain ⟨d, m, xs, h1, h2, _, h3⟩ := hA.memb
    rcases k with ⟨b, ms, rfl, hB, k⟩ | ⟨ty, hty, hk, k⟩
    · obtain ⟨d', m', ys, h1', h2', _, h3'⟩ := hB.memb
      refine ⟨_, rfl, _, _, _, _, _, rfl, .own _, tyBag T hB, T.kk, _, rfl, iteT ?_⟩
      refine ⟨_, rfl, a, _, d, _, _, rfl, h1, T.cl, T.n__members, rfl, _, rfl, b, _, d', _, _, rfl, h1', T.cl, T.n__members, rfl, _, _, .tup h2 h3.dp, .tup h2' h3'.dp, shTT _, shTT _, ?_⟩
      rw [eqvTT]
      exact k
    · exact ⟨_, rfl, _, _, _, _, _, rfl, .own _, hty, hk, _, rfl, iteF k⟩
theorem ok_m_repr (T : Txt K mg) : FnOk P w K mg base CX0 1 T.f_m_repr T.fd_m_repr ["self"] (spRep T) := by
  refine T.F_m_repr.ok sc_m_repr (fun vs H Q E h => ?_) (fun cdv A outer s H vs Q E hr h => ?_)
  · obtain ⟨a, ns, rfl, _⟩ := h
    rfl
  · obtain ⟨a, ns, rfl, hbag, hl, k⟩ := h
    refine ⟨_, (pss_one (ps_ret (pe_joined (PJ.cons pe_str (PJ.cons (pe_fmt (pe_callB call_len_seq (by rfl) T.z_len PySem.boot_len (pa_cons (pe_fld (pv 0) rfl) pa_nil))) (PJ.cons pe_str PJ.nil)))))), ?_⟩
    obtain ⟨d, m, xs, h1, h2, hty, h3⟩ := hbag.memb
    have hz := txt_len ns.length (by omega)
    have hs1 : 100 ≤ sizeLine := by decide
    have e0 : (Str.empty ++ Str.ofString "Bag(").length = 4 := by decide +kernel
    have e2 : (Str.ofString " items)").length = 7 := by decide +kernel
    have el := h3.len
    refine ⟨_, rfl, (by rw [e0]; omega), ?_⟩
    refine ⟨_, rfl, a, _, d, _, _, rfl, h1, T.cl, T.n__members, rfl, m, _, rfl, .inr h2, .inr ⟨_, rfl, ?_, _, rfl, ?_, _, rfl, ?_, ?_⟩⟩
    · exact Nat.lt_trans (PySem.Flt.log2_lt_of (by decide : 0 < 64) (by omega)) (by decide)
    · rw [Str.length_append, e0, el]
      omega
    · rw [Str.length_append, Str.length_append, e0, e2, el]
      omega
    · rw [el]
      exact k
end
end K0

set_option maxRecDepth 100000
set_option maxHeartbeats 4000000
namespace K0
open PySem L2 BM BR

theorem cut_from2 (xs : List V) (h : 2 ≤ xs.length) : cutV xs (some 2) none = xs.drop 2 := by
  unfold cutV
  rw [HT.sIx_none, show (some (2 : Int)) = some ((2 : Nat) : Int) from rfl, HT.sIx_nat, Nat.min_eq_left h]
  exact List.take_of_length_le (by rw [List.length_drop]; exact Nat.le_refl _)
theorem at_nat {xs : List Int} {i : Nat} {z : Int} (h : xs[i]? = some z) : atI (xs.map V.int) ((i : Nat) : Int) = some (.int z) := atI_nat (by rw [List.getElem?_map, h]; rfl)
theorem getD_of {xs : List Int} {i : Nat} {z : Int} (h : xs[i]? = some z) : xs.getD i 0 = z := by rw [List.getD_eq_getElem?_getD, h]; rfl
theorem Ls.snoc {H : Hp} {D : Addr} {ns : List (List Int)} {n : List Int} {v : V} {acc : List V} (e : H D = some (.lst acc)) (h : Its H acc ns) (tv : TI H v n) : Ls (upd H D (.lst (acc ++ [v]))) D (ns ++ [n]) := by
  refine ⟨_, upd_same, (h.snoc tv).mono fun x m ⟨q, e2, hq⟩ => ⟨q, e2, ?_⟩⟩
  rw [upd_ne]
  · exact hq
  · rintro rfl
    rw [e] at hq
    cases hq
def spMerged {K : PySem.W.Frag} {mg : Str → Option Value} (T : Txt K mg) : Sp := fun vs H Q _ => ∃ (a : Addr) (ns : List (List Int)) (g p : Int) (d : Nat), vs = [.ref a, .int g, .int p] ∧ BagAt T H a ns ∧ 0 < p ∧ p ≤ B10 ∧ d ≤ 100 ∧ (∀ n ∈ ns, Ok (d + 2) n) ∧ ns.length < 64 ∧
  ∀ (x : Addr) H', Same H H' → BagAt T H' x (srt (ns.map (mrg g p))) → Q (.ref x) H'
def spProduct {K : PySem.W.Frag} {mg : Str → Option Value} (T : Txt K mg) : Sp := fun vs H Q _ => ∃ (a : Addr) (ns : List (List Int)) (z p : Int), vs = [.ref a, .int z, .int p] ∧ BagAt T H a ns ∧ 0 < p ∧ p ≤ B10 ∧ (∀ n ∈ ns, Ok 1 n) ∧ Q (.int (prd p z ns)) H
theorem prd_take {p z : Int} {ns : List (List Int)} {i : Nat} {n : List Int} (h : ns[i]? = some n) : prd p z (ns.take (i + 1)) = stepP p z (prd p z (ns.take i)) n := by
  unfold prd
  rw [List.take_add_one, h, List.foldl_append]
  rfl
theorem prd_bd {p z : Int} (p0 : 0 < p) (p1 : p ≤ B10) (ns : List (List Int)) : 0 ≤ prd p z ns ∧ prd p z ns ≤ B10 := by
  have key : ∀ (l : List (List Int)) (t : Int), 0 ≤ t → t ≤ B10 → 0 ≤ l.foldl (stepP p z) t ∧ l.foldl (stepP p z) t ≤ B10 := by
    intro l
    induction l with
    | nil => intro t h1 h2; exact ⟨h1, h2⟩
    | cons n l ih =>
      intro t h1 h2
      have := Int.emod_nonneg (t * (z - n.getD 0 0)) (show p ≠ 0 by omega)
      have := Int.emod_lt_of_pos (t * (z - n.getD 0 0)) p0
      exact ih _ (by unfold stepP; omega) (by unfold stepP; omega)
  exact key ns 1 (by decide) (by decide)
section
variable {P : Program} {w : World} {K : PySem.W.Frag} {mg : Str → Option Value} {base : Heap}
theorem ok_m_merged (T : Txt K mg) : FnOk P w K mg base CX0 3 T.f_m_merged T.fd_m_merged ["self", "worth", "p"] (spMerged T) := by
  refine T.F_m_merged.ok sc_m_merged (fun vs H Q E h => ?_) (fun cdv A outer s H vs Q E hr h => ?_)
  · obtain ⟨a, ns, g, p, d, rfl, _⟩ := h
    rfl
  · obtain ⟨a, ns, g, p, d, rfl, hbag, p0, p1, hd100, ho, hl, k⟩ := h
    refine ⟨_, (pss_cons (ps_setLc (i := 4) (own := [("item", 3)]) (g := gName 3) (tt := tYes) (te := (tOp (rCatA K) (tTup (tCons (tOp (rI (fun _ j => 0 < j) fun i j => V.int (i % j)) (tOp (rI0 fun i j => V.int (i + j)) (tOp (rIxT K) (tVar 3) (tC (.int 0))) (tOp (rI CMul fun i j => V.int (i * j)) (tVar 1) (tOp (rIxT K) (tVar 3) (tC (.int 1))))) (tVar 2)) tNil)) (tSl (rSlA K) (tVar 3) (tPart (tC (.int 2))) tNoPart))) (by rfl) sc_m_merged.nd rfl rfl (sw_true rfl rfl rfl (by decide +kernel)) (pi_tup (pe_fld (pv 0) rfl)) (blkOk_by (own := [("item", 3)]) (N := ["self", "worth", "p", "item", "made"]) (sc := defScope s_m_merged) (by decide +kernel)) (fun _ _ _ _ _ => (pg_name (i := 3) sc_m_merged.nd rfl (Or.inl rfl))) (fun _ _ _ _ _ => pts_nil) (fun _ _ _ _ _ => (pe_op op_catA (pe_tup (pa_cons (pe_op op_mod (pe_op op_add (pe_ix ix_tup (pv 3) pe_int (fun _ _ => rfl)) (pe_op op_mul (pv 1) (pe_ix ix_tup (pv 3) pe_int (fun _ _ => rfl)))) (pv 2)) pa_nil)) (pe_slice sl_tupA (pv 3) (po_some pe_int) po_none))))
      (pss_one (ps_ret (BR.pe_makeRS T.mk_ (ok_init T) (hr.mono (by decide)) (by rfl) T.gC_Bag pass0 (pv 4))))), ?_⟩
    obtain ⟨dx, m, xs, h1, h2, hty, h3⟩ := hbag.memb
    refine ⟨_, rfl, a, _, dx, _, _, rfl, h1, T.cl, T.n__members, rfl, m, rfl, ⟨_, h2⟩, fun D hD => lc_tup (K := K) (a := m) (xs := xs) (fun i Hx => Same H Hx ∧ Ls Hx D ((ns.take i).map (mrg g p)))
      ⟨same_new hD _, [], upd_same, .nil⟩ (fun i Hx _ ⟨gs, _⟩ => Same.seqT' gs h2) ?_ ?_⟩
    · rintro i z Hx hi ⟨gs, ys, eD, hI⟩
      obtain ⟨n, hn, u, rfl, hu⟩ := (h3.same gs).at_ hi
      obtain ⟨o1, o2⟩ := ho n (List.mem_of_getElem? hn)
      have hlen := hI.len
      rw [List.length_map, List.length_take] at hlen
      have z0 : n[0]? = some n[0] := List.getElem?_eq_getElem (by omega)
      have z1 : n[1]? = some n[1] := List.getElem?_eq_getElem (by omega)
      have hB : B10 = 10000000000 := rfl
      have b1 := o2 _ (List.getElem_mem (l := n) (n := 1) (by omega))
      have em : mrg g p n = (n[0] + g * n[1]) % p :: n.drop 2 := by
        unfold mrg
        rw [getD_of z0, getD_of z1]
      have next : ∀ (Hy : Hp) (v : V), Same Hx Hy → TI Hy v (mrg g p n) → ∃ acc, Hy D = some (.lst acc) ∧ acc.length < sizeLine ∧ Same H (upd Hy D (.lst (acc ++ [v]))) ∧ Ls (upd Hy D (.lst (acc ++ [v]))) D ((ns.take (i + 1)).map (mrg g p)) := fun Hy v gy tv => by
        refine ⟨ys, gy _ _ eD, small1000 (by omega), fun y o e => ?_, ?_⟩
        · rw [upd_ne (ne_of_none e hD)]
          exact gy _ _ (gs _ _ e)
        · rw [List.take_add_one, hn, List.map_append]
          exact Ls.snoc (gy _ _ eD) (hI.same gy) tv
      refine ⟨rfl, _, rfl, u, _, _, _, rfl, rfl, SqT.of hu, at_nat z0, _, rfl, _, rfl, u, _, _, _, rfl, rfl, SqT.of hu, at_nat z1, _, _, rfl, rfl, .inr ⟨by omega, by omega⟩, _, _, rfl, rfl, _, rfl, _, _, rfl, rfl, p0, (by show 1 ≤ sizeLine; decide), fun q hq => ?_⟩
      have gq := same_new hq (.tup [.int ((n[0] + g * n[1]) % p)])
      have eq : upd Hx q (.tup [.int ((n[0] + g * n[1]) % p)]) q = some (.tup [.int ((n[0] + g * n[1]) % p)]) := upd_same
      generalize upd Hx q (.tup [.int ((n[0] + g * n[1]) % p)]) = Hy at gq eq ⊢
      have hu2 := gq _ _ hu
      have hnl : 2 ≤ (n.map V.int).length := by rw [List.length_map]; omega
      have ncut : ¬ (HT.sIx (n.map V.int).length 0 (some 2) = 0 ∧ HT.sIx (n.map V.int).length (n.map V.int).length none = (n.map V.int).length) := by
        rw [show (some (2 : Int)) = some ((2 : Nat) : Int) from rfl, HT.sIx_nat, Nat.min_eq_left hnl]
        omega
      refine ⟨_, rfl, _, rfl, u, _, rfl, SqT.of hu2, fun c => absurd c ncut, fun _ r hr => ?_⟩
      rw [cut_from2 _ hnl, ← List.map_drop]
      have gr := same_new hr (.tup ((n.drop 2).map V.int))
      have er : upd Hy r (.tup ((n.drop 2).map V.int)) r = some (.tup ((n.drop 2).map V.int)) := upd_same
      generalize upd Hy r (.tup ((n.drop 2).map V.int)) = Hz at gr er ⊢
      have eq2 := gr _ _ eq
      refine ⟨q, r, _, _, rfl, rfl, SqT.of eq2, SqT.of er, ?_, fun c => (by cases c), fun _ c => ?_, fun _ _ w hw => ?_⟩
      · rw [List.length_map, List.length_drop]
        exact Nat.le_of_lt (small1000 (by show 1 + (n.length - 2) ≤ 1000; omega))
      · refine next Hz _ (gq.trans gr) ⟨q, rfl, ?_⟩
        rw [em, List.map_cons, c]
        exact eq2
      · refine next _ _ (gq.trans (gr.trans (same_new hw _))) ⟨w, rfl, ?_⟩
        rw [em, upd_same]
        rfl
    rintro Hx ⟨gs, ys, eD, hI⟩
    have e0 : ns.take xs.length = ns := by rw [h3.len]; exact List.take_length
    rw [e0] at hI
    refine ⟨_, rfl, D, _, rfl, .inr (SqL.of eD), init_of (d := d + 1) (Its.ars hI) (by omega) (fun n hn => ?_) (by rw [List.length_map]; exact hl) fun x H' g4 hx => k x H' (gs.trans g4) hx⟩
    obtain ⟨m0, hm, rfl⟩ := List.mem_map.mp hn
    exact mrg_ok p0 p1 (ho m0 hm)
theorem ok_m_product (T : Txt K mg) : FnOk P w K mg base CX0 1 T.f_m_product T.fd_m_product ["self", "worth", "p"] (spProduct T) := by
  refine T.F_m_product.ok sc_m_product (fun vs H Q E h => ?_) (fun cdv A outer s H vs Q E hr h => ?_)
  · obtain ⟨a, ns, z, p, rfl, _⟩ := h
    rfl
  · obtain ⟨a, ns, z, p, rfl, hbag, p0, p1, ho, k⟩ := h
    refine ⟨_, (pss_cons (ps_set (i := 3) sc_m_product.nd rfl (Or.inl rfl) pe_int)
      (pss_cons (ps_for PassesOwn.never rfl (pi_tup (pe_fld (pv 0) rfl)) (pg_name (i := 4) sc_m_product.nd rfl (Or.inl rfl)) (pss_one (ps_set (i := 3) sc_m_product.nd rfl (Or.inl rfl) (pe_op op_mod (pe_op op_mul (pv 3) (pe_op op_sub (pv 1) (pe_ix ix_tup (pv 4) pe_int (fun _ _ => rfl)))) (pv 2)))))
      (pss_one (ps_ret (pv 3))))), ?_⟩
    obtain ⟨dx, m, xs, h1, h2, hty, h3⟩ := hbag.memb
    refine ⟨_, rfl, a, _, dx, _, _, rfl, h1, T.cl, T.n__members, rfl, m, rfl, ⟨_, h2⟩, for_tup (K := K) (a := m) (xs := xs) (fun i σ Hx => Hx = H ∧ ∃ v, σ = [some (.ref a), some (.int z), some (.int p), some (.int (prd p z (ns.take i))), v])
      ⟨rfl, _, rfl⟩ (fun i σ Hx _ ⟨e, _⟩ => by rw [e]; exact h2) ?_ ?_⟩
    · rintro i y σ Hx hi ⟨rfl, v, rfl⟩
      obtain ⟨n, hn, u, rfl, hu⟩ := h3.at_ hi
      obtain ⟨o1, o2⟩ := ho n (List.mem_of_getElem? hn)
      have z0 : n[0]? = some n[0] := List.getElem?_eq_getElem (by omega)
      have hB : B10 = 10000000000 := rfl
      obtain ⟨t0, t1⟩ := prd_bd (z := z) p0 p1 (ns.take i)
      refine ⟨_, rfl, _, rfl, _, rfl, u, _, _, _, rfl, rfl, SqT.of hu, at_nat z0, _, _, rfl, rfl, _, _, rfl, rfl, .inl ⟨by omega, by omega⟩, _, rfl, _, _, rfl, rfl, p0, rfl, some (.ref u), ?_⟩
      rw [prd_take hn]
      unfold stepP
      rw [getD_of z0]
      rfl
    · rintro σ Hx ⟨rfl, v, rfl⟩
      refine ⟨_, rfl, ?_⟩
      rw [h3.len, List.take_length]
      exact k
end
end K0

set_option maxRecDepth 100000
set_option maxHeartbeats 4000000
namespace K0
open PySem L2 BM BR

def spBag {K : PySem.W.Frag} {mg : Str → Option Value} (T : Txt K mg) : Sp := fun vs H Q _ => ∃ (b l : Addr) (ns : List (List Int)) (d : Nat), vs = [.ref b, .ref l] ∧ BoxAt H b ∧ Ls H l ns ∧ 1 ≤ d ∧ (∀ n ∈ ns, Ok d n) ∧ ns.length < 60 ∧
  ∀ (x : Addr) H', BoxAt H' b → Keep b H H' → BagAt T H' x (srt ns) → Q (.ref x) H'
theorem fit_ok {i : Int} (h : 0 ≤ i) (g : i < 1000000) : Builtin.Range.rangeFitsLong i = true := by
  unfold Builtin.Range.rangeFitsLong
  rw [decide_eq_true (by omega), decide_eq_true (by omega)]
  rfl
theorem rs2 (m : Nat) : Builtin.Range.rangeSize 0 (m : Int) 2 = if 0 < (m : Int) then ((m : Int) - 0 - 1) / 2 + 1 else 0 := by
  unfold Builtin.Range.rangeSize
  simp only [show ((2 : Int) > 0) by decide, if_true]
theorem rgc2 (m : Nat) (h : m < 1000) : RgC 0 (m : Int) 2 ((m + 1) / 2) := by
  refine ⟨by decide, by decide, ?_, ?_⟩
  · have e := rs2 m
    generalize hs : Builtin.Range.rangeSize 0 (m : Int) 2 = sz at e
    have b0 : 0 ≤ sz ∧ sz < 1000 := by
      rw [e]
      split <;> omega
    unfold Builtin.Range.small
    rw [hs]
    rw [if_pos (by decide), fit_ok (by decide) (by decide), fit_ok (by omega) (by omega), fit_ok (by decide) (by decide), fit_ok (by omega) (by omega), fit_ok (by omega) (by omega), Bool.or_true]
    rfl
  · rw [rs2]
    split <;> omega
theorem srt_nil : srt [] = [] := by unfold srt; simp
theorem srt_app {d : Nat} {l m : List (List Int)} (h : ∀ n ∈ l ++ m, Ok d n) : srt (srt l ++ srt m) = srt (l ++ m) := by
  have p : (srt l ++ srt m).Perm (l ++ m) := (srt_perm l).append (srt_perm m)
  exact srt_eq (fun a ha => h a (p.mem_iff.mp ha)) p
theorem Its.at' {H : Hp} {xs : List V} {ns : List (List Int)} (h : Its H xs ns) {i : Nat} (hi : i < ns.length) : ∃ x n, xs[i]? = some x ∧ ns[i]? = some n ∧ TI H x n := by
  have e : xs[i]? = some _ := List.getElem?_eq_getElem (by rw [h.len]; exact hi)
  obtain ⟨n, e2, t⟩ := h.at_ e
  exact ⟨_, n, e, e2, t⟩
theorem atI_ix {xs : List V} {i : Nat} {v : V} (h : xs[i]? = some v) : atI xs ((i : Nat) : Int) = some v := atI_nat h
section
variable {P : Program} {w : World} {K : PySem.W.Frag} {mg : Str → Option Value} {base : Heap}
theorem ok_bag (T : Txt K mg) : FnOk P w K mg base CX0 5 T.f_bag T.fd_bag ["box", "items"] (spBag T) := by
  refine T.F_bag.ok sc_bag (fun vs H Q E h => ?_) (fun cdv A outer s H vs Q E hr h => ?_)
  · obtain ⟨b, l, ns, d, rfl, _⟩ := h
    rfl
  · obtain ⟨b, l, ns, d, rfl, hB, hL, hd, ho, hl60, k⟩ := h
    refine ⟨_, (pss_cons (ps_par (i := 2) (j := 3) (by rfl) sc_bag.nd rfl rfl (by decide) rfl rfl (pa_cons (pe_call (ok_draw T) (hr.mono (by decide)) (by rfl) T.g_draw T.F_draw.kp T.b_draw .nil pass0 (pa_cons (pv 0) (pa_cons pe_int pa_nil))) (pa_cons (BR.pe_makeR0 T.mk_ (ok_init T) (hr.mono (by decide)) (by rfl) T.gC_Bag pass0) pa_nil)) (by rfl))
      (C8.pss_cut (ps_if (PW.pt (pw_and (pt_cmpR op_gt (pv 2) pe_int (nomark _)) (pw_and1 (pt_cmpR op_eq (pe_callB call_len_seq (by rfl) T.z_len PySem.boot_len (pa_cons (pv 1) pa_nil)) pe_int (nomark _))))) (pss_one (ps_ret (StX.pe_makeR T.mk_ (ok_init T) (hr.mono (by decide)) (by rfl) T.gC_Bag pass0 (pa_cons (pe_ix ix_list (pv 1) pe_int (fun _ _ => rfl)) pa_nil)))) pss_nil)
      (C8.pss_cut (ps_if (PW.pt (pw_and (pt_cmpR op_gt (pv 2) pe_int (nomark _)) (pw_and1 (pt_cmpR op_eq (pe_callB call_len_seq (by rfl) T.z_len PySem.boot_len (pa_cons (pv 1) pa_nil)) pe_int (nomark _))))) (pss_one (ps_ret (StX.pe_makeR T.mk_ (ok_init T) (hr.mono (by decide)) (by rfl) T.gC_Bag pass0 (pa_cons (pe_ix ix_list (pv 1) pe_int (fun _ _ => rfl)) (pa_cons (pe_ix ix_list (pv 1) pe_int (fun _ _ => rfl)) pa_nil))))) pss_nil)
      (C8.pss_cut (ps_if (PW.pt (pw_and (pt_cmpR op_gt (pv 2) pe_int (nomark _)) (pw_and1 (pt_cmpR op_eq (pe_callB call_len_seq (by rfl) T.z_len PySem.boot_len (pa_cons (pv 1) pa_nil)) pe_int (nomark _))))) (pss_one (ps_ret (StX.pe_makeR T.mk_ (ok_init T) (hr.mono (by decide)) (by rfl) T.gC_Bag pass0 (pa_cons (pe_ix ix_list (pv 1) pe_int (fun _ _ => rfl)) (pa_cons (pe_ix ix_list (pv 1) pe_int (fun _ _ => rfl)) (pa_cons (pe_ix ix_list (pv 1) pe_int (fun _ _ => rfl)) pa_nil)))))) pss_nil)
      (C8.pss_cut (ps_if (PW.pt (pw_and (pt_cmpR op_gt (pv 2) pe_int (nomark _)) (pw_and1 (pt_cmpR op_eq (pe_callB call_len_seq (by rfl) T.z_len PySem.boot_len (pa_cons (pv 1) pa_nil)) pe_int (nomark _))))) (pss_one (ps_ret (StX.pe_makeR T.mk_ (ok_init T) (hr.mono (by decide)) (by rfl) T.gC_Bag pass0 (pa_cons (pe_ix ix_list (pv 1) pe_int (fun _ _ => rfl)) (pa_cons (pe_ix ix_list (pv 1) pe_int (fun _ _ => rfl)) (pa_cons (pe_ix ix_list (pv 1) pe_int (fun _ _ => rfl)) (pa_cons (pe_ix ix_list (pv 1) pe_int (fun _ _ => rfl)) pa_nil))))))) pss_nil)
      (C8.pss_cut (ps_if (PW.pt (pw_and (pt_cmpR op_gt (pv 2) pe_int (nomark _)) (pw_and1 (pt_cmpR op_eq (pe_callB call_len_seq (by rfl) T.z_len PySem.boot_len (pa_cons (pv 1) pa_nil)) pe_int (nomark _))))) (pss_one (ps_ret (StX.pe_makeR T.mk_ (ok_init T) (hr.mono (by decide)) (by rfl) T.gC_Bag pass0 (pa_cons (pe_ix ix_list (pv 1) pe_int (fun _ _ => rfl)) (pa_cons (pe_ix ix_list (pv 1) pe_int (fun _ _ => rfl)) (pa_cons (pe_ix ix_list (pv 1) pe_int (fun _ _ => rfl)) (pa_cons (pe_ix ix_list (pv 1) pe_int (fun _ _ => rfl)) (pa_cons (pe_ix ix_list (pv 1) pe_int (fun _ _ => rfl)) pa_nil)))))))) pss_nil)
      (pss_cons (ps_for PassesOwn.never rfl (pi_range3 (by rfl) T.z_range (pa_cons pe_int (pa_cons (pe_callB call_len_seq (by rfl) T.z_len PySem.boot_len (pa_cons (pv 1) pa_nil)) (pa_cons pe_int pa_nil)))) (pg_name (i := 4) sc_bag.nd rfl (Or.inl rfl)) (pss_one (ps_if (pt_cmpR op_lt (pe_op op_add (pv 4) pe_int) (pe_callB call_len_seq (by rfl) T.z_len PySem.boot_len (pa_cons (pv 1) pa_nil)) (nomark _)) (pss_one (ps_set (i := 3) sc_bag.nd rfl (Or.inl rfl) (pe_op (OV.op_bin (op := .Add) T.sf T.f_add T.n_add ((ok_m_add T).raw T.b_m_add .nil) (hr.mono (by decide)) pass0) (pv 3) (StX.pe_makeR T.mk_ (ok_init T) (hr.mono (by decide)) (by rfl) T.gC_Bag pass0 (pa_cons (pe_ix ix_list (pv 1) (pv 4) (fun _ _ => rfl)) (pa_cons (pe_ix ix_list (pv 1) (pe_op op_add (pv 4) pe_int) (fun _ _ => rfl)) pa_nil)))))) (pss_one (ps_set (i := 3) sc_bag.nd rfl (Or.inl rfl) (pe_op (OV.op_bin (op := .Add) T.sf T.f_add T.n_add ((ok_m_add T).raw T.b_m_add .nil) (hr.mono (by decide)) pass0) (StX.pe_makeR T.mk_ (ok_init T) (hr.mono (by decide)) (by rfl) T.gC_Bag pass0 (pa_cons (pe_ix ix_list (pv 1) (pv 4) (fun _ _ => rfl)) pa_nil)) (pv 3)))))))
      (pss_one (ps_ret (pv 3)))))))))), ?_⟩
    refine ⟨_, rfl, b, _, rfl, by decide, by decide, hB, fun w H1 w0 w1 hB1 hK1 => ?_⟩
    refine init_of (ns := []) (d := 1) .nil (by decide) (fun _ z => nomatch z) (by decide) fun m0 H2 g1 hm0 => ⟨_, _, rfl, ?_⟩
    rw [srt_nil] at hm0
    have hB2 := hB1.same g1
    have hK2 := hK1.trans (Keep.of_same g1)
    obtain ⟨xs, eL, hI⟩ := hL.keep hB hK2
    clear hB1 hK1 g1
    
    refine ⟨fun σ Hx => σ = [some (.ref b), some (.ref l), some (.int w), some (.ref m0), none] ∧ H2 = Hx, ?_, ?_⟩
    · refine ⟨_, rfl, _, _, rfl, rfl, _, rfl, ite2 (fun c => ?_) (fun c => ⟨rfl, rfl⟩)⟩
      refine ⟨_, rfl, l, xs, rfl, .inl (SqL.of eL), rfl, _, rfl, ite2 (fun c2 => ?_) (fun c2 => ⟨rfl, rfl⟩)⟩
      have c3 : xs.length = 1 := by
        have := V.int.inj (of_decide_eq_true c2)
        omega
      match xs, ns, hI, c3 with
      | [x0], [n0], hI, _ =>
        refine ⟨_, rfl, l, _, _, _, rfl, rfl, SqL.of eL, rfl, init_of (d := d) hI.ars hd ho (by show 1 < 64; decide) fun x H' g hx => k x H' (hB2.same g) (hK2.trans (Keep.of_same g)) hx⟩
    rintro σ Hx ⟨rfl, rfl⟩
    refine ⟨fun σ Hx => σ = [some (.ref b), some (.ref l), some (.int w), some (.ref m0), none] ∧ H2 = Hx, ?_, ?_⟩
    · refine ⟨_, rfl, _, _, rfl, rfl, _, rfl, ite2 (fun c => ?_) (fun c => ⟨rfl, rfl⟩)⟩
      refine ⟨_, rfl, l, xs, rfl, .inl (SqL.of eL), rfl, _, rfl, ite2 (fun c2 => ?_) (fun c2 => ⟨rfl, rfl⟩)⟩
      have c3 : xs.length = 2 := by
        have := V.int.inj (of_decide_eq_true c2)
        omega
      match xs, ns, hI, c3 with
      | [x0, x1], [n0, n1], hI, _ =>
        refine ⟨_, rfl, l, _, _, _, rfl, rfl, SqL.of eL, rfl, _, rfl, l, _, _, _, rfl, rfl, SqL.of eL, rfl, init_of (d := d) hI.ars hd ho (by show 2 < 64; decide) fun x H' g hx => k x H' (hB2.same g) (hK2.trans (Keep.of_same g)) hx⟩
    rintro σ Hx ⟨rfl, rfl⟩
    refine ⟨fun σ Hx => σ = [some (.ref b), some (.ref l), some (.int w), some (.ref m0), none] ∧ H2 = Hx, ?_, ?_⟩
    · refine ⟨_, rfl, _, _, rfl, rfl, _, rfl, ite2 (fun c => ?_) (fun c => ⟨rfl, rfl⟩)⟩
      refine ⟨_, rfl, l, xs, rfl, .inl (SqL.of eL), rfl, _, rfl, ite2 (fun c2 => ?_) (fun c2 => ⟨rfl, rfl⟩)⟩
      have c3 : xs.length = 3 := by
        have := V.int.inj (of_decide_eq_true c2)
        omega
      match xs, ns, hI, c3 with
      | [x0, x1, x2], [n0, n1, n2], hI, _ =>
        refine ⟨_, rfl, l, _, _, _, rfl, rfl, SqL.of eL, rfl, _, rfl, l, _, _, _, rfl, rfl, SqL.of eL, rfl, _, rfl, l, _, _, _, rfl, rfl, SqL.of eL, rfl, init_of (d := d) hI.ars hd ho (by show 3 < 64; decide) fun x H' g hx => k x H' (hB2.same g) (hK2.trans (Keep.of_same g)) hx⟩
    rintro σ Hx ⟨rfl, rfl⟩
    refine ⟨fun σ Hx => σ = [some (.ref b), some (.ref l), some (.int w), some (.ref m0), none] ∧ H2 = Hx, ?_, ?_⟩
    · refine ⟨_, rfl, _, _, rfl, rfl, _, rfl, ite2 (fun c => ?_) (fun c => ⟨rfl, rfl⟩)⟩
      refine ⟨_, rfl, l, xs, rfl, .inl (SqL.of eL), rfl, _, rfl, ite2 (fun c2 => ?_) (fun c2 => ⟨rfl, rfl⟩)⟩
      have c3 : xs.length = 4 := by
        have := V.int.inj (of_decide_eq_true c2)
        omega
      match xs, ns, hI, c3 with
      | [x0, x1, x2, x3], [n0, n1, n2, n3], hI, _ =>
        refine ⟨_, rfl, l, _, _, _, rfl, rfl, SqL.of eL, rfl, _, rfl, l, _, _, _, rfl, rfl, SqL.of eL, rfl, _, rfl, l, _, _, _, rfl, rfl, SqL.of eL, rfl, _, rfl, l, _, _, _, rfl, rfl, SqL.of eL, rfl, init_of (d := d) hI.ars hd ho (by show 4 < 64; decide) fun x H' g hx => k x H' (hB2.same g) (hK2.trans (Keep.of_same g)) hx⟩
    rintro σ Hx ⟨rfl, rfl⟩
    refine ⟨fun σ Hx => σ = [some (.ref b), some (.ref l), some (.int w), some (.ref m0), none] ∧ H2 = Hx, ?_, ?_⟩
    · refine ⟨_, rfl, _, _, rfl, rfl, _, rfl, ite2 (fun c => ?_) (fun c => ⟨rfl, rfl⟩)⟩
      refine ⟨_, rfl, l, xs, rfl, .inl (SqL.of eL), rfl, _, rfl, ite2 (fun c2 => ?_) (fun c2 => ⟨rfl, rfl⟩)⟩
      have c3 : xs.length = 5 := by
        have := V.int.inj (of_decide_eq_true c2)
        omega
      match xs, ns, hI, c3 with
      | [x0, x1, x2, x3, x4], [n0, n1, n2, n3, n4], hI, _ =>
        refine ⟨_, rfl, l, _, _, _, rfl, rfl, SqL.of eL, rfl, _, rfl, l, _, _, _, rfl, rfl, SqL.of eL, rfl, _, rfl, l, _, _, _, rfl, rfl, SqL.of eL, rfl, _, rfl, l, _, _, _, rfl, rfl, SqL.of eL, rfl, _, rfl, l, _, _, _, rfl, rfl, SqL.of eL, rfl, init_of (d := d) hI.ars hd ho (by show 5 < 64; decide) fun x H' g hx => k x H' (hB2.same g) (hK2.trans (Keep.of_same g)) hx⟩
    rintro σ Hx ⟨rfl, rfl⟩
    have hl := hI.len
    refine ⟨_, rfl, l, xs, rfl, .inl (SqL.of eL), 0, _, 2, _, rfl, rgc2 _ (by omega), for_rangeC (fun i σ Hx => ∃ (m : Addr) (v : Option V), σ = [some (.ref b), some (.ref l), some (.int w), some (.ref m), v] ∧ Same H2 Hx ∧ BagAt T Hx m (srt (ns.take (2 * i))))
      ⟨m0, none, rfl, Same.refl _, by rw [show 2 * 0 = 0 from rfl, List.take_zero, srt_nil]; exact hm0⟩ ?_ ?_⟩
    · rintro i σ Hx hi ⟨m, v, rfl, gs, hm⟩
      obtain ⟨dm, fm, em⟩ := hm.ins
      have hIx := hI.same gs
      have eLx := gs _ _ eL
      obtain ⟨x0, n0, ex0, en0, t0⟩ := hIx.at' (i := 2 * i) (by omega)
      have ei : (0 : Int) + (i : Nat) * 2 = ((2 * i : Nat) : Int) := by omega
      rw [ei]
      refine ⟨_, rfl, _, _, rfl, rfl, _, rfl, l, xs, rfl, .inl (SqL.of eLx), _, _, rfl, rfl, _, rfl, ite2 (fun c => ?_) (fun c => ?_)⟩
      · have c1 : ((2 * i : Nat) : Int) + 1 < ((xs.length : Nat) : Int) := of_decide_eq_true c
        obtain ⟨x1, n1, ex1, en1, t1⟩ := hIx.at' (i := 2 * i + 1) (by omega)
        have e2 : ns.take (2 * (i + 1)) = ns.take (2 * i) ++ [n0, n1] := by
          rw [show 2 * (i + 1) = 2 * i + 1 + 1 by omega, List.take_add_one, List.take_add_one, en0, en1, List.append_assoc]
          rfl
        have o2 : ∀ n ∈ [n0, n1], Ok d n := fun n hn => by
          rcases List.mem_cons.mp hn with rfl | hn
          · exact ho _ (List.mem_of_getElem? en0)
          · rcases List.mem_cons.mp hn with rfl | hn
            · exact ho _ (List.mem_of_getElem? en1)
            · cases hn
        refine ⟨_, rfl, _, rfl, _, rfl, l, _, _, _, rfl, rfl, SqL.of eLx, atI_ix ex0, _, rfl, _, rfl, _, _, rfl, rfl, l, _, _, _, rfl, rfl, SqL.of eLx, (atI_ix ex1 : atI xs (((2 * i + 1 : Nat) : Nat) : Int) = some x1), ?_⟩
        refine init_of (d := d) (Ars.cons t0.ar (.cons t1.ar .nil)) hd o2 (by show 2 < 64; decide) fun y Hy gy hy => ?_
        obtain ⟨dy, fy, ey⟩ := hy.ins
        refine ⟨m, y, dm, dy, fm, fy, rfl, rfl, gy _ _ em, ey, m, y, _, _, d, rfl, hm.same gy, hy, hd, srt_ok fun n hn => ho n (List.mem_of_mem_take hn), srt_ok o2, ?_, fun z Hz gz hz => ?_⟩
        · rw [srt_len, srt_len, List.length_take]
          show _ + 2 < 64
          omega
        · rw [srt_app (d := d) (by rw [← e2]; exact fun n hn => ho n (List.mem_of_mem_take hn)), ← e2] at hz
          exact ⟨z, _, rfl, gs.trans (gy.trans gz), hz⟩
      · have c1 : ¬ ((2 * i : Nat) : Int) + 1 < ((xs.length : Nat) : Int) := fun z => c (decide_eq_true z)
        have e2 : ns.take (2 * (i + 1)) = ns.take (2 * i) ++ [n0] := by
          rw [show 2 * (i + 1) = 2 * i + 1 + 1 by omega, List.take_add_one, List.take_add_one, en0, List.getElem?_eq_none (by omega), List.append_assoc]
          rfl
        have o2 : ∀ n ∈ [n0], Ok d n := fun n hn => by
          rcases List.mem_cons.mp hn with rfl | hn
          · exact ho _ (List.mem_of_getElem? en0)
          · cases hn
        refine ⟨_, rfl, _, rfl, l, _, _, _, rfl, rfl, SqL.of eLx, atI_ix ex0, ?_⟩
        refine init_of (d := d) (Ars.cons t0.ar .nil) hd o2 (by show 1 < 64; decide) fun y Hy gy hy => ?_
        obtain ⟨dy, fy, ey⟩ := hy.ins
        refine ⟨_, rfl, y, m, dy, dm, fy, fm, rfl, rfl, ey, gy _ _ em, y, m, _, _, d, rfl, hy, hm.same gy, hd, srt_ok o2, srt_ok fun n hn => ho n (List.mem_of_mem_take hn), ?_, fun z Hz gz hz => ?_⟩
        · rw [srt_len, srt_len, List.length_take]
          show 1 + _ < 64
          omega
        · have oo : ∀ n ∈ [n0] ++ ns.take (2 * i), Ok d n := fun n hn => by
            rcases List.mem_append.mp hn with hn | hn
            · exact o2 n hn
            · exact ho n (List.mem_of_mem_take hn)
          rw [srt_app (d := d) oo, srt_eq oo List.perm_append_comm, ← e2] at hz
          exact ⟨z, _, rfl, gs.trans (gy.trans gz), hz⟩
    · rintro σ Hx ⟨m, v, rfl, gs, hm⟩
      rw [List.take_of_length_le (by omega)] at hm
      exact ⟨_, rfl, k m Hx (hB2.same gs) (hK2.trans (Keep.of_same gs)) hm⟩
end
end K0

set_option maxRecDepth 100000
set_option maxHeartbeats 4000000
namespace K0
open PySem L2 BM BR

theorem BoxAt.upd {H1 H2 : Hp} {b D : Addr} {o : HO} (h1 : BoxAt H1 b) (hD : H1 D = none) (k : Keep b H1 H2) (h2 : BoxAt H2 b) : BoxAt (L2.upd H2 D o) b := by
  have nb := h1.ne hD
  obtain ⟨l, ns, pos, rest, seed, cnt, hb, hl, _⟩ := h1
  obtain ⟨l2, ns2, pos2, rest2, seed2, cnt2, hb2, hl2, q⟩ := h2
  obtain ⟨r', e⟩ := k.2 l _ hb
  rw [hb2] at e
  cases e
  have nl : D ≠ l := fun z => by
    rw [z, hl] at hD
    cases hD
  exact ⟨l, ns2, pos2, rest2, seed2, cnt2, by rw [upd_ne (Ne.symm nb)]; exact hb2, by rw [upd_ne (Ne.symm nl)]; exact hl2, q⟩
theorem Keep.at {H H2 : Hp} {b D : Addr} {o : HO} (hD : H D = none) (nb : D ≠ b) (k : Keep b H H2) : Keep b H (L2.upd H2 D o) :=
  ⟨fun x u n h => by rw [upd_ne (ne_of_none h hD)]; exact k.1 x u n h, fun l r h => by
    obtain ⟨r', e⟩ := k.2 l r h
    exact ⟨r', by rw [upd_ne (Ne.symm nb)]; exact e⟩⟩
theorem kNone {H H1 : Hp} {b f : Addr} (hB : BoxAt H1 b) (k : Keep b H H1) (h : H1 f = none) : H f = none := by
  cases e : H f with
  | none => rfl
  | some o =>
    have := k.1 f o (hB.ne h) e
    rw [h] at this
    cases this
theorem Its.upd {H : Hp} {f : Addr} {ys zs xs : List V} {ns : List (List Int)} (h : Its H xs ns) (e : H f = some (.lst ys)) : Its (L2.upd H f (.lst zs)) xs ns := h.mono fun x m ⟨q, e2, hq⟩ => ⟨q, e2, by
  rw [upd_ne]
  · exact hq
  · rintro rfl
    rw [e] at hq
    cases hq⟩
theorem TI.upd {H : Hp} {f : Addr} {ys zs : List V} {x : V} {n : List Int} (h : TI H x n) (e : H f = some (.lst ys)) : TI (L2.upd H f (.lst zs)) x n := by
  obtain ⟨q, e2, hq⟩ := h
  refine ⟨q, e2, ?_⟩
  rw [upd_ne]
  · exact hq
  · rintro rfl
    rw [e] at hq
    cases hq
theorem Ls.new {H : Hp} {f : Addr} {xs : List V} {ns : List (List Int)} (hf : H f = none) (h : Its H xs ns) : Ls (L2.upd H f (.lst xs)) f ns := ⟨xs, upd_same, h.same (same_new hf _)⟩
def spShuf : Sp := fun vs H Q _ => ∃ (b l : Addr) (ns : List (List Int)), vs = [.ref b, .ref l] ∧ BoxAt H b ∧ Ls H l ns ∧ ns.length < 60 ∧
  ∀ (f : Addr) (ms : List (List Int)) H', BoxAt H' b → Keep b H H' → ms.Perm ns → Ls H' f ms → Q (.ref f) H'
def spMrg : Sp := fun vs H Q _ => ∃ (l : Addr) (ns : List (List Int)) (g p : Int) (d : Nat), vs = [.ref l, .int g, .int p] ∧ Ls H l ns ∧ 0 < p ∧ p ≤ B10 ∧ d ≤ 100 ∧ (∀ n ∈ ns, Ok (d + 2) n) ∧ ns.length < 60 ∧
  ∀ (f : Addr) H', Same H H' → Ls H' f (srt (ns.map (mrg g p))) → Q (.ref f) H'
theorem perm_move {α : Type} {l : List α} {k j : Nat} {y : α} (h : l[k]? = some y) : ((l.eraseIdx k).take j ++ [y] ++ (l.eraseIdx k).drop j).Perm l := by
  have e : l = l.take k ++ y :: l.drop (k + 1) := by
    have hk := (List.getElem?_eq_some_iff.mp h).1
    have h2 := (List.getElem?_eq_some_iff.mp h).2
    rw [← h2, List.getElem_cons_drop, List.take_append_drop]
  have p1 : ((l.eraseIdx k).take j ++ [y] ++ (l.eraseIdx k).drop j).Perm (y :: l.eraseIdx k) := by
    rw [List.append_assoc]
    show ((l.eraseIdx k).take j ++ y :: (l.eraseIdx k).drop j).Perm (y :: l.eraseIdx k)
    refine (List.perm_middle).trans ?_
    rw [List.take_append_drop]
  refine p1.trans ?_
  rw [List.eraseIdx_eq_take_drop_succ]
  conv => rhs; rw [e]
  exact List.perm_middle.symm
section
variable {P : Program} {w : World} {K : PySem.W.Frag} {mg : Str → Option Value} {base : Heap}
theorem ok_shuffled (T : Txt K mg) : FnOk P w K mg base CX0 2 T.f_shuffled T.fd_shuffled ["box", "items"] (spShuf) := by
  refine T.F_shuffled.ok sc_shuffled (fun vs H Q E h => ?_) (fun cdv A outer s H vs Q E hr h => ?_)
  · obtain ⟨b, l, ns, rfl, _⟩ := h
    rfl
  · obtain ⟨b, l, ns, rfl, hB, hL, hl, k⟩ := h
    refine ⟨_, (pss_cons (ps_set (i := 2) sc_shuffled.nd rfl (Or.inl rfl) (pe_callTy call_listD (by rfl) T.z_list (by decide +kernel) (pa_cons (pv 1) pa_nil)))
      (pss_cons (ps_for PassesOwn.never rfl (pi_range1 (by rfl) T.z_range (pa_cons (pe_callB (call_min2 rfl) (by rfl) T.z_min (by decide +kernel) (pa_cons pe_int (pa_cons (pe_callB call_len_seq (by rfl) T.z_len PySem.boot_len (pa_cons (pv 2) pa_nil)) pa_nil))) pa_nil)) (pg_name (i := 3) sc_shuffled.nd rfl (Or.inl rfl)) (pss_cons (ps_set (i := 4) sc_shuffled.nd rfl (Or.inl rfl) (pe_bm PySem.F.plainAttrs_list PySem.F.slot_list_pop PySem.F.type_list_pop mt_popAt (pv 2) (pa_cons (pe_call (ok_draw T) (hr.mono (by decide)) (by rfl) T.g_draw T.F_draw.kp T.b_draw .nil pass0 (pa_cons (pv 0) (pa_cons (pe_callB call_len_seq (by rfl) T.z_len PySem.boot_len (pa_cons (pv 2) pa_nil)) pa_nil))) pa_nil)))
      (pss_one (ps_expr (pe_bm PySem.F.plainAttrs_list PySem.F.slot_list_insert PySem.F.type_list_insert mt_insert (pv 2) (pa_cons (pe_call (ok_draw T) (hr.mono (by decide)) (by rfl) T.g_draw T.F_draw.kp T.b_draw .nil pass0 (pa_cons (pv 0) (pa_cons (pe_op op_add (pe_callB call_len_seq (by rfl) T.z_len PySem.boot_len (pa_cons (pv 2) pa_nil)) pe_int) pa_nil))) (pa_cons (pv 4) pa_nil)))))))
      (pss_one (ps_ret (pv 2))))), ?_⟩
    obtain ⟨xs, eL, hI⟩ := id hL
    have hlen := hI.len
    refine ⟨_, rfl, l, xs, rfl, .inl (SqL.of eL), fun f hf => ?_⟩
    have g1 := same_new hf (.lst xs)
    have e1 : upd H f (.lst xs) f = some (.lst xs) := upd_same
    have nf := hB.ne hf
    have hB1 := hB.same g1
    have hI1 := hI.same g1
    generalize upd H f (.lst xs) = H1 at g1 e1 hB1 hI1 ⊢
    have hbd : 0 ≤ (if ((xs.length : Nat) : Int) < 4 then ((xs.length : Nat) : Int) else 4) ∧ (if ((xs.length : Nat) : Int) < 4 then ((xs.length : Nat) : Int) else 4) ≤ 4 ∧ (0 < (if ((xs.length : Nat) : Int) < 4 then ((xs.length : Nat) : Int) else 4) → 0 < xs.length) := by split <;> omega
    refine ⟨_, rfl, f, xs, rfl, .inl (SqL.of e1), _, _, rfl, _, rfl, ?_, ?_, for_range (lo := 0) (fun i σ Hx => ∃ (v3 v4 : Option V) (ms : List (List Int)) (ys : List V), σ = [some (.ref b), some (.ref l), some (.ref f), v3, v4] ∧ BoxAt Hx b ∧ Keep b H Hx ∧ ms.Perm ns ∧ Hx f = some (.lst ys) ∧ Its Hx ys ms)
      ⟨none, none, ns, xs, rfl, hB1, Keep.of_same g1, .refl _, e1, hI1⟩ ?_ ?_⟩
    · exact Int.le_trans (by decide) hbd.1
    · exact Int.lt_of_le_of_lt hbd.2.1 (by decide)
    · rintro i σ Hx hi ⟨v3, v4, ms, ys, rfl, hBx, hKx, hp, ef, hIx⟩
      have hi2 : (i : Int) < (if ((xs.length : Nat) : Int) < 4 then ((xs.length : Nat) : Int) else 4) := by omega
      have hpos := hbd.2.2 (by omega)
      have ly : ys.length = ns.length := by rw [hIx.len, hp.length_eq]
      refine ⟨_, rfl, .inl ⟨rfl, _, SqL.of ef⟩, _, rfl, _, rfl, f, ys, rfl, .inl (SqL.of ef), b, _, rfl, ?_, ?_, hBx, fun dr H2 d0 d1 hB2 hK2 => ?_⟩
      · omega
      · omega
      have ef2 : H2 f = some (.lst ys) := hK2.1 _ _ nf ef
      have hI2 := hIx.keep hBx hK2
      have hK02 := hKx.trans hK2
      have ey : ys[dr.toNat]? = some ys[dr.toNat] := List.getElem?_eq_getElem (by omega)
      refine ⟨f, ys, dr, dr.toNat, _, rfl, rfl, ef2, by omega, by omega, PySem.seqIndex_of d0 d1, ey, ?_⟩
      generalize hy : ys[dr.toNat] = y at ey ⊢
      obtain ⟨n, hn, ty⟩ := hI2.at_ ey
      have hI3 : Its (upd H2 f (.lst (ys.eraseIdx dr.toNat))) (ys.eraseIdx dr.toNat) (ms.eraseIdx dr.toNat) := (hI2.eraseIdx _).upd ef2
      have ty3 : TI (upd H2 f (.lst (ys.eraseIdx dr.toNat))) y n := ty.upd ef2
      have hB3 : BoxAt (upd H2 f (.lst (ys.eraseIdx dr.toNat))) b := BoxAt.upd hB hf hK02 hB2
      have hK3 : Keep b H (upd H2 f (.lst (ys.eraseIdx dr.toNat))) := Keep.at hf nf hK02
      have e3 : upd H2 f (.lst (ys.eraseIdx dr.toNat)) f = some (.lst (ys.eraseIdx dr.toNat)) := upd_same
      generalize upd H2 f (.lst (ys.eraseIdx dr.toNat)) = H3 at hI3 ty3 hB3 hK3 e3 ⊢
      have le : (ys.eraseIdx dr.toNat).length = ys.length - 1 := List.length_eraseIdx_of_lt (by omega)
      refine ⟨_, rfl, .inl ⟨rfl, _, SqL.of e3⟩, _, rfl, _, rfl, f, _, rfl, .inl (SqL.of e3), _, _, rfl, rfl, b, _, rfl, by omega, by omega, hB3, fun dj H4 j0 j1 hB4 hK4 => ?_⟩
      have e4 : H4 f = some (.lst (ys.eraseIdx dr.toNat)) := hK4.1 _ _ nf e3
      have hK04 := hK3.trans hK4
      refine ⟨_, rfl, f, _, dj, y, rfl, rfl, e4, small1000 (by omega), j0, by omega, ?_⟩
      refine ⟨_, _, _, _, rfl, BoxAt.upd hB hf hK04 hB4, Keep.at hf nf hK04, (perm_move (j := dj.toNat) hn).trans hp, upd_same, ?_⟩
      have hI4 := hI3.keep hB3 hK4
      have ty4 := kTI hB3 hK4 ty3
      exact (((hI4.take dj.toNat).append (.cons ty4 .nil)).append (hI4.drop dj.toNat)).upd e4
    · rintro σ Hx ⟨v3, v4, ms, ys, rfl, hBx, hKx, hp, ef, hIx⟩
      exact ⟨_, rfl, k f ms Hx hBx hKx hp ⟨ys, ef, hIx⟩⟩
theorem ok_merge (T : Txt K mg) : FnOk P w K mg base CX0 1 T.f_merge T.fd_merge ["items", "gain", "prime"] (spMrg) := by
  refine T.F_merge.ok sc_merge (fun vs H Q E h => ?_) (fun cdv A outer s H vs Q E hr h => ?_)
  · obtain ⟨l, ns, g, p, d, rfl, _⟩ := h
    rfl
  · obtain ⟨l, ns, g, p, c0, rfl, hL, p0, p1, hd100, ho, hl, k⟩ := h
    obtain ⟨d, ed⟩ : ∃ d, d = c0 + 1 := ⟨_, rfl⟩
    have hd : 1 ≤ d := by omega
    refine ⟨_, (pss_cons (ps_set (i := 3) sc_merge.nd rfl (Or.inl rfl) (pe_lst pa_nil))
      (pss_cons (ps_for PassesOwn.never rfl (pi_list (pv 0)) (pg_name (i := 4) sc_merge.nd rfl (Or.inl rfl)) (pss_one (ps_expr (pe_bm PySem.F.plainAttrs_list PySem.F.slot_list_append PySem.F.type_list_append mt_append (pv 3) (pa_cons (pe_op op_catA (pe_tup (pa_cons (pe_op op_mod (pe_callTy call_int1 (by rfl) T.z_int (by decide +kernel) (pa_cons (pe_op op_add (pe_ix ix_tup (pv 4) pe_int (fun _ _ => rfl)) (pe_op op_mul (pv 1) (pe_ix ix_tup (pv 4) pe_int (fun _ _ => rfl)))) pa_nil)) (pv 2)) pa_nil)) (pe_callTy (T := "tuple") call_tupleD (by rfl) T.z_tuple (by decide +kernel) (pa_cons (pe_slice sl_tupA (pv 4) (po_some pe_int) po_none) pa_nil))) pa_nil)))))
      (pss_one (ps_ret (pe_callB (cr_sortT (d := d) (B := B10) hd) (by rfl) T.z_sorted (by decide +kernel) (pa_cons (pv 3) pa_nil)))))), ?_⟩
    obtain ⟨xs, eL, hI⟩ := id hL
    have hlen := hI.len
    refine ⟨(by show 0 ≤ sizeLine; decide), fun D hD => ?_⟩
    have g0 := same_new hD (.lst [])
    have e0 : upd H D (.lst []) D = some (.lst []) := upd_same
    generalize upd H D (.lst []) = H0 at g0 e0 ⊢
    refine ⟨_, rfl, l, rfl, ⟨_, SqL.of (g0 _ _ eL)⟩, for_list (K := K) (a := l) (xs := xs) (fun i σ Hx => ∃ v4, σ = [some (.ref l), some (.int g), some (.int p), some (.ref D), v4] ∧ Same H Hx ∧ Ls Hx D ((ns.take i).map (mrg g p)))
      ⟨none, rfl, g0, [], e0, .nil⟩ (fun i σ Hx _ ⟨_, _, gs, _⟩ => SqL.of (gs _ _ eL)) ?_ ?_⟩
    · rintro i z σ Hx hi ⟨v4, rfl, gs, ys, eD, hIy⟩
      obtain ⟨n, hn, u, rfl, hu⟩ := (hI.same gs).at_ hi
      obtain ⟨o1, o2⟩ := ho n (List.mem_of_getElem? hn)
      have hlen := hIy.len
      rw [List.length_map, List.length_take] at hlen
      have z0 : n[0]? = some n[0] := List.getElem?_eq_getElem (by omega)
      have z1 : n[1]? = some n[1] := List.getElem?_eq_getElem (by omega)
      have hB : B10 = 10000000000 := rfl
      have b1 := o2 _ (List.getElem_mem (l := n) (n := 1) (by omega))
      have em : mrg g p n = (n[0] + g * n[1]) % p :: n.drop 2 := by
        unfold mrg
        rw [getD_of z0, getD_of z1]
      refine ⟨_, rfl, .inl ⟨rfl, _, SqL.of eD⟩, _, rfl, u, _, _, _, rfl, rfl, SqT.of hu, at_nat z0, _, rfl, _, rfl, u, _, _, _, rfl, rfl, SqT.of hu, at_nat z1, _, _, rfl, rfl, .inr ⟨by omega, by omega⟩, _, _, rfl, rfl, .inl ⟨_, rfl, _, rfl, _, _, rfl, rfl, p0, (by show 1 ≤ sizeLine; decide), fun q hq => ?_⟩⟩
      have gq := same_new hq (.tup [.int ((n[0] + g * n[1]) % p)])
      have eq : upd Hx q (.tup [.int ((n[0] + g * n[1]) % p)]) q = some (.tup [.int ((n[0] + g * n[1]) % p)]) := upd_same
      generalize upd Hx q (.tup [.int ((n[0] + g * n[1]) % p)]) = Hy at gq eq ⊢
      have hu2 := gq _ _ hu
      have hnl : 2 ≤ (n.map V.int).length := by rw [List.length_map]; omega
      have ncut : ¬ (HT.sIx (n.map V.int).length 0 (some 2) = 0 ∧ HT.sIx (n.map V.int).length (n.map V.int).length none = (n.map V.int).length) := by
        rw [show (some (2 : Int)) = some ((2 : Nat) : Int) from rfl, HT.sIx_nat, Nat.min_eq_left hnl]
        omega
      have next : ∀ (Hy : Hp) (v : V), Same Hx Hy → TI Hy v (mrg g p n) → Hy D = some (.lst ys) ∧ ys.length < sizeLine ∧ Same H (upd Hy D (.lst (ys ++ [v]))) ∧ Ls (upd Hy D (.lst (ys ++ [v]))) D ((ns.take (i + 1)).map (mrg g p)) := fun Hy v gy tv => by
        refine ⟨gy _ _ eD, small1000 (by omega), fun y o e => ?_, ?_⟩
        · rw [upd_ne (ne_of_none e hD)]
          exact gy _ _ (gs _ _ e)
        · rw [List.take_add_one, hn, List.map_append]
          exact Ls.snoc (gy _ _ eD) (hIy.same gy) tv
      refine ⟨_, rfl, _, rfl, u, _, rfl, SqT.of hu2, fun c => absurd c ncut, fun _ r hr => ?_⟩
      rw [cut_from2 _ hnl, ← List.map_drop]
      have gr := same_new hr (.tup ((n.drop 2).map V.int))
      have er : upd Hy r (.tup ((n.drop 2).map V.int)) r = some (.tup ((n.drop 2).map V.int)) := upd_same
      generalize upd Hy r (.tup ((n.drop 2).map V.int)) = Hz at gr er ⊢
      have eq2 := gr _ _ eq
      refine ⟨r, _, rfl, .inr ⟨SqT.of er, q, r, _, _, rfl, rfl, SqT.of eq2, SqT.of er, ?_, fun c => (by cases c), fun _ c => ?_, fun _ _ w hw => ?_⟩⟩
      · rw [List.length_map, List.length_drop]
        exact Nat.le_of_lt (small1000 (by show 1 + (n.length - 2) ≤ 1000; omega))
      · obtain ⟨a1, a2, a3, a4⟩ := next Hz (.ref q) (gq.trans gr) ⟨q, rfl, by
          rw [em, List.map_cons, c]
          exact eq2⟩
        exact ⟨D, _, _, rfl, rfl, a1, a2, _, rfl, a3, a4⟩
      · obtain ⟨a1, a2, a3, a4⟩ := next _ (.ref w) (gq.trans (gr.trans (same_new hw _))) ⟨w, rfl, by
          rw [em]
          exact upd_same⟩
        exact ⟨D, _, _, rfl, rfl, a1, a2, _, rfl, a3, a4⟩
    rintro σ Hx ⟨v4, rfl, gs, ys, eD, hIy⟩
    have e1 : ns.take xs.length = ns := by rw [hlen]; exact List.take_length
    rw [e1] at hIy
    have hok : ∀ n ∈ ns.map (mrg g p), Ok d n := fun n hn => by
      obtain ⟨m0, hm, rfl⟩ := List.mem_map.mp hn
      rw [ed]
      exact mrg_ok p0 p1 (ho m0 hm)
    refine ⟨_, rfl, D, ys, rfl, SqL.of eD, by rw [hIy.len, List.length_map]; omega, fun x hx => ?_, fun zs q hp hs hq => ?_⟩
    · obtain ⟨n, hn, t⟩ := hIy.mem hx
      obtain ⟨o1, o2⟩ := hok n hn
      exact ⟨n, t.up, o1, o2⟩
    obtain ⟨ms, hm, hJ⟩ := Its.perm hp hIy
    have em : ms = srt (ns.map (mrg g p)) := srt_of hok hm (hJ.asc hs)
    subst em
    exact k q _ (gs.trans (same_new hq _)) ⟨zs, upd_same, hJ.same (same_new hq _)⟩
end
end K0

set_option maxRecDepth 100000
set_option maxHeartbeats 4000000
namespace K0
open PySem L2 BM BR

theorem eB {K : PySem.W.Frag} {b : Addr} {H : Hp} {n : Nat} {x y : Bool} (e : x = y) : EqV K b H n (.bl x) (.bl y) := by
  subst e
  exact EqV.sc (x := .bl x) trivial
theorem eI {K : PySem.W.Frag} {b : Addr} {H : Hp} {n : Nat} {x y : Int} (e : x = y) : EqV K b H n (.int x) (.int y) := by
  subst e
  exact EqV.sc (x := .int x) trivial
theorem eS {K : PySem.W.Frag} {b : Addr} {H : Hp} {n : Nat} {x y : Str} (e : x = y) : EqV K b H n (.str x) (.str y) := by
  subst e
  exact EqV.sc (x := .str x) trivial
theorem eLs {K : PySem.W.Frag} {b : Addr} {H : Hp} {l m : Addr} {ns : List (List Int)} {d : Nat} (hb : BoxAt H b) (h : Ls H l ns) (g : Ls H m ns) (ho : ∀ n ∈ ns, Ok d n) (hd : d ≤ 1000) (hn : ns.length ≤ 1000) : EqV K b H 7 (.ref l) (.ref m) :=
  eqv_up (ls_eqv hb h g (fun n hm => by rw [(ho n hm).1]; exact hd) hn) (by decide)
theorem BagAt.ins2 {K : PySem.W.Frag} {mg : Str → Option Value} {T : Txt K mg} {H : Hp} {a : Addr} {ns : List (List Int)} (h : BagAt T H a ns) : ∃ dx m, H a = some (.ins T.C_Bag dx [("_members", .ref m)]) := by
  obtain ⟨dx, m, xs, h1, _⟩ := h
  exact ⟨dx, m, h1⟩
theorem txt_eq (n : Nat) : txtB n = Str.ofString "Bag(" ++ Str.ofString (toString (n : Int)) ++ Str.ofString " items)" := by
  unfold txtB
  have e : Str.empty ++ Str.ofString "Bag(" = Str.ofString "Bag(" := by decide +kernel
  rw [e]
theorem sorted_x {K : PySem.W.Frag} {H : Hp} {xs : List V} {ns : List (List Int)} {d : Nat} (hI : Its H xs ns) (ho : ∀ n ∈ ns, Ok d n) : ∀ x ∈ xs, ∃ ns, TupI K H x ns ∧ ns.length = d ∧ TS.Bd B10 ns := fun x hx => by
  obtain ⟨n, hn, t⟩ := hI.mem hx
  obtain ⟨o1, o2⟩ := ho n hn
  exact ⟨n, t.up, o1, o2⟩
theorem sorted_new {K : PySem.W.Frag} {H : Hp} {q : Addr} {xs zs : List V} {ns : List (List Int)} {d : Nat} (hI : Its H xs ns) (ho : ∀ n ∈ ns, Ok d n) (hp : zs.Perm xs) (hs : zs.Pairwise fun x y => ∀ n m, TupI K H x n → TupI K H y m → TS.code B10 n ≤ TS.code B10 m) (hq : H q = none) :
    Same H (upd H q (.lst zs)) ∧ Ls (upd H q (.lst zs)) q (srt ns) := by
  obtain ⟨ms, hm, hJ⟩ := Its.perm hp hI
  have em : ms = srt ns := srt_of ho hm (hJ.asc hs)
  subst em
  exact ⟨same_new hq _, zs, upd_same, hJ.same (same_new hq _)⟩
def spIsBag {K : PySem.W.Frag} {mg : Str → Option Value} (T : Txt K mg) : Sp := fun vs H Q _ => ∃ (b a l : Addr) (ns : List (List Int)) (d : Nat), vs = [.ref a, .ref l] ∧ BoxAt H b ∧ BagAt T H a (srt ns) ∧ Ls H l ns ∧ 1 ≤ d ∧ d ≤ 100 ∧ (∀ n ∈ ns, Ok d n) ∧ ns.length < 60 ∧ ∀ H', Same H H' → Q (.bl true) H'
section
variable {P : Program} {w : World} {K : PySem.W.Frag} {mg : Str → Option Value} {base : Heap}
theorem ok_is_bag (T : Txt K mg) : FnOk P w K mg base CX0 9 T.f_is_bag T.fd_is_bag ["found", "items"] (spIsBag T) := by
  refine T.F_is_bag.ok sc_is_bag (fun vs H Q E h => ?_) (fun cdv A outer s H vs Q E hr h => ?_)
  · obtain ⟨b, a, l, ns, d, rfl, _⟩ := h
    rfl
  · obtain ⟨b, a, l, ns, d, rfl, hB, hA, hL, hd, hd1, ho, hl, k⟩ := h
    refine ⟨_, (pss_cons (ps_if (PW.pt (pw_or (pt_not (pt_val (pe_callB call_isi (by rfl) T.z_isinstance (by decide +kernel) (pa_cons (pv 0) (pa_cons (pe_glob (v := .ref T.C_Bag) (by rfl) T.gC_Bag rfl) pa_nil))))) (pw_or1 (pt_not (pt_val (pe_call (ok_same T 8) (hr.mono (by decide)) (by rfl) T.g_same T.F_same.kp T.b_same .nil pass0 (pa_cons (pe_meth0 (pv 0) T.cl T.me_m_listed (ok_m_listed T) (hr.mono (by decide)) T.b_m_listed .nil pass0) (pa_cons (pe_callB (cr_sortT (d := d) (B := B10) hd) (by rfl) T.z_sorted (by decide +kernel) (pa_cons (pv 1) pa_nil)) pa_nil)))))))) (pss_one (ps_ret pe_bl)) pss_nil)
      (pss_cons (ps_if (pt_not (pt_val (pe_call (ok_same T 8) (hr.mono (by decide)) (by rfl) T.g_same T.F_same.kp T.b_same .nil pass0 (pa_cons (pe_callB (call_lenO T.f_len T.n_len ((ok_m_len T).raw T.b_m_len .nil) (hr.mono (by decide)) pass0) (by rfl) T.z_len PySem.boot_len (pa_cons (pv 0) pa_nil)) (pa_cons (pe_callB call_len_seq (by rfl) T.z_len PySem.boot_len (pa_cons (pv 1) pa_nil)) pa_nil))))) (pss_one (ps_ret pe_bl)) pss_nil)
      (pss_one (ps_ret (pe_call (ok_same T 8) (hr.mono (by decide)) (by rfl) T.g_same T.F_same.kp T.b_same .nil pass0 (pa_cons (pe_callB (OV.call_repr T.f_repr T.n_repr ((ok_m_repr T).raw T.b_m_repr .nil) (hr.mono (by decide)) pass0) (by rfl) T.z_repr (by decide +kernel) (pa_cons (pv 0) pa_nil)) (pa_cons (pe_op op_add_str (pe_op op_add_str pe_str (pe_callTy call_str_int (by rfl) T.z_str (by decide +kernel) (pa_cons (pe_callB call_len_seq (by rfl) T.z_len PySem.boot_len (pa_cons (pv 1) pa_nil)) pa_nil))) pe_str) pa_nil))))))), ?_⟩
    obtain ⟨dx, mm, h1⟩ := hA.ins2
    refine ⟨_, rfl, _, _, _, _, _, rfl, .own _, tyBag T hA, T.kk, _, rfl, iteF ?_⟩
    refine ⟨_, rfl, a, dx, _, rfl, h1, rfl, a, _, rfl, hA, fun f H1 g1 n1 e1 => ?_⟩
    obtain ⟨ys, eY, hJ⟩ := hL.same g1
    refine ⟨_, rfl, l, ys, rfl, SqL.of eY, by rw [hJ.len]; omega, sorted_x hJ ho, fun zs q hp hs hq => ?_⟩
    obtain ⟨g2, e2⟩ := sorted_new hJ ho hp hs hq
    generalize upd H1 q (.lst zs) = H2 at g2 e2 ⊢
    have g02 := g1.trans g2
    refine ⟨b, _, _, rfl, eLs (hB.same g02) (e1.same g2) e2 (srt_ok ho) (by omega) (by rw [srt_len]; omega), fun H3 g3 => ⟨_, rfl, iteF ?_⟩⟩
    have g03 := g02.trans g3
    obtain ⟨xs, eL, hI⟩ := hL.same g03
    have hlen := hI.len
    refine ⟨_, rfl, a, dx, _, rfl, g03 _ _ h1, a, _, rfl, hA.same g03, _, rfl, by omega, ?_, ?_⟩
    · rw [srt_len]
      exact Int.lt_trans (by omega : ((ns.length : Nat) : Int) < 64) (by decide)
    refine ⟨_, rfl, l, xs, rfl, .inl (SqL.of eL), b, _, _, rfl, eI (by rw [srt_len, hlen]), fun H4 g4 => ⟨_, rfl, iteF ?_⟩⟩
    have g04 := g03.trans g4
    refine ⟨_, rfl, a, dx, _, rfl, g04 _ _ h1, a, _, rfl, hA.same g04, by rw [srt_len]; omega, _, rfl, ?_⟩
    rw [srt_len]
    have hz := txt_len ns.length (by omega)
    have hs1 : 100 ≤ sizeLine := by decide
    have e0 : (Str.ofString "Bag(").length = 4 := by decide +kernel
    have e2 : (Str.ofString " items)").length = 7 := by decide +kernel
    rw [← hlen] at hz
    refine ⟨_, rfl, l, xs, rfl, .inl (SqL.of (g4 _ _ eL)), _, rfl, ?_, _, _, rfl, rfl, ?_, _, _, rfl, rfl, ?_, ?_⟩
    · exact Nat.lt_trans (PySem.Flt.log2_lt_of (by decide : 0 < 64) (by omega)) (by decide)
    · rw [e0]
      show 4 + (Str.ofString (toString (xs.length : Int))).length ≤ sizeLine
      omega
    · rw [Str.length_append, e0, e2]
      show 4 + (Str.ofString (toString (xs.length : Int))).length + 7 ≤ sizeLine
      omega
    · exact ⟨b, _, _, rfl, eS (by rw [← hlen]; exact txt_eq _), fun H5 g5 => k H5 (g04.trans g5)⟩
end
end K0

set_option maxRecDepth 100000
set_option maxHeartbeats 4000000
namespace K0
open PySem L2 BM BR

def spItems : Sp := fun vs H Q _ => ∃ (b : Addr) (p : Int) (d m : Nat), vs = [.ref b, .int p, .int (d : Nat), .int (m : Nat)] ∧ BoxAt H b ∧ 0 < p ∧ p ≤ B10 ∧ d ≤ 100 ∧ m ≤ 50 ∧
  ∀ (f : Addr) (ns : List (List Int)) H', BoxAt H' b → Keep b H H' → H f = none → Ls H' f ns → ns.length = m → (∀ n ∈ ns, Ok d n) → Q (.ref f) H'
def spStrange : Sp := fun vs H Q _ => ∃ (b l : Addr) (ns : List (List Int)) (p : Int) (d : Nat), vs = [.ref b, .ref l, .int p, .int (d : Nat)] ∧ BoxAt H b ∧ Ls H l ns ∧ ns.length ≤ 60 ∧ 1 ≤ d ∧ d ≤ 100 ∧ (∀ n ∈ ns, n.length = d) ∧
  ∀ (x : V) (n : List Int) H', BoxAt H' b → Keep b H H' → TI H' x n → Q x H'
theorem Ints.set {H : Hp} {D : Addr} {ns : List Int} {i : Nat} {z : Int} (_ : H D = some (.lst (ns.map V.int))) : L2.upd H D (.lst ((ns.map V.int).set i (.int z))) D = some (.lst ((ns.set i z).map V.int)) := by
  rw [upd_same, List.map_set]
section
variable {P : Program} {w : World} {K : PySem.W.Frag} {mg : Str → Option Value} {base : Heap}
theorem ok_items (T : Txt K mg) : FnOk P w K mg base CX0 3 T.f_items T.fd_items ["box", "prime", "long", "many"] (spItems) := by
  refine T.F_items.ok sc_items (fun vs H Q E h => ?_) (fun cdv A outer s H vs Q E hr h => ?_)
  · obtain ⟨b, p, d, m, rfl, _⟩ := h
    rfl
  · obtain ⟨b, p, d, m, rfl, hB, p0, p1, hd, hm, k⟩ := h
    refine ⟨_, (pss_cons (ps_set (i := 4) sc_items.nd rfl (Or.inr rfl) (pe_callB (call_min2 rfl) (by rfl) T.z_min (by decide +kernel) (pa_cons (pv 1) (pa_cons (pe_call (ok_of T) (hr.mono (by decide)) (by rfl) T.g_of T.F_of.kp T.b_of .nil pass0 (pa_cons (pv 0) (pa_cons (pe_lst (pa_cons pe_int (pa_cons pe_int (pa_cons pe_int (pa_cons (pv 1) (pa_cons (pv 1) pa_nil)))))) pa_nil))) pa_nil))))
      (pss_cons (ps_set (i := 5) sc_items.nd rfl (Or.inl rfl) (pe_lst pa_nil))
      (pss_cons (ps_for PassesOwn.never rfl (pi_range1 (by rfl) T.z_range (pa_cons (pv 3) pa_nil)) (pg_name (i := 6) sc_items.nd rfl (Or.inl rfl)) (pss_one (ps_if (PW.pt (pw_and (pt_cmpR op_gt (pv 6) pe_int (nomark _)) (pw_and1 (pt_cmpR op_eq (pe_call (ok_draw T) (hr.mono (by decide)) (by rfl) T.g_draw T.F_draw.kp T.b_draw .nil pass0 (pa_cons (pv 0) (pa_cons pe_int pa_nil))) pe_int (nomark _))))) (pss_one (ps_expr (pe_bm PySem.F.plainAttrs_list PySem.F.slot_list_append PySem.F.type_list_append mt_append (pv 5) (pa_cons (pe_call (ok_of T) (hr.mono (by decide)) (by rfl) T.g_of T.F_of.kp T.b_of .nil pass0 (pa_cons (pv 0) (pa_cons (pv 5) pa_nil))) pa_nil)))) (pss_one (ps_expr (pe_bm PySem.F.plainAttrs_list PySem.F.slot_list_append PySem.F.type_list_append mt_append (pv 5) (pa_cons (pe_callTy (T := "tuple") call_tupleD (by rfl) T.z_tuple (by decide +kernel) (pa_cons (pe_lc (own := [("j", 7)]) (g := gName 7) (tt := tYes) (by rfl) sc_items.nd (pi_range1 (by rfl) T.z_range (pa_cons (pv 2) pa_nil)) (blkOk_by (own := [("j", 7)]) (N := ["box", "prime", "long", "many", "wide", "found", "k", "j"]) (sc := defScope s_items) (by decide +kernel)) (fun _ _ _ _ _ => (pg_name (i := 7) sc_items.nd rfl (Or.inl rfl))) (fun _ _ _ _ _ => pts_nil) (fun _ _ _ _ _ => (pe_call (ok_draw T) (hr.mono (by decide)) (by rfl) T.g_draw T.F_draw.kp T.b_draw .nil pass0 (pa_cons (pv 0) (pa_cons (pv 4) pa_nil))))) pa_nil)) pa_nil)))))))
      (pss_one (ps_ret (pv 5)))))), ?_⟩
    have hB10 : B10 = 10000000000 := rfl
    refine ⟨_, rfl, _, rfl, _, rfl, _, rfl, (by show 5 ≤ sizeLine; decide), fun u hu => ?_⟩
    have gu := same_new hu (.lst ([1, 2, 3, p, p].map V.int))
    refine ⟨b, u, _, rfl, hB.same gu, hB.ne hu, SqL.of upd_same, by simp, by simp, fun i v H1 hi hB1 hK1 => ?_⟩
    obtain ⟨w, hw, rfl⟩ := ints_of (l := [1, 2, 3, p, p]) hi
    have hK01 := (Keep.of_same gu).trans hK1
    have wb : 0 < w ∧ w ≤ B10 := by
      simp only [List.mem_cons, List.not_mem_nil, or_false] at hw
      omega
    refine ⟨_, _, rfl, ?_⟩
    have mb : 0 < (if w < p then w else p) ∧ (if w < p then w else p) ≤ B10 ∧ (if w < p then w else p) < 2 ^ 64 := by split <;> omega
    generalize (if w < p then w else p) = wd at mb ⊢
    refine ⟨(by show 0 ≤ sizeLine; decide), fun D hD => ?_⟩
    have nD := hB1.ne hD
    have hD0 := kNone hB1 hK01 hD
    have g1 := same_new hD (.lst [])
    have eD : upd H1 D (.lst []) D = some (.lst []) := upd_same
    have hB2 := hB1.same g1
    have hK2 := hK01.trans (Keep.of_same g1)
    generalize upd H1 D (.lst []) = H2 at g1 eD hB2 hK2 ⊢
    refine ⟨_, rfl, _, rfl, by omega, by omega, for_range (lo := 0) (fun i σ Hx => ∃ (v6 : Option V) (ns : List (List Int)) (ys : List V), σ = [some (.ref b), some (.int p), some (.int (d : Nat)), some (.int (m : Nat)), some (.int wd), some (.ref D), v6, none] ∧ BoxAt Hx b ∧ Keep b H Hx ∧ Hx D = some (.lst ys) ∧ Its Hx ys ns ∧ ns.length = i ∧ ∀ n ∈ ns, Ok d n)
      ⟨none, [], [], rfl, hB2, hK2, eD, .nil, rfl, fun _ z => nomatch z⟩ ?_ ?_⟩
    · rintro i σ Hx hi ⟨v6, ns, ys, rfl, hBx, hKx, ef, hI, hl, ho⟩
      have hlen := hI.len
      rw [Int.toNat_natCast] at hi
      have app : ∀ (Hy : Hp) (v : V) (n : List Int), BoxAt Hy b → Keep b H Hy → Hy D = some (.lst ys) → Its Hy ys ns → TI Hy v n → Ok d n → ∃ (v6 : Option V) (ns' : List (List Int)) (ys' : List V), [some (V.ref b), some (.int p), some (.int (d : Nat)), some (.int (m : Nat)), some (.int wd), some (.ref D), some (.int (0 + (i : Nat))), none] = [some (.ref b), some (.int p), some (.int (d : Nat)), some (.int (m : Nat)), some (.int wd), some (.ref D), v6, none] ∧
          BoxAt (upd Hy D (.lst (ys ++ [v]))) b ∧ Keep b H (upd Hy D (.lst (ys ++ [v]))) ∧ upd Hy D (.lst (ys ++ [v])) D = some (.lst ys') ∧ Its (upd Hy D (.lst (ys ++ [v]))) ys' ns' ∧ ns'.length = i + 1 ∧ ∀ n ∈ ns', Ok d n := fun Hy v n hBy hKy eD hIy tv hn =>
        ⟨_, ns ++ [n], _, rfl, BoxAt.upd hB hD0 hKy hBy, Keep.at hD0 nD hKy, upd_same, (hIy.snoc tv).upd eD, by rw [List.length_append, hl]; rfl, fun n' hn' => by
          rcases List.mem_append.mp hn' with z | z
          · exact ho n' z
          · rw [List.mem_singleton.mp z]
            exact hn⟩
      refine ⟨_, rfl, _, _, rfl, rfl, _, rfl, ite2 (fun c => ?_) (fun c => ?_)⟩
      · refine ⟨_, rfl, b, _, rfl, by decide, by decide, hBx, fun dd H3 d0 d1 hB3 hK3 => ⟨rfl, _, rfl, ite2 (fun c2 => ?_) (fun c2 => ?_)⟩⟩
        · have eD3 := hK3.1 _ _ nD ef
          have i0 : 0 < i := by
            have : (0 : Int) < 0 + (i : Nat) := of_decide_eq_true c
            omega
          refine ⟨_, rfl, .inl ⟨rfl, _, SqL.of eD3⟩, _, rfl, _, rfl, b, D, ys, rfl, hB3, nD, SqL.of eD3, fun z => by rw [z] at hlen; simp at hlen; omega, by omega, fun q v H4 hq hB4 hK4 => ?_⟩
          obtain ⟨n, hn, tv⟩ := ((hI.keep hBx hK3).keep hB3 hK4).at_ hq
          have eD4 := hK4.1 _ _ nD eD3
          exact ⟨D, _, _, rfl, rfl, eD4, small1000 (by omega), app H4 v n hB4 (hKx.trans (hK3.trans hK4)) eD4 ((hI.keep hBx hK3).keep hB3 hK4) tv (ho n (List.mem_of_getElem? hn))⟩
        · have eD3 := hK3.1 _ _ nD ef
          have hI3 := hI.keep hBx hK3
          refine ⟨_, rfl, .inl ⟨rfl, _, SqL.of eD3⟩, ?_⟩
          refine ⟨_, rfl, _, rfl, by omega, by omega, fun C hC => lc_range (lo := 0) (n := d) (fun j Hz => BoxAt Hz b ∧ Keep b H3 Hz ∧ ∃ cs : List Int, Hz C = some (.lst (cs.map V.int)) ∧ cs.length = j ∧ TS.Bd B10 cs)
            ⟨hB3.same (same_new hC _), Keep.of_same (same_new hC _), [], upd_same, rfl, fun c h => by cases h⟩ ?_ ?_⟩
          · rintro j Hz hj ⟨hBz, hKz, cs, eC, lc, bc⟩
            have nC : C ≠ b := hB3.ne hC
            refine ⟨rfl, _, rfl, _, rfl, b, _, rfl, mb.1, mb.2.2, hBz, fun v H5 v0 v1 hB5 hK5 => ⟨_, hK5.1 _ _ nC eC, ?_, ?_, ?_, cs ++ [v], ?_, ?_, ?_⟩⟩
            · rw [List.length_map, lc]
              exact small1000 (by omega)
            · exact hB3.upd hC (hKz.trans hK5) hB5
            · exact Keep.at hC nC (hKz.trans hK5)
            · rw [upd_same, List.map_append]
              rfl
            · rw [List.length_append, lc]
              rfl
            · intro c hc
              rcases List.mem_append.mp hc with h | h
              · exact bc c h
              · rw [List.mem_singleton.mp h]
                exact ⟨by omega, (by omega)⟩
          rintro Hz ⟨hBz, hKz, cs, eC, lc, bc⟩
          refine ⟨C, _, rfl, .inl ⟨SqL.of eC, fun q hq => ?_⟩⟩
          have gq := same_new hq (.tup (cs.map V.int))
          have tq : TI (upd Hz q (.tup (cs.map V.int))) (.ref q) cs := ⟨q, rfl, upd_same⟩
          have hB6 := hBz.same gq
          have hK6 := hKz.trans (Keep.of_same gq)
          generalize upd Hz q (.tup (cs.map V.int)) = H6 at gq tq hB6 hK6 ⊢
          have eD6 := hK6.1 _ _ nD eD3
          exact ⟨D, _, _, rfl, rfl, eD6, small1000 (by omega), app H6 (.ref q) cs hB6 ((hKx.trans hK3).trans hK6) eD6 (hI3.keep hB3 hK6) tq ⟨lc, bc⟩⟩
      · refine ⟨_, rfl, .inl ⟨rfl, _, SqL.of ef⟩, ?_⟩
        refine ⟨_, rfl, _, rfl, by omega, by omega, fun C hC => lc_range (lo := 0) (n := d) (fun j Hz => BoxAt Hz b ∧ Keep b Hx Hz ∧ ∃ cs : List Int, Hz C = some (.lst (cs.map V.int)) ∧ cs.length = j ∧ TS.Bd B10 cs)
          ⟨hBx.same (same_new hC _), Keep.of_same (same_new hC _), [], upd_same, rfl, fun c h => by cases h⟩ ?_ ?_⟩
        · rintro j Hz hj ⟨hBz, hKz, cs, eC, lc, bc⟩
          have nC : C ≠ b := hBx.ne hC
          refine ⟨rfl, _, rfl, _, rfl, b, _, rfl, mb.1, mb.2.2, hBz, fun v H5 v0 v1 hB5 hK5 => ⟨_, hK5.1 _ _ nC eC, ?_, ?_, ?_, cs ++ [v], ?_, ?_, ?_⟩⟩
          · rw [List.length_map, lc]
            exact small1000 (by omega)
          · exact hBx.upd hC (hKz.trans hK5) hB5
          · exact Keep.at hC nC (hKz.trans hK5)
          · rw [upd_same, List.map_append]
            rfl
          · rw [List.length_append, lc]
            rfl
          · intro c hc
            rcases List.mem_append.mp hc with h | h
            · exact bc c h
            · rw [List.mem_singleton.mp h]
              exact ⟨by omega, (by omega)⟩
        rintro Hz ⟨hBz, hKz, cs, eC, lc, bc⟩
        refine ⟨C, _, rfl, .inl ⟨SqL.of eC, fun q hq => ?_⟩⟩
        have gq := same_new hq (.tup (cs.map V.int))
        have tq : TI (upd Hz q (.tup (cs.map V.int))) (.ref q) cs := ⟨q, rfl, upd_same⟩
        have hB6 := hBz.same gq
        have hK6 := hKz.trans (Keep.of_same gq)
        generalize upd Hz q (.tup (cs.map V.int)) = H6 at gq tq hB6 hK6 ⊢
        have eD6 := hK6.1 _ _ nD ef
        exact ⟨D, _, _, rfl, rfl, eD6, small1000 (by omega), app H6 (.ref q) cs hB6 (hKx.trans hK6) eD6 (hI.keep hBx hK6) tq ⟨lc, bc⟩⟩
    · rintro σ Hx ⟨v6, ns, ys, rfl, hBx, hKx, ef, hI, hl, ho⟩
      exact ⟨_, rfl, k D ns Hx hBx hKx hD0 ⟨ys, ef, hI⟩ (by rw [hl]; exact Int.toNat_natCast m) ho⟩
end
end K0

set_option maxRecDepth 100000
set_option maxHeartbeats 4000000
namespace K0
open PySem L2 BM BR

def spAsked {K : PySem.W.Frag} {mg : Str → Option Value} (T : Txt K mg) : Sp := fun vs H Q _ => ∃ (b a l : Addr) (ns : List (List Int)) (p : Int) (d : Nat), vs = [.ref b, .ref a, .ref l, .int p, .int (d : Nat)] ∧ BoxAt H b ∧ BagAt T H a (srt ns) ∧ Ls H l ns ∧ ns.length ≤ 60 ∧ 1 ≤ d ∧ d ≤ 100 ∧ (∀ n ∈ ns, Ok d n) ∧
  ∀ H', BoxAt H' b → Keep b H H' → Q (.bl true) H'
theorem none_of {H H1 : Hp} {x : Addr} (g : Same H H1) (h : H1 x = none) : H x = none := by
  cases e : H x with
  | none => rfl
  | some o =>
    rw [g _ _ e] at h
    cases h
theorem ixN_of {n : Nat} {i : Int} (h0 : 0 ≤ i) (h1 : i < n) : ixN n i = some i.toNat := by
  unfold ixN
  rw [if_pos h0, if_pos h1]
theorem rep_z0 : ∀ d : Nat, (List.replicate d [V.int 0]).flatten = List.replicate d (V.int 0)
  | 0 => rfl
  | d + 1 => by
    rw [List.replicate_succ, List.replicate_succ, List.flatten_cons, rep_z0 d]
    rfl
theorem srt_cnt (ns : List (List Int)) (n : List Int) : (srt ns).count n = ns.count n := (srt_perm ns).count_eq n
theorem srt_mem (ns : List (List Int)) (n : List Int) : (n ∈ srt ns) = (n ∈ ns) := propext (srt_perm ns).mem_iff
theorem cut_n {xs : List V} {k : Nat} (h : k ≤ xs.length) : cutV xs none (some (k : Int)) = xs.take k := by
  unfold cutV
  rw [HT.sIx_none, HT.sIx_nat, List.drop_zero, Nat.min_eq_left h]
  rfl
theorem cut_4 (xs : List V) : cutV xs none (some (4 : Int)) = xs.take 4 := by
  unfold cutV
  rw [HT.sIx_none, show (some (4 : Int)) = some ((4 : Nat) : Int) from rfl, HT.sIx_nat, List.drop_zero]
  show xs.take (min 4 xs.length - 0) = _
  rw [Nat.sub_zero]
  rcases Nat.le_total 4 xs.length with h | h
  · rw [Nat.min_eq_left h]
  · rw [Nat.min_eq_right h, List.take_of_length_le (Nat.le_refl _), List.take_of_length_le h]
/-- l.count(x) of items -/
theorem cnt_of {K : PySem.W.Frag} {H : Hp} {l : Addr} {x : V} {ns : List (List Int)} {n : List Int} {Q : VK} (h : Ls H l ns) (tx : TI H x n) (q : Q (.int (ns.count n : Nat)) H) : rCntD K .list (.ref l) [x] H Q := by
  refine ⟨l, x, tD n, ns.map tD, rfl, rfl, h.dp, tx.dp, plTs _, plT _, Nat.le_trans (depT _) (by decide), ?_⟩
  rw [cntT]
  exact q
section
variable {P : Program} {w : World} {K : PySem.W.Frag} {mg : Str → Option Value} {base : Heap}
theorem ok_strange (T : Txt K mg) : FnOk P w K mg base CX0 3 T.f_strange T.fd_strange ["box", "items", "prime", "long"] (spStrange) := by
  refine T.F_strange.ok sc_strange (fun vs H Q E h => ?_) (fun cdv A outer s H vs Q E hr h => ?_)
  · obtain ⟨b, l, ns, p, d, rfl, _⟩ := h
    rfl
  · obtain ⟨b, l, ns, p, d, rfl, hB, hL, hl, hd, hd1, ho, k⟩ := h
    refine ⟨_, (C8.pss_cut (ps_set (i := 4) sc_strange.nd rfl (Or.inl rfl) (pe_ifExp (pt_cmpR (op_neD hr.units) (pv 1) (pe_lst pa_nil) (nomark _)) (pe_callTy call_listD (by rfl) T.z_list (by decide +kernel) (pa_cons (pe_call (ok_of T) (hr.mono (by decide)) (by rfl) T.g_of T.F_of.kp T.b_of .nil pass0 (pa_cons (pv 0) (pa_cons (pv 1) pa_nil))) pa_nil)) (pe_op op_rep (pe_lst (pa_cons pe_int pa_nil)) (pv 3))))
      (pss_cons (ps_par (i := 5) (j := 6) (by rfl) sc_strange.nd rfl rfl (by decide) rfl rfl (pa_cons (pe_call (ok_draw T) (hr.mono (by decide)) (by rfl) T.g_draw T.F_draw.kp T.b_draw .nil pass0 (pa_cons (pv 0) (pa_cons pe_int pa_nil))) (pa_cons (pe_call (ok_draw T) (hr.mono (by decide)) (by rfl) T.g_draw T.F_draw.kp T.b_draw .nil pass0 (pa_cons (pv 0) (pa_cons (pv 3) pa_nil))) pa_nil)) (by rfl))
      (C8.pss_cut (ps_if (pt_cmpR op_eq (pv 5) pe_int (nomark _)) (pss_one (ps_asg (pe_op op_add (pe_ix ix_list (pv 4) (pv 6) (fun _ _ => rfl)) pe_int) (pg_sub (pv 4) (pv 6) set_list))) (pss_one (ps_if (pt_cmpR op_eq (pv 5) pe_int (nomark _)) (pss_one (ps_asg (pe_ifExp (pt_cmpR op_lt (pe_op op_add (pe_ix ix_list (pv 4) (pv 6) (fun _ _ => rfl)) (pv 2)) (pe_op op_pow pe_int pe_int) (nomark _)) (pe_op op_add (pe_ix ix_list (pv 4) (pv 6) (fun _ _ => rfl)) (pv 2)) (pe_ix ix_list (pv 4) (pv 6) (fun _ _ => rfl))) (pg_sub (pv 4) (pv 6) set_list))) (pss_one (ps_if (pt_cmpR op_eq (pv 5) pe_int (nomark _)) (pss_one (ps_expr (pe_bm PySem.F.plainAttrs_list PySem.F.slot_list_append PySem.F.type_list_append mt_append (pv 4) (pa_cons pe_int pa_nil)))) (pss_one (ps_if (pt_cmpR op_eq (pv 5) pe_int (nomark _)) (pss_one (ps_expr (pe_bm0 PySem.F.plainAttrs_list PySem.F.slot_list_pop PySem.F.type_list_pop mt_pop (pv 4)))) (pss_one (ps_if (pt_cmpR op_eq (pv 5) pe_int (nomark _)) (pss_one (ps_asg (pe_op op_sub (pe_ix ix_list (pv 4) (pv 6) (fun _ _ => rfl)) (pv 2)) (pg_sub (pv 4) (pv 6) set_list))) pss_nil)))))))))
      (pss_one (ps_ret (pe_callTy (T := "tuple") call_tupleD (by rfl) T.z_tuple (by decide +kernel) (pa_cons (pv 4) pa_nil))))))), ?_⟩
    obtain ⟨xs, eL, hI⟩ := id hL
    have hlen := hI.len
    refine ⟨fun σ Hx => ∃ (D : Addr) (hs : List Int), σ = [some (.ref b), some (.ref l), some (.int p), some (.int (d : Nat)), some (.ref D), none, none] ∧ BoxAt Hx b ∧ Keep b H Hx ∧ H D = none ∧ Hx D = some (.lst (hs.map V.int)) ∧ hs.length = d, ?_, ?_⟩
    · refine ⟨_, rfl, (by show 0 ≤ sizeLine; decide), fun z hz => ?_⟩
      have gz := same_new hz (.lst [])
      have ez : Ls (upd H z (.lst [])) z [] := ⟨[], upd_same, .nil⟩
      have hB1 := hB.same gz
      have hL1 := hL.same gz
      generalize upd H z (.lst []) = H1 at gz ez hB1 hL1 ⊢
      refine ⟨.list (ns.map tD), .list (([] : List (List Int)).map tD), hL1.dp, ez.dp, shLL _, shLL _, _, rfl, ?_⟩
      rw [eqvLL]
      refine ite2 (fun c => ?_) (fun c => ?_)
      · have ne : ns ≠ [] := fun z => by
          rw [z] at c
          simp at c
        obtain ⟨xs1, eL1, hI1⟩ := id hL1
        refine ⟨_, rfl, _, rfl, b, l, xs1, rfl, hB1, hL1.ne hB1, SqL.of eL1, fun z => ne (List.eq_nil_of_length_eq_zero (by rw [← hI1.len, z]; rfl)), by rw [hI1.len]; omega, fun q v H2 hq hB2 hK2 => ?_⟩
        obtain ⟨n, hn, t, rfl, ht⟩ := (hI1.keep hB1 hK2).at_ hq
        refine ⟨t, _, rfl, .inr (SqT.of ht), fun D hD => ?_⟩
        have hK02 := (Keep.of_same gz).trans hK2
        exact ⟨D, n, rfl, hB2.same (same_new hD _), hK02.trans (Keep.of_same (same_new hD _)), kNone hB2 hK02 hD, upd_same, ho n (List.mem_of_getElem? hn)⟩
      · refine ⟨(by show 1 ≤ sizeLine; decide), fun y hy => ?_⟩
        have gy := same_new hy (.lst [.int 0])
        have ey : upd H1 y (.lst [.int 0]) y = some (.lst [.int 0]) := upd_same
        have hB2 := hB1.same gy
        generalize upd H1 y (.lst [.int 0]) = H2 at gy ey hB2 ⊢
        refine ⟨_, rfl, y, (d : Int), _, rfl, rfl, ey, by omega, by omega, ?_, fun D hD => ?_⟩
        · rw [Int.toNat_natCast]
          exact Nat.le_of_lt (small1000 (by show 1 * d ≤ 1000; omega))
        have g3 := gz.trans gy
        refine ⟨D, List.replicate d 0, rfl, hB2.same (same_new hD _), (Keep.of_same g3).trans (Keep.of_same (same_new hD _)), none_of g3 hD, ?_, List.length_replicate⟩
        rw [upd_same, Int.toNat_natCast]
        congr 2
        rw [List.map_replicate]
        exact rep_z0 d
    rintro σ Hx ⟨D, hs, rfl, hBx, hKx, hD, eD, hh⟩
    have nD := hB.ne hD
    refine ⟨_, rfl, b, _, rfl, by decide, by decide, hBx, fun w H1 w0 w1 hB1 hK1 => ⟨_, rfl, _, rfl, b, _, rfl, by omega, by omega, hB1, fun pk H2 k0 k1 hB2 hK2 => ⟨_, _, rfl, ?_⟩⟩⟩
    have hK02 := hKx.trans (hK1.trans hK2)
    have e2 := hK2.1 _ _ nD (hK1.1 _ _ nD eD)
    have ek : hs[pk.toNat]? = some hs[pk.toNat] := List.getElem?_eq_getElem (by omega)
    have hat : atI (hs.map V.int) pk = some (.int hs[pk.toNat]) := by
      have := at_nat ek
      rwa [Int.toNat_of_nonneg k0] at this
    generalize hs[pk.toNat] = z0 at ek hat
    have hsx : ixN (hs.map V.int).length pk = some pk.toNat := ixN_of k0 (by rw [List.length_map]; omega)
    have fin : ∀ (o : List Int), ∃ (hs : List Int), [some (V.ref b), some (.ref l), some (.int p), some (.int (d : Nat)), some (.ref D), some (.int w), some (.int pk)] = [some (V.ref b), some (.ref l), some (.int p), some (.int (d : Nat)), some (.ref D), some (.int w), some (.int pk)] ∧ BoxAt (upd H2 D (.lst (o.map V.int))) b ∧ Keep b H (upd H2 D (.lst (o.map V.int))) ∧ upd H2 D (.lst (o.map V.int)) D = some (.lst (hs.map V.int)) := fun o => ⟨o, rfl, BoxAt.upd hB hD hK02 hB2, Keep.at hD nD hK02, upd_same⟩
    refine ⟨fun σ Hx => ∃ (hs : List Int), σ = [some (.ref b), some (.ref l), some (.int p), some (.int (d : Nat)), some (.ref D), some (.int w), some (.int pk)] ∧ BoxAt Hx b ∧ Keep b H Hx ∧ Hx D = some (.lst (hs.map V.int)), ?_, ?_⟩
    · refine ⟨_, rfl, rfl, _, rfl, ite2 (fun c => ?_) (fun c => ?_)⟩
      · refine ⟨_, rfl, _, rfl, D, _, _, _, rfl, rfl, SqL.of e2, hat, _, _, rfl, rfl, _, rfl, _, rfl, D, _, _, _, rfl, rfl, e2, hsx, ?_⟩
        rw [← List.map_set]
        exact fin _
      refine ⟨_, rfl, rfl, _, rfl, ite2 (fun c => ?_) (fun c => ?_)⟩
      · refine ⟨_, rfl, _, rfl, D, _, _, _, rfl, rfl, SqL.of e2, hat, _, rfl, _, _, rfl, rfl, _, _, rfl, rfl, ⟨by decide, by decide, by decide⟩, _, _, rfl, rfl, _, rfl, ite2 (fun c => ?_) (fun c => ?_)⟩
        · refine ⟨_, rfl, _, rfl, D, _, _, _, rfl, rfl, SqL.of e2, hat, _, rfl, _, _, rfl, rfl, _, rfl, _, rfl, D, _, _, _, rfl, rfl, e2, hsx, ?_⟩
          rw [← List.map_set]
          exact fin _
        · refine ⟨_, rfl, _, rfl, D, _, _, _, rfl, rfl, SqL.of e2, hat, _, rfl, _, rfl, D, _, _, _, rfl, rfl, e2, hsx, ?_⟩
          rw [← List.map_set]
          exact fin _
      refine ⟨_, rfl, rfl, _, rfl, ite2 (fun c => ?_) (fun c => ?_)⟩
      · refine ⟨_, rfl, .inl ⟨rfl, _, SqL.of e2⟩, D, _, _, rfl, rfl, e2, small1000 (by rw [List.length_map]; omega), ?_⟩
        have := fin (hs ++ [0])
        rw [List.map_append] at this
        exact this
      refine ⟨_, rfl, rfl, _, rfl, ite2 (fun c => ?_) (fun c => ?_)⟩
      · have el : (hs.map V.int)[(hs.map V.int).length - 1]? = some (.int hs[hs.length - 1]) := by
          rw [List.length_map, List.getElem?_map, List.getElem?_eq_getElem (by omega)]
          rfl
        refine ⟨_, rfl, .inl ⟨rfl, _, SqL.of e2⟩, D, _, _, rfl, rfl, e2, el, ?_⟩
        have := fin hs.dropLast
        rw [List.map_dropLast] at this
        exact this
      refine ⟨_, rfl, rfl, _, rfl, ite2 (fun c => ?_) (fun c => ?_)⟩
      · refine ⟨_, rfl, _, rfl, D, _, _, _, rfl, rfl, SqL.of e2, hat, _, rfl, _, _, rfl, rfl, _, rfl, _, rfl, D, _, _, _, rfl, rfl, e2, hsx, ?_⟩
        rw [← List.map_set]
        exact fin _
      · exact ⟨hs, rfl, hB2, hK02, e2⟩
    rintro σ Hx ⟨hs, rfl, hBx, hKx, eD⟩
    refine ⟨_, rfl, D, _, rfl, .inl ⟨SqL.of eD, fun q hq => ?_⟩⟩
    exact k _ hs _ (hBx.same (same_new hq _)) (hKx.trans (Keep.of_same (same_new hq _))) ⟨q, rfl, upd_same⟩
theorem ok_asked (T : Txt K mg) : FnOk P w K mg base CX0 9 T.f_asked T.fd_asked ["box", "bag", "items", "prime", "long"] (spAsked T) := by
  refine T.F_asked.ok sc_asked (fun vs H Q E h => ?_) (fun cdv A outer s H vs Q E hr h => ?_)
  · obtain ⟨b, a, l, ns, p, d, rfl, _⟩ := h
    rfl
  · obtain ⟨b, a, l, ns, p, d, rfl, hB, hA, hL, hl, hd, hd1, ho, k⟩ := h
    refine ⟨_, (pss_cons (ps_for PassesOwn.never rfl (pi_list (pe_slice sl_list (pv 2) po_none (po_some pe_int))) (pg_name (i := 5) sc_asked.nd rfl (Or.inl rfl)) (pss_one (ps_if (PW.pt (pw_or (pt_not (pt_val (pe_call (ok_same T 8) (hr.mono (by decide)) (by rfl) T.g_same T.F_same.kp T.b_same .nil pass0 (pa_cons (pe_meth (pv 1) T.cl T.me_m_times (ok_m_times T) (hr.mono (by decide)) T.b_m_times .nil pass0 (pa_cons (pv 5) pa_nil)) (pa_cons (pe_bm PySem.F.plainAttrs_list PySem.F.slot_list_count PySem.F.type_list_count (BR.mt_lcountD (room65 hr)) (pv 2) (pa_cons (pv 5) pa_nil)) pa_nil))))) (pw_or1 (pt_not (pt_val (pe_call (ok_same T 8) (hr.mono (by decide)) (by rfl) T.g_same T.F_same.kp T.b_same .nil pass0 (pa_cons (pe_cmpR (op_inO T.f_contains T.n_contains ((ok_m_contains T).raw T.b_m_contains .nil) (hr.mono (by decide)) pass0) (pv 5) (pv 1) (by rfl)) (pa_cons pe_bl pa_nil)))))))) (pss_one (ps_ret pe_bl)) pss_nil)))
      (pss_cons (ps_for PassesOwn.never rfl (pi_range1 (by rfl) T.z_range (pa_cons pe_int pa_nil)) (pg_name (i := 6) sc_asked.nd rfl (Or.inl rfl)) (pss_cons (ps_set (i := 5) sc_asked.nd rfl (Or.inl rfl) (pe_call (ok_strange T) (hr.mono (by decide)) (by rfl) T.g_strange T.F_strange.kp T.b_strange .nil pass0 (pa_cons (pv 0) (pa_cons (pv 2) (pa_cons (pv 3) (pa_cons (pv 4) pa_nil))))))
      (pss_one (ps_if (PW.pt (pw_or (pt_not (pt_val (pe_call (ok_same T 8) (hr.mono (by decide)) (by rfl) T.g_same T.F_same.kp T.b_same .nil pass0 (pa_cons (OV.pe_methK (pv 1) T.cl T.me_m_times (ok_m_times T) (hr.mono (by decide)) T.kb_m_times0 pass0 (pk_cons (pv 5) pk_nil)) (pa_cons (pe_bm PySem.F.plainAttrs_list PySem.F.slot_list_count PySem.F.type_list_count (BR.mt_lcountD (room65 hr)) (pv 2) (pa_cons (pv 5) pa_nil)) pa_nil))))) (pw_or1 (pt_not (pt_val (pe_call (ok_same T 8) (hr.mono (by decide)) (by rfl) T.g_same T.F_same.kp T.b_same .nil pass0 (pa_cons (pe_cmpR (op_inO T.f_contains T.n_contains ((ok_m_contains T).raw T.b_m_contains .nil) (hr.mono (by decide)) pass0) (pv 5) (pv 1) (by rfl)) (pa_cons (pe_cmpR (op_inD (room65 hr)) (pv 5) (pv 2) (by rfl)) pa_nil)))))))) (pss_one (ps_ret pe_bl)) pss_nil))))
      (pss_one (ps_ret pe_bl)))), ?_⟩
    obtain ⟨xs, eL, hI⟩ := id hL
    have hlen := hI.len
    refine ⟨_, rfl, _, rfl, l, _, rfl, SqL.of eL, fun q hq => ?_⟩
    rw [cut_4]
    have gq := same_new hq (.lst (xs.take 4))
    have eq : upd H q (.lst (xs.take 4)) q = some (.lst (xs.take 4)) := upd_same
    have hI4 := (hI.take 4).same gq
    generalize upd H q (.lst (xs.take 4)) = H1 at gq eq hI4 ⊢
    refine ⟨q, rfl, ⟨_, SqL.of eq⟩, for_list (K := K) (a := q) (xs := xs.take 4) (fun i σ Hx => ∃ v5, σ = [some (.ref b), some (.ref a), some (.ref l), some (.int p), some (.int (d : Nat)), v5, none] ∧ Same H1 Hx)
      ⟨none, rfl, Same.refl _⟩ (fun i σ Hx _ ⟨_, _, gs⟩ => SqL.of (gs _ _ eq)) ?_ ?_⟩
    · rintro i y σ Hx hi ⟨v5, rfl, gs⟩
      have g1 := gq.trans gs
      obtain ⟨n, hn, tn⟩ := (hI4.same gs).at_ hi
      have hm : n ∈ ns := List.mem_of_mem_take (List.mem_of_getElem? hn)
      obtain ⟨dx, mm, ha⟩ := (hA.same g1).ins2
      refine ⟨_, rfl, a, dx, _, rfl, ha, rfl, _, rfl, a, y, _, n, rfl, hA.same g1, tn.ar, fun H2 g2 => ?_⟩
      refine ⟨_, rfl, .inl ⟨rfl, _, SqL.of ((g1.trans g2) _ _ eL)⟩, _, rfl, l, y, tD n, ns.map tD, rfl, rfl, (hL.same (g1.trans g2)).dp, (sTI g2 tn).dp, plTs _, plT _, Nat.le_trans (depT _) (by decide), ?_⟩
      rw [cntT, srt_cnt]
      refine ⟨b, _, _, rfl, eI rfl, fun H3 g3 => ⟨_, rfl, iteF ?_⟩⟩
      have g13 := g1.trans (g2.trans g3)
      refine ⟨_, rfl, _, rfl, a, dx, _, rfl, (g2.trans g3) _ _ ha, a, y, _, n, rfl, hA.same g13, (sTI (g2.trans g3) tn).ar, fun H4 g4 => ⟨_, rfl, ?_⟩⟩
      refine ⟨b, _, _, rfl, eB (decide_eq_true (by rw [srt_mem]; exact hm)), fun H5 g5 => ⟨_, rfl, iteF ?_⟩⟩
      exact ⟨_, rfl, gs.trans (g2.trans (g3.trans (g4.trans g5)))⟩
    rintro σ Hx ⟨v5, rfl, gs⟩
    have gx := gq.trans gs
    refine ⟨4, rfl, by decide, by decide, for_range (lo := 0) (fun i σ Hx => ∃ v5 v6, σ = [some (.ref b), some (.ref a), some (.ref l), some (.int p), some (.int (d : Nat)), v5, v6] ∧ BoxAt Hx b ∧ Keep b H Hx)
      ⟨_, _, rfl, hB.same gx, Keep.of_same gx⟩ ?_ ?_⟩
    · rintro i σ Hx hi ⟨v5, v6, rfl, hBx, hKx⟩
      have hLx := hL.keep hB hKx
      refine ⟨_, rfl, _, rfl, _, rfl, _, rfl, b, l, ns, p, d, rfl, hBx, hLx, hl, hd, hd1, fun n hn => (ho n hn).1, fun y n H2 hB2 hK2 tn => ?_⟩
      have hK02 := hKx.trans hK2
      have hA2 := hA.keep hB hK02
      have hL2 := hL.keep hB hK02
      obtain ⟨ys, eY, _⟩ := id hL2
      obtain ⟨dx, mm, ha⟩ := hA2.ins2
      refine ⟨_, rfl, a, dx, _, rfl, ha, rfl, _, rfl, rfl, a, y, _, n, rfl, hA2, tn.ar, fun H3 g3 => ?_⟩
      refine ⟨_, rfl, .inl ⟨rfl, _, SqL.of (g3 _ _ eY)⟩, _, rfl, l, y, tD n, ns.map tD, rfl, rfl, (hL2.same g3).dp, (sTI g3 tn).dp, plTs _, plT _, Nat.le_trans (depT _) (by decide), ?_⟩
      rw [cntT, srt_cnt]
      refine ⟨b, _, _, rfl, eI rfl, fun H4 g4 => ⟨_, rfl, iteF ?_⟩⟩
      have g34 := g3.trans g4
      refine ⟨_, rfl, _, rfl, a, dx, _, rfl, g34 _ _ ha, a, y, _, n, rfl, hA2.same g34, (sTI g34 tn).ar, fun H5 g5 => ⟨_, rfl, ?_⟩⟩
      have g35 := g34.trans g5
      refine ⟨_, rfl, _, rfl, tD n, ns.map tD, (sTI g35 tn).dp, (hL2.same g35).dp, shT _, shLL _, ?_⟩
      rw [anyT]
      refine ⟨b, _, _, rfl, eB (decide_eq_decide.mpr (by rw [srt_mem])), fun H6 g6 => ⟨_, rfl, iteF ?_⟩⟩
      have g36 := g35.trans g6
      exact ⟨_, _, rfl, hB2.same g36, hK02.trans (Keep.of_same g36)⟩
    rintro σ Hx ⟨v5, v6, rfl, hBx, hKx⟩
    exact k Hx hBx hKx
end
end K0

set_option maxRecDepth 100000
set_option maxHeartbeats 4000000
namespace K0
open PySem L2 BM BR

def spNearby : Sp := fun vs H Q _ => ∃ (b l : Addr) (ns : List (List Int)) (p : Int) (d : Nat), vs = [.ref b, .ref l, .int p, .int (d : Nat)] ∧ BoxAt H b ∧ Ls H l ns ∧ 1 < p ∧ p ≤ B10 ∧ ns.length ≤ 50 ∧ 1 ≤ d ∧ d ≤ 100 ∧ (∀ n ∈ ns, Ok d n) ∧
  ∀ (f : Addr) (ms : List (List Int)) H', BoxAt H' b → Keep b H H' → Ls H' f ms → (∀ n ∈ ms, Ok d n) → ms.length ≤ 51 → Q (.ref f) H'
theorem ok_set {d : Nat} {n : List Int} {i : Nat} {z : Int} (h : Ok d n) (z0 : 0 ≤ z) (z1 : z < B10) : Ok d (n.set i z) :=
  ⟨by rw [List.length_set]; exact h.1, fun m hm => by
    rcases List.mem_or_eq_of_mem_set hm with h2 | h2
    · exact h.2 m h2
    · rw [h2]
      exact ⟨z0, z1⟩⟩
section
variable {P : Program} {w : World} {K : PySem.W.Frag} {mg : Str → Option Value} {base : Heap}
theorem ok_nearby (T : Txt K mg) : FnOk P w K mg base CX0 3 T.f_nearby T.fd_nearby ["box", "items", "prime", "long"] (spNearby) := by
  refine T.F_nearby.ok sc_nearby (fun vs H Q E h => ?_) (fun cdv A outer s H vs Q E hr h => ?_)
  · obtain ⟨b, l, ns, p, d, rfl, _⟩ := h
    rfl
  · obtain ⟨b, l, ns, p, d, rfl, hB, hL, p0, p1, hl, hd, hd1, ho, k⟩ := h
    refine ⟨_, (pss_cons (ps_par (i := 4) (j := 5) (by rfl) sc_nearby.nd rfl rfl (by decide) rfl rfl (pa_cons (pe_callTy call_listD (by rfl) T.z_list (by decide +kernel) (pa_cons (pv 1) pa_nil)) (pa_cons (pe_call (ok_draw T) (hr.mono (by decide)) (by rfl) T.g_draw T.F_draw.kp T.b_draw .nil pass0 (pa_cons (pv 0) (pa_cons pe_int pa_nil))) pa_nil)) (by rfl))
      (C8.pss_cut (ps_if (PW.pt (pw_or (pt_cmpR op_eq (pv 5) pe_int (nomark _)) (pw_or1 (pt_cmpR (op_eqD hr.units) (pv 1) (pe_lst pa_nil) (nomark _))))) (pss_one (ps_expr (pe_bm PySem.F.plainAttrs_list PySem.F.slot_list_append PySem.F.type_list_append mt_append (pv 4) (pa_cons (pe_callTy (T := "tuple") call_tupleD (by rfl) T.z_tuple (by decide +kernel) (pa_cons (pe_lc (own := [("k", 6)]) (g := gName 6) (tt := tYes) (by rfl) sc_nearby.nd (pi_range1 (by rfl) T.z_range (pa_cons (pv 3) pa_nil)) (blkOk_by (own := [("k", 6)]) (N := ["box", "items", "prime", "long", "found", "way", "k", "pick", "place", "held"]) (sc := defScope s_nearby) (by decide +kernel)) (fun _ _ _ _ _ => (pg_name (i := 6) sc_nearby.nd rfl (Or.inl rfl))) (fun _ _ _ _ _ => pts_nil) (fun _ _ _ _ _ => (pe_call (ok_draw T) (hr.mono (by decide)) (by rfl) T.g_draw T.F_draw.kp T.b_draw .nil pass0 (pa_cons (pv 0) (pa_cons (pv 2) pa_nil))))) pa_nil)) pa_nil)))) (pss_one (ps_if (pt_cmpR op_eq (pv 5) pe_int (nomark _)) (pss_one (ps_expr (pe_bm PySem.F.plainAttrs_list PySem.F.slot_list_pop PySem.F.type_list_pop mt_popAt (pv 4) (pa_cons (pe_call (ok_draw T) (hr.mono (by decide)) (by rfl) T.g_draw T.F_draw.kp T.b_draw .nil pass0 (pa_cons (pv 0) (pa_cons (pe_callB call_len_seq (by rfl) T.z_len PySem.boot_len (pa_cons (pv 4) pa_nil)) pa_nil))) pa_nil)))) (pss_one (ps_if (pt_cmpR op_eq (pv 5) pe_int (nomark _)) (pss_cons (ps_par (i := 7) (j := 8) (by rfl) sc_nearby.nd rfl rfl (by decide) rfl rfl (pa_cons (pe_call (ok_draw T) (hr.mono (by decide)) (by rfl) T.g_draw T.F_draw.kp T.b_draw .nil pass0 (pa_cons (pv 0) (pa_cons (pe_callB call_len_seq (by rfl) T.z_len PySem.boot_len (pa_cons (pv 4) pa_nil)) pa_nil))) (pa_cons (pe_call (ok_draw T) (hr.mono (by decide)) (by rfl) T.g_draw T.F_draw.kp T.b_draw .nil pass0 (pa_cons (pv 0) (pa_cons (pv 3) pa_nil))) pa_nil)) (by rfl))
      (pss_cons (ps_set (i := 9) sc_nearby.nd rfl (Or.inl rfl) (pe_callTy call_listD (by rfl) T.z_list (by decide +kernel) (pa_cons (pe_ix ix_list (pv 4) (pv 7) (fun _ _ => rfl)) pa_nil)))
      (pss_cons (ps_asg (pe_op op_mod (pe_callTy call_int1 (by rfl) T.z_int (by decide +kernel) (pa_cons (pe_op op_add (pe_ix ix_list (pv 9) (pv 8) (fun _ _ => rfl)) pe_int) pa_nil)) (pv 2)) (pg_sub (pv 9) (pv 8) set_list))
      (pss_one (ps_asg (pe_callTy (T := "tuple") call_tupleD (by rfl) T.z_tuple (by decide +kernel) (pa_cons (pv 9) pa_nil)) (pg_sub (pv 4) (pv 7) set_list)))))) (pss_one (ps_if (pt_cmpR op_eq (pv 5) pe_int (nomark _)) (pss_one (ps_asg (pe_call (ok_of T) (hr.mono (by decide)) (by rfl) T.g_of T.F_of.kp T.b_of .nil pass0 (pa_cons (pv 0) (pa_cons (pv 1) pa_nil))) (pg_sub (pv 4) (pe_call (ok_draw T) (hr.mono (by decide)) (by rfl) T.g_draw T.F_draw.kp T.b_draw .nil pass0 (pa_cons (pv 0) (pa_cons (pe_callB call_len_seq (by rfl) T.z_len PySem.boot_len (pa_cons (pv 4) pa_nil)) pa_nil))) set_list))) pss_nil)))))))
      (pss_one (ps_ret (pv 4))))), ?_⟩
    have hB10 : B10 = 10000000000 := rfl
    obtain ⟨xs, eL, hI⟩ := id hL
    have hlen := hI.len
    refine ⟨_, rfl, l, xs, rfl, .inl (SqL.of eL), fun D hD => ?_⟩
    have g1 := same_new hD (.lst xs)
    have e0 : upd H D (.lst xs) D = some (.lst xs) := upd_same
    have nD := hB.ne hD
    have hB0 := hB.same g1
    have hI0 := hI.same g1
    have hL0 := hL.same g1
    generalize upd H D (.lst xs) = H0 at g1 e0 hB0 hI0 hL0 ⊢
    refine ⟨_, rfl, b, _, rfl, by decide, by decide, hB0, fun w H1 w0 w1 hB1 hK01 => ⟨_, _, rfl, ?_⟩⟩
    have hK1 := (Keep.of_same g1).trans hK01
    have e1 := hK01.1 _ _ nD e0
    have hI1 := hI0.keep hB0 hK01
    have hL1 := hL0.keep hB0 hK01
    refine ⟨fun σ Hx => ∃ (v6 v7 v8 v9 : Option V) (ms : List (List Int)), σ = [some (.ref b), some (.ref l), some (.int p), some (.int (d : Nat)), some (.ref D), some (.int w), v6, v7, v8, v9] ∧ BoxAt Hx b ∧ Keep b H Hx ∧ Ls Hx D ms ∧ (∀ n ∈ ms, Ok d n) ∧ ms.length ≤ 51, ?_, ?_⟩
    · have fin : ∀ (σ : L2.St) (Hx : Hp) (ms : List (List Int)) {v6 v7 v8 v9 : Option V}, σ = [some (.ref b), some (.ref l), some (.int p), some (.int (d : Nat)), some (.ref D), some (.int w), v6, v7, v8, v9] → v6 = v6 → v7 = v7 → v8 = v8 → BoxAt Hx b → Keep b H Hx → Ls Hx D ms → (∀ n ∈ ms, Ok d n) → ms.length ≤ 51 → ∃ (v6 v7 v8 v9 : Option V) (ms : List (List Int)), σ = [some (.ref b), some (.ref l), some (.int p), some (.int (d : Nat)), some (.ref D), some (.int w), v6, v7, v8, v9] ∧ BoxAt Hx b ∧ Keep b H Hx ∧ Ls Hx D ms ∧ (∀ n ∈ ms, Ok d n) ∧ ms.length ≤ 51 := fun σ Hx ms _ _ _ _ e _ _ _ a1 a2 a3 a4 a5 => ⟨_, _, _, _, ms, e, a1, a2, a3, a4, a5⟩
      refine ⟨_, rfl, rfl, _, rfl, ite2 (fun c => ?_) (fun c => ?_)⟩
      · refine ⟨_, rfl, .inl ⟨rfl, _, SqL.of e1⟩, ?_⟩
        refine ⟨_, rfl, _, rfl, by omega, by omega, fun C hC => lc_range (lo := 0) (n := d) (fun j Hz => BoxAt Hz b ∧ Keep b H1 Hz ∧ ∃ cs : List Int, Hz C = some (.lst (cs.map V.int)) ∧ cs.length = j ∧ TS.Bd B10 cs)
          ⟨hB1.same (same_new hC _), Keep.of_same (same_new hC _), [], upd_same, rfl, fun c h => by cases h⟩ ?_ ?_⟩
        · rintro j Hz hj ⟨hBz, hKz, cs, eC, lc, bc⟩
          have nC : C ≠ b := hB1.ne hC
          refine ⟨rfl, _, rfl, _, rfl, b, _, rfl, (by omega), (by omega), hBz, fun v H5 v0 v1 hB5 hK5 => ⟨_, hK5.1 _ _ nC eC, ?_, ?_, ?_, cs ++ [v], ?_, ?_, ?_⟩⟩
          · rw [List.length_map, lc]
            exact small1000 (by omega)
          · exact hB1.upd hC (hKz.trans hK5) hB5
          · exact Keep.at hC nC (hKz.trans hK5)
          · rw [upd_same, List.map_append]
            rfl
          · rw [List.length_append, lc]
            rfl
          · intro c hc
            rcases List.mem_append.mp hc with h | h
            · exact bc c h
            · rw [List.mem_singleton.mp h]
              exact ⟨by omega, (by omega)⟩
        rintro Hz ⟨hBz, hKz, cs, eC, lc, bc⟩
        refine ⟨C, _, rfl, .inl ⟨SqL.of eC, fun q hq => ?_⟩⟩
        have gq := same_new hq (.tup (cs.map V.int))
        have tq : TI (upd Hz q (.tup (cs.map V.int))) (.ref q) cs := ⟨q, rfl, upd_same⟩
        have hB6 := hBz.same gq
        have hK6 := hKz.trans (Keep.of_same gq)
        generalize upd Hz q (.tup (cs.map V.int)) = H6 at gq tq hB6 hK6 ⊢
        have eD6 := hK6.1 _ _ nD e1
        refine ⟨D, _, _, rfl, rfl, eD6, small1000 (by omega), ?_⟩
        exact fin _ _ (ns ++ [cs]) rfl rfl rfl rfl (BoxAt.upd hB hD (hK1.trans hK6) hB6) (Keep.at hD nD (hK1.trans hK6)) ⟨_, upd_same, ((hI1.keep hB1 hK6).snoc tq).upd eD6⟩ (fun n hn => by
          rcases List.mem_append.mp hn with z | z
          · exact ho n z
          · rw [List.mem_singleton.mp z]
            exact ⟨lc, bc⟩) (by rw [List.length_append]; show _ + 1 ≤ 51; omega)
      refine ⟨_, rfl, (by show 0 ≤ sizeLine; decide), fun z hz => ?_⟩
      have gz := same_new hz (.lst [])
      have ez : Ls (upd H1 z (.lst [])) z [] := ⟨[], upd_same, .nil⟩
      have hB2 := hB1.same gz
      have hK2 := hK1.trans (Keep.of_same gz)
      have e2 := gz _ _ e1
      have hI2 := hI1.same gz
      have hL2 := hL1.same gz
      clear hB1 hK1 hI1 hL1 hB0 hI0 hL0 hK01
      generalize upd H1 z (.lst []) = H2 at gz ez hB2 hK2 e2 hI2 hL2 ⊢
      clear e1
      refine ⟨.list (ns.map tD), .list (([] : List (List Int)).map tD), hL2.dp, ez.dp, shLL _, shLL _, _, rfl, ?_⟩
      rw [eqvLL]
      clear ez
      refine ite2 (fun c => ?_) (fun c => ?_)
      · refine ⟨_, rfl, .inl ⟨rfl, _, SqL.of e2⟩, ?_⟩
        refine ⟨_, rfl, _, rfl, by omega, by omega, fun C hC => lc_range (lo := 0) (n := d) (fun j Hz => BoxAt Hz b ∧ Keep b H2 Hz ∧ ∃ cs : List Int, Hz C = some (.lst (cs.map V.int)) ∧ cs.length = j ∧ TS.Bd B10 cs)
          ⟨hB2.same (same_new hC _), Keep.of_same (same_new hC _), [], upd_same, rfl, fun c h => by cases h⟩ ?_ ?_⟩
        · rintro j Hz hj ⟨hBz, hKz, cs, eC, lc, bc⟩
          have nC : C ≠ b := hB2.ne hC
          refine ⟨rfl, _, rfl, _, rfl, b, _, rfl, (by omega), (by omega), hBz, fun v H5 v0 v1 hB5 hK5 => ⟨_, hK5.1 _ _ nC eC, ?_, ?_, ?_, cs ++ [v], ?_, ?_, ?_⟩⟩
          · rw [List.length_map, lc]
            exact small1000 (by omega)
          · exact hB2.upd hC (hKz.trans hK5) hB5
          · exact Keep.at hC nC (hKz.trans hK5)
          · rw [upd_same, List.map_append]
            rfl
          · rw [List.length_append, lc]
            rfl
          · intro c hc
            rcases List.mem_append.mp hc with h | h
            · exact bc c h
            · rw [List.mem_singleton.mp h]
              exact ⟨by omega, (by omega)⟩
        rintro Hz ⟨hBz, hKz, cs, eC, lc, bc⟩
        refine ⟨C, _, rfl, .inl ⟨SqL.of eC, fun q hq => ?_⟩⟩
        have gq := same_new hq (.tup (cs.map V.int))
        have tq : TI (upd Hz q (.tup (cs.map V.int))) (.ref q) cs := ⟨q, rfl, upd_same⟩
        have hB6 := hBz.same gq
        have hK6 := hKz.trans (Keep.of_same gq)
        generalize upd Hz q (.tup (cs.map V.int)) = H6 at gq tq hB6 hK6 ⊢
        have eD6 := hK6.1 _ _ nD e2
        refine ⟨D, _, _, rfl, rfl, eD6, small1000 (by omega), ?_⟩
        exact fin _ _ (ns ++ [cs]) rfl rfl rfl rfl (BoxAt.upd hB hD (hK2.trans hK6) hB6) (Keep.at hD nD (hK2.trans hK6)) ⟨_, upd_same, ((hI2.keep hB2 hK6).snoc tq).upd eD6⟩ (fun n hn => by
          rcases List.mem_append.mp hn with z | z
          · exact ho n z
          · rw [List.mem_singleton.mp z]
            exact ⟨lc, bc⟩) (by rw [List.length_append]; show _ + 1 ≤ 51; omega)
      have nn : ns ≠ [] := fun z => c (decide_eq_true z)
      have np : 0 < ns.length := List.length_pos_iff.mpr nn
      refine ⟨_, rfl, rfl, _, rfl, ite2 (fun c => ?_) (fun c => ?_)⟩
      · refine ⟨_, rfl, .inl ⟨rfl, _, SqL.of e2⟩, _, rfl, _, rfl, D, xs, rfl, .inl (SqL.of e2), b, _, rfl, by omega, by omega, hB2, fun dr H3 d0 d1 hB3 hK3 => ?_⟩
        have e3 := hK3.1 _ _ nD e2
        refine ⟨D, xs, dr, dr.toNat, _, rfl, rfl, e3, by omega, by omega, PySem.seqIndex_of d0 d1, List.getElem?_eq_getElem (by omega), ?_⟩
        exact fin _ _ (ns.eraseIdx dr.toNat) rfl rfl rfl rfl (BoxAt.upd hB hD (hK2.trans hK3) hB3) (Keep.at hD nD (hK2.trans hK3)) ⟨_, upd_same, ((hI2.keep hB2 hK3).eraseIdx _).upd e3⟩ (fun n hn => ho n (List.mem_of_mem_eraseIdx hn)) (Nat.le_trans (List.length_eraseIdx_le _ _) (by omega))
      refine ⟨_, rfl, rfl, _, rfl, ite2 (fun c => ?_) (fun c => ?_)⟩
      · refine ⟨_, rfl, _, rfl, D, xs, rfl, .inl (SqL.of e2), b, _, rfl, by omega, by omega, hB2, fun pk H3 d0 d1 hB3 hK3 => ⟨_, rfl, _, rfl, b, _, rfl, by omega, by omega, hB3, fun pl H4 k0 k1 hB4 hK4 => ⟨_, _, rfl, ?_⟩⟩⟩
        have hK34 := hK3.trans hK4
        have e4 := hK34.1 _ _ nD e2
        have hI4 := hI2.keep hB2 hK34
        have ex : xs[pk.toNat]? = some xs[pk.toNat] := List.getElem?_eq_getElem (by omega)
        obtain ⟨n, hn, t, et, ht⟩ := hI4.at_ ex
        have on := ho n (List.mem_of_getElem? hn)
        have ax : atI xs pk = some (.ref t) := by
          have := atI_nat ex
          rw [Int.toNat_of_nonneg d0, et] at this
          exact this
        refine ⟨_, rfl, _, rfl, D, xs, pk, _, rfl, rfl, SqL.of e4, ax, t, _, rfl, .inr (SqT.of ht), fun G hG => ?_⟩
        have g5 := same_new hG (.lst (n.map V.int))
        have e5 : upd H4 G (.lst (n.map V.int)) G = some (.lst (n.map V.int)) := upd_same
        have hB5 := hB4.same g5
        have eD5 := g5 _ _ e4
        have hI5 := hI4.same g5
        have hK5 := (hK2.trans hK34).trans (Keep.of_same g5)
        have hG0 : H G = none := kNone hB4 (hK2.trans hK34) hG
        have nG := hB.ne hG0
        have nGD : G ≠ D := fun z => by
          rw [z, e4] at hG
          cases hG
        generalize upd H4 G (.lst (n.map V.int)) = H5 at g5 e5 hB5 eD5 hI5 hK5 ⊢
        have nl : n.length = d := on.1
        have en : n[pl.toNat]? = some n[pl.toNat] := List.getElem?_eq_getElem (by omega)
        have an : atI (n.map V.int) pl = some (.int n[pl.toNat]) := by
          have := at_nat en
          rwa [Int.toNat_of_nonneg k0] at this
        have z0 := Int.emod_nonneg (n[pl.toNat] + 1) (show p ≠ 0 by omega)
        have z1 := Int.emod_lt_of_pos (n[pl.toNat] + 1) (show 0 < p by omega)
        refine ⟨_, rfl, _, rfl, G, _, _, _, rfl, rfl, SqL.of e5, an, _, _, rfl, rfl, .inl ⟨_, rfl, _, rfl, _, _, rfl, rfl, by omega, _, rfl, _, rfl, G, _, _, _, rfl, rfl, e5, ixN_of k0 (by rw [List.length_map]; omega), ?_⟩⟩
        rw [← List.map_set]
        have on2 : Ok d (n.set pl.toNat ((n[pl.toNat] + 1) % p)) := ok_set on z0 (by omega)
        generalize n.set pl.toNat ((n[pl.toNat] + 1) % p) = n2 at on2 ⊢
        have e6 : upd H5 G (.lst (n2.map V.int)) G = some (.lst (n2.map V.int)) := upd_same
        have hB6 := BoxAt.upd (o := .lst (n2.map V.int)) hB hG0 hK5 hB5
        have hK6 := Keep.at (o := .lst (n2.map V.int)) hG0 nG hK5
        have eD6 : upd H5 G (.lst (n2.map V.int)) D = some (.lst xs) := by rw [upd_ne (Ne.symm nGD)]; exact eD5
        have hI6 : Its (upd H5 G (.lst (n2.map V.int))) xs ns := hI5.upd e5
        generalize upd H5 G (.lst (n2.map V.int)) = H6 at e6 hB6 hK6 eD6 hI6 ⊢
        refine ⟨_, rfl, G, _, rfl, .inl ⟨SqL.of e6, fun q hq => ?_⟩⟩
        have g7 := same_new hq (.tup (n2.map V.int))
        have tq : TI (upd H6 q (.tup (n2.map V.int))) (.ref q) n2 := ⟨q, rfl, upd_same⟩
        have hB7 := hB6.same g7
        have hK7 := hK6.trans (Keep.of_same g7)
        have eD7 := g7 _ _ eD6
        have hI7 := hI6.same g7
        generalize upd H6 q (.tup (n2.map V.int)) = H7 at g7 tq hB7 hK7 eD7 hI7 ⊢
        refine ⟨_, rfl, _, rfl, D, xs, pk, pk.toNat, rfl, rfl, eD7, ixN_of d0 d1, ?_⟩
        exact fin _ _ (ns.set pk.toNat n2) rfl rfl rfl rfl (BoxAt.upd hB hD hK7 hB7) (Keep.at hD nD hK7) ⟨_, upd_same, (hI7.set _ tq).upd eD7⟩ (fun m hm => by
          rcases List.mem_or_eq_of_mem_set hm with z | z
          · exact ho m z
          · rw [z]
            exact on2) (by rw [List.length_set]; omega)
      refine ⟨_, rfl, rfl, _, rfl, ite2 (fun c => ?_) (fun c => ?_)⟩
      · obtain ⟨xl, el, hIl⟩ := id hL2
        have ll := hIl.len
        refine ⟨_, rfl, _, rfl, b, l, xl, rfl, hB2, hL2.ne hB2, SqL.of el, fun z => by rw [z] at ll; simp at ll; omega, by omega, fun q v H3 hq hB3 hK3 => ?_⟩
        obtain ⟨n, hn, tv⟩ := (hIl.keep hB2 hK3).at_ hq
        have e3 := hK3.1 _ _ nD e2
        refine ⟨_, rfl, _, rfl, _, rfl, D, xs, rfl, .inl (SqL.of e3), b, _, rfl, by omega, by omega, hB3, fun dr H4 d0 d1 hB4 hK4 => ?_⟩
        have e4 := hK4.1 _ _ nD e3
        have hK14 := hK2.trans (hK3.trans hK4)
        refine ⟨D, xs, dr, dr.toNat, rfl, rfl, e4, ixN_of d0 d1, ?_⟩
        exact fin _ _ (ns.set dr.toNat n) rfl rfl rfl rfl (BoxAt.upd hB hD hK14 hB4) (Keep.at hD nD hK14) ⟨_, upd_same, ((((hI2.keep hB2 hK3).keep hB3 hK4)).set _ (kTI hB3 hK4 tv)).upd e4⟩ (fun m hm => by
          rcases List.mem_or_eq_of_mem_set hm with z | z
          · exact ho m z
          · rw [z]
            exact ho n (List.mem_of_getElem? hn)) (by rw [List.length_set]; omega)
      · exact fin _ _ ns rfl rfl rfl rfl hB2 hK2 ⟨xs, e2, hI2⟩ ho (by omega)
    rintro σ Hx ⟨v6, v7, v8, v9, ms, rfl, hBx, hKx, hL, ho, hl⟩
    exact ⟨_, rfl, k D ms Hx hBx hKx hL ho hl⟩
end
end K0

set_option maxRecDepth 100000
set_option maxHeartbeats 4000000
namespace K0
open PySem L2 BM BR

def spDown {K : PySem.W.Frag} {mg : Str → Option Value} (T : Txt K mg) : Sp := fun vs H Q _ => ∃ (b a l : Addr) (ns : List (List Int)) (p : Int) (d : Nat), vs = [.ref b, .ref a, .ref l, .int p, .int (d : Nat)] ∧ BoxAt H b ∧ BagAt T H a (srt ns) ∧ Ls H l ns ∧ 1 < p ∧ p < 10000000000 ∧ ns.length ≤ 50 ∧ 1 ≤ d ∧ d ≤ 100 ∧ (∀ n ∈ ns, Ok d n) ∧
  ∀ H', BoxAt H' b → Keep b H H' → Q (.bl true) H'
theorem srt_map {d : Nat} {l : List (List Int)} {f : List Int → List Int} (h : ∀ n ∈ l.map f, Ok d n) : srt ((srt l).map f) = srt (srt (l.map f)) := by
  have p : ((srt l).map f).Perm (l.map f) := (srt_perm l).map f
  rw [srt_eq (fun a ha => h a (p.mem_iff.mp ha)) p]
  exact srt_eq h (srt_perm (l.map f)).symm
theorem prd_srt (p z : Int) (l : List (List Int)) : prd p z (srt l) = prd p z l := prd_perm (srt_perm l)
section
variable {P : Program} {w : World} {K : PySem.W.Frag} {mg : Str → Option Value} {base : Heap}
theorem ok_merged_down (T : Txt K mg) : FnOk P w K mg base CX0 10 T.f_merged_down T.fd_merged_down ["box", "bag", "items", "prime", "long"] (spDown T) := by
  refine T.F_merged_down.ok sc_merged_down (fun vs H Q E h => ?_) (fun cdv A outer s H vs Q E hr h => ?_)
  · obtain ⟨b, a, l, ns, p, d, rfl, _⟩ := h
    rfl
  · obtain ⟨b, a, l, ns, p, d, rfl, hB, hA, hL, p0, p1, hl, hd, hd1, ho, k⟩ := h
    refine ⟨_, (pss_cons (ps_par (i := 5) (j := 6) (by rfl) sc_merged_down.nd rfl rfl (by decide) rfl rfl (pa_cons (pv 2) (pa_cons (pv 1) pa_nil)) (by rfl))
      (C8.pss_cut (ps_for PassesOwn.never rfl (pi_range1 (by rfl) T.z_range (pa_cons (pe_op op_sub (pv 4) pe_int) pa_nil)) (pg_name (i := 7) sc_merged_down.nd rfl (Or.inl rfl)) (pss_cons (ps_if (pt_cmpR (op_eqD hr.units) (pv 2) (pe_lst pa_nil) (nomark _)) (pss_one ps_break) pss_nil)
      (pss_cons (ps_set (i := 8) sc_merged_down.nd rfl (Or.inl rfl) (pe_call (ok_number T) (hr.mono (by decide)) (by rfl) T.g_number T.F_number.kp T.b_number .nil pass0 (pa_cons (pv 0) (pa_cons (pv 3) pa_nil))))
      (pss_cons (ps_set (i := 6) sc_merged_down.nd rfl (Or.inl rfl) (pe_ifExp (pt_cmpR op_eq (pe_op op_mod (pv 7) pe_int) pe_int (nomark _)) (OV.pe_methKA (pv 6) T.cl T.me_m_merged (ok_m_merged T) (hr.mono (by decide)) T.kb_m_merged1 pass0 (pa_cons (pv 8) pa_nil) (pk_cons (pv 3) pk_nil)) (OV.pe_methK (pv 6) T.cl T.me_m_merged (ok_m_merged T) (hr.mono (by decide)) T.kb_m_merged0 pass0 (pk_cons (pv 3) (pk_cons (pv 8) pk_nil)))))
      (pss_cons (ps_set (i := 5) sc_merged_down.nd rfl (Or.inl rfl) (pe_call (ok_merge T) (hr.mono (by decide)) (by rfl) T.g_merge T.F_merge.kp T.b_merge .nil pass0 (pa_cons (pv 5) (pa_cons (pv 8) (pa_cons (pv 3) pa_nil)))))
      (pss_one (ps_if (pt_not (pt_val (pe_call (ok_is_bag T) (hr.mono (by decide)) (by rfl) T.g_is_bag T.F_is_bag.kp T.b_is_bag .nil pass0 (pa_cons (pv 6) (pa_cons (pv 5) pa_nil))))) (pss_one (ps_ret pe_bl)) pss_nil)))))))
      (C8.pss_cut (ps_if (PW.pt (pw_and (pt_cmpR (op_eqD hr.units) (pv 2) (pe_lst pa_nil) (nomark _)) (pw_and1 (pt_cmpR op_gt (pv 4) pe_int (nomark _))))) (pss_one (ps_ret (pe_call (ok_same T 8) (hr.mono (by decide)) (by rfl) T.g_same T.F_same.kp T.b_same .nil pass0 (pa_cons (OV.pe_methKA (BR.pe_makeR0 T.mk_ (ok_init T) (hr.mono (by decide)) (by rfl) T.gC_Bag pass0) T.cl T.me_m_product (ok_m_product T) (hr.mono (by decide)) T.kb_m_product1 pass0 (pa_cons (pe_call (ok_number T) (hr.mono (by decide)) (by rfl) T.g_number T.F_number.kp T.b_number .nil pass0 (pa_cons (pv 0) (pa_cons (pv 3) pa_nil))) pa_nil) (pk_cons (pv 3) pk_nil)) (pa_cons pe_int pa_nil))))) pss_nil)
      (pss_cons (ps_for PassesOwn.never rfl (pi_range1 (by rfl) T.z_range (pa_cons pe_int pa_nil)) (pg_name (i := 7) sc_merged_down.nd rfl (Or.inl rfl)) (pss_cons (ps_par (i := 9) (j := 10) (by rfl) sc_merged_down.nd rfl rfl (by decide) rfl rfl (pa_cons (pe_call (ok_number T) (hr.mono (by decide)) (by rfl) T.g_number T.F_number.kp T.b_number .nil pass0 (pa_cons (pv 0) (pa_cons (pv 3) pa_nil))) (pa_cons pe_int pa_nil)) (by rfl))
      (C8.pss_cut (ps_if (PW.pt (pw_and (pt_cmpR op_eq (pv 7) pe_int (nomark _)) (pw_and1 (pt_cmpR (op_neD hr.units) (pv 5) (pe_lst pa_nil) (nomark _))))) (pss_one (ps_set (i := 9) sc_merged_down.nd rfl (Or.inl rfl) (pe_ix ix_tup (pe_call (ok_of T) (hr.mono (by decide)) (by rfl) T.g_of T.F_of.kp T.b_of .nil pass0 (pa_cons (pv 0) (pa_cons (pv 5) pa_nil))) pe_int (fun _ _ => rfl)))) pss_nil)
      (pss_cons (ps_for PassesOwn.never rfl (pi_list (pv 5)) (pg_name (i := 11) sc_merged_down.nd rfl (Or.inl rfl)) (pss_one (ps_set (i := 10) sc_merged_down.nd rfl (Or.inl rfl) (pe_op op_mod (pe_callTy call_int1 (by rfl) T.z_int (by decide +kernel) (pa_cons (pe_op op_mul (pv 10) (pe_op op_sub (pv 9) (pe_ix ix_tup (pv 11) pe_int (fun _ _ => rfl)))) pa_nil)) (pv 3)))))
      (pss_one (ps_if (PW.pt (pw_or (pt_not (pt_val (pe_call (ok_same T 8) (hr.mono (by decide)) (by rfl) T.g_same T.F_same.kp T.b_same .nil pass0 (pa_cons (OV.pe_methKA (pv 6) T.cl T.me_m_product (ok_m_product T) (hr.mono (by decide)) T.kb_m_product1 pass0 (pa_cons (pv 9) pa_nil) (pk_cons (pv 3) pk_nil)) (pa_cons (pv 10) pa_nil))))) (pw_or1 (pt_not (pt_val (pe_call (ok_same T 8) (hr.mono (by decide)) (by rfl) T.g_same T.F_same.kp T.b_same .nil pass0 (pa_cons (OV.pe_methK (pv 6) T.cl T.me_m_product (ok_m_product T) (hr.mono (by decide)) T.kb_m_product0 pass0 (pk_cons (pv 3) (pk_cons (pv 9) pk_nil))) (pa_cons (pv 10) pa_nil)))))))) (pss_one (ps_ret pe_bl)) pss_nil))))))
      (pss_one (ps_ret pe_bl)))))), ?_⟩
    have hB10 : B10 = 10000000000 := rfl
    refine ⟨_, rfl, _, rfl, _, _, rfl, ?_⟩
    refine ⟨fun σ Hx => ∃ (h f : Addr) (ms : List (List Int)) (v7 v8 v9 v10 v11 : Option V), σ = [some (.ref b), some (.ref a), some (.ref l), some (.int p), some (.int (d : Nat)), some (.ref h), some (.ref f), v7, v8, v9, v10, v11] ∧ BoxAt Hx b ∧ Keep b H Hx ∧ Ls Hx l ns ∧ Ls Hx h ms ∧ BagAt T Hx f (srt ms) ∧ ms.length = ns.length ∧ ∀ n ∈ ms, Ok 1 n, ?_, ?_⟩
    · refine ⟨_, rfl, _, _, rfl, rfl, _, rfl, by omega, by omega, for_range (lo := 0) (fun i σ Hx => ∃ (h f : Addr) (ms : List (List Int)) (v7 v8 v9 v10 v11 : Option V), σ = [some (.ref b), some (.ref a), some (.ref l), some (.int p), some (.int (d : Nat)), some (.ref h), some (.ref f), v7, v8, v9, v10, v11] ∧ BoxAt Hx b ∧ Keep b H Hx ∧ Ls Hx l ns ∧ Ls Hx h ms ∧ BagAt T Hx f (srt ms) ∧ ms.length = ns.length ∧ ∀ n ∈ ms, Ok (d - i) n)
        ⟨l, a, ns, none, none, none, none, none, rfl, hB, Keep.refl, hL, hL, hA, rfl, ho⟩ ?_ ?_⟩
      · rintro i σ Hx hi ⟨h, f, ms, v7, v8, v9, v10, v11, rfl, hBx, hKx, hLx, hh, hA, lm, ho⟩
        refine ⟨_, rfl, (by show 0 ≤ sizeLine; decide), fun z hz => ?_⟩
        have gz := same_new hz (.lst [])
        have ez : Ls (upd Hx z (.lst [])) z [] := ⟨[], upd_same, .nil⟩
        have hB2 := hBx.same gz
        have hK2 := hKx.trans (Keep.of_same gz)
        have hL2 := hLx.same gz
        have hh2 := hh.same gz
        have hA2 := hA.same gz
        generalize upd Hx z (.lst []) = H2 at gz ez hB2 hK2 hL2 hh2 hA2 ⊢
        refine ⟨.list (ns.map tD), .list (([] : List (List Int)).map tD), hL2.dp, ez.dp, shLL _, shLL _, _, rfl, ?_⟩
        rw [eqvLL]
        refine ite2 (fun c => ?_) (fun c => ?_)
        · have en : ns = [] := of_decide_eq_true c
          have em : ms = [] := List.eq_nil_of_length_eq_zero (by rw [lm, en]; rfl)
          exact ⟨h, f, ms, _, _, _, _, _, rfl, hB2, hK2, hL2, hh2, hA2, lm, fun n hn => by rw [em] at hn; cases hn⟩
        refine ⟨_, rfl, _, rfl, b, p, rfl, hB2, by omega, p1, fun g H3 g0 g1 hB3 hK3 => ?_⟩
        have hA3 := hA2.keep hB2 hK3
        have hh3 := hh2.keep hB2 hK3
        have hL3 := hL2.keep hB2 hK3
        have hK03 := hK2.trans hK3
        have hok : ∀ n ∈ ms.map (mrg g p), Ok (d - (i + 1)) n := fun n hn => by
          obtain ⟨m0, hm, rfl⟩ := List.mem_map.mp hn
          have := mrg_ok (d := d - i - 2) (g := g) (p := p) (by omega) (by omega) (n := m0) (by rw [show d - i - 2 + 2 = d - i by omega]; exact ho m0 hm)
          rwa [show d - i - 2 + 1 = d - (i + 1) by omega] at this
        have ei : (0 : Int) + (i : Nat) = ((i : Nat) : Int) := by omega
        refine ⟨_, rfl, _, _, rfl, rfl, (by show (0 : Int) < 2; decide), rfl, _, rfl, ?_⟩
        obtain ⟨dx, mm, hf⟩ := hA3.ins2
        refine ite2 (fun c2 => ?_) (fun c2 => ?_)
        · refine ⟨_, rfl, f, dx, _, rfl, hf, rfl, _, rfl, _, rfl, rfl, rfl, ?_⟩
          refine ⟨f, srt ms, g, p, d - i - 2, rfl, hA3, by omega, by omega, by omega, fun n hn => ?_, by rw [srt_len]; omega, fun x H4 g4 hx => ?_⟩
          · have := ho n ((srt_perm ms).mem_iff.mp hn)
            rwa [show d - i - 2 + 2 = d - i by omega]
          rw [srt_map hok] at hx
          have hB4 := hB3.same g4
          have hK04 := hK03.trans (Keep.of_same g4)
          refine ⟨_, rfl, _, rfl, _, rfl, h, ms, g, p, d - i - 2, rfl, hh3.same g4, by omega, by omega, by omega, fun n hn => ?_, by omega, fun h2 H5 g5 hh5 => ?_⟩
          · have := ho n hn
            rwa [show d - i - 2 + 2 = d - i by omega]
          have hB5 := hB4.same g5
          have hx5 := hx.same g5
          have hK05 := hK04.trans (Keep.of_same g5)
          have hL5 := (hL3.same g4).same g5
          have hl5 : (srt (ms.map (mrg g p))).length = ns.length := by rw [srt_len, List.length_map, lm]
          refine ⟨_, rfl, _, rfl, b, x, h2, srt (ms.map (mrg g p)), d - (i + 1), rfl, hB5, hx5, hh5, by omega, by omega, srt_ok hok, by omega, fun H6 g6 => ⟨_, rfl, iteF ?_⟩⟩
          exact ⟨h2, x, _, _, _, _, _, _, rfl, hB5.same g6, hK05.trans (Keep.of_same g6), hL5.same g6, hh5.same g6, hx5.same g6, hl5, srt_ok hok⟩
        · refine ⟨_, rfl, f, dx, _, rfl, hf, rfl, _, rfl, _, rfl, rfl, ?_⟩
          refine ⟨f, srt ms, g, p, d - i - 2, rfl, hA3, by omega, by omega, by omega, fun n hn => ?_, by rw [srt_len]; omega, fun x H4 g4 hx => ?_⟩
          · have := ho n ((srt_perm ms).mem_iff.mp hn)
            rwa [show d - i - 2 + 2 = d - i by omega]
          rw [srt_map hok] at hx
          have hB4 := hB3.same g4
          have hK04 := hK03.trans (Keep.of_same g4)
          refine ⟨_, rfl, _, rfl, _, rfl, h, ms, g, p, d - i - 2, rfl, hh3.same g4, by omega, by omega, by omega, fun n hn => ?_, by omega, fun h2 H5 g5 hh5 => ?_⟩
          · have := ho n hn
            rwa [show d - i - 2 + 2 = d - i by omega]
          have hB5 := hB4.same g5
          have hx5 := hx.same g5
          have hK05 := hK04.trans (Keep.of_same g5)
          have hL5 := (hL3.same g4).same g5
          have hl5 : (srt (ms.map (mrg g p))).length = ns.length := by rw [srt_len, List.length_map, lm]
          refine ⟨_, rfl, _, rfl, b, x, h2, srt (ms.map (mrg g p)), d - (i + 1), rfl, hB5, hx5, hh5, by omega, by omega, srt_ok hok, by omega, fun H6 g6 => ⟨_, rfl, iteF ?_⟩⟩
          exact ⟨h2, x, _, _, _, _, _, _, rfl, hB5.same g6, hK05.trans (Keep.of_same g6), hL5.same g6, hh5.same g6, hx5.same g6, hl5, srt_ok hok⟩
      · rintro σ Hx ⟨h, f, ms, v7, v8, v9, v10, v11, rfl, hBx, hKx, hLx, hh, hA, lm, ho⟩
        refine ⟨h, f, ms, _, _, _, _, _, rfl, hBx, hKx, hLx, hh, hA, lm, ?_⟩
        rwa [show d - ((d : Int) - 1).toNat = 1 by omega] at ho
    rintro σ Hx ⟨h, f, ms, v7, v8, v9, v10, v11, rfl, hBx, hKx, hLx, hh, hA, lm, ho⟩
    -- no items
    refine ⟨fun σ Hx => ∃ (v7 v8 v9 v10 v11 : Option V), σ = [some (.ref b), some (.ref a), some (.ref l), some (.int p), some (.int (d : Nat)), some (.ref h), some (.ref f), v7, v8, v9, v10, v11] ∧ BoxAt Hx b ∧ Keep b H Hx ∧ Ls Hx h ms ∧ BagAt T Hx f (srt ms), ?_, ?_⟩
    · refine ⟨_, rfl, (by show 0 ≤ sizeLine; decide), fun z hz => ?_⟩
      have gz := same_new hz (.lst [])
      have ez : Ls (upd Hx z (.lst [])) z [] := ⟨[], upd_same, .nil⟩
      have hB2 := hBx.same gz
      have hK2 := hKx.trans (Keep.of_same gz)
      have hL2 := hLx.same gz
      have hh2 := hh.same gz
      have hA2 := hA.same gz
      generalize upd Hx z (.lst []) = H2 at gz ez hB2 hK2 hL2 hh2 hA2 ⊢
      refine ⟨.list (ns.map tD), .list (([] : List (List Int)).map tD), hL2.dp, ez.dp, shLL _, shLL _, _, rfl, ?_⟩
      rw [eqvLL]
      refine ite2 (fun c => ?_) (fun c => ⟨_, _, _, _, _, rfl, hB2, hK2, hh2, hA2⟩)
      refine ⟨_, rfl, _, _, rfl, rfl, _, rfl, ite2 (fun c2 => ?_) (fun c2 => ⟨_, _, _, _, _, rfl, hB2, hK2, hh2, hA2⟩)⟩
      refine init_of (ns := []) (d := 1) .nil (by decide) (fun _ z => nomatch z) (by decide) fun m0 H3 g3 hm0 => ?_
      obtain ⟨dx, mm, e0⟩ := hm0.ins2
      rw [srt_nil] at hm0
      refine ⟨m0, dx, _, rfl, e0, rfl, _, rfl, _, rfl, b, p, rfl, hB2.same g3, by omega, p1, fun z H4 z0 z1 hB4 hK4 => ⟨_, rfl, rfl, rfl, ?_⟩⟩
      have hB3 := hB2.same g3
      refine ⟨m0, [], z, p, rfl, hm0.keep hB3 hK4, by omega, by omega, (fun _ z => nomatch z), b, _, _, rfl, eI rfl, fun H5 g5 => ?_⟩
      exact k H5 (hB4.same g5) (hK2.trans ((Keep.of_same g3).trans (hK4.trans (Keep.of_same g5))))
    rintro σ Hx ⟨v7, v8, v9, v10, v11, rfl, hBx, hKx, hh, hA⟩
    refine ⟨2, rfl, by decide, by decide, for_range (lo := 0) (fun i σ Hx => ∃ (v7 v8 v9 v10 v11 : Option V), σ = [some (.ref b), some (.ref a), some (.ref l), some (.int p), some (.int (d : Nat)), some (.ref h), some (.ref f), v7, v8, v9, v10, v11] ∧ BoxAt Hx b ∧ Keep b H Hx ∧ Ls Hx h ms ∧ BagAt T Hx f (srt ms))
      ⟨_, _, _, _, _, rfl, hBx, hKx, hh, hA⟩ ?_ ?_⟩
    · clear hBx hKx hh hA
      rintro i σ Hx hi ⟨v7, v8, v9, v10, v11, rfl, hBx, hKx, hh, hA⟩
      refine ⟨_, rfl, _, rfl, b, p, rfl, hBx, by omega, p1, fun z H2 z0 z1 hB2 hK2 => ⟨_, _, rfl, ?_⟩⟩
      have hK02 := hKx.trans hK2
      have hh2 := hh.keep hBx hK2
      have hA2 := hA.keep hBx hK2
      refine ⟨fun σ Hx => ∃ (v8 v11 : Option V) (z : Int), σ = [some (.ref b), some (.ref a), some (.ref l), some (.int p), some (.int (d : Nat)), some (.ref h), some (.ref f), some (.int (0 + (i : Nat))), v8, some (.int z), some (.int 1), v11] ∧ BoxAt Hx b ∧ Keep b H Hx ∧ Ls Hx h ms ∧ BagAt T Hx f (srt ms) ∧ -10000000002 ≤ z ∧ z ≤ 10000000002, ?_, ?_⟩
      · refine ⟨_, rfl, rfl, _, rfl, ite2 (fun c => ?_) (fun c => ⟨_, _, z, rfl, hB2, hK02, hh2, hA2, by omega, by omega⟩)⟩
        refine ⟨_, rfl, (by show 0 ≤ sizeLine; decide), fun y hy => ?_⟩
        have gy := same_new hy (.lst [])
        have ey : Ls (upd H2 y (.lst [])) y [] := ⟨[], upd_same, .nil⟩
        have hB3 := hB2.same gy
        have hK3 := hK02.trans (Keep.of_same gy)
        have hh3 := hh2.same gy
        have hA3 := hA2.same gy
        generalize upd H2 y (.lst []) = H3 at gy ey hB3 hK3 hh3 hA3 ⊢
        refine ⟨.list (ms.map tD), .list (([] : List (List Int)).map tD), hh3.dp, ey.dp, shLL _, shLL _, _, rfl, ?_⟩
        rw [eqvLL]
        refine ite2 (fun c2 => ?_) (fun c2 => ⟨_, _, z, rfl, hB3, hK3, hh3, hA3, by omega, by omega⟩)
        have ne : ms ≠ [] := fun z => by
          rw [z] at c2
          simp at c2
        obtain ⟨xs, eX, hI⟩ := id hh3
        have ll := hI.len
        have lp := List.length_pos_iff.mpr ne
        refine ⟨_, rfl, _, rfl, b, h, xs, rfl, hB3, hh3.ne hB3, SqL.of eX, fun z => by rw [z] at ll; simp at ll; omega, by omega, fun q v H4 hq hB4 hK4 => ?_⟩
        obtain ⟨n, hn, t, rfl, ht⟩ := (hI.keep hB3 hK4).at_ hq
        obtain ⟨o1, o2⟩ := ho n (List.mem_of_getElem? hn)
        have en : n[0]? = some n[0] := List.getElem?_eq_getElem (by omega)
        have nb := o2 _ (List.getElem_mem (l := n) (n := 0) (by omega))
        exact ⟨t, _, _, _, rfl, rfl, SqT.of ht, at_nat en, _, _, n[0], rfl, hB4, hK3.trans hK4, hh3.keep hB3 hK4, hA3.keep hB3 hK4, by omega, by omega⟩
      clear hB2 hK2 hK02 hh2 hA2 z0 z1
      rintro σ Hy ⟨v8, v11, z, rfl, hB2, hK2, hh2, hA2, z0, z1⟩
      obtain ⟨xs, eX, hI⟩ := id hh2
      have ll := hI.len
      refine ⟨_, rfl, h, rfl, ⟨_, SqL.of eX⟩, for_list (K := K) (a := h) (xs := xs) (fun j σ Hz => ∃ (v11 : Option V), σ = [some (.ref b), some (.ref a), some (.ref l), some (.int p), some (.int (d : Nat)), some (.ref h), some (.ref f), some (.int (0 + (i : Nat))), v8, some (.int z), some (.int (prd p z (ms.take j))), v11] ∧ Hz = Hy)
        ⟨v11, rfl, rfl⟩ (fun j σ Hz _ ⟨_, _, e⟩ => by rw [e]; exact SqL.of eX) ?_ ?_⟩
      · rintro j y σ Hz hj ⟨v11, rfl, rfl⟩
        obtain ⟨n, hn, t, rfl, ht⟩ := hI.at_ hj
        obtain ⟨o1, o2⟩ := ho n (List.mem_of_getElem? hn)
        have en : n[0]? = some n[0] := List.getElem?_eq_getElem (by omega)
        obtain ⟨t0, t1⟩ := prd_bd (p := p) (z := z) (by omega) (by omega) (ms.take j)
        refine ⟨_, rfl, _, rfl, _, rfl, t, _, _, _, rfl, rfl, SqT.of ht, at_nat en, _, _, rfl, rfl, _, _, rfl, rfl, .inl ⟨by omega, by omega⟩, .inl ⟨_, rfl, _, rfl, _, _, rfl, rfl, by omega, some (.ref t), ?_, rfl⟩⟩
        rw [prd_take hn]
        unfold stepP
        rw [getD_of en]
        rfl
      · rintro σ Hz ⟨v11, rfl, rfl⟩
        rw [ll, List.take_length]
        obtain ⟨dx, mm, hf⟩ := hA2.ins2
        refine ⟨_, rfl, f, dx, _, rfl, hf, rfl, _, rfl, _, rfl, rfl, rfl, f, srt ms, z, p, rfl, hA2, by omega, by omega, srt_ok ho, ?_⟩
        rw [prd_srt]
        refine ⟨_, rfl, b, _, _, rfl, eI rfl, fun H4 g4 => ⟨_, rfl, iteF ?_⟩⟩
        refine ⟨_, rfl, f, dx, _, rfl, g4 _ _ hf, rfl, _, rfl, _, rfl, rfl, f, srt ms, z, p, rfl, hA2.same g4, by omega, by omega, srt_ok ho, ?_⟩
        rw [prd_srt]
        refine ⟨_, rfl, b, _, _, rfl, eI rfl, fun H5 g5 => ⟨_, rfl, iteF ?_⟩⟩
        have g45 := g4.trans g5
        exact ⟨_, _, _, _, _, rfl, hB2.same g45, hK2.trans (Keep.of_same g45), hh2.same g45, hA2.same g45⟩
    rintro σ Hx ⟨v7, v8, v9, v10, v11, rfl, hBx, hKx, hh, hA⟩
    exact k Hx hBx hKx
end
end K0

set_option maxRecDepth 100000
set_option maxHeartbeats 4000000
namespace K0
open PySem L2 BM BR

def spLaw (K : PySem.W.Frag) : Sp := fun vs H Q _ => ∃ (a : Addr) (ns : List Int), vs = [.ref a] ∧ SqL K H a (ns.map V.int) ∧ ns.length ≤ 63 ∧ ∀ H', Q (.bl true) H'
structure LI {K : PySem.W.Frag} {mg : Str → Option Value} (T : Txt K mg) (b x y f s : Addr) (ns ms : List (List Int)) (H : Hp) : Prop where
  hB : BoxAt H b
  bx : BagAt T H x (srt ns)
  bY : BagAt T H y (srt ms)
  lf : Ls H f ns
  ls : Ls H s ms
theorem LI.keep {K : PySem.W.Frag} {mg : Str → Option Value} {T : Txt K mg} {b x y f s : Addr} {ns ms : List (List Int)} {H H' : Hp} (h : LI T b x y f s ns ms H) (hB : BoxAt H' b) (k : Keep b H H') : LI T b x y f s ns ms H' :=
  ⟨hB, h.bx.keep h.hB k, h.bY.keep h.hB k, h.lf.keep h.hB k, h.ls.keep h.hB k⟩
theorem LI.same {K : PySem.W.Frag} {mg : Str → Option Value} {T : Txt K mg} {b x y f s : Addr} {ns ms : List (List Int)} {H H' : Hp} (h : LI T b x y f s ns ms H) (g : Same H H') : LI T b x y f s ns ms H' := h.keep (h.hB.same g) (Keep.of_same g)
theorem rep_any {K : PySem.W.Frag} {d : Nat} {u : Addr} {z : Int} {H : Hp} {Q : VK} (hd : 1 ≤ d ∧ d ≤ 14) (eu : H u = some (.tup [.int z])) (k : ∀ v H', Same H H' → Q v H') : rRepX K (.ref u) (.int (d : Nat)) H Q := by
  rcases (by omega : d = 1 ∨ 2 ≤ d) with rfl | h
  · exact .inl ⟨u, _, rfl, rfl, SqT.of eu, k _ _ (Same.refl _)⟩
  · exact .inr ⟨u, _, _, rfl, rfl, SqT.of eu, by simp, by omega, by omega, by simp, fun p hp => k _ _ (same_new hp _)⟩
section
variable {P : Program} {w : World} {K : PySem.W.Frag} {mg : Str → Option Value} {base : Heap}
theorem ok_law (T : Txt K mg) : FnOk P w K mg base CX0 11 T.f_law T.fd_law ["script"] (spLaw K) := by
  refine T.F_law.ok sc_law (fun vs H Q E h => ?_) (fun cdv A outer s H vs Q E hr h => ?_)
  · obtain ⟨a, ns0, rfl, _⟩ := h
    rfl
  · obtain ⟨a, ns0, rfl, hS, h63, k⟩ := h
    refine ⟨_, (pss_cons (ps_set (i := 1) sc_law.nd rfl (Or.inl rfl) (pe_call (ok_box T) (hr.mono (by decide)) (by rfl) T.g_box T.F_box.kp T.b_box .nil pass0 (pa_cons (pv 0) pa_nil)))
      (pss_cons (ps_par (i := 2) (j := 3) (by rfl) sc_law.nd rfl rfl (by decide) rfl rfl (pa_cons (pe_call (ok_prime T) (hr.mono (by decide)) (by rfl) T.g_prime T.F_prime.kp T.b_prime .nil pass0 (pa_cons (pv 1) pa_nil)) (pa_cons (pe_call (ok_of T) (hr.mono (by decide)) (by rfl) T.g_of T.F_of.kp T.b_of .nil pass0 (pa_cons (pv 1) (pa_cons (pe_lst (pa_cons pe_int (pa_cons pe_int (pa_cons pe_int (pa_cons pe_int (pa_cons pe_int (pa_cons pe_int (pa_cons pe_int (pa_cons pe_int pa_nil))))))))) pa_nil))) pa_nil)) (by rfl))
      (pss_cons (ps_set (i := 4) sc_law.nd rfl (Or.inl rfl) (pe_call (ok_items T) (hr.mono (by decide)) (by rfl) T.g_items T.F_items.kp T.b_items .nil pass0 (pa_cons (pv 1) (pa_cons (pv 2) (pa_cons (pv 3) (pa_cons (pe_call (ok_of T) (hr.mono (by decide)) (by rfl) T.g_of T.F_of.kp T.b_of .nil pass0 (pa_cons (pv 1) (pa_cons (pe_lst (pa_cons pe_int (pa_cons pe_int (pa_cons pe_int (pa_cons pe_int (pa_cons pe_int (pa_cons pe_int (pa_cons pe_int (pa_cons pe_int pa_nil))))))))) pa_nil))) pa_nil))))))
      (pss_cons (ps_set (i := 5) sc_law.nd rfl (Or.inl rfl) (pe_call (ok_items T) (hr.mono (by decide)) (by rfl) T.g_items T.F_items.kp T.b_items .nil pass0 (pa_cons (pv 1) (pa_cons (pv 2) (pa_cons (pv 3) (pa_cons (pe_call (ok_of T) (hr.mono (by decide)) (by rfl) T.g_of T.F_of.kp T.b_of .nil pass0 (pa_cons (pv 1) (pa_cons (pe_lst (pa_cons pe_int (pa_cons pe_int (pa_cons pe_int (pa_cons pe_int pa_nil))))) pa_nil))) pa_nil))))))
      (pss_cons (ps_par (i := 6) (j := 7) (by rfl) sc_law.nd rfl rfl (by decide) rfl rfl (pa_cons (pe_call (ok_bag T) (hr.mono (by decide)) (by rfl) T.g_bag T.F_bag.kp T.b_bag .nil pass0 (pa_cons (pv 1) (pa_cons (pv 4) pa_nil))) (pa_cons (pe_call (ok_bag T) (hr.mono (by decide)) (by rfl) T.g_bag T.F_bag.kp T.b_bag .nil pass0 (pa_cons (pv 1) (pa_cons (pv 5) pa_nil))) pa_nil)) (by rfl))
      (C8.pss_cut (ps_if (PW.pt (pw_or (pt_not (pt_val (pe_call (ok_is_bag T) (hr.mono (by decide)) (by rfl) T.g_is_bag T.F_is_bag.kp T.b_is_bag .nil pass0 (pa_cons (pv 6) (pa_cons (pv 4) pa_nil))))) (pw_or (pt_not (pt_val (pe_call (ok_is_bag T) (hr.mono (by decide)) (by rfl) T.g_is_bag T.F_is_bag.kp T.b_is_bag .nil pass0 (pa_cons (pv 7) (pa_cons (pv 5) pa_nil))))) (pw_or1 (pt_not (pt_val (pe_call (ok_is_bag T) (hr.mono (by decide)) (by rfl) T.g_is_bag T.F_is_bag.kp T.b_is_bag .nil pass0 (pa_cons (BR.pe_makeR0 T.mk_ (ok_init T) (hr.mono (by decide)) (by rfl) T.gC_Bag pass0) (pa_cons (pe_lst pa_nil) pa_nil))))))))) (pss_one (ps_ret pe_bl)) pss_nil)
      (C8.pss_cut (ps_if (PW.pt (pw_or (pt_not (pt_val (pe_call (ok_asked T) (hr.mono (by decide)) (by rfl) T.g_asked T.F_asked.kp T.b_asked .nil pass0 (pa_cons (pv 1) (pa_cons (pv 6) (pa_cons (pv 4) (pa_cons (pv 2) (pa_cons (pv 3) pa_nil)))))))) (pw_or1 (pt_not (pt_val (pe_call (ok_asked T) (hr.mono (by decide)) (by rfl) T.g_asked T.F_asked.kp T.b_asked .nil pass0 (pa_cons (pv 1) (pa_cons (pv 7) (pa_cons (pv 5) (pa_cons (pv 2) (pa_cons (pv 3) pa_nil))))))))))) (pss_one (ps_ret pe_bl)) pss_nil)
      (C8.pss_cut (ps_if (PW.pt (pw_or (pt_not (pt_val (pe_call (ok_is_bag T) (hr.mono (by decide)) (by rfl) T.g_is_bag T.F_is_bag.kp T.b_is_bag .nil pass0 (pa_cons (pe_op (OV.op_bin (op := .Add) T.sf T.f_add T.n_add ((ok_m_add T).raw T.b_m_add .nil) (hr.mono (by decide)) pass0) (pv 6) (pv 7)) (pa_cons (pe_op op_cat (pv 4) (pv 5)) pa_nil))))) (pw_or1 (pt_not (pt_val (pe_call (ok_same T 8) (hr.mono (by decide)) (by rfl) T.g_same T.F_same.kp T.b_same .nil pass0 (pa_cons (pe_cmpR (OV.op_eqO (fun _ _ => rfl) T.f_eq T.n_eq ((ok_m_eq T).raw T.b_m_eq .nil) (hr.mono (by decide)) pass0) (pe_op (OV.op_bin (op := .Add) T.sf T.f_add T.n_add ((ok_m_add T).raw T.b_m_add .nil) (hr.mono (by decide)) pass0) (pv 6) (pv 7)) (pe_op (OV.op_bin (op := .Add) T.sf T.f_add T.n_add ((ok_m_add T).raw T.b_m_add .nil) (hr.mono (by decide)) pass0) (pv 7) (pv 6)) (nomark _)) (pa_cons pe_bl pa_nil)))))))) (pss_one (ps_ret pe_bl)) pss_nil)
      (pss_cons (ps_set (i := 8) sc_law.nd rfl (Or.inl rfl) (pe_call (ok_bag T) (hr.mono (by decide)) (by rfl) T.g_bag T.F_bag.kp T.b_bag .nil pass0 (pa_cons (pv 1) (pa_cons (pe_call (ok_shuffled T) (hr.mono (by decide)) (by rfl) T.g_shuffled T.F_shuffled.kp T.b_shuffled .nil pass0 (pa_cons (pv 1) (pa_cons (pv 4) pa_nil))) pa_nil))))
      (C8.pss_cut (ps_if (PW.pt (pw_or (pt_not (pt_val (pe_call (ok_same T 8) (hr.mono (by decide)) (by rfl) T.g_same T.F_same.kp T.b_same .nil pass0 (pa_cons (pe_cmpR (OV.op_eqO (fun _ _ => rfl) T.f_eq T.n_eq ((ok_m_eq T).raw T.b_m_eq .nil) (hr.mono (by decide)) pass0) (pv 6) (pv 8) (nomark _)) (pa_cons pe_bl pa_nil))))) (pw_or (pt_not (pt_val (pe_call (ok_same T 8) (hr.mono (by decide)) (by rfl) T.g_same T.F_same.kp T.b_same .nil pass0 (pa_cons (pe_cmpR (OV.op_neO T.mo T.ne_ T.f_eq T.n_eq ((ok_m_eq T).raw T.b_m_eq .nil) (hr.mono (by decide)) pass0) (pv 6) (pv 8) (nomark _)) (pa_cons pe_bl pa_nil))))) (pw_or1 (pt_not (pt_val (pe_call (ok_same T 8) (hr.mono (by decide)) (by rfl) T.g_same T.F_same.kp T.b_same .nil pass0 (pa_cons (pe_cmpR (OV.op_eqO (fun _ _ => rfl) T.f_eq T.n_eq ((ok_m_eq T).raw T.b_m_eq .nil) (hr.mono (by decide)) pass0) (pe_op (OV.op_bin (op := .Add) T.sf T.f_add T.n_add ((ok_m_add T).raw T.b_m_add .nil) (hr.mono (by decide)) pass0) (pv 6) (BR.pe_makeR0 T.mk_ (ok_init T) (hr.mono (by decide)) (by rfl) T.gC_Bag pass0)) (pv 8) (nomark _)) (pa_cons pe_bl pa_nil))))))))) (pss_one (ps_ret pe_bl)) pss_nil)
      (pss_cons (ps_set (i := 9) sc_law.nd rfl (Or.inl rfl) (BR.pe_makeR0 T.mk_ (ok_init T) (hr.mono (by decide)) (by rfl) T.gC_Bag pass0))
      (C8.pss_cut (ps_for PassesOwn.never rfl (pi_list (pv 4)) (pg_name (i := 10) sc_law.nd rfl (Or.inl rfl)) (pss_one (ps_set (i := 9) sc_law.nd rfl (Or.inl rfl) (pe_op (OV.op_bin (op := .Add) T.sf T.f_add T.n_add ((ok_m_add T).raw T.b_m_add .nil) (hr.mono (by decide)) pass0) (pv 9) (StX.pe_makeR T.mk_ (ok_init T) (hr.mono (by decide)) (by rfl) T.gC_Bag pass0 (pa_cons (pe_callTy call_listD (by rfl) T.z_list (by decide +kernel) (pa_cons (pv 10) pa_nil)) pa_nil))))))
      (C8.pss_cut (ps_if (PW.pt (pw_or (pt_not (pt_val (pe_call (ok_is_bag T) (hr.mono (by decide)) (by rfl) T.g_is_bag T.F_is_bag.kp T.b_is_bag .nil pass0 (pa_cons (pv 9) (pa_cons (pv 4) pa_nil))))) (pw_or1 (pt_not (pt_val (pe_call (ok_same T 8) (hr.mono (by decide)) (by rfl) T.g_same T.F_same.kp T.b_same .nil pass0 (pa_cons (pe_cmpR (OV.op_eqO (fun _ _ => rfl) T.f_eq T.n_eq ((ok_m_eq T).raw T.b_m_eq .nil) (hr.mono (by decide)) pass0) (pv 9) (pv 6) (nomark _)) (pa_cons pe_bl pa_nil)))))))) (pss_one (ps_ret pe_bl)) pss_nil)
      (C8.pss_cut (ps_if (PW.pt (pw_and (pt_truth (pv 4) (by intro _; rfl)) (pw_and1 (pt_not (pt_val (pe_call (ok_same T 8) (hr.mono (by decide)) (by rfl) T.g_same T.F_same.kp T.b_same .nil pass0 (pa_cons (pe_lst (pa_cons (pe_meth (pv 9) T.cl T.me_m_times (ok_m_times T) (hr.mono (by decide)) T.b_m_times .nil pass0 (pa_cons (pe_callTy call_listD (by rfl) T.z_list (by decide +kernel) (pa_cons (pe_ix ix_list (pv 4) pe_int (fun _ _ => rfl)) pa_nil)) pa_nil)) (pa_cons (pe_cmpR (op_inO T.f_contains T.n_contains ((ok_m_contains T).raw T.b_m_contains .nil) (hr.mono (by decide)) pass0) (pe_callTy call_listD (by rfl) T.z_list (by decide +kernel) (pa_cons (pe_ix ix_list (pv 4) pe_int (fun _ _ => rfl)) pa_nil)) (pv 6) (by rfl)) pa_nil))) (pa_cons (pe_lst (pa_cons (pe_bm PySem.F.plainAttrs_list PySem.F.slot_list_count PySem.F.type_list_count (BR.mt_lcountD (room65 hr)) (pv 4) (pa_cons (pe_ix ix_list (pv 4) pe_int (fun _ _ => rfl)) pa_nil)) (pa_cons pe_bl pa_nil))) pa_nil)))))))) (pss_one (ps_ret pe_bl)) pss_nil)
      (pss_cons (ps_set (i := 11) sc_law.nd rfl (Or.inl rfl) (pe_call (ok_nearby T) (hr.mono (by decide)) (by rfl) T.g_nearby T.F_nearby.kp T.b_nearby .nil pass0 (pa_cons (pv 1) (pa_cons (pv 4) (pa_cons (pv 2) (pa_cons (pv 3) pa_nil))))))
      (pss_cons (ps_set (i := 12) sc_law.nd rfl (Or.inl rfl) (pe_cmpR (op_eqD hr.units) (pe_callB (cr_sortX (B := B10)) (by rfl) T.z_sorted (by decide +kernel) (pa_cons (pv 11) pa_nil)) (pe_callB (cr_sortX (B := B10)) (by rfl) T.z_sorted (by decide +kernel) (pa_cons (pv 4) pa_nil)) (nomark _)))
      (C8.pss_cut (ps_if (PW.pt (pw_or (pt_not (pt_val (pe_call (ok_same T 8) (hr.mono (by decide)) (by rfl) T.g_same T.F_same.kp T.b_same .nil pass0 (pa_cons (pe_cmpR (OV.op_eqO (fun _ _ => rfl) T.f_eq T.n_eq ((ok_m_eq T).raw T.b_m_eq .nil) (hr.mono (by decide)) pass0) (pe_call (ok_bag T) (hr.mono (by decide)) (by rfl) T.g_bag T.F_bag.kp T.b_bag .nil pass0 (pa_cons (pv 1) (pa_cons (pv 11) pa_nil))) (pv 6) (nomark _)) (pa_cons (pv 12) pa_nil))))) (pw_or1 (pt_not (pt_val (pe_call (ok_same T 8) (hr.mono (by decide)) (by rfl) T.g_same T.F_same.kp T.b_same .nil pass0 (pa_cons (pe_cmpR (OV.op_neO T.mo T.ne_ T.f_eq T.n_eq ((ok_m_eq T).raw T.b_m_eq .nil) (hr.mono (by decide)) pass0) (pv 6) (pe_call (ok_bag T) (hr.mono (by decide)) (by rfl) T.g_bag T.F_bag.kp T.b_bag .nil pass0 (pa_cons (pv 1) (pa_cons (pv 11) pa_nil))) (nomark _)) (pa_cons (pe_not (pv 12)) pa_nil)))))))) (pss_one (ps_ret pe_bl)) pss_nil)
      (C8.pss_cut (ps_if (PW.pt (pw_or (pt_not (pt_val (pe_call (ok_same T 8) (hr.mono (by decide)) (by rfl) T.g_same T.F_same.kp T.b_same .nil pass0 (pa_cons (pe_cmpR (OV.op_eqO (fun _ _ => rfl) T.f_eq T.n_eq ((ok_m_eq T).raw T.b_m_eq .nil) (hr.mono (by decide)) pass0) (pv 6) (pe_callB (cr_sortX (B := B10)) (by rfl) T.z_sorted (by decide +kernel) (pa_cons (pv 4) pa_nil)) (nomark _)) (pa_cons pe_bl pa_nil))))) (pw_or1 (pt_not (pt_val (pe_call (ok_same T 8) (hr.mono (by decide)) (by rfl) T.g_same T.F_same.kp T.b_same .nil pass0 (pa_cons (pe_cmpR (OV.op_eqO (fun _ _ => rfl) T.f_eq T.n_eq ((ok_m_eq T).raw T.b_m_eq .nil) (hr.mono (by decide)) pass0) (pv 7) pe_non (nomark _)) (pa_cons pe_bl pa_nil)))))))) (pss_one (ps_ret pe_bl)) pss_nil)
      (pss_cons (ps_set (i := 13) sc_law.nd rfl (Or.inl rfl) (pe_meth0 (pv 6) T.cl T.me_m_listed (ok_m_listed T) (hr.mono (by decide)) T.b_m_listed .nil pass0))
      (pss_cons (ps_expr (pe_bm PySem.F.plainAttrs_list PySem.F.slot_list_append PySem.F.type_list_append mt_append (pv 13) (pa_cons (pe_op op_repX (pe_tup (pa_cons pe_int pa_nil)) (pv 3)) pa_nil)))
      (pss_cons (ps_asg (pe_op op_repX (pe_tup (pa_cons pe_int pa_nil)) (pv 3)) (pg_sub (pv 13) pe_int set_list))
      (C8.pss_cut (ps_if (PW.pt (pw_or (pt_not (pt_val (pe_call (ok_merged_down T) (hr.mono (by decide)) (by rfl) T.g_merged_down T.F_merged_down.kp T.b_merged_down .nil pass0 (pa_cons (pv 1) (pa_cons (pv 6) (pa_cons (pv 4) (pa_cons (pv 2) (pa_cons (pv 3) pa_nil)))))))) (pw_or1 (pt_not (pt_val (pe_call (ok_merged_down T) (hr.mono (by decide)) (by rfl) T.g_merged_down T.F_merged_down.kp T.b_merged_down .nil pass0 (pa_cons (pv 1) (pa_cons (pv 8) (pa_cons (pv 4) (pa_cons (pv 2) (pa_cons (pv 3) pa_nil))))))))))) (pss_one (ps_ret pe_bl)) pss_nil)
      (pss_one (ps_ret (pe_and (pe_call (ok_is_bag T) (hr.mono (by decide)) (by rfl) T.g_is_bag T.F_is_bag.kp T.b_is_bag .nil pass0 (pa_cons (pv 6) (pa_cons (pv 4) pa_nil))) (pe_and (pe_call (ok_is_bag T) (hr.mono (by decide)) (by rfl) T.g_is_bag T.F_is_bag.kp T.b_is_bag .nil pass0 (pa_cons (pv 7) (pa_cons (pv 5) pa_nil))) (pe_one (pe_call (ok_is_bag T) (hr.mono (by decide)) (by rfl) T.g_is_bag T.F_is_bag.kp T.b_is_bag .nil pass0 (pa_cons (pv 8) (pa_cons (pv 4) pa_nil)))))))))))))))))))))))))))))), ?_⟩
    have hB10 : B10 = 10000000000 := rfl
    refine ⟨_, rfl, a, ns0, rfl, hS, h63, fun b H1 g1 hb0 hB1 => ⟨_, rfl, b, rfl, hB1, fun p H2 hp hB2 hK2 => ?_⟩⟩
    have P1 := prm_all p hp
    have pb := primes_lt p hp
    have p0 : 0 < p := by omega
    have p10 : p < 10000000000 := by
      have : (10 : Int) ^ 10 = 10000000000 := by decide
      omega
    clear hB1 g1 hb0 hK2
    refine ⟨_, rfl, (by show 8 ≤ sizeLine; decide), fun u hu => ?_⟩
    have gu := same_new hu (.lst ([1, 1, 2, 2, 3, 4, 7, 14].map V.int))
    refine ⟨b, u, _, rfl, hB2.same gu, hB2.ne hu, SqL.of upd_same, by simp, by simp, fun i v H3 hi hB3 hK3 => ⟨_, _, rfl, ?_⟩⟩
    obtain ⟨w, hw, rfl⟩ := ints_of (l := [1, 1, 2, 2, 3, 4, 7, 14]) hi
    have wb : 1 ≤ w ∧ w ≤ 14 := by
      simp only [List.mem_cons, List.not_mem_nil, or_false] at hw
      omega
    obtain ⟨d, rfl⟩ := Int.eq_ofNat_of_zero_le (show 0 ≤ w by omega)
    have hd : 1 ≤ d ∧ d ≤ 14 := by omega
    clear hw hi hK3 gu hu hB2 wb
    refine ⟨_, rfl, _, rfl, _, rfl, _, rfl, (by show 8 ≤ sizeLine; decide), fun u hu => ?_⟩
    have gu := same_new hu (.lst ([0, 1, 2, 3, 4, 5, 6, 15].map V.int))
    refine ⟨b, u, _, rfl, hB3.same gu, hB3.ne hu, SqL.of upd_same, by simp, by simp, fun i v H4 hi hB4 hK4 => ?_⟩
    obtain ⟨w, hw, rfl⟩ := ints_of (l := [0, 1, 2, 3, 4, 5, 6, 15]) hi
    have wb : 0 ≤ w ∧ w ≤ 15 := by
      simp only [List.mem_cons, List.not_mem_nil, or_false] at hw
      omega
    obtain ⟨m1, rfl⟩ := Int.eq_ofNat_of_zero_le (show 0 ≤ w by omega)
    refine ⟨b, p, d, m1, rfl, hB4, p0, by omega, by omega, by omega, fun f ns H5 hB5 hK5 hf0 lf ln ho => ?_⟩
    clear hw hi hK4 gu hu hB3 hB4 hK5 hf0
    refine ⟨_, rfl, _, rfl, _, rfl, _, rfl, (by show 4 ≤ sizeLine; decide), fun u hu => ?_⟩
    have gu := same_new hu (.lst ([0, 1, 2, 3].map V.int))
    refine ⟨b, u, _, rfl, hB5.same gu, hB5.ne hu, SqL.of upd_same, by simp, by simp, fun i v H6 hi hB6 hK6 => ?_⟩
    obtain ⟨w, hw, rfl⟩ := ints_of (l := [0, 1, 2, 3]) hi
    have wb2 : 0 ≤ w ∧ w ≤ 3 := by
      simp only [List.mem_cons, List.not_mem_nil, or_false] at hw
      omega
    obtain ⟨m2, rfl⟩ := Int.eq_ofNat_of_zero_le (show 0 ≤ w by omega)
    have lf6 := (lf.same gu).keep (hB5.same gu) hK6
    refine ⟨b, p, d, m2, rfl, hB6, p0, by omega, by omega, by omega, fun s ms H7 hB7 hK7 hs0 ls lm hp2 => ?_⟩
    have lf7 := lf6.keep hB6 hK7
    clear hw hi hK6 gu hu hB5 hB6 hK7 hs0 lf lf6
    refine ⟨_, rfl, _, rfl, b, f, ns, d, rfl, hB7, lf7, by omega, ho, by omega, fun x H8 hB8 hK8 bx => ?_⟩
    have lf8 := lf7.keep hB7 hK8
    have ls8 := ls.keep hB7 hK8
    refine ⟨_, rfl, _, rfl, b, s, ms, d, rfl, hB8, ls8, by omega, hp2, by omega, fun y H9 hB9 hK9 bY => ⟨_, _, rfl, ?_⟩⟩
    have L9 : LI T b x y f s ns ms H9 := ⟨hB9, bx.keep hB8 hK9, bY, lf8.keep hB8 hK9, ls8.keep hB8 hK9⟩
    clear hB7 hB8 hB9 hK8 hK9 bx bY lf7 lf8 ls ls8
    -- the bags are what was drawn
    refine ⟨fun σ Hx => σ = [some (.ref a), some (.ref b), some (.int p), some (.int (d : Nat)), some (.ref f), some (.ref s), some (.ref x), some (.ref y), none, none, none, none, none, none] ∧ LI T b x y f s ns ms Hx, ?_, ?_⟩
    · refine ⟨_, rfl, _, rfl, b, x, f, ns, d, rfl, L9.hB, L9.bx, L9.lf, by omega, by omega, ho, by omega, fun Ha ga => ⟨_, rfl, iteF ?_⟩⟩
      have La := L9.same ga
      refine ⟨_, rfl, _, rfl, b, y, s, ms, d, rfl, La.hB, La.bY, La.ls, by omega, by omega, hp2, by omega, fun Hb gb => ⟨_, rfl, iteF ?_⟩⟩
      have Lb := La.same gb
      refine init_of (ns := []) (d := 1) .nil (by decide) (fun _ z => nomatch z) (by decide) fun m0 Hc gc hm0 => ?_
      have Lc := Lb.same gc
      refine ⟨(by show 0 ≤ sizeLine; decide), fun u hu => ?_⟩
      have gu := same_new hu (.lst [])
      refine ⟨b, m0, u, [], 1, rfl, (Lc.same gu).hB, hm0.same gu, ⟨[], upd_same, .nil⟩, by omega, by omega, (fun _ z => nomatch z), by decide, fun Hd gd => ⟨_, rfl, iteF ?_⟩⟩
      exact ⟨rfl, (Lc.same gu).same gd⟩
    clear L9
    rintro σ H1 ⟨rfl, L1⟩
    
    refine ⟨fun σ Hx => σ = [some (.ref a), some (.ref b), some (.int p), some (.int (d : Nat)), some (.ref f), some (.ref s), some (.ref x), some (.ref y), none, none, none, none, none, none] ∧ LI T b x y f s ns ms Hx, ?_, ?_⟩
    · refine ⟨_, rfl, _, rfl, _, rfl, _, rfl, _, rfl, b, x, f, ns, p, d, rfl, L1.hB, L1.bx, L1.lf, by omega, by omega, by omega, ho, fun Ha hBa hKa => ⟨_, rfl, iteF ?_⟩⟩
      have La := L1.keep hBa hKa
      refine ⟨_, rfl, _, rfl, _, rfl, _, rfl, _, rfl, b, y, s, ms, p, d, rfl, La.hB, La.bY, La.ls, by omega, by omega, by omega, hp2, fun Hb hBb hKb => ⟨_, rfl, iteF ?_⟩⟩
      exact ⟨rfl, La.keep hBb hKb⟩
    clear L1
    rintro σ H1 ⟨rfl, L1⟩
    -- the sum
    have hoo : ∀ n ∈ ns ++ ms, Ok d n := fun n hn => by
      rcases List.mem_append.mp hn with z | z
      · exact ho n z
      · exact hp2 n z
    have hoo2 : ∀ n ∈ ms ++ ns, Ok d n := fun n hn => hoo n (List.perm_append_comm.mem_iff.mp hn)
    refine ⟨fun σ Hx => σ = [some (.ref a), some (.ref b), some (.int p), some (.int (d : Nat)), some (.ref f), some (.ref s), some (.ref x), some (.ref y), none, none, none, none, none, none] ∧ LI T b x y f s ns ms Hx, ?_, ?_⟩
    · obtain ⟨dx, mx, ex⟩ := L1.bx.ins2
      obtain ⟨dy, my, ey⟩ := L1.bY.ins2
      refine ⟨_, rfl, _, rfl, x, y, dx, dy, _, _, rfl, rfl, ex, ey, x, y, srt ns, srt ms, d, rfl, L1.bx, L1.bY, hd.1, srt_ok ho, srt_ok hp2, by rw [srt_len, srt_len]; omega, fun z Ha ga hz => ?_⟩
      rw [srt_app hoo] at hz
      have La := L1.same ga
      obtain ⟨xs, ef, hIf⟩ := La.lf
      obtain ⟨ys, es, hIs⟩ := La.ls
      refine ⟨_, rfl, _, rfl, f, s, xs, ys, rfl, rfl, ef, es, by rw [hIf.len, hIs.len]; exact Nat.le_of_lt (small1000 (by omega)), fun q hq => ?_⟩
      have gq := same_new hq (.lst (xs ++ ys))
      have lq : Ls (upd Ha q (.lst (xs ++ ys))) q (ns ++ ms) := ⟨_, upd_same, (hIf.append hIs).same gq⟩
      have Lb := La.same gq
      have hz2 := hz.same gq
      clear ef es hIf hIs La
      generalize upd Ha q (.lst (xs ++ ys)) = Hb at gq lq Lb hz2 ⊢
      refine ⟨b, z, q, ns ++ ms, d, rfl, Lb.hB, hz2, lq, hd.1, by omega, hoo, by rw [List.length_append]; omega, fun Hc gc => ⟨_, rfl, iteF ?_⟩⟩
      have Lc := Lb.same gc
      clear ex ey
      obtain ⟨dx, mx, ex⟩ := Lc.bx.ins2
      obtain ⟨dy, my, ey⟩ := Lc.bY.ins2
      refine ⟨_, rfl, _, rfl, x, y, dx, dy, _, _, rfl, rfl, ex, ey, x, y, srt ns, srt ms, d, rfl, Lc.bx, Lc.bY, hd.1, srt_ok ho, srt_ok hp2, by rw [srt_len, srt_len]; omega, fun u Hd gd hu => ?_⟩
      have Ld := Lc.same gd
      refine ⟨_, rfl, _, rfl, y, x, dy, dx, _, _, rfl, rfl, gd _ _ ey, gd _ _ ex, y, x, srt ms, srt ns, d, rfl, Ld.bY, Ld.bx, hd.1, srt_ok hp2, srt_ok ho, by rw [srt_len, srt_len]; omega, fun w He ge hw => ?_⟩
      rw [srt_app hoo] at hu
      rw [srt_app hoo2] at hw
      have hu2 := hu.same ge
      obtain ⟨du, mu, eu⟩ := hu2.ins2
      refine ⟨u, du, _, .ref T.C_Bag, rfl, eu, tyBag T hw, T.nf_Bag, u, _, _, rfl, hu2, .inl ⟨w, _, rfl, hw, ?_⟩⟩
      refine ⟨b, _, _, rfl, eB (decide_eq_true (srt_eq hoo List.perm_append_comm)), fun Hg gg => ⟨_, rfl, iteF ?_⟩⟩
      exact ⟨rfl, (Ld.same ge).same gg⟩
    clear L1
    rintro σ H1 ⟨rfl, L1⟩
    -- the twin
    refine ⟨_, rfl, _, rfl, _, rfl, b, f, ns, rfl, L1.hB, L1.lf, by omega, fun f2 ns2 H2 hB2 hK2 hp1 lf2 => ?_⟩
    have L2 := L1.keep hB2 hK2
    refine ⟨b, f2, ns2, d, rfl, hB2, lf2, hd.1, fun n hn => ho n (hp1.mem_iff.mp hn), by rw [hp1.length_eq]; omega, fun tw H3 hB3 hK3 btw => ?_⟩
    rw [srt_eq (fun n hn => ho n (hp1.mem_iff.mp hn)) hp1] at btw
    have L3 := L2.keep hB3 hK3
    clear L1 L2 hB2 hK2 lf2 hB3 hK3
    refine ⟨fun σ Hx => σ = [some (.ref a), some (.ref b), some (.int p), some (.int (d : Nat)), some (.ref f), some (.ref s), some (.ref x), some (.ref y), some (.ref tw), none, none, none, none, none] ∧ LI T b x y f s ns ms Hx ∧ BagAt T Hx tw (srt ns), ?_, ?_⟩
    · obtain ⟨dx, mx, ex⟩ := L3.bx.ins2
      refine ⟨_, rfl, _, rfl, x, dx, _, .ref T.C_Bag, rfl, ex, tyBag T btw, T.nf_Bag, x, _, _, rfl, L3.bx, .inl ⟨tw, _, rfl, btw, ?_⟩⟩
      refine ⟨b, _, _, rfl, eB (decide_eq_true rfl), fun Ha ga => ⟨_, rfl, iteF ?_⟩⟩
      have La := L3.same ga
      have ba := btw.same ga
      refine ⟨_, rfl, _, rfl, x, dx, _, .ref T.C_Bag, rfl, ga _ _ ex, tyBag T ba, T.nf_Bag, x, _, _, rfl, La.bx, .inl ⟨tw, _, rfl, ba, _, rfl, ?_⟩⟩
      refine ⟨b, _, _, rfl, eB (by rw [decide_eq_true rfl]; rfl), fun Hb gb => ⟨_, rfl, iteF ?_⟩⟩
      have Lb := La.same gb
      have bb := ba.same gb
      refine ⟨_, rfl, ?_⟩
      refine init_of (ns := []) (d := 1) .nil (by decide) (fun _ z => nomatch z) (by decide) fun m0 Hc gc hm0 => ?_
      have Lc := Lb.same gc
      have bc := bb.same gc
      obtain ⟨d0, q0, e0⟩ := hm0.ins2
      refine ⟨x, m0, dx, d0, _, _, rfl, rfl, gc _ _ (gb _ _ (ga _ _ ex)), e0, x, m0, srt ns, srt [], d, rfl, Lc.bx, hm0, hd.1, srt_ok ho, (by rw [srt_nil]; exact fun _ z => nomatch z), by rw [srt_len, srt_len]; show _ + 0 < 64; omega, fun z Hd gd hz => ?_⟩
      rw [srt_app (d := d) (by rw [List.append_nil]; exact ho), List.append_nil] at hz
      obtain ⟨dz, mz, ez⟩ := hz.ins2
      have bd := bc.same gd
      refine ⟨_, rfl, z, dz, _, .ref T.C_Bag, rfl, ez, tyBag T bd, T.nf_Bag, z, _, _, rfl, hz, .inl ⟨tw, _, rfl, bd, ?_⟩⟩
      refine ⟨b, _, _, rfl, eB (decide_eq_true rfl), fun He ge => ⟨_, rfl, iteF ?_⟩⟩
      exact ⟨rfl, (Lc.same gd).same ge, bd.same ge⟩
    clear L3 btw
    rintro σ H1 ⟨rfl, L1, bt1⟩
    -- listed
    refine init_of (ns := []) (d := 1) .nil (by decide) (fun _ z => nomatch z) (by decide) fun m0 H2 g2 hm0 => ?_
    have L2 := L1.same g2
    have bt2 := bt1.same g2
    clear L1 bt1
    obtain ⟨xs, ef, hIf⟩ := id L2.lf
    have lx := hIf.len
    refine ⟨fun σ Hx => ∃ (li : Addr) (v10 : Option V), σ = [some (.ref a), some (.ref b), some (.int p), some (.int (d : Nat)), some (.ref f), some (.ref s), some (.ref x), some (.ref y), some (.ref tw), some (.ref li), v10, none, none, none] ∧ Same H2 Hx ∧ BagAt T Hx li (srt ns), ?_, ?_⟩
    · refine ⟨_, rfl, f, rfl, ⟨_, SqL.of ef⟩, for_list (K := K) (a := f) (xs := xs) (fun i σ Hx => ∃ (li : Addr) (v10 : Option V), σ = [some (.ref a), some (.ref b), some (.int p), some (.int (d : Nat)), some (.ref f), some (.ref s), some (.ref x), some (.ref y), some (.ref tw), some (.ref li), v10, none, none, none] ∧ Same H2 Hx ∧ BagAt T Hx li (srt (ns.take i)))
        ⟨m0, none, rfl, Same.refl _, by rw [List.take_zero]; exact hm0⟩ (fun i σ Hx _ ⟨_, _, _, gs, _⟩ => SqL.of (gs _ _ ef)) ?_ ?_⟩
      · rintro i q σ Hx hi ⟨li, v10, rfl, gs, hli⟩
        obtain ⟨n, hn, t, rfl, ht⟩ := (hIf.same gs).at_ hi
        have on := ho n (List.mem_of_getElem? hn)
        refine ⟨_, rfl, _, rfl, t, _, rfl, .inr (SqT.of ht), fun D hD => ?_⟩
        have gD := same_new hD (.lst (n.map V.int))
        have eD : upd Hx D (.lst (n.map V.int)) D = some (.lst (n.map V.int)) := upd_same
        generalize upd Hx D (.lst (n.map V.int)) = Hy at gD eD ⊢
        have o1 : ∀ m ∈ [n], Ok d m := fun m hm => by
          rw [List.mem_singleton.mp hm]
          exact on
        refine init_of (ns := [n]) (d := d) (Ars.cons ⟨D, rfl, .inr (SqL.of eD)⟩ .nil) hd.1 o1 (by show 1 < 64; decide) fun z Hz gz hz => ?_
        have hl2 := (hli.same gD).same gz
        obtain ⟨dl, ml, el⟩ := hl2.ins2
        obtain ⟨dz, mz, ez⟩ := hz.ins2
        have ot : ∀ m ∈ ns.take i, Ok d m := fun m hm => ho m (List.mem_of_mem_take hm)
        refine ⟨li, z, dl, dz, _, _, rfl, rfl, el, ez, li, z, srt (ns.take i), srt [n], d, rfl, hl2, hz, hd.1, srt_ok ot, srt_ok o1, by rw [srt_len, srt_len, List.length_take]; show _ + 1 < 64; omega, fun w Hw gw hw => ?_⟩
        have e2 : ns.take (i + 1) = ns.take i ++ [n] := by
          rw [List.take_add_one, hn]
          rfl
        rw [srt_app (d := d) (by rw [← e2]; exact fun m hm => ho m (List.mem_of_mem_take hm)), ← e2] at hw
        exact ⟨w, _, rfl, gs.trans (gD.trans (gz.trans gw)), hw⟩
      · rintro σ Hx ⟨li, v10, rfl, gs, hli⟩
        rw [lx, List.take_length] at hli
        exact ⟨li, v10, rfl, gs, hli⟩
    rintro σ H3 ⟨li, v10, rfl, gs, hli⟩
    have L3 := L2.same gs
    have bt3 := bt2.same gs
    clear L2 bt2 gs hIf ef g2 hm0
    refine ⟨fun σ Hx => σ = [some (.ref a), some (.ref b), some (.int p), some (.int (d : Nat)), some (.ref f), some (.ref s), some (.ref x), some (.ref y), some (.ref tw), some (.ref li), v10, none, none, none] ∧ LI T b x y f s ns ms Hx ∧ BagAt T Hx tw (srt ns) ∧ BagAt T Hx li (srt ns), ?_, ?_⟩
    · refine ⟨_, rfl, _, rfl, b, li, f, ns, d, rfl, L3.hB, hli, L3.lf, hd.1, by omega, ho, by omega, fun Ha ga => ⟨_, rfl, iteF ?_⟩⟩
      have La := L3.same ga
      have ba := hli.same ga
      obtain ⟨dl, ml, el⟩ := ba.ins2
      refine ⟨_, rfl, _, rfl, li, dl, _, .ref T.C_Bag, rfl, el, tyBag T La.bx, T.nf_Bag, li, _, _, rfl, ba, .inl ⟨x, _, rfl, La.bx, ?_⟩⟩
      refine ⟨b, _, _, rfl, eB (decide_eq_true rfl), fun Hb gb => ⟨_, rfl, iteF ?_⟩⟩
      exact ⟨rfl, La.same gb, (bt3.same ga).same gb, ba.same gb⟩
    clear L3 bt3 hli
    rintro σ H1 ⟨rfl, L1, bt1, bl1⟩
    -- by lists
    refine ⟨fun σ Hx => σ = [some (.ref a), some (.ref b), some (.int p), some (.int (d : Nat)), some (.ref f), some (.ref s), some (.ref x), some (.ref y), some (.ref tw), some (.ref li), v10, none, none, none] ∧ LI T b x y f s ns ms Hx ∧ BagAt T Hx tw (srt ns), ?_, ?_⟩
    · obtain ⟨xs, ef, hIf⟩ := id L1.lf
      have lx := hIf.len
      refine ⟨_, rfl, _, .inl ⟨xs, SqL.of ef, rfl⟩, ite2 (fun c => ?_) (fun c => ⟨rfl, L1, bt1⟩)⟩
      have np : 0 < xs.length := by
        cases xs with
        | nil => simp at c
        | cons z zs => exact Nat.succ_pos _
      have e0 : xs[0]? = some xs[0] := List.getElem?_eq_getElem np
      obtain ⟨n, hn, t, et, ht⟩ := hIf.at_ e0
      rw [et] at e0
      obtain ⟨dl, ml, el⟩ := bl1.ins2
      refine ⟨_, rfl, li, dl, _, rfl, el, rfl, _, rfl, f, _, _, _, rfl, rfl, SqL.of ef, atI_ix e0, t, _, rfl, .inr (SqT.of ht), fun D hD => ?_⟩
      have gD := same_new hD (.lst (n.map V.int))
      have eD : upd H1 D (.lst (n.map V.int)) D = some (.lst (n.map V.int)) := upd_same
      generalize upd H1 D (.lst (n.map V.int)) = Ha at gD eD ⊢
      have La := L1.same gD
      refine ⟨li, .ref D, srt ns, n, rfl, bl1.same gD, ⟨D, rfl, .inr (SqL.of eD)⟩, fun Hb gb => ?_⟩
      have gab := gD.trans gb
      refine ⟨_, rfl, f, _, _, _, rfl, rfl, SqL.of (gab _ _ ef), atI_ix e0, t, _, rfl, .inr (SqT.of (gab _ _ ht)), fun G hG => ?_⟩
      have gG := same_new hG (.lst (n.map V.int))
      have eG : upd Hb G (.lst (n.map V.int)) G = some (.lst (n.map V.int)) := upd_same
      generalize upd Hb G (.lst (n.map V.int)) = Hc at gG eG ⊢
      have gac := gab.trans gG
      have Lc := L1.same gac
      obtain ⟨dx, mx, ex⟩ := Lc.bx.ins2
      refine ⟨_, rfl, x, dx, _, rfl, ex, x, .ref G, srt ns, n, rfl, Lc.bx, ⟨G, rfl, .inr (SqL.of eG)⟩, fun Hd gd => ⟨_, rfl, ?_⟩⟩
      refine ⟨(by show 2 ≤ sizeLine; decide), fun u hu => ?_⟩
      have gu := same_new hu (.lst [.int ((srt ns).count n : Nat), .bl (decide (n ∈ srt ns))])
      have eu : upd Hd u (.lst [.int ((srt ns).count n : Nat), .bl (decide (n ∈ srt ns))]) u = some (.lst [.int (ns.count n : Nat), .bl true]) := by
        rw [upd_same, srt_cnt]
        have hm : decide (n ∈ srt ns) = true := decide_eq_true (by rw [srt_mem]; exact List.mem_of_getElem? hn)
        rw [hm]
      generalize upd Hd u (.lst [.int ((srt ns).count n : Nat), .bl (decide (n ∈ srt ns))]) = He at gu eu ⊢
      have gae := gac.trans (gd.trans gu)
      have Le := L1.same gae
      refine ⟨_, rfl, .inl ⟨rfl, _, SqL.of (gae _ _ ef)⟩, _, rfl, f, _, _, _, rfl, rfl, SqL.of (gae _ _ ef), atI_ix e0, f, .ref t, tD n, ns.map tD, rfl, rfl, Le.lf.dp, (show TI He (.ref t) n from ⟨t, rfl, gae _ _ ht⟩).dp, plTs _, plT _, Nat.le_trans (depT _) (by decide), ?_⟩
      rw [cntT]
      refine ⟨(by show 2 ≤ sizeLine; decide), fun w hw => ?_⟩
      have gw := same_new hw (.lst [.int (ns.count n : Nat), .bl true])
      have ew : upd He w (.lst [.int (ns.count n : Nat), .bl true]) w = some (.lst [.int (ns.count n : Nat), .bl true]) := upd_same
      generalize upd He w (.lst [.int (ns.count n : Nat), .bl true]) = Hf at gw ew ⊢
      have Lf := Le.same gw
      have nu : u ≠ b := fun z => by
        have := Lf.hB
        obtain ⟨l, _, _, _, _, _, e, _⟩ := this
        rw [← z, gw _ _ eu] at e
        cases e
      have nw : w ≠ b := Le.hB.ne hw
      refine ⟨b, _, _, rfl, .inr ⟨u, w, _, _, rfl, rfl, nu, nw, .inl ⟨SqL.of (gw _ _ eu), SqL.of ew⟩, by show 2 ≤ 1000; decide, rfl, fun i v z h1 h2 => ?_⟩, fun Hg gg => ⟨_, rfl, iteF ?_⟩⟩
      · rw [h1] at h2
        cases h2
        match i, h1 with
        | 0, h1 =>
          cases h1
          exact eI rfl
        | 1, h1 =>
          cases h1
          exact eB rfl
        | i + 2, h1 => simp at h1
      · exact ⟨rfl, Lf.same gg, ((bt1.same gae).same gw).same gg⟩
    clear L1 bt1 bl1
    rintro σ H1 ⟨rfl, L1, bt1⟩
    -- nearby
    refine ⟨_, rfl, _, rfl, _, rfl, _, rfl, b, f, ns, p, d, rfl, L1.hB, L1.lf, by omega, by omega, by omega, by omega, by omega, ho, fun nr rs H2 hB2 hK2 lr hro hrl => ?_⟩
    have L2 := L1.keep hB2 hK2
    have bt2 := bt1.keep L1.hB hK2
    clear L1 bt1 hB2 hK2
    obtain ⟨xs, er, hIr⟩ := id lr
    refine ⟨_, rfl, d, hd.1, nr, xs, rfl, SqL.of er, by rw [hIr.len]; omega, sorted_x hIr hro, fun zs q hp hs hq => ?_⟩
    obtain ⟨gq, lq⟩ := sorted_new hIr hro hp hs hq
    generalize upd H2 q (.lst zs) = H3 at gq lq ⊢
    have L3 := L2.same gq
    obtain ⟨ys, ef, hIf⟩ := id L3.lf
    refine ⟨_, rfl, d, hd.1, f, ys, rfl, SqL.of ef, by rw [hIf.len]; omega, sorted_x hIf ho, fun zs2 q2 hp2' hs2 hq2 => ?_⟩
    obtain ⟨gq2, lq2⟩ := sorted_new hIf ho hp2' hs2 hq2
    generalize upd H3 q2 (.lst zs2) = H4 at gq2 lq2 ⊢
    refine ⟨_, _, (lq.same gq2).dp, lq2.dp, shLL _, shLL _, ?_⟩
    rw [eqvLL]
    have L4 := L3.same gq2
    have bt4 := (bt2.same gq).same gq2
    have lr4 := (lr.same gq).same gq2
    clear L2 L3 bt2 lq lq2 hs hs2 hp hp2' gq gq2 er hIr ef hIf
    generalize hdu : decide (srt rs = srt ns) = du
    refine ⟨fun σ Hx => σ = [some (.ref a), some (.ref b), some (.int p), some (.int (d : Nat)), some (.ref f), some (.ref s), some (.ref x), some (.ref y), some (.ref tw), some (.ref li), v10, some (.ref nr), some (.bl du), none] ∧ LI T b x y f s ns ms Hx ∧ BagAt T Hx tw (srt ns), ?_, ?_⟩
    · refine ⟨_, rfl, _, rfl, b, nr, rs, d, rfl, L4.hB, lr4, hd.1, hro, by omega, fun w Ha hBa hKa bw => ?_⟩
      have La := L4.keep hBa hKa
      have bta := bt4.keep L4.hB hKa
      have lra := lr4.keep L4.hB hKa
      obtain ⟨dw, mw, ew⟩ := bw.ins2
      refine ⟨_, rfl, w, dw, _, .ref T.C_Bag, rfl, ew, tyBag T La.bx, T.nf_Bag, w, _, _, rfl, bw, .inl ⟨x, _, rfl, La.bx, ?_⟩⟩
      rw [hdu]
      refine ⟨_, rfl, b, _, _, rfl, eB rfl, fun Hb gb => ⟨_, rfl, iteF ?_⟩⟩
      have Lb := La.same gb
      have btb := bta.same gb
      have lrb := lra.same gb
      refine ⟨_, rfl, _, rfl, _, rfl, b, nr, rs, d, rfl, Lb.hB, lrb, hd.1, hro, by omega, fun w2 Hc hBc hKc bw2 => ?_⟩
      have Lc := Lb.keep hBc hKc
      have btc := btb.keep Lb.hB hKc
      obtain ⟨dx, mx, ex⟩ := Lc.bx.ins2
      refine ⟨x, dx, _, .ref T.C_Bag, rfl, ex, tyBag T bw2, T.nf_Bag, x, _, _, rfl, Lc.bx, .inl ⟨w2, _, rfl, bw2, _, rfl, ?_⟩⟩
      have hdu2 : decide (srt ns = srt rs) = du := by
        rw [← hdu]
        exact decide_eq_decide.mpr ⟨Eq.symm, Eq.symm⟩
      rw [hdu2]
      refine ⟨_, rfl, du, rfl, b, _, _, rfl, eB rfl, fun Hd gd => ⟨_, rfl, iteF ?_⟩⟩
      exact ⟨rfl, Lc.same gd, btc.same gd⟩
    clear L4 bt4 lr4
    rintro σ H1 ⟨rfl, L1, bt1⟩
    -- other values
    refine ⟨fun σ Hx => σ = [some (.ref a), some (.ref b), some (.int p), some (.int (d : Nat)), some (.ref f), some (.ref s), some (.ref x), some (.ref y), some (.ref tw), some (.ref li), v10, some (.ref nr), some (.bl du), none] ∧ LI T b x y f s ns ms Hx ∧ BagAt T Hx tw (srt ns), ?_, ?_⟩
    · obtain ⟨ys, ef, hIf⟩ := id L1.lf
      refine ⟨_, rfl, _, rfl, d, hd.1, f, ys, rfl, SqL.of ef, by rw [hIf.len]; omega, sorted_x hIf ho, fun zs2 q2 hp2' hs2 hq2 => ?_⟩
      obtain ⟨gq2, lq2⟩ := sorted_new hIf ho hp2' hs2 hq2
      generalize upd H1 q2 (.lst zs2) = H4 at gq2 lq2 ⊢
      have L4 := L1.same gq2
      obtain ⟨dx, mx, ex⟩ := L4.bx.ins2
      obtain ⟨zz, eq2, _⟩ := lq2
      refine ⟨x, dx, _, .type "list", rfl, ex, kdL (SqL.of eq2), T.nf_list, x, _, _, rfl, L4.bx, .inr ⟨.type "list", kdL (SqL.of eq2), T.k_list, b, _, _, rfl, eB rfl, fun Ha ga => ⟨_, rfl, iteF ?_⟩⟩⟩
      have La := L4.same ga
      obtain ⟨dy, my, ey⟩ := La.bY.ins2
      refine ⟨_, rfl, y, dy, _, .type "NoneType", rfl, ey, .base .non, T.nf_NoneType, y, _, _, rfl, La.bY, .inr ⟨.type "NoneType", .base .non, T.k_NoneType, b, _, _, rfl, eB rfl, fun Hb gb => ⟨_, rfl, iteF ?_⟩⟩⟩
      exact ⟨rfl, La.same gb, ((bt1.same gq2).same ga).same gb⟩
    clear L1 bt1
    rintro σ H1 ⟨rfl, L1, bt1⟩
    -- a spoilt list
    obtain ⟨dx, mx, ex⟩ := L1.bx.ins2
    refine ⟨_, rfl, x, dx, _, rfl, ex, rfl, x, _, rfl, L1.bx, fun to H2 g2 n2 lt => ?_⟩
    obtain ⟨ts, et, hts⟩ := lt
    have tl : ts.length ≤ 60 := by rw [hts.len, srt_len]; omega
    have nt : to ≠ b := L1.hB.ne n2
    refine ⟨_, rfl, .inl ⟨rfl, _, SqL.of et⟩, (by show 1 ≤ sizeLine; decide), fun u hu => ?_⟩
    have gu := same_new hu (.tup [.int 0])
    have eu : upd H2 u (.tup [.int 0]) u = some (.tup [.int 0]) := upd_same
    generalize upd H2 u (.tup [.int 0]) = H3 at gu eu ⊢
    refine ⟨_, rfl, rep_any hd eu fun v H4 g4 => ?_⟩
    have et4 := g4 _ _ (gu _ _ et)
    have g14 := g2.trans (gu.trans g4)
    refine ⟨to, ts, _, rfl, rfl, et4, small1000 (by omega), ?_⟩
    have hB5 := BoxAt.upd (o := .lst (ts ++ [v])) L1.hB n2 (Keep.of_same g14) (L1.hB.same g14)
    have hK5 := Keep.at (o := .lst (ts ++ [v])) n2 nt (Keep.of_same (b := b) g14)
    have et5 : upd H4 to (.lst (ts ++ [v])) to = some (.lst (ts ++ [v])) := upd_same
    generalize upd H4 to (.lst (ts ++ [v])) = H5 at hB5 hK5 et5 ⊢
    clear g14 g4 gu g2 eu et4
    refine ⟨(by show 1 ≤ sizeLine; decide), fun u hu => ?_⟩
    have gu := same_new hu (.tup [.int 1])
    have eu : upd H5 u (.tup [.int 1]) u = some (.tup [.int 1]) := upd_same
    generalize upd H5 u (.tup [.int 1]) = H6 at gu eu ⊢
    refine ⟨_, rfl, rep_any hd eu fun v2 H7 g7 => ?_⟩
    have g57 := gu.trans g7
    have et7 := g57 _ _ et5
    have hB7 := hB5.same g57
    have hK7 := hK5.trans (Keep.of_same g57)
    refine ⟨_, rfl, to, _, 0, 0, rfl, rfl, et7, ixN_of (by decide) (by rw [List.length_append]; show (0 : Int) < ((ts.length + 1 : Nat) : Int); omega), ?_⟩
    have hB8 := BoxAt.upd (o := .lst ((ts ++ [v]).set 0 v2)) L1.hB n2 hK7 hB7
    have hK8 := Keep.at (o := .lst ((ts ++ [v]).set 0 v2)) n2 nt hK7
    generalize upd H7 to (.lst ((ts ++ [v]).set 0 v2)) = H8 at hB8 hK8 ⊢
    have L8 := L1.keep hB8 hK8
    have bt8 := bt1.keep L1.hB hK8
    clear L1 bt1 hB8 hK8 hB7 hK7 hB5 hK5 g57 gu g7 eu et5 et7
    refine ⟨fun σ Hx => σ = [some (.ref a), some (.ref b), some (.int p), some (.int (d : Nat)), some (.ref f), some (.ref s), some (.ref x), some (.ref y), some (.ref tw), some (.ref li), v10, some (.ref nr), some (.bl du), some (.ref to)] ∧ LI T b x y f s ns ms Hx ∧ BagAt T Hx tw (srt ns), ?_, ?_⟩
    · refine ⟨_, rfl, _, rfl, _, rfl, _, rfl, _, rfl, b, x, f, ns, p, d, rfl, L8.hB, L8.bx, L8.lf, by omega, p10, by omega, by omega, by omega, ho, fun Ha hBa hKa => ⟨_, rfl, iteF ?_⟩⟩
      have La := L8.keep hBa hKa
      have bta := bt8.keep L8.hB hKa
      refine ⟨_, rfl, _, rfl, _, rfl, _, rfl, _, rfl, b, tw, f, ns, p, d, rfl, La.hB, bta, La.lf, by omega, p10, by omega, by omega, by omega, ho, fun Hb hBb hKb => ⟨_, rfl, iteF ?_⟩⟩
      exact ⟨rfl, La.keep hBb hKb, bta.keep La.hB hKb⟩
    clear L8 bt8
    rintro σ H1 ⟨rfl, L1, bt1⟩
    refine ⟨_, rfl, _, rfl, b, x, f, ns, d, rfl, L1.hB, L1.bx, L1.lf, by omega, by omega, ho, by omega, fun Ha ga => ⟨_, rfl, iteT ?_⟩⟩
    have La := L1.same ga
    refine ⟨_, rfl, _, rfl, b, y, s, ms, d, rfl, La.hB, La.bY, La.ls, by omega, by omega, hp2, by omega, fun Hb gb => ⟨_, rfl, iteT ?_⟩⟩
    have Lb := La.same gb
    refine ⟨_, rfl, _, rfl, b, tw, f, ns, d, rfl, Lb.hB, (bt1.same ga).same gb, Lb.lf, by omega, by omega, ho, by omega, fun Hc gc => ?_⟩
    exact k Hc
end
end K0

set_option maxRecDepth 100000
set_option maxHeartbeats 4000000
namespace K0
open PySem L2
/-! ### from what the top has written to Txt -/
theorem def_ex {K : PySem.W.Frag} {h : Heap} {mg : Str → Option Value} (X : K.In h) (G : h.Ns mainGlobals mg) {x : Str} {st : Stmt} {f : Addr} {oc : Value} {od an : Option Addr} {osl : Array (Option Value)} {kV doc pm cdv ct : Value}
    (a : PySem.W.nsIn K mainGlobals x = some (some (.ref f)))
    (l : K.lookup f = some ⟨oc, od, .func (PySem.W.fnOf x x (defArgs st) (defBody st) (defScope st) .none kV doc pm an cdv ct), osl⟩)
    (c : PySem.W.codeIn K cdv x = true) (k : PySem.W.keepIn K (.ref f) = true) : ∃ (f : Addr) (fd : FuncData), Fun K x x st f fd ∧ mg x = some (.ref f) :=
  ⟨f, _, fun_mk l c k, PySem.W.mg_of X G a⟩
theorem meth_ex {K : PySem.W.Frag} {C : Addr} {q : Str} {st : Stmt} {f : Addr} {oc : Value} {od an : Option Addr} {osl : Array (Option Value)} {kV doc pm cdv ct : Value} {m : Str}
    (a : PySem.W.findIn K (.ref C) m = some (some (.ref f))) (n : PySem.W.isFn K (.ref f) = true)
    (l : K.lookup f = some ⟨oc, od, .func (PySem.W.fnOf m q (defArgs st) (defBody st) (defScope st) .none kV doc pm an cdv ct), osl⟩)
    (c : PySem.W.codeIn K cdv q = true) (k : PySem.W.keepIn K (.ref f) = true) : ∃ (f : Addr) (fd : FuncData), Fun K m q st f fd ∧ Meth K C m f :=
  ⟨f, _, fun_mk l c k, a, n, k⟩
theorem own_ex {K : PySem.W.Frag} {C : Addr} {q : Str} {st : Stmt} {f : Addr} {oc : Value} {od an : Option Addr} {osl : Array (Option Value)} {kV doc pm cdv ct : Value} {m : Str}
    (a : PySem.W.findIn K (.ref C) m = some (some (.ref f))) (n : PySem.W.isFn K (.ref f) = true)
    (l : K.lookup f = some ⟨oc, od, .func (PySem.W.fnOf m q (defArgs st) (defBody st) (defScope st) .none kV doc pm an cdv ct), osl⟩)
    (c : PySem.W.codeIn K cdv q = true) (k : PySem.W.keepIn K (.ref f) = true) : ∃ (f : Addr) (fd : FuncData), Fun K m q st f fd ∧ PySem.W.findIn K (.ref C) m = some (some (.ref f)) ∧ PySem.W.isFn K (.ref f) = true :=
  ⟨f, _, fun_mk l c k, a, n⟩
theorem init_ex {K : PySem.W.Frag} {C : Addr} {q : Str} {st : Stmt} {f : Addr} {oc : Value} {od an : Option Addr} {osl : Array (Option Value)} {kV doc pm cdv ct : Value}
    (mk : PySem.W.makesIn K C = true) (a : PySem.W.findIn K (.ref C) "__init__" = some (some (.ref f))) (n : PySem.W.isFn K (.ref f) = true) (kc : PySem.W.keepIn K (.ref C) = true)
    (l : K.lookup f = some ⟨oc, od, .func (PySem.W.fnOf "__init__" q (defArgs st) (defBody st) (defScope st) .none kV doc pm an cdv ct), osl⟩)
    (c : PySem.W.codeIn K cdv q = true) (k : PySem.W.keepIn K (.ref f) = true) : ∃ (f : Addr) (fd : FuncData), Fun K "__init__" q st f fd ∧ Mk K C f :=
  ⟨f, _, fun_mk l c k, mk, a, n, kc⟩
theorem one_of {K : PySem.W.Frag} {x q nm : Str} {st : Stmt} {f : Addr} {fd : FuncData} (F : Fun K x q st f fd)
    (h : ∀ (kV doc pm : Value) (an : Option Addr) (cdv ct v : Value), bindArgs (PySem.W.fnOf x q (defArgs st) (defBody st) (defScope st) .none kV doc pm an cdv ct) ⟨[v], []⟩ = pure [(nm, v)]) :
    ∀ (s : Shared) (v : Value), BindsTo s fd ⟨[v], []⟩ [(nm, v)] := fun s v => by
  obtain ⟨oc, od, kV, doc, pm, an, cdv, ct, osl, rfl, lk, hcd⟩ := F.ex
  exact .of_eq (h kV doc pm an cdv ct v)
theorem Fun.kbn1 {K : PySem.W.Frag} {x qual : Str} {st : Stmt} {f : Addr} {fd : FuncData} {ps ks : List Str} {n : Nat} {g : {α : Type} → List α → List α → List α} (F : Fun K x qual st f fd)
    (h : ∀ (kV doc pm : Value) (an : Option Addr) (cdv ct : Value) (us ws : List Value), us.length = n → ws.length = ks.length → bindArgs (PySem.W.fnOf x qual (defArgs st) (defBody st) (defScope st) .none kV doc pm an cdv ct) ⟨us, ks.zip ws⟩ = pure (ps.zip (g us ws)))
    (hr : ∀ {vs : List V} {us : List Value} {zs : List V} {ws : List Value}, Vals vs us → Vals zs ws → Vals (g vs zs) (g us ws)) : KBn K fd ps n ks g g := by
  obtain ⟨oc, od, kV, doc, pm, an, cdv, ct, osl, rfl, lk, hcd⟩ := F.ex
  exact ⟨fun s us ws _ hu hl => .of_eq (h kV doc pm an cdv ct us ws hu hl), hr⟩
theorem Vals.rev : ∀ {vs : List V} {us : List Value}, Vals vs us → Vals vs.reverse us.reverse := fun r => by
  induction r with
  | nil => exact .nil
  | cons a r ih =>
    rw [List.reverse_cons, List.reverse_cons]
    exact ih.append (.cons a .nil)
theorem Vals.sw2 {vs : List V} {us : List Value} (r : Vals vs us) : Vals (K0.sw2 vs) (K0.sw2 us) := by
  cases r with
  | nil => exact .nil
  | cons a r =>
    cases r with
    | nil => exact .cons a .nil
    | cons b r => exact .cons b (.cons a r)

theorem build {P : Program} {w : World} {K : PySem.W.Frag} {h : Heap} {mg : Str → Option Value} {fa : Addr} (X : K.In h) (G : h.Ns mainGlobals mg) (hfa : mg "law" = some (.ref fa)) {C_Bag : Addr}
    (gC : PySem.W.nsIn K mainGlobals "Bag" = some (some (.ref C_Bag)))
    (D_box : ∃ (f : Addr) (fd : FuncData), Fun K "_law_box" "_law_box" s_box f fd ∧ mg "_law_box" = some (.ref f))
    (D_draw : ∃ (f : Addr) (fd : FuncData), Fun K "_law_draw" "_law_draw" s_draw f fd ∧ mg "_law_draw" = some (.ref f))
    (D_of : ∃ (f : Addr) (fd : FuncData), Fun K "_law_of" "_law_of" s_of f fd ∧ mg "_law_of" = some (.ref f))
    (D_same : ∃ (f : Addr) (fd : FuncData), Fun K "_law_same" "_law_same" s_same f fd ∧ mg "_law_same" = some (.ref f))
    (D_prime : ∃ (f : Addr) (fd : FuncData), Fun K "_law_prime" "_law_prime" s_prime f fd ∧ mg "_law_prime" = some (.ref f))
    (D_number : ∃ (f : Addr) (fd : FuncData), Fun K "_law_number" "_law_number" s_number f fd ∧ mg "_law_number" = some (.ref f))
    (D_bag : ∃ (f : Addr) (fd : FuncData), Fun K "_law_bag" "_law_bag" s_bag f fd ∧ mg "_law_bag" = some (.ref f))
    (D_shuffled : ∃ (f : Addr) (fd : FuncData), Fun K "_law_shuffled" "_law_shuffled" s_shuffled f fd ∧ mg "_law_shuffled" = some (.ref f))
    (D_merge : ∃ (f : Addr) (fd : FuncData), Fun K "_law_merge" "_law_merge" s_merge f fd ∧ mg "_law_merge" = some (.ref f))
    (D_items : ∃ (f : Addr) (fd : FuncData), Fun K "_law_items" "_law_items" s_items f fd ∧ mg "_law_items" = some (.ref f))
    (D_strange : ∃ (f : Addr) (fd : FuncData), Fun K "_law_strange" "_law_strange" s_strange f fd ∧ mg "_law_strange" = some (.ref f))
    (D_is_bag : ∃ (f : Addr) (fd : FuncData), Fun K "_law_is_bag" "_law_is_bag" s_is_bag f fd ∧ mg "_law_is_bag" = some (.ref f))
    (D_asked : ∃ (f : Addr) (fd : FuncData), Fun K "_law_asked" "_law_asked" s_asked f fd ∧ mg "_law_asked" = some (.ref f))
    (D_nearby : ∃ (f : Addr) (fd : FuncData), Fun K "_law_nearby" "_law_nearby" s_nearby f fd ∧ mg "_law_nearby" = some (.ref f))
    (D_merged_down : ∃ (f : Addr) (fd : FuncData), Fun K "_law_merged_down" "_law_merged_down" s_merged_down f fd ∧ mg "_law_merged_down" = some (.ref f))
    (D_law : ∃ (f : Addr) (fd : FuncData), Fun K "law" "law" s_law f fd ∧ mg "law" = some (.ref f))
    (M_m_init : ∃ (f : Addr) (fd : FuncData), Fun K "__init__" "Bag.__init__" s_m_init f fd ∧ Mk K C_Bag f)
    (M_m_times : ∃ (f : Addr) (fd : FuncData), Fun K "times" "Bag.times" s_m_times f fd ∧ Meth K C_Bag "times" f)
    (M_m_listed : ∃ (f : Addr) (fd : FuncData), Fun K "listed" "Bag.listed" s_m_listed f fd ∧ Meth K C_Bag "listed" f)
    (M_m_merged : ∃ (f : Addr) (fd : FuncData), Fun K "merged" "Bag.merged" s_m_merged f fd ∧ Meth K C_Bag "merged" f)
    (M_m_product : ∃ (f : Addr) (fd : FuncData), Fun K "product" "Bag.product" s_m_product f fd ∧ Meth K C_Bag "product" f)
    (M_m_add : ∃ (f : Addr) (fd : FuncData), Fun K "__add__" "Bag.__add__" s_m_add f fd ∧ PySem.W.findIn K (.ref C_Bag) "__add__" = some (some (.ref f)) ∧ PySem.W.isFn K (.ref f) = true)
    (M_m_contains : ∃ (f : Addr) (fd : FuncData), Fun K "__contains__" "Bag.__contains__" s_m_contains f fd ∧ PySem.W.findIn K (.ref C_Bag) "__contains__" = some (some (.ref f)) ∧ PySem.W.isFn K (.ref f) = true)
    (M_m_len : ∃ (f : Addr) (fd : FuncData), Fun K "__len__" "Bag.__len__" s_m_len f fd ∧ PySem.W.findIn K (.ref C_Bag) "__len__" = some (some (.ref f)) ∧ PySem.W.isFn K (.ref f) = true)
    (M_m_eq : ∃ (f : Addr) (fd : FuncData), Fun K "__eq__" "Bag.__eq__" s_m_eq f fd ∧ PySem.W.findIn K (.ref C_Bag) "__eq__" = some (some (.ref f)) ∧ PySem.W.isFn K (.ref f) = true)
    (M_m_repr : ∃ (f : Addr) (fd : FuncData), Fun K "__repr__" "Bag.__repr__" s_m_repr f fd ∧ PySem.W.findIn K (.ref C_Bag) "__repr__" = some (some (.ref f)) ∧ PySem.W.isFn K (.ref f) = true)
    (cl : Cls K C_Bag)
    (n__members : PySem.W.findIn K (.ref C_Bag) "_members" = some none)
    (sf : PySem.W.selfFirst K C_Bag = true)
    (mo : PySem.W.mroIn K C_Bag (.type "object") = some true)
    (ne_ : PySem.W.findIn K (.ref C_Bag) "__ne__" = some (some (.builtin "object.__ne__")))
    (ca : PySem.W.findIn K (.ref C_Bag) "__class__" = some (some (.builtin "object.__class__")))
    (cn : PySem.W.specialIn K (.builtin "object.__class__") "__get__" = some (some (.builtin "getset_descriptor.__get__")))
    (ct : PySem.W.takesIn K (.builtin "object.__class__") = some true)
    (kk : PySem.W.kitOne K (.ref C_Bag) (.ref C_Bag) = some true)
    (nf_list : PySem.W.notFirst K C_Bag (.type "list") = true)
    (k_list : PySem.W.kitOne K (.type "list") (.ref C_Bag) = some false)
    (nf_NoneType : PySem.W.notFirst K C_Bag (.type "NoneType") = true)
    (k_NoneType : PySem.W.kitOne K (.type "NoneType") (.ref C_Bag) = some false)
    (nf_Bag : PySem.W.notFirst K C_Bag (.ref C_Bag) = true)
    (z_abs : PySem.W.nsIn K mainGlobals "abs" = some none)
    (z_all : PySem.W.nsIn K mainGlobals "all" = some none)
    (z_bool : PySem.W.nsIn K mainGlobals "bool" = some none)
    (z_int : PySem.W.nsIn K mainGlobals "int" = some none)
    (z_isinstance : PySem.W.nsIn K mainGlobals "isinstance" = some none)
    (z_len : PySem.W.nsIn K mainGlobals "len" = some none)
    (z_list : PySem.W.nsIn K mainGlobals "list" = some none)
    (z_min : PySem.W.nsIn K mainGlobals "min" = some none)
    (z_range : PySem.W.nsIn K mainGlobals "range" = some none)
    (z_repr : PySem.W.nsIn K mainGlobals "repr" = some none)
    (z_sorted : PySem.W.nsIn K mainGlobals "sorted" = some none)
    (z_str : PySem.W.nsIn K mainGlobals "str" = some none)
    (z_tuple : PySem.W.nsIn K mainGlobals "tuple" = some none)
    (z_zip : PySem.W.nsIn K mainGlobals "zip" = some none)
    : ∃ fd : FuncData, (∀ (s : Shared) (v : Value), BindsTo s fd ⟨[v], []⟩ [("script", v)]) ∧ ∀ base : Heap, K.In base → base.Ns mainGlobals mg → FnOk P w K mg base CX0 11 fa fd ["script"] (spLaw K) := by
  obtain ⟨f_box, fd_box, F_box, g_box⟩ := D_box
  obtain ⟨f_draw, fd_draw, F_draw, g_draw⟩ := D_draw
  obtain ⟨f_of, fd_of, F_of, g_of⟩ := D_of
  obtain ⟨f_same, fd_same, F_same, g_same⟩ := D_same
  obtain ⟨f_prime, fd_prime, F_prime, g_prime⟩ := D_prime
  obtain ⟨f_number, fd_number, F_number, g_number⟩ := D_number
  obtain ⟨f_bag, fd_bag, F_bag, g_bag⟩ := D_bag
  obtain ⟨f_shuffled, fd_shuffled, F_shuffled, g_shuffled⟩ := D_shuffled
  obtain ⟨f_merge, fd_merge, F_merge, g_merge⟩ := D_merge
  obtain ⟨f_items, fd_items, F_items, g_items⟩ := D_items
  obtain ⟨f_strange, fd_strange, F_strange, g_strange⟩ := D_strange
  obtain ⟨f_is_bag, fd_is_bag, F_is_bag, g_is_bag⟩ := D_is_bag
  obtain ⟨f_asked, fd_asked, F_asked, g_asked⟩ := D_asked
  obtain ⟨f_nearby, fd_nearby, F_nearby, g_nearby⟩ := D_nearby
  obtain ⟨f_merged_down, fd_merged_down, F_merged_down, g_merged_down⟩ := D_merged_down
  obtain ⟨f_law, fd_law, F_law, g_law⟩ := D_law
  obtain ⟨f_m_init, fd_m_init, F_m_init, mk_⟩ := M_m_init
  obtain ⟨f_m_times, fd_m_times, F_m_times, me_m_times⟩ := M_m_times
  obtain ⟨f_m_listed, fd_m_listed, F_m_listed, me_m_listed⟩ := M_m_listed
  obtain ⟨f_m_merged, fd_m_merged, F_m_merged, me_m_merged⟩ := M_m_merged
  obtain ⟨f_m_product, fd_m_product, F_m_product, me_m_product⟩ := M_m_product
  obtain ⟨f_m_add, fd_m_add, F_m_add, f_add, n_add⟩ := M_m_add
  obtain ⟨f_m_contains, fd_m_contains, F_m_contains, f_contains, n_contains⟩ := M_m_contains
  obtain ⟨f_m_len, fd_m_len, F_m_len, f_len, n_len⟩ := M_m_len
  obtain ⟨f_m_eq, fd_m_eq, F_m_eq, f_eq, n_eq⟩ := M_m_eq
  obtain ⟨f_m_repr, fd_m_repr, F_m_repr, f_repr, n_repr⟩ := M_m_repr
  have b_m_times := F_m_times.binds (ps := ["self", "item"]) fun _ _ _ _ _ _ us hl => match us, hl with | [_, _], _ => rfl
  have b_m_listed := F_m_listed.binds (ps := ["self"]) fun _ _ _ _ _ _ us hl => match us, hl with | [_], _ => rfl
  have b_m_add := F_m_add.binds (ps := ["self", "other"]) fun _ _ _ _ _ _ us hl => match us, hl with | [_, _], _ => rfl
  have b_m_contains := F_m_contains.binds (ps := ["self", "item"]) fun _ _ _ _ _ _ us hl => match us, hl with | [_, _], _ => rfl
  have b_m_len := F_m_len.binds (ps := ["self"]) fun _ _ _ _ _ _ us hl => match us, hl with | [_], _ => rfl
  have b_m_eq := F_m_eq.binds (ps := ["self", "other"]) fun _ _ _ _ _ _ us hl => match us, hl with | [_, _], _ => rfl
  have b_m_repr := F_m_repr.binds (ps := ["self"]) fun _ _ _ _ _ _ us hl => match us, hl with | [_], _ => rfl
  have b_box := F_box.binds (ps := ["script"]) fun _ _ _ _ _ _ us hl => match us, hl with | [_], _ => rfl
  have b_draw := F_draw.binds (ps := ["box", "sides"]) fun _ _ _ _ _ _ us hl => match us, hl with | [_, _], _ => rfl
  have b_of := F_of.binds (ps := ["box", "things"]) fun _ _ _ _ _ _ us hl => match us, hl with | [_, _], _ => rfl
  have b_same := F_same.binds (ps := ["found", "due"]) fun _ _ _ _ _ _ us hl => match us, hl with | [_, _], _ => rfl
  have b_prime := F_prime.binds (ps := ["box"]) fun _ _ _ _ _ _ us hl => match us, hl with | [_], _ => rfl
  have b_number := F_number.binds (ps := ["box", "prime"]) fun _ _ _ _ _ _ us hl => match us, hl with | [_, _], _ => rfl
  have b_bag := F_bag.binds (ps := ["box", "items"]) fun _ _ _ _ _ _ us hl => match us, hl with | [_, _], _ => rfl
  have b_shuffled := F_shuffled.binds (ps := ["box", "items"]) fun _ _ _ _ _ _ us hl => match us, hl with | [_, _], _ => rfl
  have b_merge := F_merge.binds (ps := ["items", "gain", "prime"]) fun _ _ _ _ _ _ us hl => match us, hl with | [_, _, _], _ => rfl
  have b_items := F_items.binds (ps := ["box", "prime", "long", "many"]) fun _ _ _ _ _ _ us hl => match us, hl with | [_, _, _, _], _ => rfl
  have b_strange := F_strange.binds (ps := ["box", "items", "prime", "long"]) fun _ _ _ _ _ _ us hl => match us, hl with | [_, _, _, _], _ => rfl
  have b_is_bag := F_is_bag.binds (ps := ["found", "items"]) fun _ _ _ _ _ _ us hl => match us, hl with | [_, _], _ => rfl
  have b_asked := F_asked.binds (ps := ["box", "bag", "items", "prime", "long"]) fun _ _ _ _ _ _ us hl => match us, hl with | [_, _, _, _, _], _ => rfl
  have b_nearby := F_nearby.binds (ps := ["box", "items", "prime", "long"]) fun _ _ _ _ _ _ us hl => match us, hl with | [_, _, _, _], _ => rfl
  have b_merged_down := F_merged_down.binds (ps := ["box", "bag", "items", "prime", "long"]) fun _ _ _ _ _ _ us hl => match us, hl with | [_, _, _, _, _], _ => rfl
  have b_law := F_law.binds (ps := ["script"]) fun _ _ _ _ _ _ us hl => match us, hl with | [_], _ => rfl
  have kb_m_merged1 := K0.Fun.kbn1 F_m_merged (ps := ["self", "worth", "p"]) (n := 2) (ks := ["p"]) (g := fun us ws => us ++ ws) (fun _ _ _ _ _ _ us ws hu hl => match us, ws, hu, hl with | [_, _], [_], _, _ => rfl) (fun r1 r2 => r1.append r2)
  have kb_m_merged0 := K0.Fun.kbn1 F_m_merged (ps := ["self", "worth", "p"]) (n := 1) (ks := ["p", "worth"]) (g := fun us ws => us ++ ws.reverse) (fun _ _ _ _ _ _ us ws hu hl => match us, ws, hu, hl with | [_], [_, _], _, _ => rfl) (fun r1 r2 => r1.append (K0.Vals.rev r2))
  have kb_m_product1 := K0.Fun.kbn1 F_m_product (ps := ["self", "worth", "p"]) (n := 2) (ks := ["p"]) (g := fun us ws => us ++ ws) (fun _ _ _ _ _ _ us ws hu hl => match us, ws, hu, hl with | [_, _], [_], _, _ => rfl) (fun r1 r2 => r1.append r2)
  have kb_m_product0 := K0.Fun.kbn1 F_m_product (ps := ["self", "worth", "p"]) (n := 1) (ks := ["p", "worth"]) (g := fun us ws => us ++ ws.reverse) (fun _ _ _ _ _ _ us ws hu hl => match us, ws, hu, hl with | [_], [_, _], _, _ => rfl) (fun r1 r2 => r1.append (K0.Vals.rev r2))
  have kb_m_times0 := K0.Fun.kbn1 F_m_times (ps := ["self", "item"]) (n := 1) (ks := ["item"]) (g := fun us ws => us ++ ws) (fun _ _ _ _ _ _ us ws hu hl => match us, ws, hu, hl with | [_], [_], _, _ => rfl) (fun r1 r2 => r1.append r2)
  have T : Txt K mg :=
    { f_m_init := f_m_init
      fd_m_init := fd_m_init
      F_m_init := F_m_init
      f_m_times := f_m_times
      fd_m_times := fd_m_times
      F_m_times := F_m_times
      b_m_times := b_m_times
      f_m_listed := f_m_listed
      fd_m_listed := fd_m_listed
      F_m_listed := F_m_listed
      b_m_listed := b_m_listed
      f_m_merged := f_m_merged
      fd_m_merged := fd_m_merged
      F_m_merged := F_m_merged
      f_m_product := f_m_product
      fd_m_product := fd_m_product
      F_m_product := F_m_product
      f_m_add := f_m_add
      fd_m_add := fd_m_add
      F_m_add := F_m_add
      b_m_add := b_m_add
      f_m_contains := f_m_contains
      fd_m_contains := fd_m_contains
      F_m_contains := F_m_contains
      b_m_contains := b_m_contains
      f_m_len := f_m_len
      fd_m_len := fd_m_len
      F_m_len := F_m_len
      b_m_len := b_m_len
      f_m_eq := f_m_eq
      fd_m_eq := fd_m_eq
      F_m_eq := F_m_eq
      b_m_eq := b_m_eq
      f_m_repr := f_m_repr
      fd_m_repr := fd_m_repr
      F_m_repr := F_m_repr
      b_m_repr := b_m_repr
      f_box := f_box
      fd_box := fd_box
      F_box := F_box
      g_box := g_box
      b_box := b_box
      f_draw := f_draw
      fd_draw := fd_draw
      F_draw := F_draw
      g_draw := g_draw
      b_draw := b_draw
      f_of := f_of
      fd_of := fd_of
      F_of := F_of
      g_of := g_of
      b_of := b_of
      f_same := f_same
      fd_same := fd_same
      F_same := F_same
      g_same := g_same
      b_same := b_same
      f_prime := f_prime
      fd_prime := fd_prime
      F_prime := F_prime
      g_prime := g_prime
      b_prime := b_prime
      f_number := f_number
      fd_number := fd_number
      F_number := F_number
      g_number := g_number
      b_number := b_number
      f_bag := f_bag
      fd_bag := fd_bag
      F_bag := F_bag
      g_bag := g_bag
      b_bag := b_bag
      f_shuffled := f_shuffled
      fd_shuffled := fd_shuffled
      F_shuffled := F_shuffled
      g_shuffled := g_shuffled
      b_shuffled := b_shuffled
      f_merge := f_merge
      fd_merge := fd_merge
      F_merge := F_merge
      g_merge := g_merge
      b_merge := b_merge
      f_items := f_items
      fd_items := fd_items
      F_items := F_items
      g_items := g_items
      b_items := b_items
      f_strange := f_strange
      fd_strange := fd_strange
      F_strange := F_strange
      g_strange := g_strange
      b_strange := b_strange
      f_is_bag := f_is_bag
      fd_is_bag := fd_is_bag
      F_is_bag := F_is_bag
      g_is_bag := g_is_bag
      b_is_bag := b_is_bag
      f_asked := f_asked
      fd_asked := fd_asked
      F_asked := F_asked
      g_asked := g_asked
      b_asked := b_asked
      f_nearby := f_nearby
      fd_nearby := fd_nearby
      F_nearby := F_nearby
      g_nearby := g_nearby
      b_nearby := b_nearby
      f_merged_down := f_merged_down
      fd_merged_down := fd_merged_down
      F_merged_down := F_merged_down
      g_merged_down := g_merged_down
      b_merged_down := b_merged_down
      f_law := f_law
      fd_law := fd_law
      F_law := F_law
      g_law := g_law
      b_law := b_law
      kb_m_merged1 := kb_m_merged1
      kb_m_merged0 := kb_m_merged0
      kb_m_product1 := kb_m_product1
      kb_m_product0 := kb_m_product0
      kb_m_times0 := kb_m_times0
      C_Bag := C_Bag
      gC_Bag := PySem.W.mg_of X G gC
      cl := cl
      mk_ := mk_
      n__members := n__members
      sf := sf
      mo := mo
      ne_ := ne_
      ca := ca
      cn := cn
      ct := ct
      kk := kk
      me_m_times := me_m_times
      me_m_listed := me_m_listed
      me_m_merged := me_m_merged
      me_m_product := me_m_product
      f_add := f_add
      n_add := n_add
      f_eq := f_eq
      n_eq := n_eq
      f_repr := f_repr
      n_repr := n_repr
      f_len := f_len
      n_len := n_len
      f_contains := f_contains
      n_contains := n_contains
      nf_list := nf_list
      k_list := k_list
      nf_NoneType := nf_NoneType
      k_NoneType := k_NoneType
      nf_Bag := nf_Bag
      z_abs := PySem.W.mg_none_of X G z_abs
      z_all := PySem.W.mg_none_of X G z_all
      z_bool := PySem.W.mg_none_of X G z_bool
      z_int := PySem.W.mg_none_of X G z_int
      z_isinstance := PySem.W.mg_none_of X G z_isinstance
      z_len := PySem.W.mg_none_of X G z_len
      z_list := PySem.W.mg_none_of X G z_list
      z_min := PySem.W.mg_none_of X G z_min
      z_range := PySem.W.mg_none_of X G z_range
      z_repr := PySem.W.mg_none_of X G z_repr
      z_sorted := PySem.W.mg_none_of X G z_sorted
      z_str := PySem.W.mg_none_of X G z_str
      z_tuple := PySem.W.mg_none_of X G z_tuple
      z_zip := PySem.W.mg_none_of X G z_zip }
  have e : fa = T.f_law := by
    have := hfa.symm.trans T.g_law
    cases this
    rfl
  subst e
  exact ⟨T.fd_law, one_of T.F_law (fun _ _ _ _ _ _ _ => rfl), fun base _ _ => ok_law T⟩
end K0

namespace K0
open PySem L2
theorem walk {l : PySem.W.OpenLaw} {q : Program} {loose : List Str} {XP : (Str → Option Value) → Heap → Prop} {YP : World → Heap → Prop} {d : DefRec} {K : Params → PySem.W.Frag} (hn : l.most = some 63) (hdf : d.params.defaults = [])
    (hY : ∀ (w : World) (h : Heap), YP w h → (K w.params).In h)
    (F : ∀ (w : World) (mg : Str → Option Value) (fa : Addr) (h : Heap), (K w.params).In h → h.Ns mainGlobals mg → mg d.name = some (.ref fa) →
      ∃ fd : FuncData, (∀ (s : Shared) (u : Value), BindsTo s fd ⟨[u], []⟩ [("script", u)]) ∧ ∀ base : Heap, (K w.params).In base → base.Ns mainGlobals mg → FnOk l.prog w (K w.params) mg base CX0 11 fa fd ["script"] (spLaw (K w.params))) :
    PySem.W.WalkO q loose XP YP l.row.toRowW d [] (fun f vs => PySem.call f vs) :=
  L2.walk_of (n := 63) (k := 11) (x := "script") (CX := fun _ => CX0) (sp := fun w => spLaw (K w.params)) hn (by decide) hdf ⟨rfl, by decide, by decide⟩ hY F (fun _ _ a ns hl _ hS => ⟨a, ns, rfl, hS, hl, fun _ => rfl⟩) fun _ _ _ _ _ z => z
end K0
open PySem PySem.W PyProof.Rows in
set_option maxRecDepth 100000 in
set_option maxHeartbeats 0 in
theorem PySem.Challenge.cw_shownrun_k05_bags_told_holds : PySem.Challenge.rw_shownrun_k05_bags_told.Holds := by
  w_on; o_law; k_head; (case hw => w_witness2)
  k_fill
  refine K0.walk (l := PySem.Challenge.rw_shownrun_k05_bags_told) rfl rfl (fun w h Y => PySem.W.kIn_of Y) ?F
  case F =>
    intro w mg fa h KX G hmg
    refine' K0.build KX G hmg ?gC ?D_box ?D_draw ?D_of ?D_same ?D_prime ?D_number ?D_bag ?D_shuffled ?D_merge ?D_items ?D_strange ?D_is_bag ?D_asked ?D_nearby ?D_merged_down ?D_law ?M_m_init ?M_m_times ?M_m_listed ?M_m_merged ?M_m_product ?M_m_add ?M_m_contains ?M_m_len ?M_m_eq ?M_m_repr ?cl ?n__members ?sf ?mo ?ne_ ?ca ?cn ?ct ?kk ?nf_list ?k_list ?nf_NoneType ?k_NoneType ?nf_Bag ?z_abs ?z_all ?z_bool ?z_int ?z_isinstance ?z_len ?z_list ?z_min ?z_range ?z_repr ?z_sorted ?z_str ?z_tuple ?z_zip
    (case gC => first | k_is | rfl | decide +kernel)
    (case D_box => refine' K0.def_ex KX G ?a ?l ?c ?k; (case a => k_is); (case l => k_is); (case c => k_is); (case k => k_is))
    (case D_draw => refine' K0.def_ex KX G ?a ?l ?c ?k; (case a => k_is); (case l => k_is); (case c => k_is); (case k => k_is))
    (case D_of => refine' K0.def_ex KX G ?a ?l ?c ?k; (case a => k_is); (case l => k_is); (case c => k_is); (case k => k_is))
    (case D_same => refine' K0.def_ex KX G ?a ?l ?c ?k; (case a => k_is); (case l => k_is); (case c => k_is); (case k => k_is))
    (case D_prime => refine' K0.def_ex KX G ?a ?l ?c ?k; (case a => k_is); (case l => k_is); (case c => k_is); (case k => k_is))
    (case D_number => refine' K0.def_ex KX G ?a ?l ?c ?k; (case a => k_is); (case l => k_is); (case c => k_is); (case k => k_is))
    (case D_bag => refine' K0.def_ex KX G ?a ?l ?c ?k; (case a => k_is); (case l => k_is); (case c => k_is); (case k => k_is))
    (case D_shuffled => refine' K0.def_ex KX G ?a ?l ?c ?k; (case a => k_is); (case l => k_is); (case c => k_is); (case k => k_is))
    (case D_merge => refine' K0.def_ex KX G ?a ?l ?c ?k; (case a => k_is); (case l => k_is); (case c => k_is); (case k => k_is))
    (case D_items => refine' K0.def_ex KX G ?a ?l ?c ?k; (case a => k_is); (case l => k_is); (case c => k_is); (case k => k_is))
    (case D_strange => refine' K0.def_ex KX G ?a ?l ?c ?k; (case a => k_is); (case l => k_is); (case c => k_is); (case k => k_is))
    (case D_is_bag => refine' K0.def_ex KX G ?a ?l ?c ?k; (case a => k_is); (case l => k_is); (case c => k_is); (case k => k_is))
    (case D_asked => refine' K0.def_ex KX G ?a ?l ?c ?k; (case a => k_is); (case l => k_is); (case c => k_is); (case k => k_is))
    (case D_nearby => refine' K0.def_ex KX G ?a ?l ?c ?k; (case a => k_is); (case l => k_is); (case c => k_is); (case k => k_is))
    (case D_merged_down => refine' K0.def_ex KX G ?a ?l ?c ?k; (case a => k_is); (case l => k_is); (case c => k_is); (case k => k_is))
    (case D_law => refine' K0.def_ex KX G ?a ?l ?c ?k; (case a => k_is); (case l => k_is); (case c => k_is); (case k => k_is))
    (case M_m_init => refine' K0.init_ex ?mk ?a ?n ?kc ?l ?c ?k; (case mk => k_is); (case a => k_is); (case n => k_is); (case kc => k_is); (case l => k_is); (case c => k_is); (case k => k_is))
    (case M_m_times => refine' K0.meth_ex ?a ?n ?l ?c ?k; (case a => k_is); (case n => k_is); (case l => k_is); (case c => k_is); (case k => k_is))
    (case M_m_listed => refine' K0.meth_ex ?a ?n ?l ?c ?k; (case a => k_is); (case n => k_is); (case l => k_is); (case c => k_is); (case k => k_is))
    (case M_m_merged => refine' K0.meth_ex ?a ?n ?l ?c ?k; (case a => k_is); (case n => k_is); (case l => k_is); (case c => k_is); (case k => k_is))
    (case M_m_product => refine' K0.meth_ex ?a ?n ?l ?c ?k; (case a => k_is); (case n => k_is); (case l => k_is); (case c => k_is); (case k => k_is))
    (case M_m_add => refine' K0.own_ex ?a ?n ?l ?c ?k; (case a => k_is); (case n => k_is); (case l => k_is); (case c => k_is); (case k => k_is))
    (case M_m_contains => refine' K0.own_ex ?a ?n ?l ?c ?k; (case a => k_is); (case n => k_is); (case l => k_is); (case c => k_is); (case k => k_is))
    (case M_m_len => refine' K0.own_ex ?a ?n ?l ?c ?k; (case a => k_is); (case n => k_is); (case l => k_is); (case c => k_is); (case k => k_is))
    (case M_m_eq => refine' K0.own_ex ?a ?n ?l ?c ?k; (case a => k_is); (case n => k_is); (case l => k_is); (case c => k_is); (case k => k_is))
    (case M_m_repr => refine' K0.own_ex ?a ?n ?l ?c ?k; (case a => k_is); (case n => k_is); (case l => k_is); (case c => k_is); (case k => k_is))
    (case cl => refine' ⟨?a, ?b, ?c, ?d⟩; (case a => k_is); (case b => k_is); (case c => k_is); (case d => k_is))
    (case n__members => first | k_is | rfl | decide +kernel)
    (case sf => first | k_is | rfl | decide +kernel)
    (case mo => first | k_is | rfl | decide +kernel)
    (case ne_ => first | k_is | rfl | decide +kernel)
    (case ca => first | k_is | rfl | decide +kernel)
    (case cn => first | k_is | rfl | decide +kernel)
    (case ct => first | k_is | rfl | decide +kernel)
    (case kk => first | k_is | rfl | decide +kernel)
    (case nf_list => first | k_is | rfl | decide +kernel)
    (case k_list => first | k_is | rfl | decide +kernel)
    (case nf_NoneType => first | k_is | rfl | decide +kernel)
    (case k_NoneType => first | k_is | rfl | decide +kernel)
    (case nf_Bag => first | k_is | rfl | decide +kernel)
    (case z_abs => first | k_is | rfl | decide +kernel)
    (case z_all => first | k_is | rfl | decide +kernel)
    (case z_bool => first | k_is | rfl | decide +kernel)
    (case z_int => first | k_is | rfl | decide +kernel)
    (case z_isinstance => first | k_is | rfl | decide +kernel)
    (case z_len => first | k_is | rfl | decide +kernel)
    (case z_list => first | k_is | rfl | decide +kernel)
    (case z_min => first | k_is | rfl | decide +kernel)
    (case z_range => first | k_is | rfl | decide +kernel)
    (case z_repr => first | k_is | rfl | decide +kernel)
    (case z_sorted => first | k_is | rfl | decide +kernel)
    (case z_str => first | k_is | rfl | decide +kernel)
    (case z_tuple => first | k_is | rfl | decide +kernel)
    (case z_zip => first | k_is | rfl | decide +kernel)

