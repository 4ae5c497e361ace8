import PyProof.Rows.All
import Wide.All
import OpenK.AllK
import Wide.FinOn
import PyProof.EqAt
import PyProof.EqKinds
import PyProof.TupleCall
import Open.SpecLaws
import KE.OsGo
import HandS.ForSpec
import HandS.TryMany
import HandS.Wide
import HandS.WideBits
import HandS.Comp
import HandS.More
import HandS.IterVal
import HandS.SortKw
import HandS.Zip
import KE.DatumOrd
import KE.BitLaws
import KE.KBits
import PySem.Challenge.RW_voicesounds_s01_answers
set_option Elab.async false
/-! Floats as whole counts of 2^-149: what the specification does with z and e, told by counts. -/
namespace VS
open Sj32

/-- x is n counts of 2^-(149 + k) -/
def RepK (k : Nat) (x : D) (n : Int) : Prop := (x.z = 0 ∧ n = 0) ∨ (-149 - (k : Int) ≤ x.e ∧ n = x.z * 2 ^ (x.e + 149 + k).toNat)
def Rep (x : D) (n : Int) : Prop := RepK 0 x n

theorem pow_pos2 (n : Nat) : 0 < (2 : Nat) ^ n := Nat.two_pow_pos n
theorem ipow_pos2 (n : Nat) : 0 < (2 : Int) ^ n := Int.pow_pos (by decide)

theorem rep_iff {x : D} {n : Int} : Rep x n ↔ (x.z = 0 ∧ n = 0) ∨ (-149 ≤ x.e ∧ n = x.z * 2 ^ (x.e + 149).toNat) := by
  unfold Rep RepK
  simp

theorem rep_zero : Rep zero 0 := Or.inl ⟨rfl, rfl⟩
theorem rep_z {x : D} {n : Int} {k : Nat} (h : RepK k x n) : x.z = 0 ↔ n = 0 := by
  rcases h with ⟨a, b⟩ | ⟨_, b⟩
  · simp [a, b]
  · rw [b]
    constructor
    · intro h; rw [h]; simp
    · intro h
      rcases Int.mul_eq_zero.mp h with h | h
      · exact h
      · exact absurd h (Int.ne_of_gt (ipow_pos2 _))
theorem rep_neg {x : D} {n : Int} {k : Nat} (h : RepK k x n) : x.z < 0 ↔ n < 0 := by
  rcases h with ⟨a, b⟩ | ⟨_, b⟩
  · simp [a, b]
  · rw [b]
    have p := ipow_pos2 (x.e + 149 + k).toNat
    constructor
    · intro h; exact Int.mul_neg_of_neg_of_pos h p
    · intro h
      rcases Int.lt_or_le x.z 0 with q | q
      · exact q
      · have := Int.mul_nonneg q (Int.le_of_lt p)
        omega

theorem minus_rep {x : D} {n : Int} {k : Nat} (h : RepK k x n) : RepK k (minus x) (-n) := by
  rcases h with ⟨a, b⟩ | ⟨a, b⟩
  · exact Or.inl ⟨by simp [minus, a], by simp [b]⟩
  · exact Or.inr ⟨a, by simp [minus, b, Int.neg_mul]⟩

theorem absolute_rep {x : D} {n : Int} {k : Nat} (h : RepK k x n) : RepK k (absolute x) (n.natAbs : Int) := by
  rcases h with ⟨a, b⟩ | ⟨a, b⟩
  · exact Or.inl ⟨by simp [absolute, a], by simp [b]⟩
  · refine Or.inr ⟨a, ?_⟩
    rw [b, Int.natAbs_mul, Int.natAbs_pow]
    simp [absolute]

theorem times_rep {x y : D} {n m : Int} (h : Rep x n) (g : Rep y m) : RepK 149 (times x y) (n * m) := by
  rw [rep_iff] at h g
  rcases h with ⟨a, b⟩ | ⟨a, b⟩
  · exact Or.inl ⟨by simp [times, a], by simp [b]⟩
  rcases g with ⟨c, d⟩ | ⟨c, d⟩
  · exact Or.inl ⟨by simp [times, c], by simp [d]⟩
  refine Or.inr ⟨by simp only [times]; omega, ?_⟩
  have e : ((times x y).e + 149 + (149 : Nat)).toNat = (x.e + 149).toNat + (y.e + 149).toNat := by
    simp only [times]; omega
  rw [e, b, d, Int.pow_add]
  simp only [times]
  simp only [Int.mul_assoc, Int.mul_left_comm]

theorem plus_rep {x y : D} {n m : Int} {k : Nat} (h : RepK k x n) (g : RepK k y m) : RepK k (plus x y) (n + m) := by
  unfold plus
  by_cases hx : x.z = 0
  · rw [if_pos hx, (rep_z h).mp hx, Int.zero_add]; exact g
  rw [if_neg hx]
  by_cases hy : y.z = 0
  · rw [if_pos hy, (rep_z g).mp hy, Int.add_zero]; exact h
  rw [if_neg hy]
  rcases h with ⟨a, b⟩ | ⟨a, b⟩
  · exact absurd a hx
  rcases g with ⟨c, d⟩ | ⟨c, d⟩
  · exact absurd c hy
  refine Or.inr ⟨by simp only []; omega, ?_⟩
  simp only []
  have e1 : (x.e + 149 + (k : Int)).toNat = (x.e - min x.e y.e).toNat + (min x.e y.e + 149 + (k : Int)).toNat := by omega
  have e2 : (y.e + 149 + (k : Int)).toNat = (y.e - min x.e y.e).toNat + (min x.e y.e + 149 + (k : Int)).toNat := by omega
  rw [b, d, e1, e2, Int.pow_add, Int.pow_add, Int.add_mul, Int.mul_assoc, Int.mul_assoc]

theorem below_rep {x y : D} {n m : Int} {k : Nat} (h : RepK k x n) (g : RepK k y m) : below x y = decide (n < m) := by
  unfold below
  have r := rep_neg (plus_rep h (minus_rep g))
  by_cases c : n < m
  · rw [decide_eq_true c, decide_eq_true (r.mpr (by omega))]
  · rw [decide_eq_false c, decide_eq_false (fun q => c (by have := r.mp q; omega))]

theorem upTo_rep {x y : D} {n m : Int} {k : Nat} (h : RepK k x n) (g : RepK k y m) : upTo x y = decide (n ≤ m) := by
  unfold upTo
  rw [below_rep g h]
  by_cases c : n ≤ m
  · rw [decide_eq_true c, decide_eq_false (by omega)]; rfl
  · rw [decide_eq_false c, decide_eq_true (by omega)]; rfl

/-! ### Rounding -/
theorem size_zero : size 0 = 0 := rfl
theorem size_pos {n : Nat} (h : n ≠ 0) : size n = Nat.log2 n + 1 := if_neg h
theorem size_le {n b : Nat} : size n ≤ b ↔ n < 2 ^ b := by
  by_cases h : n = 0
  · subst h; simp [size_zero, pow_pos2]
  · rw [size_pos h]
    exact Nat.log2_lt h
theorem lt_size {n b : Nat} : b < size n ↔ 2 ^ b ≤ n := by
  have := @size_le n b
  omega
theorem size_mul_pow {n : Nat} (h : n ≠ 0) (s : Nat) : size (n * 2 ^ s) = size n + s := by
  have p := pow_pos2 s
  have lo : 2 ^ (size n - 1) ≤ n := by
    apply lt_size.mp
    have : size n ≠ 0 := by rw [size_pos h]; omega
    omega
  have hi : n < 2 ^ size n := size_le.mp (Nat.le_refl _)
  have k : size n ≠ 0 := by rw [size_pos h]; omega
  have a : size (n * 2 ^ s) ≤ size n + s := by
    rw [size_le, Nat.pow_add]
    exact (Nat.mul_lt_mul_right p).mpr hi
  have b : size n + s - 1 < size (n * 2 ^ s) := by
    rw [lt_size]
    have : size n + s - 1 = (size n - 1) + s := by omega
    rw [this, Nat.pow_add]
    exact Nat.mul_le_mul_right _ lo
  omega

/-- the rest rounds up -/
def ups (q r s : Nat) : Nat := if s < 2 * r ∨ (s = 2 * r ∧ q % 2 = 1) then 1 else 0
/-- how many bits go -/
def drop (k a : Nat) : Nat := max (size a - 24) k
/-- a counts of 2^-(149 + k), as counts of 2^-149 of the nearest float -/
def rndN (k a : Nat) : Nat := (a / 2 ^ drop k a + ups (a / 2 ^ drop k a) (a % 2 ^ drop k a) (2 ^ drop k a)) * 2 ^ (drop k a - k)
def rnd (k : Nat) (n : Int) : Int := signed (decide (n < 0)) (rndN k n.natAbs)

theorem ups_mul {q r s p : Nat} (h : 0 < p) : ups q (r * p) (s * p) = ups q r s := by
  unfold ups
  have e : 2 * (r * p) = (2 * r) * p := by rw [Nat.mul_assoc]
  have a : s * p < 2 * (r * p) ↔ s < 2 * r := by rw [e]; exact Nat.mul_lt_mul_right h
  have b : s * p = 2 * (r * p) ↔ s = 2 * r := by
    rw [e]; exact ⟨fun q => Nat.eq_of_mul_eq_mul_right h q, fun q => by rw [q]⟩
  simp only [a, b]
theorem ups_zero {q s : Nat} (h : 0 < s) : ups q 0 s = 0 := by
  unfold ups
  rw [if_neg]
  omega

theorem signed_mul (b : Bool) (m p : Nat) : signed b (m * p) = signed b m * (p : Int) := by
  unfold signed
  cases b <;> simp [Int.neg_mul]
theorem signed_zero (b : Bool) : signed b 0 = 0 := by cases b <;> rfl
theorem signed_natAbs (n : Int) : signed (decide (n < 0)) n.natAbs = n := by
  unfold signed
  by_cases h : n < 0
  · simp [h]; omega
  · simp [h]; omega

theorem rnd_zero (k : Nat) : rnd k 0 = 0 := by
  unfold rnd rndN
  simp [ups_zero (pow_pos2 _), signed]

theorem fit_small {K : Kind} {x : D} (h : max (((size x.z.natAbs : Nat) : Int) - (K.bits : Int)) (K.least - x.e) ≤ 0) (hz : x.z ≠ 0) : fit K x = x := by
  have m0 : x.z.natAbs ≠ 0 := by omega
  unfold fit
  dsimp only
  rw [if_neg m0, if_pos h]
theorem fit_big {K : Kind} {x : D} {d : Nat} (h : max (((size x.z.natAbs : Nat) : Int) - (K.bits : Int)) (K.least - x.e) = (d : Int)) (hd : 0 < d) :
    fit K x = if x.z.natAbs / 2 ^ d + ups (x.z.natAbs / 2 ^ d) (x.z.natAbs % 2 ^ d) (2 ^ d) = 0 then ⟨0, 0⟩ else ⟨signed (decide (x.z < 0)) (x.z.natAbs / 2 ^ d + ups (x.z.natAbs / 2 ^ d) (x.z.natAbs % 2 ^ d) (2 ^ d)), x.e + (d : Int)⟩ := by
  unfold fit
  dsimp only
  rw [h, Int.toNat_natCast]
  by_cases m0 : x.z.natAbs = 0
  · rw [if_pos m0, m0]
    simp [ups_zero (pow_pos2 _)]
  · rw [if_neg m0, if_neg (by omega)]
    rfl

theorem fit_rep {k : Nat} {x : D} {n : Int} (h : RepK k x n) : Rep (fit float x) (rnd k n) := by
  by_cases hz : x.z = 0
  · have hn := (rep_z h).mp hz
    subst hn
    rw [rnd_zero]
    unfold fit
    simp [hz]
    exact rep_zero
  rcases h with ⟨a, _⟩ | ⟨a, b⟩
  · exact absurd a hz
  have sg : decide (n < 0) = decide (x.z < 0) := by
    have r := rep_neg (k := k) (Or.inr ⟨a, b⟩ : RepK k x n)
    exact decide_eq_decide.mpr r.symm
  obtain ⟨m, hm⟩ : ∃ m, m = x.z.natAbs := ⟨_, rfl⟩
  have m0 : m ≠ 0 := by omega
  obtain ⟨s, hs⟩ : ∃ s, s = (x.e + 149 + (k : Int)).toNat := ⟨_, rfl⟩
  have es : (s : Int) = x.e + 149 + k := by omega
  have na : n.natAbs = m * 2 ^ s := by
    rw [b, Int.natAbs_mul, Int.natAbs_pow, ← hm, ← hs]; rfl
  have dd : drop k n.natAbs = max (size m + s - 24) k := by unfold drop; rw [na, size_mul_pow m0]
  have p := pow_pos2 s
  by_cases c : max (((size m : Nat) : Int) - ((24 : Nat) : Int)) (-149 - x.e) ≤ 0
  · rw [fit_small (K := float) (by rw [← hm]; exact c) hz]
    have hd : drop k n.natAbs ≤ s := by rw [dd]; omega
    have hk : k ≤ drop k n.natAbs := by rw [dd]; omega
    rw [rep_iff]
    refine Or.inr ⟨by omega, ?_⟩
    unfold rnd rndN
    obtain ⟨d, hdd⟩ : ∃ d, d = drop k n.natAbs := ⟨_, rfl⟩
    rw [← hdd] at hd hk ⊢
    have q1 : n.natAbs = (m * 2 ^ (s - d)) * 2 ^ d := by
      rw [na, Nat.mul_assoc, ← Nat.pow_add]; congr 2; omega
    have q2 : n.natAbs / 2 ^ d = m * 2 ^ (s - d) := by rw [q1]; exact Nat.mul_div_cancel _ (pow_pos2 d)
    have q3 : n.natAbs % 2 ^ d = 0 := by rw [q1]; exact Nat.mul_mod_left _ _
    rw [q2, q3, ups_zero (pow_pos2 d), Nat.add_zero, Nat.mul_assoc, ← Nat.pow_add, sg, hm, signed_mul, signed_natAbs]
    congr 1
    have : s - d + (d - k) = (x.e + 149).toNat := by omega
    rw [this]; simp
  · obtain ⟨d, hd⟩ : ∃ d : Nat, d = (max (((size m : Nat) : Int) - ((24 : Nat) : Int)) (-149 - x.e)).toNat := ⟨_, rfl⟩
    have ed : (d : Int) = max (((size m : Nat) : Int) - ((24 : Nat) : Int)) (-149 - x.e) := by omega
    rw [fit_big (K := float) (d := d) (by rw [← hm]; exact ed.symm) (by omega), ← hm]
    have hdr : drop k n.natAbs = d + s := by rw [dd]; omega
    have q2 : n.natAbs / 2 ^ (d + s) = m / 2 ^ d := by
      rw [na, Nat.pow_add]; exact Nat.mul_div_mul_right _ _ p
    have q3 : n.natAbs % 2 ^ (d + s) = (m % 2 ^ d) * 2 ^ s := by
      rw [na, Nat.pow_add]; exact Nat.mul_mod_mul_right _ _ _
    have q4 : rndN k n.natAbs = (m / 2 ^ d + ups (m / 2 ^ d) (m % 2 ^ d) (2 ^ d)) * 2 ^ (d + s - k) := by
      unfold rndN
      rw [hdr, q2, q3, Nat.pow_add 2 d s, ups_mul p]
    obtain ⟨w, hw⟩ : ∃ w, w = m / 2 ^ d + ups (m / 2 ^ d) (m % 2 ^ d) (2 ^ d) := ⟨_, rfl⟩
    rw [← hw] at q4 ⊢
    by_cases cw : w = 0
    · rw [if_pos cw]
      unfold rnd
      rw [q4, cw, Nat.zero_mul, signed_zero]
      exact rep_zero
    · rw [if_neg cw, rep_iff]
      refine Or.inr ⟨by simp only []; omega, ?_⟩
      unfold rnd
      rw [q4, signed_mul, sg]
      simp only []
      congr 1
      have : d + s - k = (x.e + (d : Int) + 149).toNat := by omega
      rw [this]; simp

def rAdd (a b : Int) : Int := rnd 0 (a + b)
def rSub (a b : Int) : Int := rnd 0 (a - b)
def rMul (a b : Int) : Int := rnd 149 (a * b)
theorem add_rep {x y : D} {n m : Int} (h : Rep x n) (g : Rep y m) : Rep (F x y add) (rAdd n m) := fit_rep (plus_rep h g)
theorem sub_rep {x y : D} {n m : Int} (h : Rep x n) (g : Rep y m) : Rep (F x y sub) (rSub n m) := by
  have := fit_rep (plus_rep h (minus_rep g))
  rw [← Int.sub_eq_add_neg] at this
  exact this
theorem mul_rep {x y : D} {n m : Int} (h : Rep x n) (g : Rep y m) : Rep (F x y mul) (rMul n m) := fit_rep (times_rep h g)

end VS

namespace VS
open Sj32

/-! ### Rounding keeps the order, powers of two, and floats -/
theorem ups_le (q r s : Nat) : ups q r s ≤ 1 := by unfold ups; split <;> omega
theorem size_mono {a b : Nat} (h : a ≤ b) : size a ≤ size b := by
  rw [size_le]
  exact Nat.lt_of_le_of_lt h (size_le.mp (Nat.le_refl _))
theorem drop_mono {k a b : Nat} (h : a ≤ b) : drop k a ≤ drop k b := by
  have := size_mono h
  unfold drop
  omega
theorem le_drop (k a : Nat) : k ≤ drop k a := by unfold drop; omega
theorem rndN_pow {k p a : Nat} (hk : k ≤ p) (h : a ≤ 2 ^ p) : rndN k a ≤ 2 ^ (p - k) := by
  have hd := le_drop k a
  unfold rndN
  obtain ⟨d, e⟩ : ∃ d, d = drop k a := ⟨_, rfl⟩
  rw [← e] at hd ⊢
  by_cases c : d ≤ p
  · have sp : 2 ^ (p - k) = 2 ^ (p - d) * 2 ^ (d - k) := by rw [← Nat.pow_add]; congr 1; omega
    rw [sp]
    apply Nat.mul_le_mul_right
    have u := ups_le (a / 2 ^ d) (a % 2 ^ d) (2 ^ d)
    have sp2 : 2 ^ p = 2 ^ (p - d) * 2 ^ d := by rw [← Nat.pow_add]; congr 1; omega
    by_cases c2 : a = 2 ^ p
    · have q : a / 2 ^ d = 2 ^ (p - d) := by rw [c2, sp2]; exact Nat.mul_div_cancel _ (pow_pos2 d)
      have r : a % 2 ^ d = 0 := by rw [c2, sp2]; exact Nat.mul_mod_left _ _
      rw [q, r, ups_zero (pow_pos2 d)]
      exact Nat.le_refl _
    · have : a / 2 ^ d < 2 ^ (p - d) := by
        apply Nat.div_lt_of_lt_mul
        rw [Nat.mul_comm, ← sp2]; omega
      omega
  · -- d > p ≥ k: then d = size a - 24, and a is at least 2 ^ (d + 23)
    exfalso
    have : d = size a - 24 := by unfold drop at e; omega
    have : size a ≤ p + 1 := by
      rw [size_le, Nat.pow_succ]
      have := pow_pos2 p
      omega
    omega
theorem rndN_ge {k p a : Nat} (hp : k ≤ p) (h : 2 ^ p ≤ a) : 2 ^ (p - k) ≤ rndN k a := by
  have hd := le_drop k a
  unfold rndN
  have hs : p < size a := lt_size.mpr h
  obtain ⟨d, e⟩ : ∃ d, d = drop k a := ⟨_, rfl⟩
  rw [← e] at hd ⊢
  by_cases c : d ≤ p
  · have sp : 2 ^ (p - k) = 2 ^ (p - d) * 2 ^ (d - k) := by rw [← Nat.pow_add]; congr 1; omega
    rw [sp]
    apply Nat.mul_le_mul_right
    have sp2 : 2 ^ p = 2 ^ (p - d) * 2 ^ d := by rw [← Nat.pow_add]; congr 1; omega
    have : 2 ^ (p - d) ≤ a / 2 ^ d := by
      rw [Nat.le_div_iff_mul_le (pow_pos2 d), ← sp2]; exact h
    omega
  · -- d = size a - 24
    have e2 : d = size a - 24 := by unfold drop at e; omega
    have h2 : 2 ^ (size a - 1) ≤ a := lt_size.mp (by omega)
    have : 1 ≤ a / 2 ^ d := by
      rw [Nat.le_div_iff_mul_le (pow_pos2 d), Nat.one_mul]
      exact Nat.le_trans (Nat.pow_le_pow_right (by decide) (by omega)) h2
    calc 2 ^ (p - k) ≤ 2 ^ (d - k) := Nat.pow_le_pow_right (by decide) (by omega)
      _ = 1 * 2 ^ (d - k) := (Nat.one_mul _).symm
      _ ≤ _ := Nat.mul_le_mul_right _ (by omega)
theorem rndN_mono {k a b : Nat} (h : a ≤ b) : rndN k a ≤ rndN k b := by
  have hd := drop_mono (k := k) h
  rcases Nat.lt_or_ge (drop k a) (drop k b) with c | c
  · have ka := le_drop k a
    have e : drop k b = size b - 24 := by unfold drop at c ⊢; omega
    have s : size a < size b := by unfold drop at c; omega
    have hb : 2 ^ (size b - 1) ≤ b := lt_size.mp (by omega)
    have ha : a ≤ 2 ^ (size b - 1) := Nat.le_of_lt (Nat.lt_of_lt_of_le (size_le.mp (Nat.le_refl (size a))) (Nat.pow_le_pow_right (by decide) (by omega)))
    exact Nat.le_trans (rndN_pow (by omega) ha) (rndN_ge (by omega) hb)
  · have e : drop k a = drop k b := by omega
    unfold rndN
    rw [e]
    apply Nat.mul_le_mul_right
    obtain ⟨d, ed⟩ : ∃ d, d = drop k b := ⟨_, rfl⟩
    rw [← ed]
    have q : a / 2 ^ d ≤ b / 2 ^ d := Nat.div_le_div_right h
    rcases Nat.lt_or_ge (a / 2 ^ d) (b / 2 ^ d) with c2 | c2
    · have := ups_le (a / 2 ^ d) (a % 2 ^ d) (2 ^ d)
      omega
    · have q2 : a / 2 ^ d = b / 2 ^ d := by omega
      rw [q2]
      have r : a % 2 ^ d ≤ b % 2 ^ d := by
        have x := Nat.div_add_mod a (2 ^ d)
        have y := Nat.div_add_mod b (2 ^ d)
        rw [q2] at x
        omega
      have : ups (b / 2 ^ d) (a % 2 ^ d) (2 ^ d) ≤ ups (b / 2 ^ d) (b % 2 ^ d) (2 ^ d) := by
        unfold ups
        split
        · rw [if_pos (by omega)]; exact Nat.le_refl _
        · split <;> omega
      omega
/-- a number of at most 24 bits, some bits up, stands as it is -/
theorem rndN_exact {k m s : Nat} (hm : m < 2 ^ 24) (hs : k ≤ s) : rndN k (m * 2 ^ s) = m * 2 ^ (s - k) := by
  have hd := le_drop k (m * 2 ^ s)
  have h2 : drop k (m * 2 ^ s) ≤ s := by
    unfold drop
    have : size (m * 2 ^ s) ≤ 24 + s := by
      rw [size_le, Nat.pow_add]
      exact (Nat.mul_lt_mul_right (pow_pos2 s)).mpr hm
    omega
  unfold rndN
  obtain ⟨d, e⟩ : ∃ d, d = drop k (m * 2 ^ s) := ⟨_, rfl⟩
  rw [← e] at hd h2 ⊢
  have sp : m * 2 ^ s = (m * 2 ^ (s - d)) * 2 ^ d := by rw [Nat.mul_assoc, ← Nat.pow_add]; congr 2; omega
  rw [sp, Nat.mul_div_cancel _ (pow_pos2 d), Nat.mul_mod_left, ups_zero (pow_pos2 d), Nat.add_zero, Nat.mul_assoc, ← Nat.pow_add]
  congr 2; omega
/-- a float by its size in counts -/
def Flt (a : Nat) : Prop := ∃ m s, m < 2 ^ 24 ∧ a = m * 2 ^ s
theorem flt_zero : Flt 0 := ⟨0, 0, by decide, rfl⟩
theorem flt_pow (p : Nat) : Flt (2 ^ p) := ⟨1, p, by decide, by omega⟩
theorem flt_of_le {m s : Nat} (h : m ≤ 2 ^ 24) : Flt (m * 2 ^ s) := by
  by_cases c : m = 2 ^ 24
  · refine ⟨1, 24 + s, by decide, ?_⟩
    rw [c, ← Nat.pow_add]; omega
  · exact ⟨m, s, by omega, rfl⟩
theorem flt_rnd0 {a : Nat} (h : Flt a) : rndN 0 a = a := by
  obtain ⟨m, s, hm, rfl⟩ := h
  exact rndN_exact hm (Nat.zero_le _)
theorem flt_rndK {a k : Nat} (h : Flt a) : rndN k (a * 2 ^ k) = a := by
  obtain ⟨m, s, hm, rfl⟩ := h
  rw [Nat.mul_assoc, ← Nat.pow_add, rndN_exact hm (by omega)]
  congr 2; omega
theorem rndN_flt (k a : Nat) : Flt (rndN k a) := by
  unfold rndN
  apply flt_of_le
  have hs : size a ≤ 24 + drop k a := by unfold drop; omega
  have := size_le.mp hs
  have u := ups_le (a / 2 ^ drop k a) (a % 2 ^ drop k a) (2 ^ drop k a)
  have : a / 2 ^ drop k a < 2 ^ 24 := by
    apply Nat.div_lt_of_lt_mul
    rw [Nat.mul_comm, ← Nat.pow_add]
    exact this
  omega
theorem err_arith {w v r t a : Nat} (x2 : w + r = a) (u1 : v ≤ 2 * r) (u2 : v ≤ t) (lo : t * 8388608 ≤ a) : (w + v) * 16777216 ≤ a * 16777217 := by
  have h1 : v * 2 ≤ r * 2 + t := by omega
  have h2 : v * 2 * 8388608 ≤ (r * 2 + t) * 8388608 := Nat.mul_le_mul_right _ h1
  rw [Nat.add_mul, Nat.mul_assoc, Nat.mul_assoc] at h2
  have h3 : a * 16777217 = w * 16777216 + r * 16777216 + a := by rw [← x2]; omega
  rw [h3, Nat.add_mul, Nat.add_assoc]
  exact Nat.add_le_add_left (Nat.le_trans h2 (Nat.add_le_add_left lo _)) _
/-- how far up a sum is rounded -/
theorem rndN_err {a : Nat} : (rndN 0 a) * 2 ^ 24 ≤ a * (2 ^ 24 + 1) := by
  unfold rndN
  obtain ⟨d, e⟩ : ∃ d, d = drop 0 a := ⟨_, rfl⟩
  rw [← e, Nat.sub_zero]
  by_cases d0 : d = 0
  · subst d0
    simp only [Nat.pow_zero, Nat.div_one, Nat.mod_one, Nat.mul_one]
    rw [ups_zero (by decide)]
    omega
  have e2 : d = size a - 24 := by unfold drop at e; omega
  have lo : 2 ^ (d + 23) ≤ a := lt_size.mp (by omega)
  have sp : 2 ^ (d + 23) = 2 ^ d * 2 ^ 23 := Nat.pow_add _ _ _
  rw [sp] at lo
  have x := Nat.div_add_mod a (2 ^ d)
  obtain ⟨t, ht⟩ : ∃ t, t = 2 ^ d := ⟨_, rfl⟩
  rw [← ht] at lo x ⊢
  rw [Nat.add_mul]
  obtain ⟨w, hw⟩ : ∃ w, w = a / t * t := ⟨_, rfl⟩
  have x2 : w + a % t = a := by rw [hw, Nat.mul_comm]; exact x
  rw [← hw]
  have u : ups (a / t) (a % t) t * t * 2 ≤ 4 * (a % t) ∧ ups (a / t) (a % t) t * t ≤ t := by
    unfold ups
    split
    · constructor <;> omega
    · constructor <;> omega
  obtain ⟨r, hr⟩ : ∃ r, r = a % t := ⟨_, rfl⟩
  obtain ⟨v, hv⟩ : ∃ v, v = ups (a / t) (a % t) t * t := ⟨_, rfl⟩
  rw [← hv] at u ⊢
  rw [← hr] at u x2
  clear hv hr hw x ht e e2 sp d0
  have p24 : (2 : Nat) ^ 24 = 16777216 := by decide
  have p23 : (2 : Nat) ^ 23 = 8388608 := by decide
  rw [p23] at lo
  rw [p24]
  exact err_arith x2 (by omega) u.2 lo
/-- what lies but little above a power of two comes down to it -/
theorem rndN_near {p a : Nat} (hp : 24 ≤ p) (h : a ≤ 2 ^ p + 2 ^ (p - 24)) : rndN 0 a ≤ 2 ^ p := by
  by_cases c : a ≤ 2 ^ p
  · exact rndN_pow (Nat.zero_le _) c
  have p0 : p = (p - 24) + 24 := by omega
  obtain ⟨q, hq⟩ : ∃ q, q = p - 24 := ⟨_, rfl⟩
  rw [← hq] at h p0
  subst p0
  have e1 : 2 ^ (q + 24) = 2 ^ q * 2 ^ 24 := Nat.pow_add _ _ _
  have e2 : 2 ^ (q + 1) = 2 ^ q * 2 := Nat.pow_succ ..
  have e3 : 2 ^ (q + 24 + 1) = 2 ^ (q + 24) * 2 := Nat.pow_succ ..
  have pq := pow_pos2 q
  have sz : size a = q + 25 := by
    have x : size a ≤ q + 24 + 1 := by rw [size_le]; omega
    have y : q + 24 < size a := by rw [lt_size]; omega
    omega
  have hd : drop 0 a = q + 1 := by unfold drop; omega
  unfold rndN
  rw [hd, Nat.sub_zero]
  have qd : a / 2 ^ (q + 1) = 2 ^ 23 := by
    apply Nat.div_eq_of_lt_le
    · rw [e2]; omega
    · rw [e2]; omega
  have md : a % 2 ^ (q + 1) = a - 2 ^ 23 * 2 ^ (q + 1) := by
    have x := Nat.div_add_mod a (2 ^ (q + 1))
    rw [qd] at x
    have : 2 ^ (q + 1) * 2 ^ 23 = 2 ^ 23 * 2 ^ (q + 1) := Nat.mul_comm _ _
    omega
  rw [qd]
  have u : ups (2 ^ 23) (a % 2 ^ (q + 1)) (2 ^ (q + 1)) = 0 := by
    unfold ups
    rw [if_neg]
    rw [md]
    have : 2 ^ 23 * 2 ^ (q + 1) = 2 ^ q * 2 ^ 24 := by rw [e2]; omega
    omega
  rw [u, Nat.add_zero, e2, e1]
  omega

/-! ### The same of numbers with a sign -/
theorem signed_abs (b : Bool) (m : Nat) : (signed b m).natAbs = m := by unfold signed; cases b <;> simp
theorem rnd_abs (k : Nat) (n : Int) : (rnd k n).natAbs = rndN k n.natAbs := signed_abs _ _
theorem rnd_nonneg {k : Nat} {n : Int} (h : 0 ≤ n) : rnd k n = (rndN k n.toNat : Int) := by
  unfold rnd signed
  have : n.natAbs = n.toNat := by omega
  rw [decide_eq_false (by omega), this]; rfl
theorem rnd_negv {k : Nat} (n : Int) : rnd k (-n) = - rnd k n := by
  rcases Int.lt_trichotomy n 0 with h | h | h
  · unfold rnd signed
    rw [Int.natAbs_neg, decide_eq_true h, decide_eq_false (by omega)]
    simp
  · subst h; simp [rnd_zero]
  · unfold rnd signed
    rw [Int.natAbs_neg, decide_eq_false (show ¬ n < 0 by omega), decide_eq_true (by omega)]
    simp
theorem rnd_nn {k : Nat} {n : Int} (h : 0 ≤ n) : 0 ≤ rnd k n := by rw [rnd_nonneg h]; omega
theorem rnd_np {k : Nat} {n : Int} (h : n ≤ 0) : rnd k n ≤ 0 := by
  have := rnd_nn (k := k) (n := -n) (by omega)
  rw [rnd_negv] at this
  omega
theorem rnd_mono {k : Nat} {n m : Int} (h : n ≤ m) : rnd k n ≤ rnd k m := by
  rcases Int.lt_or_le n 0 with a | a
  · rcases Int.lt_or_le m 0 with b | b
    · have e : rndN k (-m).toNat ≤ rndN k (-n).toNat := rndN_mono (by omega)
      have x := rnd_negv (k := k) n
      have y := rnd_negv (k := k) m
      rw [rnd_nonneg (by omega)] at x y
      omega
    · have x := rnd_np (k := k) (n := n) (by omega)
      have y := rnd_nn (k := k) b
      omega
  · rw [rnd_nonneg a, rnd_nonneg (by omega)]
    have : rndN k n.toNat ≤ rndN k m.toNat := rndN_mono (by omega)
    omega
theorem rnd_bound {k p : Nat} {n : Int} (hk : k ≤ p) (h : n.natAbs ≤ 2 ^ p) : (rnd k n).natAbs ≤ 2 ^ (p - k) := by
  rw [rnd_abs]; exact rndN_pow hk h
/-- a float, in counts -/
def FltI (n : Int) : Prop := Flt n.natAbs
theorem rnd_flt (k : Nat) (n : Int) : FltI (rnd k n) := by unfold FltI; rw [rnd_abs]; exact rndN_flt _ _
theorem flt_rnd {n : Int} (h : FltI n) : rnd 0 n = n := by
  unfold rnd
  rw [flt_rnd0 h, signed_natAbs]
theorem flt_rnd149 {n : Int} (h : FltI n) : rnd 149 (n * 2 ^ 149) = n := by
  unfold rnd
  have a : (n * 2 ^ 149).natAbs = n.natAbs * 2 ^ 149 := by rw [Int.natAbs_mul]; rfl
  have b : decide (n * 2 ^ 149 < 0) = decide (n < 0) := decide_eq_decide.mpr (by omega)
  rw [a, b, flt_rndK h, signed_natAbs]

/-! ### Held, parts, what's told -/
def hold (n : Int) : Int := if 2 ^ 153 < n then 2 ^ 153 else if n < -2 ^ 153 then -2 ^ 153 else n
theorem rep16 : Rep ⟨16, 0⟩ (2 ^ 153) := Or.inr ⟨by decide, by decide⟩
theorem repm16 : Rep ⟨-16, 0⟩ (-2 ^ 153) := Or.inr ⟨by decide, by decide⟩
theorem rep_one : Rep one (2 ^ 149) := Or.inr ⟨by decide, by decide⟩
theorem hold_rep {x : D} {n : Int} (h : Rep x n) : Rep (hold16 x) (hold n) := by
  unfold hold16 hold
  rw [below_rep rep16 h, below_rep h repm16]
  by_cases a : (2 : Int) ^ 153 < n
  · rw [if_pos (decide_eq_true a), if_pos a]; exact rep16
  · rw [if_neg (by rw [decide_eq_true_eq]; exact a), if_neg a]
    by_cases b : n < -2 ^ 153
    · rw [if_pos (decide_eq_true b), if_pos b]; exact repm16
    · rw [if_neg (by rw [decide_eq_true_eq]; exact b), if_neg b]; exact h
theorem hold_bound (n : Int) : (hold n).natAbs ≤ 2 ^ 153 := by
  unfold hold
  split
  · decide
  · split
    · decide
    · omega
def part (n : Nat) : Int := rnd 0 (signed32 n * 2 ^ 118)
theorem part31_rep (n : Nat) : Rep (part31 n) (part n) := by
  unfold part31 part
  obtain ⟨s, hs⟩ : ∃ s, s = signed32 n := ⟨_, rfl⟩
  rw [← hs]
  dsimp only
  by_cases z : s = 0
  · subst z
    rw [Int.zero_mul, rnd_zero]
    exact Or.inl ⟨by rfl, rfl⟩
  have key : (⟨(fit float ⟨s, 0⟩).z, (fit float ⟨s, 0⟩).e - 31⟩ : D).z = (fit float ⟨s, -31⟩).z ∧ ((fit float ⟨s, 0⟩).z ≠ 0 → (fit float ⟨s, 0⟩).e - 31 = (fit float ⟨s, -31⟩).e) := by
    have sz : 0 < size s.natAbs := by rw [size_pos (by omega)]; omega
    by_cases c : size s.natAbs ≤ 24
    · rw [fit_small (K := float) (x := ⟨s, 0⟩) (by simp only [float]; omega) z, fit_small (K := float) (x := ⟨s, -31⟩) (by simp only [float]; omega) z]
      exact ⟨rfl, fun _ => by simp only []; omega⟩
    · rw [fit_big (K := float) (x := ⟨s, 0⟩) (d := size s.natAbs - 24) (by simp only [float]; omega) (by omega), fit_big (K := float) (x := ⟨s, -31⟩) (d := size s.natAbs - 24) (by simp only [float]; omega) (by omega)]
      dsimp only
      split
      · exact ⟨rfl, fun q => absurd rfl q⟩
      · exact ⟨rfl, fun _ => by simp only []; omega⟩
  have r := fit_rep (k := 0) (x := ⟨s, -31⟩) (n := s * 2 ^ 118) (Or.inr ⟨by dsimp only; omega, by rfl⟩)
  obtain ⟨k1, k2⟩ := key
  by_cases q : (fit float ⟨s, 0⟩).z = 0
  · have : rnd 0 (s * 2 ^ 118) = 0 := (rep_z r).mp (by rw [← k1]; exact q)
    rw [this]
    exact Or.inl ⟨q, rfl⟩
  · have e : (⟨(fit float ⟨s, 0⟩).z, (fit float ⟨s, 0⟩).e - 31⟩ : D) = fit float ⟨s, -31⟩ := by
      have k3 := k2 q
      cases h : fit float ⟨s, -31⟩ with
      | mk a b =>
        rw [h] at k1 k3
        dsimp only at k1 k3 ⊢
        rw [k1, k3]
    rw [e]
    exact r

/-- to a whole number, of two as near the even one -/
def rne (d : Nat) (n : Int) : Int := signed (decide (n < 0)) (n.natAbs / 2 ^ d + ups (n.natAbs / 2 ^ d) (n.natAbs % 2 ^ d) (2 ^ d))
theorem told16_rep {x : D} {n : Int} (h : Rep x n) (b : n.natAbs < 2 ^ 250) : told16 x = max (-32768) (min 32767 (rne 134 n)) := by
  unfold told16
  dsimp only
  congr 2
  by_cases hz : x.z = 0
  · have hn := (rep_z h).mp hz
    subst hn
    rw [hz]
    unfold rne
    rw [Int.natAbs_zero, Nat.zero_div, Nat.zero_mod, ups_zero (pow_pos2 _), signed_zero]
    simp [fit]
  have h0 := h
  rw [rep_iff] at h
  rcases h with ⟨a, _⟩ | ⟨a, e⟩
  · exact absurd a hz
  have sg : decide (n < 0) = decide (x.z < 0) := decide_eq_decide.mpr (rep_neg h0).symm
  obtain ⟨m, hm⟩ : ∃ m, m = x.z.natAbs := ⟨_, rfl⟩
  obtain ⟨s, hs⟩ : ∃ s, s = (x.e + 149).toNat := ⟨_, rfl⟩
  have na : n.natAbs = m * 2 ^ s := by rw [e, Int.natAbs_mul, Int.natAbs_pow, ← hm, ← hs]; rfl
  have ms : size m ≤ 250 := by
    rw [size_le]
    have := pow_pos2 s
    rw [na] at b
    exact Nat.lt_of_le_of_lt (Nat.le_mul_of_pos_right m this) b
  unfold rne
  rw [sg, na]
  by_cases c : -15 ≤ x.e
  · rw [fit_small (K := ⟨1000, 0⟩) (x := ⟨x.z, x.e + 15⟩) (by dsimp only; rw [← hm]; omega) hz]
    dsimp only
    rw [if_pos (by omega)]
    have q1 : m * 2 ^ s = (m * 2 ^ (x.e + 15).toNat) * 2 ^ 134 := by
      rw [Nat.mul_assoc, ← Nat.pow_add]; congr 2; omega
    rw [q1, Nat.mul_div_cancel _ (pow_pos2 134), Nat.mul_mod_left, ups_zero (pow_pos2 _), Nat.add_zero, hm, signed_mul, signed_natAbs]
    simp
  · obtain ⟨d, hd⟩ : ∃ d : Nat, (d : Int) = -(x.e + 15) := ⟨(-(x.e + 15)).toNat, by omega⟩
    rw [fit_big (K := ⟨1000, 0⟩) (x := ⟨x.z, x.e + 15⟩) (d := d) (by dsimp only; rw [← hm]; omega) (by omega)]
    dsimp only
    rw [← hm]
    have q0 : (2 : Nat) ^ 134 = 2 ^ d * 2 ^ s := by rw [← Nat.pow_add]; congr 1; omega
    have q2 : m * 2 ^ s / 2 ^ 134 = m / 2 ^ d := by rw [q0]; exact Nat.mul_div_mul_right _ _ (pow_pos2 s)
    have q3 : m * 2 ^ s % 2 ^ 134 = (m % 2 ^ d) * 2 ^ s := by rw [q0]; exact Nat.mul_mod_mul_right _ _ _
    rw [q2, q3, q0, ups_mul (pow_pos2 s)]
    split
    · rename_i w
      rw [w, signed_zero]
      rfl
    · dsimp only
      rw [if_pos (by omega)]
      have : (x.e + 15 + (d : Int)).toNat = 0 := by omega
      rw [this]
      simp

/-! ### A float as it's told -/
theorem odd_parts : ∀ (f : Nat) (z e : Int), z ≠ 0 → size z.natAbs ≤ f → ∃ (w : Int) (j : Nat), w % 2 = 1 ∧ z = w * 2 ^ j ∧ odd f z e = [w, e + j]
  | 0, z, e, h, g => by
    have : size z.natAbs = Nat.log2 z.natAbs + 1 := size_pos (by omega)
    omega
  | f + 1, z, e, h, g => by
    unfold odd
    by_cases c : z % 2 = 0
    · rw [if_pos c]
      have s : size (z / 2).natAbs ≤ f := by
        rw [size_le] at g ⊢
        rw [Nat.pow_succ] at g
        omega
      obtain ⟨w, j, a, b, d⟩ := odd_parts f (z / 2) (e + 1) (by omega) s
      refine ⟨w, j + 1, a, ?_, ?_⟩
      · rw [Int.pow_succ, ← Int.mul_assoc, ← b]; omega
      · rw [d]; congr 2; omega
    · rw [if_neg c]
      exact ⟨z, 0, by omega, by simp, by simp⟩
theorem odd_unique {z w : Int} {a b : Nat} (hz : z % 2 = 1) (hw : w % 2 = 1) (h : z * 2 ^ a = w * 2 ^ b) : z = w ∧ a = b := by
  induction a generalizing b with
  | zero =>
    cases b with
    | zero => exact ⟨by simpa using h, rfl⟩
    | succ b =>
      rw [Int.pow_succ, ← Int.mul_assoc, Int.pow_zero, Int.mul_one] at h
      omega
  | succ a ih =>
    cases b with
    | zero =>
      rw [Int.pow_succ, ← Int.mul_assoc, Int.pow_zero, Int.mul_one] at h
      omega
    | succ b =>
      have : z * 2 ^ a = w * 2 ^ b := by
        rw [Int.pow_succ, Int.pow_succ, ← Int.mul_assoc, ← Int.mul_assoc] at h
        omega
      obtain ⟨x, y⟩ := ih this
      exact ⟨x, by omega⟩
theorem told_rep {x : D} {n w : Int} {t : Nat} (h : Rep x n) (hw : w % 2 = 1) (e : n = w * 2 ^ t) : x.told = [w, (t : Int) - 149] := by
  have n0 : n ≠ 0 := by
    rw [e]
    intro q
    rcases Int.mul_eq_zero.mp q with q | q
    · omega
    · exact absurd q (Int.ne_of_gt (ipow_pos2 _))
  have z0 : x.z ≠ 0 := fun q => n0 ((rep_z h).mp q)
  rw [rep_iff] at h
  rcases h with ⟨a, _⟩ | ⟨a, b⟩
  · exact absurd a z0
  unfold D.told
  rw [if_neg z0]
  obtain ⟨v, j, p, q, r⟩ := odd_parts (size x.z.natAbs) x.z x.e z0 (Nat.le_refl _)
  rw [r]
  have u : v * 2 ^ (j + (x.e + 149).toNat) = w * 2 ^ t := by
    rw [← e, b, Int.pow_add, ← Int.mul_assoc, ← q]
  obtain ⟨u1, u2⟩ := odd_unique p hw u
  rw [u1]
  congr 2
  omega
theorem told_zero {x : D} (h : Rep x 0) : x.told = [0, 0] := by
  unfold D.told
  rw [if_pos ((rep_z h).mpr rfl)]

/-! ### A float that's handed -/
theorem handed_rep {z e : Int} {t : Nat} (hz : z.natAbs ≤ 2 ^ 24) (he : -200 ≤ e) (_he2 : e ≤ 200) (z0 : z ≠ 0) :
    isF ⟨(t : Int), 0⟩ ⟨z, e⟩ = decide (2 ^ 180 ≤ z * 2 ^ (e + 200).toNat ∧ z * 2 ^ (e + 200).toNat ≤ (t : Int) * 2 ^ 200) := by
  have r : RepK 51 ⟨z, e⟩ (z * 2 ^ (e + 200).toNat) := by
    refine Or.inr ⟨by dsimp only; omega, ?_⟩
    dsimp only
    congr 2
    omega
  have r20 : RepK 51 ⟨1, -20⟩ (2 ^ 180) := Or.inr ⟨by decide, by decide⟩
  have rt : RepK 51 ⟨(t : Int), 0⟩ ((t : Int) * 2 ^ 200) := Or.inr ⟨by dsimp only; omega, rfl⟩
  unfold isF
  rw [below_rep r r20, upTo_rep r rt]
  have zb : ((⟨z, e⟩ : D).z == 0) = false := by simpa using z0
  rw [zb, Bool.false_or]
  by_cases c : 2 ^ 180 ≤ z * 2 ^ (e + 200).toNat ∧ z * 2 ^ (e + 200).toNat ≤ (t : Int) * 2 ^ 200
  · rw [decide_eq_true c, decide_eq_true c.2, decide_eq_false (show ¬ z * 2 ^ (e + 200).toNat < 2 ^ 180 by have := c.1; omega)]
    have zp : 0 < z := by
      rcases Int.lt_or_le 0 z with q | q
      · exact q
      · have p := ipow_pos2 (e + 200).toNat
        have : z * 2 ^ (e + 200).toNat ≤ 0 := Int.mul_nonpos_of_nonpos_of_nonneg q (Int.le_of_lt p)
        have := c.1
        omega
    have ge : -44 ≤ e := by
      rcases Int.lt_or_le e (-44) with q | q
      · exfalso
        have p1 : (2 : Int) ^ (e + 200).toNat ≤ 2 ^ 155 := by
          have := Nat.pow_le_pow_right (n := 2) (by decide) (show (e + 200).toNat ≤ 155 by omega)
          have h2 : ((2 ^ (e + 200).toNat : Nat) : Int) ≤ ((2 ^ 155 : Nat) : Int) := by omega
          simpa using h2
        have p2 : z * 2 ^ (e + 200).toNat ≤ 2 ^ 24 * 2 ^ 155 := Int.mul_le_mul (by omega) p1 (Int.le_of_lt (ipow_pos2 _)) (by decide)
        have := c.1
        have k : (2 : Int) ^ 24 * 2 ^ 155 < 2 ^ 180 := by decide
        omega
      · exact q
    have rr : Rep ⟨z, e⟩ (z * 2 ^ (e + 149).toNat) := rep_iff.mpr (Or.inr ⟨by dsimp only; omega, rfl⟩)
    have fl : FltI (z * 2 ^ (e + 149).toNat) := by
      unfold FltI
      rw [Int.natAbs_mul, Int.natAbs_pow]
      exact flt_of_le hz
    have ik : isKind float ⟨z, e⟩ = true := by
      unfold isKind
      have q := plus_rep rr (minus_rep (fit_rep (k := 0) rr))
      rw [flt_rnd fl, Int.add_right_neg] at q
      exact decide_eq_true ((rep_z q).mpr rfl)
    rw [ik, decide_eq_true (show 0 < (⟨z, e⟩ : D).z from zp)]
    rfl
  · rw [decide_eq_false c]
    by_cases c1 : 2 ^ 180 ≤ z * 2 ^ (e + 200).toNat
    · have c2 : ¬ z * 2 ^ (e + 200).toNat ≤ (t : Int) * 2 ^ 200 := fun q => c ⟨c1, q⟩
      rw [decide_eq_false c2]
      simp
    · rw [decide_eq_true (show z * 2 ^ (e + 200).toNat < 2 ^ 180 by omega)]
      simp
end VS

namespace VS
open Sj32

/-! ### The specification's voices and rows, by counts -/
def U (x : D) : Int := x.z * 2 ^ (x.e + 149).toNat
def Ok (x : D) : Prop := x.z = 0 ∨ -149 ≤ x.e
theorem rep_U {x : D} (h : Ok x) : Rep x (U x) := by
  rw [rep_iff]
  rcases h with h | h
  · exact Or.inl ⟨h, by unfold U; rw [h, Int.zero_mul]⟩
  · exact Or.inr ⟨h, rfl⟩
theorem U_rep {x : D} {n : Int} (h : Rep x n) : Ok x ∧ U x = n := by
  rw [rep_iff] at h
  rcases h with ⟨a, b⟩ | ⟨a, b⟩
  · exact ⟨Or.inl a, by unfold U; rw [a, b, Int.zero_mul]⟩
  · exact ⟨Or.inr a, b.symm⟩
theorem ok_zero : Ok zero := Or.inl rfl
theorem U_zero : U zero = 0 := rfl
theorem ok_one : Ok one := Or.inr (by decide)
theorem U_one : U one = 2 ^ 149 := by decide
theorem ok_add {x y : D} (hx : Ok x) (hy : Ok y) : Ok (F x y add) := (U_rep (add_rep (rep_U hx) (rep_U hy))).1
theorem U_add {x y : D} (hx : Ok x) (hy : Ok y) : U (F x y add) = rAdd (U x) (U y) := (U_rep (add_rep (rep_U hx) (rep_U hy))).2
theorem ok_sub {x y : D} (hx : Ok x) (hy : Ok y) : Ok (F x y sub) := (U_rep (sub_rep (rep_U hx) (rep_U hy))).1
theorem U_sub {x y : D} (hx : Ok x) (hy : Ok y) : U (F x y sub) = rSub (U x) (U y) := (U_rep (sub_rep (rep_U hx) (rep_U hy))).2
theorem ok_mul {x y : D} (hx : Ok x) (hy : Ok y) : Ok (F x y mul) := (U_rep (mul_rep (rep_U hx) (rep_U hy))).1
theorem U_mul {x y : D} (hx : Ok x) (hy : Ok y) : U (F x y mul) = rMul (U x) (U y) := (U_rep (mul_rep (rep_U hx) (rep_U hy))).2
theorem ok_hold {x : D} (hx : Ok x) : Ok (hold16 x) := (U_rep (hold_rep (rep_U hx))).1
theorem U_hold {x : D} (hx : Ok x) : U (hold16 x) = hold (U x) := (U_rep (hold_rep (rep_U hx))).2
theorem ok_part (n : Nat) : Ok (part31 n) := (U_rep (part31_rep n)).1
theorem U_part (n : Nat) : U (part31 n) = part n := (U_rep (part31_rep n)).2
theorem ok_abs {x : D} (hx : Ok x) : Ok (absolute x) := (U_rep (absolute_rep (rep_U hx))).1
theorem U_abs {x : D} (hx : Ok x) : U (absolute x) = ((U x).natAbs : Int) := (U_rep (absolute_rep (rep_U hx))).2
theorem below_U {x y : D} (hx : Ok x) (hy : Ok y) : below x y = decide (U x < U y) := below_rep (rep_U hx) (rep_U hy)
theorem upTo_U {x y : D} (hx : Ok x) (hy : Ok y) : upTo x y = decide (U x ≤ U y) := upTo_rep (rep_U hx) (rep_U hy)

/-- a voice by counts -/
structure IV where
  wave : Nat
  width : Nat
  level : Int
  left : Int
  right : Int
  mode : Nat
  cut : Int
  damp : Int
  rise : Int
  fall : Int
  keep : Int
  go : Int
  phase : Nat
  step : Nat
  draw : Nat
  low : Int
  band : Int
  stage : Nat
  env : Int
def conc (v : Voice) : IV := ⟨v.wave, v.width, U v.level, U v.left, U v.right, v.mode, U v.cut, U v.damp, U v.rise, U v.fall, U v.keep, U v.go, v.phase, v.step, v.draw, U v.low, U v.band, v.stage, U v.env⟩
structure OkV (v : Voice) : Prop where
  level : Ok v.level
  left : Ok v.left
  right : Ok v.right
  cut : Ok v.cut
  damp : Ok v.damp
  rise : Ok v.rise
  fall : Ok v.fall
  keep : Ok v.keep
  go : Ok v.go
  low : Ok v.low
  band : Ok v.band
  env : Ok v.env
/-- what a voice's numbers keep to -/
structure Bd (i : IV) : Prop where
  wave : i.wave ≤ 3
  width : i.width < 2 ^ 32
  mode : i.mode ≤ 3
  phase : i.phase < 2 ^ 32
  step : i.step ≤ 2 ^ 31
  draw : i.draw < 2 ^ 32
  stage : i.stage ≤ 3
  level : 0 ≤ i.level ∧ i.level ≤ 2 ^ 149
  left : 0 ≤ i.left ∧ i.left ≤ 2 ^ 149
  right : 0 ≤ i.right ∧ i.right ≤ 2 ^ 149
  cut : 0 ≤ i.cut ∧ i.cut ≤ 2 ^ 149
  damp : 0 ≤ i.damp ∧ i.damp ≤ 2 ^ 150
  rise : 0 ≤ i.rise ∧ i.rise ≤ 2 ^ 149
  fall : 0 ≤ i.fall ∧ i.fall ≤ 2 ^ 149
  keep : (0 ≤ i.keep ∧ i.keep ≤ 2 ^ 149) ∧ FltI i.keep
  go : 0 ≤ i.go ∧ i.go ≤ 2 ^ 149
  low : i.low.natAbs ≤ 2 ^ 153
  band : i.band.natAbs ≤ 2 ^ 153
  env : (0 ≤ i.env ∧ i.env ≤ 2 ^ 150) ∧ FltI i.env

def IV.tone (v : IV) : Int := if v.wave = 0 then part v.phase else if v.wave = 1 then (if v.phase < v.width then 2 ^ 149 else -2 ^ 149) else
  if v.wave = 2 then rSub (rMul (2 ^ 150) ((part v.phase).natAbs : Int)) (2 ^ 149) else part v.draw
def IV.low1 (v : IV) : Int := hold (rAdd v.low (rMul v.cut v.band))
def IV.high1 (v : IV) (x : Int) : Int := hold (rSub (rSub x v.low1) (rMul v.damp v.band))
def IV.band1 (v : IV) (x : Int) : Int := hold (rAdd v.band (rMul v.cut (v.high1 x)))
def IV.out (v : IV) (x : Int) : Int := if v.mode = 0 then x else if v.mode = 1 then v.low1 else if v.mode = 2 then v.band1 x else v.high1 x
def IV.filtered (v : IV) (x : Int) : IV := { v with low := v.low1, band := v.band1 x }
def IV.shaped (v : IV) : IV := if v.stage = 0 then v else if v.stage = 1 then
    (if 2 ^ 149 ≤ rAdd v.env v.rise then { v with env := 2 ^ 149, stage := 2 } else { v with env := rAdd v.env v.rise }) else if v.stage = 2 then
    { v with env := rAdd v.keep (rMul (rSub v.env v.keep) v.fall) } else
    (if rMul v.env v.go < 2 ^ 129 then { v with env := 0, stage := 0 } else { v with env := rMul v.env v.go })
def IV.moved (v : IV) : IV := { v with phase := (v.phase + v.step) % 2 ^ 32, draw := (v.draw * 1664525 + 1013904223) % 2 ^ 32 }
def IV.sounds (v : IV) : Int := if v.stage = 0 then 0 else rMul (rMul (v.shaped.out v.shaped.tone) v.shaped.env) v.shaped.level
def IV.next (v : IV) : IV := if v.stage = 0 then v else (v.shaped.filtered v.shaped.tone).moved

theorem tone_ok (v : Voice) : Ok v.tone := by
  unfold Voice.tone
  split
  · exact ok_part _
  · split
    · exact ok_one
    · exact Or.inr (by decide)
  · exact ok_sub (ok_mul (Or.inr (by decide)) (ok_abs (ok_part _))) ok_one
  · exact ok_part _
theorem U_two : U ⟨2, 0⟩ = 2 ^ 150 := by decide
theorem U_mone : U ⟨-1, 0⟩ = -2 ^ 149 := by decide
theorem U_20 : U ⟨1, -20⟩ = 2 ^ 129 := by decide
theorem tone_def (v : Voice) : v.tone = if v.wave = 0 then part31 v.phase else if v.wave = 1 then (if v.phase < v.width then one else ⟨-1, 0⟩) else
    if v.wave = 2 then F (F ⟨2, 0⟩ (absolute (part31 v.phase)) mul) one sub else part31 v.draw := by
  unfold Voice.tone
  rcases e : v.wave with _ | _ | _ | n
  · rfl
  · rfl
  · rfl
  · rw [if_neg (show ¬ n + 1 + 1 + 1 = 0 by omega), if_neg (show ¬ n + 1 + 1 + 1 = 1 by omega), if_neg (show ¬ n + 1 + 1 + 1 = 2 by omega)]
    rfl
theorem tone_U (v : Voice) : U v.tone = (conc v).tone := by
  rw [tone_def]
  unfold IV.tone
  show _ = if v.wave = 0 then part v.phase else if v.wave = 1 then (if v.phase < v.width then 2 ^ 149 else -2 ^ 149) else
    if v.wave = 2 then rSub (rMul (2 ^ 150) ((part v.phase).natAbs : Int)) (2 ^ 149) else part v.draw
  by_cases h0 : v.wave = 0
  · rw [if_pos h0, if_pos h0, U_part]
  rw [if_neg h0, if_neg h0]
  by_cases h1 : v.wave = 1
  · rw [if_pos h1, if_pos h1]
    by_cases c : v.phase < v.width
    · rw [if_pos c, if_pos c, U_one]
    · rw [if_neg c, if_neg c, U_mone]
  rw [if_neg h1, if_neg h1]
  by_cases h2 : v.wave = 2
  · rw [if_pos h2, if_pos h2, U_sub (ok_mul (Or.inr (by decide)) (ok_abs (ok_part _))) ok_one, U_mul (Or.inr (by decide)) (ok_abs (ok_part _)), U_abs (ok_part _), U_part, U_two, U_one]
  · rw [if_neg h2, if_neg h2, U_part]

theorem shaped_ok {v : Voice} (h : OkV v) : OkV v.shaped := by
  unfold Voice.shaped
  split
  · exact h
  · dsimp only
    split
    · exact { h with env := ok_one }
    · exact { h with env := ok_add h.env h.rise }
  · exact { h with env := ok_add h.keep (ok_mul (ok_sub h.env h.keep) h.fall) }
  · dsimp only
    split
    · exact { h with env := ok_zero }
    · exact { h with env := ok_mul h.env h.go }
theorem shaped_def (v : Voice) : v.shaped = if v.stage = 0 then v else if v.stage = 1 then
    (if upTo one (F v.env v.rise add) then { v with env := one, stage := 2 } else { v with env := F v.env v.rise add }) else if v.stage = 2 then
    { v with env := F v.keep (F (F v.env v.keep sub) v.fall mul) add } else
    (if below (F v.env v.go mul) ⟨1, -20⟩ then { v with env := zero, stage := 0 } else { v with env := F v.env v.go mul }) := by
  unfold Voice.shaped
  rcases e : v.stage with _ | _ | _ | n
  · rfl
  · rfl
  · rfl
  · rw [if_neg (show ¬ n + 1 + 1 + 1 = 0 by omega), if_neg (show ¬ n + 1 + 1 + 1 = 1 by omega), if_neg (show ¬ n + 1 + 1 + 1 = 2 by omega)]
    rfl
theorem conc_ite {c : Prop} [Decidable c] (a b : Voice) : conc (if c then a else b) = if c then conc a else conc b := by split <;> rfl
theorem conc_envst (v : Voice) (e : D) (s : Nat) : conc { v with env := e, stage := s } = { conc v with env := U e, stage := s } := rfl
theorem shaped_U {v : Voice} (h : OkV v) : conc v.shaped = (conc v).shaped := by
  rw [shaped_def]
  unfold IV.shaped
  have st : (conc v).stage = v.stage := rfl
  rw [st, upTo_U ok_one (ok_add h.env h.rise), below_U (ok_mul h.env h.go) (Or.inr (by decide)), U_one, U_20, U_add h.env h.rise, U_mul h.env h.go]
  simp only [conc_ite, conc_envst, decide_eq_true_eq]
  rw [U_one, U_zero, U_add h.env h.rise, U_mul h.env h.go, U_add h.keep (ok_mul (ok_sub h.env h.keep) h.fall), U_mul (ok_sub h.env h.keep) h.fall, U_sub h.env h.keep]
  rfl

theorem low1_rep {v : Voice} (h : OkV v) : Rep (hold16 (F v.low (F v.cut v.band mul) add)) (conc v).low1 :=
  hold_rep (add_rep (rep_U h.low) (mul_rep (rep_U h.cut) (rep_U h.band)))
theorem high1_rep {v : Voice} (h : OkV v) {x : D} {n : Int} (hx : Rep x n) : Rep (hold16 (F (F x (hold16 (F v.low (F v.cut v.band mul) add)) sub) (F v.damp v.band mul) sub)) ((conc v).high1 n) :=
  hold_rep (sub_rep (sub_rep hx (low1_rep h)) (mul_rep (rep_U h.damp) (rep_U h.band)))
theorem band1_rep {v : Voice} (h : OkV v) {x : D} {n : Int} (hx : Rep x n) : Rep (hold16 (F v.band (F v.cut (hold16 (F (F x (hold16 (F v.low (F v.cut v.band mul) add)) sub) (F v.damp v.band mul) sub)) mul) add)) ((conc v).band1 n) :=
  hold_rep (add_rep (rep_U h.band) (mul_rep (rep_U h.cut) (high1_rep h hx)))
theorem filtered_ok {v : Voice} (h : OkV v) {x : D} {n : Int} (hx : Rep x n) : OkV (v.filtered x).1 :=
  { h with low := (U_rep (low1_rep h)).1, band := (U_rep (band1_rep h hx)).1 }
theorem filtered_U {v : Voice} (h : OkV v) {x : D} {n : Int} (hx : Rep x n) : conc (v.filtered x).1 = (conc v).filtered n := by
  unfold Voice.filtered IV.filtered
  simp only [conc, (U_rep (low1_rep h)).2, (U_rep (band1_rep h hx)).2]
theorem out_rep {v : Voice} (h : OkV v) {x : D} {n : Int} (hx : Rep x n) : Rep (v.filtered x).2 ((conc v).out n) := by
  unfold Voice.filtered IV.out
  dsimp only
  have e : (conc v).mode = v.mode := rfl
  rw [e]
  split
  · exact hx
  · split
    · exact low1_rep h
    · split
      · exact band1_rep h hx
      · exact high1_rep h hx
theorem sample_rep {v : Voice} (h : OkV v) : Rep v.sample.1 (conc v).sounds := by
  unfold Voice.sample IV.sounds
  have e : (conc v).stage = v.stage := rfl
  rw [e]
  split
  · exact rep_zero
  · dsimp only
    have r := rep_U (tone_ok v.shaped)
    rw [tone_U, shaped_U h] at r
    have o := out_rep (shaped_ok h) r
    rw [shaped_U h] at o
    have f := filtered_ok (shaped_ok h) r
    have q := mul_rep (mul_rep o (rep_U f.env)) (rep_U f.level)
    have u : U (v.shaped.filtered v.shaped.tone).1.env = (conc v).shaped.env := by
      have := congrArg IV.env (shaped_U h); exact this
    have w : U (v.shaped.filtered v.shaped.tone).1.level = (conc v).shaped.level := by
      have := congrArg IV.level (shaped_U h); exact this
    rw [u, w] at q
    exact q
theorem sample_ok {v : Voice} (h : OkV v) : OkV v.sample.2 := by
  unfold Voice.sample
  split
  · exact h
  · have f := filtered_ok (shaped_ok h) (rep_U (tone_ok v.shaped))
    exact ⟨f.level, f.left, f.right, f.cut, f.damp, f.rise, f.fall, f.keep, f.go, f.low, f.band, f.env⟩
theorem sample_U {v : Voice} (h : OkV v) : conc v.sample.2 = (conc v).next := by
  unfold Voice.sample IV.next
  have e : (conc v).stage = v.stage := rfl
  rw [e]
  split
  · rfl
  · have f := filtered_U (shaped_ok h) (rep_U (tone_ok v.shaped))
    rw [tone_U, shaped_U h] at f
    rw [← f]
    rfl

/-! ### The bounds stand -/
theorem bound_mul {a b : Int} {p q : Nat} (ha : a.natAbs ≤ 2 ^ p) (hb : b.natAbs ≤ 2 ^ q) (h : 149 ≤ p + q) : (rMul a b).natAbs ≤ 2 ^ (p + q - 149) := by
  apply rnd_bound h
  rw [Int.natAbs_mul, Nat.pow_add]
  exact Nat.mul_le_mul ha hb
theorem bound_add {a b : Int} {p : Nat} (ha : a.natAbs ≤ 2 ^ p) (hb : b.natAbs ≤ 2 ^ p) : (rAdd a b).natAbs ≤ 2 ^ (p + 1) := by
  apply rnd_bound (Nat.zero_le _)
  rw [Nat.pow_succ]
  omega
theorem bound_sub {a b : Int} {p : Nat} (ha : a.natAbs ≤ 2 ^ p) (hb : b.natAbs ≤ 2 ^ p) : (rSub a b).natAbs ≤ 2 ^ (p + 1) := by
  apply rnd_bound (Nat.zero_le _)
  rw [Nat.pow_succ]
  omega
/-- a float by one of at most 1 is no greater -/
theorem mul_le {a b : Int} (ha : 0 ≤ a) (fa : FltI a) (hb : 0 ≤ b) (hb1 : b ≤ 2 ^ 149) : 0 ≤ rMul a b ∧ rMul a b ≤ a := by
  refine ⟨rnd_nn (Int.mul_nonneg ha hb), ?_⟩
  have := rnd_mono (k := 149) (Int.mul_le_mul_of_nonneg_left hb1 ha)
  rw [flt_rnd149 fa] at this
  exact this
theorem mul_neg (a b : Int) : rMul (-a) b = - rMul a b := by
  unfold rMul
  rw [Int.neg_mul, rnd_negv]
theorem fall_bound {e k f : Int} (he : 0 ≤ e ∧ e ≤ 2 ^ 150) (_fe : FltI e) (hk : 0 ≤ k ∧ k ≤ 2 ^ 149) (fk : FltI k) (hf : 0 ≤ f ∧ f ≤ 2 ^ 149) :
    0 ≤ rAdd k (rMul (rSub e k) f) ∧ rAdd k (rMul (rSub e k) f) ≤ 2 ^ 150 := by
  rcases Int.lt_or_le e k with c | c
  · -- from below
    have s : rSub e k = - rnd 0 (k - e) := by
      unfold rSub
      rw [← rnd_negv]; congr 1; omega
    have d0 : 0 ≤ rnd 0 (k - e) := rnd_nn (by omega)
    have d1 : rnd 0 (k - e) ≤ k := by
      have := rnd_mono (k := 0) (show k - e ≤ k by omega)
      rw [flt_rnd fk] at this
      exact this
    obtain ⟨m0, m1⟩ := mul_le d0 (rnd_flt _ _) hf.1 hf.2
    rw [s, mul_neg]
    refine ⟨rnd_nn (by omega), ?_⟩
    have := rnd_mono (k := 0) (show k + - rMul (rnd 0 (k - e)) f ≤ k by omega)
    rw [flt_rnd fk] at this
    unfold rAdd
    have : (2 : Int) ^ 149 ≤ 2 ^ 150 := by decide
    omega
  · have d0 : 0 ≤ rSub e k := rnd_nn (by omega)
    obtain ⟨m0, m1⟩ := mul_le d0 (rnd_flt _ _) hf.1 hf.2
    refine ⟨rnd_nn (by omega), ?_⟩
    have er := rndN_err (a := (e - k).toNat)
    have es : rSub e k = (rndN 0 (e - k).toNat : Int) := rnd_nonneg (by omega)
    obtain ⟨w, hw⟩ : ∃ w, w = rndN 0 (e - k).toNat := ⟨_, rfl⟩
    rw [← hw] at er es
    have near : (k + rMul (rSub e k) f).toNat ≤ 2 ^ 150 + 2 ^ (150 - 24) := by
      have a1 : (w : Int) * 16777216 ≤ (e - k) * 16777217 := by
        have : ((w * 2 ^ 24 : Nat) : Int) ≤ (((e - k).toNat * (2 ^ 24 + 1) : Nat) : Int) := by omega
        rw [Int.natCast_mul, Int.natCast_mul] at this
        have h2 : (((e - k).toNat : Nat) : Int) = e - k := by omega
        rw [h2] at this
        exact this
      rw [es] at m1 ⊢
      have a2 : (2 : Int) ^ 150 = 2 ^ 126 * 16777216 := by decide
      have a3 : (2 : Nat) ^ 150 + 2 ^ (150 - 24) = 85070591730234615865843651857942052864 * 16777217 := by decide
      rw [a3]
      have a4 : (2 : Int) ^ 126 = 85070591730234615865843651857942052864 := by decide
      rw [a4] at a2
      have a5 := he.2
      rw [a2] at a5
      have a6 := hk.1
      clear a2 a3 a4 er es hw hk he hf
      omega
    have := rndN_near (p := 150) (by decide) near
    unfold rAdd
    rw [rnd_nonneg (by omega)]
    have h3 : ((2 ^ 150 : Nat) : Int) = (2 : Int) ^ 150 := by decide
    omega
theorem one_nn : (0 : Int) ≤ 2 ^ 149 := by decide
theorem one_two : (2 : Int) ^ 149 ≤ 2 ^ 150 := by decide
theorem flt_one : FltI (2 ^ 149) := by
  have e : ((2 : Int) ^ 149).natAbs = 2 ^ 149 := by rw [Int.natAbs_pow]; rfl
  unfold FltI
  rw [e]
  exact flt_pow 149
theorem two_nn : (0 : Int) ≤ 2 ^ 150 := by decide
theorem bd_env {i : IV} (h : Bd i) {e : Int} {s : Nat} (he : (0 ≤ e ∧ e ≤ 2 ^ 150) ∧ FltI e) (hs : s ≤ 3) : Bd { i with env := e, stage := s } :=
  ⟨h.wave, h.width, h.mode, h.phase, h.step, h.draw, hs, h.level, h.left, h.right, h.cut, h.damp, h.rise, h.fall, h.keep, h.go, h.low, h.band, he⟩
theorem bd_shaped {i : IV} (h : Bd i) : Bd i.shaped := by
  unfold IV.shaped
  split
  · exact h
  split
  · split
    · exact bd_env h ⟨⟨one_nn, one_two⟩, flt_one⟩ (by omega)
    · rename_i c
      refine bd_env h ⟨⟨rnd_nn (by have := h.env.1.1; have := h.rise.1; omega), ?_⟩, rnd_flt _ _⟩ h.stage
      have := one_two
      omega
  split
  · exact bd_env h ⟨fall_bound h.env.1 h.env.2 h.keep.1 h.keep.2 h.fall, rnd_flt _ _⟩ h.stage
  · split
    · exact bd_env h ⟨⟨Int.le_refl _, two_nn⟩, flt_zero⟩ (by omega)
    · have m := mul_le h.env.1.1 h.env.2 h.go.1 h.go.2
      refine bd_env h ⟨⟨m.1, ?_⟩, rnd_flt _ _⟩ h.stage
      have := h.env.1.2
      omega
theorem bd_filtered {i : IV} (h : Bd i) (x : Int) : Bd (i.filtered x) := { h with low := hold_bound _, band := hold_bound _ }
theorem bd_moved {i : IV} (h : Bd i) : Bd i.moved := { h with phase := Nat.mod_lt _ (by decide), draw := Nat.mod_lt _ (by decide) }
theorem bd_next {i : IV} (h : Bd i) : Bd i.next := by
  unfold IV.next
  split
  · exact h
  · exact bd_moved (bd_filtered (bd_shaped h) _)
theorem part_bound (n : Nat) (h : n < 2 ^ 32) : (part n).natAbs ≤ 2 ^ 149 := by
  apply rnd_bound (p := 149) (Nat.zero_le _)
  rw [Int.natAbs_mul]
  have : (signed32 n).natAbs ≤ 2 ^ 31 := by unfold signed32; split <;> omega
  calc (signed32 n).natAbs * ((2 : Int) ^ 118).natAbs ≤ 2 ^ 31 * 2 ^ 118 := Nat.mul_le_mul this (by decide)
    _ = 2 ^ 149 := by decide
theorem tone_bound {i : IV} (h : Bd i) : i.tone.natAbs ≤ 2 ^ 151 := by
  have p1 : (2 : Nat) ^ 149 ≤ 2 ^ 151 := by decide
  unfold IV.tone
  split
  · have := part_bound i.phase h.phase; omega
  split
  · split <;> decide
  split
  · apply bound_sub (p := 150)
    · exact bound_mul (p := 150) (q := 149) (by decide) (by rw [Int.natAbs_natCast]; exact part_bound _ h.phase) (by decide)
    · decide
  · have := part_bound i.draw h.draw; omega
theorem out_bound {i : IV} {x : Int} (hx : x.natAbs ≤ 2 ^ 153) : (i.out x).natAbs ≤ 2 ^ 153 := by
  unfold IV.out
  split
  · exact hx
  split
  · exact hold_bound _
  split
  · exact hold_bound _
  · exact hold_bound _
theorem abs_le {z : Int} {p : Nat} (h0 : 0 ≤ z) (h : z ≤ 2 ^ p) : z.natAbs ≤ 2 ^ p := by
  have : ((2 ^ p : Nat) : Int) = (2 : Int) ^ p := by simp
  omega
theorem sounds_bound {i : IV} (h : Bd i) : i.sounds.natAbs ≤ 2 ^ 154 := by
  unfold IV.sounds
  split
  · decide
  · have s := bd_shaped h
    have t := tone_bound s
    have o := out_bound (i := i.shaped) (x := i.shaped.tone) (Nat.le_trans t (by decide))
    exact bound_mul (p := 154) (q := 149) (bound_mul (p := 153) (q := 150) o (abs_le s.env.1.1 s.env.1.2) (by decide)) (abs_le s.level.1 s.level.2) (by decide)
end VS

namespace VS
open Sj32

/-! ### A sample of all, by counts -/
structure IH where
  voices : List IV
  left : List Int
  right : List Int
  feed : Int
  heard : Int
def concH (h : House) : IH := ⟨h.voices.map conc, h.echo.left.map U, h.echo.right.map U, U h.echo.feed, U h.echo.heard⟩
def OkRow (l : List D) : Prop := ∀ d ∈ l, Ok d ∧ (U d).natAbs ≤ 2 ^ 153
structure OkH (h : House) : Prop where
  len : h.voices.length = 8
  voices : ∀ v ∈ h.voices, OkV v ∧ Bd (conc v)
  same : h.echo.left.length = h.echo.right.length
  few : h.echo.left.length ≤ 1024
  left : OkRow h.echo.left
  right : OkRow h.echo.right
  feed : Ok h.echo.feed ∧ 0 ≤ U h.echo.feed ∧ U h.echo.feed ≤ 2 ^ 149
  heard : Ok h.echo.heard ∧ 0 ≤ U h.echo.heard ∧ U h.echo.heard ≤ 2 ^ 149
def IV.toL (v : IV) (a : Int) : Int := rAdd a (rMul v.sounds v.left)
def IV.toR (v : IV) (a : Int) : Int := rAdd a (rMul v.sounds v.right)
def IH.sideL (h : IH) : Int := h.voices.foldl (fun a v => v.toL a) 0
def IH.sideR (h : IH) : Int := h.voices.foldl (fun a v => v.toR a) 0
def heardI (heard x : Int) (l : List Int) : Int := match l with
  | [] => x
  | d :: _ => rAdd x (rMul heard d)
def rowI (feed x : Int) (l : List Int) : List Int := match l with
  | [] => []
  | d :: r => r ++ [hold (rAdd x (rMul feed d))]
def told16I (n : Int) : Int := max (-32768) (min 32767 (rne 134 n))
def IH.outL (h : IH) : Int := told16I (heardI h.heard h.sideL h.left)
def IH.outR (h : IH) : Int := told16I (heardI h.heard h.sideR h.right)
def IH.next (h : IH) : IH := { h with voices := h.voices.map IV.next, left := rowI h.feed h.sideL h.left, right := rowI h.feed h.sideR h.right }

theorem fold_parts : ∀ (l : List Voice) (a b : D) (acc : List Voice),
    l.foldl (fun (a : D × D × List Voice) v =>
      let y := v.sample
      (F a.1 (F y.1 v.left mul) add, F a.2.1 (F y.1 v.right mul) add, a.2.2 ++ [y.2])) (a, b, acc) =
    (l.foldl (fun a v => F a (F v.sample.1 v.left mul) add) a, l.foldl (fun b v => F b (F v.sample.1 v.right mul) add) b, acc ++ l.map fun v => v.sample.2)
  | [], a, b, acc => by simp
  | v :: l, a, b, acc => by
    rw [List.foldl_cons, fold_parts l]
    simp
theorem fold_side {f : Voice → D} {g : IV → Int} (hf : ∀ v, OkV v → Ok (f v) ∧ U (f v) = g (conc v)) (hg : ∀ i, Bd i → (g i).natAbs ≤ 2 ^ 149) :
    ∀ (l : List Voice) (p : Nat) (a : D), 154 ≤ p → (∀ v ∈ l, OkV v ∧ Bd (conc v)) → Ok a → (U a).natAbs ≤ 2 ^ p →
    Rep (l.foldl (fun a v => F a (F v.sample.1 (f v) mul) add) a) ((l.map conc).foldl (fun a i => rAdd a (rMul i.sounds (g i))) (U a)) ∧
    ((l.map conc).foldl (fun a i => rAdd a (rMul i.sounds (g i))) (U a)).natAbs ≤ 2 ^ (p + l.length)
  | [], p, a, _, _, ha, hb => ⟨rep_U ha, hb⟩
  | v :: l, p, a, hp, h, ha, hb => by
    obtain ⟨hv, hd⟩ := h v (List.mem_cons_self ..)
    obtain ⟨f1, f2⟩ := hf v hv
    have r := add_rep (rep_U ha) (mul_rep (sample_rep hv) (rep_U f1))
    rw [f2] at r
    obtain ⟨o, u⟩ := U_rep r
    have b1 : (rMul (conc v).sounds (g (conc v))).natAbs ≤ 2 ^ p := by
      have := bound_mul (p := 154) (q := 149) (sounds_bound hd) (hg _ hd) (by decide)
      exact Nat.le_trans this (Nat.pow_le_pow_right (by decide) hp)
    have b2 := bound_add hb b1
    rw [← u] at b2
    have ih := fold_side hf hg l (p + 1) _ (by omega) (fun w hw => h w (List.mem_cons_of_mem _ hw)) o b2
    rw [u] at ih
    rw [List.foldl_cons, List.map_cons, List.foldl_cons, List.length_cons]
    have e : p + (l.length + 1) = p + 1 + l.length := by omega
    rw [e]
    exact ih
theorem side_left {h : House} (k : OkH h) : Rep (h.voices.foldl (fun a v => F a (F v.sample.1 v.left mul) add) zero) (concH h).sideL ∧ ((concH h).sideL).natAbs ≤ 2 ^ 162 := by
  have q := fold_side (f := fun v => v.left) (g := fun i => i.left) (fun v hv => ⟨hv.left, rfl⟩) (fun i hi => abs_le hi.left.1 hi.left.2) h.voices 154 zero (Nat.le_refl _) k.voices ok_zero (by decide)
  rw [k.len] at q
  exact q
theorem side_right {h : House} (k : OkH h) : Rep (h.voices.foldl (fun a v => F a (F v.sample.1 v.right mul) add) zero) (concH h).sideR ∧ ((concH h).sideR).natAbs ≤ 2 ^ 162 := by
  have q := fold_side (f := fun v => v.right) (g := fun i => i.right) (fun v hv => ⟨hv.right, rfl⟩) (fun i hi => abs_le hi.right.1 hi.right.2) h.voices 154 zero (Nat.le_refl _) k.voices ok_zero (by decide)
  rw [k.len] at q
  exact q
theorem echoed_parts {feed heard x : D} {n : Int} {l : List D} (hx : Rep x n) (hn : n.natAbs ≤ 2 ^ 162) (hf : Ok feed) (hh : Ok heard) (hb : 0 ≤ U heard ∧ U heard ≤ 2 ^ 149) (hl : OkRow l) :
    told16 (echoed feed heard x l).1 = told16I (heardI (U heard) n (l.map U)) ∧ (echoed feed heard x l).2.map U = rowI (U feed) n (l.map U) ∧ OkRow (echoed feed heard x l).2 ∧ (echoed feed heard x l).2.length = l.length := by
  cases l with
  | nil =>
    refine ⟨told16_rep hx (Nat.lt_of_le_of_lt hn (Nat.pow_lt_pow_right (by decide) (by decide))), rfl, hl, rfl⟩
  | cons d r =>
    obtain ⟨d1, d2⟩ := hl d (List.mem_cons_self ..)
    have a := add_rep hx (mul_rep (rep_U hh) (rep_U d1))
    have c := hold_rep (add_rep hx (mul_rep (rep_U hf) (rep_U d1)))
    have m1 := bound_mul (p := 149) (q := 153) (abs_le hb.1 hb.2) d2 (by decide)
    have b := bound_add (p := 162) hn (Nat.le_trans m1 (by decide))
    refine ⟨told16_rep a (Nat.lt_of_le_of_lt b (Nat.pow_lt_pow_right (by decide) (by decide))), ?_, ?_, ?_⟩
    · show (r ++ [hold16 (F x (F feed d mul) add)]).map U = r.map U ++ [_]
      rw [List.map_append, List.map_singleton, (U_rep c).2]
    · intro y hy
      rcases List.mem_append.mp hy with q | q
      · exact hl y (List.mem_cons_of_mem _ q)
      · rw [List.mem_singleton.mp q]
        refine ⟨(U_rep c).1, ?_⟩
        rw [(U_rep c).2]
        exact hold_bound _
    · show (r ++ [hold16 (F x (F feed d mul) add)]).length = (d :: r).length
      simp
theorem all_sample {h : House} (k : OkH h) : h.sample.1 = ((concH h).outL, (concH h).outR) ∧ concH h.sample.2 = (concH h).next ∧ OkH h.sample.2 := by
  obtain ⟨l1, l2⟩ := side_left k
  obtain ⟨r1, r2⟩ := side_right k
  unfold House.sample
  simp only [fold_parts, List.nil_append]
  obtain ⟨a1, a2, a3, a4⟩ := echoed_parts l1 l2 k.feed.1 k.heard.1 k.heard.2 k.left
  obtain ⟨b1, b2, b3, b4⟩ := echoed_parts r1 r2 k.feed.1 k.heard.1 k.heard.2 k.right
  refine ⟨?_, ?_, ?_⟩
  · rw [a1, b1]; rfl
  · unfold concH IH.next
    dsimp only
    rw [a2, b2]
    have e : (h.voices.map fun v => v.sample.2).map conc = (h.voices.map conc).map IV.next := by
      rw [List.map_map, List.map_map]
      apply List.map_congr_left
      intro v hv
      exact sample_U (k.voices v hv).1
    rw [e]
    rfl
  · refine ⟨?_, ?_, ?_, ?_, a3, b3, k.feed, k.heard⟩
    · simp [k.len]
    · intro v hv
      obtain ⟨w, hw, rfl⟩ := List.mem_map.mp hv
      obtain ⟨o, d⟩ := k.voices w hw
      refine ⟨sample_ok o, ?_⟩
      rw [sample_U o]
      exact bd_next d
    · dsimp only
      rw [a4, b4]; exact k.same
    · dsimp only
      rw [a4]; exact k.few
theorem play_len : ∀ (n : Nat) (h : House), (h.play n).1.length = n
  | 0, _ => rfl
  | n + 1, h => congrArg (· + 1) (play_len n h.sample.2)
/-- one sample more at the end -/
theorem play_more : ∀ (n : Nat) (h : House), h.play (n + 1) = ((h.play n).1 ++ [(h.play n).2.sample.1], (h.play n).2.sample.2)
  | 0, h => rfl
  | n + 1, h => by
    have ih := play_more n h.sample.2
    show (h.sample.1 :: (h.sample.2.play (n + 1)).1, (h.sample.2.play (n + 1)).2) = (h.sample.1 :: (h.sample.2.play n).1 ++ [(h.sample.2.play n).2.sample.1], (h.sample.2.play n).2.sample.2)
    rw [ih]
    rfl
theorem play_ok {h : House} (k : OkH h) : ∀ n, OkH (h.play n).2
  | 0 => k
  | n + 1 => by
    rw [play_more]
    exact (all_sample (play_ok k n)).2.2
theorem house0_ok : OkH house0 := by
  have z : OkRow ([] : List D) := fun d hd => by cases hd
  refine ⟨rfl, ?_, rfl, by decide, z, z, ⟨ok_zero, by decide, by decide⟩, ⟨ok_zero, by decide, by decide⟩⟩
  intro v hv
  have e : v = voice0 := List.eq_of_mem_replicate hv
  subst e
  refine ⟨⟨ok_one, ok_one, ok_one, ok_zero, ok_zero, ok_one, ok_zero, ok_one, ok_zero, ok_zero, ok_zero, ok_zero⟩, ?_⟩
  have u1 : (0 : Int) ≤ U one ∧ U one ≤ 2 ^ 149 := by rw [U_one]; exact ⟨one_nn, Int.le_refl _⟩
  have u0 : (0 : Int) ≤ U zero ∧ U zero ≤ 2 ^ 149 := by rw [U_zero]; exact ⟨Int.le_refl _, one_nn⟩
  have f1 : FltI (U one) := by rw [U_one]; exact flt_one
  exact ⟨by decide, by decide, by decide, by decide, by decide, by decide, by decide, u1, u1, u1, u0, ⟨u0.1, two_nn⟩, u1, u0, ⟨u1, f1⟩, u0, by decide, by decide, ⟨⟨u0.1, two_nn⟩, flt_zero⟩⟩
end VS

namespace VS
/-! ### The list of calls, call by call -/
theorem row_inv {l xs t : List Int} (h : PyFlat.row l = some (xs, t)) : l = (xs.length : Int) :: (xs ++ t) := by
  cases l with
  | nil => cases h
  | cons n r =>
    have h : (if 0 ≤ n ∧ n.toNat ≤ r.length then some (r.take n.toNat, r.drop n.toNat) else none) = some (xs, t) := h
    split at h
    · rename_i c
      have e := Option.some.inj h
      have e1 : r.take n.toNat = xs := congrArg Prod.fst e
      have e2 : r.drop n.toNat = t := congrArg Prod.snd e
      rw [← e1, ← e2, List.take_append_drop, List.length_take]
      congr 1
      omega
    · cases h
theorem rows_len : ∀ {k : Nat} {l : List Int} {xs : List (List Int)} {t : List Int}, PyFlat.rows k l = some (xs, t) → xs.length = k
  | 0, l, xs, t, h => by
    have e := Option.some.inj h
    have e1 : [] = xs := congrArg Prod.fst e
    rw [← e1]; rfl
  | k + 1, l, xs, t, h => by
    unfold PyFlat.rows at h
    split at h
    · cases h
    · rename_i x s hx
      split at h
      · cases h
      · rename_i ys u hy
        have e := Option.some.inj h
        have e1 : x :: ys = xs := congrArg Prod.fst e
        rw [← e1, List.length_cons, rows_len hy]
theorem call_inv {l : List Int} {c : List (List Int)} {u : List Int} (h : PyWide.call l = some (c, u)) (h1 : c.length = 1) : ∃ (p : Int) (xs : List Int), c = [p :: xs] ∧ l = p :: (xs.length : Int) :: (xs ++ 0 :: u) := by
  cases l with
  | nil => cases h
  | cons p r =>
    have h : (match PyFlat.row r with
      | none => none
      | some (_, []) => none
      | some (ns, k :: t) => if 0 ≤ k then (match PyFlat.rows k.toNat t with
        | none => none
        | some (xs, u) => some ((p :: ns) :: xs, u)) else none) = some (c, u) := h
    split at h
    · cases h
    · cases h
    · rename_i ns k t hr
      split at h
      · rename_i k0
        split at h
        · cases h
        · rename_i xs v hx
          have e := Option.some.inj h
          have e1 : (p :: ns) :: xs = c := congrArg Prod.fst e
          have e2 : v = u := congrArg Prod.snd e
          have hl := rows_len hx
          rw [← e1, List.length_cons] at h1
          have k1 : k.toNat = 0 := by omega
          have x0 : xs = [] := List.length_eq_zero_iff.mp (by omega)
          have kz : k = 0 := by omega
          rw [k1] at hx
          have ev : t = v := congrArg Prod.snd (Option.some.inj hx)
          refine ⟨p, ns, ?_, ?_⟩
          · rw [← e1, x0]
          · rw [row_inv hr, kz, ev, e2]
      · cases h
theorem calls_cons {f : Nat} {l : List Int} {c : List (List Int)} {cs : List (List (List Int))} (h : PyWide.calls f l = some (c :: cs)) (h1 : c.length = 1) :
    ∃ (g : Nat) (p : Int) (xs u : List Int), c = [p :: xs] ∧ l = p :: (xs.length : Int) :: (xs ++ 0 :: u) ∧ PyWide.calls g u = some cs := by
  cases l with
  | nil =>
    cases f <;> cases h
  | cons p r =>
    cases f with
    | zero => cases h
    | succ f =>
      unfold PyWide.calls at h
      split at h
      · cases h
      · rename_i d t hd
        split at h
        · cases h
        · rename_i ds hds
          have e := Option.some.inj h
          have e1 : d = c := (List.cons.inj e).1
          have e2 : ds = cs := (List.cons.inj e).2
          subst e1 e2
          obtain ⟨q, xs, a, b⟩ := call_inv hd h1
          exact ⟨f, q, xs, t, a, b, hds⟩
theorem calls_nil {f : Nat} {l : List Int} (h : PyWide.calls f l = some []) : l = [] := by
  cases l with
  | nil => rfl
  | cons p r =>
    cases f with
    | zero => cases h
    | succ f =>
      unfold PyWide.calls at h
      split at h
      · cases h
      · split at h
        · cases h
        · cases h
theorem drop_parts {ns : List Int} {i : Nat} {p : Int} {xs u : List Int} (h : ns.drop i = p :: (xs.length : Int) :: (xs ++ 0 :: u)) :
    ns[i]? = some p ∧ ns[i + 1]? = some (xs.length : Int) ∧ (ns.drop (i + 2)).take xs.length = xs ∧ ns.drop (i + 3 + xs.length) = u ∧ i + 3 + xs.length ≤ ns.length := by
  have e0 : (ns.drop i)[0]? = some p := by rw [h]; rfl
  have e1 : (ns.drop i)[1]? = some (xs.length : Int) := by rw [h]; rfl
  rw [List.getElem?_drop] at e0 e1
  have d2 : ns.drop (i + 2) = xs ++ 0 :: u := by
    rw [← List.drop_drop, h]; rfl
  have d3 : ns.drop (i + 3 + xs.length) = u := by
    have : i + 3 + xs.length = i + 2 + (xs.length + 1) := by omega
    rw [this, ← List.drop_drop, d2]
    have : xs ++ (0 : Int) :: u = (xs ++ [0]) ++ u := by simp
    rw [this]
    exact List.drop_left' (by simp)
  refine ⟨e0, e1, ?_, d3, ?_⟩
  · rw [d2]; simp
  · have l1 : (ns.drop (i + 2)).length = ns.length - (i + 2) := List.length_drop ..
    rw [d2, List.length_append, List.length_cons] at l1
    omega
theorem told_cons (a : List Int) (r : List (List Int)) : PyFlat.told (a :: r) = ((a.length : Int) :: a) ++ PyFlat.told r := rfl
end VS

namespace VS
open Sj32
/-! ### The mirror: what each call does with the counts -/
def inI (a b z : Int) : Prop := a ≤ z ∧ z ≤ b
instance (a b z : Int) : Decidable (inI a b z) := inferInstanceAs (Decidable (_ ∧ _))
/-- what a handed float is in counts; that it may be handed -/
def cnt (z e : Int) : Int := z * 2 ^ (e + 149).toNat
def okF (z e most : Int) : Prop := z = 0 ∨ (2 ^ 180 ≤ z * 2 ^ (e + 200).toNat ∧ z * 2 ^ (e + 200).toNat ≤ most * 2 ^ 200)
instance (z e most : Int) : Decidable (okF z e most) := inferInstanceAs (Decidable (_ ∨ _))
/-- z and e as the interface lets them be handed in -/
def ZE (z e : Int) : Prop := z.natAbs ≤ 2 ^ 24 ∧ -200 ≤ e ∧ e ≤ 200
def onV (l : List IV) (k : Int) (f : IV → IV) : List IV := match l[k.toNat]? with
  | none => l
  | some i => l.set k.toNat (f i)
theorem onV_set {l : List IV} {k : Int} {i : IV} (h : l[k.toNat]? = some i) (f : IV → IV) : onV l k f = l.set k.toNat (f i) := by
  unfold onV
  rw [h]
def IH.onV (h : IH) (k : Int) (f : IV → IV) : IH := { h with voices := VS.onV h.voices k f }
def iv0 : IV := ⟨0, 2 ^ 31, 2 ^ 149, 2 ^ 149, 2 ^ 149, 0, 0, 0, 2 ^ 149, 0, 2 ^ 149, 0, 0, 0, 1, 0, 0, 0, 0⟩
def ih0 : IH := ⟨List.replicate 8 iv0, [], [], 0, 0⟩
def toldI (n : Int) : List Int := if n = 0 then [0, 0] else odd (size n.natAbs) n (-149)
def IH.play (h : IH) : Nat → List Int × IH
  | 0 => ([], h)
  | n + 1 => ((h.play n).1 ++ [(h.play n).2.outL, (h.play n).2.outR], (h.play n).2.next)
def IV.told (v : IV) : List Int := [(v.stage : Int), (v.phase : Int)] ++ (toldI v.env ++ (toldI v.low ++ toldI v.band))
def act (h : IH) : List Int → Option (IH × List Int)
  | [2, k, w, d, lz, le, fz, fe, rz, re] => if inI 0 7 k ∧ inI 0 3 w ∧ inI 0 4294967295 d ∧ okF lz le 1 ∧ okF fz fe 1 ∧ okF rz re 1 then
      some (h.onV k fun v => { v with wave := w.toNat, width := d.toNat, level := cnt lz le, left := cnt fz fe, right := cnt rz re }, [0]) else none
  | [3, k, m, cz, ce, dz, de] => if inI 0 7 k ∧ inI 0 3 m ∧ okF cz ce 1 ∧ okF dz de 2 then
      some (h.onV k fun v => { v with mode := m.toNat, cut := cnt cz ce, damp := cnt dz de }, [0]) else none
  | [4, k, rz, re, fz, fe, kz, ke, gz, ge] => if inI 0 7 k ∧ okF rz re 1 ∧ okF fz fe 1 ∧ okF kz ke 1 ∧ okF gz ge 1 then
      some (h.onV k fun v => { v with rise := cnt rz re, fall := cnt fz fe, keep := cnt kz ke, go := cnt gz ge }, [0]) else none
  | [5, k, s] => if inI 0 7 k ∧ inI 0 2147483648 s then
      some (h.onV k fun v => { v with step := s.toNat, phase := 0, draw := 1, low := 0, band := 0, stage := 1 }, [0]) else none
  | [6, k] => if inI 0 7 k then some (h.onV k fun v => if v.stage = 0 then v else { v with stage := 3 }, [0]) else none
  | [7, n, fz, fe, hz, he] => if inI 0 1024 n ∧ okF fz fe 1 ∧ okF hz he 1 then
      some ({ h with left := List.replicate n.toNat 0, right := List.replicate n.toNat 0, feed := cnt fz fe, heard := cnt hz he }, [0]) else none
  | [8, n] => if inI 1 256 n then some ((h.play n.toNat).2, n :: (h.play n.toNat).1) else none
  | [9, k] => if inI 0 7 k then (match h.voices[k.toNat]? with
    | none => none
    | some v => some (h, v.told)) else none
  | [10] => some (h, [((h.voices.filter fun v => v.stage != 0).length : Int)])
  | 11 :: n :: g :: r => if inI 0 512 n ∧ inI 0 32767 g then some (h, n :: blended g (r.take n.toNat) (r.drop n.toNat)) else none
  | 12 :: n :: r => if inI 0 512 n then some (h, 0 :: measured r) else none
  | _ => none
def ansM (m : Option IH) (l : List Int) : Option IH × List Int := match l with
  | [1] => (some ih0, [0])
  | l => match m with
    | none => (none, [-7])
    | some h => match act h l with
      | none => (some h, [-2])
      | some (h', r) => (some h', r)
/-- a call's numbers as they may be handed in -/
def Good (l : List Int) : Prop := l = [1] ∨
  (∃ k w d lz le fz fe rz re, l = [2, k, w, d, lz, le, fz, fe, rz, re] ∧ ZE lz le ∧ ZE fz fe ∧ ZE rz re) ∨
  (∃ k m cz ce dz de, l = [3, k, m, cz, ce, dz, de] ∧ ZE cz ce ∧ ZE dz de) ∨
  (∃ k rz re fz fe kz ke gz ge, l = [4, k, rz, re, fz, fe, kz, ke, gz, ge] ∧ ZE rz re ∧ ZE fz fe ∧ ZE kz ke ∧ ZE gz ge) ∨
  (∃ k s, l = [5, k, s]) ∨ (∃ k, l = [6, k]) ∨
  (∃ n fz fe hz he, l = [7, n, fz, fe, hz, he] ∧ ZE fz fe ∧ ZE hz he) ∨
  (∃ n, l = [8, n]) ∨ (∃ k, l = [9, k]) ∨ l = [10] ∨
  (∃ n g r, l = 11 :: n :: g :: r ∧ r.length = 2 * Sj32Neutral.many n 512 ∧ r.all Sj32Neutral.sample = true) ∨
  (∃ n r, l = 12 :: n :: r ∧ r.length = Sj32Neutral.many n 512 ∧ r.all Sj32Neutral.sample = true)

/-! ### Floats that are handed, once more -/
theorem isF_okF {z e : Int} {t : Nat} (h : ZE z e) : isF ⟨(t : Int), 0⟩ ⟨z, e⟩ = decide (okF z e t) := by
  by_cases c : z = 0
  · subst c
    rw [decide_eq_true (show okF 0 e (t : Int) from Or.inl rfl)]
    rfl
  · rw [handed_rep h.1 h.2.1 h.2.2 c]
    exact decide_eq_decide.mpr ⟨fun q => Or.inr q, fun q => q.resolve_left c⟩
theorem ok_cnt {z e m : Int} (h : ZE z e) (k : okF z e m) : Ok ⟨z, e⟩ ∧ U ⟨z, e⟩ = cnt z e := by
  refine ⟨?_, rfl⟩
  rcases k with k | k
  · exact Or.inl k
  · refine Or.inr ?_
    rcases Int.lt_or_le e (-149) with q | q
    · exfalso
      have p1 : (2 : Int) ^ (e + 200).toNat ≤ 2 ^ 155 := by
        have := Nat.pow_le_pow_right (n := 2) (by decide) (show (e + 200).toNat ≤ 155 by omega)
        have h2 : ((2 ^ (e + 200).toNat : Nat) : Int) ≤ ((2 ^ 155 : Nat) : Int) := by omega
        simpa using h2
      have p2 : z * 2 ^ (e + 200).toNat ≤ 2 ^ 24 * 2 ^ 155 := by
        rcases Int.lt_or_le z 0 with zn | zp
        · have : z * 2 ^ (e + 200).toNat < 0 := Int.mul_neg_of_neg_of_pos zn (ipow_pos2 _)
          have : (0 : Int) ≤ 2 ^ 24 * 2 ^ 155 := by decide
          omega
        · exact Int.mul_le_mul (by have := h.1; omega) p1 (Int.le_of_lt (ipow_pos2 _)) (by decide)
      have k2 : (2 : Int) ^ 24 * 2 ^ 155 < 2 ^ 180 := by decide
      have := k.1
      omega
    · exact q
theorem cnt_bd {z e : Int} {m : Int} (h : ZE z e) (k : okF z e m) : 0 ≤ cnt z e ∧ cnt z e ≤ m * 2 ^ 149 ∨ m < 0 := by
  rcases Int.lt_or_le m 0 with q | q
  · exact Or.inr q
  left
  have o := (ok_cnt h k).1
  rcases k with k | k
  · unfold cnt
    rw [k, Int.zero_mul]
    exact ⟨Int.le_refl _, Int.mul_nonneg q (Int.le_of_lt (ipow_pos2 _))⟩
  · rcases o with o | o
    · exfalso
      have z0 : z = 0 := o
      have := k.1
      rw [z0, Int.zero_mul] at this
      have : (0 : Int) < 2 ^ 180 := by decide
      omega
    · have e1 : (e + 200).toNat = (e + 149).toNat + 51 := by
        have : -149 ≤ e := o
        omega
      have e2 : z * 2 ^ (e + 200).toNat = cnt z e * 2 ^ 51 := by
        unfold cnt
        rw [e1, Int.pow_add, Int.mul_assoc]
      have e3 : m * 2 ^ 200 = (m * 2 ^ 149) * 2 ^ 51 := by rw [Int.mul_assoc]; congr 1
      rw [e2, e3] at k
      have p : (0 : Int) < 2 ^ 51 := by decide
      have k1 := k.1
      have k2 := k.2
      have q180 : (0 : Int) < 2 ^ 180 := by decide
      constructor
      · rcases Int.lt_or_le (cnt z e) 0 with c | c
        · have := Int.mul_neg_of_neg_of_pos c p
          omega
        · exact c
      · exact Int.le_of_mul_le_mul_right k2 p
theorem cnt_one {z e : Int} (h : ZE z e) (k : okF z e 1) : 0 ≤ cnt z e ∧ cnt z e ≤ 2 ^ 149 := by
  rcases cnt_bd h k with q | q
  · rw [Int.one_mul] at q; exact q
  · omega
theorem cnt_two {z e : Int} (h : ZE z e) (k : okF z e 2) : 0 ≤ cnt z e ∧ cnt z e ≤ 2 ^ 150 := by
  rcases cnt_bd h k with q | q
  · have e : (2 : Int) * 2 ^ 149 = 2 ^ 150 := by decide
    rw [e] at q; exact q
  · omega
theorem cnt_flt {z e : Int} (h : ZE z e) : FltI (cnt z e) := by
  unfold FltI cnt
  rw [Int.natAbs_mul, Int.natAbs_pow]
  exact flt_of_le h.1
end VS

namespace VS
open Sj32
/-! ### What is asked has a good form -/
theorem ze_of {l : List Int} {x : D} {P : D → Bool} (h : (P x) = true) (e : P x = (decide (x.z.natAbs ≤ 2 ^ 24) && (decide (-200 ≤ x.e) && decide (x.e ≤ 200)))) : ZE x.z x.e := by
  rw [e, Bool.and_eq_true, Bool.and_eq_true] at h
  exact ⟨of_decide_eq_true h.1, of_decide_eq_true h.2.1, of_decide_eq_true h.2.2⟩
theorem fs_some {l : List Int} {k n : Nat} {r : List D} (h : Sj32Neutral.fs l k n = some r) : r = (List.range n).map (fun i => Sj32Neutral.fAt l (k + 2 * i)) ∧ ∀ x ∈ r, ZE x.z x.e := by
  unfold Sj32Neutral.fs at h
  dsimp only at h
  split at h
  · cases h
  · split at h
    · rename_i c
      have e := Option.some.inj h
      refine ⟨e.symm, fun x hx => ?_⟩
      rw [← e] at hx
      have q := List.all_eq_true.mp c x hx
      rw [Bool.and_eq_true, Bool.and_eq_true] at q
      exact ⟨of_decide_eq_true q.1, of_decide_eq_true q.2.1, of_decide_eq_true q.2.2⟩
    · cases h
theorem good_of {l : List Int} (h : (Sj32Neutral.callOf l).isSome = true) : Good l := by
  unfold Sj32Neutral.callOf at h
  unfold Good
  split at h
  · exact Or.inl rfl
  · rename_i k w d lz le fz fe rz re
    right; left
    cases e : Sj32Neutral.fs [2, k, w, d, lz, le, fz, fe, rz, re] 4 3 with
    | none => rw [e] at h; cases h
    | some r =>
      obtain ⟨e1, e2⟩ := fs_some e
      rw [e1] at e2
      exact ⟨k, w, d, lz, le, fz, fe, rz, re, rfl, e2 ⟨lz, le⟩ (by simp [List.range, List.range.loop, Sj32Neutral.fAt]), e2 ⟨fz, fe⟩ (by simp [List.range, List.range.loop, Sj32Neutral.fAt]), e2 ⟨rz, re⟩ (by simp [List.range, List.range.loop, Sj32Neutral.fAt])⟩
  · rename_i k m cz ce dz de
    right; right; left
    cases e : Sj32Neutral.fs [3, k, m, cz, ce, dz, de] 3 2 with
    | none => rw [e] at h; cases h
    | some r =>
      obtain ⟨e1, e2⟩ := fs_some e
      rw [e1] at e2
      exact ⟨k, m, cz, ce, dz, de, rfl, e2 ⟨cz, ce⟩ (by simp [List.range, List.range.loop, Sj32Neutral.fAt]), e2 ⟨dz, de⟩ (by simp [List.range, List.range.loop, Sj32Neutral.fAt])⟩
  · rename_i k rz re fz fe kz ke gz ge
    right; right; right; left
    cases e : Sj32Neutral.fs [4, k, rz, re, fz, fe, kz, ke, gz, ge] 2 4 with
    | none => rw [e] at h; cases h
    | some r =>
      obtain ⟨e1, e2⟩ := fs_some e
      rw [e1] at e2
      exact ⟨k, rz, re, fz, fe, kz, ke, gz, ge, rfl, e2 ⟨rz, re⟩ (by simp [List.range, List.range.loop, Sj32Neutral.fAt]), e2 ⟨fz, fe⟩ (by simp [List.range, List.range.loop, Sj32Neutral.fAt]), e2 ⟨kz, ke⟩ (by simp [List.range, List.range.loop, Sj32Neutral.fAt]), e2 ⟨gz, ge⟩ (by simp [List.range, List.range.loop, Sj32Neutral.fAt])⟩
  · rename_i k s
    right; right; right; right; left
    exact ⟨k, s, rfl⟩
  · rename_i k
    right; right; right; right; right; left
    exact ⟨k, rfl⟩
  · rename_i n fz fe hz he
    right; right; right; right; right; right; left
    cases e : Sj32Neutral.fs [7, n, fz, fe, hz, he] 2 2 with
    | none => rw [e] at h; cases h
    | some r =>
      obtain ⟨e1, e2⟩ := fs_some e
      rw [e1] at e2
      exact ⟨n, fz, fe, hz, he, rfl, e2 ⟨fz, fe⟩ (by simp [List.range, List.range.loop, Sj32Neutral.fAt]), e2 ⟨hz, he⟩ (by simp [List.range, List.range.loop, Sj32Neutral.fAt])⟩
  · rename_i n
    right; right; right; right; right; right; right; left
    exact ⟨n, rfl⟩
  · rename_i k
    right; right; right; right; right; right; right; right; left
    exact ⟨k, rfl⟩
  · right; right; right; right; right; right; right; right; right; left
    rfl
  · rename_i n g r
    right; right; right; right; right; right; right; right; right; right; left
    dsimp only at h
    split at h
    · rename_i c
      exact ⟨n, g, r, rfl, c.1, c.2⟩
    · cases h
  · rename_i n r
    right; right; right; right; right; right; right; right; right; right; right
    split at h
    · rename_i c
      exact ⟨n, r, rfl, c.1, c.2⟩
    · cases h
  · cases h
/-- what the specification reads of such a call -/
theorem fs_ok {l : List Int} {k n : Nat} (h1 : k + 2 * n ≤ l.length) (h2 : ∀ x ∈ (List.range n).map (fun i => Sj32Neutral.fAt l (k + 2 * i)), ZE x.z x.e) : Sj32Neutral.fs l k n = some ((List.range n).map (fun i => Sj32Neutral.fAt l (k + 2 * i))) := by
  unfold Sj32Neutral.fs
  dsimp only
  rw [if_neg (by omega), if_pos]
  rw [List.all_eq_true]
  intro x hx
  obtain ⟨a, b, c⟩ := h2 x hx
  rw [decide_eq_true a, decide_eq_true b, decide_eq_true c]
  rfl
end VS

namespace VS
open Sj32
/-! ### The mirror is the specification -/
def Rel (s : Sj32.State) (m : Option IH) : Prop := (s = none ∧ m = none) ∨ ∃ h, s = some h ∧ OkH h ∧ m = some (concH h)
theorem mapIdx_set {l : List Voice} {n : Nat} {f : Voice → Voice} {v : Voice} (h : l[n]? = some v) : (l.mapIdx fun i v => if i = n then f v else v) = l.set n (f v) := by
  apply List.ext_getElem?
  intro j
  rw [List.getElem?_mapIdx, List.getElem?_set]
  by_cases e : n = j
  · subst e
    rw [if_pos rfl, h]
    have := (List.getElem?_eq_some_iff.mp h).1
    simp [this]
  · rw [if_neg e]
    cases l[j]? with
    | none => rfl
    | some x => simp [Ne.symm e]
theorem change_rel {h : House} {k : Int} {f : Voice → Voice} {g : IV → IV} (o : OkH h) (hk : inI 0 7 k)
    (hf : ∀ v, OkV v → Bd (conc v) → OkV (f v) ∧ conc (f v) = g (conc v) ∧ Bd (g (conc v))) : OkH (h.change k f) ∧ concH (h.change k f) = (concH h).onV k g := by
  have hl : k.toNat < h.voices.length := by rw [o.len]; have := hk.2; omega
  obtain ⟨v, hv⟩ : ∃ v, h.voices[k.toNat]? = some v := ⟨_, List.getElem?_eq_getElem hl⟩
  have mv := List.mem_of_getElem? hv
  obtain ⟨f1, f2, f3⟩ := hf v (o.voices v mv).1 (o.voices v mv).2
  have e : (h.change k f).voices = h.voices.set k.toNat (f v) := mapIdx_set hv
  have e2 : h.change k f = { h with voices := h.voices.set k.toNat (f v) } := by
    unfold House.change
    rw [mapIdx_set hv]
  refine ⟨?_, ?_⟩
  · rw [e2]
    refine { o with len := by rw [List.length_set]; exact o.len, voices := fun x hx => ?_ }
    rcases List.mem_or_eq_of_mem_set hx with q | q
    · exact o.voices x q
    · rw [q]
      exact ⟨f1, by rw [f2]; exact f3⟩
  · rw [e2]
    unfold concH IH.onV
    dsimp only
    have e3 : (h.voices.map conc)[k.toNat]? = some (conc v) := by rw [List.getElem?_map, hv]; rfl
    rw [onV_set e3, List.map_set, f2]
theorem isIn_inI (a b z : Int) : isIn a b z = decide (inI a b z) := by
  unfold isIn
  by_cases c : inI a b z
  · rw [decide_eq_true c, decide_eq_true c.1, decide_eq_true c.2]; rfl
  · rw [decide_eq_false c]
    by_cases c1 : a ≤ z
    · rw [decide_eq_false (fun q => c ⟨c1, q⟩), Bool.and_false]
    · rw [decide_eq_false c1, Bool.false_and]
theorem told_U {x : D} (h : Ok x) : x.told = toldI (U x) := by
  unfold toldI
  by_cases c : U x = 0
  · rw [if_pos c]
    have r := rep_U h
    rw [c] at r
    exact told_zero r
  · rw [if_neg c]
    obtain ⟨w, j, a, b, e⟩ := odd_parts (size (U x).natAbs) (U x) (-149) c (Nat.le_refl _)
    rw [e, told_rep (rep_U h) a b]
    have : (j : Int) - 149 = -149 + (j : Int) := by omega
    rw [this]
theorem play_conc {h : House} (o : OkH h) : ∀ n, ((h.play n).1.flatMap fun x => [x.1, x.2]) = ((concH h).play n).1 ∧ concH (h.play n).2 = ((concH h).play n).2
  | 0 => ⟨rfl, rfl⟩
  | n + 1 => by
    obtain ⟨a, b⟩ := play_conc o n
    obtain ⟨c, d, _⟩ := all_sample (play_ok o n)
    rw [play_more]
    dsimp only
    rw [List.flatMap_append, a, c, d, b]
    refine ⟨rfl, rfl⟩
theorem ok_one' : (⟨((1 : Nat) : Int), 0⟩ : D) = one := rfl
theorem isF1 {z e : Int} (h : ZE z e) : isF one ⟨z, e⟩ = decide (okF z e 1) := isF_okF (t := 1) h
theorem isF2 {z e : Int} (h : ZE z e) : isF ⟨2, 0⟩ ⟨z, e⟩ = decide (okF z e 2) := isF_okF (t := 2) h
theorem step_some {s : Sj32Neutral.S} {l : List Int} {q : Sj32.Call} (h : Sj32Neutral.callOf l = some q) : Sj32Neutral.step s [l] = ((Sj32.step s q).1, (Sj32.step s q).2.v :: (Sj32.step s q).2.l) := by
  unfold Sj32Neutral.step
  rw [show [l].headD [] = l from rfl, h]
/-- one call that isn't open, on a house -/
theorem step_on {h : House} {l : List Int} {q : Sj32.Call} (o : OkH h) (hc : Sj32Neutral.callOf l = some q) (hn : ∀ s, Sj32.step s q = match s with
      | none => (s, just (-7))
      | some h => (some (on h q).1, (on h q).2)) (l1 : ∀ m : Option IH, ansM m l = match m with
      | none => (none, [-7])
      | some h => match act h l with
        | none => (some h, [-2])
        | some (h', r) => (some h', r))
    (k : (on h q = (h, just (-2)) ∧ act (concH h) l = none) ∨ (OkH (on h q).1 ∧ act (concH h) l = some (concH (on h q).1, (on h q).2.v :: (on h q).2.l))) :
    (Sj32Neutral.step (some h) [l]).2 = (ansM (some (concH h)) l).2 ∧ Rel (Sj32Neutral.step (some h) [l]).1 (ansM (some (concH h)) l).1 := by
  rw [step_some hc, hn, l1]
  dsimp only
  rcases k with ⟨k1, k2⟩ | ⟨k1, k2⟩
  · rw [k2, k1]
    exact ⟨rfl, Or.inr ⟨h, rfl, o, rfl⟩⟩
  · rw [k2]
    exact ⟨rfl, Or.inr ⟨_, rfl, k1, rfl⟩⟩
theorem call_open : Sj32Neutral.callOf [1] = some .open_ := rfl
theorem call_voice {k w d lz le fz fe rz re : Int} (a : ZE lz le) (b : ZE fz fe) (c : ZE rz re) : Sj32Neutral.callOf [2, k, w, d, lz, le, fz, fe, rz, re] = some (.voice k w d [⟨lz, le⟩, ⟨fz, fe⟩, ⟨rz, re⟩]) := by
  show (Sj32Neutral.fs [2, k, w, d, lz, le, fz, fe, rz, re] 4 3).map _ = _
  rw [fs_ok (by simp) (by
    intro x hx
    simp [List.range, List.range.loop, Sj32Neutral.fAt] at hx
    rcases hx with rfl | rfl | rfl
    · exact a
    · exact b
    · exact c)]
  rfl
theorem call_filter {k m cz ce dz de : Int} (a : ZE cz ce) (b : ZE dz de) : Sj32Neutral.callOf [3, k, m, cz, ce, dz, de] = some (.filter k m [⟨cz, ce⟩, ⟨dz, de⟩]) := by
  show (Sj32Neutral.fs [3, k, m, cz, ce, dz, de] 3 2).map _ = _
  rw [fs_ok (by simp) (by
    intro x hx
    simp [List.range, List.range.loop, Sj32Neutral.fAt] at hx
    rcases hx with rfl | rfl
    · exact a
    · exact b)]
  rfl
theorem call_shape {k rz re fz fe kz ke gz ge : Int} (a : ZE rz re) (b : ZE fz fe) (c : ZE kz ke) (d : ZE gz ge) : Sj32Neutral.callOf [4, k, rz, re, fz, fe, kz, ke, gz, ge] = some (.shape k [⟨rz, re⟩, ⟨fz, fe⟩, ⟨kz, ke⟩, ⟨gz, ge⟩]) := by
  show (Sj32Neutral.fs [4, k, rz, re, fz, fe, kz, ke, gz, ge] 2 4).map _ = _
  rw [fs_ok (by simp) (by
    intro x hx
    simp [List.range, List.range.loop, Sj32Neutral.fAt] at hx
    rcases hx with rfl | rfl | rfl | rfl
    · exact a
    · exact b
    · exact c
    · exact d)]
  rfl
theorem call_echo {n fz fe hz he : Int} (a : ZE fz fe) (b : ZE hz he) : Sj32Neutral.callOf [7, n, fz, fe, hz, he] = some (.echo n [⟨fz, fe⟩, ⟨hz, he⟩]) := by
  show (Sj32Neutral.fs [7, n, fz, fe, hz, he] 2 2).map _ = _
  rw [fs_ok (by simp) (by
    intro x hx
    simp [List.range, List.range.loop, Sj32Neutral.fAt] at hx
    rcases hx with rfl | rfl
    · exact a
    · exact b)]
  rfl
theorem call_blend {n g : Int} {r : List Int} (a : r.length = 2 * Sj32Neutral.many n 512) (b : r.all Sj32Neutral.sample = true) : Sj32Neutral.callOf (11 :: n :: g :: r) = some (.blend n g (r.take (Sj32Neutral.many n 512)) (r.drop (Sj32Neutral.many n 512))) := by
  have e : Sj32Neutral.callOf (11 :: n :: g :: r) = if r.length = 2 * Sj32Neutral.many n 512 ∧ r.all Sj32Neutral.sample = true then some (.blend n g (r.take (Sj32Neutral.many n 512)) (r.drop (Sj32Neutral.many n 512))) else none := by
    unfold Sj32Neutral.callOf
    split <;> simp_all
  rw [e, if_pos ⟨a, b⟩]
theorem call_measure {n : Int} {r : List Int} (a : r.length = Sj32Neutral.many n 512) (b : r.all Sj32Neutral.sample = true) : Sj32Neutral.callOf (12 :: n :: r) = some (.measure n r) := by
  have e : Sj32Neutral.callOf (12 :: n :: r) = if r.length = Sj32Neutral.many n 512 ∧ r.all Sj32Neutral.sample = true then some (.measure n r) else none := by
    unfold Sj32Neutral.callOf
    split <;> simp_all
  rw [e, if_pos ⟨a, b⟩]
theorem on_voice {h : House} (o : OkH h) {k w d lz le fz fe rz re : Int} (za : ZE lz le) (zb : ZE fz fe) (zc : ZE rz re) :
    (on h (.voice k w d [⟨lz, le⟩, ⟨fz, fe⟩, ⟨rz, re⟩]) = (h, just (-2)) ∧ act (concH h) [2, k, w, d, lz, le, fz, fe, rz, re] = none) ∨
    (OkH (on h (.voice k w d [⟨lz, le⟩, ⟨fz, fe⟩, ⟨rz, re⟩])).1 ∧ act (concH h) [2, k, w, d, lz, le, fz, fe, rz, re] = some (concH (on h (.voice k w d [⟨lz, le⟩, ⟨fz, fe⟩, ⟨rz, re⟩])).1, (on h (.voice k w d [⟨lz, le⟩, ⟨fz, fe⟩, ⟨rz, re⟩])).2.v :: (on h (.voice k w d [⟨lz, le⟩, ⟨fz, fe⟩, ⟨rz, re⟩])).2.l)) := by
  by_cases c : inI 0 7 k ∧ inI 0 3 w ∧ inI 0 4294967295 d ∧ okF lz le 1 ∧ okF fz fe 1 ∧ okF rz re 1
  · right
    obtain ⟨c1, c2, c3, c4, c5, c6⟩ := id c
    have e : on h (.voice k w d [⟨lz, le⟩, ⟨fz, fe⟩, ⟨rz, re⟩]) = (h.change k fun v => { v with wave := w.toNat, width := d.toNat, level := ⟨lz, le⟩, left := ⟨fz, fe⟩, right := ⟨rz, re⟩ }, just 0) := by
      refine if_neg ?_
      simp [isIn_inI, isF1 za, isF1 zb, isF1 zc, c1, c2, c3, c4, c5, c6]
    rw [e]
    obtain ⟨g1, g2⟩ := change_rel (f := fun v => { v with wave := w.toNat, width := d.toNat, level := ⟨lz, le⟩, left := ⟨fz, fe⟩, right := ⟨rz, re⟩ }) (g := fun v => { v with wave := w.toNat, width := d.toNat, level := cnt lz le, left := cnt fz fe, right := cnt rz re }) o c1 (fun v ov bv => ⟨{ ov with level := (ok_cnt za c4).1, left := (ok_cnt zb c5).1, right := (ok_cnt zc c6).1 }, rfl,
      { bv with wave := by have := c2.1; have := c2.2; dsimp only; omega, width := by have := c3.1; have := c3.2; dsimp only; omega, level := cnt_one za c4, left := cnt_one zb c5, right := cnt_one zc c6 }⟩)
    refine ⟨g1, ?_⟩
    dsimp only
    rw [g2]
    exact if_pos c
  · left
    refine ⟨?_, if_neg c⟩
    refine if_pos ?_
    by_cases c1 : inI 0 7 k
    · by_cases c2 : inI 0 3 w
      · by_cases c3 : inI 0 4294967295 d
        · by_cases c4 : okF lz le 1
          · by_cases c5 : okF fz fe 1
            · by_cases c6 : okF rz re 1
              · exact absurd ⟨c1, c2, c3, c4, c5, c6⟩ c
              · simp [isF1 za, isF1 zb, isF1 zc, c6]
            · simp [isF1 za, isF1 zb, isF1 zc, c5]
          · simp [isF1 za, isF1 zb, isF1 zc, c4]
        · simp [isIn_inI, c3]
      · simp [isIn_inI, c2]
    · simp [isIn_inI, c1]
theorem on_filter {h : House} (o : OkH h) {k m cz ce dz de : Int} (za : ZE cz ce) (zb : ZE dz de) :
    (on h (.filter k m [⟨cz, ce⟩, ⟨dz, de⟩]) = (h, just (-2)) ∧ act (concH h) [3, k, m, cz, ce, dz, de] = none) ∨
    (OkH (on h (.filter k m [⟨cz, ce⟩, ⟨dz, de⟩])).1 ∧ act (concH h) [3, k, m, cz, ce, dz, de] = some (concH (on h (.filter k m [⟨cz, ce⟩, ⟨dz, de⟩])).1, (on h (.filter k m [⟨cz, ce⟩, ⟨dz, de⟩])).2.v :: (on h (.filter k m [⟨cz, ce⟩, ⟨dz, de⟩])).2.l)) := by
  by_cases c : inI 0 7 k ∧ inI 0 3 m ∧ okF cz ce 1 ∧ okF dz de 2
  · right
    obtain ⟨c1, c2, c3, c4⟩ := id c
    have e : on h (.filter k m [⟨cz, ce⟩, ⟨dz, de⟩]) = (h.change k fun v => { v with mode := m.toNat, cut := ⟨cz, ce⟩, damp := ⟨dz, de⟩ }, just 0) := by
      refine if_neg ?_
      simp [isIn_inI, nth, isF1 za, isF2 zb, c1, c2, c3, c4]
    rw [e]
    obtain ⟨g1, g2⟩ := change_rel (f := fun v => { v with mode := m.toNat, cut := ⟨cz, ce⟩, damp := ⟨dz, de⟩ }) (g := fun v => { v with mode := m.toNat, cut := cnt cz ce, damp := cnt dz de }) o c1 (fun v ov bv => ⟨{ ov with cut := (ok_cnt za c3).1, damp := (ok_cnt zb c4).1 }, rfl,
      { bv with mode := by have := c2.1; have := c2.2; dsimp only; omega, cut := cnt_one za c3, damp := cnt_two zb c4 }⟩)
    refine ⟨g1, ?_⟩
    dsimp only
    rw [g2]
    exact if_pos c
  · left
    refine ⟨if_pos ?_, if_neg c⟩
    by_cases c1 : inI 0 7 k
    · skip
      by_cases c2 : inI 0 3 m
      · skip
        by_cases c3 : okF cz ce 1
        · skip
          by_cases c4 : okF dz de 2
          · skip
            exact absurd ⟨c1, c2, c3, c4⟩ c
          · simp [nth, isF2 zb, c4]
        · simp [nth, isF1 za, c3]
      · simp [isIn_inI, c2]
    · simp [isIn_inI, c1]
theorem on_shape {h : House} (o : OkH h) {k rz re fz fe kz ke gz ge : Int} (za : ZE rz re) (zb : ZE fz fe) (zc : ZE kz ke) (zd : ZE gz ge) :
    (on h (.shape k [⟨rz, re⟩, ⟨fz, fe⟩, ⟨kz, ke⟩, ⟨gz, ge⟩]) = (h, just (-2)) ∧ act (concH h) [4, k, rz, re, fz, fe, kz, ke, gz, ge] = none) ∨
    (OkH (on h (.shape k [⟨rz, re⟩, ⟨fz, fe⟩, ⟨kz, ke⟩, ⟨gz, ge⟩])).1 ∧ act (concH h) [4, k, rz, re, fz, fe, kz, ke, gz, ge] = some (concH (on h (.shape k [⟨rz, re⟩, ⟨fz, fe⟩, ⟨kz, ke⟩, ⟨gz, ge⟩])).1, (on h (.shape k [⟨rz, re⟩, ⟨fz, fe⟩, ⟨kz, ke⟩, ⟨gz, ge⟩])).2.v :: (on h (.shape k [⟨rz, re⟩, ⟨fz, fe⟩, ⟨kz, ke⟩, ⟨gz, ge⟩])).2.l)) := by
  by_cases c : inI 0 7 k ∧ okF rz re 1 ∧ okF fz fe 1 ∧ okF kz ke 1 ∧ okF gz ge 1
  · right
    obtain ⟨c1, c2, c3, c4, c5⟩ := id c
    have e : on h (.shape k [⟨rz, re⟩, ⟨fz, fe⟩, ⟨kz, ke⟩, ⟨gz, ge⟩]) = (h.change k fun v => { v with rise := ⟨rz, re⟩, fall := ⟨fz, fe⟩, keep := ⟨kz, ke⟩, go := ⟨gz, ge⟩ }, just 0) := by
      refine if_neg ?_
      simp [isIn_inI, isF1 za, isF1 zb, isF1 zc, isF1 zd, c1, c2, c3, c4, c5]
    rw [e]
    obtain ⟨g1, g2⟩ := change_rel (f := fun v => { v with rise := ⟨rz, re⟩, fall := ⟨fz, fe⟩, keep := ⟨kz, ke⟩, go := ⟨gz, ge⟩ }) (g := fun v => { v with rise := cnt rz re, fall := cnt fz fe, keep := cnt kz ke, go := cnt gz ge }) o c1 (fun v ov bv => ⟨{ ov with rise := (ok_cnt za c2).1, fall := (ok_cnt zb c3).1, keep := (ok_cnt zc c4).1, go := (ok_cnt zd c5).1 }, rfl,
      { bv with rise := cnt_one za c2, fall := cnt_one zb c3, keep := ⟨cnt_one zc c4, cnt_flt zc⟩, go := cnt_one zd c5 }⟩)
    refine ⟨g1, ?_⟩
    dsimp only
    rw [g2]
    exact if_pos c
  · left
    refine ⟨if_pos ?_, if_neg c⟩
    by_cases c1 : inI 0 7 k
    · skip
      by_cases c2 : okF rz re 1
      · skip
        by_cases c3 : okF fz fe 1
        · skip
          by_cases c4 : okF kz ke 1
          · skip
            by_cases c5 : okF gz ge 1
            · skip
              exact absurd ⟨c1, c2, c3, c4, c5⟩ c
            · simp [isF1 za, isF1 zb, isF1 zc, isF1 zd, c5]
          · simp [isF1 za, isF1 zb, isF1 zc, isF1 zd, c4]
        · simp [isF1 za, isF1 zb, isF1 zc, isF1 zd, c3]
      · simp [isF1 za, isF1 zb, isF1 zc, isF1 zd, c2]
    · simp [isIn_inI, c1]
theorem zero_le153 : (0 : Int).natAbs ≤ 2 ^ 153 := by decide
theorem bd_on {i : IV} (h : Bd i) {s : Nat} (hs : s ≤ 2 ^ 31) : Bd { i with step := s, phase := 0, draw := 1, low := 0, band := 0, stage := 1 } :=
  ⟨h.wave, h.width, h.mode, (by decide : 0 < 2 ^ 32), hs, (by decide : 1 < 2 ^ 32), (by decide : 1 ≤ 3), h.level, h.left, h.right, h.cut, h.damp, h.rise, h.fall, h.keep, h.go, zero_le153, zero_le153, h.env⟩
theorem conc_on (v : Voice) (s : Nat) : conc { v with phase := 0, step := s, draw := 1, low := zero, band := zero, stage := 1 } = { conc v with step := s, phase := 0, draw := 1, low := 0, band := 0, stage := 1 } := by
  unfold conc
  dsimp only
  rw [U_zero]
theorem on_on {h : House} (o : OkH h) {k s : Int} :
    (on h (.on_ k s) = (h, just (-2)) ∧ act (concH h) [5, k, s] = none) ∨
    (OkH (on h (.on_ k s)).1 ∧ act (concH h) [5, k, s] = some (concH (on h (.on_ k s)).1, (on h (.on_ k s)).2.v :: (on h (.on_ k s)).2.l)) := by
  by_cases c : inI 0 7 k ∧ inI 0 2147483648 s
  · right
    obtain ⟨c1, c2⟩ := id c
    have e : on h (.on_ k s) = (h.change k fun v => { v with phase := 0, step := s.toNat, draw := 1, low := zero, band := zero, stage := 1 }, just 0) := by
      refine if_neg ?_
      simp [isIn_inI, c1, c2]
    rw [e]
    obtain ⟨g1, g2⟩ := change_rel (f := fun v => { v with phase := 0, step := s.toNat, draw := 1, low := zero, band := zero, stage := 1 }) (g := fun v => { v with step := s.toNat, phase := 0, draw := 1, low := 0, band := 0, stage := 1 }) o c1 (fun v ov bv => ⟨{ ov with low := ok_zero, band := ok_zero }, conc_on v _,
      bd_on bv (by have := c2.1; have := c2.2; omega)⟩)
    refine ⟨g1, ?_⟩
    dsimp only
    rw [g2]
    exact if_pos c
  · left
    refine ⟨if_pos ?_, if_neg c⟩
    by_cases c1 : inI 0 7 k
    · skip
      by_cases c2 : inI 0 2147483648 s
      · skip
        exact absurd ⟨c1, c2⟩ c
      · simp [isIn_inI, c2]
    · simp [isIn_inI, c1]
theorem on_off {h : House} (o : OkH h) {k : Int} :
    (on h (.off k) = (h, just (-2)) ∧ act (concH h) [6, k] = none) ∨
    (OkH (on h (.off k)).1 ∧ act (concH h) [6, k] = some (concH (on h (.off k)).1, (on h (.off k)).2.v :: (on h (.off k)).2.l)) := by
  by_cases c : inI 0 7 k
  · right
    have e : on h (.off k) = (h.change k fun v => if v.stage = 0 then v else { v with stage := 3 }, just 0) := by
      refine if_neg ?_
      simp [isIn_inI, c]
    rw [e]
    obtain ⟨g1, g2⟩ := change_rel (f := fun v => if v.stage = 0 then v else { v with stage := 3 }) (g := fun v => if v.stage = 0 then v else { v with stage := 3 }) o c (fun v ov bv => by
      have st : (conc v).stage = v.stage := rfl
      by_cases c2 : v.stage = 0
      · rw [if_pos c2, if_pos (st.trans c2)]
        exact ⟨ov, rfl, bv⟩
      · rw [if_neg c2, if_neg (fun q => c2 (st.symm.trans q))]
        exact ⟨⟨ov.level, ov.left, ov.right, ov.cut, ov.damp, ov.rise, ov.fall, ov.keep, ov.go, ov.low, ov.band, ov.env⟩, rfl, bd_env (e := (conc v).env) bv bv.env (by decide)⟩)
    refine ⟨g1, ?_⟩
    dsimp only
    rw [g2]
    exact if_pos c
  · left
    exact ⟨if_pos (by simp [isIn_inI, c]), if_neg c⟩
theorem on_echo {h : House} (o : OkH h) {n fz fe hz he : Int} (za : ZE fz fe) (zb : ZE hz he) :
    (on h (.echo n [⟨fz, fe⟩, ⟨hz, he⟩]) = (h, just (-2)) ∧ act (concH h) [7, n, fz, fe, hz, he] = none) ∨
    (OkH (on h (.echo n [⟨fz, fe⟩, ⟨hz, he⟩])).1 ∧ act (concH h) [7, n, fz, fe, hz, he] = some (concH (on h (.echo n [⟨fz, fe⟩, ⟨hz, he⟩])).1, (on h (.echo n [⟨fz, fe⟩, ⟨hz, he⟩])).2.v :: (on h (.echo n [⟨fz, fe⟩, ⟨hz, he⟩])).2.l)) := by
  by_cases c : inI 0 1024 n ∧ okF fz fe 1 ∧ okF hz he 1
  · right
    obtain ⟨c1, c2, c3⟩ := id c
    have e : on h (.echo n [⟨fz, fe⟩, ⟨hz, he⟩]) = ({ h with echo := ⟨List.replicate n.toNat zero, List.replicate n.toNat zero, ⟨fz, fe⟩, ⟨hz, he⟩⟩ }, just 0) := by
      refine if_neg ?_
      simp [isIn_inI, isF1 za, isF1 zb, c1, c2, c3]
    rw [e]
    have row : OkRow (List.replicate n.toNat zero) := fun d hd => by
      rw [List.eq_of_mem_replicate hd]
      exact ⟨ok_zero, by decide⟩
    refine ⟨{ o with same := rfl, few := by dsimp only; rw [List.length_replicate]; have := c1.2; omega, left := row, right := row, feed := ⟨(ok_cnt za c2).1, cnt_one za c2⟩, heard := ⟨(ok_cnt zb c3).1, cnt_one zb c3⟩ }, ?_⟩
    refine (if_pos c).trans ?_
    unfold concH
    dsimp only
    rw [List.map_replicate, U_zero]
    rfl
  · left
    refine ⟨if_pos ?_, if_neg c⟩
    by_cases c1 : inI 0 1024 n
    · skip
      by_cases c2 : okF fz fe 1
      · skip
        by_cases c3 : okF hz he 1
        · skip
          exact absurd ⟨c1, c2, c3⟩ c
        · simp [isF1 za, isF1 zb, c3]
      · simp [isF1 za, isF1 zb, c2]
    · simp [isIn_inI, c1]
theorem on_play {h : House} (o : OkH h) {n : Int} :
    (on h (.play n) = (h, just (-2)) ∧ act (concH h) [8, n] = none) ∨
    (OkH (on h (.play n)).1 ∧ act (concH h) [8, n] = some (concH (on h (.play n)).1, (on h (.play n)).2.v :: (on h (.play n)).2.l)) := by
  by_cases c : inI 1 256 n
  · right
    have e : on h (.play n) = ((h.play n.toNat).2, ⟨n, (h.play n.toNat).1.flatMap fun x => [x.1, x.2]⟩) := by
      refine if_neg ?_
      simp [isIn_inI, c]
    rw [e]
    obtain ⟨g1, g2⟩ := play_conc o n.toNat
    refine ⟨play_ok o _, ?_⟩
    dsimp only
    rw [g1, g2]
    exact if_pos c
  · left
    exact ⟨if_pos (by simp [isIn_inI, c]), if_neg c⟩
theorem on_told {h : House} (o : OkH h) {k : Int} :
    (on h (.told k) = (h, just (-2)) ∧ act (concH h) [9, k] = none) ∨
    (OkH (on h (.told k)).1 ∧ act (concH h) [9, k] = some (concH (on h (.told k)).1, (on h (.told k)).2.v :: (on h (.told k)).2.l)) := by
  by_cases c : inI 0 7 k
  · right
    have hl : k.toNat < h.voices.length := by rw [o.len]; have := c.2; omega
    obtain ⟨v, hv⟩ : ∃ v, h.voices[k.toNat]? = some v := ⟨_, List.getElem?_eq_getElem hl⟩
    have ov := (o.voices v (List.mem_of_getElem? hv)).1
    have e : on h (.told k) = (h, ⟨nat v.stage, [nat v.phase] ++ v.env.told ++ v.low.told ++ v.band.told⟩) := by
      refine (if_neg (by simp [isIn_inI, c])).trans ?_
      rw [hv]
    rw [e]
    refine ⟨o, ?_⟩
    dsimp only
    have e3 : (concH h).voices[k.toNat]? = some (conc v) := by
      show (h.voices.map conc)[k.toNat]? = _
      rw [List.getElem?_map, hv]
      rfl
    refine (if_pos c).trans ?_
    rw [e3, told_U ov.env, told_U ov.low, told_U ov.band, List.append_assoc, List.append_assoc]
    rfl
  · left
    exact ⟨if_pos (by simp [isIn_inI, c]), if_neg c⟩
theorem on_sounding {h : House} (o : OkH h) : OkH (on h .sounding).1 ∧ act (concH h) [10] = some (concH (on h .sounding).1, (on h .sounding).2.v :: (on h .sounding).2.l) := by
  refine ⟨o, ?_⟩
  have e : ((concH h).voices.filter fun v => v.stage != 0).length = (h.voices.filter fun v => v.stage != 0).length := by
    show ((h.voices.map conc).filter fun v => v.stage != 0).length = _
    rw [List.filter_map, List.length_map]
    rfl
  show some (concH h, [(((concH h).voices.filter fun v => v.stage != 0).length : Int)]) = _
  rw [e]
  rfl
theorem many_in {n : Int} (h : inI 0 512 n) : Sj32Neutral.many n 512 = n.toNat := if_pos h
theorem row_ok {n : Int} {l : List Int} (h : 0 ≤ n) (a : l.length = n.toNat) (b : l.all Sj32Neutral.sample = true) : isRow n l = true := by
  unfold isRow
  rw [Bool.and_eq_true]
  refine ⟨?_, ?_⟩
  · rw [beq_iff_eq]
    unfold nat
    omega
  · rw [List.all_eq_true] at b ⊢
    exact fun x hx => b x hx
theorem on_blend {h : House} (o : OkH h) {n g : Int} {r : List Int} (a : r.length = 2 * Sj32Neutral.many n 512) (b : r.all Sj32Neutral.sample = true) :
    (on h (.blend n g (r.take (Sj32Neutral.many n 512)) (r.drop (Sj32Neutral.many n 512))) = (h, just (-2)) ∧ act (concH h) (11 :: n :: g :: r) = none) ∨
    (OkH (on h (.blend n g (r.take (Sj32Neutral.many n 512)) (r.drop (Sj32Neutral.many n 512)))).1 ∧ act (concH h) (11 :: n :: g :: r) = some (concH (on h (.blend n g (r.take (Sj32Neutral.many n 512)) (r.drop (Sj32Neutral.many n 512)))).1, (on h (.blend n g (r.take (Sj32Neutral.many n 512)) (r.drop (Sj32Neutral.many n 512)))).2.v :: (on h (.blend n g (r.take (Sj32Neutral.many n 512)) (r.drop (Sj32Neutral.many n 512)))).2.l)) := by
  have ea : act (concH h) (11 :: n :: g :: r) = if inI 0 512 n ∧ inI 0 32767 g then some (concH h, n :: blended g (r.take n.toNat) (r.drop n.toNat)) else none := by
    unfold act
    split <;> simp_all
  by_cases c : inI 0 512 n ∧ inI 0 32767 g
  · right
    obtain ⟨c1, c2⟩ := id c
    rw [many_in c1] at a ⊢
    have r1 : isRow n (r.take n.toNat) = true := row_ok c1.1 (by rw [List.length_take]; omega) (by
      rw [List.all_eq_true] at b ⊢
      exact fun x hx => b x (List.mem_of_mem_take hx))
    have r2 : isRow n (r.drop n.toNat) = true := row_ok c1.1 (by rw [List.length_drop]; omega) (by
      rw [List.all_eq_true] at b ⊢
      exact fun x hx => b x (List.mem_of_mem_drop hx))
    have e : on h (.blend n g (r.take n.toNat) (r.drop n.toNat)) = (h, ⟨n, blended g (r.take n.toNat) (r.drop n.toNat)⟩) := by
      refine if_neg ?_
      simp [isIn_inI, c1, c2, r1, r2]
    rw [e]
    exact ⟨o, by rw [ea, if_pos c]⟩
  · left
    refine ⟨if_pos ?_, by rw [ea, if_neg c]⟩
    by_cases c1 : inI 0 512 n
    · by_cases c2 : inI 0 32767 g
      · exact absurd ⟨c1, c2⟩ c
      · simp [isIn_inI, c2]
    · simp [isIn_inI, c1]
theorem on_measure {h : House} (o : OkH h) {n : Int} {r : List Int} (a : r.length = Sj32Neutral.many n 512) (b : r.all Sj32Neutral.sample = true) :
    (on h (.measure n r) = (h, just (-2)) ∧ act (concH h) (12 :: n :: r) = none) ∨
    (OkH (on h (.measure n r)).1 ∧ act (concH h) (12 :: n :: r) = some (concH (on h (.measure n r)).1, (on h (.measure n r)).2.v :: (on h (.measure n r)).2.l)) := by
  have ea : act (concH h) (12 :: n :: r) = if inI 0 512 n then some (concH h, 0 :: measured r) else none := by
    unfold act
    split <;> simp_all
  by_cases c : inI 0 512 n
  · right
    rw [many_in c] at a
    have r1 : isRow n r = true := row_ok c.1 a b
    have e : on h (.measure n r) = (h, ⟨0, measured r⟩) := by
      refine if_neg ?_
      simp [isIn_inI, c, r1]
    rw [e]
    exact ⟨o, by rw [ea, if_pos c]⟩
  · left
    exact ⟨if_pos (by simp [isIn_inI, c]), by rw [ea, if_neg c]⟩
theorem ansM_ne {m : Option IH} {l : List Int} (h : l ≠ [1]) : ansM m l = match m with
      | none => (none, [-7])
      | some h => match act h l with
        | none => (some h, [-2])
        | some (h', r) => (some h', r) := by
  unfold ansM
  split
  · exact absurd rfl h
  · rfl
theorem step_none {l : List Int} {q : Sj32.Call} (hc : Sj32Neutral.callOf l = some q) (hn : Sj32.step none q = (none, just (-7))) (h : l ≠ [1]) : (Sj32Neutral.step none [l]).2 = (ansM none l).2 ∧ Rel (Sj32Neutral.step none [l]).1 (ansM none l).1 := by
  rw [step_some hc, hn, ansM_ne h]
  exact ⟨rfl, Or.inl ⟨rfl, rfl⟩⟩
theorem step_both {s : Sj32Neutral.S} {m : Option IH} {l : List Int} {q : Sj32.Call} (r : Rel s m) (hc : Sj32Neutral.callOf l = some q) (hn : ∀ s, Sj32.step s q = match s with
      | none => (s, just (-7))
      | some h => (some (on h q).1, (on h q).2)) (h1 : l ≠ [1])
    (k : ∀ h, OkH h → (on h q = (h, just (-2)) ∧ act (concH h) l = none) ∨ (OkH (on h q).1 ∧ act (concH h) l = some (concH (on h q).1, (on h q).2.v :: (on h q).2.l))) :
    (Sj32Neutral.step s [l]).2 = (ansM m l).2 ∧ Rel (Sj32Neutral.step s [l]).1 (ansM m l).1 := by
  rcases r with ⟨rfl, rfl⟩ | ⟨h, rfl, o, rfl⟩
  · exact step_none hc (hn none) h1
  · exact step_on o hc hn (fun m => ansM_ne h1) (k h o)
theorem ih0_is : concH house0 = ih0 := by
  unfold concH house0 ih0
  dsimp only
  rw [List.map_replicate]
  have e : conc voice0 = iv0 := by
    unfold conc voice0 iv0
    dsimp only
    rw [U_one, U_zero]
  rw [e]
  rfl
/-- **The mirror answers as the specification does, and goes on so.** -/
theorem step_rel {s : Sj32Neutral.S} {m : Option IH} {l : List Int} (r : Rel s m) (g : Good l) : (Sj32Neutral.step s [l]).2 = (ansM m l).2 ∧ Rel (Sj32Neutral.step s [l]).1 (ansM m l).1 := by
  rcases g with rfl | ⟨k, w, d, lz, le, fz, fe, rz, re, rfl, za, zb, zc⟩ | ⟨k, m, cz, ce, dz, de, rfl, za, zb⟩ | ⟨k, rz, re, fz, fe, kz, ke, gz, ge, rfl, za, zb, zc, zd⟩ | ⟨k, s, rfl⟩ | ⟨k, rfl⟩ | ⟨n, fz, fe, hz, he, rfl, za, zb⟩ | ⟨n, rfl⟩ | ⟨k, rfl⟩ | rfl | ⟨n, g, x, rfl, a, b⟩ | ⟨n, x, rfl, a, b⟩
  · refine ⟨rfl, Or.inr ⟨house0, rfl, house0_ok, ?_⟩⟩
    rw [ih0_is]
    rfl
  · exact step_both r (call_voice za zb zc) (fun s => by cases s <;> rfl) (by simp) fun h o => on_voice o za zb zc
  · exact step_both r (call_filter za zb) (fun s => by cases s <;> rfl) (by simp) fun h o => on_filter o za zb
  · exact step_both r (call_shape za zb zc zd) (fun s => by cases s <;> rfl) (by simp) fun h o => on_shape o za zb zc zd
  · exact step_both r (q := .on_ k s) rfl (fun s => by cases s <;> rfl) (by simp) fun h o => on_on o
  · exact step_both r (q := .off k) rfl (fun s => by cases s <;> rfl) (by simp) fun h o => on_off o
  · exact step_both r (call_echo za zb) (fun s => by cases s <;> rfl) (by simp) fun h o => on_echo o za zb
  · exact step_both r (q := .play n) rfl (fun s => by cases s <;> rfl) (by simp) fun h o => on_play o
  · exact step_both r (q := .told k) rfl (fun s => by cases s <;> rfl) (by simp) fun h o => on_told o
  · exact step_both r (q := .sounding) rfl (fun s => by cases s <;> rfl) (by simp) fun h o => Or.inr (on_sounding o)
  · exact step_both r (call_blend a b) (fun s => by cases s <;> rfl) (by simp) fun h o => on_blend o a b
  · exact step_both r (call_measure a b) (fun s => by cases s <;> rfl) (by simp) fun h o => on_measure o a b
end VS

namespace VS
open Sj32
/-! ### The program's own steps over counts -/
/-- nearest_whole: floor of (n + half - 1 + odd) by 2^b -/
def nwh (n : Int) (b : Nat) : Int := (n + 2 ^ (b - 1) - 1 + n / 2 ^ b % 2) / 2 ^ b
theorem nwh_core {n h : Int} (hh : 0 < h) {q r : Int} (hn : n = q * (2 * h) + r) (r0 : 0 ≤ r) (r1 : r < 2 * h) :
    (n + h - 1 + n / (2 * h) % 2) / (2 * h) = q + (if h < r ∨ (h = r ∧ q % 2 = 1) then 1 else 0) := by
  have p : (0 : Int) < 2 * h := by omega
  have e1 : n / (2 * h) = q := by
    rw [hn, Int.add_comm, Int.add_mul_ediv_right _ _ (by omega), Int.ediv_eq_zero_of_lt r0 r1]
    omega
  rw [e1]
  have e2 : n + h - 1 + q % 2 = (r + h - 1 + q % 2) + q * (2 * h) := by omega
  rw [e2, Int.add_mul_ediv_right _ _ (by omega)]
  have m2 : q % 2 = 0 ∨ q % 2 = 1 := by omega
  split
  · rename_i c
    have e3 : (r + h - 1 + q % 2) / (2 * h) = 1 := by
      have e4 : r + h - 1 + q % 2 = (r - h - 1 + q % 2) + 1 * (2 * h) := by omega
      rw [e4, Int.add_mul_ediv_right _ _ (by omega), Int.ediv_eq_zero_of_lt (by omega) (by omega)]
      rfl
    omega
  · rename_i c
    have e3 : (r + h - 1 + q % 2) / (2 * h) = 0 := Int.ediv_eq_zero_of_lt (by omega) (by omega)
    omega
theorem pow_half {b : Nat} (hb : 0 < b) : (2 : Int) ^ b = 2 * 2 ^ (b - 1) := by
  obtain ⟨c, rfl⟩ : ∃ c, b = c + 1 := ⟨b - 1, by omega⟩
  rw [Nat.add_sub_cancel, Int.pow_succ, Int.mul_comm]
theorem nwh_rne {n : Int} {b : Nat} (hb : 0 < b) : nwh n b = rne b n := by
  unfold nwh
  rw [pow_half hb]
  have hp : (0 : Int) < 2 ^ (b - 1) := ipow_pos2 _
  have hs : (2 : Nat) ^ b = 2 * 2 ^ (b - 1) := by
    obtain ⟨c, rfl⟩ : ∃ c, b = c + 1 := ⟨b - 1, by omega⟩
    rw [Nat.add_sub_cancel, Nat.pow_succ, Nat.mul_comm]
  unfold rne
  rw [hs]
  obtain ⟨h, eh⟩ : ∃ h : Nat, h = 2 ^ (b - 1) := ⟨_, rfl⟩
  have eh2 : (2 : Int) ^ (b - 1) = (h : Int) := by rw [eh]; simp
  rw [← eh, eh2]
  rw [eh2] at hp
  have hd := Nat.div_add_mod n.natAbs (2 * h)
  have hl := Nat.mod_lt n.natAbs (y := 2 * h) (by omega)
  obtain ⟨q, eq⟩ : ∃ q, q = n.natAbs / (2 * h) := ⟨_, rfl⟩
  obtain ⟨r, er⟩ : ∃ r, r = n.natAbs % (2 * h) := ⟨_, rfl⟩
  rw [← eq, ← er] at hd ⊢
  rw [← er] at hl
  have hd2 : (n.natAbs : Int) = (q : Int) * (2 * (h : Int)) + (r : Int) := by
    have := congrArg (Int.ofNat) hd
    simp only [Int.ofNat_eq_natCast] at this
    rw [← this]
    push_cast
    rw [Int.mul_comm (2 * (h : Int)) (q : Int)]
  unfold ups signed
  by_cases c : n < 0
  · rw [decide_eq_true c, if_pos rfl]
    have na : n = -(n.natAbs : Int) := by omega
    by_cases r0 : r = 0
    · have e1 : n = (-(q : Int)) * (2 * (h : Int)) + 0 := by rw [na, hd2, r0]; simp [Int.neg_mul]
      rw [nwh_core hp e1 (Int.le_refl _) (by omega)]
      rw [if_neg (by omega), if_neg (by omega)]
      omega
    · have e1 : n = (-(q : Int) - 1) * (2 * (h : Int)) + (2 * h - r : Int) := by
        rw [na, hd2, Int.sub_mul, Int.neg_mul]; omega
      rw [nwh_core hp e1 (by omega) (by omega)]
      by_cases c2 : 2 * h < 2 * r ∨ 2 * h = 2 * r ∧ q % 2 = 1
      · rw [if_pos c2, if_neg (by omega)]; omega
      · rw [if_neg c2, if_pos (by omega)]; omega
  · rw [decide_eq_false c, if_neg (by decide)]
    have na : n = (n.natAbs : Int) := by omega
    have e1 : n = (q : Int) * (2 * (h : Int)) + (r : Int) := by rw [← hd2]; exact na
    rw [nwh_core hp e1 (by omega) (by omega)]
    by_cases c2 : 2 * h < 2 * r ∨ 2 * h = 2 * r ∧ q % 2 = 1
    · rw [if_pos c2, if_pos (by omega)]; omega
    · rw [if_neg c2, if_neg (by omega)]; omega
/-- how many bits are lost, as the program finds it -/
theorem rnd_lost0 {k : Nat} {n : Int} (h : drop k n.natAbs = 0) : rnd k n = n := by
  have k0 : k = 0 := by have := le_drop k n.natAbs; omega
  subst k0
  unfold rnd rndN
  rw [h, ups_zero' n.natAbs, Nat.pow_zero, Nat.div_one, Nat.add_zero, Nat.mul_one]
  exact signed_natAbs n
where ups_zero' (a : Nat) : ups (a / 2 ^ 0) (a % 2 ^ 0) (2 ^ 0) = 0 := by
        rw [Nat.pow_zero, Nat.mod_one]
        exact ups_zero (by decide)
theorem rnd_lost {k : Nat} {n : Int} (h : 0 < drop k n.natAbs) : rnd k n = nwh n (drop k n.natAbs) * 2 ^ (drop k n.natAbs - k) := by
  rw [nwh_rne h]
  unfold rnd rndN rne
  rw [signed_mul]
  congr 1
/-- scaling -/
theorem rndN_scale (a s : Nat) : rndN 0 (a * 2 ^ s) = rndN 0 a * 2 ^ s := by
  by_cases c : a < 2 ^ 24
  · rw [rndN_exact c (Nat.zero_le _), Nat.sub_zero]
    have := rndN_exact (k := 0) (s := 0) c (Nat.le_refl _)
    rw [Nat.pow_zero, Nat.mul_one] at this
    rw [this]
  · have a0 : a ≠ 0 := fun z => c (by rw [z]; decide)
    have sz : 24 < size a := lt_size.mpr (by omega)
    have e : drop 0 (a * 2 ^ s) = drop 0 a + s := by
      unfold drop
      rw [size_mul_pow a0]
      omega
    unfold rndN
    rw [e, Nat.pow_add, Nat.mul_div_mul_right _ _ (pow_pos2 s), Nat.mul_mod_mul_right, ups_mul (pow_pos2 s), Nat.sub_zero, Nat.sub_zero, Nat.pow_add, Nat.mul_assoc]
theorem rnd_scale (n : Int) (s : Nat) : rnd 0 (n * 2 ^ s) = rnd 0 n * 2 ^ s := by
  unfold rnd
  have e1 : (n * 2 ^ s).natAbs = n.natAbs * 2 ^ s := by rw [Int.natAbs_mul, Int.natAbs_pow]; rfl
  have p := ipow_pos2 s
  have e2 : decide (n * 2 ^ s < 0) = decide (n < 0) := by
    apply decide_eq_decide.mpr
    constructor
    · intro h
      rcases Int.lt_or_le n 0 with q | q
      · exact q
      · have := Int.mul_nonneg q (Int.le_of_lt p); omega
    · intro h
      exact Int.mul_neg_of_neg_of_pos h p
  rw [e1, e2, rndN_scale, signed_mul]
  congr 1
theorem part_is (n : Nat) : rnd 0 (signed32 n * 2 ^ 149) / 2 ^ 31 = part n := by
  have e : signed32 n * 2 ^ 149 = (signed32 n * 2 ^ 118) * 2 ^ 31 := by
    rw [Int.mul_assoc]
    congr 1
  rw [e, rnd_scale, Int.mul_ediv_cancel _ (by decide)]
  rfl
theorem part_flt (n : Nat) : FltI (part n) := rnd_flt _ _
theorem flt_two {x : Int} (h : FltI x) : FltI (2 * x) := by
  unfold FltI at h ⊢
  obtain ⟨m, s, hm, e⟩ := h
  exact ⟨m, s + 1, hm, by rw [Int.natAbs_mul, e, Nat.pow_succ]; show 2 * (m * 2 ^ s) = m * (2 ^ s * 2); rw [Nat.mul_comm 2, Nat.mul_assoc]⟩
theorem twice_is {x : Int} (h : FltI x) : rMul (2 ^ 150) x = 2 * x := by
  unfold rMul
  have e : (2 : Int) ^ 150 * x = (2 * x) * 2 ^ 149 := by
    have : (2 : Int) ^ 150 = 2 * 2 ^ 149 := by decide
    rw [this, Int.mul_assoc, Int.mul_comm (2 ^ 149) x, ← Int.mul_assoc]
  rw [e]
  exact flt_rnd149 (flt_two h)
theorem flt_abs {x : Int} (h : FltI x) : FltI (x.natAbs : Int) := by
  unfold FltI at h ⊢
  simpa using h
theorem tone2_is (n : Nat) : rSub (rMul (2 ^ 150) ((part n).natAbs : Int)) (2 ^ 149) = rSub (2 * ((part n).natAbs : Int)) (2 ^ 149) := by
  rw [twice_is (flt_abs (part_flt n))]
theorem hold_is (a : Int) : hold a = max (-2 ^ 153) (min (2 ^ 153) a) := by
  unfold hold
  have : (0 : Int) < 2 ^ 153 := ipow_pos2 _
  split
  · omega
  · split <;> omega
theorem toldI_is {n w : Int} {t : Nat} (hw : w % 2 = 1) (e : n = w * 2 ^ t) : toldI n = [w, (t : Int) - 149] := by
  have n0 : n ≠ 0 := by
    intro z
    rw [e] at z
    rcases Int.mul_eq_zero.mp z with z | z
    · omega
    · have := ipow_pos2 t; omega
  unfold toldI
  rw [if_neg n0]
  obtain ⟨w', j, h1, h2, h3⟩ := odd_parts (size n.natAbs) n (-149) n0 (Nat.le_refl _)
  rw [h3]
  obtain ⟨e1, e2⟩ := odd_unique hw h1 (e.symm.trans h2)
  rw [e1, e2]
  congr 2
theorem odd_form {n : Int} (h : n ≠ 0) : ∃ (a : Int) (t : Nat), n = 2 ^ t * (2 * a + 1) ∧ toldI n = [2 * a + 1, (t : Int) - 149] := by
  obtain ⟨w, j, h1, h2, _⟩ := odd_parts (size n.natAbs) n (-149) h (Nat.le_refl _)
  have e : w = 2 * (w / 2) + 1 := by omega
  refine ⟨w / 2, j, ?_, ?_⟩
  · rw [← e, Int.mul_comm]; exact h2
  · rw [← e]; exact toldI_is h1 h2
end VS

namespace VS
open Sj32
/-! ### What the house's counts keep to -/
structure BdH (h : IH) : Prop where
  len : h.voices.length = 8
  voices : ∀ v ∈ h.voices, Bd v
  same : h.left.length = h.right.length
  few : h.left.length ≤ 1024
  left : ∀ x ∈ h.left, x.natAbs ≤ 2 ^ 153
  right : ∀ x ∈ h.right, x.natAbs ≤ 2 ^ 153
  feed : 0 ≤ h.feed ∧ h.feed ≤ 2 ^ 149
  heard : 0 ≤ h.heard ∧ h.heard ≤ 2 ^ 149
theorem bdH_of {h : House} (o : OkH h) : BdH (concH h) := by
  refine ⟨by simp [concH, o.len], ?_, by simp [concH, o.same], by simp [concH, o.few], ?_, ?_, o.feed.2, o.heard.2⟩
  · intro v hv
    obtain ⟨w, hw, rfl⟩ := List.mem_map.mp hv
    exact (o.voices w hw).2
  · intro x hx
    obtain ⟨d, hd, rfl⟩ := List.mem_map.mp hx
    exact (o.left d hd).2
  · intro x hx
    obtain ⟨d, hd, rfl⟩ := List.mem_map.mp hx
    exact (o.right d hd).2
theorem rowI_len (f x : Int) (l : List Int) : (rowI f x l).length = l.length := by
  cases l with
  | nil => rfl
  | cons d r => simp [rowI]
theorem rowI_bd {f x : Int} {l : List Int} (h : ∀ y ∈ l, y.natAbs ≤ 2 ^ 153) : ∀ y ∈ rowI f x l, y.natAbs ≤ 2 ^ 153 := by
  cases l with
  | nil => intro y hy; cases hy
  | cons d r =>
    intro y hy
    rcases List.mem_append.mp hy with q | q
    · exact h y (List.mem_cons_of_mem _ q)
    · rw [List.mem_singleton.mp q]; exact hold_bound _
theorem bdH_next {h : IH} (b : BdH h) : BdH h.next := by
  refine ⟨by simp [IH.next, b.len], ?_, by simp [IH.next, rowI_len, b.same], by simp [IH.next, rowI_len, b.few], rowI_bd b.left, rowI_bd b.right, b.feed, b.heard⟩
  intro v hv
  obtain ⟨w, hw, rfl⟩ := List.mem_map.mp hv
  exact bd_next (b.voices w hw)
theorem bdH_play {h : IH} (b : BdH h) : ∀ n, BdH (h.play n).2
  | 0 => b
  | n + 1 => bdH_next (bdH_play b n)
/-- numbers that no step of the program makes too great -/
def Sm (a : Int) : Prop := a.natAbs ≤ 2 ^ 200
theorem sm_pow {a : Int} {p : Nat} (h : a.natAbs ≤ 2 ^ p) (hp : p ≤ 200) : Sm a := Nat.le_trans h (Nat.pow_le_pow_right (by decide) hp)
theorem sm_nn {a : Int} {p : Nat} (h : 0 ≤ a ∧ a ≤ 2 ^ p) (hp : p ≤ 200) : Sm a := sm_pow (abs_le h.1 h.2) hp
theorem sum_bd {l : List IV} (hl : ∀ v ∈ l, Bd v) (g : IV → Int) (hg : ∀ i, Bd i → (g i).natAbs ≤ 2 ^ 149) : ∀ (p : Nat) (a : Int), 154 ≤ p → a.natAbs ≤ 2 ^ p → (l.foldl (fun a i => rAdd a (rMul i.sounds (g i))) a).natAbs ≤ 2 ^ (p + l.length) := by
  induction l with
  | nil => intro p a _ h; exact h
  | cons v l ih =>
    intro p a hp h
    have bv := hl v (List.mem_cons_self ..)
    have b1 : (rMul v.sounds (g v)).natAbs ≤ 2 ^ p := by
      have := bound_mul (p := 154) (q := 149) (sounds_bound bv) (hg _ bv) (by decide)
      exact Nat.le_trans this (Nat.pow_le_pow_right (by decide) hp)
    have := ih (fun w hw => hl w (List.mem_cons_of_mem _ hw)) (p + 1) _ (by omega) (bound_add h b1)
    rw [List.foldl_cons, List.length_cons]
    have e : p + (l.length + 1) = p + 1 + l.length := by omega
    rw [e]
    exact this
theorem take_bdL {h : IH} (b : BdH h) (i : Nat) : ((h.voices.take i).foldl (fun (a : Int) (v : IV) => v.toL a) 0).natAbs ≤ 2 ^ 162 := by
  have q := sum_bd (l := h.voices.take i) (fun v hv => b.voices v (List.mem_of_mem_take hv)) (fun i => i.left) (fun i hi => abs_le hi.left.1 hi.left.2) 154 0 (Nat.le_refl _) (by decide)
  refine Nat.le_trans q (Nat.pow_le_pow_right (by decide) ?_)
  have := List.length_take_le i h.voices
  have := List.length_take_le' i h.voices
  have := b.len
  omega
theorem take_bdR {h : IH} (b : BdH h) (i : Nat) : ((h.voices.take i).foldl (fun (a : Int) (v : IV) => v.toR a) 0).natAbs ≤ 2 ^ 162 := by
  have q := sum_bd (l := h.voices.take i) (fun v hv => b.voices v (List.mem_of_mem_take hv)) (fun i => i.right) (fun i hi => abs_le hi.right.1 hi.right.2) 154 0 (Nat.le_refl _) (by decide)
  refine Nat.le_trans q (Nat.pow_le_pow_right (by decide) ?_)
  have := List.length_take_le' i h.voices
  have := b.len
  omega
theorem sideL_bd {h : IH} (b : BdH h) : h.sideL.natAbs ≤ 2 ^ 162 := by
  have := take_bdL b h.voices.length
  rw [List.take_length] at this
  exact this
theorem sideR_bd {h : IH} (b : BdH h) : h.sideR.natAbs ≤ 2 ^ 162 := by
  have := take_bdR b h.voices.length
  rw [List.take_length] at this
  exact this
/-! ### A ring of numbers: where the first stands -/
def ring (L : List Int) (pl : Nat) : List Int := L.drop pl ++ L.take pl
theorem ring_nil (pl : Nat) : ring [] pl = [] := by unfold ring; simp
theorem ring_zero (L : List Int) : ring L 0 = L := by unfold ring; simp
theorem ring_len {L : List Int} {pl : Nat} : (ring L pl).length = L.length := by
  unfold ring
  rw [List.length_append, List.length_drop, List.length_take]
  omega
theorem ring_head {L : List Int} {pl : Nat} {x : Int} (h : L[pl]? = some x) : ∃ r, ring L pl = x :: r := by
  obtain ⟨hl, e⟩ := List.getElem?_eq_some_iff.mp h
  refine ⟨L.drop (pl + 1) ++ L.take pl, ?_⟩
  unfold ring
  rw [List.drop_eq_getElem_cons hl, e]
  rfl
/-- the first goes, y comes behind the last -/
theorem ring_step {L : List Int} {pl : Nat} {x y : Int} {r : List Int} (h : pl < L.length) (e : ring L pl = x :: r) : ring (L.set pl y) ((pl + 1) % L.length) = r ++ [y] := by
  have er : r = L.drop (pl + 1) ++ L.take pl := by
    unfold ring at e
    rw [List.drop_eq_getElem_cons h] at e
    injection e with _ e2
    exact e2.symm
  rw [er]
  unfold ring
  by_cases c : pl + 1 = L.length
  · have e1 : (pl + 1) % L.length = 0 := by rw [c]; exact Nat.mod_self _
    have e2 : L.drop (pl + 1) = [] := List.drop_eq_nil_of_le (by omega)
    rw [e1, List.drop_zero, List.take_zero, List.append_nil, e2, List.nil_append, List.set_eq_take_append_cons_drop, if_pos h, e2]
  · have e1 : (pl + 1) % L.length = pl + 1 := Nat.mod_eq_of_lt (by omega)
    rw [e1, List.drop_set_of_lt (by omega)]
    rw [List.set_eq_take_append_cons_drop, if_pos h]
    rw [List.take_append]
    simp only [List.length_take]
    have m : min pl L.length = pl := by omega
    have e4 : List.take (pl + 1) (List.take pl L) = L.take pl := by rw [List.take_take]; congr 1; omega
    rw [m, e4, show pl + 1 - pl = 1 from by omega, List.append_assoc]
    rfl
/-! ### The forms of a call, by its place -/
theorem good2 {ns : List Int} (g : Good (2 :: ns)) : ∃ k w d lz le fz fe rz re, ns = [k, w, d, lz, le, fz, fe, rz, re] ∧ ZE lz le ∧ ZE fz fe ∧ ZE rz re := by
  rcases g with h | ⟨k, w, d, lz, le, fz, fe, rz, re, h, za, zb, zc⟩ | ⟨k, m, cz, ce, dz, de, h, za, zb⟩ | ⟨k, rz, re, fz, fe, kz, ke, gz, ge, h, za, zb, zc, zd⟩ | ⟨k, s, h⟩ | ⟨k, h⟩ | ⟨n, fz, fe, hz, he, h, za, zb⟩ | ⟨n, h⟩ | ⟨k, h⟩ | h | ⟨n, g, x, h, a, b⟩ | ⟨n, x, h, a, b⟩ <;> injection h with h1 h2 <;> first | exact absurd h1 (by decide) | exact ⟨_, _, _, _, _, _, _, _, _, h2, za, zb, zc⟩
theorem good3 {ns : List Int} (g : Good (3 :: ns)) : ∃ k m cz ce dz de, ns = [k, m, cz, ce, dz, de] ∧ ZE cz ce ∧ ZE dz de := by
  rcases g with h | ⟨k, w, d, lz, le, fz, fe, rz, re, h, za, zb, zc⟩ | ⟨k, m, cz, ce, dz, de, h, za, zb⟩ | ⟨k, rz, re, fz, fe, kz, ke, gz, ge, h, za, zb, zc, zd⟩ | ⟨k, s, h⟩ | ⟨k, h⟩ | ⟨n, fz, fe, hz, he, h, za, zb⟩ | ⟨n, h⟩ | ⟨k, h⟩ | h | ⟨n, g, x, h, a, b⟩ | ⟨n, x, h, a, b⟩ <;> injection h with h1 h2 <;> first | exact absurd h1 (by decide) | exact ⟨_, _, _, _, _, _, h2, za, zb⟩
theorem good4 {ns : List Int} (g : Good (4 :: ns)) : ∃ k rz re fz fe kz ke gz ge, ns = [k, rz, re, fz, fe, kz, ke, gz, ge] ∧ ZE rz re ∧ ZE fz fe ∧ ZE kz ke ∧ ZE gz ge := by
  rcases g with h | ⟨k, w, d, lz, le, fz, fe, rz, re, h, za, zb, zc⟩ | ⟨k, m, cz, ce, dz, de, h, za, zb⟩ | ⟨k, rz, re, fz, fe, kz, ke, gz, ge, h, za, zb, zc, zd⟩ | ⟨k, s, h⟩ | ⟨k, h⟩ | ⟨n, fz, fe, hz, he, h, za, zb⟩ | ⟨n, h⟩ | ⟨k, h⟩ | h | ⟨n, g, x, h, a, b⟩ | ⟨n, x, h, a, b⟩ <;> injection h with h1 h2 <;> first | exact absurd h1 (by decide) | exact ⟨_, _, _, _, _, _, _, _, _, h2, za, zb, zc, zd⟩
theorem good5 {ns : List Int} (g : Good (5 :: ns)) : ∃ k s, ns = [k, s] := by
  rcases g with h | ⟨k, w, d, lz, le, fz, fe, rz, re, h, za, zb, zc⟩ | ⟨k, m, cz, ce, dz, de, h, za, zb⟩ | ⟨k, rz, re, fz, fe, kz, ke, gz, ge, h, za, zb, zc, zd⟩ | ⟨k, s, h⟩ | ⟨k, h⟩ | ⟨n, fz, fe, hz, he, h, za, zb⟩ | ⟨n, h⟩ | ⟨k, h⟩ | h | ⟨n, g, x, h, a, b⟩ | ⟨n, x, h, a, b⟩ <;> injection h with h1 h2 <;> first | exact absurd h1 (by decide) | exact ⟨_, _, h2⟩
theorem good6 {ns : List Int} (g : Good (6 :: ns)) : ∃ k, ns = [k] := by
  rcases g with h | ⟨k, w, d, lz, le, fz, fe, rz, re, h, za, zb, zc⟩ | ⟨k, m, cz, ce, dz, de, h, za, zb⟩ | ⟨k, rz, re, fz, fe, kz, ke, gz, ge, h, za, zb, zc, zd⟩ | ⟨k, s, h⟩ | ⟨k, h⟩ | ⟨n, fz, fe, hz, he, h, za, zb⟩ | ⟨n, h⟩ | ⟨k, h⟩ | h | ⟨n, g, x, h, a, b⟩ | ⟨n, x, h, a, b⟩ <;> injection h with h1 h2 <;> first | exact absurd h1 (by decide) | exact ⟨_, h2⟩
theorem good7 {ns : List Int} (g : Good (7 :: ns)) : ∃ n fz fe hz he, ns = [n, fz, fe, hz, he] ∧ ZE fz fe ∧ ZE hz he := by
  rcases g with h | ⟨k, w, d, lz, le, fz, fe, rz, re, h, za, zb, zc⟩ | ⟨k, m, cz, ce, dz, de, h, za, zb⟩ | ⟨k, rz, re, fz, fe, kz, ke, gz, ge, h, za, zb, zc, zd⟩ | ⟨k, s, h⟩ | ⟨k, h⟩ | ⟨n, fz, fe, hz, he, h, za, zb⟩ | ⟨n, h⟩ | ⟨k, h⟩ | h | ⟨n, g, x, h, a, b⟩ | ⟨n, x, h, a, b⟩ <;> injection h with h1 h2 <;> first | exact absurd h1 (by decide) | exact ⟨_, _, _, _, _, h2, za, zb⟩
theorem good8 {ns : List Int} (g : Good (8 :: ns)) : ∃ n, ns = [n] := by
  rcases g with h | ⟨k, w, d, lz, le, fz, fe, rz, re, h, za, zb, zc⟩ | ⟨k, m, cz, ce, dz, de, h, za, zb⟩ | ⟨k, rz, re, fz, fe, kz, ke, gz, ge, h, za, zb, zc, zd⟩ | ⟨k, s, h⟩ | ⟨k, h⟩ | ⟨n, fz, fe, hz, he, h, za, zb⟩ | ⟨n, h⟩ | ⟨k, h⟩ | h | ⟨n, g, x, h, a, b⟩ | ⟨n, x, h, a, b⟩ <;> injection h with h1 h2 <;> first | exact absurd h1 (by decide) | exact ⟨_, h2⟩
theorem good9 {ns : List Int} (g : Good (9 :: ns)) : ∃ k, ns = [k] := by
  rcases g with h | ⟨k, w, d, lz, le, fz, fe, rz, re, h, za, zb, zc⟩ | ⟨k, m, cz, ce, dz, de, h, za, zb⟩ | ⟨k, rz, re, fz, fe, kz, ke, gz, ge, h, za, zb, zc, zd⟩ | ⟨k, s, h⟩ | ⟨k, h⟩ | ⟨n, fz, fe, hz, he, h, za, zb⟩ | ⟨n, h⟩ | ⟨k, h⟩ | h | ⟨n, g, x, h, a, b⟩ | ⟨n, x, h, a, b⟩ <;> injection h with h1 h2 <;> first | exact absurd h1 (by decide) | exact ⟨_, h2⟩
theorem good10 {ns : List Int} (g : Good (10 :: ns)) : ns = [] := by
  rcases g with h | ⟨k, w, d, lz, le, fz, fe, rz, re, h, za, zb, zc⟩ | ⟨k, m, cz, ce, dz, de, h, za, zb⟩ | ⟨k, rz, re, fz, fe, kz, ke, gz, ge, h, za, zb, zc, zd⟩ | ⟨k, s, h⟩ | ⟨k, h⟩ | ⟨n, fz, fe, hz, he, h, za, zb⟩ | ⟨n, h⟩ | ⟨k, h⟩ | h | ⟨n, g, x, h, a, b⟩ | ⟨n, x, h, a, b⟩ <;> injection h with h1 h2 <;> first | exact absurd h1 (by decide) | exact h2
theorem good11 {ns : List Int} (g : Good (11 :: ns)) : ∃ n g r, ns = n :: g :: r ∧ r.length = 2 * Sj32Neutral.many n 512 ∧ r.all Sj32Neutral.sample = true := by
  rcases g with h | ⟨k, w, d, lz, le, fz, fe, rz, re, h, za, zb, zc⟩ | ⟨k, m, cz, ce, dz, de, h, za, zb⟩ | ⟨k, rz, re, fz, fe, kz, ke, gz, ge, h, za, zb, zc, zd⟩ | ⟨k, s, h⟩ | ⟨k, h⟩ | ⟨n, fz, fe, hz, he, h, za, zb⟩ | ⟨n, h⟩ | ⟨k, h⟩ | h | ⟨n, g, x, h, a, b⟩ | ⟨n, x, h, a, b⟩ <;> injection h with h1 h2 <;> first | exact absurd h1 (by decide) | exact ⟨_, _, _, h2, a, b⟩
theorem good12 {ns : List Int} (g : Good (12 :: ns)) : ∃ n r, ns = n :: r ∧ r.length = Sj32Neutral.many n 512 ∧ r.all Sj32Neutral.sample = true := by
  rcases g with h | ⟨k, w, d, lz, le, fz, fe, rz, re, h, za, zb, zc⟩ | ⟨k, m, cz, ce, dz, de, h, za, zb⟩ | ⟨k, rz, re, fz, fe, kz, ke, gz, ge, h, za, zb, zc, zd⟩ | ⟨k, s, h⟩ | ⟨k, h⟩ | ⟨n, fz, fe, hz, he, h, za, zb⟩ | ⟨n, h⟩ | ⟨k, h⟩ | h | ⟨n, g, x, h, a, b⟩ | ⟨n, x, h, a, b⟩ <;> injection h with h1 h2 <;> first | exact absurd h1 (by decide) | exact ⟨_, _, h2, a, b⟩
theorem good_place {c : Int} {ns : List Int} (g : Good (c :: ns)) : 1 ≤ c ∧ c ≤ 12 := by
  rcases g with h | ⟨k, w, d, lz, le, fz, fe, rz, re, h, za, zb, zc⟩ | ⟨k, m, cz, ce, dz, de, h, za, zb⟩ | ⟨k, rz, re, fz, fe, kz, ke, gz, ge, h, za, zb, zc, zd⟩ | ⟨k, s, h⟩ | ⟨k, h⟩ | ⟨n, fz, fe, hz, he, h, za, zb⟩ | ⟨n, h⟩ | ⟨k, h⟩ | h | ⟨n, g, x, h, a, b⟩ | ⟨n, x, h, a, b⟩ <;> injection h with h1 h2 <;> omega
theorem act11 (h : IH) (n g : Int) (r : List Int) : act h (11 :: n :: g :: r) = if inI 0 512 n ∧ inI 0 32767 g then some (h, n :: blended g (r.take n.toNat) (r.drop n.toNat)) else none := by
  unfold act
  split <;> simp_all
theorem act12 (h : IH) (n : Int) (r : List Int) : act h (12 :: n :: r) = if inI 0 512 n then some (h, 0 :: measured r) else none := by
  unfold act
  split <;> simp_all
end VS

set_option Elab.async false
set_option maxRecDepth 100000
set_option maxHeartbeats 2000000
namespace VS
open PySem PySem.Spec PyProof.Rows L2

/-! ### Words that the layer lacks -/
section
variable {X : Cx}
/-- a constant of the top: a whole number -/
theorem pe_gi {x : Str} {i : Int} {pos : Pos} (h : ∃ t, X.mg x = some (.int i t)) (hg : Gl X x) (hd : (x == ("__debug__" : Str)) = false := by decide) : PE X (.Name x pos) (tC (.int i)) := by
  obtain ⟨t, e⟩ := h
  exact pe_glob hg e ⟨_, rfl⟩ hd
/-- X(), X an error class of one's own -/
theorem pmk_own0 {C : Addr} {bmB : List Value} {B newId initId : String} {x : Str} {p pos : Pos} (F : ExcBaseFacts B newId initId bmB) (q : PySem.W.excIn X.K C bmB newId = true) (gC : X.mg x = some (.ref C)) (kC : PySem.W.keepIn X.K (.ref C) = true) (r : Raises X (.ref C)) (hg : Gl X x)
    (hdb : (x == ("__debug__" : Str)) = false := by decide) : PMk X (.Call (.Name x p) [] [] pos) (fun _ H Q => Q (.ref C) none H) := by
  intro pins s σ H Q I h
  refine wpAny_Call_Name_kw (ld_glob I hg gC ?_ hdb)
  refine PySem.W.callWith_K0 I.kIn kC ?_
  show wpAny _ _ (call (.ref C) []) _ _ _
  obtain ⟨bm, N, nm, qn, bs, hdct, sn, sub, ab, col, dd, k0, k1, k2, k3, k5, mN, hC, hN, hni, T⟩ := exc_obj I.kIn q
  refine wpAny_call_exc_subT F T hC hN hni (fun h' e hm => ?_) (Nat.zero_le _)
  exact mk_of I hm r h (I.hok.gone hm.new)
/-- a written dict whose keys are whole numbers: the entries -/
def KeysInt : List DictEntry → Prop
  | [] => True
  | e :: r => (∃ i t, e.key = .int i t ∧ e.hash = hashInt i) ∧ KeysInt r
theorem KeysInt.all {l : List DictEntry} (h : KeysInt l) : ∀ d ∈ l, ∃ i t, d.key = .int i t ∧ d.hash = hashInt i := by
  induction l with
  | nil => intro d hd; cases hd
  | cons c r ih =>
    intro d hd
    rcases List.mem_cons.mp hd with rfl | m
    · exact h.1
    · exact ih h.2 d m
theorem mapOf_KI {prog : Program} {w : World} {h : Heap} {K : PySem.W.Frag} {a : Addr} {es : Array DictEntry} {n : Nat} (X : K.In h) (hl : K.lookup a = some ⟨.type "dict", none, .dict es n, #[]⟩) (hk : KeysInt es.toList) : h.MapOf (intKind prog w) a (fun k => findBy Value.isInt es k) := by
  refine ⟨_, es, n, X _ _ hl, ⟨rfl, rfl, rfl⟩, rfl, fun d hd => ?_, fun _ => rfl⟩
  obtain ⟨i, tok, ek, eh⟩ := hk.all d (Array.mem_toList_iff.mpr hd)
  exact ⟨i, by rw [ek]; exact intKind_is prog w i tok, eh⟩
def rIxKI (K : PySem.W.Frag) : R2 := fun x y H Q => ∃ (p : Addr) (i : Int) (es : Array DictEntry) (n : Nat) (u : Value) (v : V), x = .ref p ∧ y = .int i ∧ K.lookup p = some ⟨.type "dict", none, .dict es n, #[]⟩ ∧ KeysInt es.toList ∧ findBy Value.isInt es i = some u ∧ RelV v u ∧ Q v H
theorem ix_kdictI : IxR X (rIxKI X.K) := by
  intro ev es0 pins s σ H o k v u Q I rv ru0 h hs
  obtain ⟨p, i, es, n, u0, r, rfl, rfl, hl, hk, e, ru, q⟩ := h
  obtain rfl : v = Value.ref p := rv
  obtain ⟨t, rfl⟩ := ru0
  have hm := mapOf_KI (prog := X.prog) (w := X.w) I.kIn hl hk
  exact tail_any hm.typeIs slot_dict_getitem.lookup (wpAny_getItem_of (intKind_is X.prog X.w i t) hm e ⟨r, H, I.tok _, ru, q⟩) hs
end
section
variable {X : Cx}
/-- max(xs, default=d) of a list of whole numbers -/
def rMaxDef (K : PySem.W.Frag) : List V → List V → Hp → VK → Prop := fun vs zs H Q => ∃ (a : Addr) (ns : List Int) (d : Int), vs = [V.ref a] ∧ zs = [V.int d] ∧ SqL K H a (ns.map V.int) ∧ (ns = [] → Q (.int d) H) ∧
  ∀ y ys, ns = y :: ys → Q (.int (ys.foldl (fun a y => if decide (a < y) = true then y else a) y)) H
theorem cr_maxDef (hc : X.calm = true) (hu : X.A.units + 1 < cLine) : CallRK X (.builtin "max") [Str.ofString "default"] (rMaxDef X.K) := by
  intro pins s σ H xs zs us ws Q I r1 r2 h
  obtain ⟨a, ns, d, rfl, rfl, hs, q0, q1⟩ := h
  obtain ⟨its, rv, hl, _⟩ := I.list hs
  rw [Vals.ref1 r1]
  obtain ⟨t, rfl⟩ : ∃ t, ws = [Value.int d t] := by
    cases r2 with
    | cons r z =>
      cases z
      obtain ⟨t, rfl⟩ := r
      exact ⟨t, rfl⟩
  refine PySem.W.max_list_datum_default (α := Int) (I.ok.hd hc) hl.isList (PySem.W.HoldAll.of_ints rv.ints) hu (fun e h' tk hk => ?_) (fun y ys i v h' tk e hi hv hk => ?_)
  · exact ⟨.int d, H, I.kept hk, ⟨_, rfl⟩, q0 e⟩
  · obtain ⟨as, rd⟩ := hv
    have rd2 : Reads h' v (.int (PySem.W.maxOf y ys)) as := rd
    cases rd2
    exact ⟨.int _, H, I.kept hk, ⟨_, rfl⟩, q1 y ys e⟩
end
/-- what stands behind a comprehension's target: the test, the item, then Nx of the list with it -/
def behindTarget (tt : TT) (te : TE) (D : Addr) (own : List Nat) (σ0 : L2.St) (Nx : Hp → Prop) : L2.St → Hp → Prop := fun σ2 H2 =>
  wipe σ2 own = wipe σ0 own ∧ tt σ2 H2 fun kept H3 => if kept = true then te σ2 H3 fun z H4 => ∃ made, H4 D = some (.lst made) ∧ made.length < sizeLine ∧ Nx (upd H4 D (.lst (made ++ [z]))) else Nx H3
/-- a comprehension over zip of two lists of one length -/
theorem lc_zip {K : PySem.W.Frag} {a b D : Addr} {xs ys : List V} {g : TG} {tt : TT} {te : TE} {own : List Nat} {σ : L2.St} {H1 : Hp} {Qd : Hp → Prop} (same : xs.length = ys.length) (Pv : Nat → Hp → Prop) (start : Pv 0 (upd H1 D (.lst [])))
    (still : ∀ i H, Pv i H → SqL K H a xs ∧ SqL K H b ys)
    (turn : ∀ (i : Nat) (x y : V) (T : Addr) (H : Hp), xs[i]? = some x → ys[i]? = some y → Pv i H → H T = none → g (.ref T) (wipe σ own) (upd H T (.tup [x, y])) (behindTarget tt te D own σ (Pv (i + 1))))
    (after : ∀ H, Pv xs.length H → Qd H) :
    ∃ W : Nat → Nat → Hp → Prop, (∃ m, W 0 m (upd H1 D (.lst []))) ∧ ∀ i m H, W i m H → ((Itz K a b).stop i H ∧ Qd H) ∨
      ((Itz K a b).go i H ∧ ∃ Nx : Hp → Prop, (∀ H', Nx H' → ∃ m', m' < m ∧ W (i + 1) m' H') ∧ ∀ x H', (Itz K a b).yld i H x H' → g x (wipe σ own) H' (behindTarget tt te D own σ Nx)) := by
  refine ⟨fun i m H => (m = xs.length - i ∧ i ≤ xs.length) ∧ Pv i H, ⟨xs.length, ⟨rfl, Nat.zero_le _⟩, start⟩, ?_⟩
  rintro i m H ⟨⟨rfl, hi⟩, p⟩
  obtain ⟨qx, qy⟩ := still i H p
  rcases Nat.lt_or_ge i xs.length with lt | ge
  · refine .inr ⟨⟨xs, ys, _, _, qx, qy, List.getElem?_eq_getElem lt, List.getElem?_eq_getElem (same ▸ lt)⟩, Pv (i + 1), fun H' p' => ⟨xs.length - (i + 1), by omega, ⟨rfl, lt⟩, p'⟩, fun v H' z => ?_⟩
    obtain ⟨T, x, y, rfl, new, rfl, f1, f2⟩ := z
    exact turn i x y T H (f1 xs qx) (f2 ys qy) p new
  · obtain rfl : i = xs.length := by omega
    exact .inl ⟨⟨xs, ys, qx, qy, Or.inl ge⟩, after H p⟩
/-- an if whose test is known -/
theorem if_true_of {c : Bool} {A B : Prop} (hc : c = true) (h : A) : if c = true then A else B := by
  rw [if_pos hc]
  exact h
theorem if_false_of {c : Bool} {A B : Prop} (hc : c = false) (h : B) : if c = true then A else B := by
  rw [hc, if_neg Bool.false_ne_true]
  exact h
theorem shl_ok {i j : Int} {a : Nat} (h0 : 0 ≤ j) (ha : i.natAbs < 2 ^ a) (h : a + j.toNat ≤ 134217728) : CShl i j := by
  refine ⟨h0, ?_⟩
  have b : Builtin.Int.intBits i ≤ a := by
    unfold Builtin.Int.intBits
    split
    · omega
    · rename_i c
      have := (Nat.log2_lt (n := i.natAbs) (k := a) (by simpa using c)).mpr ha
      omega
  have : (2 : Int) ^ 27 = 134217728 := by decide
  rw [this]
  omega
end VS

set_option Elab.async false
set_option maxRecDepth 100000
set_option maxHeartbeats 4000000
namespace VS
open PySem PySem.Spec PyProof.Rows L2

/-! ### Where the program's defs, classes and constants stand -/
def top (i : Nat) : Stmt := PySem.Challenge.pw_voicesounds_s01_answers.main.body.getD i (.Pass ⟨0, 0, 0, 0⟩)
abbrev s_units_of : Stmt := top 4
abbrev s_nearest_whole : Stmt := top 5
abbrev s_nearest_float : Stmt := top 6
abbrev s_plus : Stmt := top 7
abbrev s_minus : Stmt := top 8
abbrev s_times : Stmt := top 9
abbrev s_made_float : Stmt := top 10
abbrev s_held : Stmt := top 11
abbrev s_told_float : Stmt := top 12
abbrev s_whole_within : Stmt := top 17
abbrev s_handed_float : Stmt := top 18
abbrev s_side_echoed : Stmt := top 21
abbrev s_echoed : Stmt := top 22
abbrev s_within_16_bits : Stmt := top 27
abbrev s_in_16_bits : Stmt := top 28
abbrev s_over_32768 : Stmt := top 29
abbrev s_blended : Stmt := top 30
abbrev s_risings : Stmt := top 31
abbrev s_measured : Stmt := top 32
abbrev s_rise : Stmt := top 42
abbrev s_fall : Stmt := top 43
abbrev s_die_away : Stmt := top 44
abbrev s_shape_goes_on : Stmt := top 45
abbrev s_part_of_turn : Stmt := top 46
abbrev s_falling_wave : Stmt := top 47
abbrev s_up_or_down_wave : Stmt := top 48
abbrev s_up_and_down_wave : Stmt := top 49
abbrev s_noise_wave : Stmt := top 50
abbrev s_filtered : Stmt := top 52
abbrev s_within_32_bits : Stmt := top 53
abbrev s_voice_sample : Stmt := top 54
abbrev s_sample_of_all : Stmt := top 56
abbrev s_voice_at : Stmt := top 68
abbrev s_begin_anew : Stmt := top 69
abbrev s_set_voice : Stmt := top 70
abbrev s_set_filter : Stmt := top 71
abbrev s_set_shape : Stmt := top 72
abbrev s_turn_on : Stmt := top 73
abbrev s_turn_off : Stmt := top 74
abbrev s_set_echo : Stmt := top 75
abbrev s_play : Stmt := top 76
abbrev s_tell_voice : Stmt := top 77
abbrev s_count_sounding : Stmt := top 78
abbrev s_blend : Stmt := top 79
abbrev s_measure : Stmt := top 80
abbrev s_carry_out : Stmt := top 82
abbrev s_answer_to : Stmt := top 83
abbrev s_answers_at : Stmt := top 84
abbrev s_answers : Stmt := top 85
abbrev s_Echo_init : Stmt := inClass (top 20) 0
abbrev s_Voice_init : Stmt := inClass (top 39) 0
abbrev s_Desk_init : Stmt := inClass (top 67) 0
structure Ad where
  f_units_of : Addr
  f_nearest_whole : Addr
  f_nearest_float : Addr
  f_plus : Addr
  f_minus : Addr
  f_times : Addr
  f_made_float : Addr
  f_held : Addr
  f_told_float : Addr
  f_whole_within : Addr
  f_handed_float : Addr
  f_side_echoed : Addr
  f_echoed : Addr
  f_within_16_bits : Addr
  f_in_16_bits : Addr
  f_over_32768 : Addr
  f_blended : Addr
  f_risings : Addr
  f_measured : Addr
  f_rise : Addr
  f_fall : Addr
  f_die_away : Addr
  f_shape_goes_on : Addr
  f_part_of_turn : Addr
  f_falling_wave : Addr
  f_up_or_down_wave : Addr
  f_up_and_down_wave : Addr
  f_noise_wave : Addr
  f_filtered : Addr
  f_within_32_bits : Addr
  f_voice_sample : Addr
  f_sample_of_all : Addr
  f_voice_at : Addr
  f_begin_anew : Addr
  f_set_voice : Addr
  f_set_filter : Addr
  f_set_shape : Addr
  f_turn_on : Addr
  f_turn_off : Addr
  f_set_echo : Addr
  f_play : Addr
  f_tell_voice : Addr
  f_count_sounding : Addr
  f_blend : Addr
  f_measure : Addr
  f_carry_out : Addr
  f_answer_to : Addr
  f_answers_at : Addr
  f_answers : Addr
  f_Echo_init : Addr
  f_Voice_init : Addr
  f_Desk_init : Addr
  c_Echo : Addr
  c_Voice : Addr
  c_Desk : Addr
  c_NotAsTold : Addr
  c_NothingOpen : Addr
  o_ACTIONS : Addr
  o_WAVES : Addr
structure Fd where
  f_units_of : FuncData
  f_nearest_whole : FuncData
  f_nearest_float : FuncData
  f_plus : FuncData
  f_minus : FuncData
  f_times : FuncData
  f_made_float : FuncData
  f_held : FuncData
  f_told_float : FuncData
  f_whole_within : FuncData
  f_handed_float : FuncData
  f_side_echoed : FuncData
  f_echoed : FuncData
  f_within_16_bits : FuncData
  f_in_16_bits : FuncData
  f_over_32768 : FuncData
  f_blended : FuncData
  f_risings : FuncData
  f_measured : FuncData
  f_rise : FuncData
  f_fall : FuncData
  f_die_away : FuncData
  f_shape_goes_on : FuncData
  f_part_of_turn : FuncData
  f_falling_wave : FuncData
  f_up_or_down_wave : FuncData
  f_up_and_down_wave : FuncData
  f_noise_wave : FuncData
  f_filtered : FuncData
  f_within_32_bits : FuncData
  f_voice_sample : FuncData
  f_sample_of_all : FuncData
  f_voice_at : FuncData
  f_begin_anew : FuncData
  f_set_voice : FuncData
  f_set_filter : FuncData
  f_set_shape : FuncData
  f_turn_on : FuncData
  f_turn_off : FuncData
  f_set_echo : FuncData
  f_play : FuncData
  f_tell_voice : FuncData
  f_count_sounding : FuncData
  f_blend : FuncData
  f_measure : FuncData
  f_carry_out : FuncData
  f_answer_to : FuncData
  f_answers_at : FuncData
  f_answers : FuncData
  f_Echo_init : FuncData
  f_Voice_init : FuncData
  f_Desk_init : FuncData
structure Def (K : PySem.W.Frag) (mg : Str → Option Value) (name : Str) (st : Stmt) (ps : List Str) (f : Addr) (fd : FuncData) : Prop where
  fn : Fun K name name st f fd
  bd : Binds K fd ps []
  gl : mg name = some (.ref f)
structure MDef (K : PySem.W.Frag) (C : Addr) (name qual : Str) (st : Stmt) (ps : List Str) (f : Addr) (fd : FuncData) : Prop where
  fn : Fun K name qual st f fd
  bd : Binds K fd ps []
  me : Meth K C name f
structure Exc (K : PySem.W.Frag) (mg : Str → Option Value) (name : Str) (C : Addr) : Prop where
  gl : mg name = some (.ref C)
  x : PySem.W.excIn K C [.type "ValueError", .type "Exception", .type "BaseException", .type "object"] "ValueError.__new__" = true
  kp : PySem.W.keepIn K (.ref C) = true
  b : PySem.W.subIn K (.ref C) (.type "BaseException") = some true
  t : PySem.W.typeIn K (.ref C) = some (.type "type")
structure Txt (K : PySem.W.Frag) (mg : Str → Option Value) (a : Ad) (d : Fd) : Prop where
  g_UNIT_BITS : ∃ t, mg "UNIT_BITS" = some (.int (149) t)
  g_FLOAT_BITS : ∃ t, mg "FLOAT_BITS" = some (.int (24) t)
  g_HELD_AT : ∃ t, mg "HELD_AT" = some (.int (16) t)
  g_LEAST_E : ∃ t, mg "LEAST_E" = some (.int (-200) t)
  g_LEAST_FLOAT_E : ∃ t, mg "LEAST_FLOAT_E" = some (.int (-20) t)
  g_LEAST_SAMPLE : ∃ t, mg "LEAST_SAMPLE" = some (.int (-32768) t)
  g_MOST_SAMPLE : ∃ t, mg "MOST_SAMPLE" = some (.int (32767) t)
  g_SAMPLE_BITS : ∃ t, mg "SAMPLE_BITS" = some (.int (15) t)
  g_STILL : ∃ t, mg "STILL" = some (.int (0) t)
  g_RISING : ∃ t, mg "RISING" = some (.int (1) t)
  g_FALLING : ∃ t, mg "FALLING" = some (.int (2) t)
  g_LET_GO : ∃ t, mg "LET_GO" = some (.int (3) t)
  g_FIRST_DRAW : ∃ t, mg "FIRST_DRAW" = some (.int (1) t)
  g_STILL_BELOW_E : ∃ t, mg "STILL_BELOW_E" = some (.int (-20) t)
  g_VOICE_COUNT : ∃ t, mg "VOICE_COUNT" = some (.int (8) t)
  g_MOST_ECHO : ∃ t, mg "MOST_ECHO" = some (.int (1024) t)
  g_MOST_PLAYED : ∃ t, mg "MOST_PLAYED" = some (.int (256) t)
  g_MOST_IN_ROW : ∃ t, mg "MOST_IN_ROW" = some (.int (512) t)
  g_OPENING : ∃ t, mg "OPENING" = some (.int (1) t)
  g_DONE : ∃ t, mg "DONE" = some (.int (0) t)
  g_NOT_AS_TOLD : ∃ t, mg "NOT_AS_TOLD" = some (.int (-2) t)
  g_NOTHING_OPEN : ∃ t, mg "NOTHING_OPEN" = some (.int (-7) t)
  b_abs : mg "abs" = none
  b_len : mg "len" = none
  b_max : mg "max" = none
  b_min : mg "min" = none
  b_range : mg "range" = none
  b_sum : mg "sum" = none
  b_zip : mg "zip" = none
  d_units_of : Def K mg "units_of" s_units_of ["z", "e"] a.f_units_of d.f_units_of
  d_nearest_whole : Def K mg "nearest_whole" s_nearest_whole ["number", "bits"] a.f_nearest_whole d.f_nearest_whole
  d_nearest_float : Def K mg "nearest_float" s_nearest_float ["exact", "finer"] a.f_nearest_float d.f_nearest_float
  d_plus : Def K mg "plus" s_plus ["a", "b"] a.f_plus d.f_plus
  d_minus : Def K mg "minus" s_minus ["a", "b"] a.f_minus d.f_minus
  d_times : Def K mg "times" s_times ["a", "b"] a.f_times d.f_times
  d_made_float : Def K mg "made_float" s_made_float ["whole"] a.f_made_float d.f_made_float
  d_held : Def K mg "held" s_held ["a"] a.f_held d.f_held
  d_told_float : Def K mg "told_float" s_told_float ["a"] a.f_told_float d.f_told_float
  d_whole_within : Def K mg "whole_within" s_whole_within ["number", "least", "most"] a.f_whole_within d.f_whole_within
  d_handed_float : Def K mg "handed_float" s_handed_float ["z", "e", "most"] a.f_handed_float d.f_handed_float
  d_side_echoed : Def K mg "side_echoed" s_side_echoed ["echo", "row", "x"] a.f_side_echoed d.f_side_echoed
  d_echoed : Def K mg "echoed" s_echoed ["echo", "left", "right"] a.f_echoed d.f_echoed
  d_within_16_bits : Def K mg "within_16_bits" s_within_16_bits ["whole"] a.f_within_16_bits d.f_within_16_bits
  d_in_16_bits : Def K mg "in_16_bits" s_in_16_bits ["x"] a.f_in_16_bits d.f_in_16_bits
  d_over_32768 : Def K mg "over_32768" s_over_32768 ["z"] a.f_over_32768 d.f_over_32768
  d_blended : Def K mg "blended" s_blended ["first", "second", "g"] a.f_blended d.f_blended
  d_risings : Def K mg "risings" s_risings ["samples"] a.f_risings d.f_risings
  d_measured : Def K mg "measured" s_measured ["samples"] a.f_measured d.f_measured
  d_rise : Def K mg "rise" s_rise ["voice"] a.f_rise d.f_rise
  d_fall : Def K mg "fall" s_fall ["voice"] a.f_fall d.f_fall
  d_die_away : Def K mg "die_away" s_die_away ["voice"] a.f_die_away d.f_die_away
  d_shape_goes_on : Def K mg "shape_goes_on" s_shape_goes_on ["voice"] a.f_shape_goes_on d.f_shape_goes_on
  d_part_of_turn : Def K mg "part_of_turn" s_part_of_turn ["bits"] a.f_part_of_turn d.f_part_of_turn
  d_falling_wave : Def K mg "falling_wave" s_falling_wave ["voice"] a.f_falling_wave d.f_falling_wave
  d_up_or_down_wave : Def K mg "up_or_down_wave" s_up_or_down_wave ["voice"] a.f_up_or_down_wave d.f_up_or_down_wave
  d_up_and_down_wave : Def K mg "up_and_down_wave" s_up_and_down_wave ["voice"] a.f_up_and_down_wave d.f_up_and_down_wave
  d_noise_wave : Def K mg "noise_wave" s_noise_wave ["voice"] a.f_noise_wave d.f_noise_wave
  d_filtered : Def K mg "filtered" s_filtered ["voice", "x"] a.f_filtered d.f_filtered
  d_within_32_bits : Def K mg "within_32_bits" s_within_32_bits ["number"] a.f_within_32_bits d.f_within_32_bits
  d_voice_sample : Def K mg "voice_sample" s_voice_sample ["voice"] a.f_voice_sample d.f_voice_sample
  d_sample_of_all : Def K mg "sample_of_all" s_sample_of_all ["voices", "echo"] a.f_sample_of_all d.f_sample_of_all
  d_voice_at : Def K mg "voice_at" s_voice_at ["desk", "k"] a.f_voice_at d.f_voice_at
  d_begin_anew : Def K mg "begin_anew" s_begin_anew ["desk", "numbers"] a.f_begin_anew d.f_begin_anew
  d_set_voice : Def K mg "set_voice" s_set_voice ["desk", "numbers"] a.f_set_voice d.f_set_voice
  d_set_filter : Def K mg "set_filter" s_set_filter ["desk", "numbers"] a.f_set_filter d.f_set_filter
  d_set_shape : Def K mg "set_shape" s_set_shape ["desk", "numbers"] a.f_set_shape d.f_set_shape
  d_turn_on : Def K mg "turn_on" s_turn_on ["desk", "numbers"] a.f_turn_on d.f_turn_on
  d_turn_off : Def K mg "turn_off" s_turn_off ["desk", "numbers"] a.f_turn_off d.f_turn_off
  d_set_echo : Def K mg "set_echo" s_set_echo ["desk", "numbers"] a.f_set_echo d.f_set_echo
  d_play : Def K mg "play" s_play ["desk", "numbers"] a.f_play d.f_play
  d_tell_voice : Def K mg "tell_voice" s_tell_voice ["desk", "numbers"] a.f_tell_voice d.f_tell_voice
  d_count_sounding : Def K mg "count_sounding" s_count_sounding ["desk", "numbers"] a.f_count_sounding d.f_count_sounding
  d_blend : Def K mg "blend" s_blend ["desk", "numbers"] a.f_blend d.f_blend
  d_measure : Def K mg "measure" s_measure ["desk", "numbers"] a.f_measure d.f_measure
  d_carry_out : Def K mg "carry_out" s_carry_out ["desk", "call", "numbers"] a.f_carry_out d.f_carry_out
  d_answer_to : Def K mg "answer_to" s_answer_to ["desk", "call", "numbers"] a.f_answer_to d.f_answer_to
  d_answers_at : Def K mg "answers_at" s_answers_at ["desk", "calls"] a.f_answers_at d.f_answers_at
  d_answers : Def K mg "answers" s_answers ["calls"] a.f_answers d.f_answers
  g_Echo : mg "Echo" = some (.ref a.c_Echo)
  cl_Echo : Cls K a.c_Echo
  m_Echo_init : MDef K a.c_Echo "__init__" "Echo.__init__" s_Echo_init ["self", "length", "feed", "heard"] a.f_Echo_init d.f_Echo_init
  mk_Echo : Mk K a.c_Echo a.f_Echo_init
  n_Echo_left_row : NoAttr K a.c_Echo "left_row"
  n_Echo_right_row : NoAttr K a.c_Echo "right_row"
  n_Echo_feed : NoAttr K a.c_Echo "feed"
  n_Echo_heard : NoAttr K a.c_Echo "heard"
  n_Echo_place : NoAttr K a.c_Echo "place"
  g_Voice : mg "Voice" = some (.ref a.c_Voice)
  cl_Voice : Cls K a.c_Voice
  m_Voice_init : MDef K a.c_Voice "__init__" "Voice.__init__" s_Voice_init ["self"] a.f_Voice_init d.f_Voice_init
  mk_Voice : Mk K a.c_Voice a.f_Voice_init
  n_Voice_wave : NoAttr K a.c_Voice "wave"
  n_Voice_width : NoAttr K a.c_Voice "width"
  n_Voice_level : NoAttr K a.c_Voice "level"
  n_Voice_left : NoAttr K a.c_Voice "left"
  n_Voice_right : NoAttr K a.c_Voice "right"
  n_Voice_mode : NoAttr K a.c_Voice "mode"
  n_Voice_cut : NoAttr K a.c_Voice "cut"
  n_Voice_damp : NoAttr K a.c_Voice "damp"
  n_Voice_rise : NoAttr K a.c_Voice "rise"
  n_Voice_fall : NoAttr K a.c_Voice "fall"
  n_Voice_keep : NoAttr K a.c_Voice "keep"
  n_Voice_go : NoAttr K a.c_Voice "go"
  n_Voice_phase : NoAttr K a.c_Voice "phase"
  n_Voice_draw : NoAttr K a.c_Voice "draw"
  n_Voice_step : NoAttr K a.c_Voice "step"
  n_Voice_low : NoAttr K a.c_Voice "low"
  n_Voice_band : NoAttr K a.c_Voice "band"
  n_Voice_stage : NoAttr K a.c_Voice "stage"
  n_Voice_env : NoAttr K a.c_Voice "env"
  g_Desk : mg "Desk" = some (.ref a.c_Desk)
  cl_Desk : Cls K a.c_Desk
  m_Desk_init : MDef K a.c_Desk "__init__" "Desk.__init__" s_Desk_init ["self"] a.f_Desk_init d.f_Desk_init
  mk_Desk : Mk K a.c_Desk a.f_Desk_init
  n_Desk_voices : NoAttr K a.c_Desk "voices"
  n_Desk_echo : NoAttr K a.c_Desk "echo"
  e_NotAsTold : Exc K mg "NotAsTold" a.c_NotAsTold
  ex_NotAsTold_NotAsTold : PySem.W.exmOne K (.ref a.c_NotAsTold) (.ref a.c_NotAsTold) = some true
  ex_NotAsTold_NothingOpen : PySem.W.exmOne K (.ref a.c_NotAsTold) (.ref a.c_NothingOpen) = some false
  e_NothingOpen : Exc K mg "NothingOpen" a.c_NothingOpen
  ex_NothingOpen_NotAsTold : PySem.W.exmOne K (.ref a.c_NothingOpen) (.ref a.c_NotAsTold) = some false
  ex_NothingOpen_NothingOpen : PySem.W.exmOne K (.ref a.c_NothingOpen) (.ref a.c_NothingOpen) = some true
  g_ACTIONS : mg "ACTIONS" = some (.ref a.o_ACTIONS)
  l_ACTIONS : ∃ (es : Array DictEntry) (n : Nat), K.lookup a.o_ACTIONS = some ⟨.type "dict", none, .dict es n, #[]⟩ ∧ KeysInt es.toList ∧ findBy Value.isInt es 1 = some (.ref a.f_begin_anew) ∧ findBy Value.isInt es 2 = some (.ref a.f_set_voice) ∧ findBy Value.isInt es 3 = some (.ref a.f_set_filter) ∧ findBy Value.isInt es 4 = some (.ref a.f_set_shape) ∧ findBy Value.isInt es 5 = some (.ref a.f_turn_on) ∧ findBy Value.isInt es 6 = some (.ref a.f_turn_off) ∧ findBy Value.isInt es 7 = some (.ref a.f_set_echo) ∧ findBy Value.isInt es 8 = some (.ref a.f_play) ∧ findBy Value.isInt es 9 = some (.ref a.f_tell_voice) ∧ findBy Value.isInt es 10 = some (.ref a.f_count_sounding) ∧ findBy Value.isInt es 11 = some (.ref a.f_blend) ∧ findBy Value.isInt es 12 = some (.ref a.f_measure)
  g_WAVES : mg "WAVES" = some (.ref a.o_WAVES)
  l_WAVES : ∃ (o : Obj) (its : Array Value) (n : Nat), K.lookup a.o_WAVES = some o ∧ o.cls = .type "tuple" ∧ o.data = .seq its n ∧ its.size ≤ sizeLine ∧ Vals [V.ref a.f_falling_wave, V.ref a.f_up_or_down_wave, V.ref a.f_up_and_down_wave, V.ref a.f_noise_wave] its.toList
end VS

set_option Elab.async false
set_option maxRecDepth 100000
set_option maxHeartbeats 4000000
namespace VS
open PySem PySem.Spec PyProof.Rows L2
theorem lk_here {k : Str} {v : V} {r : List (Str × V)} : List.lookup k ((k, v) :: r) = some v := by
  have e : (k == k) = true := beq_self_eq_true k
  simp only [List.lookup, e]
theorem lk_past {k g : Str} {v : V} {r : List (Str × V)} (h : (k == g) = false) : List.lookup k ((g, v) :: r) = List.lookup k r := by
  simp only [List.lookup, h]
theorem put_here {f : Str} {v x : V} {r : List (Str × V)} : putF f v ((f, x) :: r) = (f, v) :: r := if_pos rfl
theorem put_past {f g : Str} {v x : V} {r : List (Str × V)} (h : ¬ g = f) : putF f v ((g, x) :: r) = (g, x) :: putF f v r := if_neg h
def vF (i : IV) : List (Str × V) := [("wave", .int (i.wave : Int)), ("width", .int (i.width : Int)), ("level", .int i.level), ("left", .int i.left), ("right", .int i.right), ("mode", .int (i.mode : Int)), ("cut", .int i.cut), ("damp", .int i.damp), ("rise", .int i.rise), ("fall", .int i.fall), ("keep", .int i.keep), ("go", .int i.go), ("phase", .int (i.phase : Int)), ("draw", .int (i.draw : Int)), ("step", .int (i.step : Int)), ("low", .int i.low), ("band", .int i.band), ("stage", .int (i.stage : Int)), ("env", .int i.env)]
theorem vF_wave (i : IV) : (vF i).lookup ("wave" : Str) = some (.int (i.wave : Int)) := lk_here
theorem vF_width (i : IV) : (vF i).lookup ("width" : Str) = some (.int (i.width : Int)) := (lk_past (by decide +kernel)).trans (lk_here)
theorem vF_level (i : IV) : (vF i).lookup ("level" : Str) = some (.int i.level) := (lk_past (by decide +kernel)).trans ((lk_past (by decide +kernel)).trans (lk_here))
theorem vF_left (i : IV) : (vF i).lookup ("left" : Str) = some (.int i.left) := (lk_past (by decide +kernel)).trans ((lk_past (by decide +kernel)).trans ((lk_past (by decide +kernel)).trans (lk_here)))
theorem vF_right (i : IV) : (vF i).lookup ("right" : Str) = some (.int i.right) := (lk_past (by decide +kernel)).trans ((lk_past (by decide +kernel)).trans ((lk_past (by decide +kernel)).trans ((lk_past (by decide +kernel)).trans (lk_here))))
theorem vF_mode (i : IV) : (vF i).lookup ("mode" : Str) = some (.int (i.mode : Int)) := (lk_past (by decide +kernel)).trans ((lk_past (by decide +kernel)).trans ((lk_past (by decide +kernel)).trans ((lk_past (by decide +kernel)).trans ((lk_past (by decide +kernel)).trans (lk_here)))))
theorem vF_cut (i : IV) : (vF i).lookup ("cut" : Str) = some (.int i.cut) := (lk_past (by decide +kernel)).trans ((lk_past (by decide +kernel)).trans ((lk_past (by decide +kernel)).trans ((lk_past (by decide +kernel)).trans ((lk_past (by decide +kernel)).trans ((lk_past (by decide +kernel)).trans (lk_here))))))
theorem vF_damp (i : IV) : (vF i).lookup ("damp" : Str) = some (.int i.damp) := (lk_past (by decide +kernel)).trans ((lk_past (by decide +kernel)).trans ((lk_past (by decide +kernel)).trans ((lk_past (by decide +kernel)).trans ((lk_past (by decide +kernel)).trans ((lk_past (by decide +kernel)).trans ((lk_past (by decide +kernel)).trans (lk_here)))))))
theorem vF_rise (i : IV) : (vF i).lookup ("rise" : Str) = some (.int i.rise) := (lk_past (by decide +kernel)).trans ((lk_past (by decide +kernel)).trans ((lk_past (by decide +kernel)).trans ((lk_past (by decide +kernel)).trans ((lk_past (by decide +kernel)).trans ((lk_past (by decide +kernel)).trans ((lk_past (by decide +kernel)).trans ((lk_past (by decide +kernel)).trans (lk_here))))))))
theorem vF_fall (i : IV) : (vF i).lookup ("fall" : Str) = some (.int i.fall) := (lk_past (by decide +kernel)).trans ((lk_past (by decide +kernel)).trans ((lk_past (by decide +kernel)).trans ((lk_past (by decide +kernel)).trans ((lk_past (by decide +kernel)).trans ((lk_past (by decide +kernel)).trans ((lk_past (by decide +kernel)).trans ((lk_past (by decide +kernel)).trans ((lk_past (by decide +kernel)).trans (lk_here)))))))))
theorem vF_keep (i : IV) : (vF i).lookup ("keep" : Str) = some (.int i.keep) := (lk_past (by decide +kernel)).trans ((lk_past (by decide +kernel)).trans ((lk_past (by decide +kernel)).trans ((lk_past (by decide +kernel)).trans ((lk_past (by decide +kernel)).trans ((lk_past (by decide +kernel)).trans ((lk_past (by decide +kernel)).trans ((lk_past (by decide +kernel)).trans ((lk_past (by decide +kernel)).trans ((lk_past (by decide +kernel)).trans (lk_here))))))))))
theorem vF_go (i : IV) : (vF i).lookup ("go" : Str) = some (.int i.go) := (lk_past (by decide +kernel)).trans ((lk_past (by decide +kernel)).trans ((lk_past (by decide +kernel)).trans ((lk_past (by decide +kernel)).trans ((lk_past (by decide +kernel)).trans ((lk_past (by decide +kernel)).trans ((lk_past (by decide +kernel)).trans ((lk_past (by decide +kernel)).trans ((lk_past (by decide +kernel)).trans ((lk_past (by decide +kernel)).trans ((lk_past (by decide +kernel)).trans (lk_here)))))))))))
theorem vF_phase (i : IV) : (vF i).lookup ("phase" : Str) = some (.int (i.phase : Int)) := (lk_past (by decide +kernel)).trans ((lk_past (by decide +kernel)).trans ((lk_past (by decide +kernel)).trans ((lk_past (by decide +kernel)).trans ((lk_past (by decide +kernel)).trans ((lk_past (by decide +kernel)).trans ((lk_past (by decide +kernel)).trans ((lk_past (by decide +kernel)).trans ((lk_past (by decide +kernel)).trans ((lk_past (by decide +kernel)).trans ((lk_past (by decide +kernel)).trans ((lk_past (by decide +kernel)).trans (lk_here))))))))))))
theorem vF_draw (i : IV) : (vF i).lookup ("draw" : Str) = some (.int (i.draw : Int)) := (lk_past (by decide +kernel)).trans ((lk_past (by decide +kernel)).trans ((lk_past (by decide +kernel)).trans ((lk_past (by decide +kernel)).trans ((lk_past (by decide +kernel)).trans ((lk_past (by decide +kernel)).trans ((lk_past (by decide +kernel)).trans ((lk_past (by decide +kernel)).trans ((lk_past (by decide +kernel)).trans ((lk_past (by decide +kernel)).trans ((lk_past (by decide +kernel)).trans ((lk_past (by decide +kernel)).trans ((lk_past (by decide +kernel)).trans (lk_here)))))))))))))
theorem vF_step (i : IV) : (vF i).lookup ("step" : Str) = some (.int (i.step : Int)) := (lk_past (by decide +kernel)).trans ((lk_past (by decide +kernel)).trans ((lk_past (by decide +kernel)).trans ((lk_past (by decide +kernel)).trans ((lk_past (by decide +kernel)).trans ((lk_past (by decide +kernel)).trans ((lk_past (by decide +kernel)).trans ((lk_past (by decide +kernel)).trans ((lk_past (by decide +kernel)).trans ((lk_past (by decide +kernel)).trans ((lk_past (by decide +kernel)).trans ((lk_past (by decide +kernel)).trans ((lk_past (by decide +kernel)).trans ((lk_past (by decide +kernel)).trans (lk_here))))))))))))))
theorem vF_low (i : IV) : (vF i).lookup ("low" : Str) = some (.int i.low) := (lk_past (by decide +kernel)).trans ((lk_past (by decide +kernel)).trans ((lk_past (by decide +kernel)).trans ((lk_past (by decide +kernel)).trans ((lk_past (by decide +kernel)).trans ((lk_past (by decide +kernel)).trans ((lk_past (by decide +kernel)).trans ((lk_past (by decide +kernel)).trans ((lk_past (by decide +kernel)).trans ((lk_past (by decide +kernel)).trans ((lk_past (by decide +kernel)).trans ((lk_past (by decide +kernel)).trans ((lk_past (by decide +kernel)).trans ((lk_past (by decide +kernel)).trans ((lk_past (by decide +kernel)).trans (lk_here)))))))))))))))
theorem vF_band (i : IV) : (vF i).lookup ("band" : Str) = some (.int i.band) := (lk_past (by decide +kernel)).trans ((lk_past (by decide +kernel)).trans ((lk_past (by decide +kernel)).trans ((lk_past (by decide +kernel)).trans ((lk_past (by decide +kernel)).trans ((lk_past (by decide +kernel)).trans ((lk_past (by decide +kernel)).trans ((lk_past (by decide +kernel)).trans ((lk_past (by decide +kernel)).trans ((lk_past (by decide +kernel)).trans ((lk_past (by decide +kernel)).trans ((lk_past (by decide +kernel)).trans ((lk_past (by decide +kernel)).trans ((lk_past (by decide +kernel)).trans ((lk_past (by decide +kernel)).trans ((lk_past (by decide +kernel)).trans (lk_here))))))))))))))))
theorem vF_stage (i : IV) : (vF i).lookup ("stage" : Str) = some (.int (i.stage : Int)) := (lk_past (by decide +kernel)).trans ((lk_past (by decide +kernel)).trans ((lk_past (by decide +kernel)).trans ((lk_past (by decide +kernel)).trans ((lk_past (by decide +kernel)).trans ((lk_past (by decide +kernel)).trans ((lk_past (by decide +kernel)).trans ((lk_past (by decide +kernel)).trans ((lk_past (by decide +kernel)).trans ((lk_past (by decide +kernel)).trans ((lk_past (by decide +kernel)).trans ((lk_past (by decide +kernel)).trans ((lk_past (by decide +kernel)).trans ((lk_past (by decide +kernel)).trans ((lk_past (by decide +kernel)).trans ((lk_past (by decide +kernel)).trans ((lk_past (by decide +kernel)).trans (lk_here)))))))))))))))))
theorem vF_env (i : IV) : (vF i).lookup ("env" : Str) = some (.int i.env) := (lk_past (by decide +kernel)).trans ((lk_past (by decide +kernel)).trans ((lk_past (by decide +kernel)).trans ((lk_past (by decide +kernel)).trans ((lk_past (by decide +kernel)).trans ((lk_past (by decide +kernel)).trans ((lk_past (by decide +kernel)).trans ((lk_past (by decide +kernel)).trans ((lk_past (by decide +kernel)).trans ((lk_past (by decide +kernel)).trans ((lk_past (by decide +kernel)).trans ((lk_past (by decide +kernel)).trans ((lk_past (by decide +kernel)).trans ((lk_past (by decide +kernel)).trans ((lk_past (by decide +kernel)).trans ((lk_past (by decide +kernel)).trans ((lk_past (by decide +kernel)).trans ((lk_past (by decide +kernel)).trans (lk_here))))))))))))))))))
theorem vP_wave (i : IV) (x : Nat) : putF "wave" (.int (x : Int)) (vF i) = vF { i with wave := x } := put_here
theorem vP_width (i : IV) (x : Nat) : putF "width" (.int (x : Int)) (vF i) = vF { i with width := x } := (put_past (by decide +kernel)).trans (congrArg _ (put_here))
theorem vP_level (i : IV) (x : Int) : putF "level" (.int x) (vF i) = vF { i with level := x } := (put_past (by decide +kernel)).trans (congrArg _ ((put_past (by decide +kernel)).trans (congrArg _ (put_here))))
theorem vP_left (i : IV) (x : Int) : putF "left" (.int x) (vF i) = vF { i with left := x } := (put_past (by decide +kernel)).trans (congrArg _ ((put_past (by decide +kernel)).trans (congrArg _ ((put_past (by decide +kernel)).trans (congrArg _ (put_here))))))
theorem vP_right (i : IV) (x : Int) : putF "right" (.int x) (vF i) = vF { i with right := x } := (put_past (by decide +kernel)).trans (congrArg _ ((put_past (by decide +kernel)).trans (congrArg _ ((put_past (by decide +kernel)).trans (congrArg _ ((put_past (by decide +kernel)).trans (congrArg _ (put_here))))))))
theorem vP_mode (i : IV) (x : Nat) : putF "mode" (.int (x : Int)) (vF i) = vF { i with mode := x } := (put_past (by decide +kernel)).trans (congrArg _ ((put_past (by decide +kernel)).trans (congrArg _ ((put_past (by decide +kernel)).trans (congrArg _ ((put_past (by decide +kernel)).trans (congrArg _ ((put_past (by decide +kernel)).trans (congrArg _ (put_here))))))))))
theorem vP_cut (i : IV) (x : Int) : putF "cut" (.int x) (vF i) = vF { i with cut := x } := (put_past (by decide +kernel)).trans (congrArg _ ((put_past (by decide +kernel)).trans (congrArg _ ((put_past (by decide +kernel)).trans (congrArg _ ((put_past (by decide +kernel)).trans (congrArg _ ((put_past (by decide +kernel)).trans (congrArg _ ((put_past (by decide +kernel)).trans (congrArg _ (put_here))))))))))))
theorem vP_damp (i : IV) (x : Int) : putF "damp" (.int x) (vF i) = vF { i with damp := x } := (put_past (by decide +kernel)).trans (congrArg _ ((put_past (by decide +kernel)).trans (congrArg _ ((put_past (by decide +kernel)).trans (congrArg _ ((put_past (by decide +kernel)).trans (congrArg _ ((put_past (by decide +kernel)).trans (congrArg _ ((put_past (by decide +kernel)).trans (congrArg _ ((put_past (by decide +kernel)).trans (congrArg _ (put_here))))))))))))))
theorem vP_rise (i : IV) (x : Int) : putF "rise" (.int x) (vF i) = vF { i with rise := x } := (put_past (by decide +kernel)).trans (congrArg _ ((put_past (by decide +kernel)).trans (congrArg _ ((put_past (by decide +kernel)).trans (congrArg _ ((put_past (by decide +kernel)).trans (congrArg _ ((put_past (by decide +kernel)).trans (congrArg _ ((put_past (by decide +kernel)).trans (congrArg _ ((put_past (by decide +kernel)).trans (congrArg _ ((put_past (by decide +kernel)).trans (congrArg _ (put_here))))))))))))))))
theorem vP_fall (i : IV) (x : Int) : putF "fall" (.int x) (vF i) = vF { i with fall := x } := (put_past (by decide +kernel)).trans (congrArg _ ((put_past (by decide +kernel)).trans (congrArg _ ((put_past (by decide +kernel)).trans (congrArg _ ((put_past (by decide +kernel)).trans (congrArg _ ((put_past (by decide +kernel)).trans (congrArg _ ((put_past (by decide +kernel)).trans (congrArg _ ((put_past (by decide +kernel)).trans (congrArg _ ((put_past (by decide +kernel)).trans (congrArg _ ((put_past (by decide +kernel)).trans (congrArg _ (put_here))))))))))))))))))
theorem vP_keep (i : IV) (x : Int) : putF "keep" (.int x) (vF i) = vF { i with keep := x } := (put_past (by decide +kernel)).trans (congrArg _ ((put_past (by decide +kernel)).trans (congrArg _ ((put_past (by decide +kernel)).trans (congrArg _ ((put_past (by decide +kernel)).trans (congrArg _ ((put_past (by decide +kernel)).trans (congrArg _ ((put_past (by decide +kernel)).trans (congrArg _ ((put_past (by decide +kernel)).trans (congrArg _ ((put_past (by decide +kernel)).trans (congrArg _ ((put_past (by decide +kernel)).trans (congrArg _ ((put_past (by decide +kernel)).trans (congrArg _ (put_here))))))))))))))))))))
theorem vP_go (i : IV) (x : Int) : putF "go" (.int x) (vF i) = vF { i with go := x } := (put_past (by decide +kernel)).trans (congrArg _ ((put_past (by decide +kernel)).trans (congrArg _ ((put_past (by decide +kernel)).trans (congrArg _ ((put_past (by decide +kernel)).trans (congrArg _ ((put_past (by decide +kernel)).trans (congrArg _ ((put_past (by decide +kernel)).trans (congrArg _ ((put_past (by decide +kernel)).trans (congrArg _ ((put_past (by decide +kernel)).trans (congrArg _ ((put_past (by decide +kernel)).trans (congrArg _ ((put_past (by decide +kernel)).trans (congrArg _ ((put_past (by decide +kernel)).trans (congrArg _ (put_here))))))))))))))))))))))
theorem vP_phase (i : IV) (x : Nat) : putF "phase" (.int (x : Int)) (vF i) = vF { i with phase := x } := (put_past (by decide +kernel)).trans (congrArg _ ((put_past (by decide +kernel)).trans (congrArg _ ((put_past (by decide +kernel)).trans (congrArg _ ((put_past (by decide +kernel)).trans (congrArg _ ((put_past (by decide +kernel)).trans (congrArg _ ((put_past (by decide +kernel)).trans (congrArg _ ((put_past (by decide +kernel)).trans (congrArg _ ((put_past (by decide +kernel)).trans (congrArg _ ((put_past (by decide +kernel)).trans (congrArg _ ((put_past (by decide +kernel)).trans (congrArg _ ((put_past (by decide +kernel)).trans (congrArg _ ((put_past (by decide +kernel)).trans (congrArg _ (put_here))))))))))))))))))))))))
theorem vP_draw (i : IV) (x : Nat) : putF "draw" (.int (x : Int)) (vF i) = vF { i with draw := x } := (put_past (by decide +kernel)).trans (congrArg _ ((put_past (by decide +kernel)).trans (congrArg _ ((put_past (by decide +kernel)).trans (congrArg _ ((put_past (by decide +kernel)).trans (congrArg _ ((put_past (by decide +kernel)).trans (congrArg _ ((put_past (by decide +kernel)).trans (congrArg _ ((put_past (by decide +kernel)).trans (congrArg _ ((put_past (by decide +kernel)).trans (congrArg _ ((put_past (by decide +kernel)).trans (congrArg _ ((put_past (by decide +kernel)).trans (congrArg _ ((put_past (by decide +kernel)).trans (congrArg _ ((put_past (by decide +kernel)).trans (congrArg _ ((put_past (by decide +kernel)).trans (congrArg _ (put_here))))))))))))))))))))))))))
theorem vP_step (i : IV) (x : Nat) : putF "step" (.int (x : Int)) (vF i) = vF { i with step := x } := (put_past (by decide +kernel)).trans (congrArg _ ((put_past (by decide +kernel)).trans (congrArg _ ((put_past (by decide +kernel)).trans (congrArg _ ((put_past (by decide +kernel)).trans (congrArg _ ((put_past (by decide +kernel)).trans (congrArg _ ((put_past (by decide +kernel)).trans (congrArg _ ((put_past (by decide +kernel)).trans (congrArg _ ((put_past (by decide +kernel)).trans (congrArg _ ((put_past (by decide +kernel)).trans (congrArg _ ((put_past (by decide +kernel)).trans (congrArg _ ((put_past (by decide +kernel)).trans (congrArg _ ((put_past (by decide +kernel)).trans (congrArg _ ((put_past (by decide +kernel)).trans (congrArg _ ((put_past (by decide +kernel)).trans (congrArg _ (put_here))))))))))))))))))))))))))))
theorem vP_low (i : IV) (x : Int) : putF "low" (.int x) (vF i) = vF { i with low := x } := (put_past (by decide +kernel)).trans (congrArg _ ((put_past (by decide +kernel)).trans (congrArg _ ((put_past (by decide +kernel)).trans (congrArg _ ((put_past (by decide +kernel)).trans (congrArg _ ((put_past (by decide +kernel)).trans (congrArg _ ((put_past (by decide +kernel)).trans (congrArg _ ((put_past (by decide +kernel)).trans (congrArg _ ((put_past (by decide +kernel)).trans (congrArg _ ((put_past (by decide +kernel)).trans (congrArg _ ((put_past (by decide +kernel)).trans (congrArg _ ((put_past (by decide +kernel)).trans (congrArg _ ((put_past (by decide +kernel)).trans (congrArg _ ((put_past (by decide +kernel)).trans (congrArg _ ((put_past (by decide +kernel)).trans (congrArg _ ((put_past (by decide +kernel)).trans (congrArg _ (put_here))))))))))))))))))))))))))))))
theorem vP_band (i : IV) (x : Int) : putF "band" (.int x) (vF i) = vF { i with band := x } := (put_past (by decide +kernel)).trans (congrArg _ ((put_past (by decide +kernel)).trans (congrArg _ ((put_past (by decide +kernel)).trans (congrArg _ ((put_past (by decide +kernel)).trans (congrArg _ ((put_past (by decide +kernel)).trans (congrArg _ ((put_past (by decide +kernel)).trans (congrArg _ ((put_past (by decide +kernel)).trans (congrArg _ ((put_past (by decide +kernel)).trans (congrArg _ ((put_past (by decide +kernel)).trans (congrArg _ ((put_past (by decide +kernel)).trans (congrArg _ ((put_past (by decide +kernel)).trans (congrArg _ ((put_past (by decide +kernel)).trans (congrArg _ ((put_past (by decide +kernel)).trans (congrArg _ ((put_past (by decide +kernel)).trans (congrArg _ ((put_past (by decide +kernel)).trans (congrArg _ ((put_past (by decide +kernel)).trans (congrArg _ (put_here))))))))))))))))))))))))))))))))
theorem vP_stage (i : IV) (x : Nat) : putF "stage" (.int (x : Int)) (vF i) = vF { i with stage := x } := (put_past (by decide +kernel)).trans (congrArg _ ((put_past (by decide +kernel)).trans (congrArg _ ((put_past (by decide +kernel)).trans (congrArg _ ((put_past (by decide +kernel)).trans (congrArg _ ((put_past (by decide +kernel)).trans (congrArg _ ((put_past (by decide +kernel)).trans (congrArg _ ((put_past (by decide +kernel)).trans (congrArg _ ((put_past (by decide +kernel)).trans (congrArg _ ((put_past (by decide +kernel)).trans (congrArg _ ((put_past (by decide +kernel)).trans (congrArg _ ((put_past (by decide +kernel)).trans (congrArg _ ((put_past (by decide +kernel)).trans (congrArg _ ((put_past (by decide +kernel)).trans (congrArg _ ((put_past (by decide +kernel)).trans (congrArg _ ((put_past (by decide +kernel)).trans (congrArg _ ((put_past (by decide +kernel)).trans (congrArg _ ((put_past (by decide +kernel)).trans (congrArg _ (put_here))))))))))))))))))))))))))))))))))
theorem vP_env (i : IV) (x : Int) : putF "env" (.int x) (vF i) = vF { i with env := x } := (put_past (by decide +kernel)).trans (congrArg _ ((put_past (by decide +kernel)).trans (congrArg _ ((put_past (by decide +kernel)).trans (congrArg _ ((put_past (by decide +kernel)).trans (congrArg _ ((put_past (by decide +kernel)).trans (congrArg _ ((put_past (by decide +kernel)).trans (congrArg _ ((put_past (by decide +kernel)).trans (congrArg _ ((put_past (by decide +kernel)).trans (congrArg _ ((put_past (by decide +kernel)).trans (congrArg _ ((put_past (by decide +kernel)).trans (congrArg _ ((put_past (by decide +kernel)).trans (congrArg _ ((put_past (by decide +kernel)).trans (congrArg _ ((put_past (by decide +kernel)).trans (congrArg _ ((put_past (by decide +kernel)).trans (congrArg _ ((put_past (by decide +kernel)).trans (congrArg _ ((put_past (by decide +kernel)).trans (congrArg _ ((put_past (by decide +kernel)).trans (congrArg _ ((put_past (by decide +kernel)).trans (congrArg _ (put_here))))))))))))))))))))))))))))))))))))
end VS

set_option Elab.async false
set_option maxRecDepth 100000
set_option maxHeartbeats 4000000
namespace VS
open PySem PySem.Spec PyProof.Rows L2

/-! ### How the desk lies in the heap -/
def VoiceAt (C : Addr) (H : Hp) (p : Addr) (i : IV) : Prop := ∃ dx, H p = some (.ins C dx (vF i))
/-- the fields of an echo; where its rows stand, its first place -/
def eF (lr rr : Addr) (feed heard : Int) (pl : Nat) : List (Str × V) := [("left_row", .ref lr), ("right_row", .ref rr), ("feed", .int feed), ("heard", .int heard), ("place", .int (pl : Int))]
/-- the same of all but x -/
def Keeps (H : Hp) (x : Addr) (H' : Hp) : Prop := ∀ b o, H b = some o → b ≠ x → H' b = some o
/-- what was there is there -/
def More (H H' : Hp) : Prop := ∀ b o, H b = some o → H' b = some o
theorem Keeps.refl {H : Hp} {x : Addr} : Keeps H x H := fun _ _ e _ => e
theorem Keeps.trans {H H1 H2 : Hp} {x : Addr} (f : Keeps H x H1) (g : Keeps H1 x H2) : Keeps H x H2 := fun b o e n => g b o (f b o e n) n
theorem Keeps.put {H H1 : Hp} {x : Addr} {o : HO} (f : Keeps H x H1) : Keeps H x (upd H1 x o) := fun b u e n => by rw [upd_ne n]; exact f b u e n
theorem Keeps.new {H H1 : Hp} {x t : Addr} {o : HO} (f : Keeps H x H1) (ht : H1 t = none) : Keeps H x (upd H1 t o) := fun b u e n => by
  have e1 := f b u e n
  rw [upd_ne (ne_of_none e1 ht)]
  exact e1
theorem More.refl {H : Hp} : More H H := fun _ _ e => e
theorem More.trans {H H1 H2 : Hp} (f : More H H1) (g : More H1 H2) : More H H2 := fun b o e => g b o (f b o e)
theorem More.new {H H1 : Hp} {t : Addr} {o : HO} (f : More H H1) (ht : H1 t = none) : More H (upd H1 t o) := fun b u e => by
  have e1 := f b u e
  rw [upd_ne (ne_of_none e1 ht)]
  exact e1
theorem More.none {H H1 : Hp} {t : Addr} (f : More H H1) (ht : H1 t = none) : H t = none := by
  cases e : H t with
  | none => rfl
  | some o => rw [f t o e] at ht; cases ht
theorem More.keeps {H H1 : Hp} {x : Addr} (f : More H H1) : Keeps H x H1 := fun b o e _ => f b o e
theorem ins_ne {H : Hp} {p q C D dx dy : Addr} {fs gs : List (Str × V)} (h : H p = some (.ins C dx fs)) (g : H q = some (.ins D dy gs)) (n : fs.length ≠ gs.length) : p ≠ q := by
  intro e
  rw [e, g] at h
  cases h
  exact n rfl
theorem lst_ne {H : Hp} {p q C dx : Addr} {fs : List (Str × V)} {xs : List V} (h : H p = some (.ins C dx fs)) (g : H q = some (.lst xs)) : p ≠ q := by
  intro e
  rw [e, g] at h
  cases h
theorem lst_lst {H : Hp} {p : Addr} {xs ys : List V} (h : H p = some (.lst xs)) (g : H p = some (.lst ys)) : xs = ys := by
  rw [h] at g
  cases g
  rfl
/-- an echo: its rows go round -/
structure EchoAt (C : Addr) (H : Hp) (e lr rr : Addr) (L R : List Int) (pl : Nat) (h : IH) : Prop where
  obj : ∃ dx, H e = some (.ins C dx (eF lr rr h.feed h.heard pl))
  left : H lr = some (.lst (L.map V.int))
  right : H rr = some (.lst (R.map V.int))
  ne : lr ≠ rr
  same : L.length = R.length
  place : pl < L.length ∨ (pl = 0 ∧ L = [])
  isL : ring L pl = h.left
  isR : ring R pl = h.right
/-- the voices that a list holds -/
structure VoicesAt (C : Addr) (H : Hp) (lv : Addr) (vas : List Addr) (l : List IV) : Prop where
  lst : H lv = some (.lst (vas.map V.ref))
  len : vas.length = l.length
  nd : vas.Nodup
  at_ : ∀ (k : Nat) (x : Addr) (i : IV), vas[k]? = some x → l[k]? = some i → VoiceAt C H x i
/-- what sounds: voices and echo; N is its own -/
structure SoundAt (a : Ad) (H : Hp) (lv e : Addr) (N : Addr → Prop) (h : IH) : Prop where
  ex : ∃ (vas : List Addr) (lr rr : Addr) (L R : List Int) (pl : Nat), VoicesAt a.c_Voice H lv vas h.voices ∧ EchoAt a.c_Echo H e lr rr L R pl h ∧ N lv ∧ (∀ x ∈ vas, N x) ∧ N e ∧ N lr ∧ N rr ∧ lv ≠ lr ∧ lv ≠ rr
  live : ∀ b, N b → ∃ o, H b = some o
/-- p: a desk (none: nothing is open); all that is its own lies in M -/
structure At (a : Ad) (H : Hp) (p : Addr) (M : Addr → Prop) (m : Option IH) : Prop where
  ex : ∃ (dd lv e : Addr), H p = some (.ins a.c_Desk dd [("voices", .ref lv), ("echo", .ref e)]) ∧
    (m = none → H lv = some (.lst []) ∧ M lv) ∧ (∀ h, m = some h → ∃ N : Addr → Prop, SoundAt a H lv e N h ∧ ¬ N p ∧ ∀ b, N b → M b)
  own : M p
  live : ∀ b, M b → ∃ o, H b = some o
def Frame (H : Hp) (M : Addr → Prop) (H' : Hp) (M' : Addr → Prop) : Prop := ∀ b o, H b = some o → ¬ M b → H' b = some o ∧ ¬ M' b
theorem Frame.refl {H : Hp} {M : Addr → Prop} : Frame H M H M := fun _ _ h n => ⟨h, n⟩
theorem Frame.trans {H H1 H2 : Hp} {M M1 M2 : Addr → Prop} (f : Frame H M H1 M1) (g : Frame H1 M1 H2 M2) : Frame H M H2 M2 := fun b o h n => g b o (f b o h n).1 (f b o h n).2
theorem VoicesAt.keep {C : Addr} {H H' : Hp} {lv : Addr} {vas : List Addr} {l : List IV} (h : VoicesAt C H lv vas l) (N : Addr → Prop) (n1 : N lv) (n2 : ∀ x ∈ vas, N x) (k : ∀ b o, N b → H b = some o → H' b = some o) : VoicesAt C H' lv vas l := by
  refine ⟨k _ _ n1 h.lst, h.len, h.nd, fun j x i hx hi => ?_⟩
  obtain ⟨dx, ex⟩ := h.at_ j x i hx hi
  exact ⟨dx, k _ _ (n2 x (List.mem_of_getElem? hx)) ex⟩
theorem EchoAt.keep {C : Addr} {H H' : Hp} {e lr rr : Addr} {L R : List Int} {pl : Nat} {h : IH} (g : EchoAt C H e lr rr L R pl h) (k : ∀ b o, b = e ∨ b = lr ∨ b = rr → H b = some o → H' b = some o) : EchoAt C H' e lr rr L R pl h := by
  obtain ⟨dx, ex⟩ := g.obj
  exact ⟨⟨dx, k _ _ (Or.inl rfl) ex⟩, k _ _ (Or.inr (Or.inl rfl)) g.left, k _ _ (Or.inr (Or.inr rfl)) g.right, g.ne, g.same, g.place, g.isL, g.isR⟩
theorem SoundAt.keep {a : Ad} {H H' : Hp} {lv e : Addr} {N : Addr → Prop} {h : IH} (g : SoundAt a H lv e N h) (k : ∀ b o, N b → H b = some o → H' b = some o) : SoundAt a H' lv e N h := by
  obtain ⟨vas, lr, rr, L, R, pl, gv, ge, n1, n2, n3, n4, n5, n6, n7⟩ := g.ex
  refine ⟨⟨vas, lr, rr, L, R, pl, gv.keep N n1 n2 k, ge.keep fun b o hb => k b o ?_, n1, n2, n3, n4, n5, n6, n7⟩, fun b nb => ?_⟩
  · rcases hb with rfl | rfl | rfl <;> assumption
  · obtain ⟨o, eo⟩ := g.live b nb
    exact ⟨o, k b o nb eo⟩
/-- what is not the desk's own may change -/
theorem At.keep {a : Ad} {H H' : Hp} {p : Addr} {M : Addr → Prop} {m : Option IH} (h : At a H p M m) (k : ∀ b o, M b → H b = some o → H' b = some o) : At a H' p M m := by
  obtain ⟨dd, lv, e, h1, h2, h3⟩ := h.ex
  refine ⟨⟨dd, lv, e, k _ _ h.own h1, fun z => ?_, fun g z => ?_⟩, h.own, fun b mb => ?_⟩
  · obtain ⟨e1, m1⟩ := h2 z
    exact ⟨k _ _ m1 e1, m1⟩
  · obtain ⟨N, s, np, nm⟩ := h3 g z
    exact ⟨N, s.keep fun b o nb => k b o (nm b nb), np, nm⟩
  · obtain ⟨o, eo⟩ := h.live b mb
    exact ⟨o, k b o mb eo⟩
/-- a new thing beside the desk -/
theorem At.beside {a : Ad} {H : Hp} {p t : Addr} {M : Addr → Prop} {m : Option IH} {o : HO} (h : At a H p M m) (ht : H t = none) : At a (upd H t o) p M m :=
  h.keep fun b u _ e => by rw [upd_ne (ne_of_none e ht)]; exact e
theorem At.more {a : Ad} {H H' : Hp} {p : Addr} {M : Addr → Prop} {m : Option IH} (h : At a H p M m) (f : More H H') : At a H' p M m := h.keep fun b u _ e => f b u e
theorem At.not {a : Ad} {H : Hp} {p t : Addr} {M : Addr → Prop} {m : Option IH} (h : At a H p M m) (ht : H t = none) : ¬ M t := fun mt => by
  obtain ⟨o, eo⟩ := h.live t mt
  rw [ht] at eo
  cases eo
/-- one voice of those that sound, and all when it has been changed -/
theorem SoundAt.focus {a : Ad} {H : Hp} {lv e : Addr} {N : Addr → Prop} {h : IH} {k : Nat} {i : IV} (g : SoundAt a H lv e N h) (hk : h.voices[k]? = some i) :
    ∃ (vas : List Addr) (x : Addr), H lv = some (.lst (vas.map V.ref)) ∧ vas.length = h.voices.length ∧ vas[k]? = some x ∧ VoiceAt a.c_Voice H x i ∧ N x ∧ x ≠ lv ∧
      ∀ (H' : Hp) (i' : IV), VoiceAt a.c_Voice H' x i' → Keeps H x H' → SoundAt a H' lv e N { h with voices := h.voices.set k i' } := by
  obtain ⟨vas, lr, rr, L, R, pl, gv, ge, n1, n2, n3, n4, n5, n6, n7⟩ := g.ex
  have kl : k < h.voices.length := (List.getElem?_eq_some_iff.mp hk).1
  have kv : k < vas.length := by rw [gv.len]; exact kl
  obtain ⟨x, hx⟩ : ∃ x, vas[k]? = some x := ⟨vas[k], List.getElem?_eq_getElem kv⟩
  have vx := gv.at_ k x i hx hk
  have mx : N x := n2 x (List.mem_of_getElem? hx)
  obtain ⟨dx, ex⟩ := id vx
  obtain ⟨de, ee⟩ := ge.obj
  have nl : lv ≠ x := fun z => lst_ne ex gv.lst z.symm
  refine ⟨vas, x, gv.lst, gv.len, hx, vx, mx, nl.symm, fun H' i' v' fr => ⟨⟨vas, lr, rr, L, R, pl, ⟨fr _ _ gv.lst nl, by rw [List.length_set]; exact gv.len, gv.nd, fun j y w hy hw => ?_⟩, ?_, n1, n2, n3, n4, n5, n6, n7⟩, fun b nb => ?_⟩⟩
  · by_cases c : j = k
    · subst c
      rw [hx] at hy
      cases hy
      rw [List.getElem?_set_self kl] at hw
      cases hw
      exact v'
    · rw [List.getElem?_set_ne (fun z => c z.symm)] at hw
      obtain ⟨dy, ey⟩ := gv.at_ j y w hy hw
      refine ⟨dy, fr _ _ ey fun z => c ?_⟩
      subst z
      exact (List.getElem?_inj (List.getElem?_eq_some_iff.mp hy).1 gv.nd).mp (hy.trans hx.symm)
  · have g2 : EchoAt a.c_Echo H' e lr rr L R pl h := ge.keep fun b o hb eb => by
      refine fr b o eb ?_
      rcases hb with rfl | rfl | rfl
      · exact ins_ne ee ex (by show 5 ≠ 19; decide)
      · exact fun z => lst_ne ex ge.left z.symm
      · exact fun z => lst_ne ex ge.right z.symm
    exact ⟨g2.obj, g2.left, g2.right, g2.ne, g2.same, g2.place, g2.isL, g2.isR⟩
  · by_cases c : b = x
    · subst c
      obtain ⟨dy, ey⟩ := v'
      exact ⟨_, ey⟩
    · obtain ⟨o, eo⟩ := g.live b nb
      exact ⟨o, fr _ _ eo c⟩
/-- when what sounds has gone on -/
theorem At.sound {a : Ad} {H H' : Hp} {p dd lv e : Addr} {M N : Addr → Prop} {m : Option IH} {h' : IH} (g : At a H p M m) (h1 : H p = some (.ins a.c_Desk dd [("voices", .ref lv), ("echo", .ref e)])) (np : ¬ N p) (nm : ∀ b, N b → M b)
    (s : SoundAt a H' lv e N h') (fr : ∀ b o, H b = some o → ¬ N b → H' b = some o) : At a H' p M (some h') := by
  refine ⟨⟨dd, lv, e, fr _ _ h1 np, (fun z => nomatch z), fun k z => ?_⟩, g.own, fun b mb => ?_⟩
  · cases z
    exact ⟨N, s, np, nm⟩
  · obtain ⟨o, eo⟩ := g.live b mb
    rcases Classical.em (N b) with c | c
    · exact s.live b c
    · exact ⟨o, fr b o eo c⟩
theorem At.focus {a : Ad} {H : Hp} {p : Addr} {M : Addr → Prop} {h : IH} {k : Nat} {i : IV} (g : At a H p M (some h)) (hk : h.voices[k]? = some i) :
    ∃ (dd lv e : Addr) (vas : List Addr) (x : Addr), H p = some (.ins a.c_Desk dd [("voices", .ref lv), ("echo", .ref e)]) ∧ H lv = some (.lst (vas.map V.ref)) ∧ vas[k]? = some x ∧ VoiceAt a.c_Voice H x i ∧ M x ∧
      ∀ (H' : Hp) (i' : IV), VoiceAt a.c_Voice H' x i' → Keeps H x H' → At a H' p M (some { h with voices := h.voices.set k i' }) := by
  obtain ⟨dd, lv, e, h1, _, h3⟩ := g.ex
  obtain ⟨N, s, np, nm⟩ := h3 h rfl
  obtain ⟨vas, x, q1, q2, q3, q4, q5, q6, q7⟩ := s.focus hk
  refine ⟨dd, lv, e, vas, x, h1, q1, q3, q4, nm x q5, fun H' i' v' fr => ?_⟩
  have px : p ≠ x := fun z => np (z ▸ q5)
  refine ⟨⟨dd, lv, e, fr _ _ h1 px, (fun z => nomatch z), fun k z => ?_⟩, g.own, fun b mb => ?_⟩
  · cases z
    exact ⟨N, q7 H' i' v' fr, np, nm⟩
  · by_cases c : b = x
    · subst c
      obtain ⟨dy, ey⟩ := v'
      exact ⟨_, ey⟩
    · obtain ⟨o, eo⟩ := g.live b mb
      exact ⟨o, fr _ _ eo c⟩
/-- what a call leaves: the desk with m', a new list of r at t, all else as it was -/
structure Done (a : Ad) (H : Hp) (p : Addr) (M : Addr → Prop) (m' : Option IH) (r : List Int) (H' : Hp) (M' : Addr → Prop) (t : Addr) : Prop where
  desk : At a H' p M' m'
  told : H' t = some (.lst (r.map V.int))
  own : ¬ M' t
  new : H t = none
  frame : Frame H M H' M'
/-- a new list beside the desk, the desk as it was -/
theorem more_end {a : Ad} {H H1 : Hp} {p t : Addr} {M : Addr → Prop} {m : Option IH} {r : List Int} (hA : At a H p M m) (f : More H H1) (ht : H1 t = none) : Done a H p M m r (upd H1 t (.lst (r.map V.int))) M t := by
  have f2 : More H (upd H1 t (.lst (r.map V.int))) := f.new ht
  exact ⟨hA.more f2, upd_same, hA.not (f.none ht), f.none ht, fun b o e nb => ⟨f2 b o e, nb⟩⟩
theorem beside_end {a : Ad} {H : Hp} {p t : Addr} {M : Addr → Prop} {m : Option IH} {r : List Int} (hA : At a H p M m) (ht : H t = none) : Done a H p M m r (upd H t (.lst (r.map V.int))) M t := more_end hA More.refl ht
/-- a voice was changed, a new list made: what an action's end asks -/
theorem end_voice {a : Ad} {H H1 : Hp} {p t v dx : Addr} {M : Addr → Prop} {h : IH} {k : Nat} {i' : IV} {r : List Int} (mv : M v)
    (fr : ∀ (H' : Hp) (i' : IV), VoiceAt a.c_Voice H' v i' → Keeps H v H' → At a H' p M (some { h with voices := h.voices.set k i' }))
    (e1 : H1 v = some (.ins a.c_Voice dx (vF i'))) (keep : Keeps H v H1) (ht : H1 t = none) :
    Done a H p M (some { h with voices := h.voices.set k i' }) r (upd H1 t (.lst (r.map V.int))) M t := by
  have A1 := fr H1 i' ⟨dx, e1⟩ keep
  have tv : t ≠ v := fun z => by rw [z, e1] at ht; cases ht
  refine ⟨A1.beside ht, upd_same, A1.not ht, ?_, fun b o e nb => ?_⟩
  · cases e : H t with
    | none => rfl
    | some o =>
      rw [keep t o e tv] at ht
      cases ht
  · have bv : b ≠ v := fun z => nb (z ▸ mv)
    have e2 := keep b o e bv
    exact ⟨by rw [upd_ne (ne_of_none e2 ht)]; exact e2, nb⟩
/-! ### The fields of an echo -/
section
variable (lr rr : Addr) (f h : Int) (pl : Nat)
theorem eF_left_row : (eF lr rr f h pl).lookup ("left_row" : Str) = some (.ref lr) := lk_here
theorem eF_right_row : (eF lr rr f h pl).lookup ("right_row" : Str) = some (.ref rr) := (lk_past (by decide +kernel)).trans lk_here
theorem eF_feed : (eF lr rr f h pl).lookup ("feed" : Str) = some (.int f) := (lk_past (by decide +kernel)).trans ((lk_past (by decide +kernel)).trans lk_here)
theorem eF_heard : (eF lr rr f h pl).lookup ("heard" : Str) = some (.int h) := (lk_past (by decide +kernel)).trans ((lk_past (by decide +kernel)).trans ((lk_past (by decide +kernel)).trans lk_here))
theorem eF_place : (eF lr rr f h pl).lookup ("place" : Str) = some (.int (pl : Int)) := (lk_past (by decide +kernel)).trans ((lk_past (by decide +kernel)).trans ((lk_past (by decide +kernel)).trans ((lk_past (by decide +kernel)).trans lk_here)))
theorem eP_place (x : Nat) : putF "place" (.int (x : Int)) (eF lr rr f h pl) = eF lr rr f h x := (put_past (by decide +kernel)).trans (congrArg _ ((put_past (by decide +kernel)).trans (congrArg _ ((put_past (by decide +kernel)).trans (congrArg _ ((put_past (by decide +kernel)).trans (congrArg _ put_here)))))))
theorem eN_place {z : Int} {x : Nat} (e : z = (x : Int)) : putF "place" (.int z) (eF lr rr f h pl) = eF lr rr f h x := by rw [e]; exact eP_place lr rr f h pl x
end
theorem dF_voices {x y : V} : ([("voices", x), ("echo", y)] : List (Str × V)).lookup ("voices" : Str) = some x := lk_here
theorem dF_echo {x y : V} : ([("voices", x), ("echo", y)] : List (Str × V)).lookup ("echo" : Str) = some y := (lk_past (by decide +kernel)).trans lk_here
theorem dP_voices {x y z : V} : putF "voices" z [("voices", x), ("echo", y)] = ([("voices", z), ("echo", y)] : List (Str × V)) := put_here
theorem dP_echo {x y z : V} : putF "echo" z [("voices", x), ("echo", y)] = ([("voices", x), ("echo", z)] : List (Str × V)) := (put_past (by decide +kernel)).trans (congrArg _ put_here)
end VS

set_option Elab.async false
set_option maxRecDepth 100000
set_option maxHeartbeats 4000000
namespace VS
open PySem PySem.Spec PyProof.Rows L2
section
variable {P : Program} {w : World} {K : PySem.W.Frag} {mg : Str → Option Value} {base : Heap} {a : Ad} {d : Fd}

theorem bits_size (n : Int) : Builtin.Int.intBits n = Sj32.size n.natAbs := by
  unfold Builtin.Int.intBits Sj32.size
  by_cases c : n = 0
  · subst c; rfl
  · rw [if_neg (by simpa using c), if_neg (by omega)]
theorem sm_lt {x : Int} (h : Sm x) : x.natAbs < 2 ^ 201 := Nat.lt_of_le_of_lt h (Nat.pow_lt_pow_right (by decide) (by decide))

def sp_units_of : Sp := fun vs H Q _ => ∃ z e : Int, vs = [.int z, .int e] ∧ 0 ≤ e + 149 ∧ e ≤ 1000 ∧ z.natAbs < 2 ^ 200 ∧ Q (.int (z * 2 ^ (e + 149).toNat)) H
theorem sc_units_of : FnScope ["z", "e"] ["z", "e"] (defScope s_units_of) := ⟨rfl, rfl, rfl, by decide +kernel, rfl, by decide +kernel, by decide +kernel⟩
theorem ok_units_of (T : Txt K mg a d) : FnOk P w K mg base CX0 1 a.f_units_of d.f_units_of ["z", "e"] sp_units_of := by
  refine T.d_units_of.fn.ok sc_units_of (fun vs H Q E h => ?_) (fun cdv A outer s H vs Q E hr h => ?_)
  · obtain ⟨z, e, rfl, _⟩ := h; rfl
  refine ⟨_, (pss_one (ps_ret (pe_op op_shlW (pv 0) (pe_op op_add (pv 1) (pe_gi T.g_UNIT_BITS rfl))))), ?_⟩
  obtain ⟨z, e, rfl, h0, h1, h2, q⟩ := h
  exact ⟨_, rfl, _, rfl, _, _, rfl, rfl, _, _, rfl, rfl, shl_ok h0 h2 (by omega), q⟩

def sp_nearest_whole : Sp := fun vs H Q _ => ∃ n b : Int, vs = [.int n, .int b] ∧ 1 ≤ b ∧ b ≤ 2000 ∧ Q (.int (rne b.toNat n)) H
theorem sc_nearest_whole : FnScope ["number", "bits", "half", "odd"] ["number", "bits"] (defScope s_nearest_whole) := ⟨rfl, rfl, rfl, by decide +kernel, rfl, by decide +kernel, by decide +kernel⟩
theorem ok_nearest_whole (T : Txt K mg a d) : FnOk P w K mg base CX0 1 a.f_nearest_whole d.f_nearest_whole ["number", "bits"] sp_nearest_whole := by
  refine T.d_nearest_whole.fn.ok sc_nearest_whole (fun vs H Q E h => ?_) (fun cdv A outer s H vs Q E hr h => ?_)
  · obtain ⟨n, b, rfl, _⟩ := h; rfl
  refine ⟨_, (pss_cons (ps_set (i := 2) sc_nearest_whole.nd rfl (Or.inl rfl) (pe_op op_shlW pe_int (pe_op op_sub (pv 1) pe_int)))
    (pss_cons (ps_set (i := 3) sc_nearest_whole.nd rfl (Or.inl rfl) (pe_op op_and (pe_op op_shr (pv 0) (pv 1)) pe_int))
    (pss_one (ps_ret (pe_op op_shr (pe_op op_add (pe_op op_sub (pe_op op_add (pv 0) (pv 2)) pe_int) (pv 3)) (pv 1)))))), ?_⟩
  obtain ⟨n, b, rfl, h0, h1, q⟩ := h
  refine ⟨_, rfl, _, _, rfl, rfl, _, _, rfl, rfl, shl_ok (by omega) (a := 1) (by decide) (by omega), ?_⟩
  refine ⟨_, rfl, _, rfl, _, _, rfl, rfl, (by omega), _, _, rfl, rfl, ?_⟩
  refine ⟨_, rfl, _, rfl, _, _, rfl, rfl, _, _, rfl, rfl, _, rfl, _, _, rfl, rfl, _, rfl, _, _, rfl, rfl, (by omega), ?_⟩
  have e : (n + 1 * 2 ^ (b - 1).toNat - 1 + Builtin.bitAnd (n / 2 ^ b.toNat) 1) / 2 ^ b.toNat = rne b.toNat n := by
    rw [bitAnd_m1, ← nwh_rne (by omega), Int.one_mul]
    unfold nwh
    have : (b - 1).toNat = b.toNat - 1 := by omega
    rw [this]
  rw [← e] at q
  exact q

def sp_nearest_float : Sp := fun vs H Q _ => ∃ (n : Int) (k : Nat), vs = [.int n, .int (k : Int)] ∧ k ≤ 149 ∧ n.natAbs < 2 ^ 500 ∧ Q (.int (rnd k n)) H
theorem rne_lt {b p : Nat} {n : Int} (h : n.natAbs < 2 ^ p) : (rne b n).natAbs < 2 ^ (p + 1) := by
  unfold rne
  rw [signed_abs]
  have u := ups_le (n.natAbs / 2 ^ b) (n.natAbs % 2 ^ b) (2 ^ b)
  have d := Nat.div_le_self n.natAbs (2 ^ b)
  rw [Nat.pow_succ]
  omega
theorem sc_nearest_float : FnScope ["exact", "finer", "lost"] ["exact", "finer"] (defScope s_nearest_float) := ⟨rfl, rfl, rfl, by decide +kernel, rfl, by decide +kernel, by decide +kernel⟩
theorem ok_nearest_float (T : Txt K mg a d) : FnOk P w K mg base CX0 2 a.f_nearest_float d.f_nearest_float ["exact", "finer"] sp_nearest_float := by
  have G_nearest_whole := ok_nearest_whole (P := P) (w := w) (base := base) T
  refine T.d_nearest_float.fn.ok sc_nearest_float (fun vs H Q E h => ?_) (fun cdv A outer s H vs Q E hr h => ?_)
  · obtain ⟨n, k, rfl, _⟩ := h; rfl
  refine ⟨_, (pss_cons (ps_set (i := 2) sc_nearest_float.nd rfl (Or.inl rfl) (pe_op op_sub (pe_bits (pv 0)) (pe_gi T.g_FLOAT_BITS rfl)))
    (pss_cons (ps_if (pt_cmpR op_lt (pv 2) (pv 1) (nomark _)) (pss_one (ps_set (i := 2) sc_nearest_float.nd rfl (Or.inl rfl) (pv 1))) pss_nil)
    (pss_cons (ps_if (pt_cmpR op_eq (pv 2) pe_int (nomark _)) (pss_one (ps_ret (pv 0))) pss_nil)
    (pss_one (ps_ret (pe_op op_shlW (pe_call G_nearest_whole (hr.mono (by decide)) rfl T.d_nearest_whole.gl T.d_nearest_whole.fn.kp T.d_nearest_whole.bd .nil pass0 (pa_cons (pv 0) (pa_cons (pv 2) pa_nil))) (pe_op op_sub (pv 2) (pv 1)))))))), ?_⟩
  obtain ⟨n, k, rfl, hk, hn, q⟩ := h
  refine ⟨_, rfl, _, rfl, _, _, rfl, rfl, ?_⟩
  refine ⟨_, rfl, _, rfl, _, _, rfl, rfl, _, rfl, ?_⟩
  rw [bits_size]
  have sz : Sj32.size n.natAbs ≤ 500 := size_le.mpr hn
  have lo : ((drop k n.natAbs : Nat) : Int) = max ((Sj32.size n.natAbs : Int) - 24) (k : Int) := by unfold drop; omega
  by_cases c : (Sj32.size n.natAbs : Int) - 24 < (k : Int)
  · refine if_true_of (decide_eq_true c) ⟨_, rfl, ?_⟩
    have eL : (k : Int) = (drop k n.natAbs : Int) := by omega
    refine ⟨_, rfl, rfl, _, rfl, ?_⟩
    by_cases z : drop k n.natAbs = 0
    · rw [rnd_lost0 z] at q
      exact if_true_of (decide_eq_true (by rw [eL, z]; rfl)) ⟨_, rfl, q⟩
    · rw [rnd_lost (by omega), nwh_rne (by omega)] at q
      refine if_false_of (decide_eq_false (fun w => z (by injection w; omega))) ?_
      refine ⟨_, rfl, _, rfl, n, _, rfl, (by omega), (by omega), _, rfl, _, rfl, _, _, rfl, rfl, _, _, rfl, rfl, shl_ok (by omega) (rne_lt hn) (by omega), ?_⟩
      have e1 : ((k : Int)).toNat = drop k n.natAbs := by omega
      have e2 : ((k : Int) - (k : Int)).toNat = drop k n.natAbs - k := by omega
      have e3 : rne ((k : Int)).toNat n * 2 ^ ((k : Int) - (k : Int)).toNat = rne (drop k n.natAbs) n * 2 ^ (drop k n.natAbs - k) := by rw [e1, e2]
      rw [← e3] at q
      exact q
  · refine if_false_of (decide_eq_false c) ?_
    have eL : (Sj32.size n.natAbs : Int) - 24 = (drop k n.natAbs : Int) := by omega
    refine ⟨_, rfl, rfl, _, rfl, ?_⟩
    by_cases z : drop k n.natAbs = 0
    · rw [rnd_lost0 z] at q
      exact if_true_of (decide_eq_true (show V.int ((Sj32.size n.natAbs : Int) - 24) = V.int 0 by rw [eL, z]; rfl)) ⟨_, rfl, q⟩
    · rw [rnd_lost (by omega), nwh_rne (by omega)] at q
      refine if_false_of (decide_eq_false (fun w => z (by injection w; omega))) ?_
      refine ⟨_, rfl, _, rfl, n, _, rfl, (by omega), (by omega), _, rfl, _, rfl, _, _, rfl, rfl, _, _, rfl, rfl, shl_ok (by omega) (rne_lt hn) (by omega), ?_⟩
      have e1 : ((Sj32.size n.natAbs : Int) - 24).toNat = drop k n.natAbs := by omega
      have e2 : ((Sj32.size n.natAbs : Int) - 24 - (k : Int)).toNat = drop k n.natAbs - k := by omega
      have e3 : rne ((Sj32.size n.natAbs : Int) - 24).toNat n * 2 ^ ((Sj32.size n.natAbs : Int) - 24 - (k : Int)).toNat = rne (drop k n.natAbs) n * 2 ^ (drop k n.natAbs - k) := by rw [e1, e2]
      rw [← e3] at q
      exact q

theorem sm_sum {x y : Int} (hx : Sm x) (hy : Sm y) : (x + y).natAbs < 2 ^ 500 := by
  have : (2 : Nat) ^ 200 + 2 ^ 200 < 2 ^ 500 := by decide
  unfold Sm at hx hy
  omega
theorem sm_dif {x y : Int} (hx : Sm x) (hy : Sm y) : (x - y).natAbs < 2 ^ 500 := by
  have : (2 : Nat) ^ 200 + 2 ^ 200 < 2 ^ 500 := by decide
  unfold Sm at hx hy
  omega
theorem sm_prod {x y : Int} (hx : Sm x) (hy : Sm y) : (x * y).natAbs < 2 ^ 500 := by
  rw [Int.natAbs_mul]
  refine Nat.lt_of_le_of_lt (Nat.mul_le_mul hx hy) ?_
  decide
def sp_plus : Sp := fun vs H Q _ => ∃ x y : Int, vs = [.int x, .int y] ∧ Sm x ∧ Sm y ∧ Q (.int (rAdd x y)) H
theorem sc_plus : FnScope ["a", "b"] ["a", "b"] (defScope s_plus) := ⟨rfl, rfl, rfl, by decide +kernel, rfl, by decide +kernel, by decide +kernel⟩
theorem ok_plus (T : Txt K mg a d) : FnOk P w K mg base CX0 3 a.f_plus d.f_plus ["a", "b"] sp_plus := by
  have G_nearest_float := ok_nearest_float (P := P) (w := w) (base := base) T
  refine T.d_plus.fn.ok sc_plus (fun vs H Q E h => ?_) (fun cdv A outer s H vs Q E hr h => ?_)
  · obtain ⟨x, y, rfl, _⟩ := h; rfl
  refine ⟨_, (pss_one (ps_ret (pe_call G_nearest_float (hr.mono (by decide)) rfl T.d_nearest_float.gl T.d_nearest_float.fn.kp T.d_nearest_float.bd .nil pass0 (pa_cons (pe_op op_add (pv 0) (pv 1)) (pa_cons pe_int pa_nil))))), ?_⟩
  obtain ⟨x, y, rfl, hx, hy, q⟩ := h
  exact ⟨_, rfl, _, rfl, _, _, rfl, rfl, _, 0, rfl, by decide, sm_sum hx hy, q⟩

def sp_minus : Sp := fun vs H Q _ => ∃ x y : Int, vs = [.int x, .int y] ∧ Sm x ∧ Sm y ∧ Q (.int (rSub x y)) H
theorem sc_minus : FnScope ["a", "b"] ["a", "b"] (defScope s_minus) := ⟨rfl, rfl, rfl, by decide +kernel, rfl, by decide +kernel, by decide +kernel⟩
theorem ok_minus (T : Txt K mg a d) : FnOk P w K mg base CX0 3 a.f_minus d.f_minus ["a", "b"] sp_minus := by
  have G_nearest_float := ok_nearest_float (P := P) (w := w) (base := base) T
  refine T.d_minus.fn.ok sc_minus (fun vs H Q E h => ?_) (fun cdv A outer s H vs Q E hr h => ?_)
  · obtain ⟨x, y, rfl, _⟩ := h; rfl
  refine ⟨_, (pss_one (ps_ret (pe_call G_nearest_float (hr.mono (by decide)) rfl T.d_nearest_float.gl T.d_nearest_float.fn.kp T.d_nearest_float.bd .nil pass0 (pa_cons (pe_op op_sub (pv 0) (pv 1)) (pa_cons pe_int pa_nil))))), ?_⟩
  obtain ⟨x, y, rfl, hx, hy, q⟩ := h
  exact ⟨_, rfl, _, rfl, _, _, rfl, rfl, _, 0, rfl, by decide, sm_dif hx hy, q⟩

def sp_times : Sp := fun vs H Q _ => ∃ x y : Int, vs = [.int x, .int y] ∧ Sm x ∧ Sm y ∧ Q (.int (rMul x y)) H
theorem sc_times : FnScope ["a", "b"] ["a", "b"] (defScope s_times) := ⟨rfl, rfl, rfl, by decide +kernel, rfl, by decide +kernel, by decide +kernel⟩
theorem ok_times (T : Txt K mg a d) : FnOk P w K mg base CX0 3 a.f_times d.f_times ["a", "b"] sp_times := by
  have G_nearest_float := ok_nearest_float (P := P) (w := w) (base := base) T
  refine T.d_times.fn.ok sc_times (fun vs H Q E h => ?_) (fun cdv A outer s H vs Q E hr h => ?_)
  · obtain ⟨x, y, rfl, _⟩ := h; rfl
  refine ⟨_, (pss_one (ps_ret (pe_call G_nearest_float (hr.mono (by decide)) rfl T.d_nearest_float.gl T.d_nearest_float.fn.kp T.d_nearest_float.bd .nil pass0 (pa_cons (pe_op op_mulW (pv 0) (pv 1)) (pa_cons (pe_gi T.g_UNIT_BITS rfl) pa_nil))))), ?_⟩
  obtain ⟨x, y, rfl, hx, hy, q⟩ := h
  exact ⟨_, rfl, _, rfl, _, _, rfl, rfl, wide_mul (sm_lt hx) (sm_lt hy) (by decide) (by decide) (by decide), _, 149, rfl, by decide, sm_prod hx hy, q⟩

def sp_made_float : Sp := fun vs H Q _ => ∃ n : Int, vs = [.int n] ∧ n.natAbs ≤ 2 ^ 32 ∧ Q (.int (rnd 0 (n * 2 ^ 149))) H
theorem made_lt {n : Int} (h : n.natAbs ≤ 2 ^ 32) : (n * 2 ^ 149).natAbs < 2 ^ 500 := by
  rw [Int.natAbs_mul, Int.natAbs_pow]
  refine Nat.lt_of_le_of_lt (Nat.mul_le_mul h (Nat.le_refl _)) ?_
  decide
theorem sc_made_float : FnScope ["whole"] ["whole"] (defScope s_made_float) := ⟨rfl, rfl, rfl, by decide +kernel, rfl, by decide +kernel, by decide +kernel⟩
theorem ok_made_float (T : Txt K mg a d) : FnOk P w K mg base CX0 3 a.f_made_float d.f_made_float ["whole"] sp_made_float := by
  have G_nearest_float := ok_nearest_float (P := P) (w := w) (base := base) T
  have G_units_of := ok_units_of (P := P) (w := w) (base := base) T
  refine T.d_made_float.fn.ok sc_made_float (fun vs H Q E h => ?_) (fun cdv A outer s H vs Q E hr h => ?_)
  · obtain ⟨n, rfl, _⟩ := h; rfl
  refine ⟨_, (pss_one (ps_ret (pe_call G_nearest_float (hr.mono (by decide)) rfl T.d_nearest_float.gl T.d_nearest_float.fn.kp T.d_nearest_float.bd .nil pass0 (pa_cons (pe_call G_units_of (hr.mono (by decide)) rfl T.d_units_of.gl T.d_units_of.fn.kp T.d_units_of.bd .nil pass0 (pa_cons (pv 0) (pa_cons pe_int pa_nil))) (pa_cons pe_int pa_nil))))), ?_⟩
  obtain ⟨n, rfl, hn, q⟩ := h
  exact ⟨_, rfl, n, 0, rfl, by decide, by decide, Nat.lt_of_le_of_lt hn (Nat.pow_lt_pow_right (by decide) (by decide)), _, 0, rfl, by decide, made_lt hn, q⟩

def sp_held : Sp := fun vs H Q _ => ∃ x : Int, vs = [.int x] ∧ Q (.int (hold x)) H
theorem sc_held : FnScope ["a", "most"] ["a"] (defScope s_held) := ⟨rfl, rfl, rfl, by decide +kernel, rfl, by decide +kernel, by decide +kernel⟩
theorem ok_held (T : Txt K mg a d) : FnOk P w K mg base CX0 2 a.f_held d.f_held ["a"] sp_held := by
  have G_units_of := ok_units_of (P := P) (w := w) (base := base) T
  refine T.d_held.fn.ok sc_held (fun vs H Q E h => ?_) (fun cdv A outer s H vs Q E hr h => ?_)
  · obtain ⟨x, rfl, _⟩ := h; rfl
  refine ⟨_, (pss_cons (ps_set (i := 1) sc_held.nd rfl (Or.inl rfl) (pe_call G_units_of (hr.mono (by decide)) rfl T.d_units_of.gl T.d_units_of.fn.kp T.d_units_of.bd .nil pass0 (pa_cons (pe_gi T.g_HELD_AT rfl) (pa_cons pe_int pa_nil))))
    (pss_one (ps_ret (pe_callB (call_max2 rfl) (by rfl) T.b_max (by decide +kernel) (pa_cons (pe_un un_neg (pv 1)) (pa_cons (pe_callB (call_min2 rfl) (by rfl) T.b_min (by decide +kernel) (pa_cons (pv 1) (pa_cons (pv 0) pa_nil))) pa_nil)))))), ?_⟩
  obtain ⟨x, rfl, q⟩ := h
  refine ⟨16, 0, rfl, by decide, by decide, by decide, ?_⟩
  have e0 : (16 : Int) * 2 ^ (0 + 149 : Int).toNat = 2 ^ 153 := by decide
  rw [e0]
  obtain ⟨m, em⟩ : ∃ m : Int, m = 2 ^ 153 := ⟨_, rfl⟩
  have mp : 0 < m := by rw [em]; exact ipow_pos2 _
  have eh : hold x = if m < x then m else if x < -m then -m else x := by rw [em]; rfl
  rw [eh] at q
  rw [← em]
  refine ⟨_, rfl, _, rfl, _, rfl, _, rfl, _, _, rfl, _, _, rfl, ?_⟩
  have e1 : (if (if x < m then x else m) > -m then (if x < m then x else m) else -m) = (if m < x then m else if x < -m then -m else x) := by
    split <;> split <;> split <;> (try split) <;> omega
  rw [e1]
  exact q

def sp_told_float : Sp := fun vs H Q _ => ∃ n : Int, vs = [.int n] ∧ ∀ t : Addr, H t = none → Q (.ref t) (upd H t (.lst ((toldI n).map V.int)))
theorem sc_told_float : FnScope ["a", "last_bit", "zeros"] ["a"] (defScope s_told_float) := ⟨rfl, rfl, rfl, by decide +kernel, rfl, by decide +kernel, by decide +kernel⟩
theorem ok_told_float (T : Txt K mg a d) : FnOk P w K mg base CX0 1 a.f_told_float d.f_told_float ["a"] sp_told_float := by
  refine T.d_told_float.fn.ok sc_told_float (fun vs H Q E h => ?_) (fun cdv A outer s H vs Q E hr h => ?_)
  · obtain ⟨n, rfl, _⟩ := h; rfl
  refine ⟨_, (pss_cons (ps_if (pt_cmpR op_eq (pv 0) pe_int (nomark _)) (pss_one (ps_ret (pe_lst (pa_cons pe_int (pa_cons pe_int pa_nil))))) pss_nil)
    (pss_cons (ps_set (i := 1) sc_told_float.nd rfl (Or.inl rfl) (pe_op op_and (pv 0) (pe_un un_neg (pv 0))))
    (pss_cons (ps_set (i := 2) sc_told_float.nd rfl (Or.inl rfl) (pe_op op_sub (pe_bits (pv 1)) pe_int))
    (pss_one (ps_ret (pe_lst (pa_cons (pe_op op_shr (pv 0) (pv 2)) (pa_cons (pe_op op_sub (pv 2) (pe_gi T.g_UNIT_BITS rfl)) pa_nil)))))))), ?_⟩
  obtain ⟨n, rfl, q⟩ := h
  refine ⟨_, rfl, rfl, _, rfl, ?_⟩
  by_cases c : n = 0
  · subst c
    exact if_true_of (decide_eq_true rfl) ⟨by decide, q⟩
  · refine if_false_of (decide_eq_false (fun w => c (by cases w; rfl))) ?_
    obtain ⟨b, t, e1, e2⟩ := odd_form c
    rw [e2] at q
    have p := ipow_pos2 t
    refine ⟨_, rfl, _, rfl, _, rfl, _, _, rfl, rfl, ?_⟩
    have e3 : Builtin.bitAnd n (-n) = 2 ^ t := by rw [e1]; exact PySem.W.kbt_low t b
    refine ⟨_, rfl, _, rfl, _, _, rfl, rfl, ?_⟩
    have e4 : ((Builtin.Int.intBits (Builtin.bitAnd n (-n)) : Nat) : Int) - 1 = (t : Int) := by
      rw [e3, bits_size]
      have : ((2 : Int) ^ t).natAbs = 2 ^ t := by rw [Int.natAbs_pow]; rfl
      rw [this, size_pos (by have := pow_pos2 t; omega), Nat.log2_two_pow]
      omega
    have e5 : [2 * b + 1, (t : Int) - 149] = [n / 2 ^ (((Builtin.Int.intBits (Builtin.bitAnd n (-n)) : Nat) : Int) - 1).toNat, ((Builtin.Int.intBits (Builtin.bitAnd n (-n)) : Nat) : Int) - 1 - 149] := by
      rw [e4, e1, Int.toNat_natCast, Int.mul_ediv_cancel_left _ (by omega)]
    rw [e5] at q
    exact ⟨_, rfl, _, rfl, _, _, rfl, rfl, (by rw [e4]; omega), _, rfl, _, _, rfl, rfl, (by show 2 ≤ sizeLine; decide), q⟩
end
end VS


set_option Elab.async false
set_option maxRecDepth 100000
set_option maxHeartbeats 4000000
namespace VS
open PySem PySem.Spec PyProof.Rows L2
section
variable {P : Program} {w : World} {K : PySem.W.Frag} {mg : Str → Option Value} {base : Heap} {a : Ad} {d : Fd}

def sp_Voice_init (C : Addr) : Sp := fun vs H Q _ => ∃ p dx : Addr, vs = [.ref p] ∧ H p = some (.ins C dx []) ∧
  ∀ H' : Hp, VoiceAt C H' p iv0 → Keeps H p H' → Q .non H'
theorem sc_Voice_init : FnScope ["self", "one"] ["self"] (defScope s_Voice_init) := ⟨rfl, rfl, rfl, by decide +kernel, rfl, by decide +kernel, by decide +kernel⟩
theorem ok_Voice_init (T : Txt K mg a d) : FnOk P w K mg base CX0 2 a.f_Voice_init d.f_Voice_init ["self"] (sp_Voice_init a.c_Voice) := by
  have G_units_of := ok_units_of (P := P) (w := w) (base := base) T
  refine T.m_Voice_init.fn.ok sc_Voice_init (fun vs H Q E h => ?_) (fun cdv A outer s H vs Q E hr h => ?_)
  · obtain ⟨p, dx, rfl, _⟩ := h; rfl
  refine ⟨_, (pss_cons (ps_set (i := 1) sc_Voice_init.nd rfl (Or.inl rfl) (pe_call G_units_of (hr.mono (by decide)) rfl T.d_units_of.gl T.d_units_of.fn.kp T.d_units_of.bd .nil pass0 (pa_cons pe_int (pa_cons pe_int pa_nil))))
    (pss_cons (ps_fld (pv 0) pe_int rfl)
    (pss_cons (ps_fld (pv 0) (pe_op op_pow pe_int pe_int) rfl)
    (pss_cons (ps_fld (pv 0) (pv 1) rfl)
    (pss_cons (ps_fld (pv 0) (pv 1) rfl)
    (pss_cons (ps_fld (pv 0) (pv 1) rfl)
    (pss_cons (ps_fld (pv 0) pe_int rfl)
    (pss_cons (ps_fld (pv 0) pe_int rfl)
    (pss_cons (ps_fld (pv 0) pe_int rfl)
    (pss_cons (ps_fld (pv 0) (pv 1) rfl)
    (pss_cons (ps_fld (pv 0) pe_int rfl)
    (pss_cons (ps_fld (pv 0) (pv 1) rfl)
    (pss_cons (ps_fld (pv 0) pe_int rfl)
    (pss_cons (ps_fld (pv 0) pe_int rfl)
    (pss_cons (ps_fld (pv 0) (pe_gi T.g_FIRST_DRAW rfl) rfl)
    (pss_cons (ps_fld (pv 0) pe_int rfl)
    (pss_cons (ps_fld (pv 0) pe_int rfl)
    (pss_cons (ps_fld (pv 0) pe_int rfl)
    (pss_cons (ps_fld (pv 0) (pe_gi T.g_STILL rfl) rfl)
    (pss_one (ps_fld (pv 0) pe_int rfl))))))))))))))))))))), ?_⟩
  obtain ⟨p, dx, rfl, hp, k⟩ := h
  refine ⟨1, 0, rfl, by decide, by decide, by decide, ?_⟩
  refine ⟨_, rfl, p, _, dx, _, rfl, hp, T.cl_Voice, T.n_Voice_wave, (by decide), ?_⟩
  refine ⟨_, _, rfl, rfl, ⟨by decide, by decide, by decide⟩, _, rfl, p, _, dx, _, rfl, upd_same, T.cl_Voice, T.n_Voice_width, (by decide +kernel), ?_⟩
  refine ⟨_, rfl, _, rfl, p, _, dx, _, rfl, upd_same, T.cl_Voice, T.n_Voice_level, (by decide +kernel), ?_⟩
  refine ⟨_, rfl, _, rfl, p, _, dx, _, rfl, upd_same, T.cl_Voice, T.n_Voice_left, (by decide +kernel), ?_⟩
  refine ⟨_, rfl, _, rfl, p, _, dx, _, rfl, upd_same, T.cl_Voice, T.n_Voice_right, (by decide +kernel), ?_⟩
  refine ⟨_, rfl, p, _, dx, _, rfl, upd_same, T.cl_Voice, T.n_Voice_mode, (by decide +kernel), ?_⟩
  refine ⟨_, rfl, p, _, dx, _, rfl, upd_same, T.cl_Voice, T.n_Voice_cut, (by decide +kernel), ?_⟩
  refine ⟨_, rfl, p, _, dx, _, rfl, upd_same, T.cl_Voice, T.n_Voice_damp, (by decide +kernel), ?_⟩
  refine ⟨_, rfl, _, rfl, p, _, dx, _, rfl, upd_same, T.cl_Voice, T.n_Voice_rise, (by decide +kernel), ?_⟩
  refine ⟨_, rfl, p, _, dx, _, rfl, upd_same, T.cl_Voice, T.n_Voice_fall, (by decide +kernel), ?_⟩
  refine ⟨_, rfl, _, rfl, p, _, dx, _, rfl, upd_same, T.cl_Voice, T.n_Voice_keep, (by decide +kernel), ?_⟩
  refine ⟨_, rfl, p, _, dx, _, rfl, upd_same, T.cl_Voice, T.n_Voice_go, (by decide +kernel), ?_⟩
  refine ⟨_, rfl, p, _, dx, _, rfl, upd_same, T.cl_Voice, T.n_Voice_phase, (by decide +kernel), ?_⟩
  refine ⟨_, rfl, p, _, dx, _, rfl, upd_same, T.cl_Voice, T.n_Voice_draw, (by decide +kernel), ?_⟩
  refine ⟨_, rfl, p, _, dx, _, rfl, upd_same, T.cl_Voice, T.n_Voice_step, (by decide +kernel), ?_⟩
  refine ⟨_, rfl, p, _, dx, _, rfl, upd_same, T.cl_Voice, T.n_Voice_low, (by decide +kernel), ?_⟩
  refine ⟨_, rfl, p, _, dx, _, rfl, upd_same, T.cl_Voice, T.n_Voice_band, (by decide +kernel), ?_⟩
  refine ⟨_, rfl, p, _, dx, _, rfl, upd_same, T.cl_Voice, T.n_Voice_stage, (by decide +kernel), ?_⟩
  refine ⟨_, rfl, p, _, dx, _, rfl, upd_same, T.cl_Voice, T.n_Voice_env, (by decide +kernel), ?_⟩
  refine k _ ⟨dx, Eq.trans upd_same (congrArg (fun q => some (HO.ins _ dx q)) ?_)⟩ fun b o e hb => ?_
  · decide +kernel
  · simp only [upd_ne hb]
    exact e

def sp_Echo_init (C : Addr) : Sp := fun vs H Q _ => ∃ (p dx : Addr) (n : Nat) (f h : Int), vs = [.ref p, .int (n : Int), .int f, .int h] ∧ n ≤ 1024 ∧ H p = some (.ins C dx []) ∧
  ∀ (H' : Hp) (lr rr : Addr), H' p = some (.ins C dx (eF lr rr f h 0)) → H' lr = some (.lst ((List.replicate n (0 : Int)).map V.int)) → H' rr = some (.lst ((List.replicate n (0 : Int)).map V.int)) → lr ≠ rr → H lr = none → H rr = none → Keeps H p H' → Q .non H'
theorem rep_flat (n : Nat) : (List.replicate n [V.int 0]).flatten = (List.replicate n (0 : Int)).map V.int := by
  rw [List.map_replicate]
  induction n with
  | zero => rfl
  | succ n ih => rw [List.replicate_succ, List.flatten_cons, ih, List.replicate_succ]; rfl
theorem sc_Echo_init : FnScope ["self", "length", "feed", "heard"] ["self", "length", "feed", "heard"] (defScope s_Echo_init) := ⟨rfl, rfl, rfl, by decide +kernel, rfl, by decide +kernel, by decide +kernel⟩
theorem ok_Echo_init (T : Txt K mg a d) : FnOk P w K mg base CX0 1 a.f_Echo_init d.f_Echo_init ["self", "length", "feed", "heard"] (sp_Echo_init a.c_Echo) := by
  refine T.m_Echo_init.fn.ok sc_Echo_init (fun vs H Q E h => ?_) (fun cdv A outer s H vs Q E hr h => ?_)
  · obtain ⟨p, dx, n, f, h, rfl, _⟩ := h; rfl
  refine ⟨_, (pss_cons (ps_fld (pv 0) (pe_op op_rep (pe_lst (pa_cons pe_int pa_nil)) (pv 1)) rfl)
    (pss_cons (ps_fld (pv 0) (pe_op op_rep (pe_lst (pa_cons pe_int pa_nil)) (pv 1)) rfl)
    (pss_cons (ps_fld (pv 0) (pv 2) rfl)
    (pss_cons (ps_fld (pv 0) (pv 3) rfl)
    (pss_one (ps_fld (pv 0) pe_int rfl)))))), ?_⟩
  obtain ⟨p, dx, n, f, h, rfl, hn, hp, k⟩ := h
  have sz := sizeLine_eq
  refine ⟨by decide, fun t1 ht1 => ⟨_, rfl, t1, _, _, rfl, rfl, upd_same, (by omega), (by omega), (by show 1 * ((n : Int)).toNat ≤ _; omega), fun lr hlr => ?_⟩⟩
  have l1 : t1 ≠ lr := fun z => by rw [← z, upd_same] at hlr; cases hlr
  have hlr0 : H lr = none := by rw [upd_ne l1.symm] at hlr; exact hlr
  have p1 : p ≠ t1 := ne_of_none hp ht1
  have pl : p ≠ lr := ne_of_none hp hlr0
  refine ⟨_, rfl, p, _, dx, _, rfl, (by rw [upd_ne pl, upd_ne p1]; exact hp), T.cl_Echo, T.n_Echo_left_row, (by decide), ?_⟩
  refine ⟨by decide, fun t2 ht2 => ⟨_, rfl, t2, _, _, rfl, rfl, upd_same, (by omega), (by omega), (by show 1 * ((n : Int)).toNat ≤ _; omega), fun rr hrr => ?_⟩⟩
  have p2 : p ≠ t2 := fun z => by rw [← z, upd_same] at ht2; cases ht2
  have l2 : lr ≠ t2 := fun z => by rw [← z, upd_ne pl.symm, upd_same] at ht2; cases ht2
  have t2r : t2 ≠ rr := fun z => by rw [← z, upd_same] at hrr; cases hrr
  rw [upd_ne t2r.symm] at hrr
  have pr : p ≠ rr := fun z => by rw [← z, upd_same] at hrr; cases hrr
  rw [upd_ne pr.symm] at hrr
  have lr_rr : lr ≠ rr := fun z => by rw [← z, upd_same] at hrr; cases hrr
  rw [upd_ne lr_rr.symm] at hrr
  have t1r : t1 ≠ rr := fun z => by rw [← z, upd_same] at hrr; cases hrr
  rw [upd_ne t1r.symm] at hrr
  have ht2' : H t2 = none := by
    rw [upd_ne p2.symm, upd_ne l2.symm] at ht2
    have t12 : t2 ≠ t1 := fun z => by rw [z, upd_same] at ht2; cases ht2
    rw [upd_ne t12] at ht2
    exact ht2
  refine ⟨_, rfl, p, _, dx, _, rfl, (by rw [upd_ne pr, upd_ne p2, upd_same]), T.cl_Echo, T.n_Echo_right_row, (by show 1 < 1000; decide), ?_⟩
  refine ⟨_, rfl, _, rfl, p, _, dx, _, rfl, upd_same, T.cl_Echo, T.n_Echo_feed, (by show 2 < 1000; decide), ?_⟩
  refine ⟨_, rfl, _, rfl, p, _, dx, _, rfl, upd_same, T.cl_Echo, T.n_Echo_heard, (by show 3 < 1000; decide), ?_⟩
  refine ⟨_, rfl, p, _, dx, _, rfl, upd_same, T.cl_Echo, T.n_Echo_place, (by show 4 < 1000; decide), ?_⟩
  have flat : (List.replicate ((n : Int)).toNat [V.int 0]).flatten = (List.replicate n (0 : Int)).map V.int := by rw [Int.toNat_natCast]; exact rep_flat n
  refine k _ lr rr (Eq.trans upd_same (congrArg (fun q => some (HO.ins _ dx q)) rfl)) ?_ ?_ lr_rr hlr0 hrr fun b o e hb => ?_
  · simp only [upd_ne pl.symm, upd_ne lr_rr, upd_ne l2, upd_same]
    exact congrArg (fun q => some (HO.lst q)) flat
  · simp only [upd_ne pr.symm, upd_same]
    exact congrArg (fun q => some (HO.lst q)) flat
  · simp only [upd_ne hb, upd_ne (ne_of_none e ht1), upd_ne (ne_of_none e hlr0), upd_ne (ne_of_none e ht2'), upd_ne (ne_of_none e hrr)]
    exact e

def sp_whole_within (C : Addr) : Sp := fun vs H Q E => ∃ n lo hi : Int, vs = [.int n, .int lo, .int hi] ∧ (lo ≤ n ∧ n ≤ hi → Q (.int n) H) ∧ (¬ (lo ≤ n ∧ n ≤ hi) → E (.ref C) none H)
theorem sc_whole_within : FnScope ["number", "least", "most"] ["number", "least", "most"] (defScope s_whole_within) := ⟨rfl, rfl, rfl, by decide +kernel, rfl, by decide +kernel, by decide +kernel⟩
theorem ok_whole_within (T : Txt K mg a d) : FnOk P w K mg base (L2.CX P w) 1 a.f_whole_within d.f_whole_within ["number", "least", "most"] (sp_whole_within a.c_NotAsTold) := by
  refine T.d_whole_within.fn.okX sc_whole_within (fun vs H Q E h => ?_) (fun cdv A outer s H vs Q E hr h => ?_)
  · obtain ⟨n, lo, hi, rfl, _⟩ := h; rfl
  refine ⟨_, (pss_cons (ps_if (PW.pt (pw_or (pt_cmpR op_lt (pv 0) (pv 1) (nomark _)) (pw_or1 (pt_cmpR op_gt (pv 0) (pv 2) (nomark _))))) (pss_one (ps_raise rfl (takes_of rfl rfl rfl rfl) (pmk_own0 PySem.F.excBase_ValueError T.e_NotAsTold.x T.e_NotAsTold.gl T.e_NotAsTold.kp (raises_own T.e_NotAsTold.b T.e_NotAsTold.t) rfl))) pss_nil)
    (pss_one (ps_ret (pv 0)))), ?_⟩
  obtain ⟨n, lo, hi, rfl, q, e⟩ := h
  refine ⟨_, rfl, _, rfl, _, _, rfl, rfl, _, rfl, ?_⟩
  by_cases c : n < lo
  · exact if_true_of (decide_eq_true c) (e (by omega))
  · refine if_false_of (decide_eq_false c) ⟨_, rfl, _, rfl, _, _, rfl, rfl, _, rfl, ?_⟩
    by_cases c2 : hi < n
    · exact if_true_of (decide_eq_true c2) (e (by omega))
    · exact if_false_of (decide_eq_false c2) ⟨_, rfl, q (by omega)⟩

theorem handed_e {z e : Int} (hz : z.natAbs ≤ 2 ^ 24) (h : ¬ z * 2 ^ (e + 200).toNat < 2 ^ 180) : 0 ≤ e + 149 := by
  rcases Int.lt_or_le e (-149) with q | q
  · exfalso
    have p1 : (2 : Int) ^ (e + 200).toNat ≤ 2 ^ 155 := by
      have := Nat.pow_le_pow_right (n := 2) (by decide) (show (e + 200).toNat ≤ 155 by omega)
      have h2 : ((2 ^ (e + 200).toNat : Nat) : Int) ≤ ((2 ^ 155 : Nat) : Int) := by omega
      simpa using h2
    have p2 : z * 2 ^ (e + 200).toNat ≤ 2 ^ 24 * 2 ^ 155 := by
      rcases Int.lt_or_le z 0 with zn | zp
      · have : z * 2 ^ (e + 200).toNat < 0 := Int.mul_neg_of_neg_of_pos zn (ipow_pos2 _)
        have : (0 : Int) ≤ 2 ^ 24 * 2 ^ 155 := by decide
        omega
      · exact Int.mul_le_mul (by omega) p1 (Int.le_of_lt (ipow_pos2 _)) (by decide)
    have k : (2 : Int) ^ 24 * 2 ^ 155 < 2 ^ 180 := by decide
    omega
  · omega
def sp_handed_float (C : Addr) : Sp := fun vs H Q E => ∃ z e m : Int, vs = [.int z, .int e, .int m] ∧ ZE z e ∧ (m = 1 ∨ m = 2) ∧
  (okF z e m → Q (.int (cnt z e)) H) ∧ (¬ okF z e m → E (.ref C) none H)
theorem sc_handed_float : FnScope ["z", "e", "most", "size"] ["z", "e", "most"] (defScope s_handed_float) := ⟨rfl, rfl, rfl, by decide +kernel, rfl, by decide +kernel, by decide +kernel⟩
theorem ok_handed_float (T : Txt K mg a d) : FnOk P w K mg base (L2.CX P w) 2 a.f_handed_float d.f_handed_float ["z", "e", "most"] (sp_handed_float a.c_NotAsTold) := by
  have G_units_of := ok_units_of (P := P) (w := w) (base := base) T
  refine T.d_handed_float.fn.okX sc_handed_float (fun vs H Q E h => ?_) (fun cdv A outer s H vs Q E hr h => ?_)
  · obtain ⟨n, lo, hi, rfl, _⟩ := h; rfl
  refine ⟨_, (pss_cons (ps_if (pt_cmpR op_eq (pv 0) pe_int (nomark _)) (pss_one (ps_ret pe_int)) pss_nil)
    (pss_cons (ps_set (i := 3) sc_handed_float.nd rfl (Or.inl rfl) (pe_op op_shlW (pv 0) (pe_op op_sub (pv 1) (pe_gi T.g_LEAST_E rfl))))
    (pss_cons (ps_if (PW.pt (pw_or (pt_cmpR op_lt (pv 3) (pe_op op_shlW pe_int (pe_op op_sub (pe_gi T.g_LEAST_FLOAT_E rfl) (pe_gi T.g_LEAST_E rfl))) (nomark _)) (pw_or1 (pt_cmpR op_gt (pv 3) (pe_op op_shlW (pv 2) (pe_un un_neg (pe_gi T.g_LEAST_E rfl))) (nomark _))))) (pss_one (ps_raise rfl (takes_of rfl rfl rfl rfl) (pmk_own0 PySem.F.excBase_ValueError T.e_NotAsTold.x T.e_NotAsTold.gl T.e_NotAsTold.kp (raises_own T.e_NotAsTold.b T.e_NotAsTold.t) rfl))) pss_nil)
    (pss_one (ps_ret (pe_call G_units_of (hr.mono (by decide)) rfl T.d_units_of.gl T.d_units_of.fn.kp T.d_units_of.bd .nil pass0 (pa_cons (pv 0) (pa_cons (pv 1) pa_nil)))))))), ?_⟩
  obtain ⟨z, e, m, rfl, ⟨hz, he⟩, hm, q, x⟩ := h
  have hz2 : z.natAbs < 2 ^ 25 := Nat.lt_of_le_of_lt hz (by decide)
  refine ⟨_, rfl, rfl, _, rfl, ?_⟩
  by_cases c : z = 0
  · subst c
    refine if_true_of (decide_eq_true rfl) ?_
    have z0 : cnt 0 e = 0 := Int.zero_mul _
    have q0 := q (Or.inl rfl)
    rw [z0] at q0
    exact q0
  refine if_false_of (decide_eq_false (fun w => c (by cases w; rfl))) ?_
  refine ⟨_, rfl, _, rfl, _, _, rfl, rfl, _, _, rfl, rfl, shl_ok (by omega) hz2 (by omega), ?_⟩
  refine ⟨_, rfl, _, _, rfl, rfl, _, _, rfl, rfl, shl_ok (by decide) (a := 1) (by decide) (by decide), _, _, rfl, rfl, _, rfl, ?_⟩
  have e1 : z * 2 ^ (e - -200).toNat = z * 2 ^ (e + 200).toNat := by rw [Int.sub_neg]
  have e2 : (1 : Int) * 2 ^ (-20 - -200 : Int).toNat = 2 ^ 180 := by decide
  rw [e1, e2]
  by_cases c1 : z * 2 ^ (e + 200).toNat < 2 ^ 180
  · refine if_true_of (decide_eq_true c1) (x ?_)
    rintro (z0 | z0)
    · exact c z0
    · have := z0.1
      omega
  refine if_false_of (decide_eq_false c1) ?_
  refine ⟨_, rfl, _, rfl, _, rfl, _, _, rfl, rfl, shl_ok (by decide) (a := 2) (by rcases hm with rfl | rfl <;> decide) (by decide), _, _, rfl, rfl, _, rfl, ?_⟩
  have e3 : m * 2 ^ (- -200 : Int).toNat = m * 2 ^ 200 := by congr 1
  rw [e3]
  by_cases c2 : m * 2 ^ 200 < z * 2 ^ (e + 200).toNat
  · refine if_true_of (decide_eq_true c2) (x ?_)
    rintro (z0 | z0)
    · exact c z0
    · have := z0.2
      omega
  refine if_false_of (decide_eq_false c2) ?_
  refine ⟨_, rfl, _, rfl, z, e, rfl, handed_e hz c1, by omega, Nat.lt_trans hz2 (Nat.pow_lt_pow_right (by decide) (by decide)), q (Or.inr ⟨by omega, by omega⟩)⟩

def sp_voice_at (a : Ad) : Sp := fun vs H Q E => ∃ (p : Addr) (k : Int) (M : Addr → Prop) (h : IH), vs = [.ref p, .int k] ∧ At a H p M (some h) ∧ h.voices.length = 8 ∧
  (¬ (0 ≤ k ∧ k ≤ 7) → E (.ref a.c_NotAsTold) none H) ∧
  (0 ≤ k ∧ k ≤ 7 → ∀ (x : Addr) (i : IV), h.voices[k.toNat]? = some i → VoiceAt a.c_Voice H x i → M x →
    (∀ (H' : Hp) (i' : IV), VoiceAt a.c_Voice H' x i' → Keeps H x H' → At a H' p M (some { h with voices := h.voices.set k.toNat i' })) → Q (.ref x) H)
theorem at_nat {xs : List V} {k : Int} {v : V} (h0 : 0 ≤ k) (h : xs[k.toNat]? = some v) : atI xs k = some v := by
  obtain ⟨n, rfl⟩ : ∃ n : Nat, k = (n : Int) := ⟨k.toNat, by omega⟩
  exact atI_nat (by simpa using h)
theorem sc_voice_at : FnScope ["desk", "k"] ["desk", "k"] (defScope s_voice_at) := ⟨rfl, rfl, rfl, by decide +kernel, rfl, by decide +kernel, by decide +kernel⟩
theorem ok_voice_at (T : Txt K mg a d) : FnOk P w K mg base (L2.CX P w) 2 a.f_voice_at d.f_voice_at ["desk", "k"] (sp_voice_at a) := by
  have G_whole_within := ok_whole_within (P := P) (w := w) (base := base) T
  refine T.d_voice_at.fn.okX sc_voice_at (fun vs H Q E h => ?_) (fun cdv A outer s H vs Q E hr h => ?_)
  · obtain ⟨p, k, M, l, rfl, _⟩ := h; rfl
  refine ⟨_, (pss_one (ps_ret (pe_ix ix_list (pe_fld (pv 0) rfl) (pe_call G_whole_within (hr.mono (by decide)) rfl T.d_whole_within.gl T.d_whole_within.fn.kp T.d_whole_within.bd .nil (passes_call (takes_of rfl rfl rfl rfl) (fun _ _ _ _ h => h)) (pa_cons (pv 1) (pa_cons pe_int (pa_cons (pe_op op_sub (pe_gi T.g_VOICE_COUNT rfl) pe_int) pa_nil)))) (fun _ _ => rfl)))), ?_⟩
  obtain ⟨p, k, M, h, rfl, hA, hl, e, q⟩ := h
  obtain ⟨dd, lv, ec, h1, _, h3⟩ := hA.ex
  refine ⟨_, rfl, p, _, dd, _, _, rfl, h1, T.cl_Desk, T.n_Desk_voices, dF_voices, _, rfl, _, _, rfl, rfl, k, 0, 7, rfl, fun c => ?_, e⟩
  have hk : k.toNat < h.voices.length := by omega
  obtain ⟨dd', lv', e', vas, x, h1', h2', hx, vx, mx, fr⟩ := hA.focus (List.getElem?_eq_getElem hk)
  rw [h1] at h1'
  cases h1'
  refine ⟨lv, _, k, .ref x, rfl, rfl, SqL.of h2', at_nat c.1 ?_, q c x _ (List.getElem?_eq_getElem hk) vx mx fr⟩
  rw [List.getElem?_map, hx]
  rfl

end
end VS


set_option Elab.async false
set_option maxRecDepth 100000
set_option maxHeartbeats 4000000
namespace VS
open PySem PySem.Spec PyProof.Rows L2
section
variable {P : Program} {w : World} {K : PySem.W.Frag} {mg : Str → Option Value} {base : Heap} {a : Ad} {d : Fd}

theorem few (i : IV) : (vF i).length < 1000 := by show 19 < 1000; decide
theorem vQ_phase (i : IV) : putF "phase" (.int 0) (vF i) = vF { i with phase := 0 } := vP_phase i 0
theorem vQ_draw (i : IV) : putF "draw" (.int 1) (vF i) = vF { i with draw := 1 } := vP_draw i 1
theorem vQ_stage0 (i : IV) : putF "stage" (.int 0) (vF i) = vF { i with stage := 0 } := vP_stage i 0
theorem vQ_stage1 (i : IV) : putF "stage" (.int 1) (vF i) = vF { i with stage := 1 } := vP_stage i 1
theorem vQ_stage2 (i : IV) : putF "stage" (.int 2) (vF i) = vF { i with stage := 2 } := vP_stage i 2
theorem vQ_stage3 (i : IV) : putF "stage" (.int 3) (vF i) = vF { i with stage := 3 } := vP_stage i 3
theorem vN_phase (i : IV) {z : Int} {n : Nat} (e : z = (n : Int)) : putF "phase" (.int z) (vF i) = vF { i with phase := n } := by rw [e]; exact vP_phase i n
theorem vN_draw (i : IV) {z : Int} {n : Nat} (e : z = (n : Int)) : putF "draw" (.int z) (vF i) = vF { i with draw := n } := by rw [e]; exact vP_draw i n
theorem sm_hold (n : Int) : Sm (hold n) := sm_pow (hold_bound n) (by decide)
theorem one_is : (1 : Int) * 2 ^ (0 + 149 : Int).toNat = 2 ^ 149 := by decide
theorem mone_is : (-1 : Int) * 2 ^ (0 + 149 : Int).toNat = -2 ^ 149 := by decide

/-- what a step of a voice is asked and does -/
def spV (C : Addr) (pre : IV → Prop) (f : IV → IV) : Sp := fun vs H Q _ => ∃ (x : Addr) (i : IV), vs = [.ref x] ∧ VoiceAt C H x i ∧ Bd i ∧ pre i ∧ ∀ H' : Hp, VoiceAt C H' x (f i) → Keeps H x H' → Q .non H'
theorem sc_rise : FnScope ["voice", "one"] ["voice"] (defScope s_rise) := ⟨rfl, rfl, rfl, by decide +kernel, rfl, by decide +kernel, by decide +kernel⟩
theorem ok_rise (T : Txt K mg a d) : FnOk P w K mg base CX0 4 a.f_rise d.f_rise ["voice"] (spV a.c_Voice (fun i => i.stage = 1) IV.shaped) := by
  have G_plus := ok_plus (P := P) (w := w) (base := base) T
  have G_units_of := ok_units_of (P := P) (w := w) (base := base) T
  refine T.d_rise.fn.ok sc_rise (fun vs H Q E h => ?_) (fun cdv A outer s H vs Q E hr h => ?_)
  · obtain ⟨x, i, rfl, _⟩ := h; rfl
  refine ⟨_, (pss_cons (ps_set (i := 1) sc_rise.nd rfl (Or.inl rfl) (pe_call G_units_of (hr.mono (by decide)) rfl T.d_units_of.gl T.d_units_of.fn.kp T.d_units_of.bd .nil pass0 (pa_cons pe_int (pa_cons pe_int pa_nil))))
    (pss_cons (ps_fld (pv 0) (pe_call G_plus (hr.mono (by decide)) rfl T.d_plus.gl T.d_plus.fn.kp T.d_plus.bd .nil pass0 (pa_cons (pe_fld (pv 0) rfl) (pa_cons (pe_fld (pv 0) rfl) pa_nil))) rfl)
    (pss_one (ps_if (pt_cmpR op_ge (pe_fld (pv 0) rfl) (pv 1) (nomark _)) (pss_cons (ps_fld (pv 0) (pv 1) rfl)
    (pss_one (ps_fld (pv 0) (pe_gi T.g_FALLING rfl) rfl))) pss_nil)))), ?_⟩
  obtain ⟨x, i, rfl, ⟨dx, ev⟩, b, hs, k⟩ := h
  have es : i.shaped = if 2 ^ 149 ≤ rAdd i.env i.rise then { i with env := 2 ^ 149, stage := 2 } else { i with env := rAdd i.env i.rise } := by
    unfold IV.shaped
    rw [if_neg (by omega), if_pos hs]
  rw [es] at k
  refine ⟨1, 0, rfl, by decide, by decide, by decide, ?_⟩
  rw [one_is]
  refine ⟨_, rfl, x, _, dx, _, _, rfl, ev, T.cl_Voice, T.n_Voice_env, vF_env _, _, rfl, x, _, dx, _, _, rfl, ev, T.cl_Voice, T.n_Voice_rise, vF_rise _, _, _, rfl, sm_nn b.env.1 (by decide), sm_nn b.rise (by decide), _, rfl, x, _, dx, _, rfl, ev, T.cl_Voice, T.n_Voice_env, few _, ?_⟩
  rw [vP_env]
  refine ⟨_, rfl, x, _, dx, _, _, rfl, upd_same, T.cl_Voice, T.n_Voice_env, vF_env _, _, rfl, _, _, rfl, rfl, _, rfl, ?_⟩
  by_cases c : 2 ^ 149 ≤ rAdd i.env i.rise
  · refine if_true_of (decide_eq_true c) ?_
    refine ⟨_, rfl, _, rfl, x, _, dx, _, rfl, upd_same, T.cl_Voice, T.n_Voice_env, few _, ?_⟩
    rw [vP_env]
    refine ⟨_, rfl, x, _, dx, _, rfl, upd_same, T.cl_Voice, T.n_Voice_stage, few _, ?_⟩
    rw [vQ_stage2]
    rw [if_pos c] at k
    exact k _ ⟨dx, upd_same⟩ (Keeps.refl.put.put.put)
  · refine if_false_of (decide_eq_false c) ?_
    rw [if_neg c] at k
    exact k _ ⟨dx, upd_same⟩ (Keeps.refl.put)

theorem sc_fall : FnScope ["voice", "above"] ["voice"] (defScope s_fall) := ⟨rfl, rfl, rfl, by decide +kernel, rfl, by decide +kernel, by decide +kernel⟩
theorem ok_fall (T : Txt K mg a d) : FnOk P w K mg base CX0 4 a.f_fall d.f_fall ["voice"] (spV a.c_Voice (fun i => i.stage = 2) IV.shaped) := by
  have G_minus := ok_minus (P := P) (w := w) (base := base) T
  have G_plus := ok_plus (P := P) (w := w) (base := base) T
  have G_times := ok_times (P := P) (w := w) (base := base) T
  refine T.d_fall.fn.ok sc_fall (fun vs H Q E h => ?_) (fun cdv A outer s H vs Q E hr h => ?_)
  · obtain ⟨x, i, rfl, _⟩ := h; rfl
  refine ⟨_, (pss_cons (ps_set (i := 1) sc_fall.nd rfl (Or.inl rfl) (pe_call G_minus (hr.mono (by decide)) rfl T.d_minus.gl T.d_minus.fn.kp T.d_minus.bd .nil pass0 (pa_cons (pe_fld (pv 0) rfl) (pa_cons (pe_fld (pv 0) rfl) pa_nil))))
    (pss_one (ps_fld (pv 0) (pe_call G_plus (hr.mono (by decide)) rfl T.d_plus.gl T.d_plus.fn.kp T.d_plus.bd .nil pass0 (pa_cons (pe_fld (pv 0) rfl) (pa_cons (pe_call G_times (hr.mono (by decide)) rfl T.d_times.gl T.d_times.fn.kp T.d_times.bd .nil pass0 (pa_cons (pv 1) (pa_cons (pe_fld (pv 0) rfl) pa_nil))) pa_nil))) rfl))), ?_⟩
  obtain ⟨x, i, rfl, ⟨dx, ev⟩, b, hs, k⟩ := h
  have es : i.shaped = { i with env := rAdd i.keep (rMul (rSub i.env i.keep) i.fall) } := by
    unfold IV.shaped
    rw [if_neg (by omega), if_neg (by omega), if_pos hs]
  rw [es] at k
  have b1 : (rSub i.env i.keep).natAbs ≤ 2 ^ 151 := bound_sub (p := 150) (abs_le b.env.1.1 b.env.1.2) (Nat.le_trans (abs_le b.keep.1.1 b.keep.1.2) (Nat.pow_le_pow_right (by decide) (by decide)))
  have b2 : (rMul (rSub i.env i.keep) i.fall).natAbs ≤ 2 ^ 151 := bound_mul (p := 151) (q := 149) b1 (abs_le b.fall.1 b.fall.2) (by decide)
  refine ⟨_, rfl, x, _, dx, _, _, rfl, ev, T.cl_Voice, T.n_Voice_env, vF_env _, _, rfl, x, _, dx, _, _, rfl, ev, T.cl_Voice, T.n_Voice_keep, vF_keep _, _, _, rfl, sm_nn b.env.1 (by decide), sm_nn b.keep.1 (by decide), ?_⟩
  refine ⟨_, rfl, x, _, dx, _, _, rfl, ev, T.cl_Voice, T.n_Voice_keep, vF_keep _, _, rfl, _, rfl, x, _, dx, _, _, rfl, ev, T.cl_Voice, T.n_Voice_fall, vF_fall _, _, _, rfl, sm_pow b1 (by decide), sm_nn b.fall (by decide), _, _, rfl, sm_nn b.keep.1 (by decide), sm_pow b2 (by decide), _, rfl, x, _, dx, _, rfl, ev, T.cl_Voice, T.n_Voice_env, few _, ?_⟩
  rw [vP_env]
  exact k _ ⟨dx, upd_same⟩ (Keeps.refl.put)

theorem sc_die_away : FnScope ["voice"] ["voice"] (defScope s_die_away) := ⟨rfl, rfl, rfl, by decide +kernel, rfl, by decide +kernel, by decide +kernel⟩
theorem ok_die_away (T : Txt K mg a d) : FnOk P w K mg base CX0 4 a.f_die_away d.f_die_away ["voice"] (spV a.c_Voice (fun i => i.stage = 3) IV.shaped) := by
  have G_times := ok_times (P := P) (w := w) (base := base) T
  have G_units_of := ok_units_of (P := P) (w := w) (base := base) T
  refine T.d_die_away.fn.ok sc_die_away (fun vs H Q E h => ?_) (fun cdv A outer s H vs Q E hr h => ?_)
  · obtain ⟨x, i, rfl, _⟩ := h; rfl
  refine ⟨_, (pss_cons (ps_fld (pv 0) (pe_call G_times (hr.mono (by decide)) rfl T.d_times.gl T.d_times.fn.kp T.d_times.bd .nil pass0 (pa_cons (pe_fld (pv 0) rfl) (pa_cons (pe_fld (pv 0) rfl) pa_nil))) rfl)
    (pss_one (ps_if (pt_cmpR op_lt (pe_fld (pv 0) rfl) (pe_call G_units_of (hr.mono (by decide)) rfl T.d_units_of.gl T.d_units_of.fn.kp T.d_units_of.bd .nil pass0 (pa_cons pe_int (pa_cons (pe_gi T.g_STILL_BELOW_E rfl) pa_nil))) (nomark _)) (pss_cons (ps_fld (pv 0) pe_int rfl)
    (pss_one (ps_fld (pv 0) (pe_gi T.g_STILL rfl) rfl))) pss_nil))), ?_⟩
  obtain ⟨x, i, rfl, ⟨dx, ev⟩, b, hs, k⟩ := h
  have es : i.shaped = if rMul i.env i.go < 2 ^ 129 then { i with env := 0, stage := 0 } else { i with env := rMul i.env i.go } := by
    unfold IV.shaped
    rw [if_neg (by omega), if_neg (by omega), if_neg (by omega)]
  rw [es] at k
  refine ⟨_, rfl, x, _, dx, _, _, rfl, ev, T.cl_Voice, T.n_Voice_env, vF_env _, _, rfl, x, _, dx, _, _, rfl, ev, T.cl_Voice, T.n_Voice_go, vF_go _, _, _, rfl, sm_nn b.env.1 (by decide), sm_nn b.go (by decide), _, rfl, x, _, dx, _, rfl, ev, T.cl_Voice, T.n_Voice_env, few _, ?_⟩
  rw [vP_env]
  have e1 : (1 : Int) * 2 ^ (-20 + 149 : Int).toNat = 2 ^ 129 := by decide
  refine ⟨_, rfl, x, _, dx, _, _, rfl, upd_same, T.cl_Voice, T.n_Voice_env, vF_env _, 1, -20, rfl, by decide, by decide, by decide, _, _, rfl, rfl, _, rfl, ?_⟩
  by_cases c : rMul i.env i.go < 2 ^ 129
  · refine if_true_of (decide_eq_true (by rw [e1]; exact c)) ?_
    refine ⟨_, rfl, x, _, dx, _, rfl, upd_same, T.cl_Voice, T.n_Voice_env, few _, ?_⟩
    rw [vP_env]
    refine ⟨_, rfl, x, _, dx, _, rfl, upd_same, T.cl_Voice, T.n_Voice_stage, few _, ?_⟩
    rw [vQ_stage0]
    rw [if_pos c] at k
    exact k _ ⟨dx, upd_same⟩ (Keeps.refl.put.put.put)
  · refine if_false_of (decide_eq_false (by rw [e1]; exact c)) ?_
    rw [if_neg c] at k
    exact k _ ⟨dx, upd_same⟩ (Keeps.refl.put)

theorem sc_shape_goes_on : FnScope ["voice"] ["voice"] (defScope s_shape_goes_on) := ⟨rfl, rfl, rfl, by decide +kernel, rfl, by decide +kernel, by decide +kernel⟩
theorem ok_shape_goes_on (T : Txt K mg a d) : FnOk P w K mg base CX0 5 a.f_shape_goes_on d.f_shape_goes_on ["voice"] (spV a.c_Voice (fun i => i.stage ≠ 0) IV.shaped) := by
  have G_die_away := ok_die_away (P := P) (w := w) (base := base) T
  have G_fall := ok_fall (P := P) (w := w) (base := base) T
  have G_rise := ok_rise (P := P) (w := w) (base := base) T
  refine T.d_shape_goes_on.fn.ok sc_shape_goes_on (fun vs H Q E h => ?_) (fun cdv A outer s H vs Q E hr h => ?_)
  · obtain ⟨x, i, rfl, _⟩ := h; rfl
  refine ⟨_, (pss_one (ps_if (pt_cmpR op_eq (pe_fld (pv 0) rfl) (pe_gi T.g_RISING rfl) (nomark _)) (pss_one (ps_expr (pe_call G_rise (hr.mono (by decide)) rfl T.d_rise.gl T.d_rise.fn.kp T.d_rise.bd .nil pass0 (pa_cons (pv 0) pa_nil)))) (pss_one (ps_if (pt_cmpR op_eq (pe_fld (pv 0) rfl) (pe_gi T.g_FALLING rfl) (nomark _)) (pss_one (ps_expr (pe_call G_fall (hr.mono (by decide)) rfl T.d_fall.gl T.d_fall.fn.kp T.d_fall.bd .nil pass0 (pa_cons (pv 0) pa_nil)))) (pss_one (ps_expr (pe_call G_die_away (hr.mono (by decide)) rfl T.d_die_away.gl T.d_die_away.fn.kp T.d_die_away.bd .nil pass0 (pa_cons (pv 0) pa_nil)))))))), ?_⟩
  obtain ⟨x, i, rfl, ⟨dx, ev⟩, b, hs, k⟩ := h
  refine ⟨_, rfl, x, _, dx, _, _, rfl, ev, T.cl_Voice, T.n_Voice_stage, vF_stage _, rfl, _, rfl, ?_⟩
  by_cases c : i.stage = 1
  · exact if_true_of (decide_eq_true (by rw [c]; rfl)) ⟨_, rfl, x, i, rfl, ⟨dx, ev⟩, b, c, k⟩
  · refine if_false_of (decide_eq_false (fun z => c (by injection z with z; omega))) ?_
    refine ⟨_, rfl, x, _, dx, _, _, rfl, ev, T.cl_Voice, T.n_Voice_stage, vF_stage _, rfl, _, rfl, ?_⟩
    by_cases c2 : i.stage = 2
    · exact if_true_of (decide_eq_true (by rw [c2]; rfl)) ⟨_, rfl, x, i, rfl, ⟨dx, ev⟩, b, c2, k⟩
    · have c3 : i.stage = 3 := by have := b.stage; omega
      exact if_false_of (decide_eq_false (fun z => c2 (by injection z with z; omega))) ⟨_, rfl, x, i, rfl, ⟨dx, ev⟩, b, c3, k⟩

def sp_part_of_turn : Sp := fun vs H Q _ => ∃ n : Nat, vs = [.int (n : Int)] ∧ n < 2 ^ 32 ∧ Q (.int (part n)) H
theorem sc_part_of_turn : FnScope ["bits", "signed"] ["bits"] (defScope s_part_of_turn) := ⟨rfl, rfl, rfl, by decide +kernel, rfl, by decide +kernel, by decide +kernel⟩
theorem ok_part_of_turn (T : Txt K mg a d) : FnOk P w K mg base CX0 4 a.f_part_of_turn d.f_part_of_turn ["bits"] sp_part_of_turn := by
  have G_made_float := ok_made_float (P := P) (w := w) (base := base) T
  refine T.d_part_of_turn.fn.ok sc_part_of_turn (fun vs H Q E h => ?_) (fun cdv A outer s H vs Q E hr h => ?_)
  · obtain ⟨n, rfl, _⟩ := h; rfl
  refine ⟨_, (pss_cons (ps_set (i := 1) sc_part_of_turn.nd rfl (Or.inl rfl) (pe_ifExp (pt_cmpR op_ge (pv 0) (pe_op op_pow pe_int pe_int) (nomark _)) (pe_op op_sub (pv 0) (pe_op op_pow pe_int pe_int)) (pv 0)))
    (pss_one (ps_ret (pe_op op_shr (pe_call G_made_float (hr.mono (by decide)) rfl T.d_made_float.gl T.d_made_float.fn.kp T.d_made_float.bd .nil pass0 (pa_cons (pv 1) pa_nil)) pe_int)))), ?_⟩
  obtain ⟨n, rfl, hn, q⟩ := h
  rw [← part_is] at q
  refine ⟨_, rfl, _, _, rfl, rfl, ⟨by decide, by decide, by decide⟩, _, _, rfl, rfl, _, rfl, ?_⟩
  by_cases c : (2147483648 : Int) ≤ (n : Int)
  · have es : Sj32.signed32 n = (n : Int) - 4294967296 := if_neg (by omega)
    rw [es] at q
    refine if_true_of (decide_eq_true c) ?_
    refine ⟨_, rfl, _, _, rfl, rfl, ⟨by decide, by decide, by decide⟩, _, _, rfl, rfl, ?_⟩
    exact ⟨_, rfl, (n : Int) - 4294967296, rfl, by omega, _, _, rfl, rfl, (show (0 : Int) ≤ 31 by decide), q⟩
  · have es : Sj32.signed32 n = (n : Int) := if_pos (by omega)
    rw [es] at q
    refine if_false_of (decide_eq_false c) ?_
    refine ⟨_, rfl, ?_⟩
    exact ⟨_, rfl, (n : Int), rfl, by omega, _, _, rfl, rfl, (show (0 : Int) ≤ 31 by decide), q⟩

/-- a wave: what it's asked and gives -/
def spTone (C : Addr) (k : Nat) : Sp := fun vs H Q _ => ∃ (x : Addr) (i : IV), vs = [.ref x] ∧ VoiceAt C H x i ∧ Bd i ∧ i.wave = k ∧ Q (.int i.tone) H
theorem sc_falling_wave : FnScope ["voice"] ["voice"] (defScope s_falling_wave) := ⟨rfl, rfl, rfl, by decide +kernel, rfl, by decide +kernel, by decide +kernel⟩
theorem ok_falling_wave (T : Txt K mg a d) : FnOk P w K mg base CX0 5 a.f_falling_wave d.f_falling_wave ["voice"] (spTone a.c_Voice 0) := by
  have G_part_of_turn := ok_part_of_turn (P := P) (w := w) (base := base) T
  refine T.d_falling_wave.fn.ok sc_falling_wave (fun vs H Q E h => ?_) (fun cdv A outer s H vs Q E hr h => ?_)
  · obtain ⟨x, i, rfl, _⟩ := h; rfl
  refine ⟨_, (pss_one (ps_ret (pe_call G_part_of_turn (hr.mono (by decide)) rfl T.d_part_of_turn.gl T.d_part_of_turn.fn.kp T.d_part_of_turn.bd .nil pass0 (pa_cons (pe_fld (pv 0) rfl) pa_nil)))), ?_⟩
  obtain ⟨x, i, rfl, ⟨dx, ev⟩, b, hw, q⟩ := h
  have e : i.tone = part i.phase := by unfold IV.tone; rw [if_pos hw]
  rw [e] at q
  exact ⟨_, rfl, x, _, dx, _, _, rfl, ev, T.cl_Voice, T.n_Voice_phase, vF_phase _, _, rfl, b.phase, q⟩

theorem sc_up_or_down_wave : FnScope ["voice"] ["voice"] (defScope s_up_or_down_wave) := ⟨rfl, rfl, rfl, by decide +kernel, rfl, by decide +kernel, by decide +kernel⟩
theorem ok_up_or_down_wave (T : Txt K mg a d) : FnOk P w K mg base CX0 2 a.f_up_or_down_wave d.f_up_or_down_wave ["voice"] (spTone a.c_Voice 1) := by
  have G_units_of := ok_units_of (P := P) (w := w) (base := base) T
  refine T.d_up_or_down_wave.fn.ok sc_up_or_down_wave (fun vs H Q E h => ?_) (fun cdv A outer s H vs Q E hr h => ?_)
  · obtain ⟨x, i, rfl, _⟩ := h; rfl
  refine ⟨_, (pss_one (ps_ret (pe_call G_units_of (hr.mono (by decide)) rfl T.d_units_of.gl T.d_units_of.fn.kp T.d_units_of.bd .nil pass0 (pa_cons (pe_ifExp (pt_cmpR op_lt (pe_fld (pv 0) rfl) (pe_fld (pv 0) rfl) (nomark _)) pe_int (pe_un un_neg pe_int)) (pa_cons pe_int pa_nil))))), ?_⟩
  obtain ⟨x, i, rfl, ⟨dx, ev⟩, b, hw, q⟩ := h
  have e : i.tone = if i.phase < i.width then 2 ^ 149 else -2 ^ 149 := by unfold IV.tone; rw [if_neg (by omega), if_pos hw]
  rw [e] at q
  refine ⟨_, rfl, x, _, dx, _, _, rfl, ev, T.cl_Voice, T.n_Voice_phase, vF_phase _, _, rfl, x, _, dx, _, _, rfl, ev, T.cl_Voice, T.n_Voice_width, vF_width _, _, _, rfl, rfl, _, rfl, ?_⟩
  by_cases c : i.phase < i.width
  · rw [if_pos c, ← one_is] at q
    exact if_true_of (decide_eq_true (by omega)) ⟨1, 0, rfl, by decide, by decide, by decide, q⟩
  · rw [if_neg c, ← mone_is] at q
    exact if_false_of (decide_eq_false (by omega)) ⟨_, rfl, -1, 0, rfl, by decide, by decide, by decide, q⟩

theorem sc_up_and_down_wave : FnScope ["voice"] ["voice"] (defScope s_up_and_down_wave) := ⟨rfl, rfl, rfl, by decide +kernel, rfl, by decide +kernel, by decide +kernel⟩
theorem ok_up_and_down_wave (T : Txt K mg a d) : FnOk P w K mg base CX0 5 a.f_up_and_down_wave d.f_up_and_down_wave ["voice"] (spTone a.c_Voice 2) := by
  have G_minus := ok_minus (P := P) (w := w) (base := base) T
  have G_part_of_turn := ok_part_of_turn (P := P) (w := w) (base := base) T
  have G_units_of := ok_units_of (P := P) (w := w) (base := base) T
  refine T.d_up_and_down_wave.fn.ok sc_up_and_down_wave (fun vs H Q E h => ?_) (fun cdv A outer s H vs Q E hr h => ?_)
  · obtain ⟨x, i, rfl, _⟩ := h; rfl
  refine ⟨_, (pss_one (ps_ret (pe_call G_minus (hr.mono (by decide)) rfl T.d_minus.gl T.d_minus.fn.kp T.d_minus.bd .nil pass0 (pa_cons (pe_op op_mulW pe_int (pe_callB call_abs (by rfl) T.b_abs (by decide +kernel) (pa_cons (pe_call G_part_of_turn (hr.mono (by decide)) rfl T.d_part_of_turn.gl T.d_part_of_turn.fn.kp T.d_part_of_turn.bd .nil pass0 (pa_cons (pe_fld (pv 0) rfl) pa_nil)) pa_nil))) (pa_cons (pe_call G_units_of (hr.mono (by decide)) rfl T.d_units_of.gl T.d_units_of.fn.kp T.d_units_of.bd .nil pass0 (pa_cons pe_int (pa_cons pe_int pa_nil))) pa_nil))))), ?_⟩
  obtain ⟨x, i, rfl, ⟨dx, ev⟩, b, hw, q⟩ := h
  have e : i.tone = rSub (2 * (if part i.phase < 0 then - part i.phase else part i.phase)) (1 * 2 ^ (0 + 149 : Int).toNat) := by
    unfold IV.tone
    rw [if_neg (by omega), if_neg (by omega), if_pos hw, tone2_is, one_is]
    congr 2
    split <;> omega
  have bp := part_bound i.phase b.phase
  have ba : (if part i.phase < 0 then - part i.phase else part i.phase).natAbs ≤ 2 ^ 149 := by split <;> omega
  rw [e] at q
  refine ⟨_, rfl, x, _, dx, _, _, rfl, ev, T.cl_Voice, T.n_Voice_phase, vF_phase _, _, rfl, b.phase, _, rfl, _, _, rfl, rfl, wide_mul (a := 2) (b := 150) (by decide) (Nat.lt_of_le_of_lt ba (Nat.pow_lt_pow_right (by decide) (by decide))) (by decide) (by decide) (by decide), 1, 0, rfl, by decide, by decide, by decide, _, _, rfl, ?_, ?_, q⟩
  · refine sm_pow (p := 150) ?_ (by decide)
    rw [Int.natAbs_mul, Nat.pow_succ, Nat.mul_comm]
    exact Nat.mul_le_mul ba (Nat.le_refl _)
  · rw [one_is]
    exact sm_pow (p := 149) (by decide) (by decide)

theorem sc_noise_wave : FnScope ["voice"] ["voice"] (defScope s_noise_wave) := ⟨rfl, rfl, rfl, by decide +kernel, rfl, by decide +kernel, by decide +kernel⟩
theorem ok_noise_wave (T : Txt K mg a d) : FnOk P w K mg base CX0 5 a.f_noise_wave d.f_noise_wave ["voice"] (spTone a.c_Voice 3) := by
  have G_part_of_turn := ok_part_of_turn (P := P) (w := w) (base := base) T
  refine T.d_noise_wave.fn.ok sc_noise_wave (fun vs H Q E h => ?_) (fun cdv A outer s H vs Q E hr h => ?_)
  · obtain ⟨x, i, rfl, _⟩ := h; rfl
  refine ⟨_, (pss_one (ps_ret (pe_call G_part_of_turn (hr.mono (by decide)) rfl T.d_part_of_turn.gl T.d_part_of_turn.fn.kp T.d_part_of_turn.bd .nil pass0 (pa_cons (pe_fld (pv 0) rfl) pa_nil)))), ?_⟩
  obtain ⟨x, i, rfl, ⟨dx, ev⟩, b, hw, q⟩ := h
  have e : i.tone = part i.draw := by unfold IV.tone; rw [if_neg (by omega), if_neg (by omega), if_neg (by omega)]
  rw [e] at q
  exact ⟨_, rfl, x, _, dx, _, _, rfl, ev, T.cl_Voice, T.n_Voice_draw, vF_draw _, _, rfl, b.draw, q⟩

theorem wave_at (T : Txt K mg a d) {k : Nat} (h : k ≤ 3) : ∃ f : Addr, ([V.ref a.f_falling_wave, V.ref a.f_up_or_down_wave, V.ref a.f_up_and_down_wave, V.ref a.f_noise_wave] : List V)[k]? = some (V.ref f) ∧ PySem.W.keepIn K (.ref f) = true ∧ FnR P w K mg base CX0 5 f (spTone a.c_Voice k) := by
  have raw : ∀ {f : Addr} {fd : FuncData} {sp : Sp}, FnOk P w K mg base CX0 5 f fd ["voice"] sp → Binds K fd ["voice"] [] → FnR P w K mg base CX0 5 f sp := fun F b => (F.raw b .nil).imp fun vs H Q E h => by rw [List.append_nil]; exact h
  have up : ∀ {j : Nat} {f : Addr} {fd : FuncData} {sp : Sp}, j ≤ 5 → FnOk P w K mg base CX0 j f fd ["voice"] sp → FnOk P w K mg base CX0 5 f fd ["voice"] sp := fun hj F => ⟨F.len, fun A outer s H args us vs Q E hr => F.run A outer s H args us vs Q E (hr.mono hj)⟩
  have cs : k = 0 ∨ k = 1 ∨ k = 2 ∨ k = 3 := by omega
  rcases cs with rfl | rfl | rfl | rfl
  · exact ⟨_, rfl, T.d_falling_wave.fn.kp, raw (ok_falling_wave T) T.d_falling_wave.bd⟩
  · exact ⟨_, rfl, T.d_up_or_down_wave.fn.kp, raw (up (by decide) (ok_up_or_down_wave T)) T.d_up_or_down_wave.bd⟩
  · exact ⟨_, rfl, T.d_up_and_down_wave.fn.kp, raw (ok_up_and_down_wave T) T.d_up_and_down_wave.bd⟩
  · exact ⟨_, rfl, T.d_noise_wave.fn.kp, raw (ok_noise_wave T) T.d_noise_wave.bd⟩
end
end VS


set_option Elab.async false
set_option maxRecDepth 100000
set_option maxHeartbeats 4000000
namespace VS
open PySem PySem.Spec PyProof.Rows L2
section
variable {P : Program} {w : World} {K : PySem.W.Frag} {mg : Str → Option Value} {base : Heap} {a : Ad} {d : Fd}

theorem out_at {i : IV} (y : Int) (h : i.mode ≤ 3) : ([V.int y, V.int i.low1, V.int (i.band1 y), V.int (i.high1 y)] : List V)[((i.mode : Int)).toNat]? = some (V.int (i.out y)) := by
  have cs : i.mode = 0 ∨ i.mode = 1 ∨ i.mode = 2 ∨ i.mode = 3 := by omega
  have key : ∀ (m : Nat) (y l1 l2 l3 : Int), m = 0 ∨ m = 1 ∨ m = 2 ∨ m = 3 → ([V.int y, V.int l1, V.int l2, V.int l3] : List V)[((m : Int)).toNat]? = some (V.int (if m = 0 then y else if m = 1 then l1 else if m = 2 then l2 else l3)) := by
    intro m y l1 l2 l3 h
    rcases h with rfl | rfl | rfl | rfl <;> rfl
  exact key i.mode y _ _ _ cs
def sp_filtered (C : Addr) : Sp := fun vs H Q _ => ∃ (x : Addr) (i : IV) (y : Int), vs = [.ref x, .int y] ∧ VoiceAt C H x i ∧ Bd i ∧ y.natAbs ≤ 2 ^ 153 ∧ ∀ H' : Hp, VoiceAt C H' x (i.filtered y) → Keeps H x H' → Q (.int (i.out y)) H'
theorem sc_filtered : FnScope ["voice", "x", "low", "high", "band"] ["voice", "x"] (defScope s_filtered) := ⟨rfl, rfl, rfl, by decide +kernel, rfl, by decide +kernel, by decide +kernel⟩
theorem ok_filtered (T : Txt K mg a d) : FnOk P w K mg base CX0 4 a.f_filtered d.f_filtered ["voice", "x"] (sp_filtered a.c_Voice) := by
  have G_held := ok_held (P := P) (w := w) (base := base) T
  have G_minus := ok_minus (P := P) (w := w) (base := base) T
  have G_plus := ok_plus (P := P) (w := w) (base := base) T
  have G_times := ok_times (P := P) (w := w) (base := base) T
  refine T.d_filtered.fn.ok sc_filtered (fun vs H Q E h => ?_) (fun cdv A outer s H vs Q E hr h => ?_)
  · obtain ⟨x, i, y, rfl, _⟩ := h; rfl
  refine ⟨_, (pss_cons (ps_set (i := 2) sc_filtered.nd rfl (Or.inl rfl) (pe_call G_held (hr.mono (by decide)) rfl T.d_held.gl T.d_held.fn.kp T.d_held.bd .nil pass0 (pa_cons (pe_call G_plus (hr.mono (by decide)) rfl T.d_plus.gl T.d_plus.fn.kp T.d_plus.bd .nil pass0 (pa_cons (pe_fld (pv 0) rfl) (pa_cons (pe_call G_times (hr.mono (by decide)) rfl T.d_times.gl T.d_times.fn.kp T.d_times.bd .nil pass0 (pa_cons (pe_fld (pv 0) rfl) (pa_cons (pe_fld (pv 0) rfl) pa_nil))) pa_nil))) pa_nil)))
    (pss_cons (ps_set (i := 3) sc_filtered.nd rfl (Or.inl rfl) (pe_call G_held (hr.mono (by decide)) rfl T.d_held.gl T.d_held.fn.kp T.d_held.bd .nil pass0 (pa_cons (pe_call G_minus (hr.mono (by decide)) rfl T.d_minus.gl T.d_minus.fn.kp T.d_minus.bd .nil pass0 (pa_cons (pe_call G_minus (hr.mono (by decide)) rfl T.d_minus.gl T.d_minus.fn.kp T.d_minus.bd .nil pass0 (pa_cons (pv 1) (pa_cons (pv 2) pa_nil))) (pa_cons (pe_call G_times (hr.mono (by decide)) rfl T.d_times.gl T.d_times.fn.kp T.d_times.bd .nil pass0 (pa_cons (pe_fld (pv 0) rfl) (pa_cons (pe_fld (pv 0) rfl) pa_nil))) pa_nil))) pa_nil)))
    (pss_cons (ps_set (i := 4) sc_filtered.nd rfl (Or.inl rfl) (pe_call G_held (hr.mono (by decide)) rfl T.d_held.gl T.d_held.fn.kp T.d_held.bd .nil pass0 (pa_cons (pe_call G_plus (hr.mono (by decide)) rfl T.d_plus.gl T.d_plus.fn.kp T.d_plus.bd .nil pass0 (pa_cons (pe_fld (pv 0) rfl) (pa_cons (pe_call G_times (hr.mono (by decide)) rfl T.d_times.gl T.d_times.fn.kp T.d_times.bd .nil pass0 (pa_cons (pe_fld (pv 0) rfl) (pa_cons (pv 3) pa_nil))) pa_nil))) pa_nil)))
    (pss_cons (ps_fld (pv 0) (pv 2) rfl)
    (pss_cons (ps_fld (pv 0) (pv 4) rfl)
    (pss_one (ps_ret (pe_ix ix_tup (pe_tup (pa_cons (pv 1) (pa_cons (pv 2) (pa_cons (pv 4) (pa_cons (pv 3) pa_nil))))) (pe_fld (pv 0) rfl) (fun _ _ => rfl))))))))), ?_⟩
  obtain ⟨x, i, y, rfl, ⟨dx, ev⟩, b, hy, k⟩ := h
  have b1 := bound_mul (p := 149) (q := 153) (abs_le b.cut.1 b.cut.2) b.band (by decide)
  have s1 : Sm i.low1 := sm_hold _
  have s3 : Sm (i.high1 y) := sm_hold _
  have b2 : (rSub y i.low1).natAbs ≤ 2 ^ 154 := bound_sub (p := 153) hy (hold_bound _)
  have b3 := bound_mul (p := 150) (q := 153) (abs_le b.damp.1 b.damp.2) b.band (by decide)
  have b4 : (rMul i.cut (i.high1 y)).natAbs ≤ 2 ^ 153 := bound_mul (p := 149) (q := 153) (abs_le b.cut.1 b.cut.2) (hold_bound _) (by decide)
  have e1 : hold (rAdd i.low (rMul i.cut i.band)) = i.low1 := rfl
  have e2 : hold (rSub (rSub y i.low1) (rMul i.damp i.band)) = i.high1 y := rfl
  have e3 : hold (rAdd i.band (rMul i.cut (i.high1 y))) = i.band1 y := rfl
  have e4 : vF { i with low := i.low1, band := i.band1 y } = vF (i.filtered y) := rfl
  obtain ⟨l1, hl1⟩ : ∃ z, z = i.low1 := ⟨_, rfl⟩
  obtain ⟨h1, hh1⟩ : ∃ z, z = i.high1 y := ⟨_, rfl⟩
  obtain ⟨d1, hd1⟩ : ∃ z, z = i.band1 y := ⟨_, rfl⟩
  have at_ := out_at y b.mode
  rw [← hl1, ← hh1, ← hd1] at at_
  rw [← hl1, ← hd1] at e4
  rw [← hl1] at e1 e2 s1 b2
  rw [← hh1] at e2 e3 s3 b4
  rw [← hd1] at e3
  refine ⟨_, rfl, x, _, dx, _, _, rfl, ev, T.cl_Voice, T.n_Voice_low, vF_low _, _, rfl, x, _, dx, _, _, rfl, ev, T.cl_Voice, T.n_Voice_cut, vF_cut _, _, rfl, x, _, dx, _, _, rfl, ev, T.cl_Voice, T.n_Voice_band, vF_band _, _, _, rfl, sm_nn b.cut (by decide), sm_pow b.band (by decide), _, _, rfl, sm_pow b.low (by decide), sm_pow b1 (by decide), _, rfl, ?_⟩
  rw [e1]
  refine ⟨_, rfl, _, rfl, _, _, rfl, sm_pow hy (by decide), s1, _, rfl, x, _, dx, _, _, rfl, ev, T.cl_Voice, T.n_Voice_damp, vF_damp _, _, rfl, x, _, dx, _, _, rfl, ev, T.cl_Voice, T.n_Voice_band, vF_band _, _, _, rfl, sm_nn b.damp (by decide), sm_pow b.band (by decide), _, _, rfl, sm_pow b2 (by decide), sm_pow b3 (by decide), _, rfl, ?_⟩
  rw [e2]
  refine ⟨_, rfl, x, _, dx, _, _, rfl, ev, T.cl_Voice, T.n_Voice_band, vF_band _, _, rfl, x, _, dx, _, _, rfl, ev, T.cl_Voice, T.n_Voice_cut, vF_cut _, _, rfl, _, _, rfl, sm_nn b.cut (by decide), s3, _, _, rfl, sm_pow b.band (by decide), sm_pow b4 (by decide), _, rfl, ?_⟩
  rw [e3]
  refine ⟨_, rfl, _, rfl, x, _, dx, _, rfl, ev, T.cl_Voice, T.n_Voice_low, few _, ?_⟩
  rw [vP_low]
  refine ⟨_, rfl, _, rfl, x, _, dx, _, rfl, upd_same, T.cl_Voice, T.n_Voice_band, few _, ?_⟩
  rw [vP_band, e4]
  refine ⟨_, rfl, _, rfl, _, rfl, _, rfl, (by show 4 ≤ sizeLine; decide), fun t ht => ?_⟩
  have xt : x ≠ t := fun z => by rw [← z, upd_same] at ht; cases ht
  refine ⟨_, rfl, x, _, dx, _, _, rfl, (upd_ne xt).trans upd_same, T.cl_Voice, T.n_Voice_mode, vF_mode _, t, _, _, _, rfl, rfl, SqT.of upd_same, at_nat (Int.natCast_nonneg _) at_, ?_⟩
  exact k _ ⟨dx, (upd_ne xt).trans upd_same⟩ ((Keeps.refl.put.put).new ht)

def sp_within_32_bits : Sp := fun vs H Q _ => ∃ n : Int, vs = [.int n] ∧ Q (.int (n % 4294967296)) H
theorem sc_within_32_bits : FnScope ["number"] ["number"] (defScope s_within_32_bits) := ⟨rfl, rfl, rfl, by decide +kernel, rfl, by decide +kernel, by decide +kernel⟩
theorem ok_within_32_bits (T : Txt K mg a d) : FnOk P w K mg base CX0 1 a.f_within_32_bits d.f_within_32_bits ["number"] sp_within_32_bits := by
  refine T.d_within_32_bits.fn.ok sc_within_32_bits (fun vs H Q E h => ?_) (fun cdv A outer s H vs Q E hr h => ?_)
  · obtain ⟨n, rfl, _⟩ := h; rfl
  refine ⟨_, (pss_one (ps_ret (pe_op op_mod (pv 0) (pe_op op_pow pe_int pe_int)))), ?_⟩
  obtain ⟨n, rfl, q⟩ := h
  exact ⟨_, rfl, _, _, rfl, rfl, ⟨by decide, by decide, by decide⟩, _, _, rfl, rfl, (show (0 : Int) < 4294967296 by decide), q⟩

def sp_voice_sample (C : Addr) : Sp := fun vs H Q _ => ∃ (x : Addr) (i : IV), vs = [.ref x] ∧ VoiceAt C H x i ∧ Bd i ∧ ∀ H' : Hp, VoiceAt C H' x i.next → Keeps H x H' → Q (.int i.sounds) H'
theorem shaped_wave (i : IV) : i.shaped.wave = i.wave := by
  unfold IV.shaped
  repeat' split
  all_goals rfl
theorem sc_voice_sample : FnScope ["voice", "wave", "heard", "sample"] ["voice"] (defScope s_voice_sample) := ⟨rfl, rfl, rfl, by decide +kernel, rfl, by decide +kernel, by decide +kernel⟩
theorem ok_voice_sample (T : Txt K mg a d) : FnOk P w K mg base CX0 6 a.f_voice_sample d.f_voice_sample ["voice"] (sp_voice_sample a.c_Voice) := by
  have G_filtered := ok_filtered (P := P) (w := w) (base := base) T
  have G_shape_goes_on := ok_shape_goes_on (P := P) (w := w) (base := base) T
  have G_times := ok_times (P := P) (w := w) (base := base) T
  have G_within_32_bits := ok_within_32_bits (P := P) (w := w) (base := base) T
  refine T.d_voice_sample.fn.ok sc_voice_sample (fun vs H Q E h => ?_) (fun cdv A outer s H vs Q E hr h => ?_)
  · obtain ⟨x, i, rfl, _⟩ := h; rfl
  obtain ⟨x, i, rfl, ⟨dx, ev⟩, b, k⟩ := h
  have bs := bd_shaped b
  obtain ⟨f, hf, kp, F⟩ := wave_at (P := P) (w := w) (base := base) T bs.wave
  refine ⟨_, (pss_cons (ps_if (pt_cmpR op_eq (pe_fld (pv 0) rfl) (pe_gi T.g_STILL rfl) (nomark _)) (pss_one (ps_ret pe_int)) pss_nil)
    (pss_cons (ps_expr (pe_call G_shape_goes_on (hr.mono (by decide)) rfl T.d_shape_goes_on.gl T.d_shape_goes_on.fn.kp T.d_shape_goes_on.bd .nil pass0 (pa_cons (pv 0) pa_nil)))
    (pss_cons (ps_set (i := 1) sc_voice_sample.nd rfl (Or.inl rfl) (pe_ix ix_tup (pe_glob (v := V.ref a.o_WAVES) rfl T.g_WAVES rfl) (pe_fld (pv 0) rfl) (fun _ _ => rfl)))
    (pss_cons (ps_set (i := 2) sc_voice_sample.nd rfl (Or.inl rfl) (pe_call G_filtered (hr.mono (by decide)) rfl T.d_filtered.gl T.d_filtered.fn.kp T.d_filtered.bd .nil pass0 (pa_cons (pv 0) (pa_cons (ItX.pe_callV (i := 1) F (hr.mono (by decide)) kp pass0 rfl (Or.inl rfl) (pa_cons (pv 0) pa_nil)) pa_nil))))
    (pss_cons (ps_set (i := 3) sc_voice_sample.nd rfl (Or.inl rfl) (pe_call G_times (hr.mono (by decide)) rfl T.d_times.gl T.d_times.fn.kp T.d_times.bd .nil pass0 (pa_cons (pe_call G_times (hr.mono (by decide)) rfl T.d_times.gl T.d_times.fn.kp T.d_times.bd .nil pass0 (pa_cons (pv 2) (pa_cons (pe_fld (pv 0) rfl) pa_nil))) (pa_cons (pe_fld (pv 0) rfl) pa_nil))))
    (pss_cons (ps_fld (pv 0) (pe_call G_within_32_bits (hr.mono (by decide)) rfl T.d_within_32_bits.gl T.d_within_32_bits.fn.kp T.d_within_32_bits.bd .nil pass0 (pa_cons (pe_op op_add (pe_fld (pv 0) rfl) (pe_fld (pv 0) rfl)) pa_nil)) rfl)
    (pss_cons (ps_fld (pv 0) (pe_call G_within_32_bits (hr.mono (by decide)) rfl T.d_within_32_bits.gl T.d_within_32_bits.fn.kp T.d_within_32_bits.bd .nil pass0 (pa_cons (pe_op op_add (pe_op op_mulW pe_int (pe_fld (pv 0) rfl)) pe_int) pa_nil)) rfl)
    (pss_one (ps_ret (pv 3)))))))))), ?_⟩
  refine ⟨_, rfl, x, _, dx, _, _, rfl, ev, T.cl_Voice, T.n_Voice_stage, vF_stage _, rfl, _, rfl, ?_⟩
  by_cases c : i.stage = 0
  · have e1 : i.next = i := if_pos c
    have e2 : i.sounds = 0 := if_pos c
    rw [e1, e2] at k
    exact if_true_of (decide_eq_true (by rw [c]; rfl)) (k H ⟨dx, ev⟩ Keeps.refl)
  · refine if_false_of (decide_eq_false (fun z => c (by injection z with z; omega))) ?_
    have e1 : i.next = (i.shaped.filtered i.shaped.tone).moved := if_neg c
    have e2 : i.sounds = rMul (rMul (i.shaped.out i.shaped.tone) i.shaped.env) i.shaped.level := if_neg c
    rw [e1, e2] at k
    refine ⟨_, rfl, x, i, rfl, ⟨dx, ev⟩, b, c, fun H1 v1 k1 => ?_⟩
    obtain ⟨dx, ev1⟩ := v1
    have tb : i.shaped.tone.natAbs ≤ 2 ^ 153 := Nat.le_trans (tone_bound bs) (Nat.pow_le_pow_right (by decide) (by decide))
    have ob := out_bound (i := i.shaped) tb
    have mb := bound_mul (p := 153) (q := 150) ob (abs_le bs.env.1.1 bs.env.1.2) (by decide)
    refine ⟨_, rfl, x, _, dx, _, _, rfl, ev1, T.cl_Voice, T.n_Voice_wave, vF_wave _, a.o_WAVES, _, _, .ref f, rfl, rfl, .inr T.l_WAVES, at_nat (by omega) hf, ?_⟩
    refine ⟨_, rfl, rfl, _, rfl, x, i.shaped, rfl, ⟨dx, ev1⟩, bs, rfl, x, i.shaped, _, rfl, ⟨dx, ev1⟩, bs, tb, fun H2 v2 k2 => ?_⟩
    obtain ⟨dx, ev2⟩ := v2
    refine ⟨_, rfl, _, rfl, x, _, dx, _, _, rfl, ev2, T.cl_Voice, T.n_Voice_env, vF_env _, _, _, rfl, sm_pow ob (by decide), sm_nn bs.env.1 (by decide), _, rfl, x, _, dx, _, _, rfl, ev2, T.cl_Voice, T.n_Voice_level, vF_level _, _, _, rfl, sm_pow mb (by decide), sm_nn bs.level (by decide), ?_⟩
    refine ⟨_, rfl, x, _, dx, _, _, rfl, ev2, T.cl_Voice, T.n_Voice_phase, vF_phase _, _, rfl, x, _, dx, _, _, rfl, ev2, T.cl_Voice, T.n_Voice_step, vF_step _, _, _, rfl, rfl, _, rfl, _, rfl, x, _, dx, _, rfl, ev2, T.cl_Voice, T.n_Voice_phase, few _, ?_⟩
    rw [vN_phase (n := (i.shaped.phase + i.shaped.step) % 2 ^ 32) _ (by show ((i.shaped.phase : Int) + (i.shaped.step : Int)) % 4294967296 = _; omega)]
    refine ⟨_, rfl, x, _, dx, _, _, rfl, upd_same, T.cl_Voice, T.n_Voice_draw, vF_draw _, _, _, rfl, rfl, wide_mul (a := 64) (b := 64) (by decide) (Nat.lt_of_lt_of_le bs.draw (by decide)) (by decide) (by decide) (by decide), _, _, rfl, rfl, _, rfl, _, rfl, x, _, dx, _, rfl, upd_same, T.cl_Voice, T.n_Voice_draw, few _, ?_⟩
    rw [vN_draw (n := (i.shaped.draw * 1664525 + 1013904223) % 2 ^ 32) _ (by show (1664525 * (i.shaped.draw : Int) + 1013904223) % 4294967296 = _; omega)]
    exact ⟨_, rfl, k _ ⟨dx, upd_same⟩ ((k1.trans k2).put.put)⟩
end
end VS


set_option Elab.async false
set_option maxRecDepth 100000
set_option maxHeartbeats 4000000
namespace VS
open PySem PySem.Spec PyProof.Rows L2
section
variable {P : Program} {w : World} {K : PySem.W.Frag} {mg : Str → Option Value} {base : Heap} {a : Ad} {d : Fd}

theorem ixN_nat {n k : Nat} (h : k < n) : ixN n (k : Int) = some k := by
  unfold ixN
  rw [if_pos (by omega), if_pos (by omega)]
  rfl
def sp_side_echoed (C : Addr) : Sp := fun vs H Q _ => ∃ (ec row dx lr rr : Addr) (x f g dd : Int) (pl : Nat) (L : List Int), vs = [.ref ec, .ref row, .int x] ∧ H ec = some (.ins C dx (eF lr rr f g pl)) ∧ H row = some (.lst (L.map V.int)) ∧ L[pl]? = some dd ∧
  x.natAbs ≤ 2 ^ 162 ∧ dd.natAbs ≤ 2 ^ 153 ∧ (0 ≤ f ∧ f ≤ 2 ^ 149) ∧ (0 ≤ g ∧ g ≤ 2 ^ 149) ∧ Q (.int (rAdd x (rMul g dd))) (upd H row (.lst ((L.map V.int).set pl (.int (hold (rAdd x (rMul f dd)))))))
theorem sc_side_echoed : FnScope ["echo", "row", "x", "first"] ["echo", "row", "x"] (defScope s_side_echoed) := ⟨rfl, rfl, rfl, by decide +kernel, rfl, by decide +kernel, by decide +kernel⟩
theorem ok_side_echoed (T : Txt K mg a d) : FnOk P w K mg base CX0 4 a.f_side_echoed d.f_side_echoed ["echo", "row", "x"] (sp_side_echoed a.c_Echo) := by
  have G_held := ok_held (P := P) (w := w) (base := base) T
  have G_plus := ok_plus (P := P) (w := w) (base := base) T
  have G_times := ok_times (P := P) (w := w) (base := base) T
  refine T.d_side_echoed.fn.ok sc_side_echoed (fun vs H Q E h => ?_) (fun cdv A outer s H vs Q E hr h => ?_)
  · obtain ⟨ec, row, dx, lr, rr, x, f, g, dd, pl, L, rfl, _⟩ := h; rfl
  refine ⟨_, (pss_cons (ps_set (i := 3) sc_side_echoed.nd rfl (Or.inl rfl) (pe_ix ix_list (pv 1) (pe_fld (pv 0) rfl) (fun _ _ => rfl)))
    (pss_cons (ps_asg (pe_call G_held (hr.mono (by decide)) rfl T.d_held.gl T.d_held.fn.kp T.d_held.bd .nil pass0 (pa_cons (pe_call G_plus (hr.mono (by decide)) rfl T.d_plus.gl T.d_plus.fn.kp T.d_plus.bd .nil pass0 (pa_cons (pv 2) (pa_cons (pe_call G_times (hr.mono (by decide)) rfl T.d_times.gl T.d_times.fn.kp T.d_times.bd .nil pass0 (pa_cons (pe_fld (pv 0) rfl) (pa_cons (pv 3) pa_nil))) pa_nil))) pa_nil)) (pg_sub (pv 1) (pe_fld (pv 0) rfl) set_list))
    (pss_one (ps_ret (pe_call G_plus (hr.mono (by decide)) rfl T.d_plus.gl T.d_plus.fn.kp T.d_plus.bd .nil pass0 (pa_cons (pv 2) (pa_cons (pe_call G_times (hr.mono (by decide)) rfl T.d_times.gl T.d_times.fn.kp T.d_times.bd .nil pass0 (pa_cons (pe_fld (pv 0) rfl) (pa_cons (pv 3) pa_nil))) pa_nil))))))), ?_⟩
  obtain ⟨ec, row, dx, lr, rr, x, f, g, dd, pl, L, rfl, he, hl, hd, bx, bd, bf, bg, q⟩ := h
  have pll : pl < L.length := (List.getElem?_eq_some_iff.mp hd).1
  have hd2 : (L.map V.int)[((pl : Int)).toNat]? = some (V.int dd) := by rw [List.getElem?_map, Int.toNat_natCast, hd]; rfl
  have b1 := bound_mul (p := 149) (q := 153) (abs_le bf.1 bf.2) bd (by decide)
  have b2 := bound_mul (p := 149) (q := 153) (abs_le bg.1 bg.2) bd (by decide)
  have er : ec ≠ row := lst_ne he hl
  refine ⟨_, rfl, _, rfl, ec, _, dx, _, _, rfl, he, T.cl_Echo, T.n_Echo_place, eF_place .., row, _, _, _, rfl, rfl, SqL.of hl, at_nat (Int.natCast_nonneg _) hd2, ?_⟩
  refine ⟨_, rfl, _, rfl, ec, _, dx, _, _, rfl, he, T.cl_Echo, T.n_Echo_feed, eF_feed .., _, rfl, _, _, rfl, sm_nn bf (by decide), sm_pow bd (by decide), _, _, rfl, sm_pow bx (by decide), sm_pow b1 (by decide), _, rfl, _, rfl, _, rfl, ec, _, dx, _, _, rfl, he, T.cl_Echo, T.n_Echo_place, eF_place .., row, _, _, pl, rfl, rfl, hl, ixN_nat (by rw [List.length_map]; exact pll), ?_⟩
  exact ⟨_, rfl, _, rfl, ec, _, dx, _, _, rfl, (upd_ne er).trans he, T.cl_Echo, T.n_Echo_heard, eF_heard .., _, rfl, _, _, rfl, sm_nn bg (by decide), sm_pow bd (by decide), _, _, rfl, sm_pow bx (by decide), sm_pow b2 (by decide), q⟩

def IH.rows (h : IH) (x y : Int) : IH := { h with left := rowI h.feed x h.left, right := rowI h.feed y h.right }
def sp_echoed (C : Addr) : Sp := fun vs H Q _ => ∃ (ec lr rr : Addr) (L R : List Int) (pl : Nat) (h : IH) (x y : Int), vs = [.ref ec, .int x, .int y] ∧ EchoAt C H ec lr rr L R pl h ∧ BdH h ∧ x.natAbs ≤ 2 ^ 162 ∧ y.natAbs ≤ 2 ^ 162 ∧
  ∀ (H' : Hp) (t : Addr) (L' R' : List Int) (pl' : Nat), H' t = some (.tup [.int (heardI h.heard x h.left), .int (heardI h.heard y h.right)]) → EchoAt C H' ec lr rr L' R' pl' (h.rows x y) → (∀ b o, H b = some o → b ≠ ec → b ≠ lr → b ≠ rr → H' b = some o) → H t = none → Q (.ref t) H'
theorem sc_echoed : FnScope ["echo", "left", "right", "length", "told_left", "told_right"] ["echo", "left", "right"] (defScope s_echoed) := ⟨rfl, rfl, rfl, by decide +kernel, rfl, by decide +kernel, by decide +kernel⟩
theorem ok_echoed (T : Txt K mg a d) : FnOk P w K mg base CX0 5 a.f_echoed d.f_echoed ["echo", "left", "right"] (sp_echoed a.c_Echo) := by
  have G_side_echoed := ok_side_echoed (P := P) (w := w) (base := base) T
  refine T.d_echoed.fn.ok sc_echoed (fun vs H Q E h => ?_) (fun cdv A outer s H vs Q E hr h => ?_)
  · obtain ⟨ec, lr, rr, L, R, pl, h, x, y, rfl, _⟩ := h; rfl
  refine ⟨_, (pss_cons (ps_set (i := 3) sc_echoed.nd rfl (Or.inl rfl) (pe_callB call_len_seq (by rfl) T.b_len (by decide +kernel) (pa_cons (pe_fld (pv 0) rfl) pa_nil)))
    (pss_cons (ps_if (pt_cmpR op_eq (pv 3) pe_int (nomark _)) (pss_one (ps_ret (pe_tup (pa_cons (pv 1) (pa_cons (pv 2) pa_nil))))) pss_nil)
    (pss_cons (ps_set (i := 4) sc_echoed.nd rfl (Or.inl rfl) (pe_call G_side_echoed (hr.mono (by decide)) rfl T.d_side_echoed.gl T.d_side_echoed.fn.kp T.d_side_echoed.bd .nil pass0 (pa_cons (pv 0) (pa_cons (pe_fld (pv 0) rfl) (pa_cons (pv 1) pa_nil)))))
    (pss_cons (ps_set (i := 5) sc_echoed.nd rfl (Or.inl rfl) (pe_call G_side_echoed (hr.mono (by decide)) rfl T.d_side_echoed.gl T.d_side_echoed.fn.kp T.d_side_echoed.bd .nil pass0 (pa_cons (pv 0) (pa_cons (pe_fld (pv 0) rfl) (pa_cons (pv 2) pa_nil)))))
    (pss_cons (ps_fld (pv 0) (pe_op op_mod (pe_op op_add (pe_fld (pv 0) rfl) pe_int) (pv 3)) rfl)
    (pss_one (ps_ret (pe_tup (pa_cons (pv 4) (pa_cons (pv 5) pa_nil)))))))))), ?_⟩
  obtain ⟨ec, lr, rr, L, R, pl, h, x, y, rfl, g, b, bx, by_, k⟩ := h
  obtain ⟨⟨dx, he⟩, hl, hr2, ne, same, place, isL, isR⟩ := id g
  refine ⟨_, rfl, ec, _, dx, _, _, rfl, he, T.cl_Echo, T.n_Echo_left_row, eF_left_row .., lr, _, rfl, .inl (SqL.of hl), ?_⟩
  refine ⟨_, rfl, rfl, _, rfl, ?_⟩
  rcases place with place | ⟨p0, L0⟩
  · refine if_false_of (decide_eq_false (fun z => by injection z with z; rw [List.length_map] at z; omega)) ?_
    obtain ⟨dl, hdl⟩ : ∃ z, L[pl]? = some z := ⟨_, List.getElem?_eq_getElem place⟩
    obtain ⟨dr, hdr⟩ : ∃ z, R[pl]? = some z := ⟨_, List.getElem?_eq_getElem (by omega)⟩
    obtain ⟨rl, erl⟩ := ring_head hdl
    obtain ⟨r2, err⟩ := ring_head hdr
    rw [erl] at isL
    rw [err] at isR
    have bl : dl.natAbs ≤ 2 ^ 153 := b.left dl (by rw [← isL]; exact List.mem_cons_self ..)
    have br : dr.natAbs ≤ 2 ^ 153 := b.right dr (by rw [← isR]; exact List.mem_cons_self ..)
    have nel : ec ≠ lr := lst_ne he hl
    have ner : ec ≠ rr := lst_ne he hr2
    refine ⟨_, rfl, _, rfl, ec, _, dx, _, _, rfl, he, T.cl_Echo, T.n_Echo_left_row, eF_left_row .., _, rfl, ec, lr, dx, lr, rr, x, _, _, dl, pl, L, rfl, he, hl, hdl, bx, bl, b.feed, b.heard, ?_⟩
    refine ⟨_, rfl, _, rfl, ec, _, dx, _, _, rfl, (upd_ne nel).trans he, T.cl_Echo, T.n_Echo_right_row, eF_right_row .., _, rfl, ec, rr, dx, lr, rr, y, _, _, dr, pl, R, rfl, (upd_ne nel).trans he, (upd_ne ne.symm).trans hr2, hdr, by_, br, b.feed, b.heard, ?_⟩
    refine ⟨_, rfl, ec, _, dx, _, _, rfl, (upd_ne ner).trans ((upd_ne nel).trans he), T.cl_Echo, T.n_Echo_place, eF_place .., _, _, rfl, rfl, _, rfl, _, _, rfl, rfl, (by rw [List.length_map]; omega), _, rfl, ec, _, dx, _, rfl, (upd_ne ner).trans ((upd_ne nel).trans he), T.cl_Echo, T.n_Echo_place, (by show 5 < 1000; decide), ?_⟩
    rw [eN_place (x := (pl + 1) % L.length) _ _ _ _ _ (by rw [List.length_map, Int.natCast_emod]; rfl)]
    refine ⟨_, rfl, _, rfl, (by show 2 ≤ sizeLine; decide), fun t ht => ?_⟩
    have te : ec ≠ t := fun z => by rw [← z, upd_same] at ht; cases ht
    rw [upd_ne te.symm] at ht
    have tr : rr ≠ t := fun z => by rw [← z, upd_same] at ht; cases ht
    rw [upd_ne tr.symm] at ht
    have tl : lr ≠ t := fun z => by rw [← z, upd_same] at ht; cases ht
    rw [upd_ne tl.symm] at ht
    have eh1 : heardI h.heard x h.left = rAdd x (rMul h.heard dl) := by rw [← isL]; rfl
    have eh2 : heardI h.heard y h.right = rAdd y (rMul h.heard dr) := by rw [← isR]; rfl
    rw [eh1, eh2] at k
    refine k _ t (L.set pl (hold (rAdd x (rMul h.feed dl)))) (R.set pl (hold (rAdd y (rMul h.feed dr)))) ((pl + 1) % L.length) upd_same ⟨⟨dx, (upd_ne te).trans upd_same⟩, ?_, ?_, ne, ?_, ?_, ?_, ?_⟩ (fun b o e n1 n2 n3 => ?_) ht
    · simp only [upd_ne tl, upd_ne nel.symm, upd_ne ne, upd_same, List.map_set]
    · simp only [upd_ne tr, upd_ne ner.symm, upd_same, List.map_set]
    · rw [List.length_set, List.length_set]; exact same
    · left
      rw [List.length_set]
      exact Nat.mod_lt _ (by omega)
    · rw [ring_step place erl]
      unfold IH.rows
      dsimp only
      rw [← isL]
      rfl
    · rw [same, ring_step (by omega) err]
      unfold IH.rows
      dsimp only
      rw [← isR]
      rfl
    · rw [upd_ne (ne_of_none e ht), upd_ne n1, upd_ne n3, upd_ne n2]
      exact e
  · subst p0 L0
    have R0 : R = [] := List.length_eq_zero_iff.mp same.symm
    subst R0
    rw [ring_nil] at isL isR
    refine if_true_of (decide_eq_true rfl) ?_
    refine ⟨_, rfl, _, rfl, (by show 2 ≤ sizeLine; decide), fun t ht => ?_⟩
    have e0 : ∀ h : IH, [] = h.left → [] = h.right → h.rows x y = h := by
      rintro ⟨v, l, r, f, g⟩ h1 h2
      cases h1
      cases h2
      rfl
    have e1 := e0 h isL isR
    rw [e1] at k
    rw [← isL, ← isR] at k
    exact k _ t [] [] 0 upd_same (g.keep fun b o _ e => by rw [upd_ne (ne_of_none e ht)]; exact e) (fun b o e _ _ _ => by rw [upd_ne (ne_of_none e ht)]; exact e) ht
end
end VS


set_option Elab.async false
set_option maxRecDepth 100000
set_option maxHeartbeats 4000000
namespace VS
open PySem PySem.Spec PyProof.Rows L2
section
variable {P : Program} {w : World} {K : PySem.W.Frag} {mg : Str → Option Value} {base : Heap} {a : Ad} {d : Fd}

def sp_within_16_bits : Sp := fun vs H Q _ => ∃ n : Int, vs = [.int n] ∧ Q (.int (max (-32768) (min 32767 n))) H
theorem sc_within_16_bits : FnScope ["whole"] ["whole"] (defScope s_within_16_bits) := ⟨rfl, rfl, rfl, by decide +kernel, rfl, by decide +kernel, by decide +kernel⟩
theorem ok_within_16_bits (T : Txt K mg a d) : FnOk P w K mg base CX0 1 a.f_within_16_bits d.f_within_16_bits ["whole"] sp_within_16_bits := by
  refine T.d_within_16_bits.fn.ok sc_within_16_bits (fun vs H Q E h => ?_) (fun cdv A outer s H vs Q E hr h => ?_)
  · obtain ⟨n, rfl, _⟩ := h; rfl
  refine ⟨_, (pss_one (ps_ret (pe_callB (call_max2 rfl) (by rfl) T.b_max (by decide +kernel) (pa_cons (pe_gi T.g_LEAST_SAMPLE rfl) (pa_cons (pe_callB (call_min2 rfl) (by rfl) T.b_min (by decide +kernel) (pa_cons (pe_gi T.g_MOST_SAMPLE rfl) (pa_cons (pv 0) pa_nil))) pa_nil))))), ?_⟩
  obtain ⟨n, rfl, q⟩ := h
  have e : (if (if n < 32767 then n else 32767) > (-32768 : Int) then (if n < 32767 then n else 32767) else -32768) = max (-32768) (min 32767 n) := by
    split <;> split <;> omega
  rw [← e] at q
  exact ⟨_, rfl, _, _, rfl, _, _, rfl, q⟩

def sp_in_16_bits : Sp := fun vs H Q _ => ∃ n : Int, vs = [.int n] ∧ Q (.int (told16I n)) H
theorem sc_in_16_bits : FnScope ["x"] ["x"] (defScope s_in_16_bits) := ⟨rfl, rfl, rfl, by decide +kernel, rfl, by decide +kernel, by decide +kernel⟩
theorem ok_in_16_bits (T : Txt K mg a d) : FnOk P w K mg base CX0 2 a.f_in_16_bits d.f_in_16_bits ["x"] sp_in_16_bits := by
  have G_nearest_whole := ok_nearest_whole (P := P) (w := w) (base := base) T
  have G_within_16_bits := ok_within_16_bits (P := P) (w := w) (base := base) T
  refine T.d_in_16_bits.fn.ok sc_in_16_bits (fun vs H Q E h => ?_) (fun cdv A outer s H vs Q E hr h => ?_)
  · obtain ⟨n, rfl, _⟩ := h; rfl
  refine ⟨_, (pss_one (ps_ret (pe_call G_within_16_bits (hr.mono (by decide)) rfl T.d_within_16_bits.gl T.d_within_16_bits.fn.kp T.d_within_16_bits.bd .nil pass0 (pa_cons (pe_call G_nearest_whole (hr.mono (by decide)) rfl T.d_nearest_whole.gl T.d_nearest_whole.fn.kp T.d_nearest_whole.bd .nil pass0 (pa_cons (pv 0) (pa_cons (pe_op op_sub (pe_gi T.g_UNIT_BITS rfl) (pe_gi T.g_SAMPLE_BITS rfl)) pa_nil))) pa_nil)))), ?_⟩
  obtain ⟨n, rfl, q⟩ := h
  exact ⟨_, rfl, _, _, rfl, rfl, n, 134, rfl, by decide, by decide, _, rfl, q⟩

theorem walk_at {l : List IV} {i : Nat} {v : IV} (h : l[i]? = some v) (f : IV → IV) : ((l.take i).map f ++ l.drop i)[i]? = some v := by
  have hi : i < l.length := (List.getElem?_eq_some_iff.mp h).1
  rw [List.getElem?_append_right (by rw [List.length_map, List.length_take]; omega), List.length_map, List.length_take, List.getElem?_drop]
  have : i + (i - min i l.length) = i := by omega
  rw [this]
  exact h
theorem walk_set {l : List IV} {i : Nat} {v : IV} (h : l[i]? = some v) (f : IV → IV) : ((l.take i).map f ++ l.drop i).set i (f v) = (l.take (i + 1)).map f ++ l.drop (i + 1) := by
  obtain ⟨hi, e⟩ := List.getElem?_eq_some_iff.mp h
  rw [List.set_append_right _ _ (by rw [List.length_map, List.length_take]; omega), List.length_map, List.length_take]
  have e1 : i - min i l.length = 0 := by omega
  rw [e1, List.drop_eq_getElem_cons hi, List.set_cons_zero, List.take_add_one, h, List.map_append, List.append_assoc]
  rfl
theorem next_left (i : IV) : i.next.left = i.left := by
  unfold IV.next
  split
  · rfl
  · show i.shaped.left = i.left
    unfold IV.shaped
    repeat' split
    all_goals rfl
theorem next_right (i : IV) : i.next.right = i.right := by
  unfold IV.next
  split
  · rfl
  · show i.shaped.right = i.right
    unfold IV.shaped
    repeat' split
    all_goals rfl
theorem ref_inj {xs ys : List Addr} (h : xs.map V.ref = ys.map V.ref) : xs = ys := by
  induction xs generalizing ys with
  | nil => cases ys with
    | nil => rfl
    | cons y ys => cases h
  | cons x xs ih => cases ys with
    | nil => cases h
    | cons y ys =>
      injection h with h1 h2
      injection h1 with h1
      rw [h1, ih h2]
/-- the sides so far, and the voices -/
def IH.upto (h : IH) (i : Nat) : IH := { h with voices := (h.voices.take i).map IV.next ++ h.voices.drop i }
def IH.sumL (h : IH) (i : Nat) : Int := (h.voices.take i).foldl (fun (a : Int) (v : IV) => v.toL a) 0
def IH.sumR (h : IH) (i : Nat) : Int := (h.voices.take i).foldl (fun (a : Int) (v : IV) => v.toR a) 0
theorem sumL_more {h : IH} {i : Nat} {v : IV} (e : h.voices[i]? = some v) : h.sumL (i + 1) = rAdd (h.sumL i) (rMul v.sounds v.left) := by
  unfold IH.sumL
  rw [List.take_add_one, e, List.foldl_append]
  rfl
theorem sumR_more {h : IH} {i : Nat} {v : IV} (e : h.voices[i]? = some v) : h.sumR (i + 1) = rAdd (h.sumR i) (rMul v.sounds v.right) := by
  unfold IH.sumR
  rw [List.take_add_one, e, List.foldl_append]
  rfl
theorem upto_end {h : IH} {n : Nat} (e : n = h.voices.length) : h.upto n = { h with voices := h.voices.map IV.next } ∧ h.sumL n = h.sideL ∧ h.sumR n = h.sideR := by
  unfold IH.upto IH.sumL IH.sumR IH.sideL IH.sideR
  subst e
  rw [List.take_length, List.drop_length, List.append_nil]
  exact ⟨rfl, rfl, rfl⟩
def sp_sample_of_all (a : Ad) : Sp := fun vs H Q _ => ∃ (lv e : Addr) (N : Addr → Prop) (h : IH), vs = [.ref lv, .ref e] ∧ SoundAt a H lv e N h ∧ BdH h ∧
  ∀ (H' : Hp) (t : Addr), SoundAt a H' lv e N h.next → H' t = some (.lst ([h.outL, h.outR].map V.int)) → H t = none → (∀ b o, H b = some o → ¬ N b → H' b = some o) → Q (.ref t) H'
theorem sc_sample_of_all : FnScope ["voices", "echo", "left", "right", "voice", "sample", "sides", "side"] ["voices", "echo"] (defScope s_sample_of_all) := ⟨rfl, rfl, rfl, by decide +kernel, rfl, by decide +kernel, by decide +kernel⟩
theorem ok_sample_of_all (T : Txt K mg a d) : FnOk P w K mg base CX0 7 a.f_sample_of_all d.f_sample_of_all ["voices", "echo"] (sp_sample_of_all a) := by
  have G_echoed := ok_echoed (P := P) (w := w) (base := base) T
  have G_in_16_bits := ok_in_16_bits (P := P) (w := w) (base := base) T
  have G_plus := ok_plus (P := P) (w := w) (base := base) T
  have G_times := ok_times (P := P) (w := w) (base := base) T
  have G_voice_sample := ok_voice_sample (P := P) (w := w) (base := base) T
  refine T.d_sample_of_all.fn.ok sc_sample_of_all (fun vs H Q E h => ?_) (fun cdv A outer s H vs Q E hr h => ?_)
  · obtain ⟨lv, e, N, h, rfl, _⟩ := h; rfl
  refine ⟨_, (pss_cons (ps_set (i := 2) sc_sample_of_all.nd rfl (Or.inl rfl) pe_int)
    (pss_cons (ps_set (i := 3) sc_sample_of_all.nd rfl (Or.inl rfl) pe_int)
    (pss_cons (ps_for PassesOwn.never rfl (pi_list (pv 0)) (pg_name (i := 4) sc_sample_of_all.nd rfl (Or.inl rfl)) (pss_cons (ps_set (i := 5) sc_sample_of_all.nd rfl (Or.inl rfl) (pe_call G_voice_sample (hr.mono (by decide)) rfl T.d_voice_sample.gl T.d_voice_sample.fn.kp T.d_voice_sample.bd .nil pass0 (pa_cons (pv 4) pa_nil)))
    (pss_cons (ps_set (i := 2) sc_sample_of_all.nd rfl (Or.inl rfl) (pe_call G_plus (hr.mono (by decide)) rfl T.d_plus.gl T.d_plus.fn.kp T.d_plus.bd .nil pass0 (pa_cons (pv 2) (pa_cons (pe_call G_times (hr.mono (by decide)) rfl T.d_times.gl T.d_times.fn.kp T.d_times.bd .nil pass0 (pa_cons (pv 5) (pa_cons (pe_fld (pv 4) rfl) pa_nil))) pa_nil))))
    (pss_one (ps_set (i := 3) sc_sample_of_all.nd rfl (Or.inl rfl) (pe_call G_plus (hr.mono (by decide)) rfl T.d_plus.gl T.d_plus.fn.kp T.d_plus.bd .nil pass0 (pa_cons (pv 3) (pa_cons (pe_call G_times (hr.mono (by decide)) rfl T.d_times.gl T.d_times.fn.kp T.d_times.bd .nil pass0 (pa_cons (pv 5) (pa_cons (pe_fld (pv 4) rfl) pa_nil))) pa_nil))))))))
    (pss_cons (ps_set (i := 6) sc_sample_of_all.nd rfl (Or.inl rfl) (pe_call G_echoed (hr.mono (by decide)) rfl T.d_echoed.gl T.d_echoed.fn.kp T.d_echoed.bd .nil pass0 (pa_cons (pv 1) (pa_cons (pv 2) (pa_cons (pv 3) pa_nil)))))
    (pss_one (ps_ret (pe_lc (own := [("side", 7)]) (g := gName 7) (tt := tYes) rfl sc_sample_of_all.nd (pi_tup (pv 6)) (blkOk_by (N := ["voices", "echo", "left", "right", "voice", "sample", "sides", "side"]) (sc := defScope s_sample_of_all) (by decide +kernel)) (fun _ _ _ _ _ => pg_name (i := 7) sc_sample_of_all.nd rfl (Or.inl rfl)) (fun _ _ _ _ _ => pts_nil) (fun _ _ _ _ _ => (pe_call G_in_16_bits (hr.mono (by decide)) rfl T.d_in_16_bits.gl T.d_in_16_bits.fn.kp T.d_in_16_bits.bd .nil pass0 (pa_cons (pv 7) pa_nil)))))))))), ?_⟩
  obtain ⟨lv, e, N, h, rfl, g, b, k⟩ := h
  obtain ⟨vas0, lr0, rr0, L0, R0, pl0, gv0, _⟩ := g.ex
  refine ⟨_, rfl, lv, rfl, ⟨_, SqL.of gv0.lst⟩, for_list (xs := vas0.map V.ref) (fun i σ H1 => ∃ x4 x5 : Option V, σ = [some (.ref lv), some (.ref e), some (.int (h.sumL i)), some (.int (h.sumR i)), x4, x5, none, none] ∧ SoundAt a H1 lv e N (h.upto i) ∧ H1 lv = some (.lst (vas0.map V.ref)) ∧ ∀ b o, H b = some o → ¬ N b → H1 b = some o) ?_ ?_ ?_ ?_⟩
  · exact ⟨none, none, rfl, g, gv0.lst, fun _ _ e _ => e⟩
  · rintro i σ H1 _ ⟨x4, x5, rfl, g1, hl, fr⟩
    exact SqL.of hl
  · rintro i va σ H1 hva ⟨x4, x5, rfl, g1, hl, fr⟩
    rw [List.getElem?_map] at hva
    obtain ⟨va0, hv0, rfl⟩ := Option.map_eq_some_iff.mp hva
    have hi : i < h.voices.length := by rw [← gv0.len]; exact (List.getElem?_eq_some_iff.mp hv0).1
    obtain ⟨v, hv⟩ : ∃ v, h.voices[i]? = some v := ⟨_, List.getElem?_eq_getElem hi⟩
    obtain ⟨vas, x, q1, q2, q3, q4, q5, q6, q7⟩ := g1.focus (walk_at hv IV.next)
    have ev : vas = vas0 := ref_inj (lst_lst q1 hl)
    subst ev
    have ex : x = va0 := Option.some.inj (q3.symm.trans hv0)
    subst ex
    have bv := b.voices v (List.mem_of_getElem? hv)
    have sb := sounds_bound bv
    have m1 := bound_mul (p := 154) (q := 149) sb (abs_le bv.left.1 bv.left.2) (by decide)
    have m2 := bound_mul (p := 154) (q := 149) sb (abs_le bv.right.1 bv.right.2) (by decide)
    have s1 := take_bdL b i
    have s2 := take_bdR b i
    refine ⟨_, rfl, x, v, rfl, q4, bv, fun H2 v2 k2 => ?_⟩
    obtain ⟨dx, ev2⟩ := id v2
    refine ⟨_, rfl, _, rfl, _, rfl, x, _, dx, _, _, rfl, ev2, T.cl_Voice, T.n_Voice_left, vF_left _, _, _, rfl, sm_pow sb (by decide), ?_, _, _, rfl, sm_pow s1 (by decide), ?_, ?_⟩
    · rw [next_left]; exact sm_nn bv.left (by decide)
    · rw [next_left]; exact sm_pow m1 (by decide)
    refine ⟨_, rfl, _, rfl, _, rfl, x, _, dx, _, _, rfl, ev2, T.cl_Voice, T.n_Voice_right, vF_right _, _, _, rfl, sm_pow sb (by decide), ?_, _, _, rfl, sm_pow s2 (by decide), ?_, ?_⟩
    · rw [next_right]; exact sm_nn bv.right (by decide)
    · rw [next_right]; exact sm_pow m2 (by decide)
    refine ⟨some (.ref x), some (.int v.sounds), ?_, ?_, k2 _ _ hl q6.symm, fun b o e1 nb => k2 _ _ (fr b o e1 nb) fun z => nb (z ▸ q5)⟩
    · rw [sumL_more hv, sumR_more hv, next_left, next_right]
      rfl
    · have s := q7 H2 v.next v2 k2
      have e1 : ({ h.upto i with voices := (h.upto i).voices.set i v.next } : IH) = h.upto (i + 1) := by
        unfold IH.upto
        dsimp only
        rw [walk_set hv]
      rw [e1] at s
      exact s
  · rintro σ H1 ⟨x4, x5, rfl, g1, hl, fr⟩
    obtain ⟨u1, u2, u3⟩ := upto_end (h := h) (n := (vas0.map V.ref).length) (by rw [List.length_map]; exact gv0.len)
    rw [u1] at g1
    have bx := sideL_bd b
    have by_ := sideR_bd b
    rw [← u2] at bx
    rw [← u3] at by_
    have b8 : BdH { h with voices := h.voices.map IV.next } := ⟨by rw [List.length_map]; exact b.len, (bdH_next b).voices, b.same, b.few, b.left, b.right, b.feed, b.heard⟩
    obtain ⟨vas, lr, rr, L, R, pl, gv, ge, n1, n2, n3, n4, n5, n6, n7⟩ := g1.ex
    refine ⟨_, rfl, _, rfl, _, rfl, e, lr, rr, L, R, pl, _, _, _, rfl, ge, b8, bx, by_, fun H2 t L' R' pl' ht ge2 fr2 new => ?_⟩
    rw [u2, u3] at ht ge2
    obtain ⟨de, hde⟩ := ge.obj
    have g2 : SoundAt a H2 lv e N h.next := by
      refine ⟨⟨vas, lr, rr, L', R', pl', ⟨fr2 _ _ gv.lst (lst_ne hde gv.lst).symm n6 n7, gv.len, gv.nd, fun j x i hx hi => ?_⟩, ge2, n1, n2, n3, n4, n5, n6, n7⟩, fun c nc => ?_⟩
      · obtain ⟨dx, hx2⟩ := gv.at_ j x i hx hi
        exact ⟨dx, fr2 _ _ hx2 (ins_ne hx2 hde (by show 19 ≠ 5; decide)) (lst_ne hx2 ge.left) (lst_ne hx2 ge.right)⟩
      · obtain ⟨o, eo⟩ := g1.live c nc
        by_cases c1 : c = e
        · obtain ⟨d2, hd2⟩ := ge2.obj
          exact ⟨_, c1 ▸ hd2⟩
        · by_cases c2 : c = lr
          · exact ⟨_, c2 ▸ ge2.left⟩
          · by_cases c3 : c = rr
            · exact ⟨_, c3 ▸ ge2.right⟩
            · exact ⟨o, fr2 _ _ eo c1 c2 c3⟩
    have fr3 : ∀ b o, H b = some o → ¬ N b → H2 b = some o := fun c o e1 nc => fr2 c o (fr c o e1 nc) (fun z => nc (z ▸ n3)) (fun z => nc (z ▸ n4)) (fun z => nc (z ▸ n5))
    obtain ⟨x, hx⟩ : ∃ x, x = heardI h.heard h.sideL h.left := ⟨_, rfl⟩
    obtain ⟨y, hy⟩ : ∃ y, y = heardI h.heard h.sideR h.right := ⟨_, rfl⟩
    have ht2 : H2 t = some (.tup [.int x, .int y]) := by rw [ht, hx, hy]
    have ol : h.outL = told16I x := by rw [hx]; rfl
    have or_ : h.outR = told16I y := by rw [hy]; rfl
    rw [ol, or_] at k
    refine ⟨_, rfl, t, rfl, ⟨_, SqT.of ht2⟩, fun D hD => lc_tup (xs := [.int x, .int y]) (fun i H3 => H3 D = some (.lst (([told16I x, told16I y].take i).map V.int)) ∧ More H2 H3) ?_ ?_ ?_ ?_⟩
    · exact ⟨upd_same, More.refl.new hD⟩
    · rintro i H3 _ ⟨_, m⟩
      exact SqT.of (m _ _ ht2)
    · rintro i z H3 hz ⟨hd, m⟩
      have md : ∀ {o : HO}, More H2 (upd H3 D o) := fun {o} c u e1 => by rw [upd_ne (ne_of_none e1 hD)]; exact m c u e1
      match i, hz with
      | 0, hz =>
        cases hz
        exact ⟨rfl, _, rfl, x, rfl, _, hd, (by show 0 < sizeLine; decide), upd_same, md⟩
      | 1, hz =>
        cases hz
        exact ⟨rfl, _, rfl, y, rfl, _, hd, (by show 1 < sizeLine; decide), upd_same, md⟩
      | i + 2, hz => cases hz
    · rintro H3 ⟨hd, m⟩
      refine k H3 D (g2.keep fun c o _ e1 => m c o e1) hd ?_ fun c o e1 nc => m c o (fr3 c o e1 nc)
      rcases Classical.em (N D) with c | c
      · obtain ⟨o, eo⟩ := g2.live D c
        rw [hD] at eo
        cases eo
      · cases e1 : H D with
        | none => rfl
        | some o => rw [fr3 D o e1 c] at hD; cases hD
end
end VS


set_option Elab.async false
set_option maxRecDepth 100000
set_option maxHeartbeats 4000000
namespace VS
open PySem PySem.Spec PyProof.Rows L2
section
variable {P : Program} {w : World} {K : PySem.W.Frag} {mg : Str → Option Value} {base : Heap} {a : Ad} {d : Fd}

theorem upd_none {H : Hp} {x l : Addr} {o : HO} (h : upd H x o l = none) : H l = none ∧ l ≠ x := by
  have n : l ≠ x := fun z => by rw [z, upd_same] at h; cases h
  rw [upd_ne n] at h
  exact ⟨h, n⟩
/-- an object has been made: what was there is there -/
theorem made_more {H H2 : Hp} {x dx : Addr} {o1 o2 : HO} (nx : H x = none) (ndx : H dx = none) (kp : Keeps (upd (upd H dx o1) x o2) x H2) : More H H2 := fun b o e =>
  kp b o (by rw [upd_ne (ne_of_none e nx), upd_ne (ne_of_none e ndx)]; exact e) (ne_of_none e nx)
def sp_Desk_init (a : Ad) : Sp := fun vs H Q _ => ∃ p dx : Addr, vs = [.ref p] ∧ H p = some (.ins a.c_Desk dx []) ∧
  ∀ (H' : Hp) (M : Addr → Prop), At a H' p M none → (∀ b o, H b = some o → b ≠ p → H' b = some o ∧ ¬ M b) → Q .non H'
theorem sc_Desk_init : FnScope ["self"] ["self"] (defScope s_Desk_init) := ⟨rfl, rfl, rfl, by decide +kernel, rfl, by decide +kernel, by decide +kernel⟩
theorem ok_Desk_init (T : Txt K mg a d) : FnOk P w K mg base CX0 3 a.f_Desk_init d.f_Desk_init ["self"] (sp_Desk_init a) := by
  have G_Echo_init := ok_Echo_init (P := P) (w := w) (base := base) T
  refine T.m_Desk_init.fn.ok sc_Desk_init (fun vs H Q E h => ?_) (fun cdv A outer s H vs Q E hr h => ?_)
  · obtain ⟨p, dx, rfl, _⟩ := h; rfl
  refine ⟨_, (pss_cons (ps_fld (pv 0) (pe_lst pa_nil) rfl)
    (pss_one (ps_fld (pv 0) (pe_make T.mk_Echo G_Echo_init (hr.mono (by decide)) rfl T.g_Echo T.m_Echo_init.bd .nil pass0 (pa_cons pe_int (pa_cons pe_int (pa_cons pe_int pa_nil)))) rfl))), ?_⟩
  obtain ⟨p, dx, rfl, hp, k⟩ := h
  refine ⟨(by decide), fun l hl => ?_⟩
  have nl : p ≠ l := ne_of_none hp hl
  refine ⟨_, rfl, p, _, dx, _, rfl, (by rw [upd_ne nl]; exact hp), T.cl_Desk, T.n_Desk_voices, (by decide), ?_⟩
  refine fun x dxe nx ndx ne => ⟨x, dxe, 0, 0, 0, rfl, by decide, upd_same, fun H2 lr rr he hl2 hr2 nlr hnl hnr kp => ⟨rfl, ?_⟩⟩
  have mo := made_more nx ndx kp
  have hp2 : H2 p = some (.ins a.c_Desk dx [("voices", .ref l)]) := mo _ _ upd_same
  have hl3 : H2 l = some (.lst []) := mo _ _ (by rw [upd_ne nl.symm, upd_same])
  refine ⟨_, rfl, p, _, dx, _, rfl, hp2, T.cl_Desk, T.n_Desk_echo, (by show 1 < 1000; decide), ?_⟩
  refine k _ (fun b => b = p ∨ b = l) ⟨⟨dx, l, x, upd_same, fun _ => ⟨(upd_ne nl.symm).trans hl3, Or.inr rfl⟩, fun h z => nomatch z⟩, Or.inl rfl, fun b mb => ?_⟩ fun b o e hb => ?_
  · rcases mb with rfl | rfl
    · exact ⟨_, upd_same⟩
    · exact ⟨_, (upd_ne nl.symm).trans hl3⟩
  · have nb : b ≠ l := fun z => by rw [z, hl] at e; cases e
    exact ⟨(upd_ne hb).trans (mo _ _ (by rw [upd_ne hb, upd_ne nb]; exact e)), fun z => z.elim hb nb⟩

def sp_begin_anew (a : Ad) : Sp := fun vs H Q _ => ∃ (p q : Addr) (M : Addr → Prop) (m : Option IH), vs = [.ref p, .ref q] ∧ At a H p M m ∧
  ∀ (H' : Hp) (M' : Addr → Prop) (t : Addr), Done a H p M (some ih0) [0] H' M' t → Q (.ref t) H'
theorem sc_begin_anew : FnScope ["desk", "numbers", "k"] ["desk", "numbers"] (defScope s_begin_anew) := ⟨rfl, rfl, rfl, by decide +kernel, rfl, by decide +kernel, by decide +kernel⟩
theorem ok_begin_anew (T : Txt K mg a d) : FnOk P w K mg base CX0 4 a.f_begin_anew d.f_begin_anew ["desk", "numbers"] (sp_begin_anew a) := by
  have G_Echo_init := ok_Echo_init (P := P) (w := w) (base := base) T
  have G_Voice_init := ok_Voice_init (P := P) (w := w) (base := base) T
  refine T.d_begin_anew.fn.ok sc_begin_anew (fun vs H Q E h => ?_) (fun cdv A outer s H vs Q E hr h => ?_)
  · obtain ⟨p, q, M, m, rfl, _⟩ := h; rfl
  refine ⟨_, (pss_cons (ps_fld (pv 0) (pe_lc (own := [("k", 2)]) (g := gName 2) (tt := tYes) rfl sc_begin_anew.nd (pi_range1 rfl T.b_range (pa_cons (pe_gi T.g_VOICE_COUNT rfl) pa_nil)) (blkOk_by (N := ["desk", "numbers", "k"]) (sc := defScope s_begin_anew) (by decide +kernel)) (fun _ _ _ _ _ => pg_name (i := 2) sc_begin_anew.nd rfl (Or.inl rfl)) (fun _ _ _ _ _ => pts_nil) (fun _ _ _ _ _ => (pe_make0 T.mk_Voice G_Voice_init (hr.mono (by decide)) rfl T.g_Voice T.m_Voice_init.bd .nil pass0))) rfl)
    (pss_cons (ps_fld (pv 0) (pe_make T.mk_Echo G_Echo_init (hr.mono (by decide)) rfl T.g_Echo T.m_Echo_init.bd .nil pass0 (pa_cons pe_int (pa_cons pe_int (pa_cons pe_int pa_nil)))) rfl)
    (pss_one (ps_ret (pe_lst (pa_cons (pe_gi T.g_DONE rfl) pa_nil)))))), ?_⟩
  obtain ⟨p, q, M, m, rfl, hA, k⟩ := h
  obtain ⟨dd, lv, e0, h1, _, _⟩ := hA.ex
  have m1 := hA.own
  refine ⟨8, rfl, by decide, by decide, fun D hD => lc_range (n := 8) (fun i H' => ∃ vs : List Addr, vs.length = i ∧ vs.Nodup ∧ (∀ x ∈ vs, H x = none ∧ x ≠ D ∧ VoiceAt a.c_Voice H' x iv0) ∧ H' D = some (.lst (vs.map V.ref)) ∧ More H H') ?_ ?_ ?_⟩
  · exact ⟨[], rfl, List.nodup_nil, (fun x hx => by cases hx), upd_same, More.refl.new hD⟩
  · rintro i H1 hi ⟨vs, hl, vn, hx, hd, hs⟩
    refine ⟨rfl, fun x dx nx nd2 ne => ?_⟩
    refine ⟨x, dx, rfl, upd_same, fun H2 hV fr => ⟨rfl, ?_⟩⟩
    have keep : More H1 H2 := made_more nx nd2 fr
    have xD : x ≠ D := (ne_of_none hd nx).symm
    refine ⟨vs.map V.ref, keep _ _ hd, ?_, vs ++ [x], ?_, ?_, ?_, ?_, ?_⟩
    · rw [List.length_map, hl]; exact Nat.lt_trans hi (by decide)
    · rw [List.length_append, hl]; rfl
    · rw [List.nodup_append]
      refine ⟨vn, (by simp), fun y hy z hz => ?_⟩
      rw [List.mem_singleton.mp hz]
      obtain ⟨_, _, dy, ey⟩ := hx y hy
      exact ne_of_none ey nx
    · intro y hy
      rcases List.mem_append.mp hy with hy | hy
      · obtain ⟨g1, g2, dy, ey⟩ := hx y hy
        exact ⟨g1, g2, dy, by rw [upd_ne g2]; exact keep _ _ ey⟩
      · rw [List.mem_singleton.mp hy]
        refine ⟨hs.none nx, xD, ?_⟩
        obtain ⟨dy, ey⟩ := hV
        exact ⟨dy, by rw [upd_ne xD]; exact ey⟩
    · rw [upd_same, List.map_append]; rfl
    · intro b o e
      rw [upd_ne (ne_of_none e hD)]
      exact keep _ _ (hs _ _ e)
  · rintro H1 ⟨vs, hl, vn, hx, hd, hs⟩
    refine ⟨_, rfl, p, _, dd, _, rfl, hs _ _ h1, T.cl_Desk, T.n_Desk_voices, (by show 2 < 1000; decide), ?_⟩
    rw [dP_voices]
    refine fun x dxe nx ndx ne => ⟨x, dxe, 0, 0, 0, rfl, by decide, upd_same, fun H2 lr rr he hl2 hr2 nlr hnl hnr kp => ⟨rfl, ?_⟩⟩
    have mo := made_more nx ndx kp
    obtain ⟨nx1, xp⟩ := upd_none nx
    have hnl1 := upd_none (upd_none (upd_none hnl).1).1
    have hnr1 := upd_none (upd_none (upd_none hnr).1).1
    have hp2 := mo _ _ upd_same
    have pD : p ≠ D := ne_of_none h1 hD
    refine ⟨_, rfl, p, _, dd, _, rfl, hp2, T.cl_Desk, T.n_Desk_echo, (by show 2 < 1000; decide), ?_⟩
    rw [dP_echo]
    refine ⟨(by decide), fun t ht => ?_⟩
    obtain ⟨ht2, tp⟩ := upd_none ht
    have mo2 : ∀ b o, H1 b = some o → b ≠ p → H2 b = some o := fun b o e nb => mo b o (by rw [upd_ne nb]; exact e)
    have fin : ∀ b o, H2 b = some o → b ≠ p → upd (upd H2 p (.ins a.c_Desk dd [("voices", .ref D), ("echo", .ref x)])) t (.lst (([0] : List Int).map V.int)) b = some o := fun b o e nb => by
      rw [upd_ne (ne_of_none e ht2), upd_ne nb]
      exact e
    have lrp : lr ≠ p := hnl1.2
    have rrp : rr ≠ p := hnr1.2
    have hd2 : H2 D = some (.lst (vs.map V.ref)) := mo2 _ _ hd pD.symm
    refine k _ (fun b => b = p ∨ b = D ∨ b ∈ vs ∨ b = x ∨ b = lr ∨ b = rr) t ⟨⟨⟨dd, D, x, (upd_ne tp.symm).trans upd_same, (fun z => nomatch z), fun h z => ?_⟩, Or.inl rfl, fun b mb => ?_⟩, upd_same, ?_, ?_, ?_⟩
    · cases z
      have vp : ∀ y ∈ vs, y ≠ p := fun y hy => by
        obtain ⟨g1, _⟩ := hx y hy
        exact (ne_of_none h1 g1).symm
      have live : ∀ b, b = D ∨ b ∈ vs ∨ b = x ∨ b = lr ∨ b = rr → b ≠ p ∧ ∃ o, H2 b = some o := by
        rintro b (rfl | mb | rfl | rfl | rfl)
        · exact ⟨pD.symm, _, hd2⟩
        · obtain ⟨_, _, dy, ey⟩ := hx b mb
          exact ⟨vp b mb, _, mo2 _ _ ey (vp b mb)⟩
        · exact ⟨xp, _, he⟩
        · exact ⟨lrp, _, hl2⟩
        · exact ⟨rrp, _, hr2⟩
      refine ⟨fun b => b = D ∨ b ∈ vs ∨ b = x ∨ b = lr ∨ b = rr, ⟨⟨vs, lr, rr, [], [], 0, ⟨fin _ _ hd2 pD.symm, by rw [hl]; rfl, vn, fun j y i hy hi => ?_⟩, ⟨⟨dxe, fin _ _ he xp⟩, fin _ _ hl2 lrp, fin _ _ hr2 rrp, nlr, rfl, Or.inr ⟨rfl, rfl⟩, rfl, rfl⟩, Or.inl rfl, fun y hy => Or.inr (Or.inl hy), Or.inr (Or.inr (Or.inl rfl)), Or.inr (Or.inr (Or.inr (Or.inl rfl))), Or.inr (Or.inr (Or.inr (Or.inr rfl))), ne_of_none hd hnl1.1, ne_of_none hd hnr1.1⟩, fun b nb => ?_⟩, fun np => (live p np).1 rfl, fun b nb => Or.inr nb⟩
      · have my := List.mem_of_getElem? hy
        obtain ⟨_, _, dy, ey⟩ := hx y my
        have ei : i = iv0 := List.eq_of_mem_replicate (List.mem_of_getElem? hi)
        rw [ei]
        exact ⟨dy, fin _ _ (mo2 _ _ ey (vp y my)) (vp y my)⟩
      · obtain ⟨n1, o, eo⟩ := live b nb
        exact ⟨o, fin _ _ eo n1⟩
    · by_cases bp : b = p
      · subst bp
        exact ⟨_, (upd_ne tp.symm).trans upd_same⟩
      · rcases mb with z | rfl | mb | rfl | rfl | rfl
        · exact absurd z bp
        · exact ⟨_, fin _ _ hd2 bp⟩
        · obtain ⟨_, _, dy, ey⟩ := hx b mb
          exact ⟨_, fin _ _ (mo2 _ _ ey bp) bp⟩
        · exact ⟨_, fin _ _ he bp⟩
        · exact ⟨_, fin _ _ hl2 bp⟩
        · exact ⟨_, fin _ _ hr2 bp⟩
    · rintro (z | z | z | z | z | z)
      · exact tp z
      · rw [z, hd2] at ht2; cases ht2
      · obtain ⟨_, _, dy, ey⟩ := hx t z
        rw [mo2 _ _ ey tp] at ht2; cases ht2
      · rw [z, he] at ht2; cases ht2
      · rw [z, hl2] at ht2; cases ht2
      · rw [z, hr2] at ht2; cases ht2
    · cases e : H t with
      | none => rfl
      | some o => rw [mo2 _ _ (hs _ _ e) tp] at ht2; cases ht2
    · intro b o e nb
      have bp : b ≠ p := fun z => nb (z ▸ m1)
      refine ⟨fin _ _ (mo2 _ _ (hs _ _ e) bp) bp, ?_⟩
      rintro (z | z | z | z | z | z)
      · exact bp z
      · exact ne_of_none e hD z
      · rw [(hx b z).1] at e
        cases e
      · exact ne_of_none (hs _ _ e) nx1 z
      · exact ne_of_none (hs _ _ e) hnl1.1 z
      · exact ne_of_none (hs _ _ e) hnr1.1 z
end
end VS


set_option Elab.async false
set_option maxRecDepth 100000
set_option maxHeartbeats 4000000
namespace VS
open PySem PySem.Spec PyProof.Rows L2
section
variable {P : Program} {w : World} {K : PySem.W.Frag} {mg : Str → Option Value} {base : Heap} {a : Ad} {d : Fd}

/-- what an action is asked and gives: act tells the house then and what's answered, none: a number isn't as told -/
def spAct (a : Ad) (c : Int) : Sp := fun vs H Q E => ∃ (p q : Addr) (M : Addr → Prop) (h : IH) (ns : List Int), vs = [.ref p, .ref q] ∧ At a H p M (some h) ∧ BdH h ∧ H q = some (.lst (ns.map V.int)) ∧ ¬ M q ∧ Good (c :: ns) ∧
  (act h (c :: ns) = none → E (.ref a.c_NotAsTold) none H) ∧
  ∀ h' r, act h (c :: ns) = some (h', r) → ∀ (H' : Hp) (M' : Addr → Prop) (t : Addr), Done a H p M (some h') r H' M' t → Q (.ref t) H'
theorem onV_is {h : IH} {k : Int} {i : IV} (e : h.voices[k.toNat]? = some i) (f : IV → IV) : h.onV k f = { h with voices := h.voices.set k.toNat (f i) } := by
  unfold IH.onV
  rw [onV_set e]
theorem sc_set_voice : FnScope ["desk", "numbers", "voice", "wave", "width", "level", "left", "right"] ["desk", "numbers"] (defScope s_set_voice) := ⟨rfl, rfl, rfl, by decide +kernel, rfl, by decide +kernel, by decide +kernel⟩
theorem ok_set_voice (T : Txt K mg a d) : FnOk P w K mg base (L2.CX P w) 3 a.f_set_voice d.f_set_voice ["desk", "numbers"] (spAct a 2) := by
  have G_handed_float := ok_handed_float (P := P) (w := w) (base := base) T
  have G_voice_at := ok_voice_at (P := P) (w := w) (base := base) T
  have G_whole_within := ok_whole_within (P := P) (w := w) (base := base) T
  refine T.d_set_voice.fn.okX sc_set_voice (fun vs H Q E h => ?_) (fun cdv A outer s H vs Q E hr h => ?_)
  · obtain ⟨p, q, M, l, ns, rfl, _⟩ := h; rfl
  refine ⟨_, (pss_cons (ps_set (i := 2) sc_set_voice.nd rfl (Or.inl rfl) (pe_call G_voice_at (hr.mono (by decide)) rfl T.d_voice_at.gl T.d_voice_at.fn.kp T.d_voice_at.bd .nil (passes_call (takes_of rfl rfl rfl rfl) (fun _ _ _ _ h => h)) (pa_cons (pv 0) (pa_cons (pe_ix ix_list (pv 1) pe_int (fun _ _ => rfl)) pa_nil))))
    (pss_cons (ps_set (i := 3) sc_set_voice.nd rfl (Or.inl rfl) (pe_call G_whole_within (hr.mono (by decide)) rfl T.d_whole_within.gl T.d_whole_within.fn.kp T.d_whole_within.bd .nil (passes_call (takes_of rfl rfl rfl rfl) (fun _ _ _ _ h => h)) (pa_cons (pe_ix ix_list (pv 1) pe_int (fun _ _ => rfl)) (pa_cons pe_int (pa_cons pe_int pa_nil)))))
    (pss_cons (ps_set (i := 4) sc_set_voice.nd rfl (Or.inl rfl) (pe_call G_whole_within (hr.mono (by decide)) rfl T.d_whole_within.gl T.d_whole_within.fn.kp T.d_whole_within.bd .nil (passes_call (takes_of rfl rfl rfl rfl) (fun _ _ _ _ h => h)) (pa_cons (pe_ix ix_list (pv 1) pe_int (fun _ _ => rfl)) (pa_cons pe_int (pa_cons (pe_op op_sub (pe_op op_pow pe_int pe_int) pe_int) pa_nil)))))
    (pss_cons (ps_set (i := 5) sc_set_voice.nd rfl (Or.inl rfl) (pe_call G_handed_float (hr.mono (by decide)) rfl T.d_handed_float.gl T.d_handed_float.fn.kp T.d_handed_float.bd .nil (passes_call (takes_of rfl rfl rfl rfl) (fun _ _ _ _ h => h)) (pa_cons (pe_ix ix_list (pv 1) pe_int (fun _ _ => rfl)) (pa_cons (pe_ix ix_list (pv 1) pe_int (fun _ _ => rfl)) (pa_cons pe_int pa_nil)))))
    (pss_cons (ps_set (i := 6) sc_set_voice.nd rfl (Or.inl rfl) (pe_call G_handed_float (hr.mono (by decide)) rfl T.d_handed_float.gl T.d_handed_float.fn.kp T.d_handed_float.bd .nil (passes_call (takes_of rfl rfl rfl rfl) (fun _ _ _ _ h => h)) (pa_cons (pe_ix ix_list (pv 1) pe_int (fun _ _ => rfl)) (pa_cons (pe_ix ix_list (pv 1) pe_int (fun _ _ => rfl)) (pa_cons pe_int pa_nil)))))
    (pss_cons (ps_set (i := 7) sc_set_voice.nd rfl (Or.inl rfl) (pe_call G_handed_float (hr.mono (by decide)) rfl T.d_handed_float.gl T.d_handed_float.fn.kp T.d_handed_float.bd .nil (passes_call (takes_of rfl rfl rfl rfl) (fun _ _ _ _ h => h)) (pa_cons (pe_ix ix_list (pv 1) pe_int (fun _ _ => rfl)) (pa_cons (pe_ix ix_list (pv 1) pe_int (fun _ _ => rfl)) (pa_cons pe_int pa_nil)))))
    (pss_cons (ps_fld (pv 2) (pv 3) rfl)
    (pss_cons (ps_fld (pv 2) (pv 4) rfl)
    (pss_cons (ps_fld (pv 2) (pv 5) rfl)
    (pss_cons (ps_fld (pv 2) (pv 6) rfl)
    (pss_cons (ps_fld (pv 2) (pv 7) rfl)
    (pss_one (ps_ret (pe_lst (pa_cons (pe_gi T.g_DONE rfl) pa_nil))))))))))))))), ?_⟩
  obtain ⟨p, q, M, l, ns, rfl, hA, bd, hq, nq, gd, x, ok⟩ := h
  have hl := bd.len
  obtain ⟨k, w1, d1, lz, le, fz, fe, rz, re, rfl, zl, zf, zr⟩ := good2 gd
  refine ⟨_, rfl, _, rfl, q, _, 0, _, rfl, rfl, SqL.of hq, at_nat (k := 0) (by decide) rfl, p, k, M, l, rfl, hA, hl, fun c => x ?_, fun ck v i hi vi mv fr => ?_⟩
  · exact if_neg fun z => c z.1
  refine ⟨_, rfl, q, _, 1, _, rfl, rfl, SqL.of hq, at_nat (k := 1) (by decide) rfl, w1, 0, 3, rfl, fun cw => ?_, fun c => x (if_neg fun z => c z.2.1)⟩
  refine ⟨_, rfl, q, _, 2, _, rfl, rfl, SqL.of hq, at_nat (k := 2) (by decide) rfl, _, _, rfl, rfl, ⟨by decide, by decide, by decide⟩, _, _, rfl, rfl, d1, 0, 4294967295, rfl, fun cd => ?_, fun c => x (if_neg fun z => c z.2.2.1)⟩
  refine ⟨_, rfl, q, _, 3, _, rfl, rfl, SqL.of hq, at_nat (k := 3) (by decide) rfl, _, rfl, q, _, 4, _, rfl, rfl, SqL.of hq, at_nat (k := 4) (by decide) rfl, lz, le, 1, rfl, zl, Or.inl rfl, fun e1 => ?_, fun c => x (if_neg fun z => c z.2.2.2.1)⟩
  refine ⟨_, rfl, q, _, 5, _, rfl, rfl, SqL.of hq, at_nat (k := 5) (by decide) rfl, _, rfl, q, _, 6, _, rfl, rfl, SqL.of hq, at_nat (k := 6) (by decide) rfl, fz, fe, 1, rfl, zf, Or.inl rfl, fun e2 => ?_, fun c => x (if_neg fun z => c z.2.2.2.2.1)⟩
  refine ⟨_, rfl, q, _, 7, _, rfl, rfl, SqL.of hq, at_nat (k := 7) (by decide) rfl, _, rfl, q, _, 8, _, rfl, rfl, SqL.of hq, at_nat (k := 8) (by decide) rfl, rz, re, 1, rfl, zr, Or.inl rfl, fun e3 => ?_, fun c => x (if_neg fun z => c z.2.2.2.2.2)⟩
  obtain ⟨dx, ev⟩ := vi
  obtain ⟨wn, ew⟩ : ∃ n : Nat, w1 = (n : Int) := ⟨w1.toNat, by have := cw.1; omega⟩
  obtain ⟨wd, ed⟩ : ∃ n : Nat, d1 = (n : Int) := ⟨d1.toNat, by have := cd.1; omega⟩
  subst ew ed
  refine ⟨_, rfl, _, rfl, v, _, dx, _, rfl, ev, T.cl_Voice, T.n_Voice_wave, few _, ?_⟩
  rw [vP_wave]
  refine ⟨_, rfl, _, rfl, v, _, dx, _, rfl, upd_same, T.cl_Voice, T.n_Voice_width, few _, ?_⟩
  rw [vP_width]
  refine ⟨_, rfl, _, rfl, v, _, dx, _, rfl, upd_same, T.cl_Voice, T.n_Voice_level, few _, ?_⟩
  rw [vP_level]
  refine ⟨_, rfl, _, rfl, v, _, dx, _, rfl, upd_same, T.cl_Voice, T.n_Voice_left, few _, ?_⟩
  rw [vP_left]
  refine ⟨_, rfl, _, rfl, v, _, dx, _, rfl, upd_same, T.cl_Voice, T.n_Voice_right, few _, ?_⟩
  rw [vP_right]
  refine ⟨(by decide), fun t ht => ?_⟩
  have dn := end_voice (r := [0]) mv fr upd_same (fun b o e nb => by simp only [upd_ne nb]; exact e) ht
  have eq : l.onV k (fun v => { v with wave := ((wn : Int)).toNat, width := ((wd : Int)).toNat, level := cnt lz le, left := cnt fz fe, right := cnt rz re }) = { l with voices := l.voices.set k.toNat _ } := onV_is hi _
  have st := ok _ _ (if_pos ⟨ck, cw, cd, e1, e2, e3⟩)
  rw [eq] at st
  exact st _ M t dn

theorem sc_set_filter : FnScope ["desk", "numbers", "voice", "mode", "cut", "damp"] ["desk", "numbers"] (defScope s_set_filter) := ⟨rfl, rfl, rfl, by decide +kernel, rfl, by decide +kernel, by decide +kernel⟩
theorem ok_set_filter (T : Txt K mg a d) : FnOk P w K mg base (L2.CX P w) 3 a.f_set_filter d.f_set_filter ["desk", "numbers"] (spAct a 3) := by
  have G_handed_float := ok_handed_float (P := P) (w := w) (base := base) T
  have G_voice_at := ok_voice_at (P := P) (w := w) (base := base) T
  have G_whole_within := ok_whole_within (P := P) (w := w) (base := base) T
  refine T.d_set_filter.fn.okX sc_set_filter (fun vs H Q E h => ?_) (fun cdv A outer s H vs Q E hr h => ?_)
  · obtain ⟨p, q, M, l, ns, rfl, _⟩ := h; rfl
  refine ⟨_, (pss_cons (ps_set (i := 2) sc_set_filter.nd rfl (Or.inl rfl) (pe_call G_voice_at (hr.mono (by decide)) rfl T.d_voice_at.gl T.d_voice_at.fn.kp T.d_voice_at.bd .nil (passes_call (takes_of rfl rfl rfl rfl) (fun _ _ _ _ h => h)) (pa_cons (pv 0) (pa_cons (pe_ix ix_list (pv 1) pe_int (fun _ _ => rfl)) pa_nil))))
    (pss_cons (ps_set (i := 3) sc_set_filter.nd rfl (Or.inl rfl) (pe_call G_whole_within (hr.mono (by decide)) rfl T.d_whole_within.gl T.d_whole_within.fn.kp T.d_whole_within.bd .nil (passes_call (takes_of rfl rfl rfl rfl) (fun _ _ _ _ h => h)) (pa_cons (pe_ix ix_list (pv 1) pe_int (fun _ _ => rfl)) (pa_cons pe_int (pa_cons pe_int pa_nil)))))
    (pss_cons (ps_set (i := 4) sc_set_filter.nd rfl (Or.inl rfl) (pe_call G_handed_float (hr.mono (by decide)) rfl T.d_handed_float.gl T.d_handed_float.fn.kp T.d_handed_float.bd .nil (passes_call (takes_of rfl rfl rfl rfl) (fun _ _ _ _ h => h)) (pa_cons (pe_ix ix_list (pv 1) pe_int (fun _ _ => rfl)) (pa_cons (pe_ix ix_list (pv 1) pe_int (fun _ _ => rfl)) (pa_cons pe_int pa_nil)))))
    (pss_cons (ps_set (i := 5) sc_set_filter.nd rfl (Or.inl rfl) (pe_call G_handed_float (hr.mono (by decide)) rfl T.d_handed_float.gl T.d_handed_float.fn.kp T.d_handed_float.bd .nil (passes_call (takes_of rfl rfl rfl rfl) (fun _ _ _ _ h => h)) (pa_cons (pe_ix ix_list (pv 1) pe_int (fun _ _ => rfl)) (pa_cons (pe_ix ix_list (pv 1) pe_int (fun _ _ => rfl)) (pa_cons pe_int pa_nil)))))
    (pss_cons (ps_fld (pv 2) (pv 3) rfl)
    (pss_cons (ps_fld (pv 2) (pv 4) rfl)
    (pss_cons (ps_fld (pv 2) (pv 5) rfl)
    (pss_one (ps_ret (pe_lst (pa_cons (pe_gi T.g_DONE rfl) pa_nil))))))))))), ?_⟩
  obtain ⟨p, q, M, l, ns, rfl, hA, bd, hq, nq, gd, x, ok⟩ := h
  have hl := bd.len
  obtain ⟨k, m1, cz, ce, dz, de, rfl, zc, zd⟩ := good3 gd
  refine ⟨_, rfl, _, rfl, q, _, 0, _, rfl, rfl, SqL.of hq, at_nat (k := 0) (by decide) rfl, p, k, M, l, rfl, hA, hl, fun c => x (if_neg fun z => c z.1), fun ck v i hi vi mv fr => ?_⟩
  refine ⟨_, rfl, q, _, 1, _, rfl, rfl, SqL.of hq, at_nat (k := 1) (by decide) rfl, m1, 0, 3, rfl, fun cw => ?_, fun c => x (if_neg fun z => c z.2.1)⟩
  refine ⟨_, rfl, q, _, 2, _, rfl, rfl, SqL.of hq, at_nat (k := 2) (by decide) rfl, _, rfl, q, _, 3, _, rfl, rfl, SqL.of hq, at_nat (k := 3) (by decide) rfl, cz, ce, 1, rfl, zc, Or.inl rfl, fun e1 => ?_, fun c => x (if_neg fun z => c z.2.2.1)⟩
  refine ⟨_, rfl, q, _, 4, _, rfl, rfl, SqL.of hq, at_nat (k := 4) (by decide) rfl, _, rfl, q, _, 5, _, rfl, rfl, SqL.of hq, at_nat (k := 5) (by decide) rfl, dz, de, 2, rfl, zd, Or.inr rfl, fun e2 => ?_, fun c => x (if_neg fun z => c z.2.2.2)⟩
  obtain ⟨dx, ev⟩ := vi
  obtain ⟨mn, em⟩ : ∃ n : Nat, m1 = (n : Int) := ⟨m1.toNat, by have := cw.1; omega⟩
  subst em
  refine ⟨_, rfl, _, rfl, v, _, dx, _, rfl, ev, T.cl_Voice, T.n_Voice_mode, few _, ?_⟩
  rw [vP_mode]
  refine ⟨_, rfl, _, rfl, v, _, dx, _, rfl, upd_same, T.cl_Voice, T.n_Voice_cut, few _, ?_⟩
  rw [vP_cut]
  refine ⟨_, rfl, _, rfl, v, _, dx, _, rfl, upd_same, T.cl_Voice, T.n_Voice_damp, few _, ?_⟩
  rw [vP_damp]
  refine ⟨(by decide), fun t ht => ?_⟩
  have dn := end_voice (r := [0]) mv fr upd_same (fun b o e nb => by simp only [upd_ne nb]; exact e) ht
  have eq : l.onV k (fun v => { v with mode := ((mn : Int)).toNat, cut := cnt cz ce, damp := cnt dz de }) = { l with voices := l.voices.set k.toNat _ } := onV_is hi _
  have st := ok _ _ (if_pos ⟨ck, cw, e1, e2⟩)
  rw [eq] at st
  exact st _ M t dn

theorem sc_set_shape : FnScope ["desk", "numbers", "voice", "rise", "fall", "keep", "go"] ["desk", "numbers"] (defScope s_set_shape) := ⟨rfl, rfl, rfl, by decide +kernel, rfl, by decide +kernel, by decide +kernel⟩
theorem ok_set_shape (T : Txt K mg a d) : FnOk P w K mg base (L2.CX P w) 3 a.f_set_shape d.f_set_shape ["desk", "numbers"] (spAct a 4) := by
  have G_handed_float := ok_handed_float (P := P) (w := w) (base := base) T
  have G_voice_at := ok_voice_at (P := P) (w := w) (base := base) T
  refine T.d_set_shape.fn.okX sc_set_shape (fun vs H Q E h => ?_) (fun cdv A outer s H vs Q E hr h => ?_)
  · obtain ⟨p, q, M, l, ns, rfl, _⟩ := h; rfl
  refine ⟨_, (pss_cons (ps_set (i := 2) sc_set_shape.nd rfl (Or.inl rfl) (pe_call G_voice_at (hr.mono (by decide)) rfl T.d_voice_at.gl T.d_voice_at.fn.kp T.d_voice_at.bd .nil (passes_call (takes_of rfl rfl rfl rfl) (fun _ _ _ _ h => h)) (pa_cons (pv 0) (pa_cons (pe_ix ix_list (pv 1) pe_int (fun _ _ => rfl)) pa_nil))))
    (pss_cons (ps_set (i := 3) sc_set_shape.nd rfl (Or.inl rfl) (pe_call G_handed_float (hr.mono (by decide)) rfl T.d_handed_float.gl T.d_handed_float.fn.kp T.d_handed_float.bd .nil (passes_call (takes_of rfl rfl rfl rfl) (fun _ _ _ _ h => h)) (pa_cons (pe_ix ix_list (pv 1) pe_int (fun _ _ => rfl)) (pa_cons (pe_ix ix_list (pv 1) pe_int (fun _ _ => rfl)) (pa_cons pe_int pa_nil)))))
    (pss_cons (ps_set (i := 4) sc_set_shape.nd rfl (Or.inl rfl) (pe_call G_handed_float (hr.mono (by decide)) rfl T.d_handed_float.gl T.d_handed_float.fn.kp T.d_handed_float.bd .nil (passes_call (takes_of rfl rfl rfl rfl) (fun _ _ _ _ h => h)) (pa_cons (pe_ix ix_list (pv 1) pe_int (fun _ _ => rfl)) (pa_cons (pe_ix ix_list (pv 1) pe_int (fun _ _ => rfl)) (pa_cons pe_int pa_nil)))))
    (pss_cons (ps_set (i := 5) sc_set_shape.nd rfl (Or.inl rfl) (pe_call G_handed_float (hr.mono (by decide)) rfl T.d_handed_float.gl T.d_handed_float.fn.kp T.d_handed_float.bd .nil (passes_call (takes_of rfl rfl rfl rfl) (fun _ _ _ _ h => h)) (pa_cons (pe_ix ix_list (pv 1) pe_int (fun _ _ => rfl)) (pa_cons (pe_ix ix_list (pv 1) pe_int (fun _ _ => rfl)) (pa_cons pe_int pa_nil)))))
    (pss_cons (ps_set (i := 6) sc_set_shape.nd rfl (Or.inl rfl) (pe_call G_handed_float (hr.mono (by decide)) rfl T.d_handed_float.gl T.d_handed_float.fn.kp T.d_handed_float.bd .nil (passes_call (takes_of rfl rfl rfl rfl) (fun _ _ _ _ h => h)) (pa_cons (pe_ix ix_list (pv 1) pe_int (fun _ _ => rfl)) (pa_cons (pe_ix ix_list (pv 1) pe_int (fun _ _ => rfl)) (pa_cons pe_int pa_nil)))))
    (pss_cons (ps_fld (pv 2) (pv 3) rfl)
    (pss_cons (ps_fld (pv 2) (pv 4) rfl)
    (pss_cons (ps_fld (pv 2) (pv 5) rfl)
    (pss_cons (ps_fld (pv 2) (pv 6) rfl)
    (pss_one (ps_ret (pe_lst (pa_cons (pe_gi T.g_DONE rfl) pa_nil))))))))))))), ?_⟩
  obtain ⟨p, q, M, l, ns, rfl, hA, bd, hq, nq, gd, x, ok⟩ := h
  have hl := bd.len
  obtain ⟨k, rz, re, fz, fe, kz, ke, gz, ge, rfl, zr, zf, zk, zg⟩ := good4 gd
  refine ⟨_, rfl, _, rfl, q, _, 0, _, rfl, rfl, SqL.of hq, at_nat (k := 0) (by decide) rfl, p, k, M, l, rfl, hA, hl, fun c => x (if_neg fun z => c z.1), fun ck v i hi vi mv fr => ?_⟩
  refine ⟨_, rfl, q, _, 1, _, rfl, rfl, SqL.of hq, at_nat (k := 1) (by decide) rfl, _, rfl, q, _, 2, _, rfl, rfl, SqL.of hq, at_nat (k := 2) (by decide) rfl, rz, re, 1, rfl, zr, Or.inl rfl, fun e1 => ?_, fun c => x (if_neg fun z => c z.2.1)⟩
  refine ⟨_, rfl, q, _, 3, _, rfl, rfl, SqL.of hq, at_nat (k := 3) (by decide) rfl, _, rfl, q, _, 4, _, rfl, rfl, SqL.of hq, at_nat (k := 4) (by decide) rfl, fz, fe, 1, rfl, zf, Or.inl rfl, fun e2 => ?_, fun c => x (if_neg fun z => c z.2.2.1)⟩
  refine ⟨_, rfl, q, _, 5, _, rfl, rfl, SqL.of hq, at_nat (k := 5) (by decide) rfl, _, rfl, q, _, 6, _, rfl, rfl, SqL.of hq, at_nat (k := 6) (by decide) rfl, kz, ke, 1, rfl, zk, Or.inl rfl, fun e3 => ?_, fun c => x (if_neg fun z => c z.2.2.2.1)⟩
  refine ⟨_, rfl, q, _, 7, _, rfl, rfl, SqL.of hq, at_nat (k := 7) (by decide) rfl, _, rfl, q, _, 8, _, rfl, rfl, SqL.of hq, at_nat (k := 8) (by decide) rfl, gz, ge, 1, rfl, zg, Or.inl rfl, fun e4 => ?_, fun c => x (if_neg fun z => c z.2.2.2.2)⟩
  obtain ⟨dx, ev⟩ := vi
  refine ⟨_, rfl, _, rfl, v, _, dx, _, rfl, ev, T.cl_Voice, T.n_Voice_rise, few _, ?_⟩
  rw [vP_rise]
  refine ⟨_, rfl, _, rfl, v, _, dx, _, rfl, upd_same, T.cl_Voice, T.n_Voice_fall, few _, ?_⟩
  rw [vP_fall]
  refine ⟨_, rfl, _, rfl, v, _, dx, _, rfl, upd_same, T.cl_Voice, T.n_Voice_keep, few _, ?_⟩
  rw [vP_keep]
  refine ⟨_, rfl, _, rfl, v, _, dx, _, rfl, upd_same, T.cl_Voice, T.n_Voice_go, few _, ?_⟩
  rw [vP_go]
  refine ⟨(by decide), fun t ht => ?_⟩
  have dn := end_voice (r := [0]) mv fr upd_same (fun b o e nb => by simp only [upd_ne nb]; exact e) ht
  have eq : l.onV k (fun v => { v with rise := cnt rz re, fall := cnt fz fe, keep := cnt kz ke, go := cnt gz ge }) = { l with voices := l.voices.set k.toNat _ } := onV_is hi _
  have st := ok _ _ (if_pos ⟨ck, e1, e2, e3, e4⟩)
  rw [eq] at st
  exact st _ M t dn

theorem sc_turn_on : FnScope ["desk", "numbers", "voice"] ["desk", "numbers"] (defScope s_turn_on) := ⟨rfl, rfl, rfl, by decide +kernel, rfl, by decide +kernel, by decide +kernel⟩
theorem ok_turn_on (T : Txt K mg a d) : FnOk P w K mg base (L2.CX P w) 3 a.f_turn_on d.f_turn_on ["desk", "numbers"] (spAct a 5) := by
  have G_voice_at := ok_voice_at (P := P) (w := w) (base := base) T
  have G_whole_within := ok_whole_within (P := P) (w := w) (base := base) T
  refine T.d_turn_on.fn.okX sc_turn_on (fun vs H Q E h => ?_) (fun cdv A outer s H vs Q E hr h => ?_)
  · obtain ⟨p, q, M, l, ns, rfl, _⟩ := h; rfl
  refine ⟨_, (pss_cons (ps_set (i := 2) sc_turn_on.nd rfl (Or.inl rfl) (pe_call G_voice_at (hr.mono (by decide)) rfl T.d_voice_at.gl T.d_voice_at.fn.kp T.d_voice_at.bd .nil (passes_call (takes_of rfl rfl rfl rfl) (fun _ _ _ _ h => h)) (pa_cons (pv 0) (pa_cons (pe_ix ix_list (pv 1) pe_int (fun _ _ => rfl)) pa_nil))))
    (pss_cons (ps_fld (pv 2) (pe_call G_whole_within (hr.mono (by decide)) rfl T.d_whole_within.gl T.d_whole_within.fn.kp T.d_whole_within.bd .nil (passes_call (takes_of rfl rfl rfl rfl) (fun _ _ _ _ h => h)) (pa_cons (pe_ix ix_list (pv 1) pe_int (fun _ _ => rfl)) (pa_cons pe_int (pa_cons (pe_op op_pow pe_int pe_int) pa_nil)))) rfl)
    (pss_cons (ps_fld (pv 2) pe_int rfl)
    (pss_cons (ps_fld (pv 2) (pe_gi T.g_FIRST_DRAW rfl) rfl)
    (pss_cons (ps_fld (pv 2) pe_int rfl)
    (pss_cons (ps_fld (pv 2) pe_int rfl)
    (pss_cons (ps_fld (pv 2) (pe_gi T.g_RISING rfl) rfl)
    (pss_one (ps_ret (pe_lst (pa_cons (pe_gi T.g_DONE rfl) pa_nil))))))))))), ?_⟩
  obtain ⟨p, q, M, l, ns, rfl, hA, bd, hq, nq, gd, x, ok⟩ := h
  have hl := bd.len
  obtain ⟨k, s1, rfl⟩ := good5 gd
  refine ⟨_, rfl, _, rfl, q, _, 0, _, rfl, rfl, SqL.of hq, at_nat (k := 0) (by decide) rfl, p, k, M, l, rfl, hA, hl, fun c => x (if_neg fun z => c z.1), fun ck v i hi vi mv fr => ?_⟩
  obtain ⟨dx, ev⟩ := vi
  refine ⟨_, rfl, q, _, 1, _, rfl, rfl, SqL.of hq, at_nat (k := 1) (by decide) rfl, _, _, rfl, rfl, ⟨by decide, by decide, by decide⟩, s1, 0, 2147483648, rfl, fun cw => ?_, fun c => x (if_neg fun z => c z.2)⟩
  obtain ⟨sn, es⟩ : ∃ n : Nat, s1 = (n : Int) := ⟨s1.toNat, by have := cw.1; omega⟩
  subst es
  refine ⟨_, rfl, v, _, dx, _, rfl, ev, T.cl_Voice, T.n_Voice_step, few _, ?_⟩
  rw [vP_step]
  refine ⟨_, rfl, v, _, dx, _, rfl, upd_same, T.cl_Voice, T.n_Voice_phase, few _, ?_⟩
  rw [vQ_phase]
  refine ⟨_, rfl, v, _, dx, _, rfl, upd_same, T.cl_Voice, T.n_Voice_draw, few _, ?_⟩
  rw [vQ_draw]
  refine ⟨_, rfl, v, _, dx, _, rfl, upd_same, T.cl_Voice, T.n_Voice_low, few _, ?_⟩
  rw [vP_low]
  refine ⟨_, rfl, v, _, dx, _, rfl, upd_same, T.cl_Voice, T.n_Voice_band, few _, ?_⟩
  rw [vP_band]
  refine ⟨_, rfl, v, _, dx, _, rfl, upd_same, T.cl_Voice, T.n_Voice_stage, few _, ?_⟩
  rw [vQ_stage1]
  refine ⟨(by decide), fun t ht => ?_⟩
  have dn := end_voice (r := [0]) mv fr upd_same (fun b o e nb => by simp only [upd_ne nb]; exact e) ht
  have eq : l.onV k (fun v => { v with step := ((sn : Int)).toNat, phase := 0, draw := 1, low := 0, band := 0, stage := 1 }) = { l with voices := l.voices.set k.toNat _ } := onV_is hi _
  have st := ok _ _ (if_pos ⟨ck, cw⟩)
  rw [eq] at st
  exact st _ M t dn

theorem sc_turn_off : FnScope ["desk", "numbers", "voice"] ["desk", "numbers"] (defScope s_turn_off) := ⟨rfl, rfl, rfl, by decide +kernel, rfl, by decide +kernel, by decide +kernel⟩
theorem ok_turn_off (T : Txt K mg a d) : FnOk P w K mg base (L2.CX P w) 3 a.f_turn_off d.f_turn_off ["desk", "numbers"] (spAct a 6) := by
  have G_voice_at := ok_voice_at (P := P) (w := w) (base := base) T
  refine T.d_turn_off.fn.okX sc_turn_off (fun vs H Q E h => ?_) (fun cdv A outer s H vs Q E hr h => ?_)
  · obtain ⟨p, q, M, l, ns, rfl, _⟩ := h; rfl
  refine ⟨_, (pss_cons (ps_set (i := 2) sc_turn_off.nd rfl (Or.inl rfl) (pe_call G_voice_at (hr.mono (by decide)) rfl T.d_voice_at.gl T.d_voice_at.fn.kp T.d_voice_at.bd .nil (passes_call (takes_of rfl rfl rfl rfl) (fun _ _ _ _ h => h)) (pa_cons (pv 0) (pa_cons (pe_ix ix_list (pv 1) pe_int (fun _ _ => rfl)) pa_nil))))
    (pss_cons (ps_if (pt_cmpR op_ne (pe_fld (pv 2) rfl) (pe_gi T.g_STILL rfl) (nomark _)) (pss_one (ps_fld (pv 2) (pe_gi T.g_LET_GO rfl) rfl)) pss_nil)
    (pss_one (ps_ret (pe_lst (pa_cons (pe_gi T.g_DONE rfl) pa_nil)))))), ?_⟩
  obtain ⟨p, q, M, l, ns, rfl, hA, bd, hq, nq, gd, x, ok⟩ := h
  have hl := bd.len
  obtain ⟨k, rfl⟩ := good6 gd
  refine ⟨_, rfl, _, rfl, q, _, 0, _, rfl, rfl, SqL.of hq, at_nat (k := 0) (by decide) rfl, p, k, M, l, rfl, hA, hl, fun c => x (if_neg fun z => c z), fun ck v i hi vi mv fr => ?_⟩
  obtain ⟨dx, ev⟩ := vi
  refine ⟨_, rfl, v, _, dx, _, _, rfl, ev, T.cl_Voice, T.n_Voice_stage, vF_stage i, rfl, _, rfl, ?_⟩
  have eq : l.onV k (fun v => if v.stage = 0 then v else { v with stage := 3 }) = { l with voices := l.voices.set k.toNat _ } := onV_is hi _
  have st := ok _ _ (if_pos ck)
  rw [eq] at st
  by_cases c : i.stage = 0
  · refine if_false_of (by rw [c]; rfl) ⟨(by decide), fun t ht => ?_⟩
    have dn := end_voice (r := [0]) mv fr ev (fun b o e nb => e) ht
    rw [if_pos c] at st
    exact st _ M t dn
  · refine if_true_of ?_ ?_
    · simp only [Bool.not_eq_true', decide_eq_false_iff_not]
      intro z
      injection z with z
      omega
    refine ⟨_, rfl, v, _, dx, _, rfl, ev, T.cl_Voice, T.n_Voice_stage, few _, ?_⟩
    rw [vQ_stage3]
    refine ⟨(by decide), fun t ht => ?_⟩
    have dn := end_voice (r := [0]) mv fr upd_same (fun b o e nb => by simp only [upd_ne nb]; exact e) ht
    rw [if_neg c] at st
    exact st _ M t dn

end
end VS


set_option Elab.async false
set_option maxRecDepth 100000
set_option maxHeartbeats 4000000
namespace VS
open PySem PySem.Spec PyProof.Rows L2
section
variable {P : Program} {w : World} {K : PySem.W.Frag} {mg : Str → Option Value} {base : Heap} {a : Ad} {d : Fd}

/-- the desk has a new echo, a new list is made -/
theorem newEcho {a : Ad} {H H2 : Hp} {p dd lv e0 x lr rr dxe t : Addr} {M : Addr → Prop} {h : IH} {n : Nat} {f g : Int} (hA : At a H p M (some h)) (h1 : H p = some (.ins a.c_Desk dd [("voices", .ref lv), ("echo", .ref e0)]))
    (mo : More H H2) (nx : H x = none) (hnl : H lr = none) (hnr : H rr = none) (he : H2 x = some (.ins a.c_Echo dxe (eF lr rr f g 0))) (hl : H2 lr = some (.lst ((List.replicate n (0 : Int)).map V.int))) (hr : H2 rr = some (.lst ((List.replicate n (0 : Int)).map V.int))) (nlr : lr ≠ rr)
    (ht : upd H2 p (.ins a.c_Desk dd [("voices", .ref lv), ("echo", .ref x)]) t = none) :
    Done a H p M (some { h with left := List.replicate n 0, right := List.replicate n 0, feed := f, heard := g }) [0] (upd (upd H2 p (.ins a.c_Desk dd [("voices", .ref lv), ("echo", .ref x)])) t (.lst (([0] : List Int).map V.int))) (fun b => M b ∨ b = x ∨ b = lr ∨ b = rr) t := by
  obtain ⟨dd', lv', e', h1', _, h3⟩ := hA.ex
  rw [h1] at h1'
  cases h1'
  obtain ⟨N, s, np, nm⟩ := h3 h rfl
  obtain ⟨vas, lr', rr', L, R, pl, gv, ge, n1, n2, n3, n4, n5, n6, n7⟩ := s.ex
  obtain ⟨ht2, tp⟩ := upd_none ht
  have fin : ∀ b o, H2 b = some o → b ≠ p → upd (upd H2 p (.ins a.c_Desk dd [("voices", .ref lv), ("echo", .ref x)])) t (.lst (([0] : List Int).map V.int)) b = some o := fun b o e nb => by
    rw [upd_ne (ne_of_none e ht2), upd_ne nb]
    exact e
  have xp : x ≠ p := (ne_of_none h1 nx).symm
  have lp : lr ≠ p := (ne_of_none h1 hnl).symm
  have rp : rr ≠ p := (ne_of_none h1 hnr).symm
  have old : ∀ b o, H b = some o → b ≠ p → upd (upd H2 p (.ins a.c_Desk dd [("voices", .ref lv), ("echo", .ref x)])) t (.lst (([0] : List Int).map V.int)) b = some o := fun b o e nb => fin b o (mo b o e) nb
  have nnp : ∀ b, N b → b ≠ p := fun b nb z => np (z ▸ nb)
  refine ⟨⟨⟨dd, lv, x, (upd_ne tp.symm).trans upd_same, (fun z => nomatch z), fun k z => ?_⟩, Or.inl hA.own, fun b mb => ?_⟩, upd_same, ?_, ?_, ?_⟩
  · cases z
    refine ⟨fun b => N b ∨ b = x ∨ b = lr ∨ b = rr, ⟨⟨vas, lr, rr, List.replicate n 0, List.replicate n 0, 0, gv.keep N n1 n2 (fun b o nb e => old b o e (nnp b nb)), ⟨⟨dxe, fin _ _ he xp⟩, fin _ _ hl lp, fin _ _ hr rp, nlr, rfl, ?_, ring_zero _, ring_zero _⟩, Or.inl n1, fun y hy => Or.inl (n2 y hy), Or.inr (Or.inl rfl), Or.inr (Or.inr (Or.inl rfl)), Or.inr (Or.inr (Or.inr rfl)), ne_of_none gv.lst hnl, ne_of_none gv.lst hnr⟩, fun b nb => ?_⟩, ?_, fun b nb => ?_⟩
    · cases n with
      | zero => exact Or.inr ⟨rfl, rfl⟩
      | succ n => exact Or.inl (by rw [List.length_replicate]; omega)
    · rcases nb with nb | rfl | rfl | rfl
      · obtain ⟨o, eo⟩ := s.live b nb
        exact ⟨o, old _ _ eo (nnp b nb)⟩
      · exact ⟨_, fin _ _ he xp⟩
      · exact ⟨_, fin _ _ hl lp⟩
      · exact ⟨_, fin _ _ hr rp⟩
    · rintro (nb | z | z | z)
      · exact np nb
      · exact xp z.symm
      · exact lp z.symm
      · exact rp z.symm
    · rcases nb with nb | nb
      · exact Or.inl (nm b nb)
      · exact Or.inr nb
  · by_cases bp : b = p
    · subst bp
      exact ⟨_, (upd_ne tp.symm).trans upd_same⟩
    · rcases mb with mb | rfl | rfl | rfl
      · obtain ⟨o, eo⟩ := hA.live b mb
        exact ⟨o, old _ _ eo bp⟩
      · exact ⟨_, fin _ _ he bp⟩
      · exact ⟨_, fin _ _ hl bp⟩
      · exact ⟨_, fin _ _ hr bp⟩
  · rintro (mt | z | z | z)
    · exact hA.not (mo.none ht2) mt
    · rw [z, he] at ht2; cases ht2
    · rw [z, hl] at ht2; cases ht2
    · rw [z, hr] at ht2; cases ht2
  · exact mo.none ht2
  · intro b o e nb
    have bp : b ≠ p := fun z => nb (z ▸ hA.own)
    refine ⟨old b o e bp, ?_⟩
    rintro (mt | z | z | z)
    · exact nb mt
    · exact ne_of_none e nx z
    · exact ne_of_none e hnl z
    · exact ne_of_none e hnr z
theorem sc_set_echo : FnScope ["desk", "numbers", "length", "feed", "heard"] ["desk", "numbers"] (defScope s_set_echo) := ⟨rfl, rfl, rfl, by decide +kernel, rfl, by decide +kernel, by decide +kernel⟩
theorem ok_set_echo (T : Txt K mg a d) : FnOk P w K mg base (L2.CX P w) 3 a.f_set_echo d.f_set_echo ["desk", "numbers"] (spAct a 7) := by
  have G_Echo_init := ok_Echo_init (P := P) (w := w) (base := base) T
  have G_handed_float := ok_handed_float (P := P) (w := w) (base := base) T
  have G_whole_within := ok_whole_within (P := P) (w := w) (base := base) T
  refine T.d_set_echo.fn.okX sc_set_echo (fun vs H Q E h => ?_) (fun cdv A outer s H vs Q E hr h => ?_)
  · obtain ⟨p, q, M, l, ns, rfl, _⟩ := h; rfl
  refine ⟨_, (pss_cons (ps_set (i := 2) sc_set_echo.nd rfl (Or.inl rfl) (pe_call G_whole_within (hr.mono (by decide)) rfl T.d_whole_within.gl T.d_whole_within.fn.kp T.d_whole_within.bd .nil (passes_call (takes_of rfl rfl rfl rfl) (fun _ _ _ _ h => h)) (pa_cons (pe_ix ix_list (pv 1) pe_int (fun _ _ => rfl)) (pa_cons pe_int (pa_cons (pe_gi T.g_MOST_ECHO rfl) pa_nil)))))
    (pss_cons (ps_set (i := 3) sc_set_echo.nd rfl (Or.inl rfl) (pe_call G_handed_float (hr.mono (by decide)) rfl T.d_handed_float.gl T.d_handed_float.fn.kp T.d_handed_float.bd .nil (passes_call (takes_of rfl rfl rfl rfl) (fun _ _ _ _ h => h)) (pa_cons (pe_ix ix_list (pv 1) pe_int (fun _ _ => rfl)) (pa_cons (pe_ix ix_list (pv 1) pe_int (fun _ _ => rfl)) (pa_cons pe_int pa_nil)))))
    (pss_cons (ps_set (i := 4) sc_set_echo.nd rfl (Or.inl rfl) (pe_call G_handed_float (hr.mono (by decide)) rfl T.d_handed_float.gl T.d_handed_float.fn.kp T.d_handed_float.bd .nil (passes_call (takes_of rfl rfl rfl rfl) (fun _ _ _ _ h => h)) (pa_cons (pe_ix ix_list (pv 1) pe_int (fun _ _ => rfl)) (pa_cons (pe_ix ix_list (pv 1) pe_int (fun _ _ => rfl)) (pa_cons pe_int pa_nil)))))
    (pss_cons (ps_fld (pv 0) (pe_make T.mk_Echo G_Echo_init (hr.mono (by decide)) rfl T.g_Echo T.m_Echo_init.bd .nil pass0 (pa_cons (pv 2) (pa_cons (pv 3) (pa_cons (pv 4) pa_nil)))) rfl)
    (pss_one (ps_ret (pe_lst (pa_cons (pe_gi T.g_DONE rfl) pa_nil)))))))), ?_⟩
  obtain ⟨p, q, M, h, ns, rfl, hA, bd, hq, nq, gd, x, ok⟩ := h
  obtain ⟨n1, fz, fe, hz, he, rfl, zf, zh⟩ := good7 gd
  obtain ⟨dd, lv, e0, h1, _, _⟩ := hA.ex
  refine ⟨_, rfl, q, _, 0, _, rfl, rfl, SqL.of hq, at_nat (k := 0) (by decide) rfl, n1, 0, 1024, rfl, fun cn => ?_, fun c => x (if_neg fun z => c z.1)⟩
  refine ⟨_, rfl, q, _, 1, _, rfl, rfl, SqL.of hq, at_nat (k := 1) (by decide) rfl, _, rfl, q, _, 2, _, rfl, rfl, SqL.of hq, at_nat (k := 2) (by decide) rfl, fz, fe, 1, rfl, zf, Or.inl rfl, fun e1 => ?_, fun c => x (if_neg fun z => c z.2.1)⟩
  refine ⟨_, rfl, q, _, 3, _, rfl, rfl, SqL.of hq, at_nat (k := 3) (by decide) rfl, _, rfl, q, _, 4, _, rfl, rfl, SqL.of hq, at_nat (k := 4) (by decide) rfl, hz, he, 1, rfl, zh, Or.inl rfl, fun e2 => ?_, fun c => x (if_neg fun z => c z.2.2)⟩
  obtain ⟨n, en⟩ : ∃ n : Nat, n1 = (n : Int) := ⟨n1.toNat, by have := cn.1; omega⟩
  subst en
  refine ⟨_, rfl, _, rfl, _, rfl, fun y dxe ny ndy ne => ⟨y, dxe, n, _, _, rfl, (by have := cn.2; omega), upd_same, fun H2 lr rr hec hl hr2 nlr hnl hnr kp => ⟨rfl, ?_⟩⟩⟩
  have mo := made_more ny ndy kp
  refine ⟨_, rfl, p, _, dd, _, rfl, mo _ _ h1, T.cl_Desk, T.n_Desk_echo, (by show 2 < 1000; decide), ?_⟩
  rw [dP_echo]
  refine ⟨(by decide), fun t ht => ?_⟩
  exact ok _ _ (if_pos ⟨cn, e1, e2⟩) _ _ t (newEcho hA h1 mo ny (upd_none (upd_none hnl).1).1 (upd_none (upd_none hnr).1).1 hec hl hr2 nlr ht)

theorem play_len2 (h : IH) : ∀ n, (h.play n).1.length = 2 * n
  | 0 => rfl
  | n + 1 => by
    show ((h.play n).1 ++ [_, _]).length = _
    rw [List.length_append, play_len2 h n]
    rfl
theorem sc_play : FnScope ["desk", "numbers", "count", "answer", "k"] ["desk", "numbers"] (defScope s_play) := ⟨rfl, rfl, rfl, by decide +kernel, rfl, by decide +kernel, by decide +kernel⟩
theorem ok_play (T : Txt K mg a d) : FnOk P w K mg base (L2.CX P w) 8 a.f_play d.f_play ["desk", "numbers"] (spAct a 8) := by
  have G_sample_of_all := ok_sample_of_all (P := P) (w := w) (base := base) T
  have G_whole_within := ok_whole_within (P := P) (w := w) (base := base) T
  refine T.d_play.fn.okX sc_play (fun vs H Q E h => ?_) (fun cdv A outer s H vs Q E hr h => ?_)
  · obtain ⟨p, q, M, l, ns, rfl, _⟩ := h; rfl
  refine ⟨_, (pss_cons (ps_set (i := 2) sc_play.nd rfl (Or.inl rfl) (pe_call G_whole_within (hr.mono (by decide)) rfl T.d_whole_within.gl T.d_whole_within.fn.kp T.d_whole_within.bd .nil (passes_call (takes_of rfl rfl rfl rfl) (fun _ _ _ _ h => h)) (pa_cons (pe_ix ix_list (pv 1) pe_int (fun _ _ => rfl)) (pa_cons pe_int (pa_cons (pe_gi T.g_MOST_PLAYED rfl) pa_nil)))))
    (pss_cons (ps_set (i := 3) sc_play.nd rfl (Or.inl rfl) (pe_lst (pa_cons (pv 2) pa_nil)))
    (pss_cons (ps_for (passes_of rfl) rfl (pi_range1 rfl T.b_range (pa_cons (pv 2) pa_nil)) (pg_name (i := 4) sc_play.nd rfl (Or.inl rfl)) (pss_one (ps_expr (pe_bm PySem.F.plainAttrs_list PySem.F.slot_list_extend PySem.F.type_list_extend mt_extend (pv 3) (pa_cons (pe_call G_sample_of_all (hr.mono (by decide)) rfl T.d_sample_of_all.gl T.d_sample_of_all.fn.kp T.d_sample_of_all.bd .nil pass0 (pa_cons (pe_fld (pv 0) rfl) (pa_cons (pe_fld (pv 0) rfl) pa_nil))) pa_nil)))))
    (pss_one (ps_ret (pv 3)))))), ?_⟩
  obtain ⟨p, q, M, h, ns, rfl, hA, bd, hq, nq, gd, x, ok⟩ := h
  obtain ⟨n, rfl⟩ := good8 gd
  refine ⟨_, rfl, q, _, 0, _, rfl, rfl, SqL.of hq, at_nat (k := 0) (by decide) rfl, n, 1, 256, rfl, fun cn => ?_, fun c => x (if_neg c)⟩
  refine ⟨_, rfl, (by show 1 ≤ sizeLine; decide), fun t ht => ?_⟩
  have sz := sizeLine_eq
  have nt := hA.not ht
  refine ⟨_, rfl, n, rfl, (by have := cn.1; omega), (by have := cn.2; omega), for_range (n := n.toNat) (fun i σ H1 => ∃ x4 : Option V, σ = [some (.ref p), some (.ref q), some (.int n), some (.ref t), x4] ∧ At a H1 p M (some (h.play i).2) ∧ H1 t = some (.lst ((n :: (h.play i).1).map V.int)) ∧ ∀ b o, H b = some o → ¬ M b → H1 b = some o) ?_ ?_ ?_⟩
  · exact ⟨none, rfl, hA.beside ht, upd_same, fun b o e _ => by rw [upd_ne (ne_of_none e ht)]; exact e⟩
  · rintro i σ H1 hi ⟨x4, rfl, g1, ht1, fr⟩
    obtain ⟨dd, lv, e, h1, _, h3⟩ := g1.ex
    obtain ⟨N, s, np, nm⟩ := h3 _ rfl
    have nNt : ¬ N t := fun z => nt (nm t z)
    refine ⟨_, rfl, .inl ⟨rfl, _, SqL.of ht1⟩, _, rfl, p, _, dd, _, _, rfl, h1, T.cl_Desk, T.n_Desk_voices, dF_voices, _, rfl, p, _, dd, _, _, rfl, h1, T.cl_Desk, T.n_Desk_echo, dF_echo, lv, e, N, _, rfl, s, bdH_play bd i, fun H2 z s2 hz nz fr2 => ?_⟩
    have zt : z ≠ t := fun w => by rw [w, ht1] at nz; cases nz
    have zM : ¬ M z := g1.not nz
    refine ⟨t, z, _, _, rfl, rfl, fr2 _ _ ht1 nNt, hz, ?_, ?_⟩
    · rw [List.length_map, List.length_map, List.length_cons, play_len2, sz]
      have := cn.2
      show 2 * i + 1 + 2 ≤ _
      omega
    · have A2 := g1.sound h1 np nm s2 fr2
      refine ⟨_, rfl, A2.keep fun b o mb eb => ?_, ?_, fun b o e1 nb => ?_⟩
      · have bt : b ≠ t := fun w => nt (by rw [← w]; exact mb)
        rw [upd_ne bt]; exact eb
      · rw [upd_same, ← List.map_append]
        rfl
      · have bt : b ≠ t := fun w => by rw [w, ht] at e1; cases e1
        rw [upd_ne bt]
        exact fr2 b o (fr b o e1 nb) fun z => nb (nm b z)
  · rintro σ H1 ⟨x4, rfl, g1, ht1, fr⟩
    exact ⟨_, rfl, ok _ _ (if_pos cn) H1 M t ⟨g1, ht1, nt, ht, fun b o e nb => ⟨fr b o e nb, nb⟩⟩⟩

theorem toldI_len (n : Int) : (toldI n).length = 2 := by
  by_cases c : n = 0
  · subst c; rfl
  · obtain ⟨b, t, _, e⟩ := odd_form c
    rw [e]
    rfl
theorem sc_tell_voice : FnScope ["desk", "numbers", "voice"] ["desk", "numbers"] (defScope s_tell_voice) := ⟨rfl, rfl, rfl, by decide +kernel, rfl, by decide +kernel, by decide +kernel⟩
theorem ok_tell_voice (T : Txt K mg a d) : FnOk P w K mg base (L2.CX P w) 3 a.f_tell_voice d.f_tell_voice ["desk", "numbers"] (spAct a 9) := by
  have G_told_float := ok_told_float (P := P) (w := w) (base := base) T
  have G_voice_at := ok_voice_at (P := P) (w := w) (base := base) T
  refine T.d_tell_voice.fn.okX sc_tell_voice (fun vs H Q E h => ?_) (fun cdv A outer s H vs Q E hr h => ?_)
  · obtain ⟨p, q, M, l, ns, rfl, _⟩ := h; rfl
  refine ⟨_, (pss_cons (ps_set (i := 2) sc_tell_voice.nd rfl (Or.inl rfl) (pe_call G_voice_at (hr.mono (by decide)) rfl T.d_voice_at.gl T.d_voice_at.fn.kp T.d_voice_at.bd .nil (passes_call (takes_of rfl rfl rfl rfl) (fun _ _ _ _ h => h)) (pa_cons (pv 0) (pa_cons (pe_ix ix_list (pv 1) pe_int (fun _ _ => rfl)) pa_nil))))
    (pss_one (ps_ret (pe_op op_cat (pe_op op_cat (pe_op op_cat (pe_lst (pa_cons (pe_fld (pv 2) rfl) (pa_cons (pe_fld (pv 2) rfl) pa_nil))) (pe_call G_told_float (hr.mono (by decide)) rfl T.d_told_float.gl T.d_told_float.fn.kp T.d_told_float.bd .nil pass0 (pa_cons (pe_fld (pv 2) rfl) pa_nil))) (pe_call G_told_float (hr.mono (by decide)) rfl T.d_told_float.gl T.d_told_float.fn.kp T.d_told_float.bd .nil pass0 (pa_cons (pe_fld (pv 2) rfl) pa_nil))) (pe_call G_told_float (hr.mono (by decide)) rfl T.d_told_float.gl T.d_told_float.fn.kp T.d_told_float.bd .nil pass0 (pa_cons (pe_fld (pv 2) rfl) pa_nil)))))), ?_⟩
  obtain ⟨p, q, M, h, ns, rfl, hA, bd, hq, nq, gd, ex, ok⟩ := h
  obtain ⟨k, rfl⟩ := good9 gd
  have sz := sizeLine_eq
  refine ⟨_, rfl, _, rfl, q, _, 0, _, rfl, rfl, SqL.of hq, at_nat (k := 0) (by decide) rfl, p, k, M, h, rfl, hA, bd.len, fun c => ex (if_neg c), fun ck x i hi vi mv fr => ?_⟩
  obtain ⟨dx, ev⟩ := vi
  have ea : act h [9, k] = some (h, i.told) := by
    have e1 : act h [9, k] = if inI 0 7 k then (match h.voices[k.toNat]? with | none => none | some v => some (h, v.told)) else none := rfl
    rw [e1, if_pos (show inI 0 7 k from ck), hi]
  refine ⟨_, rfl, x, _, dx, _, _, rfl, ev, T.cl_Voice, T.n_Voice_stage, vF_stage _, _, rfl, x, _, dx, _, _, rfl, ev, T.cl_Voice, T.n_Voice_phase, vF_phase _, (by show 2 ≤ sizeLine; decide), fun l0 n0 => ?_⟩
  have m0 : More H (upd H l0 (.lst [.int (i.stage : Int), .int (i.phase : Int)])) := More.refl.new n0
  refine ⟨_, rfl, x, _, dx, _, _, rfl, m0 _ _ ev, T.cl_Voice, T.n_Voice_env, vF_env _, _, rfl, fun l1 n1 => ?_⟩
  have m1 := m0.new (o := .lst ((toldI i.env).map V.int)) n1
  refine ⟨l0, l1, _, _, rfl, rfl, (upd_ne (upd_none n1).2.symm).trans upd_same, upd_same, (by rw [List.length_map, toldI_len]; show 2 + 2 ≤ _; omega), fun c1 nc1 => ?_⟩
  have m2 := m1.new (o := .lst ([.int (i.stage : Int), .int (i.phase : Int)] ++ (toldI i.env).map V.int)) nc1
  refine ⟨_, rfl, x, _, dx, _, _, rfl, m2 _ _ ev, T.cl_Voice, T.n_Voice_low, vF_low _, _, rfl, fun l2 n2 => ?_⟩
  have m3 := m2.new (o := .lst ((toldI i.low).map V.int)) n2
  refine ⟨c1, l2, _, _, rfl, rfl, (upd_ne (upd_none n2).2.symm).trans upd_same, upd_same, (by rw [List.length_append, List.length_map, List.length_map, toldI_len, toldI_len]; show 2 + 2 + 2 ≤ _; omega), fun c2 nc2 => ?_⟩
  have m4 := m3.new (o := .lst ([.int (i.stage : Int), .int (i.phase : Int)] ++ (toldI i.env).map V.int ++ (toldI i.low).map V.int)) nc2
  refine ⟨_, rfl, x, _, dx, _, _, rfl, m4 _ _ ev, T.cl_Voice, T.n_Voice_band, vF_band _, _, rfl, fun l3 n3 => ?_⟩
  have m5 := m4.new (o := .lst ((toldI i.band).map V.int)) n3
  refine ⟨c2, l3, _, _, rfl, rfl, (upd_ne (upd_none n3).2.symm).trans upd_same, upd_same, (by rw [List.length_append, List.length_append, List.length_map, List.length_map, List.length_map, toldI_len, toldI_len, toldI_len]; show 2 + 2 + 2 + 2 ≤ _; omega), fun t ht => ?_⟩
  have el : [V.int (i.stage : Int), V.int (i.phase : Int)] ++ (toldI i.env).map V.int ++ (toldI i.low).map V.int ++ (toldI i.band).map V.int = i.told.map V.int := by
    unfold IV.told
    rw [List.map_append, List.map_append, List.map_append, List.append_assoc, List.append_assoc]
    rfl
  rw [el]
  exact ok _ _ ea _ M t (more_end hA m5 ht)
end
end VS


set_option Elab.async false
set_option maxRecDepth 100000
set_option maxHeartbeats 4000000
namespace VS
open PySem PySem.Spec PyProof.Rows L2
section
variable {P : Program} {w : World} {K : PySem.W.Frag} {mg : Str → Option Value} {base : Heap} {a : Ad} {d : Fd}

theorem filter_more {l : List IV} {i : Nat} {v : IV} (h : l[i]? = some v) (f : IV → Bool) : ((l.take (i + 1)).filter f).length = ((l.take i).filter f).length + (if f v = true then 1 else 0) := by
  rw [List.take_add_one, h, List.filter_append, List.length_append]
  congr 1
  show (List.filter f [v]).length = _
  rw [List.filter_cons]
  split <;> rfl
theorem sc_count_sounding : FnScope ["desk", "numbers", "voice"] ["desk", "numbers"] (defScope s_count_sounding) := ⟨rfl, rfl, rfl, by decide +kernel, rfl, by decide +kernel, by decide +kernel⟩
theorem ok_count_sounding (T : Txt K mg a d) : FnOk P w K mg base CX0 1 a.f_count_sounding d.f_count_sounding ["desk", "numbers"] (spAct a 10) := by
  refine T.d_count_sounding.fn.ok sc_count_sounding (fun vs H Q E h => ?_) (fun cdv A outer s H vs Q E hr h => ?_)
  · obtain ⟨p, q, M, l, ns, rfl, _⟩ := h; rfl
  refine ⟨_, (pss_one (ps_ret (pe_lst (pa_cons (pe_callB call_len_seq (by rfl) T.b_len (by decide +kernel) (pa_cons (pe_lc (own := [("voice", 2)]) (g := gName 2) (tt := tTest (tOp rNe (tFld K (tVar 2) "stage") (tC (V.int 0)))) rfl sc_count_sounding.nd (pi_list (pe_fld (pv 0) rfl)) (blkOk_by (N := ["desk", "numbers", "voice"]) (sc := defScope s_count_sounding) (by decide +kernel)) (fun _ _ _ _ _ => pg_name (i := 2) sc_count_sounding.nd rfl (Or.inl rfl)) (fun _ _ _ _ _ => pts_one (pt_cmpR op_ne (pe_fld (pv 2) rfl) (pe_gi T.g_STILL rfl) (nomark _))) (fun _ _ _ _ _ => (pv 2))) pa_nil)) pa_nil)))), ?_⟩
  obtain ⟨p, q, M, h, ns, rfl, hA, bd, hq, nq, gd, ex, ok⟩ := h
  obtain rfl := good10 gd
  obtain ⟨dd, lv, e, h1, _, h3⟩ := hA.ex
  obtain ⟨N, s, np, nm⟩ := h3 h rfl
  obtain ⟨vas, lr, rr, L, R, pl, gv, _⟩ := s.ex
  have hl8 : h.voices.length = 8 := bd.len
  refine ⟨_, rfl, p, _, dd, _, _, rfl, h1, T.cl_Desk, T.n_Desk_voices, dF_voices, lv, rfl, ⟨_, SqL.of gv.lst⟩, fun D hD => lc_list (xs := vas.map V.ref) (fun i H1 => ∃ made : List V, H1 D = some (.lst made) ∧ made.length = ((h.voices.take i).filter fun v => v.stage != 0).length ∧ More H H1) ?_ ?_ ?_ ?_⟩
  · exact ⟨[], upd_same, rfl, More.refl.new hD⟩
  · rintro i H1 _ ⟨made, _, _, m⟩
    exact SqL.of (m _ _ gv.lst)
  · rintro i va H1 hva ⟨made, hd, hm, m⟩
    rw [List.getElem?_map] at hva
    obtain ⟨x, hx, rfl⟩ := Option.map_eq_some_iff.mp hva
    have hi : i < h.voices.length := by rw [← gv.len]; exact (List.getElem?_eq_some_iff.mp hx).1
    obtain ⟨v, hv⟩ : ∃ v, h.voices[i]? = some v := ⟨_, List.getElem?_eq_getElem hi⟩
    obtain ⟨dx, ev⟩ := gv.at_ i x v hx hv
    have le : made.length ≤ 8 := by
      rw [hm]
      refine Nat.le_trans (List.length_filter_le ..) ?_
      rw [List.length_take]
      omega
    have fm := filter_more hv (fun v => v.stage != 0)
    refine ⟨rfl, _, rfl, x, _, dx, _, _, rfl, m _ _ ev, T.cl_Voice, T.n_Voice_stage, vF_stage _, rfl, _, rfl, ?_⟩
    by_cases c : v.stage = 0
    · refine if_false_of (by rw [c]; rfl) ?_
      rw [if_neg (by rw [c]; decide)] at fm
      exact ⟨made, hd, by rw [fm, hm]; rfl, m⟩
    · refine if_true_of ?_ ?_
      · simp only [Bool.not_eq_true', decide_eq_false_iff_not]
        intro z
        injection z with z
        omega
      rw [if_pos (by simpa using c)] at fm
      refine ⟨_, rfl, made, hd, Nat.lt_of_le_of_lt le (by decide), made ++ [.ref x], upd_same, ?_, fun b o e => ?_⟩
      · rw [List.length_append, fm, hm]; rfl
      · rw [upd_ne (ne_of_none e hD)]; exact m b o e
  · rintro H1 ⟨made, hd, hm, m⟩
    refine ⟨D, _, rfl, .inl (SqL.of hd), (by show 1 ≤ sizeLine; decide), fun t ht => ?_⟩
    rw [List.length_map, gv.len, List.take_length] at hm
    rw [hm]
    exact ok _ _ rfl _ M t (more_end hA m ht)

def sp_over_32768 : Sp := fun vs H Q _ => ∃ z : Int, vs = [.int z] ∧ Q (.int ((z + 16384) / 32768)) H
theorem sc_over_32768 : FnScope ["z"] ["z"] (defScope s_over_32768) := ⟨rfl, rfl, rfl, by decide +kernel, rfl, by decide +kernel, by decide +kernel⟩
theorem ok_over_32768 (T : Txt K mg a d) : FnOk P w K mg base CX0 1 a.f_over_32768 d.f_over_32768 ["z"] sp_over_32768 := by
  refine T.d_over_32768.fn.ok sc_over_32768 (fun vs H Q E h => ?_) (fun cdv A outer s H vs Q E hr h => ?_)
  · obtain ⟨z, rfl, _⟩ := h; rfl
  refine ⟨_, (pss_one (ps_ret (pe_op op_fdiv (pe_op op_add (pv 0) pe_int) pe_int))), ?_⟩
  obtain ⟨z, rfl, q⟩ := h
  exact ⟨_, rfl, _, _, rfl, rfl, _, _, rfl, rfl, ⟨(by show (0 : Int) < 32768; decide), (by show (32768 : Int) < 1073741824; decide)⟩, q⟩

def sp_blended : Sp := fun vs H Q _ => ∃ (p q : Addr) (xs ys : List Int) (g : Int), vs = [.ref p, .ref q, .int g] ∧ H p = some (.lst (xs.map V.int)) ∧ H q = some (.lst (ys.map V.int)) ∧ xs.length = ys.length ∧ xs.length ≤ 512 ∧
  (∀ x ∈ xs, x.natAbs ≤ 32768) ∧ (∀ y ∈ ys, y.natAbs ≤ 32768) ∧ (0 ≤ g ∧ g ≤ 32767) ∧ ∀ (H' : Hp) (t : Addr), More H H' → H' t = some (.lst ((Sj32.blended g xs ys).map V.int)) → H t = none → Q (.ref t) H'
theorem blended_at {g : Int} {xs ys : List Int} {i : Nat} {x y : Int} (hx : xs[i]? = some x) (hy : ys[i]? = some y) : (Sj32.blended g xs ys)[i]? = some (max (-32768) (min 32767 ((x * (32767 - g) + 16384) / 32768 + (y * g + 16384) / 32768))) := by
  unfold Sj32.blended
  rw [List.getElem?_map, (List.getElem?_zip_eq_some (z := (x, y))).mpr ⟨hx, hy⟩]
  rfl
theorem take_next {l : List Int} {i : Nat} {v : Int} (h : l[i]? = some v) : (l.take (i + 1)).map V.int = (l.take i).map V.int ++ [V.int v] := by
  rw [List.take_add_one, h, List.map_append]
  rfl
theorem sc_blended : FnScope ["first", "second", "g", "a", "b"] ["first", "second", "g"] (defScope s_blended) := ⟨rfl, rfl, rfl, by decide +kernel, rfl, by decide +kernel, by decide +kernel⟩
theorem ok_blended (T : Txt K mg a d) : FnOk P w K mg base CX0 2 a.f_blended d.f_blended ["first", "second", "g"] sp_blended := by
  have G_over_32768 := ok_over_32768 (P := P) (w := w) (base := base) T
  have G_within_16_bits := ok_within_16_bits (P := P) (w := w) (base := base) T
  refine T.d_blended.fn.ok sc_blended (fun vs H Q E h => ?_) (fun cdv A outer s H vs Q E hr h => ?_)
  · obtain ⟨p, q, xs, ys, g, rfl, _⟩ := h; rfl
  refine ⟨_, (pss_one (ps_ret (pe_lc (own := [("a", 3), ("b", 4)]) (g := gTup K 2 (gCons (gName 3) (gCons (gName 4) gNil))) (tt := tYes) rfl sc_blended.nd (pi_zip (by rfl) T.b_zip (pa_cons (pv 0) (pa_cons (pv 1) pa_nil))) (blkOk_by (N := ["first", "second", "g", "a", "b"]) (sc := defScope s_blended) (by decide +kernel)) (fun _ _ _ _ _ => pg_tup rfl (pgs_cons (pg_name (i := 3) sc_blended.nd rfl (Or.inl rfl)) (pgs_cons (pg_name (i := 4) sc_blended.nd rfl (Or.inl rfl)) pgs_nil))) (fun _ _ _ _ _ => pts_nil) (fun _ _ _ _ _ => pe_call G_within_16_bits (hr.mono (by decide)) rfl T.d_within_16_bits.gl T.d_within_16_bits.fn.kp T.d_within_16_bits.bd .nil pass0 (pa_cons (pe_op op_add (pe_call G_over_32768 (hr.mono (by decide)) rfl T.d_over_32768.gl T.d_over_32768.fn.kp T.d_over_32768.bd .nil pass0 (pa_cons (pe_op op_mulW (pv 3) (pe_op op_sub pe_int (pv 2))) pa_nil)) (pe_call G_over_32768 (hr.mono (by decide)) rfl T.d_over_32768.gl T.d_over_32768.fn.kp T.d_over_32768.bd .nil pass0 (pa_cons (pe_op op_mulW (pv 4) (pv 2)) pa_nil))) pa_nil))))), ?_⟩
  obtain ⟨p, q, xs, ys, g, rfl, hp, hq, same, few, bx, by_, bg, k⟩ := h
  refine ⟨_, rfl, _, rfl, p, q, _, _, rfl, SqL.of hp, SqL.of hq, fun D hD => lc_zip (xs := xs.map V.int) (ys := ys.map V.int) (by rw [List.length_map, List.length_map]; exact same) (fun i H1 => H1 D = some (.lst (((Sj32.blended g xs ys).take i).map V.int)) ∧ More H H1) ?_ ?_ ?_ ?_⟩
  · exact ⟨upd_same, More.refl.new hD⟩
  · rintro i H1 ⟨_, m⟩
    exact ⟨SqL.of (m _ _ hp), SqL.of (m _ _ hq)⟩
  · rintro i x y t H1 hx hy ⟨hd, m⟩ ht
    rw [List.getElem?_map] at hx hy
    obtain ⟨x, ex, rfl⟩ := Option.map_eq_some_iff.mp hx
    obtain ⟨y, ey, rfl⟩ := Option.map_eq_some_iff.mp hy
    have b1 := bx x (List.mem_of_getElem? ex)
    have b2 := by_ y (List.mem_of_getElem? ey)
    have tD : D ≠ t := ne_of_none hd ht
    refine ⟨t, _, rfl, SqT.of upd_same, rfl, _, _, rfl, _, _, rfl, rfl, rfl, ?_⟩
    refine ⟨_, rfl, _, rfl, _, _, rfl, rfl, _, _, rfl, rfl, wide_mul (a := 32) (b := 32) (Nat.lt_of_le_of_lt b1 (by decide)) (show ((32767 : Int) - g).natAbs < 2 ^ 32 by omega) (by decide) (by decide) (by decide), _, rfl, ?_⟩
    refine ⟨_, rfl, _, rfl, _, _, rfl, rfl, wide_mul (a := 32) (b := 32) (Nat.lt_of_le_of_lt b2 (by decide)) (show g.natAbs < 2 ^ 32 by omega) (by decide) (by decide) (by decide), _, rfl, _, _, rfl, rfl, _, rfl, ?_⟩
    refine ⟨_, (upd_ne tD).trans hd, ?_, ?_, fun b o e => ?_⟩
    · rw [List.length_map, List.length_take]
      have : i < xs.length := (List.getElem?_eq_some_iff.mp ex).1
      exact Nat.lt_of_le_of_lt (Nat.min_le_left ..) (Nat.lt_of_lt_of_le (Nat.lt_of_lt_of_le this few) (by decide))
    · rw [upd_same, take_next (blended_at ex ey)]
    · rw [upd_ne (ne_of_none e hD), upd_ne (ne_of_none (m _ _ e) ht)]
      exact m _ _ e
  · rintro H1 ⟨hd, m⟩
    refine k H1 D m ?_ hD
    rw [hd]
    congr 3
    refine List.take_of_length_le ?_
    unfold Sj32.blended
    rw [List.length_map, List.length_map, List.length_zip]
    omega
end
end VS


set_option Elab.async false
set_option maxRecDepth 100000
set_option maxHeartbeats 4000000
namespace VS
open PySem PySem.Spec PyProof.Rows L2
section
variable {P : Program} {w : World} {K : PySem.W.Frag} {mg : Str → Option Value} {base : Heap} {a : Ad} {d : Fd}

/-- how often one below 0 is followed by one that isn't, of the first i pairs -/
def ups2 (ns : List Int) (i : Nat) : Nat := (((ns.zip (ns.drop 1)).take i).filter fun x => decide (x.1 < 0) && decide (0 ≤ x.2)).length
theorem ups2_more {ns : List Int} {i : Nat} {x y : Int} (hx : ns[i]? = some x) (hy : ns[i + 1]? = some y) : ups2 ns (i + 1) = ups2 ns i + (if x < 0 ∧ 0 ≤ y then 1 else 0) := by
  unfold ups2
  have e : (ns.zip (ns.drop 1))[i]? = some (x, y) := (List.getElem?_zip_eq_some (z := (x, y))).mpr ⟨hx, by rw [List.getElem?_drop, Nat.add_comm]; exact hy⟩
  rw [List.take_add_one, e, List.filter_append, List.length_append]
  congr 1
  show (List.filter _ [(x, y)]).length = _
  rw [List.filter_cons]
  by_cases c : x < 0 ∧ 0 ≤ y
  · rw [if_pos c, if_pos (by simp [c])]; rfl
  · rw [if_neg c, if_neg (by simpa using c)]; rfl
theorem ups2_all {ns : List Int} {i : Nat} (h : ns.length ≤ i + 1) : ((ups2 ns i : Nat) : Int) = (((ns.zip (ns.drop 1)).filter fun x => decide (x.1 < 0) && decide (0 ≤ x.2)).length : Int) := by
  unfold ups2
  rw [List.take_of_length_le]
  rw [List.length_zip, List.length_drop]
  omega
def sp_risings : Sp := fun vs H Q _ => ∃ (p : Addr) (ns : List Int), vs = [.ref p] ∧ H p = some (.lst (ns.map V.int)) ∧ ns.length ≤ 512 ∧ Q (.int (((ns.zip (ns.drop 1)).filter fun x => decide (x.1 < 0) && decide (0 ≤ x.2)).length : Int)) H
theorem sc_risings : FnScope ["samples", "count", "k"] ["samples"] (defScope s_risings) := ⟨rfl, rfl, rfl, by decide +kernel, rfl, by decide +kernel, by decide +kernel⟩
theorem ok_risings (T : Txt K mg a d) : FnOk P w K mg base CX0 1 a.f_risings d.f_risings ["samples"] sp_risings := by
  refine T.d_risings.fn.ok sc_risings (fun vs H Q E h => ?_) (fun cdv A outer s H vs Q E hr h => ?_)
  · obtain ⟨p, ns, rfl, _⟩ := h; rfl
  refine ⟨_, (pss_cons (ps_set (i := 1) sc_risings.nd rfl (Or.inl rfl) pe_int)
    (pss_cons (ps_for PassesOwn.never rfl (pi_range2 rfl T.b_range (pa_cons pe_int (pa_cons (pe_callB call_len_seq (by rfl) T.b_len (by decide +kernel) (pa_cons (pv 0) pa_nil)) pa_nil))) (pg_name (i := 2) sc_risings.nd rfl (Or.inl rfl)) (pss_one (ps_if (PW.pt (pw_and (pt_cmpR op_lt (pe_ix ix_list (pv 0) (pe_op op_sub (pv 2) pe_int) (fun _ _ => rfl)) pe_int (nomark _)) (pw_and1 (pt_cmpR op_ge (pe_ix ix_list (pv 0) (pv 2) (fun _ _ => rfl)) pe_int (nomark _))))) (pss_one (ps_set (i := 1) sc_risings.nd rfl (Or.inl rfl) (pe_op op_add (pv 1) pe_int))) pss_nil)))
    (pss_one (ps_ret (pv 1))))), ?_⟩
  obtain ⟨p, ns, rfl, hp, few, k⟩ := h
  refine ⟨_, rfl, p, _, rfl, .inl (SqL.of hp), 1, _, rfl, ⟨by decide, by decide, by omega, by rw [List.length_map]; omega⟩, for_range (lo := 1) (fun i σ H1 => ∃ x2 : Option V, σ = [some (.ref p), some (.int (ups2 ns i : Int)), x2] ∧ H1 = H) ?_ ?_ ?_⟩
  · exact ⟨none, rfl, rfl⟩
  · rintro i σ H1 hi ⟨x2, rfl, rfl⟩
    rw [List.length_map] at hi
    have h1 : i + 1 < ns.length := by omega
    obtain ⟨x, hx⟩ : ∃ x, ns[i]? = some x := ⟨_, List.getElem?_eq_getElem (by omega)⟩
    obtain ⟨y, hy⟩ : ∃ y, ns[i + 1]? = some y := ⟨_, List.getElem?_eq_getElem h1⟩
    have um := ups2_more hx hy
    have ax : atI (ns.map V.int) (1 + (i : Int) - 1) = some (.int x) := at_nat (by omega) (by
      have : (1 + (i : Int) - 1).toNat = i := by omega
      rw [this, List.getElem?_map, hx]
      rfl)
    have ay : atI (ns.map V.int) (1 + (i : Int)) = some (.int y) := at_nat (by omega) (by
      have : (1 + (i : Int)).toNat = i + 1 := by omega
      rw [this, List.getElem?_map, hy]
      rfl)
    refine ⟨_, rfl, _, rfl, _, _, rfl, rfl, p, _, _, _, rfl, rfl, SqL.of hp, ax, _, _, rfl, rfl, _, rfl, ?_⟩
    by_cases c1 : x < 0
    · refine if_true_of (decide_eq_true c1) ?_
      refine ⟨_, rfl, _, rfl, p, _, _, _, rfl, rfl, SqL.of hp, ay, _, _, rfl, rfl, _, rfl, ?_⟩
      by_cases c2 : 0 ≤ y
      · refine if_true_of (decide_eq_true c2) ?_
        rw [if_pos ⟨c1, c2⟩] at um
        refine ⟨_, rfl, _, _, rfl, rfl, some (.int (1 + (i : Int))), ?_, rfl⟩
        rw [um]
        rfl
      · refine if_false_of (decide_eq_false c2) ?_
        rw [if_neg (fun z => c2 z.2)] at um
        refine ⟨some (.int (1 + (i : Int))), ?_, rfl⟩
        rw [um]
        rfl
    · refine if_false_of (decide_eq_false c1) ?_
      rw [if_neg (fun z => c1 z.1)] at um
      refine ⟨some (.int (1 + (i : Int))), ?_, rfl⟩
      rw [um]
      rfl
  · rintro σ H1 ⟨x2, rfl, rfl⟩
    rw [← ups2_all (i := ((((ns.map V.int).length : Nat) : Int) - 1).toNat) (by rw [List.length_map]; omega)] at k
    exact ⟨_, rfl, k⟩

theorem fold_max (ys : List Int) : ∀ y : Int, 0 ≤ y → (∀ z ∈ ys, 0 ≤ z) → ys.foldl (fun a y => if decide (a < y) = true then y else a) y = max y (ys.foldr max 0) := by
  induction ys with
  | nil => intro y h _; show y = max y 0; omega
  | cons z ys ih =>
    intro y h hz
    have z0 := hz z (List.mem_cons_self ..)
    rw [List.foldl_cons, List.foldr_cons]
    by_cases c : y < z
    · rw [if_pos (decide_eq_true c), ih z z0 (fun w hw => hz w (List.mem_cons_of_mem _ hw))]
      omega
    · rw [if_neg (by simpa using c), ih y h (fun w hw => hz w (List.mem_cons_of_mem _ hw))]
      omega
def absL (ns : List Int) : List Int := ns.map fun i => if i < 0 then -i else i
theorem absL_is (ns : List Int) : absL ns = ns.map fun z => max z (-z) := by
  unfold absL
  apply List.map_congr_left
  intro z _
  split <;> omega
theorem absL_nn (ns : List Int) : ∀ z ∈ absL ns, 0 ≤ z := by
  intro z hz
  obtain ⟨w, _, rfl⟩ := List.mem_map.mp hz
  split <;> omega
def sp_measured : Sp := fun vs H Q _ => ∃ (p : Addr) (ns : List Int), vs = [.ref p] ∧ H p = some (.lst (ns.map V.int)) ∧ ns.length ≤ 512 ∧ (∀ x ∈ ns, x.natAbs ≤ 32768) ∧
  ∀ (H' : Hp) (t : Addr), More H H' → H' t = some (.lst ((Sj32.measured ns).map V.int)) → H t = none → Q (.ref t) H'
theorem sc_measured : FnScope ["samples", "squares", "greatest", "sample"] ["samples"] (defScope s_measured) := ⟨rfl, rfl, rfl, by decide +kernel, rfl, by decide +kernel, by decide +kernel⟩
theorem ok_measured (T : Txt K mg a d) : FnOk P w K mg base CX0 2 a.f_measured d.f_measured ["samples"] sp_measured := by
  have G_risings := ok_risings (P := P) (w := w) (base := base) T
  refine T.d_measured.fn.ok sc_measured (fun vs H Q E h => ?_) (fun cdv A outer s H vs Q E hr h => ?_)
  · obtain ⟨p, ns, rfl, _⟩ := h; rfl
  refine ⟨_, (pss_cons (ps_set (i := 1) sc_measured.nd rfl (Or.inl rfl) (pe_callB (cr_sum rfl) (by rfl) T.b_sum (by decide +kernel) (pa_cons (pe_lc (own := [("sample", 3)]) (g := gName 3) (tt := tYes) rfl sc_measured.nd (pi_list (pv 0)) (blkOk_by (N := ["samples", "squares", "greatest", "sample"]) (sc := defScope s_measured) (by decide +kernel)) (fun _ _ _ _ _ => pg_name (i := 3) sc_measured.nd rfl (Or.inl rfl)) (fun _ _ _ _ _ => pts_nil) (fun _ _ _ _ _ => (pe_op op_mulW (pv 3) (pv 3)))) pa_nil)))
    (pss_cons (ps_set (i := 2) sc_measured.nd rfl (Or.inl rfl) (pe_callBK (cr_maxDef rfl (hu_of hr)) (by rfl) T.b_max (by decide +kernel) (pa_cons (pe_lc (own := [("sample", 3)]) (g := gName 3) (tt := tYes) rfl sc_measured.nd (pi_list (pv 0)) (blkOk_by (N := ["samples", "squares", "greatest", "sample"]) (sc := defScope s_measured) (by decide +kernel)) (fun _ _ _ _ _ => pg_name (i := 3) sc_measured.nd rfl (Or.inl rfl)) (fun _ _ _ _ _ => pts_nil) (fun _ _ _ _ _ => (pe_callB call_abs (by rfl) T.b_abs (by decide +kernel) (pa_cons (pv 3) pa_nil)))) pa_nil) (pk_cons pe_int pk_nil)))
    (pss_one (ps_ret (pe_lst (pa_cons (pv 1) (pa_cons (pv 2) (pa_cons (pe_call G_risings (hr.mono (by decide)) rfl T.d_risings.gl T.d_risings.fn.kp T.d_risings.bd .nil pass0 (pa_cons (pv 0) pa_nil)) pa_nil)))))))), ?_⟩
  obtain ⟨p, ns, rfl, hp, few, bd, k⟩ := h
  have sz := sizeLine_eq
  have len512 : ∀ i : Nat, i < ns.length → i < sizeLine := fun i h => Nat.lt_of_lt_of_le (Nat.lt_of_lt_of_le h few) (by decide)
  refine ⟨_, rfl, p, rfl, ⟨_, SqL.of hp⟩, fun D hD => lc_list (xs := ns.map V.int) (fun i H1 => H1 D = some (.lst (((ns.map fun z => z * z).take i).map V.int)) ∧ More H H1) ?_ ?_ ?_ ?_⟩
  · exact ⟨upd_same, More.refl.new hD⟩
  · rintro i H1 _ ⟨_, m⟩
    exact SqL.of (m _ _ hp)
  · rintro i x H1 hx ⟨hd, m⟩
    rw [List.getElem?_map] at hx
    obtain ⟨x, ex, rfl⟩ := Option.map_eq_some_iff.mp hx
    have il : i < ns.length := (List.getElem?_eq_some_iff.mp ex).1
    have b1 := bd x (List.mem_of_getElem? ex)
    have b2 : x.natAbs < 2 ^ 32 := Nat.lt_of_le_of_lt b1 (by decide)
    refine ⟨rfl, _, rfl, _, rfl, _, _, rfl, rfl, wide_mul (a := 32) (b := 32) b2 b2 (by decide) (by decide) (by decide), _, hd, ?_, ?_, fun b o e => ?_⟩
    · rw [List.length_map, List.length_take]
      exact Nat.lt_of_le_of_lt (Nat.min_le_left ..) (len512 i il)
    · rw [upd_same, take_next (show (ns.map fun z => z * z)[i]? = some (x * x) by rw [List.getElem?_map, ex]; rfl)]
    · rw [upd_ne (ne_of_none e hD)]
      exact m _ _ e
  · rintro H1 ⟨hd, m1⟩
    have hd' : H1 D = some (.lst ((ns.map fun z => z * z).map V.int)) := by
      rw [hd]
      congr 3
      exact List.take_of_length_le (by rw [List.length_map, List.length_map]; exact Nat.le_refl _)
    refine ⟨D, _, rfl, SqL.of hd', ?_⟩
    refine ⟨_, rfl, p, rfl, ⟨_, SqL.of (m1 _ _ hp)⟩, fun D2 hD2 => lc_list (xs := ns.map V.int) (fun i H2 => H2 D2 = some (.lst (((absL ns).take i).map V.int)) ∧ More H1 H2) ?_ ?_ ?_ ?_⟩
    · exact ⟨upd_same, More.refl.new hD2⟩
    · rintro i H2 _ ⟨_, m⟩
      exact SqL.of (m _ _ (m1 _ _ hp))
    · rintro i x H2 hx ⟨hd2, m⟩
      rw [List.getElem?_map] at hx
      obtain ⟨x, ex, rfl⟩ := Option.map_eq_some_iff.mp hx
      have il : i < ns.length := (List.getElem?_eq_some_iff.mp ex).1
      refine ⟨rfl, _, rfl, _, rfl, _, hd2, ?_, ?_, fun b o e => ?_⟩
      · rw [List.length_map, List.length_take]
        exact Nat.lt_of_le_of_lt (Nat.min_le_left ..) (len512 i il)
      · rw [upd_same, take_next (show (absL ns)[i]? = some (if x < 0 then -x else x) by unfold absL; rw [List.getElem?_map, ex]; rfl)]
      · rw [upd_ne (ne_of_none e hD2)]
        exact m _ _ e
    · rintro H2 ⟨hd2, m2⟩
      have hd2' : H2 D2 = some (.lst ((absL ns).map V.int)) := by
        rw [hd2]
        congr 3
        exact List.take_of_length_le (by unfold absL; rw [List.length_map, List.length_map]; exact Nat.le_refl _)
      have hp2 := m2 _ _ (m1 _ _ hp)
      have nnD : H D2 = none := m1.none hD2
      have go : ∀ m : Int, m = (absL ns).foldr max 0 → ∀ t : Addr, H2 t = none → Q (.ref t) (upd H2 t (.lst [.int (ns.map fun z => z * z).sum, .int m, .int (((ns.zip (ns.drop 1)).filter fun x => decide (x.1 < 0) && decide (0 ≤ x.2)).length : Int)])) := by
        intro m em t ht
        have mo := (m1.trans m2)
        refine k _ t (mo.new ht) ?_ (mo.none ht)
        rw [upd_same]
        unfold Sj32.measured
        rw [em, absL_is]
        rfl
      refine ⟨D2, absL ns, 0, rfl, rfl, SqL.of hd2', fun e0 => ?_, fun y ys e0 => ?_⟩
      · exact ⟨_, rfl, _, rfl, _, rfl, p, ns, rfl, hp2, few, (by show 3 ≤ sizeLine; decide), go _ (by rw [e0]; rfl)⟩
      · have nn := absL_nn ns
        rw [e0] at nn
        exact ⟨_, rfl, _, rfl, _, rfl, p, ns, rfl, hp2, few, (by show 3 ≤ sizeLine; decide), go _ (by rw [e0]; exact fold_max ys y (nn y (List.mem_cons_self ..)) fun z hz => nn z (List.mem_cons_of_mem _ hz))⟩

theorem cut_nat {ns : List Int} {i m : Nat} (h : i + m ≤ ns.length) : cutV (ns.map V.int) (some (i : Int)) (some ((i + m : Nat) : Int)) = ((ns.drop i).take m).map V.int := by
  unfold cutV
  rw [HT.sIx_nat, HT.sIx_nat, List.length_map, Nat.min_eq_left (by omega), Nat.min_eq_left (by omega), ← List.map_drop, ← List.map_take]
  congr 2
  omega
theorem cut_end {ns : List Int} {i : Nat} (h : i ≤ ns.length) : cutV (ns.map V.int) (some (i : Int)) none = (ns.drop i).map V.int := by
  unfold cutV
  rw [HT.sIx_nat, HT.sIx_none, List.length_map, Nat.min_eq_left (by omega), ← List.map_drop, ← List.map_take]
  congr 1
  exact List.take_of_length_le (by rw [List.length_drop]; omega)
theorem samples_bd {r : List Int} (h : r.all Sj32Neutral.sample = true) : ∀ x ∈ r, x.natAbs ≤ 32768 := by
  intro x hx
  have q := List.all_eq_true.mp h x hx
  unfold Sj32Neutral.sample at q
  rw [Bool.and_eq_true] at q
  have q1 := of_decide_eq_true q.1
  have q2 := of_decide_eq_true q.2
  omega
theorem sc_blend : FnScope ["desk", "numbers", "count", "g", "second"] ["desk", "numbers"] (defScope s_blend) := ⟨rfl, rfl, rfl, by decide +kernel, rfl, by decide +kernel, by decide +kernel⟩
theorem ok_blend (T : Txt K mg a d) : FnOk P w K mg base (L2.CX P w) 3 a.f_blend d.f_blend ["desk", "numbers"] (spAct a 11) := by
  have G_blended := ok_blended (P := P) (w := w) (base := base) T
  have G_whole_within := ok_whole_within (P := P) (w := w) (base := base) T
  refine T.d_blend.fn.okX sc_blend (fun vs H Q E h => ?_) (fun cdv A outer s H vs Q E hr h => ?_)
  · obtain ⟨p, q, M, l, ns, rfl, _⟩ := h; rfl
  refine ⟨_, (pss_cons (ps_set (i := 2) sc_blend.nd rfl (Or.inl rfl) (pe_call G_whole_within (hr.mono (by decide)) rfl T.d_whole_within.gl T.d_whole_within.fn.kp T.d_whole_within.bd .nil (passes_call (takes_of rfl rfl rfl rfl) (fun _ _ _ _ h => h)) (pa_cons (pe_ix ix_list (pv 1) pe_int (fun _ _ => rfl)) (pa_cons pe_int (pa_cons (pe_gi T.g_MOST_IN_ROW rfl) pa_nil)))))
    (pss_cons (ps_set (i := 3) sc_blend.nd rfl (Or.inl rfl) (pe_call G_whole_within (hr.mono (by decide)) rfl T.d_whole_within.gl T.d_whole_within.fn.kp T.d_whole_within.bd .nil (passes_call (takes_of rfl rfl rfl rfl) (fun _ _ _ _ h => h)) (pa_cons (pe_ix ix_list (pv 1) pe_int (fun _ _ => rfl)) (pa_cons pe_int (pa_cons pe_int pa_nil)))))
    (pss_cons (ps_set (i := 4) sc_blend.nd rfl (Or.inl rfl) (pe_op op_add pe_int (pv 2)))
    (pss_one (ps_ret (pe_op op_cat (pe_lst (pa_cons (pv 2) pa_nil)) (pe_call G_blended (hr.mono (by decide)) rfl T.d_blended.gl T.d_blended.fn.kp T.d_blended.bd .nil pass0 (pa_cons (pe_slice sl_list (pv 1) (po_some pe_int) (po_some (pv 4))) (pa_cons (pe_slice sl_list (pv 1) (po_some (pv 4)) po_none) (pa_cons (pv 3) pa_nil)))))))))), ?_⟩
  obtain ⟨p, q, M, h, ns, rfl, hA, bd, hq, nq, gd, ex, ok⟩ := h
  obtain ⟨n, g, r, rfl, hr1, hr2⟩ := good11 gd
  rw [act11] at ex ok
  have sz := sizeLine_eq
  refine ⟨_, rfl, q, _, 0, _, rfl, rfl, SqL.of hq, at_nat (k := 0) (by decide) rfl, n, 0, 512, rfl, fun cn => ?_, fun c => ex (if_neg fun z => c z.1)⟩
  refine ⟨_, rfl, q, _, 1, _, rfl, rfl, SqL.of hq, at_nat (k := 1) (by decide) rfl, g, 0, 32767, rfl, fun cg => ?_, fun c => ex (if_neg fun z => c z.2)⟩
  rw [many_in cn] at hr1
  obtain ⟨m, em⟩ : ∃ m : Nat, n = (m : Int) := ⟨n.toNat, by have := cn.1; omega⟩
  subst em
  have m512 : m ≤ 512 := by have := cn.2; omega
  rw [Int.toNat_natCast] at hr1 ok
  refine ⟨_, rfl, _, _, rfl, rfl, ?_⟩
  refine ⟨_, rfl, (by show 1 ≤ sizeLine; decide), fun l0 n0 => ?_⟩
  have lq : q ≠ l0 := ne_of_none hq n0
  refine ⟨_, rfl, _, rfl, _, rfl, _, rfl, q, _, rfl, SqL.of ((upd_ne lq).trans hq), fun s1 n1 => ?_⟩
  have q1 : q ≠ s1 := fun z => by rw [← z, upd_ne lq, hq] at n1; cases n1
  refine ⟨_, rfl, _, rfl, _, rfl, q, _, rfl, SqL.of ((upd_ne q1).trans ((upd_ne lq).trans hq)), fun s2 n2 => ?_⟩
  have c1 : cutV (((m : Int) :: g :: r).map V.int) (some 2) (some (2 + (m : Int))) = (r.take m).map V.int := cut_nat (ns := (m : Int) :: g :: r) (i := 2) (m := m) (by simp only [List.length_cons]; omega)
  have c2 : cutV (((m : Int) :: g :: r).map V.int) (some (2 + (m : Int))) none = (r.drop m).map V.int := by
    have := cut_end (ns := (m : Int) :: g :: r) (i := 2 + m) (by simp only [List.length_cons]; omega)
    rw [show (2 + (m : Int)) = ((2 + m : Nat) : Int) by omega, this]
    congr 1
    rw [show 2 + m = m + 2 by omega]
    rfl
  rw [c1] at n2
  rw [c1, c2]
  have s12 := (upd_none n2).2
  refine ⟨_, rfl, s1, s2, r.take m, r.drop m, g, rfl, (upd_ne s12.symm).trans upd_same, upd_same, ?_, ?_, ?_, ?_, cg, fun H2 t1 mo ht1 nt1 => ?_⟩
  · rw [List.length_take, List.length_drop]; omega
  · rw [List.length_take]; omega
  · exact fun x hx => samples_bd hr2 x (List.mem_of_mem_take hx)
  · exact fun x hx => samples_bd hr2 x (List.mem_of_mem_drop hx)
  have m0 : More H (upd H l0 (.lst [.int (m : Int)])) := More.refl.new n0
  have m1 := m0.new (o := .lst ((r.take m).map V.int)) n1
  have m2 := m1.new (o := .lst ((r.drop m).map V.int)) n2
  have l01 : l0 ≠ s1 := (upd_none n1).2.symm
  have l02 : l0 ≠ s2 := (upd_none (upd_none n2).1).2.symm
  have hl0 : H2 l0 = some (.lst [.int (m : Int)]) := mo _ _ ((upd_ne l02).trans ((upd_ne l01).trans upd_same))
  have bl : (Sj32.blended g (r.take m) (r.drop m)).length ≤ 512 := by
    unfold Sj32.blended
    rw [List.length_map, List.length_zip, List.length_take]
    omega
  refine ⟨l0, t1, _, _, rfl, rfl, hl0, ht1, (by rw [List.length_map]; show 1 + _ ≤ _; omega), fun t ht => ?_⟩
  exact ok _ _ (if_pos ⟨cn, cg⟩) _ M t (more_end (r := (m : Int) :: Sj32.blended g (r.take m) (r.drop m)) hA (m2.trans mo) ht)

theorem sc_measure : FnScope ["desk", "numbers"] ["desk", "numbers"] (defScope s_measure) := ⟨rfl, rfl, rfl, by decide +kernel, rfl, by decide +kernel, by decide +kernel⟩
theorem ok_measure (T : Txt K mg a d) : FnOk P w K mg base (L2.CX P w) 3 a.f_measure d.f_measure ["desk", "numbers"] (spAct a 12) := by
  have G_measured := ok_measured (P := P) (w := w) (base := base) T
  have G_whole_within := ok_whole_within (P := P) (w := w) (base := base) T
  refine T.d_measure.fn.okX sc_measure (fun vs H Q E h => ?_) (fun cdv A outer s H vs Q E hr h => ?_)
  · obtain ⟨p, q, M, l, ns, rfl, _⟩ := h; rfl
  refine ⟨_, (pss_cons (ps_expr (pe_call G_whole_within (hr.mono (by decide)) rfl T.d_whole_within.gl T.d_whole_within.fn.kp T.d_whole_within.bd .nil (passes_call (takes_of rfl rfl rfl rfl) (fun _ _ _ _ h => h)) (pa_cons (pe_ix ix_list (pv 1) pe_int (fun _ _ => rfl)) (pa_cons pe_int (pa_cons (pe_gi T.g_MOST_IN_ROW rfl) pa_nil)))))
    (pss_one (ps_ret (pe_op op_cat (pe_lst (pa_cons (pe_gi T.g_DONE rfl) pa_nil)) (pe_call G_measured (hr.mono (by decide)) rfl T.d_measured.gl T.d_measured.fn.kp T.d_measured.bd .nil pass0 (pa_cons (pe_slice sl_list (pv 1) (po_some pe_int) po_none) pa_nil)))))), ?_⟩
  obtain ⟨p, q, M, h, ns, rfl, hA, bd, hq, nq, gd, ex, ok⟩ := h
  obtain ⟨n, r, rfl, hr1, hr2⟩ := good12 gd
  rw [act12] at ex ok
  have sz := sizeLine_eq
  refine ⟨_, rfl, q, _, 0, _, rfl, rfl, SqL.of hq, at_nat (k := 0) (by decide) rfl, n, 0, 512, rfl, fun cn => ?_, fun c => ex (if_neg c)⟩
  rw [many_in cn] at hr1
  have r512 : r.length ≤ 512 := by have := cn.2; omega
  refine ⟨(by show 1 ≤ sizeLine; decide), fun l0 n0 => ?_⟩
  have lq : q ≠ l0 := ne_of_none hq n0
  refine ⟨_, rfl, _, rfl, q, _, rfl, SqL.of ((upd_ne lq).trans hq), fun s1 n1 => ?_⟩
  have c1 : cutV ((n :: r).map V.int) (some 1) none = r.map V.int := cut_end (ns := n :: r) (i := 1) (by simp only [List.length_cons]; omega)
  rw [c1]
  have m0 : More H (upd H l0 (.lst [.int 0])) := More.refl.new n0
  have m1 := m0.new (o := .lst (r.map V.int)) n1
  refine ⟨s1, r, rfl, upd_same, r512, samples_bd hr2, fun H2 t1 mo ht1 nt1 => ?_⟩
  have l01 : l0 ≠ s1 := (upd_none n1).2.symm
  have hl0 : H2 l0 = some (.lst [.int 0]) := mo _ _ ((upd_ne l01).trans upd_same)
  refine ⟨l0, t1, _, _, rfl, rfl, hl0, ht1, (by show 1 + 3 ≤ _; omega), fun t ht => ?_⟩
  exact ok _ _ (if_pos cn) _ M t (more_end (r := 0 :: Sj32.measured r) hA (m1.trans mo) ht)
end
end VS


set_option Elab.async false
set_option maxRecDepth 100000
set_option maxHeartbeats 4000000
namespace VS
open PySem PySem.Spec PyProof.Rows L2
section
variable {P : Program} {w : World} {K : PySem.W.Frag} {mg : Str → Option Value} {base : Heap} {a : Ad} {d : Fd}

theorem FnOk_up {k : Nat} {f : Addr} {fd : FuncData} {ps : List Str} {sp : Sp} (F : FnOk P w K mg base CX0 k f fd ps sp) : FnOk P w K mg base (L2.CX P w) k f fd ps sp :=
  ⟨F.len, fun A outer s H args us vs Q E hr e0 hb r hs => codeAny_mono (F.run A outer s H args us vs Q E hr e0 hb r hs) fun r s' hq => by
    cases r with
    | error e => exact False.elim hq
    | ok fl =>
      cases fl with
      | ret u => exact hq
      | next => exact hq
      | brk => exact hq
      | cont => exact hq⟩
theorem good1 {ns : List Int} (g : Good (1 :: ns)) : ns = [] := by
  rcases g with h | ⟨k, w, d, lz, le, fz, fe, rz, re, h, za, zb, zc⟩ | ⟨k, m, cz, ce, dz, de, h, za, zb⟩ | ⟨k, rz, re, fz, fe, kz, ke, gz, ge, h, za, zb, zc, zd⟩ | ⟨k, s, h⟩ | ⟨k, h⟩ | ⟨n, fz, fe, hz, he, h, za, zb⟩ | ⟨n, h⟩ | ⟨k, h⟩ | h | ⟨n, g, x, h, a, b⟩ | ⟨n, x, h, a, b⟩ <;> injection h with h1 h2 <;> first | exact absurd h1 (by decide) | exact h2
def spOf (a : Ad) (c : Int) : Sp := if c = 1 then sp_begin_anew a else spAct a c
def spCarry (a : Ad) : Sp := fun vs H Q E => ∃ (p q : Addr) (c : Int) (M : Addr → Prop) (m : Option IH) (ns : List Int), vs = [.ref p, .int c, .ref q] ∧ At a H p M m ∧ (∀ h, m = some h → BdH h) ∧ H q = some (.lst (ns.map V.int)) ∧ ¬ M q ∧ Good (c :: ns) ∧
  (c ≠ 1 → m = none → E (.ref a.c_NothingOpen) none H) ∧
  (c ≠ 1 → ∀ h, m = some h → act h (c :: ns) = none → E (.ref a.c_NotAsTold) none H) ∧
  (c = 1 → ∀ (H' : Hp) (M' : Addr → Prop) (t : Addr), Done a H p M (some ih0) [0] H' M' t → Q (.ref t) H') ∧
  (c ≠ 1 → ∀ h, m = some h → ∀ h' r, act h (c :: ns) = some (h', r) → ∀ (H' : Hp) (M' : Addr → Prop) (t : Addr), Done a H p M (some h') r H' M' t → Q (.ref t) H')
/-- the action that stands at the call's place -/
theorem act_at (T : Txt K mg a d) {c : Int} (h : 1 ≤ c ∧ c ≤ 12) : ∃ (f : Addr) (es : Array DictEntry) (n : Nat), K.lookup a.o_ACTIONS = some ⟨.type "dict", none, .dict es n, #[]⟩ ∧ KeysInt es.toList ∧ findBy Value.isInt es c = some (.ref f) ∧ PySem.W.keepIn K (.ref f) = true ∧
    FnR P w K mg base (L2.CX P w) 8 f (spOf a c) := by
  obtain ⟨es, n, hl, hk, k1, k2, k3, k4, k5, k6, k7, k8, k9, k10, k11, k12⟩ := T.l_ACTIONS
  have raw : ∀ {f : Addr} {fd : FuncData} {sp : Sp}, FnOk P w K mg base (L2.CX P w) 8 f fd ["desk", "numbers"] sp → Binds K fd ["desk", "numbers"] [] → FnR P w K mg base (L2.CX P w) 8 f sp := fun F b => (F.raw b .nil).imp fun vs H Q E h => by rw [List.append_nil]; exact h
  have up : ∀ {j : Nat} {f : Addr} {fd : FuncData} {sp : Sp}, j ≤ 8 → FnOk P w K mg base (L2.CX P w) j f fd ["desk", "numbers"] sp → FnOk P w K mg base (L2.CX P w) 8 f fd ["desk", "numbers"] sp := fun hj F => ⟨F.len, fun A outer s H args us vs Q E hr => F.run A outer s H args us vs Q E (hr.mono hj)⟩
  have cs : c = 1 ∨ c = 2 ∨ c = 3 ∨ c = 4 ∨ c = 5 ∨ c = 6 ∨ c = 7 ∨ c = 8 ∨ c = 9 ∨ c = 10 ∨ c = 11 ∨ c = 12 := by omega
  have so : ∀ {j : Int}, j ≠ 1 → spOf a j = spAct a j := fun {j} n => if_neg n
  have s1 : spOf a 1 = sp_begin_anew a := if_pos rfl
  rcases cs with rfl | rfl | rfl | rfl | rfl | rfl | rfl | rfl | rfl | rfl | rfl | rfl
  · rw [s1]; exact ⟨_, es, n, hl, hk, k1, T.d_begin_anew.fn.kp, raw (up (by decide) (FnOk_up (ok_begin_anew T))) T.d_begin_anew.bd⟩
  · rw [so (by decide)]; exact ⟨_, es, n, hl, hk, k2, T.d_set_voice.fn.kp, raw (up (by decide) (ok_set_voice T)) T.d_set_voice.bd⟩
  · rw [so (by decide)]; exact ⟨_, es, n, hl, hk, k3, T.d_set_filter.fn.kp, raw (up (by decide) (ok_set_filter T)) T.d_set_filter.bd⟩
  · rw [so (by decide)]; exact ⟨_, es, n, hl, hk, k4, T.d_set_shape.fn.kp, raw (up (by decide) (ok_set_shape T)) T.d_set_shape.bd⟩
  · rw [so (by decide)]; exact ⟨_, es, n, hl, hk, k5, T.d_turn_on.fn.kp, raw (up (by decide) (ok_turn_on T)) T.d_turn_on.bd⟩
  · rw [so (by decide)]; exact ⟨_, es, n, hl, hk, k6, T.d_turn_off.fn.kp, raw (up (by decide) (ok_turn_off T)) T.d_turn_off.bd⟩
  · rw [so (by decide)]; exact ⟨_, es, n, hl, hk, k7, T.d_set_echo.fn.kp, raw (up (by decide) (ok_set_echo T)) T.d_set_echo.bd⟩
  · rw [so (by decide)]; exact ⟨_, es, n, hl, hk, k8, T.d_play.fn.kp, raw (up (by decide) (ok_play T)) T.d_play.bd⟩
  · rw [so (by decide)]; exact ⟨_, es, n, hl, hk, k9, T.d_tell_voice.fn.kp, raw (up (by decide) (ok_tell_voice T)) T.d_tell_voice.bd⟩
  · rw [so (by decide)]; exact ⟨_, es, n, hl, hk, k10, T.d_count_sounding.fn.kp, raw (up (by decide) (FnOk_up (ok_count_sounding T))) T.d_count_sounding.bd⟩
  · rw [so (by decide)]; exact ⟨_, es, n, hl, hk, k11, T.d_blend.fn.kp, raw (up (by decide) (ok_blend T)) T.d_blend.bd⟩
  · rw [so (by decide)]; exact ⟨_, es, n, hl, hk, k12, T.d_measure.fn.kp, raw (up (by decide) (ok_measure T)) T.d_measure.bd⟩
theorem sc_carry_out : FnScope ["desk", "call", "numbers", "action"] ["desk", "call", "numbers"] (defScope s_carry_out) := ⟨rfl, rfl, rfl, by decide +kernel, rfl, by decide +kernel, by decide +kernel⟩
theorem ok_carry_out (T : Txt K mg a d) : FnOk P w K mg base (L2.CX P w) 9 a.f_carry_out d.f_carry_out ["desk", "call", "numbers"] (spCarry a) := by
  refine T.d_carry_out.fn.okX sc_carry_out (fun vs H Q E h => ?_) (fun cdv A outer s H vs Q E hr h => ?_)
  · obtain ⟨p, q, c, M, m, ns, rfl, _⟩ := h; rfl
  obtain ⟨p, q, c, M, m, ns, rfl, hA, hB, hq, nq, gd, eO, eN, ok1, okS⟩ := h
  obtain ⟨f, es, n, hl, hk, hf, kp, F⟩ := act_at (P := P) (w := w) (base := base) T (good_place gd)
  refine ⟨_, (pss_cons (ps_if (PW.pt (pw_and (pt_cmpR op_ne (pv 1) (pe_gi T.g_OPENING rfl) (nomark _)) (pw_and1 (pt_not (pt_truth (pe_fld (pv 0) rfl) (fun _ => rfl)))))) (pss_one (ps_raise rfl (takes_of rfl rfl rfl rfl) (pmk_own0 PySem.F.excBase_ValueError T.e_NothingOpen.x T.e_NothingOpen.gl T.e_NothingOpen.kp (raises_own T.e_NothingOpen.b T.e_NothingOpen.t) rfl))) pss_nil)
    (pss_cons (ps_set (i := 3) sc_carry_out.nd rfl (Or.inl rfl) (pe_ix ix_kdictI (pe_glob (v := V.ref a.o_ACTIONS) rfl T.g_ACTIONS rfl) (pv 1) (fun _ _ => rfl)))
    (pss_one (ps_ret (ItX.pe_callV (i := 3) F hr kp (passes_call (takes_of rfl rfl rfl rfl) (fun _ _ _ _ h => h)) rfl (Or.inl rfl) (pa_cons (pv 0) (pa_cons (pv 2) pa_nil))))))), ?_⟩
  obtain ⟨dd, lv, e0, h1, hno, hso⟩ := hA.ex
  have go : ¬ (c ≠ 1 ∧ m = none) → spOf a c [.ref p, .ref q] H Q E := fun c0 => by
    by_cases c1 : c = 1
    · have e : spOf a c = sp_begin_anew a := if_pos c1
      rw [e]
      exact ⟨p, q, M, m, rfl, hA, ok1 c1⟩
    · have e : spOf a c = spAct a c := if_neg c1
      rw [e]
      cases m with
      | none => exact absurd ⟨c1, rfl⟩ c0
      | some h => exact ⟨p, q, M, h, ns, rfl, hA, hB h rfl, hq, nq, gd, eN c1 h rfl, okS c1 h rfl⟩
  have fin : ¬ (c ≠ 1 ∧ m = none) → tSeq (tAsg (tOp (rIxKI K) (tC (V.ref a.o_ACTIONS)) (tVar 1)) (gName 3)) (tRet (ItX.tCallV 3 f (spOf a c) E (tCons (tVar 0) (tCons (tVar 2) tNil)))) { nx := fun _ H' => Q V.non H', rt := Q } [some (V.ref p), some (V.int c), some (V.ref q), none] H := fun c0 =>
    ⟨_, rfl, _, c, es, n, _, .ref f, rfl, rfl, hl, hk, hf, rfl, rfl, _, rfl, _, rfl, go c0⟩
  refine ⟨_, rfl, rfl, _, rfl, ?_⟩
  by_cases c1 : c = 1
  · subst c1
    exact if_false_of rfl (fin fun z => z.1 rfl)
  · refine if_true_of (by simp [c1]) ?_
    cases m with
    | none =>
      refine ⟨_, rfl, p, _, dd, _, _, rfl, h1, T.cl_Desk, T.n_Desk_voices, dF_voices, _, Or.inl ⟨_, SqL.of (hno rfl).1, rfl⟩, ?_⟩
      exact eO c1 rfl
    | some h =>
      obtain ⟨N, s1, np, nm⟩ := hso h rfl
      obtain ⟨vas, lr, rr, L, R, pl, gv, _⟩ := s1.ex
      refine ⟨_, rfl, p, _, dd, _, _, rfl, h1, T.cl_Desk, T.n_Desk_voices, dF_voices, _, Or.inl ⟨_, SqL.of gv.lst, rfl⟩, ?_⟩
      cases vas with
      | nil =>
        have := gv.len
        rw [(hB h rfl).len] at this
        cases this
      | cons x vs => exact fin fun z => by cases z.2

def spAnswer (a : Ad) : Sp := fun vs H Q _ => ∃ (p q : Addr) (c : Int) (M : Addr → Prop) (m : Option IH) (ns : List Int), vs = [.ref p, .int c, .ref q] ∧ At a H p M m ∧ (∀ h, m = some h → BdH h) ∧ H q = some (.lst (ns.map V.int)) ∧ ¬ M q ∧ Good (c :: ns) ∧
  ∀ (H' : Hp) (M' : Addr → Prop) (t : Addr), Done a H p M (ansM m (c :: ns)).1 (ansM m (c :: ns)).2 H' M' t → Q (.ref t) H'
theorem sc_answer_to : FnScope ["desk", "call", "numbers"] ["desk", "call", "numbers"] (defScope s_answer_to) := ⟨rfl, rfl, rfl, by decide +kernel, rfl, by decide +kernel, by decide +kernel⟩
theorem ok_answer_to (T : Txt K mg a d) : FnOk P w K mg base CX0 10 a.f_answer_to d.f_answer_to ["desk", "call", "numbers"] (spAnswer a) := by
  have G_carry_out := ok_carry_out (P := P) (w := w) (base := base) T
  refine T.d_answer_to.fn.ok sc_answer_to (fun vs H Q E h => ?_) (fun cdv A outer s H vs Q E hr h => ?_)
  · obtain ⟨p, q, c, M, m, ns, rfl, _⟩ := h; rfl
  refine ⟨_, (pss_one (ps_try_many rfl rfl takes0 (fun W pn xe tk _ => (pss_one (ps_ret (pe_callS G_carry_out (hr.mono (by decide)) rfl T.d_carry_out.gl T.d_carry_out.fn.kp T.d_carry_out.bd (fun σ => passAt tk σ) (pa_cons (pv 0) (pa_cons (pv 1) (pa_cons (pv 2) pa_nil))))))) (HdsOk.cons ⟨rfl, by decide, .inl T.e_NothingOpen.gl⟩ (ts := fun _ _ _ => tRet (tLst (tCons (tC (V.int (-7))) tNil))) (fun _ _ _ _ _ _ _ => (pss_one (ps_ret (pe_lst (pa_cons (pe_gi T.g_NOTHING_OPEN rfl) pa_nil))))) (HdsOk.cons ⟨rfl, by decide, .inl T.e_NotAsTold.gl⟩ (ts := fun _ _ _ => tRet (tLst (tCons (tC (V.int (-2))) tNil))) (fun _ _ _ _ _ _ _ => (pss_one (ps_ret (pe_lst (pa_cons (pe_gi T.g_NOT_AS_TOLD rfl) pa_nil))))) HdsOk.nil)))), ?_⟩
  obtain ⟨p, q, c, M, m, ns, rfl, hA, hB, hq, nq, gd, ok⟩ := h
  have ne1 : c ≠ 1 → c :: ns ≠ [1] := fun n z => n (by injection z)
  refine ⟨_, rfl, _, rfl, _, rfl, p, q, c, M, m, ns, rfl, hA, hB, hq, nq, gd, fun c0 m0 => ?_, fun c0 h m0 e => ?_, fun c0 H' M' t dn => ?_, fun c0 h m0 h' r e H' M' t dn => ?_⟩
  · refine ⟨true, T.ex_NothingOpen_NothingOpen, fun _ x hx => ⟨(by decide), fun t ht => ?_⟩, fun z => Bool.noConfusion z⟩
    have dn := beside_end (r := [-7]) hA ht
    rw [ansM_ne (ne1 c0), m0] at ok
    rw [m0] at dn
    exact ok _ M t dn
  · refine ⟨false, T.ex_NotAsTold_NothingOpen, fun z => Bool.noConfusion z, fun _ => ⟨true, T.ex_NotAsTold_NotAsTold, fun _ x hx => ⟨(by decide), fun t ht => ?_⟩, fun z => Bool.noConfusion z⟩⟩
    have dn := beside_end (r := [-2]) hA ht
    have e2 : ansM m (c :: ns) = (some h, [-2]) := by rw [ansM_ne (ne1 c0), m0]; dsimp only; rw [e]
    rw [e2] at ok
    rw [m0] at dn
    exact ok _ M t dn
  · subst c0
    have := good1 gd
    subst this
    exact ok H' M' t dn
  · have e2 : ansM m (c :: ns) = (some h', r) := by rw [ansM_ne (ne1 c0), m0]; dsimp only; rw [e]
    rw [e2] at ok
    exact ok H' M' t dn
end
end VS


set_option Elab.async false
set_option maxRecDepth 100000
set_option maxHeartbeats 4000000
namespace VS
open PySem PySem.Spec PyProof.Rows L2
section
variable {P : Program} {w : World} {K : PySem.W.Frag} {mg : Str → Option Value} {base : Heap} {a : Ad} {d : Fd}

theorem sqL_keep {H H' : Hp} {q : Addr} {xs : List V} (h : SqL K H q xs) (k : ∀ o, H q = some o → H' q = some o) : SqL K H' q xs := by
  rcases h with (h | ⟨o, h⟩) | h
  · exact .inl (.inl (k _ h))
  · exact .inl (.inr ⟨o, k _ h⟩)
  · exact .inr h
theorem asked1_of {c : List (List Int)} (h : Sj32Neutral.asked1 c = true) : c.length = 1 ∧ (Sj32Neutral.callOf (c.headD [])).isSome = true := by
  unfold Sj32Neutral.asked1 at h
  rw [Bool.and_eq_true, Bool.and_eq_true] at h
  exact ⟨by simpa using h.1, h.2.2⟩
theorem rel_bd {s : Sj32.State} {m : Option IH} (r : Rel s m) : ∀ h, m = some h → BdH h := by
  intro h e
  rcases r with ⟨_, rfl⟩ | ⟨g, _, o, rfl⟩
  · cases e
  · cases e
    exact bdH_of o
def spAt (K : PySem.W.Frag) (a : Ad) : Sp := fun vs H Q _ => ∃ (p q : Addr) (M : Addr → Prop) (l : Option IH) (ns : List Int) (f : Nat) (cs : List (List (List Int))) (s : Sj32Neutral.S) (H0 : Hp), vs = [.ref p, .ref q] ∧ At a H p M l ∧ Rel s l ∧ SqL K H0 q (ns.map V.int) ∧ (∀ o, H0 q = some o → H q = some o ∧ ¬ M q) ∧ ns.length ≤ 16000 ∧
  PyWide.calls f ns = some cs ∧ (∀ c ∈ cs, Sj32Neutral.asked1 c = true) ∧ (PyFlat.told (PyFlat.played Sj32Neutral.step s cs)).length ≤ 10000000 ∧
  ∀ (H' : Hp) (t : Addr), H' t = some (.lst ((PyFlat.told (PyFlat.played Sj32Neutral.step s cs)).map V.int)) → Q (.ref t) H'
def placeOf (σ : L2.St) : Nat := match (σ[3]? : Option (Option V)) with
  | some (some (V.int i)) => i.toNat
  | _ => 0
theorem sc_answers_at : FnScope ["desk", "calls", "told", "place", "first", "behind", "answer"] ["desk", "calls"] (defScope s_answers_at) := ⟨rfl, rfl, rfl, by decide +kernel, rfl, by decide +kernel, by decide +kernel⟩
theorem ok_answers_at (T : Txt K mg a d) : FnOk P w K mg base CX0 11 a.f_answers_at d.f_answers_at ["desk", "calls"] (spAt K a) := by
  have G_answer_to := ok_answer_to (P := P) (w := w) (base := base) T
  refine T.d_answers_at.fn.ok sc_answers_at (fun vs H Q E h => ?_) (fun cdv A outer s H vs Q E hr h => ?_)
  · obtain ⟨p, q, M, l, ns, f, cs, s, H0, rfl, _⟩ := h; rfl
  refine ⟨_, (pss_cons (ps_set (i := 2) sc_answers_at.nd rfl (Or.inl rfl) (pe_lst pa_nil))
    (pss_cons (ps_set (i := 3) sc_answers_at.nd rfl (Or.inl rfl) pe_int)
    (pss_cons (ps_while PassesOwn.never (pt_cmpR op_lt (pv 3) (pe_callB call_len_seq (by rfl) T.b_len (by decide +kernel) (pa_cons (pv 1) pa_nil)) (nomark _)) (pss_cons (ps_set (i := 4) sc_answers_at.nd rfl (Or.inl rfl) (pe_op op_add (pv 3) pe_int))
    (pss_cons (ps_set (i := 5) sc_answers_at.nd rfl (Or.inl rfl) (pe_op op_add (pv 4) (pe_ix ix_list (pv 1) (pe_op op_add (pv 3) pe_int) (fun _ _ => rfl))))
    (pss_cons (ps_set (i := 6) sc_answers_at.nd rfl (Or.inl rfl) (pe_call G_answer_to (hr.mono (by decide)) rfl T.d_answer_to.gl T.d_answer_to.fn.kp T.d_answer_to.bd .nil pass0 (pa_cons (pv 0) (pa_cons (pe_ix ix_list (pv 1) (pv 3) (fun _ _ => rfl)) (pa_cons (pe_slice sl_list (pv 1) (po_some (pv 4)) (po_some (pv 5))) pa_nil)))))
    (pss_cons (ps_expr (pe_bm PySem.F.plainAttrs_list PySem.F.slot_list_append PySem.F.type_list_append mt_append (pv 2) (pa_cons (pe_callB call_len_seq (by rfl) T.b_len (by decide +kernel) (pa_cons (pv 6) pa_nil)) pa_nil)))
    (pss_cons (ps_expr (pe_bm PySem.F.plainAttrs_list PySem.F.slot_list_extend PySem.F.type_list_extend mt_extend (pv 2) (pa_cons (pv 6) pa_nil)))
    (pss_one (ps_set (i := 3) sc_answers_at.nd rfl (Or.inl rfl) (pe_op op_add (pv 5) pe_int)))))))))
    (pss_one (ps_ret (pv 2)))))), ?_⟩
  obtain ⟨p, q, M0, l0, ns, f0, cs0, s0, H0, rfl, hA0, hR0, hq0, nq0, hlen, hc0, hrun0, hshort, k⟩ := h
  obtain ⟨ans, hans⟩ : ∃ ans, ans = PyFlat.told (PyFlat.played Sj32Neutral.step s0 cs0) := ⟨_, rfl⟩
  rw [← hans] at hshort k
  refine ⟨by decide, fun t ht => ?_⟩
  refine while_by (fun σ H' => ∃ (i f : Nat) (cs : List (List (List Int))) (s : Sj32Neutral.S) (l : Option IH) (M : Addr → Prop) (out : List Int) (x4 x5 x6 : Option V), σ = [some (.ref p), some (.ref q), some (.ref t), some (.int (i : Int)), x4, x5, x6] ∧
      At a H' p M l ∧ Rel s l ∧ (∀ o, H0 q = some o → H' q = some o ∧ ¬ M q) ∧ H' t = some (.lst (out.map V.int)) ∧ ¬ M t ∧ i ≤ ns.length ∧ PyWide.calls f (ns.drop i) = some cs ∧ (∀ c ∈ cs, Sj32Neutral.asked1 c = true) ∧ out ++ PyFlat.told (PyFlat.played Sj32Neutral.step s cs) = ans)
    (fun σ _ => ns.length - placeOf σ) ?_ ?_ ?_
  · obtain ⟨g1, g2, g3, _, g4⟩ := beside_end (r := []) hA0 ht
    exact ⟨0, f0, cs0, s0, l0, M0, [], none, none, none, rfl, g1, hR0, fun o e => g4 _ _ (nq0 o e).1 (nq0 o e).2, g2, g3, Nat.zero_le _, hc0, hrun0, hans.symm⟩
  · rintro σ H1 ⟨i, f, cs, s, l, M, out, x4, x5, x6, rfl, hA, hR, hq, ht1, nt, hi, hc, hrun, hout⟩
    have tq : ∀ o, H0 q = some o → q ≠ t := fun o e => ne_of_none (nq0 o e).1 ht
    have hS : SqL K H1 q (ns.map V.int) := sqL_keep hq0 fun o e => (hq o e).1
    refine ⟨_, rfl, _, rfl, q, _, rfl, .inl hS, _, _, rfl, rfl, _, rfl, ?_⟩
    rw [List.length_map]
    cases cs with
    | nil =>
      have e := calls_nil hc
      have : ns.length ≤ i := List.drop_eq_nil_iff.mp e
      refine if_false_of (decide_eq_false (by omega)) ?_
      refine ⟨_, rfl, k _ t ?_⟩
      rw [ht1, ← hout]
      simp [PyFlat.played, PyFlat.told]
    | cons c cs =>
      have hrun' : ∀ c' ∈ cs, Sj32Neutral.asked1 c' = true := fun c' hc' => hrun c' (List.mem_cons_of_mem _ hc')
      obtain ⟨one, isC⟩ := asked1_of (hrun c (List.mem_cons_self ..))
      obtain ⟨g, pc, xs, u, rfl, hd, hu⟩ := calls_cons hc one
      have gd : Good (pc :: xs) := good_of isC
      obtain ⟨n0, n1, n2, n3, n4⟩ := drop_parts hd
      obtain ⟨hans1, hR'⟩ := step_rel hR gd
      refine if_true_of (decide_eq_true (by omega)) ?_
      have a0 : atI (ns.map V.int) ((i : Nat) : Int) = some (.int pc) := atI_nat (by rw [List.getElem?_map, n0]; rfl)
      have a1 : atI (ns.map V.int) ((i : Int) + 1) = some (.int xs.length) := atI_nat (j := i + 1) (by rw [List.getElem?_map, n1]; rfl)
      refine ⟨_, rfl, _, _, rfl, rfl, ?_⟩
      refine ⟨_, rfl, _, rfl, _, rfl, _, _, rfl, rfl, q, _, _, _, rfl, rfl, hS, a1, _, _, rfl, rfl, ?_⟩
      refine ⟨_, rfl, _, rfl, _, rfl, q, _, _, _, rfl, rfl, hS, a0, _, rfl, _, rfl, _, rfl, _, rfl, _, rfl, q, _, rfl, hS, fun y hy => ?_⟩
      have cut : cutV (ns.map V.int) (some ((i : Int) + 2)) (some ((i : Int) + 2 + (xs.length : Int))) = xs.map V.int := by
        have := cut_nat (ns := ns) (i := i + 2) (m := xs.length) (by omega)
        rw [n2] at this
        exact this
      rw [cut]
      have ny : ¬ M y := fun my => by
        obtain ⟨o, eo⟩ := hA.live y my
        rw [hy] at eo
        cases eo
      refine ⟨p, y, pc, M, l, xs, rfl, hA.beside hy, rel_bd hR, upd_same, ny, gd, fun H2 M2 z dn => ?_⟩
      obtain ⟨g1, g2, g3, g5, g4⟩ := dn
      have ty : t ≠ y := ne_of_none ht1 hy
      obtain ⟨t2, nt2⟩ := g4 t _ (by rw [upd_ne ty]; exact ht1) nt
      have hq2 : ∀ o, H0 q = some o → H2 q = some o ∧ ¬ M2 q := fun o e => by
        obtain ⟨e1, e2⟩ := hq o e
        exact g4 q o (by rw [upd_ne (ne_of_none e1 hy)]; exact e1) e2
      have zt : z ≠ t := fun e => by
        rw [e, upd_ne ty, ht1] at g5
        cases g5
      obtain ⟨r, hr2⟩ : ∃ r, r = (ansM l (pc :: xs)).2 := ⟨_, rfl⟩
      rw [← hr2] at g2 hans1
      have hout2 : out ++ (((r.length : Int) :: r) ++ PyFlat.told (PyFlat.played Sj32Neutral.step (Sj32Neutral.step s [pc :: xs]).1 cs)) = ans := by
        rw [← hout, ← hans1]
        rfl
      have hl2 : out.length + (r.length + 1) ≤ 10000000 := by
        have := congrArg List.length hout2
        rw [List.length_append, List.length_append, List.length_cons] at this
        omega
      have sz := sizeLine_eq
      refine ⟨_, rfl, .inl ⟨rfl, _, SqL.of t2⟩, _, rfl, z, _, rfl, .inl (SqL.of g2), t, _, _, rfl, rfl, t2, (by rw [List.length_map, sz]; omega), ?_⟩
      refine ⟨_, rfl, .inl ⟨rfl, _, SqL.of upd_same⟩, _, rfl, t, z, _, _, rfl, rfl, upd_same, (by rw [upd_ne zt]; exact g2), (by simp only [List.length_append, List.length_map, List.length_singleton]; rw [sz]; omega), ?_⟩
      refine ⟨_, rfl, _, _, rfl, rfl, ?_⟩
      have lm : (List.map V.int r).length = r.length := List.length_map ..
      refine ⟨⟨i + 3 + xs.length, g, cs, _, _, M2, out ++ ((r.length : Int) :: r), some (.int ((i : Int) + 2)), some (.int ((i : Int) + 2 + (xs.length : Int))), some (.ref z), ?_, ?_, hR', ?_, ?_, nt2, n4, ?_, hrun', ?_⟩, ?_⟩
      · have e : (i : Int) + 2 + (xs.length : Int) + 1 = ((i + 3 + xs.length : Nat) : Int) := by omega
        show [some (V.ref p), some (V.ref q), some (V.ref t), some (V.int ((i : Int) + 2 + (xs.length : Int) + 1)), _, _, _] = _
        rw [e]
      · refine g1.keep fun b o mb e => ?_
        have bt : b ≠ t := fun z => nt2 (z ▸ mb)
        rw [upd_ne bt, upd_ne bt]
        exact e
      · intro o e
        obtain ⟨e1, e2⟩ := hq2 o e
        exact ⟨by rw [upd_ne (tq o e), upd_ne (tq o e)]; exact e1, e2⟩
      · rw [upd_same, lm, List.map_append, List.append_assoc]
        rfl
      · rw [n3]; exact hu
      · rw [← hout2, List.append_assoc]
      · show ns.length - (((i : Int) + 2 + (xs.length : Int)) + 1).toNat < ns.length - ((i : Int)).toNat
        omega
  · rintro σ H1 Q1 Q2 m ⟨v, hv, x, hx, p1, ys, e1, hl, i1, j1, e2, e3, k1, e4, hq⟩
    exact ⟨v, hv, x, hx, p1, ys, e1, hl, i1, j1, e2, e3, k1, e4, m _ _ hq⟩

def spAns (K : PySem.W.Frag) : Sp := fun vs H Q _ => ∃ (a : Addr) (ns : List Int), vs = [.ref a] ∧ SqL K H a (ns.map V.int) ∧ ns.length ≤ 16000 ∧ PySj32.answers_asked ns = true ∧
  ∀ (H' : Hp) (p : Addr), H' p = some (.lst ((PySj32.answers ns).map V.int)) → Q (.ref p) H'
def LEVEL : Nat := 12
theorem sc_answers : FnScope ["calls"] ["calls"] (defScope s_answers) := ⟨rfl, rfl, rfl, by decide +kernel, rfl, by decide +kernel, by decide +kernel⟩
theorem ok_answers (T : Txt K mg a d) : FnOk P w K mg base CX0 LEVEL a.f_answers d.f_answers ["calls"] (spAns K) := by
  have G_Desk_init := ok_Desk_init (P := P) (w := w) (base := base) T
  have G_answers_at := ok_answers_at (P := P) (w := w) (base := base) T
  refine T.d_answers.fn.ok sc_answers (fun vs H Q E h => ?_) (fun cdv A outer s H vs Q E hr h => ?_)
  · obtain ⟨q, ns, rfl, _⟩ := h; rfl
  refine ⟨_, (pss_one (ps_ret (pe_call G_answers_at (hr.mono (by decide)) rfl T.d_answers_at.gl T.d_answers_at.fn.kp T.d_answers_at.bd .nil pass0 (pa_cons (pe_make0 T.mk_Desk G_Desk_init (hr.mono (by decide)) rfl T.g_Desk T.m_Desk_init.bd .nil pass0) (pa_cons (pv 0) pa_nil))))), ?_⟩
  obtain ⟨q, ns, rfl, hq, hlen, hask, k⟩ := h
  intro p dx np ndx ne
  refine ⟨p, dx, rfl, upd_same, fun H1 M hA fr => ⟨rfl, ?_⟩⟩
  have keep : ∀ o, H q = some o → H1 q = some o ∧ ¬ M q := fun o e => by
    have n1 : q ≠ p := ne_of_none e np
    have n2 : q ≠ dx := ne_of_none e ndx
    exact fr q o (by rw [upd_ne n1, upd_ne n2]; exact e) n1
  obtain ⟨cs, hcs⟩ : ∃ cs, PySj32.calls ns = some cs := by
    unfold PySj32.answers_asked at hask
    split at hask
    · cases hask
    · rename_i cs e; exact ⟨cs, e⟩
  have eans : PySj32.answers ns = PyFlat.told (PyFlat.played Sj32Neutral.step Sj32Neutral.start cs) := by
    unfold PySj32.answers
    rw [hcs]
  have hshort : (PySj32.answers ns).length ≤ 10000000 := by
    unfold PySj32.answers_asked at hask
    rw [hcs] at hask
    simp only [Bool.and_eq_true] at hask
    exact of_decide_eq_true hask.2
  rw [eans] at hshort k
  have hall : ∀ c ∈ cs, Sj32Neutral.asked1 c = true := by
    unfold PySj32.answers_asked at hask
    rw [hcs] at hask
    simp only [Bool.and_eq_true] at hask
    have q4 := hask.1.2
    unfold Sj32Neutral.asked at q4
    rw [Bool.and_eq_true] at q4
    exact List.all_eq_true.mp q4.1
  exact ⟨_, rfl, p, q, M, none, ns, _, cs, Sj32Neutral.start, H, rfl, hA, Or.inl ⟨rfl, rfl⟩, hq, keep, hlen, hcs, hall, hshort, fun H' t ht => k H' t ht⟩
theorem ends {fa : Addr} (h : ∃ (a : Ad) (d : Fd), Txt K mg a d ∧ a.f_answers = fa ∧ ∀ us : List Value, us.length = 1 → bindArgs d.f_answers ⟨us, []⟩ = pure ((["calls"] : List Str).zip us)) :
    ∃ fd : FuncData, (∀ (s : Shared) (us : List Value), us.length = (["calls"] : List Str).length → BindsTo s fd ⟨us, []⟩ ((["calls"] : List Str).zip us)) ∧ ∀ base : Heap, K.In base → base.Ns mainGlobals mg → FnOk P w K mg base CX0 LEVEL fa fd ["calls"] (spAns K) := by
  obtain ⟨a, d, T, rfl, hb⟩ := h
  exact ⟨_, fun s us hl => .of_eq (hb us hl), fun base _ _ => ok_answers T⟩
end
end VS


set_option Elab.async false
set_option maxRecDepth 100000
set_option maxHeartbeats 8000000
namespace VS
open PySem PySem.Spec PyProof.Rows L2

/-- an error of one class of one's own, asked for another's name -/
theorem exm_own {K : PySem.W.Frag} {S T : Addr} {r : Bool} (h1 : PySem.W.subIn K (.ref T) (.type "BaseException") = some true) (h2 : PySem.W.isClsIn K T = true) (h3 : PySem.W.typeIn K (.ref T) = some (.type "type")) (h4 : PySem.W.subIn K (.ref S) (.ref T) = some r) :
    PySem.W.exmOne K (.ref S) (.ref T) = some r := by
  have e1 : (PySem.W.subIn K (.ref T) (.type "BaseException") == some true) = true := by rw [h1] <;> rfl
  have e2 : ((PySem.W.clsIn K T).isSome && PySem.W.typeIn K (.ref T) == some (.type "type")) = true := by
    have h2' : (PySem.W.clsIn K T).isSome = true := h2
    rw [h2', h3] <;> rfl
  show (if (PySem.W.subIn K (.ref T) (.type "BaseException") == some true) = true then (if ((PySem.W.clsIn K T).isSome && PySem.W.typeIn K (.ref T) == some (.type "type")) = true then PySem.W.subIn K (.ref S) (.ref T) else none) else none) = some r
  rw [if_pos e1, if_pos e2]
  exact h4
theorem all_mk {K : PySem.W.Frag} {h : Heap} {mg : Str → Option Value} {fa : Addr} (X : K.In h) (G : h.Ns mainGlobals mg) (hfa : mg "answers" = some (.ref fa))
    {t_UNIT_BITS : Tok}
    {t_FLOAT_BITS : Tok}
    {t_HELD_AT : Tok}
    {t_LEAST_E : Tok}
    {t_LEAST_FLOAT_E : Tok}
    {t_LEAST_SAMPLE : Tok}
    {t_MOST_SAMPLE : Tok}
    {t_SAMPLE_BITS : Tok}
    {t_STILL : Tok}
    {t_RISING : Tok}
    {t_FALLING : Tok}
    {t_LET_GO : Tok}
    {t_FIRST_DRAW : Tok}
    {t_STILL_BELOW_E : Tok}
    {t_VOICE_COUNT : Tok}
    {t_MOST_ECHO : Tok}
    {t_MOST_PLAYED : Tok}
    {t_MOST_IN_ROW : Tok}
    {t_OPENING : Tok}
    {t_DONE : Tok}
    {t_NOT_AS_TOLD : Tok}
    {t_NOTHING_OPEN : Tok}
    {f_units_of : Addr} {oc_units_of kV_units_of dc_units_of pm_units_of cd_units_of ct_units_of : Value} {od_units_of an_units_of : Option Addr} {sl_units_of : Array (Option Value)}
    {f_nearest_whole : Addr} {oc_nearest_whole kV_nearest_whole dc_nearest_whole pm_nearest_whole cd_nearest_whole ct_nearest_whole : Value} {od_nearest_whole an_nearest_whole : Option Addr} {sl_nearest_whole : Array (Option Value)}
    {f_nearest_float : Addr} {oc_nearest_float kV_nearest_float dc_nearest_float pm_nearest_float cd_nearest_float ct_nearest_float : Value} {od_nearest_float an_nearest_float : Option Addr} {sl_nearest_float : Array (Option Value)}
    {f_plus : Addr} {oc_plus kV_plus dc_plus pm_plus cd_plus ct_plus : Value} {od_plus an_plus : Option Addr} {sl_plus : Array (Option Value)}
    {f_minus : Addr} {oc_minus kV_minus dc_minus pm_minus cd_minus ct_minus : Value} {od_minus an_minus : Option Addr} {sl_minus : Array (Option Value)}
    {f_times : Addr} {oc_times kV_times dc_times pm_times cd_times ct_times : Value} {od_times an_times : Option Addr} {sl_times : Array (Option Value)}
    {f_made_float : Addr} {oc_made_float kV_made_float dc_made_float pm_made_float cd_made_float ct_made_float : Value} {od_made_float an_made_float : Option Addr} {sl_made_float : Array (Option Value)}
    {f_held : Addr} {oc_held kV_held dc_held pm_held cd_held ct_held : Value} {od_held an_held : Option Addr} {sl_held : Array (Option Value)}
    {f_told_float : Addr} {oc_told_float kV_told_float dc_told_float pm_told_float cd_told_float ct_told_float : Value} {od_told_float an_told_float : Option Addr} {sl_told_float : Array (Option Value)}
    {f_whole_within : Addr} {oc_whole_within kV_whole_within dc_whole_within pm_whole_within cd_whole_within ct_whole_within : Value} {od_whole_within an_whole_within : Option Addr} {sl_whole_within : Array (Option Value)}
    {f_handed_float : Addr} {oc_handed_float kV_handed_float dc_handed_float pm_handed_float cd_handed_float ct_handed_float : Value} {od_handed_float an_handed_float : Option Addr} {sl_handed_float : Array (Option Value)}
    {f_side_echoed : Addr} {oc_side_echoed kV_side_echoed dc_side_echoed pm_side_echoed cd_side_echoed ct_side_echoed : Value} {od_side_echoed an_side_echoed : Option Addr} {sl_side_echoed : Array (Option Value)}
    {f_echoed : Addr} {oc_echoed kV_echoed dc_echoed pm_echoed cd_echoed ct_echoed : Value} {od_echoed an_echoed : Option Addr} {sl_echoed : Array (Option Value)}
    {f_within_16_bits : Addr} {oc_within_16_bits kV_within_16_bits dc_within_16_bits pm_within_16_bits cd_within_16_bits ct_within_16_bits : Value} {od_within_16_bits an_within_16_bits : Option Addr} {sl_within_16_bits : Array (Option Value)}
    {f_in_16_bits : Addr} {oc_in_16_bits kV_in_16_bits dc_in_16_bits pm_in_16_bits cd_in_16_bits ct_in_16_bits : Value} {od_in_16_bits an_in_16_bits : Option Addr} {sl_in_16_bits : Array (Option Value)}
    {f_over_32768 : Addr} {oc_over_32768 kV_over_32768 dc_over_32768 pm_over_32768 cd_over_32768 ct_over_32768 : Value} {od_over_32768 an_over_32768 : Option Addr} {sl_over_32768 : Array (Option Value)}
    {f_blended : Addr} {oc_blended kV_blended dc_blended pm_blended cd_blended ct_blended : Value} {od_blended an_blended : Option Addr} {sl_blended : Array (Option Value)}
    {f_risings : Addr} {oc_risings kV_risings dc_risings pm_risings cd_risings ct_risings : Value} {od_risings an_risings : Option Addr} {sl_risings : Array (Option Value)}
    {f_measured : Addr} {oc_measured kV_measured dc_measured pm_measured cd_measured ct_measured : Value} {od_measured an_measured : Option Addr} {sl_measured : Array (Option Value)}
    {f_rise : Addr} {oc_rise kV_rise dc_rise pm_rise cd_rise ct_rise : Value} {od_rise an_rise : Option Addr} {sl_rise : Array (Option Value)}
    {f_fall : Addr} {oc_fall kV_fall dc_fall pm_fall cd_fall ct_fall : Value} {od_fall an_fall : Option Addr} {sl_fall : Array (Option Value)}
    {f_die_away : Addr} {oc_die_away kV_die_away dc_die_away pm_die_away cd_die_away ct_die_away : Value} {od_die_away an_die_away : Option Addr} {sl_die_away : Array (Option Value)}
    {f_shape_goes_on : Addr} {oc_shape_goes_on kV_shape_goes_on dc_shape_goes_on pm_shape_goes_on cd_shape_goes_on ct_shape_goes_on : Value} {od_shape_goes_on an_shape_goes_on : Option Addr} {sl_shape_goes_on : Array (Option Value)}
    {f_part_of_turn : Addr} {oc_part_of_turn kV_part_of_turn dc_part_of_turn pm_part_of_turn cd_part_of_turn ct_part_of_turn : Value} {od_part_of_turn an_part_of_turn : Option Addr} {sl_part_of_turn : Array (Option Value)}
    {f_falling_wave : Addr} {oc_falling_wave kV_falling_wave dc_falling_wave pm_falling_wave cd_falling_wave ct_falling_wave : Value} {od_falling_wave an_falling_wave : Option Addr} {sl_falling_wave : Array (Option Value)}
    {f_up_or_down_wave : Addr} {oc_up_or_down_wave kV_up_or_down_wave dc_up_or_down_wave pm_up_or_down_wave cd_up_or_down_wave ct_up_or_down_wave : Value} {od_up_or_down_wave an_up_or_down_wave : Option Addr} {sl_up_or_down_wave : Array (Option Value)}
    {f_up_and_down_wave : Addr} {oc_up_and_down_wave kV_up_and_down_wave dc_up_and_down_wave pm_up_and_down_wave cd_up_and_down_wave ct_up_and_down_wave : Value} {od_up_and_down_wave an_up_and_down_wave : Option Addr} {sl_up_and_down_wave : Array (Option Value)}
    {f_noise_wave : Addr} {oc_noise_wave kV_noise_wave dc_noise_wave pm_noise_wave cd_noise_wave ct_noise_wave : Value} {od_noise_wave an_noise_wave : Option Addr} {sl_noise_wave : Array (Option Value)}
    {f_filtered : Addr} {oc_filtered kV_filtered dc_filtered pm_filtered cd_filtered ct_filtered : Value} {od_filtered an_filtered : Option Addr} {sl_filtered : Array (Option Value)}
    {f_within_32_bits : Addr} {oc_within_32_bits kV_within_32_bits dc_within_32_bits pm_within_32_bits cd_within_32_bits ct_within_32_bits : Value} {od_within_32_bits an_within_32_bits : Option Addr} {sl_within_32_bits : Array (Option Value)}
    {f_voice_sample : Addr} {oc_voice_sample kV_voice_sample dc_voice_sample pm_voice_sample cd_voice_sample ct_voice_sample : Value} {od_voice_sample an_voice_sample : Option Addr} {sl_voice_sample : Array (Option Value)}
    {f_sample_of_all : Addr} {oc_sample_of_all kV_sample_of_all dc_sample_of_all pm_sample_of_all cd_sample_of_all ct_sample_of_all : Value} {od_sample_of_all an_sample_of_all : Option Addr} {sl_sample_of_all : Array (Option Value)}
    {f_voice_at : Addr} {oc_voice_at kV_voice_at dc_voice_at pm_voice_at cd_voice_at ct_voice_at : Value} {od_voice_at an_voice_at : Option Addr} {sl_voice_at : Array (Option Value)}
    {f_begin_anew : Addr} {oc_begin_anew kV_begin_anew dc_begin_anew pm_begin_anew cd_begin_anew ct_begin_anew : Value} {od_begin_anew an_begin_anew : Option Addr} {sl_begin_anew : Array (Option Value)}
    {f_set_voice : Addr} {oc_set_voice kV_set_voice dc_set_voice pm_set_voice cd_set_voice ct_set_voice : Value} {od_set_voice an_set_voice : Option Addr} {sl_set_voice : Array (Option Value)}
    {f_set_filter : Addr} {oc_set_filter kV_set_filter dc_set_filter pm_set_filter cd_set_filter ct_set_filter : Value} {od_set_filter an_set_filter : Option Addr} {sl_set_filter : Array (Option Value)}
    {f_set_shape : Addr} {oc_set_shape kV_set_shape dc_set_shape pm_set_shape cd_set_shape ct_set_shape : Value} {od_set_shape an_set_shape : Option Addr} {sl_set_shape : Array (Option Value)}
    {f_turn_on : Addr} {oc_turn_on kV_turn_on dc_turn_on pm_turn_on cd_turn_on ct_turn_on : Value} {od_turn_on an_turn_on : Option Addr} {sl_turn_on : Array (Option Value)}
    {f_turn_off : Addr} {oc_turn_off kV_turn_off dc_turn_off pm_turn_off cd_turn_off ct_turn_off : Value} {od_turn_off an_turn_off : Option Addr} {sl_turn_off : Array (Option Value)}
    {f_set_echo : Addr} {oc_set_echo kV_set_echo dc_set_echo pm_set_echo cd_set_echo ct_set_echo : Value} {od_set_echo an_set_echo : Option Addr} {sl_set_echo : Array (Option Value)}
    {f_play : Addr} {oc_play kV_play dc_play pm_play cd_play ct_play : Value} {od_play an_play : Option Addr} {sl_play : Array (Option Value)}
    {f_tell_voice : Addr} {oc_tell_voice kV_tell_voice dc_tell_voice pm_tell_voice cd_tell_voice ct_tell_voice : Value} {od_tell_voice an_tell_voice : Option Addr} {sl_tell_voice : Array (Option Value)}
    {f_count_sounding : Addr} {oc_count_sounding kV_count_sounding dc_count_sounding pm_count_sounding cd_count_sounding ct_count_sounding : Value} {od_count_sounding an_count_sounding : Option Addr} {sl_count_sounding : Array (Option Value)}
    {f_blend : Addr} {oc_blend kV_blend dc_blend pm_blend cd_blend ct_blend : Value} {od_blend an_blend : Option Addr} {sl_blend : Array (Option Value)}
    {f_measure : Addr} {oc_measure kV_measure dc_measure pm_measure cd_measure ct_measure : Value} {od_measure an_measure : Option Addr} {sl_measure : Array (Option Value)}
    {f_carry_out : Addr} {oc_carry_out kV_carry_out dc_carry_out pm_carry_out cd_carry_out ct_carry_out : Value} {od_carry_out an_carry_out : Option Addr} {sl_carry_out : Array (Option Value)}
    {f_answer_to : Addr} {oc_answer_to kV_answer_to dc_answer_to pm_answer_to cd_answer_to ct_answer_to : Value} {od_answer_to an_answer_to : Option Addr} {sl_answer_to : Array (Option Value)}
    {f_answers_at : Addr} {oc_answers_at kV_answers_at dc_answers_at pm_answers_at cd_answers_at ct_answers_at : Value} {od_answers_at an_answers_at : Option Addr} {sl_answers_at : Array (Option Value)}
    {f_answers : Addr} {oc_answers kV_answers dc_answers pm_answers cd_answers ct_answers : Value} {od_answers an_answers : Option Addr} {sl_answers : Array (Option Value)}
    {c_Echo : Addr}
    {f_Echo_init : Addr} {oc_Echo_init kV_Echo_init dc_Echo_init pm_Echo_init cd_Echo_init ct_Echo_init : Value} {od_Echo_init an_Echo_init : Option Addr} {sl_Echo_init : Array (Option Value)}
    {c_Voice : Addr}
    {f_Voice_init : Addr} {oc_Voice_init kV_Voice_init dc_Voice_init pm_Voice_init cd_Voice_init ct_Voice_init : Value} {od_Voice_init an_Voice_init : Option Addr} {sl_Voice_init : Array (Option Value)}
    {c_Desk : Addr}
    {f_Desk_init : Addr} {oc_Desk_init kV_Desk_init dc_Desk_init pm_Desk_init cd_Desk_init ct_Desk_init : Value} {od_Desk_init an_Desk_init : Option Addr} {sl_Desk_init : Array (Option Value)}
    {c_NotAsTold : Addr}
    {c_NothingOpen : Addr}
    {o_ACTIONS : Addr} {es_ACTIONS : Array DictEntry} {n_ACTIONS : Nat}
    {o_WAVES : Addr} {oc_WAVES : Value} {od_WAVES : Option Addr} {its_WAVES : Array Value} {n_WAVES : Nat} {sl_WAVES : Array (Option Value)}
    (h_UNIT_BITS : PySem.W.nsIn K mainGlobals "UNIT_BITS" = some (some (.int (149) t_UNIT_BITS)))
    (h_FLOAT_BITS : PySem.W.nsIn K mainGlobals "FLOAT_BITS" = some (some (.int (24) t_FLOAT_BITS)))
    (h_HELD_AT : PySem.W.nsIn K mainGlobals "HELD_AT" = some (some (.int (16) t_HELD_AT)))
    (h_LEAST_E : PySem.W.nsIn K mainGlobals "LEAST_E" = some (some (.int (-200) t_LEAST_E)))
    (h_LEAST_FLOAT_E : PySem.W.nsIn K mainGlobals "LEAST_FLOAT_E" = some (some (.int (-20) t_LEAST_FLOAT_E)))
    (h_LEAST_SAMPLE : PySem.W.nsIn K mainGlobals "LEAST_SAMPLE" = some (some (.int (-32768) t_LEAST_SAMPLE)))
    (h_MOST_SAMPLE : PySem.W.nsIn K mainGlobals "MOST_SAMPLE" = some (some (.int (32767) t_MOST_SAMPLE)))
    (h_SAMPLE_BITS : PySem.W.nsIn K mainGlobals "SAMPLE_BITS" = some (some (.int (15) t_SAMPLE_BITS)))
    (h_STILL : PySem.W.nsIn K mainGlobals "STILL" = some (some (.int (0) t_STILL)))
    (h_RISING : PySem.W.nsIn K mainGlobals "RISING" = some (some (.int (1) t_RISING)))
    (h_FALLING : PySem.W.nsIn K mainGlobals "FALLING" = some (some (.int (2) t_FALLING)))
    (h_LET_GO : PySem.W.nsIn K mainGlobals "LET_GO" = some (some (.int (3) t_LET_GO)))
    (h_FIRST_DRAW : PySem.W.nsIn K mainGlobals "FIRST_DRAW" = some (some (.int (1) t_FIRST_DRAW)))
    (h_STILL_BELOW_E : PySem.W.nsIn K mainGlobals "STILL_BELOW_E" = some (some (.int (-20) t_STILL_BELOW_E)))
    (h_VOICE_COUNT : PySem.W.nsIn K mainGlobals "VOICE_COUNT" = some (some (.int (8) t_VOICE_COUNT)))
    (h_MOST_ECHO : PySem.W.nsIn K mainGlobals "MOST_ECHO" = some (some (.int (1024) t_MOST_ECHO)))
    (h_MOST_PLAYED : PySem.W.nsIn K mainGlobals "MOST_PLAYED" = some (some (.int (256) t_MOST_PLAYED)))
    (h_MOST_IN_ROW : PySem.W.nsIn K mainGlobals "MOST_IN_ROW" = some (some (.int (512) t_MOST_IN_ROW)))
    (h_OPENING : PySem.W.nsIn K mainGlobals "OPENING" = some (some (.int (1) t_OPENING)))
    (h_DONE : PySem.W.nsIn K mainGlobals "DONE" = some (some (.int (0) t_DONE)))
    (h_NOT_AS_TOLD : PySem.W.nsIn K mainGlobals "NOT_AS_TOLD" = some (some (.int (-2) t_NOT_AS_TOLD)))
    (h_NOTHING_OPEN : PySem.W.nsIn K mainGlobals "NOTHING_OPEN" = some (some (.int (-7) t_NOTHING_OPEN)))
    (hb_abs : PySem.W.nsIn K mainGlobals "abs" = some none)
    (hb_len : PySem.W.nsIn K mainGlobals "len" = some none)
    (hb_max : PySem.W.nsIn K mainGlobals "max" = some none)
    (hb_min : PySem.W.nsIn K mainGlobals "min" = some none)
    (hb_range : PySem.W.nsIn K mainGlobals "range" = some none)
    (hb_sum : PySem.W.nsIn K mainGlobals "sum" = some none)
    (hb_zip : PySem.W.nsIn K mainGlobals "zip" = some none)
    (a_units_of : PySem.W.nsIn K mainGlobals "units_of" = some (some (.ref f_units_of)))
    (l_units_of : K.lookup f_units_of = some ⟨oc_units_of, od_units_of, .func (PySem.W.fnOf "units_of" "units_of" (defArgs s_units_of) (defBody s_units_of) (defScope s_units_of) .none kV_units_of dc_units_of pm_units_of an_units_of cd_units_of ct_units_of), sl_units_of⟩)
    (c_units_of : PySem.W.codeIn K cd_units_of "units_of" = true)
    (k_units_of : PySem.W.keepIn K (.ref f_units_of) = true)
    (a_nearest_whole : PySem.W.nsIn K mainGlobals "nearest_whole" = some (some (.ref f_nearest_whole)))
    (l_nearest_whole : K.lookup f_nearest_whole = some ⟨oc_nearest_whole, od_nearest_whole, .func (PySem.W.fnOf "nearest_whole" "nearest_whole" (defArgs s_nearest_whole) (defBody s_nearest_whole) (defScope s_nearest_whole) .none kV_nearest_whole dc_nearest_whole pm_nearest_whole an_nearest_whole cd_nearest_whole ct_nearest_whole), sl_nearest_whole⟩)
    (c_nearest_whole : PySem.W.codeIn K cd_nearest_whole "nearest_whole" = true)
    (k_nearest_whole : PySem.W.keepIn K (.ref f_nearest_whole) = true)
    (a_nearest_float : PySem.W.nsIn K mainGlobals "nearest_float" = some (some (.ref f_nearest_float)))
    (l_nearest_float : K.lookup f_nearest_float = some ⟨oc_nearest_float, od_nearest_float, .func (PySem.W.fnOf "nearest_float" "nearest_float" (defArgs s_nearest_float) (defBody s_nearest_float) (defScope s_nearest_float) .none kV_nearest_float dc_nearest_float pm_nearest_float an_nearest_float cd_nearest_float ct_nearest_float), sl_nearest_float⟩)
    (c_nearest_float : PySem.W.codeIn K cd_nearest_float "nearest_float" = true)
    (k_nearest_float : PySem.W.keepIn K (.ref f_nearest_float) = true)
    (a_plus : PySem.W.nsIn K mainGlobals "plus" = some (some (.ref f_plus)))
    (l_plus : K.lookup f_plus = some ⟨oc_plus, od_plus, .func (PySem.W.fnOf "plus" "plus" (defArgs s_plus) (defBody s_plus) (defScope s_plus) .none kV_plus dc_plus pm_plus an_plus cd_plus ct_plus), sl_plus⟩)
    (c_plus : PySem.W.codeIn K cd_plus "plus" = true)
    (k_plus : PySem.W.keepIn K (.ref f_plus) = true)
    (a_minus : PySem.W.nsIn K mainGlobals "minus" = some (some (.ref f_minus)))
    (l_minus : K.lookup f_minus = some ⟨oc_minus, od_minus, .func (PySem.W.fnOf "minus" "minus" (defArgs s_minus) (defBody s_minus) (defScope s_minus) .none kV_minus dc_minus pm_minus an_minus cd_minus ct_minus), sl_minus⟩)
    (c_minus : PySem.W.codeIn K cd_minus "minus" = true)
    (k_minus : PySem.W.keepIn K (.ref f_minus) = true)
    (a_times : PySem.W.nsIn K mainGlobals "times" = some (some (.ref f_times)))
    (l_times : K.lookup f_times = some ⟨oc_times, od_times, .func (PySem.W.fnOf "times" "times" (defArgs s_times) (defBody s_times) (defScope s_times) .none kV_times dc_times pm_times an_times cd_times ct_times), sl_times⟩)
    (c_times : PySem.W.codeIn K cd_times "times" = true)
    (k_times : PySem.W.keepIn K (.ref f_times) = true)
    (a_made_float : PySem.W.nsIn K mainGlobals "made_float" = some (some (.ref f_made_float)))
    (l_made_float : K.lookup f_made_float = some ⟨oc_made_float, od_made_float, .func (PySem.W.fnOf "made_float" "made_float" (defArgs s_made_float) (defBody s_made_float) (defScope s_made_float) .none kV_made_float dc_made_float pm_made_float an_made_float cd_made_float ct_made_float), sl_made_float⟩)
    (c_made_float : PySem.W.codeIn K cd_made_float "made_float" = true)
    (k_made_float : PySem.W.keepIn K (.ref f_made_float) = true)
    (a_held : PySem.W.nsIn K mainGlobals "held" = some (some (.ref f_held)))
    (l_held : K.lookup f_held = some ⟨oc_held, od_held, .func (PySem.W.fnOf "held" "held" (defArgs s_held) (defBody s_held) (defScope s_held) .none kV_held dc_held pm_held an_held cd_held ct_held), sl_held⟩)
    (c_held : PySem.W.codeIn K cd_held "held" = true)
    (k_held : PySem.W.keepIn K (.ref f_held) = true)
    (a_told_float : PySem.W.nsIn K mainGlobals "told_float" = some (some (.ref f_told_float)))
    (l_told_float : K.lookup f_told_float = some ⟨oc_told_float, od_told_float, .func (PySem.W.fnOf "told_float" "told_float" (defArgs s_told_float) (defBody s_told_float) (defScope s_told_float) .none kV_told_float dc_told_float pm_told_float an_told_float cd_told_float ct_told_float), sl_told_float⟩)
    (c_told_float : PySem.W.codeIn K cd_told_float "told_float" = true)
    (k_told_float : PySem.W.keepIn K (.ref f_told_float) = true)
    (a_whole_within : PySem.W.nsIn K mainGlobals "whole_within" = some (some (.ref f_whole_within)))
    (l_whole_within : K.lookup f_whole_within = some ⟨oc_whole_within, od_whole_within, .func (PySem.W.fnOf "whole_within" "whole_within" (defArgs s_whole_within) (defBody s_whole_within) (defScope s_whole_within) .none kV_whole_within dc_whole_within pm_whole_within an_whole_within cd_whole_within ct_whole_within), sl_whole_within⟩)
    (c_whole_within : PySem.W.codeIn K cd_whole_within "whole_within" = true)
    (k_whole_within : PySem.W.keepIn K (.ref f_whole_within) = true)
    (a_handed_float : PySem.W.nsIn K mainGlobals "handed_float" = some (some (.ref f_handed_float)))
    (l_handed_float : K.lookup f_handed_float = some ⟨oc_handed_float, od_handed_float, .func (PySem.W.fnOf "handed_float" "handed_float" (defArgs s_handed_float) (defBody s_handed_float) (defScope s_handed_float) .none kV_handed_float dc_handed_float pm_handed_float an_handed_float cd_handed_float ct_handed_float), sl_handed_float⟩)
    (c_handed_float : PySem.W.codeIn K cd_handed_float "handed_float" = true)
    (k_handed_float : PySem.W.keepIn K (.ref f_handed_float) = true)
    (a_side_echoed : PySem.W.nsIn K mainGlobals "side_echoed" = some (some (.ref f_side_echoed)))
    (l_side_echoed : K.lookup f_side_echoed = some ⟨oc_side_echoed, od_side_echoed, .func (PySem.W.fnOf "side_echoed" "side_echoed" (defArgs s_side_echoed) (defBody s_side_echoed) (defScope s_side_echoed) .none kV_side_echoed dc_side_echoed pm_side_echoed an_side_echoed cd_side_echoed ct_side_echoed), sl_side_echoed⟩)
    (c_side_echoed : PySem.W.codeIn K cd_side_echoed "side_echoed" = true)
    (k_side_echoed : PySem.W.keepIn K (.ref f_side_echoed) = true)
    (a_echoed : PySem.W.nsIn K mainGlobals "echoed" = some (some (.ref f_echoed)))
    (l_echoed : K.lookup f_echoed = some ⟨oc_echoed, od_echoed, .func (PySem.W.fnOf "echoed" "echoed" (defArgs s_echoed) (defBody s_echoed) (defScope s_echoed) .none kV_echoed dc_echoed pm_echoed an_echoed cd_echoed ct_echoed), sl_echoed⟩)
    (c_echoed : PySem.W.codeIn K cd_echoed "echoed" = true)
    (k_echoed : PySem.W.keepIn K (.ref f_echoed) = true)
    (a_within_16_bits : PySem.W.nsIn K mainGlobals "within_16_bits" = some (some (.ref f_within_16_bits)))
    (l_within_16_bits : K.lookup f_within_16_bits = some ⟨oc_within_16_bits, od_within_16_bits, .func (PySem.W.fnOf "within_16_bits" "within_16_bits" (defArgs s_within_16_bits) (defBody s_within_16_bits) (defScope s_within_16_bits) .none kV_within_16_bits dc_within_16_bits pm_within_16_bits an_within_16_bits cd_within_16_bits ct_within_16_bits), sl_within_16_bits⟩)
    (c_within_16_bits : PySem.W.codeIn K cd_within_16_bits "within_16_bits" = true)
    (k_within_16_bits : PySem.W.keepIn K (.ref f_within_16_bits) = true)
    (a_in_16_bits : PySem.W.nsIn K mainGlobals "in_16_bits" = some (some (.ref f_in_16_bits)))
    (l_in_16_bits : K.lookup f_in_16_bits = some ⟨oc_in_16_bits, od_in_16_bits, .func (PySem.W.fnOf "in_16_bits" "in_16_bits" (defArgs s_in_16_bits) (defBody s_in_16_bits) (defScope s_in_16_bits) .none kV_in_16_bits dc_in_16_bits pm_in_16_bits an_in_16_bits cd_in_16_bits ct_in_16_bits), sl_in_16_bits⟩)
    (c_in_16_bits : PySem.W.codeIn K cd_in_16_bits "in_16_bits" = true)
    (k_in_16_bits : PySem.W.keepIn K (.ref f_in_16_bits) = true)
    (a_over_32768 : PySem.W.nsIn K mainGlobals "over_32768" = some (some (.ref f_over_32768)))
    (l_over_32768 : K.lookup f_over_32768 = some ⟨oc_over_32768, od_over_32768, .func (PySem.W.fnOf "over_32768" "over_32768" (defArgs s_over_32768) (defBody s_over_32768) (defScope s_over_32768) .none kV_over_32768 dc_over_32768 pm_over_32768 an_over_32768 cd_over_32768 ct_over_32768), sl_over_32768⟩)
    (c_over_32768 : PySem.W.codeIn K cd_over_32768 "over_32768" = true)
    (k_over_32768 : PySem.W.keepIn K (.ref f_over_32768) = true)
    (a_blended : PySem.W.nsIn K mainGlobals "blended" = some (some (.ref f_blended)))
    (l_blended : K.lookup f_blended = some ⟨oc_blended, od_blended, .func (PySem.W.fnOf "blended" "blended" (defArgs s_blended) (defBody s_blended) (defScope s_blended) .none kV_blended dc_blended pm_blended an_blended cd_blended ct_blended), sl_blended⟩)
    (c_blended : PySem.W.codeIn K cd_blended "blended" = true)
    (k_blended : PySem.W.keepIn K (.ref f_blended) = true)
    (a_risings : PySem.W.nsIn K mainGlobals "risings" = some (some (.ref f_risings)))
    (l_risings : K.lookup f_risings = some ⟨oc_risings, od_risings, .func (PySem.W.fnOf "risings" "risings" (defArgs s_risings) (defBody s_risings) (defScope s_risings) .none kV_risings dc_risings pm_risings an_risings cd_risings ct_risings), sl_risings⟩)
    (c_risings : PySem.W.codeIn K cd_risings "risings" = true)
    (k_risings : PySem.W.keepIn K (.ref f_risings) = true)
    (a_measured : PySem.W.nsIn K mainGlobals "measured" = some (some (.ref f_measured)))
    (l_measured : K.lookup f_measured = some ⟨oc_measured, od_measured, .func (PySem.W.fnOf "measured" "measured" (defArgs s_measured) (defBody s_measured) (defScope s_measured) .none kV_measured dc_measured pm_measured an_measured cd_measured ct_measured), sl_measured⟩)
    (c_measured : PySem.W.codeIn K cd_measured "measured" = true)
    (k_measured : PySem.W.keepIn K (.ref f_measured) = true)
    (a_rise : PySem.W.nsIn K mainGlobals "rise" = some (some (.ref f_rise)))
    (l_rise : K.lookup f_rise = some ⟨oc_rise, od_rise, .func (PySem.W.fnOf "rise" "rise" (defArgs s_rise) (defBody s_rise) (defScope s_rise) .none kV_rise dc_rise pm_rise an_rise cd_rise ct_rise), sl_rise⟩)
    (c_rise : PySem.W.codeIn K cd_rise "rise" = true)
    (k_rise : PySem.W.keepIn K (.ref f_rise) = true)
    (a_fall : PySem.W.nsIn K mainGlobals "fall" = some (some (.ref f_fall)))
    (l_fall : K.lookup f_fall = some ⟨oc_fall, od_fall, .func (PySem.W.fnOf "fall" "fall" (defArgs s_fall) (defBody s_fall) (defScope s_fall) .none kV_fall dc_fall pm_fall an_fall cd_fall ct_fall), sl_fall⟩)
    (c_fall : PySem.W.codeIn K cd_fall "fall" = true)
    (k_fall : PySem.W.keepIn K (.ref f_fall) = true)
    (a_die_away : PySem.W.nsIn K mainGlobals "die_away" = some (some (.ref f_die_away)))
    (l_die_away : K.lookup f_die_away = some ⟨oc_die_away, od_die_away, .func (PySem.W.fnOf "die_away" "die_away" (defArgs s_die_away) (defBody s_die_away) (defScope s_die_away) .none kV_die_away dc_die_away pm_die_away an_die_away cd_die_away ct_die_away), sl_die_away⟩)
    (c_die_away : PySem.W.codeIn K cd_die_away "die_away" = true)
    (k_die_away : PySem.W.keepIn K (.ref f_die_away) = true)
    (a_shape_goes_on : PySem.W.nsIn K mainGlobals "shape_goes_on" = some (some (.ref f_shape_goes_on)))
    (l_shape_goes_on : K.lookup f_shape_goes_on = some ⟨oc_shape_goes_on, od_shape_goes_on, .func (PySem.W.fnOf "shape_goes_on" "shape_goes_on" (defArgs s_shape_goes_on) (defBody s_shape_goes_on) (defScope s_shape_goes_on) .none kV_shape_goes_on dc_shape_goes_on pm_shape_goes_on an_shape_goes_on cd_shape_goes_on ct_shape_goes_on), sl_shape_goes_on⟩)
    (c_shape_goes_on : PySem.W.codeIn K cd_shape_goes_on "shape_goes_on" = true)
    (k_shape_goes_on : PySem.W.keepIn K (.ref f_shape_goes_on) = true)
    (a_part_of_turn : PySem.W.nsIn K mainGlobals "part_of_turn" = some (some (.ref f_part_of_turn)))
    (l_part_of_turn : K.lookup f_part_of_turn = some ⟨oc_part_of_turn, od_part_of_turn, .func (PySem.W.fnOf "part_of_turn" "part_of_turn" (defArgs s_part_of_turn) (defBody s_part_of_turn) (defScope s_part_of_turn) .none kV_part_of_turn dc_part_of_turn pm_part_of_turn an_part_of_turn cd_part_of_turn ct_part_of_turn), sl_part_of_turn⟩)
    (c_part_of_turn : PySem.W.codeIn K cd_part_of_turn "part_of_turn" = true)
    (k_part_of_turn : PySem.W.keepIn K (.ref f_part_of_turn) = true)
    (a_falling_wave : PySem.W.nsIn K mainGlobals "falling_wave" = some (some (.ref f_falling_wave)))
    (l_falling_wave : K.lookup f_falling_wave = some ⟨oc_falling_wave, od_falling_wave, .func (PySem.W.fnOf "falling_wave" "falling_wave" (defArgs s_falling_wave) (defBody s_falling_wave) (defScope s_falling_wave) .none kV_falling_wave dc_falling_wave pm_falling_wave an_falling_wave cd_falling_wave ct_falling_wave), sl_falling_wave⟩)
    (c_falling_wave : PySem.W.codeIn K cd_falling_wave "falling_wave" = true)
    (k_falling_wave : PySem.W.keepIn K (.ref f_falling_wave) = true)
    (a_up_or_down_wave : PySem.W.nsIn K mainGlobals "up_or_down_wave" = some (some (.ref f_up_or_down_wave)))
    (l_up_or_down_wave : K.lookup f_up_or_down_wave = some ⟨oc_up_or_down_wave, od_up_or_down_wave, .func (PySem.W.fnOf "up_or_down_wave" "up_or_down_wave" (defArgs s_up_or_down_wave) (defBody s_up_or_down_wave) (defScope s_up_or_down_wave) .none kV_up_or_down_wave dc_up_or_down_wave pm_up_or_down_wave an_up_or_down_wave cd_up_or_down_wave ct_up_or_down_wave), sl_up_or_down_wave⟩)
    (c_up_or_down_wave : PySem.W.codeIn K cd_up_or_down_wave "up_or_down_wave" = true)
    (k_up_or_down_wave : PySem.W.keepIn K (.ref f_up_or_down_wave) = true)
    (a_up_and_down_wave : PySem.W.nsIn K mainGlobals "up_and_down_wave" = some (some (.ref f_up_and_down_wave)))
    (l_up_and_down_wave : K.lookup f_up_and_down_wave = some ⟨oc_up_and_down_wave, od_up_and_down_wave, .func (PySem.W.fnOf "up_and_down_wave" "up_and_down_wave" (defArgs s_up_and_down_wave) (defBody s_up_and_down_wave) (defScope s_up_and_down_wave) .none kV_up_and_down_wave dc_up_and_down_wave pm_up_and_down_wave an_up_and_down_wave cd_up_and_down_wave ct_up_and_down_wave), sl_up_and_down_wave⟩)
    (c_up_and_down_wave : PySem.W.codeIn K cd_up_and_down_wave "up_and_down_wave" = true)
    (k_up_and_down_wave : PySem.W.keepIn K (.ref f_up_and_down_wave) = true)
    (a_noise_wave : PySem.W.nsIn K mainGlobals "noise_wave" = some (some (.ref f_noise_wave)))
    (l_noise_wave : K.lookup f_noise_wave = some ⟨oc_noise_wave, od_noise_wave, .func (PySem.W.fnOf "noise_wave" "noise_wave" (defArgs s_noise_wave) (defBody s_noise_wave) (defScope s_noise_wave) .none kV_noise_wave dc_noise_wave pm_noise_wave an_noise_wave cd_noise_wave ct_noise_wave), sl_noise_wave⟩)
    (c_noise_wave : PySem.W.codeIn K cd_noise_wave "noise_wave" = true)
    (k_noise_wave : PySem.W.keepIn K (.ref f_noise_wave) = true)
    (a_filtered : PySem.W.nsIn K mainGlobals "filtered" = some (some (.ref f_filtered)))
    (l_filtered : K.lookup f_filtered = some ⟨oc_filtered, od_filtered, .func (PySem.W.fnOf "filtered" "filtered" (defArgs s_filtered) (defBody s_filtered) (defScope s_filtered) .none kV_filtered dc_filtered pm_filtered an_filtered cd_filtered ct_filtered), sl_filtered⟩)
    (c_filtered : PySem.W.codeIn K cd_filtered "filtered" = true)
    (k_filtered : PySem.W.keepIn K (.ref f_filtered) = true)
    (a_within_32_bits : PySem.W.nsIn K mainGlobals "within_32_bits" = some (some (.ref f_within_32_bits)))
    (l_within_32_bits : K.lookup f_within_32_bits = some ⟨oc_within_32_bits, od_within_32_bits, .func (PySem.W.fnOf "within_32_bits" "within_32_bits" (defArgs s_within_32_bits) (defBody s_within_32_bits) (defScope s_within_32_bits) .none kV_within_32_bits dc_within_32_bits pm_within_32_bits an_within_32_bits cd_within_32_bits ct_within_32_bits), sl_within_32_bits⟩)
    (c_within_32_bits : PySem.W.codeIn K cd_within_32_bits "within_32_bits" = true)
    (k_within_32_bits : PySem.W.keepIn K (.ref f_within_32_bits) = true)
    (a_voice_sample : PySem.W.nsIn K mainGlobals "voice_sample" = some (some (.ref f_voice_sample)))
    (l_voice_sample : K.lookup f_voice_sample = some ⟨oc_voice_sample, od_voice_sample, .func (PySem.W.fnOf "voice_sample" "voice_sample" (defArgs s_voice_sample) (defBody s_voice_sample) (defScope s_voice_sample) .none kV_voice_sample dc_voice_sample pm_voice_sample an_voice_sample cd_voice_sample ct_voice_sample), sl_voice_sample⟩)
    (c_voice_sample : PySem.W.codeIn K cd_voice_sample "voice_sample" = true)
    (k_voice_sample : PySem.W.keepIn K (.ref f_voice_sample) = true)
    (a_sample_of_all : PySem.W.nsIn K mainGlobals "sample_of_all" = some (some (.ref f_sample_of_all)))
    (l_sample_of_all : K.lookup f_sample_of_all = some ⟨oc_sample_of_all, od_sample_of_all, .func (PySem.W.fnOf "sample_of_all" "sample_of_all" (defArgs s_sample_of_all) (defBody s_sample_of_all) (defScope s_sample_of_all) .none kV_sample_of_all dc_sample_of_all pm_sample_of_all an_sample_of_all cd_sample_of_all ct_sample_of_all), sl_sample_of_all⟩)
    (c_sample_of_all : PySem.W.codeIn K cd_sample_of_all "sample_of_all" = true)
    (k_sample_of_all : PySem.W.keepIn K (.ref f_sample_of_all) = true)
    (a_voice_at : PySem.W.nsIn K mainGlobals "voice_at" = some (some (.ref f_voice_at)))
    (l_voice_at : K.lookup f_voice_at = some ⟨oc_voice_at, od_voice_at, .func (PySem.W.fnOf "voice_at" "voice_at" (defArgs s_voice_at) (defBody s_voice_at) (defScope s_voice_at) .none kV_voice_at dc_voice_at pm_voice_at an_voice_at cd_voice_at ct_voice_at), sl_voice_at⟩)
    (c_voice_at : PySem.W.codeIn K cd_voice_at "voice_at" = true)
    (k_voice_at : PySem.W.keepIn K (.ref f_voice_at) = true)
    (a_begin_anew : PySem.W.nsIn K mainGlobals "begin_anew" = some (some (.ref f_begin_anew)))
    (l_begin_anew : K.lookup f_begin_anew = some ⟨oc_begin_anew, od_begin_anew, .func (PySem.W.fnOf "begin_anew" "begin_anew" (defArgs s_begin_anew) (defBody s_begin_anew) (defScope s_begin_anew) .none kV_begin_anew dc_begin_anew pm_begin_anew an_begin_anew cd_begin_anew ct_begin_anew), sl_begin_anew⟩)
    (c_begin_anew : PySem.W.codeIn K cd_begin_anew "begin_anew" = true)
    (k_begin_anew : PySem.W.keepIn K (.ref f_begin_anew) = true)
    (a_set_voice : PySem.W.nsIn K mainGlobals "set_voice" = some (some (.ref f_set_voice)))
    (l_set_voice : K.lookup f_set_voice = some ⟨oc_set_voice, od_set_voice, .func (PySem.W.fnOf "set_voice" "set_voice" (defArgs s_set_voice) (defBody s_set_voice) (defScope s_set_voice) .none kV_set_voice dc_set_voice pm_set_voice an_set_voice cd_set_voice ct_set_voice), sl_set_voice⟩)
    (c_set_voice : PySem.W.codeIn K cd_set_voice "set_voice" = true)
    (k_set_voice : PySem.W.keepIn K (.ref f_set_voice) = true)
    (a_set_filter : PySem.W.nsIn K mainGlobals "set_filter" = some (some (.ref f_set_filter)))
    (l_set_filter : K.lookup f_set_filter = some ⟨oc_set_filter, od_set_filter, .func (PySem.W.fnOf "set_filter" "set_filter" (defArgs s_set_filter) (defBody s_set_filter) (defScope s_set_filter) .none kV_set_filter dc_set_filter pm_set_filter an_set_filter cd_set_filter ct_set_filter), sl_set_filter⟩)
    (c_set_filter : PySem.W.codeIn K cd_set_filter "set_filter" = true)
    (k_set_filter : PySem.W.keepIn K (.ref f_set_filter) = true)
    (a_set_shape : PySem.W.nsIn K mainGlobals "set_shape" = some (some (.ref f_set_shape)))
    (l_set_shape : K.lookup f_set_shape = some ⟨oc_set_shape, od_set_shape, .func (PySem.W.fnOf "set_shape" "set_shape" (defArgs s_set_shape) (defBody s_set_shape) (defScope s_set_shape) .none kV_set_shape dc_set_shape pm_set_shape an_set_shape cd_set_shape ct_set_shape), sl_set_shape⟩)
    (c_set_shape : PySem.W.codeIn K cd_set_shape "set_shape" = true)
    (k_set_shape : PySem.W.keepIn K (.ref f_set_shape) = true)
    (a_turn_on : PySem.W.nsIn K mainGlobals "turn_on" = some (some (.ref f_turn_on)))
    (l_turn_on : K.lookup f_turn_on = some ⟨oc_turn_on, od_turn_on, .func (PySem.W.fnOf "turn_on" "turn_on" (defArgs s_turn_on) (defBody s_turn_on) (defScope s_turn_on) .none kV_turn_on dc_turn_on pm_turn_on an_turn_on cd_turn_on ct_turn_on), sl_turn_on⟩)
    (c_turn_on : PySem.W.codeIn K cd_turn_on "turn_on" = true)
    (k_turn_on : PySem.W.keepIn K (.ref f_turn_on) = true)
    (a_turn_off : PySem.W.nsIn K mainGlobals "turn_off" = some (some (.ref f_turn_off)))
    (l_turn_off : K.lookup f_turn_off = some ⟨oc_turn_off, od_turn_off, .func (PySem.W.fnOf "turn_off" "turn_off" (defArgs s_turn_off) (defBody s_turn_off) (defScope s_turn_off) .none kV_turn_off dc_turn_off pm_turn_off an_turn_off cd_turn_off ct_turn_off), sl_turn_off⟩)
    (c_turn_off : PySem.W.codeIn K cd_turn_off "turn_off" = true)
    (k_turn_off : PySem.W.keepIn K (.ref f_turn_off) = true)
    (a_set_echo : PySem.W.nsIn K mainGlobals "set_echo" = some (some (.ref f_set_echo)))
    (l_set_echo : K.lookup f_set_echo = some ⟨oc_set_echo, od_set_echo, .func (PySem.W.fnOf "set_echo" "set_echo" (defArgs s_set_echo) (defBody s_set_echo) (defScope s_set_echo) .none kV_set_echo dc_set_echo pm_set_echo an_set_echo cd_set_echo ct_set_echo), sl_set_echo⟩)
    (c_set_echo : PySem.W.codeIn K cd_set_echo "set_echo" = true)
    (k_set_echo : PySem.W.keepIn K (.ref f_set_echo) = true)
    (a_play : PySem.W.nsIn K mainGlobals "play" = some (some (.ref f_play)))
    (l_play : K.lookup f_play = some ⟨oc_play, od_play, .func (PySem.W.fnOf "play" "play" (defArgs s_play) (defBody s_play) (defScope s_play) .none kV_play dc_play pm_play an_play cd_play ct_play), sl_play⟩)
    (c_play : PySem.W.codeIn K cd_play "play" = true)
    (k_play : PySem.W.keepIn K (.ref f_play) = true)
    (a_tell_voice : PySem.W.nsIn K mainGlobals "tell_voice" = some (some (.ref f_tell_voice)))
    (l_tell_voice : K.lookup f_tell_voice = some ⟨oc_tell_voice, od_tell_voice, .func (PySem.W.fnOf "tell_voice" "tell_voice" (defArgs s_tell_voice) (defBody s_tell_voice) (defScope s_tell_voice) .none kV_tell_voice dc_tell_voice pm_tell_voice an_tell_voice cd_tell_voice ct_tell_voice), sl_tell_voice⟩)
    (c_tell_voice : PySem.W.codeIn K cd_tell_voice "tell_voice" = true)
    (k_tell_voice : PySem.W.keepIn K (.ref f_tell_voice) = true)
    (a_count_sounding : PySem.W.nsIn K mainGlobals "count_sounding" = some (some (.ref f_count_sounding)))
    (l_count_sounding : K.lookup f_count_sounding = some ⟨oc_count_sounding, od_count_sounding, .func (PySem.W.fnOf "count_sounding" "count_sounding" (defArgs s_count_sounding) (defBody s_count_sounding) (defScope s_count_sounding) .none kV_count_sounding dc_count_sounding pm_count_sounding an_count_sounding cd_count_sounding ct_count_sounding), sl_count_sounding⟩)
    (c_count_sounding : PySem.W.codeIn K cd_count_sounding "count_sounding" = true)
    (k_count_sounding : PySem.W.keepIn K (.ref f_count_sounding) = true)
    (a_blend : PySem.W.nsIn K mainGlobals "blend" = some (some (.ref f_blend)))
    (l_blend : K.lookup f_blend = some ⟨oc_blend, od_blend, .func (PySem.W.fnOf "blend" "blend" (defArgs s_blend) (defBody s_blend) (defScope s_blend) .none kV_blend dc_blend pm_blend an_blend cd_blend ct_blend), sl_blend⟩)
    (c_blend : PySem.W.codeIn K cd_blend "blend" = true)
    (k_blend : PySem.W.keepIn K (.ref f_blend) = true)
    (a_measure : PySem.W.nsIn K mainGlobals "measure" = some (some (.ref f_measure)))
    (l_measure : K.lookup f_measure = some ⟨oc_measure, od_measure, .func (PySem.W.fnOf "measure" "measure" (defArgs s_measure) (defBody s_measure) (defScope s_measure) .none kV_measure dc_measure pm_measure an_measure cd_measure ct_measure), sl_measure⟩)
    (c_measure : PySem.W.codeIn K cd_measure "measure" = true)
    (k_measure : PySem.W.keepIn K (.ref f_measure) = true)
    (a_carry_out : PySem.W.nsIn K mainGlobals "carry_out" = some (some (.ref f_carry_out)))
    (l_carry_out : K.lookup f_carry_out = some ⟨oc_carry_out, od_carry_out, .func (PySem.W.fnOf "carry_out" "carry_out" (defArgs s_carry_out) (defBody s_carry_out) (defScope s_carry_out) .none kV_carry_out dc_carry_out pm_carry_out an_carry_out cd_carry_out ct_carry_out), sl_carry_out⟩)
    (c_carry_out : PySem.W.codeIn K cd_carry_out "carry_out" = true)
    (k_carry_out : PySem.W.keepIn K (.ref f_carry_out) = true)
    (a_answer_to : PySem.W.nsIn K mainGlobals "answer_to" = some (some (.ref f_answer_to)))
    (l_answer_to : K.lookup f_answer_to = some ⟨oc_answer_to, od_answer_to, .func (PySem.W.fnOf "answer_to" "answer_to" (defArgs s_answer_to) (defBody s_answer_to) (defScope s_answer_to) .none kV_answer_to dc_answer_to pm_answer_to an_answer_to cd_answer_to ct_answer_to), sl_answer_to⟩)
    (c_answer_to : PySem.W.codeIn K cd_answer_to "answer_to" = true)
    (k_answer_to : PySem.W.keepIn K (.ref f_answer_to) = true)
    (a_answers_at : PySem.W.nsIn K mainGlobals "answers_at" = some (some (.ref f_answers_at)))
    (l_answers_at : K.lookup f_answers_at = some ⟨oc_answers_at, od_answers_at, .func (PySem.W.fnOf "answers_at" "answers_at" (defArgs s_answers_at) (defBody s_answers_at) (defScope s_answers_at) .none kV_answers_at dc_answers_at pm_answers_at an_answers_at cd_answers_at ct_answers_at), sl_answers_at⟩)
    (c_answers_at : PySem.W.codeIn K cd_answers_at "answers_at" = true)
    (k_answers_at : PySem.W.keepIn K (.ref f_answers_at) = true)
    (a_answers : PySem.W.nsIn K mainGlobals "answers" = some (some (.ref f_answers)))
    (l_answers : K.lookup f_answers = some ⟨oc_answers, od_answers, .func (PySem.W.fnOf "answers" "answers" (defArgs s_answers) (defBody s_answers) (defScope s_answers) .none kV_answers dc_answers pm_answers an_answers cd_answers ct_answers), sl_answers⟩)
    (c_answers : PySem.W.codeIn K cd_answers "answers" = true)
    (k_answers : PySem.W.keepIn K (.ref f_answers) = true)
    (g_Echo : PySem.W.nsIn K mainGlobals "Echo" = some (some (.ref c_Echo)))
    (pg_Echo : PySem.W.plainGet K c_Echo Str.empty = true)
    (hd_Echo : PySem.W.hasDictIn K c_Echo = true)
    (po_Echo : PySem.W.plainOver K c_Echo = true)
    (sa_Echo : PySem.W.findIn K (.ref c_Echo) "__setattr__" = some (some (.builtin "object.__setattr__")))
    (a_Echo_init : PySem.W.findIn K (.ref c_Echo) "__init__" = some (some (.ref f_Echo_init)))
    (l_Echo_init : K.lookup f_Echo_init = some ⟨oc_Echo_init, od_Echo_init, .func (PySem.W.fnOf "__init__" "Echo.__init__" (defArgs s_Echo_init) (defBody s_Echo_init) (defScope s_Echo_init) .none kV_Echo_init dc_Echo_init pm_Echo_init an_Echo_init cd_Echo_init ct_Echo_init), sl_Echo_init⟩)
    (c_Echo_init : PySem.W.codeIn K cd_Echo_init "Echo.__init__" = true)
    (k_Echo_init : PySem.W.keepIn K (.ref f_Echo_init) = true)
    (i_Echo_init : PySem.W.isFn K (.ref f_Echo_init) = true)
    (mk_Echo : PySem.W.makesIn K c_Echo = true)
    (kc_Echo : PySem.W.keepIn K (.ref c_Echo) = true)
    (n_Echo_left_row : PySem.W.findIn K (.ref c_Echo) "left_row" = some none)
    (n_Echo_right_row : PySem.W.findIn K (.ref c_Echo) "right_row" = some none)
    (n_Echo_feed : PySem.W.findIn K (.ref c_Echo) "feed" = some none)
    (n_Echo_heard : PySem.W.findIn K (.ref c_Echo) "heard" = some none)
    (n_Echo_place : PySem.W.findIn K (.ref c_Echo) "place" = some none)
    (g_Voice : PySem.W.nsIn K mainGlobals "Voice" = some (some (.ref c_Voice)))
    (pg_Voice : PySem.W.plainGet K c_Voice Str.empty = true)
    (hd_Voice : PySem.W.hasDictIn K c_Voice = true)
    (po_Voice : PySem.W.plainOver K c_Voice = true)
    (sa_Voice : PySem.W.findIn K (.ref c_Voice) "__setattr__" = some (some (.builtin "object.__setattr__")))
    (a_Voice_init : PySem.W.findIn K (.ref c_Voice) "__init__" = some (some (.ref f_Voice_init)))
    (l_Voice_init : K.lookup f_Voice_init = some ⟨oc_Voice_init, od_Voice_init, .func (PySem.W.fnOf "__init__" "Voice.__init__" (defArgs s_Voice_init) (defBody s_Voice_init) (defScope s_Voice_init) .none kV_Voice_init dc_Voice_init pm_Voice_init an_Voice_init cd_Voice_init ct_Voice_init), sl_Voice_init⟩)
    (c_Voice_init : PySem.W.codeIn K cd_Voice_init "Voice.__init__" = true)
    (k_Voice_init : PySem.W.keepIn K (.ref f_Voice_init) = true)
    (i_Voice_init : PySem.W.isFn K (.ref f_Voice_init) = true)
    (mk_Voice : PySem.W.makesIn K c_Voice = true)
    (kc_Voice : PySem.W.keepIn K (.ref c_Voice) = true)
    (n_Voice_wave : PySem.W.findIn K (.ref c_Voice) "wave" = some none)
    (n_Voice_width : PySem.W.findIn K (.ref c_Voice) "width" = some none)
    (n_Voice_level : PySem.W.findIn K (.ref c_Voice) "level" = some none)
    (n_Voice_left : PySem.W.findIn K (.ref c_Voice) "left" = some none)
    (n_Voice_right : PySem.W.findIn K (.ref c_Voice) "right" = some none)
    (n_Voice_mode : PySem.W.findIn K (.ref c_Voice) "mode" = some none)
    (n_Voice_cut : PySem.W.findIn K (.ref c_Voice) "cut" = some none)
    (n_Voice_damp : PySem.W.findIn K (.ref c_Voice) "damp" = some none)
    (n_Voice_rise : PySem.W.findIn K (.ref c_Voice) "rise" = some none)
    (n_Voice_fall : PySem.W.findIn K (.ref c_Voice) "fall" = some none)
    (n_Voice_keep : PySem.W.findIn K (.ref c_Voice) "keep" = some none)
    (n_Voice_go : PySem.W.findIn K (.ref c_Voice) "go" = some none)
    (n_Voice_phase : PySem.W.findIn K (.ref c_Voice) "phase" = some none)
    (n_Voice_draw : PySem.W.findIn K (.ref c_Voice) "draw" = some none)
    (n_Voice_step : PySem.W.findIn K (.ref c_Voice) "step" = some none)
    (n_Voice_low : PySem.W.findIn K (.ref c_Voice) "low" = some none)
    (n_Voice_band : PySem.W.findIn K (.ref c_Voice) "band" = some none)
    (n_Voice_stage : PySem.W.findIn K (.ref c_Voice) "stage" = some none)
    (n_Voice_env : PySem.W.findIn K (.ref c_Voice) "env" = some none)
    (g_Desk : PySem.W.nsIn K mainGlobals "Desk" = some (some (.ref c_Desk)))
    (pg_Desk : PySem.W.plainGet K c_Desk Str.empty = true)
    (hd_Desk : PySem.W.hasDictIn K c_Desk = true)
    (po_Desk : PySem.W.plainOver K c_Desk = true)
    (sa_Desk : PySem.W.findIn K (.ref c_Desk) "__setattr__" = some (some (.builtin "object.__setattr__")))
    (a_Desk_init : PySem.W.findIn K (.ref c_Desk) "__init__" = some (some (.ref f_Desk_init)))
    (l_Desk_init : K.lookup f_Desk_init = some ⟨oc_Desk_init, od_Desk_init, .func (PySem.W.fnOf "__init__" "Desk.__init__" (defArgs s_Desk_init) (defBody s_Desk_init) (defScope s_Desk_init) .none kV_Desk_init dc_Desk_init pm_Desk_init an_Desk_init cd_Desk_init ct_Desk_init), sl_Desk_init⟩)
    (c_Desk_init : PySem.W.codeIn K cd_Desk_init "Desk.__init__" = true)
    (k_Desk_init : PySem.W.keepIn K (.ref f_Desk_init) = true)
    (i_Desk_init : PySem.W.isFn K (.ref f_Desk_init) = true)
    (mk_Desk : PySem.W.makesIn K c_Desk = true)
    (kc_Desk : PySem.W.keepIn K (.ref c_Desk) = true)
    (n_Desk_voices : PySem.W.findIn K (.ref c_Desk) "voices" = some none)
    (n_Desk_echo : PySem.W.findIn K (.ref c_Desk) "echo" = some none)
    (g_NotAsTold : PySem.W.nsIn K mainGlobals "NotAsTold" = some (some (.ref c_NotAsTold)))
    (x_NotAsTold : PySem.W.excIn K c_NotAsTold [.type "ValueError", .type "Exception", .type "BaseException", .type "object"] "ValueError.__new__" = true)
    (k_NotAsTold : PySem.W.keepIn K (.ref c_NotAsTold) = true)
    (b_NotAsTold : PySem.W.subIn K (.ref c_NotAsTold) (.type "BaseException") = some true)
    (t_NotAsTold : PySem.W.typeIn K (.ref c_NotAsTold) = some (.type "type"))
    (i_NotAsTold : PySem.W.isClsIn K c_NotAsTold = true)
    (g_NothingOpen : PySem.W.nsIn K mainGlobals "NothingOpen" = some (some (.ref c_NothingOpen)))
    (x_NothingOpen : PySem.W.excIn K c_NothingOpen [.type "ValueError", .type "Exception", .type "BaseException", .type "object"] "ValueError.__new__" = true)
    (k_NothingOpen : PySem.W.keepIn K (.ref c_NothingOpen) = true)
    (b_NothingOpen : PySem.W.subIn K (.ref c_NothingOpen) (.type "BaseException") = some true)
    (t_NothingOpen : PySem.W.typeIn K (.ref c_NothingOpen) = some (.type "type"))
    (i_NothingOpen : PySem.W.isClsIn K c_NothingOpen = true)
    (s_NotAsTold_NotAsTold : PySem.W.subIn K (.ref c_NotAsTold) (.ref c_NotAsTold) = some true)
    (s_NotAsTold_NothingOpen : PySem.W.subIn K (.ref c_NotAsTold) (.ref c_NothingOpen) = some false)
    (s_NothingOpen_NotAsTold : PySem.W.subIn K (.ref c_NothingOpen) (.ref c_NotAsTold) = some false)
    (s_NothingOpen_NothingOpen : PySem.W.subIn K (.ref c_NothingOpen) (.ref c_NothingOpen) = some true)
    (g_ACTIONS : PySem.W.nsIn K mainGlobals "ACTIONS" = some (some (.ref o_ACTIONS)))
    (l_ACTIONS : K.lookup o_ACTIONS = some ⟨.type "dict", none, .dict es_ACTIONS n_ACTIONS, #[]⟩)
    (q_ACTIONS : KeysInt es_ACTIONS.toList)
    (q_ACTIONS_1 : findBy Value.isInt es_ACTIONS 1 = some (.ref f_begin_anew))
    (q_ACTIONS_2 : findBy Value.isInt es_ACTIONS 2 = some (.ref f_set_voice))
    (q_ACTIONS_3 : findBy Value.isInt es_ACTIONS 3 = some (.ref f_set_filter))
    (q_ACTIONS_4 : findBy Value.isInt es_ACTIONS 4 = some (.ref f_set_shape))
    (q_ACTIONS_5 : findBy Value.isInt es_ACTIONS 5 = some (.ref f_turn_on))
    (q_ACTIONS_6 : findBy Value.isInt es_ACTIONS 6 = some (.ref f_turn_off))
    (q_ACTIONS_7 : findBy Value.isInt es_ACTIONS 7 = some (.ref f_set_echo))
    (q_ACTIONS_8 : findBy Value.isInt es_ACTIONS 8 = some (.ref f_play))
    (q_ACTIONS_9 : findBy Value.isInt es_ACTIONS 9 = some (.ref f_tell_voice))
    (q_ACTIONS_10 : findBy Value.isInt es_ACTIONS 10 = some (.ref f_count_sounding))
    (q_ACTIONS_11 : findBy Value.isInt es_ACTIONS 11 = some (.ref f_blend))
    (q_ACTIONS_12 : findBy Value.isInt es_ACTIONS 12 = some (.ref f_measure))
    (g_WAVES : PySem.W.nsIn K mainGlobals "WAVES" = some (some (.ref o_WAVES)))
    (l_WAVES : K.lookup o_WAVES = some ⟨oc_WAVES, od_WAVES, .seq its_WAVES n_WAVES, sl_WAVES⟩)
    (oc_q_WAVES : oc_WAVES = .type "tuple")
    (q_WAVES : Vals [V.ref f_falling_wave, V.ref f_up_or_down_wave, V.ref f_up_and_down_wave, V.ref f_noise_wave] its_WAVES.toList)
    (z_WAVES : its_WAVES.size ≤ sizeLine)
    : ∃ (a : Ad) (d : Fd), Txt K mg a d ∧ a.f_answers = fa ∧ ∀ us : List Value, us.length = 1 → bindArgs d.f_answers ⟨us, []⟩ = pure ((["calls"] : List Str).zip us) := by
  have e : f_answers = fa := by
    have z := (PySem.W.mg_of X G a_answers).symm.trans hfa
    cases z
    rfl
  exact ⟨⟨f_units_of, f_nearest_whole, f_nearest_float, f_plus, f_minus, f_times, f_made_float, f_held, f_told_float, f_whole_within, f_handed_float, f_side_echoed, f_echoed, f_within_16_bits, f_in_16_bits, f_over_32768, f_blended, f_risings, f_measured, f_rise, f_fall, f_die_away, f_shape_goes_on, f_part_of_turn, f_falling_wave, f_up_or_down_wave, f_up_and_down_wave, f_noise_wave, f_filtered, f_within_32_bits, f_voice_sample, f_sample_of_all, f_voice_at, f_begin_anew, f_set_voice, f_set_filter, f_set_shape, f_turn_on, f_turn_off, f_set_echo, f_play, f_tell_voice, f_count_sounding, f_blend, f_measure, f_carry_out, f_answer_to, f_answers_at, f_answers, f_Echo_init, f_Voice_init, f_Desk_init, c_Echo, c_Voice, c_Desk, c_NotAsTold, c_NothingOpen, o_ACTIONS, o_WAVES⟩, ⟨PySem.W.fnOf "units_of" "units_of" (defArgs s_units_of) (defBody s_units_of) (defScope s_units_of) .none kV_units_of dc_units_of pm_units_of an_units_of cd_units_of ct_units_of, PySem.W.fnOf "nearest_whole" "nearest_whole" (defArgs s_nearest_whole) (defBody s_nearest_whole) (defScope s_nearest_whole) .none kV_nearest_whole dc_nearest_whole pm_nearest_whole an_nearest_whole cd_nearest_whole ct_nearest_whole, PySem.W.fnOf "nearest_float" "nearest_float" (defArgs s_nearest_float) (defBody s_nearest_float) (defScope s_nearest_float) .none kV_nearest_float dc_nearest_float pm_nearest_float an_nearest_float cd_nearest_float ct_nearest_float, PySem.W.fnOf "plus" "plus" (defArgs s_plus) (defBody s_plus) (defScope s_plus) .none kV_plus dc_plus pm_plus an_plus cd_plus ct_plus, PySem.W.fnOf "minus" "minus" (defArgs s_minus) (defBody s_minus) (defScope s_minus) .none kV_minus dc_minus pm_minus an_minus cd_minus ct_minus, PySem.W.fnOf "times" "times" (defArgs s_times) (defBody s_times) (defScope s_times) .none kV_times dc_times pm_times an_times cd_times ct_times, PySem.W.fnOf "made_float" "made_float" (defArgs s_made_float) (defBody s_made_float) (defScope s_made_float) .none kV_made_float dc_made_float pm_made_float an_made_float cd_made_float ct_made_float, PySem.W.fnOf "held" "held" (defArgs s_held) (defBody s_held) (defScope s_held) .none kV_held dc_held pm_held an_held cd_held ct_held, PySem.W.fnOf "told_float" "told_float" (defArgs s_told_float) (defBody s_told_float) (defScope s_told_float) .none kV_told_float dc_told_float pm_told_float an_told_float cd_told_float ct_told_float, PySem.W.fnOf "whole_within" "whole_within" (defArgs s_whole_within) (defBody s_whole_within) (defScope s_whole_within) .none kV_whole_within dc_whole_within pm_whole_within an_whole_within cd_whole_within ct_whole_within, PySem.W.fnOf "handed_float" "handed_float" (defArgs s_handed_float) (defBody s_handed_float) (defScope s_handed_float) .none kV_handed_float dc_handed_float pm_handed_float an_handed_float cd_handed_float ct_handed_float, PySem.W.fnOf "side_echoed" "side_echoed" (defArgs s_side_echoed) (defBody s_side_echoed) (defScope s_side_echoed) .none kV_side_echoed dc_side_echoed pm_side_echoed an_side_echoed cd_side_echoed ct_side_echoed, PySem.W.fnOf "echoed" "echoed" (defArgs s_echoed) (defBody s_echoed) (defScope s_echoed) .none kV_echoed dc_echoed pm_echoed an_echoed cd_echoed ct_echoed, PySem.W.fnOf "within_16_bits" "within_16_bits" (defArgs s_within_16_bits) (defBody s_within_16_bits) (defScope s_within_16_bits) .none kV_within_16_bits dc_within_16_bits pm_within_16_bits an_within_16_bits cd_within_16_bits ct_within_16_bits, PySem.W.fnOf "in_16_bits" "in_16_bits" (defArgs s_in_16_bits) (defBody s_in_16_bits) (defScope s_in_16_bits) .none kV_in_16_bits dc_in_16_bits pm_in_16_bits an_in_16_bits cd_in_16_bits ct_in_16_bits, PySem.W.fnOf "over_32768" "over_32768" (defArgs s_over_32768) (defBody s_over_32768) (defScope s_over_32768) .none kV_over_32768 dc_over_32768 pm_over_32768 an_over_32768 cd_over_32768 ct_over_32768, PySem.W.fnOf "blended" "blended" (defArgs s_blended) (defBody s_blended) (defScope s_blended) .none kV_blended dc_blended pm_blended an_blended cd_blended ct_blended, PySem.W.fnOf "risings" "risings" (defArgs s_risings) (defBody s_risings) (defScope s_risings) .none kV_risings dc_risings pm_risings an_risings cd_risings ct_risings, PySem.W.fnOf "measured" "measured" (defArgs s_measured) (defBody s_measured) (defScope s_measured) .none kV_measured dc_measured pm_measured an_measured cd_measured ct_measured, PySem.W.fnOf "rise" "rise" (defArgs s_rise) (defBody s_rise) (defScope s_rise) .none kV_rise dc_rise pm_rise an_rise cd_rise ct_rise, PySem.W.fnOf "fall" "fall" (defArgs s_fall) (defBody s_fall) (defScope s_fall) .none kV_fall dc_fall pm_fall an_fall cd_fall ct_fall, PySem.W.fnOf "die_away" "die_away" (defArgs s_die_away) (defBody s_die_away) (defScope s_die_away) .none kV_die_away dc_die_away pm_die_away an_die_away cd_die_away ct_die_away, PySem.W.fnOf "shape_goes_on" "shape_goes_on" (defArgs s_shape_goes_on) (defBody s_shape_goes_on) (defScope s_shape_goes_on) .none kV_shape_goes_on dc_shape_goes_on pm_shape_goes_on an_shape_goes_on cd_shape_goes_on ct_shape_goes_on, PySem.W.fnOf "part_of_turn" "part_of_turn" (defArgs s_part_of_turn) (defBody s_part_of_turn) (defScope s_part_of_turn) .none kV_part_of_turn dc_part_of_turn pm_part_of_turn an_part_of_turn cd_part_of_turn ct_part_of_turn, PySem.W.fnOf "falling_wave" "falling_wave" (defArgs s_falling_wave) (defBody s_falling_wave) (defScope s_falling_wave) .none kV_falling_wave dc_falling_wave pm_falling_wave an_falling_wave cd_falling_wave ct_falling_wave, PySem.W.fnOf "up_or_down_wave" "up_or_down_wave" (defArgs s_up_or_down_wave) (defBody s_up_or_down_wave) (defScope s_up_or_down_wave) .none kV_up_or_down_wave dc_up_or_down_wave pm_up_or_down_wave an_up_or_down_wave cd_up_or_down_wave ct_up_or_down_wave, PySem.W.fnOf "up_and_down_wave" "up_and_down_wave" (defArgs s_up_and_down_wave) (defBody s_up_and_down_wave) (defScope s_up_and_down_wave) .none kV_up_and_down_wave dc_up_and_down_wave pm_up_and_down_wave an_up_and_down_wave cd_up_and_down_wave ct_up_and_down_wave, PySem.W.fnOf "noise_wave" "noise_wave" (defArgs s_noise_wave) (defBody s_noise_wave) (defScope s_noise_wave) .none kV_noise_wave dc_noise_wave pm_noise_wave an_noise_wave cd_noise_wave ct_noise_wave, PySem.W.fnOf "filtered" "filtered" (defArgs s_filtered) (defBody s_filtered) (defScope s_filtered) .none kV_filtered dc_filtered pm_filtered an_filtered cd_filtered ct_filtered, PySem.W.fnOf "within_32_bits" "within_32_bits" (defArgs s_within_32_bits) (defBody s_within_32_bits) (defScope s_within_32_bits) .none kV_within_32_bits dc_within_32_bits pm_within_32_bits an_within_32_bits cd_within_32_bits ct_within_32_bits, PySem.W.fnOf "voice_sample" "voice_sample" (defArgs s_voice_sample) (defBody s_voice_sample) (defScope s_voice_sample) .none kV_voice_sample dc_voice_sample pm_voice_sample an_voice_sample cd_voice_sample ct_voice_sample, PySem.W.fnOf "sample_of_all" "sample_of_all" (defArgs s_sample_of_all) (defBody s_sample_of_all) (defScope s_sample_of_all) .none kV_sample_of_all dc_sample_of_all pm_sample_of_all an_sample_of_all cd_sample_of_all ct_sample_of_all, PySem.W.fnOf "voice_at" "voice_at" (defArgs s_voice_at) (defBody s_voice_at) (defScope s_voice_at) .none kV_voice_at dc_voice_at pm_voice_at an_voice_at cd_voice_at ct_voice_at, PySem.W.fnOf "begin_anew" "begin_anew" (defArgs s_begin_anew) (defBody s_begin_anew) (defScope s_begin_anew) .none kV_begin_anew dc_begin_anew pm_begin_anew an_begin_anew cd_begin_anew ct_begin_anew, PySem.W.fnOf "set_voice" "set_voice" (defArgs s_set_voice) (defBody s_set_voice) (defScope s_set_voice) .none kV_set_voice dc_set_voice pm_set_voice an_set_voice cd_set_voice ct_set_voice, PySem.W.fnOf "set_filter" "set_filter" (defArgs s_set_filter) (defBody s_set_filter) (defScope s_set_filter) .none kV_set_filter dc_set_filter pm_set_filter an_set_filter cd_set_filter ct_set_filter, PySem.W.fnOf "set_shape" "set_shape" (defArgs s_set_shape) (defBody s_set_shape) (defScope s_set_shape) .none kV_set_shape dc_set_shape pm_set_shape an_set_shape cd_set_shape ct_set_shape, PySem.W.fnOf "turn_on" "turn_on" (defArgs s_turn_on) (defBody s_turn_on) (defScope s_turn_on) .none kV_turn_on dc_turn_on pm_turn_on an_turn_on cd_turn_on ct_turn_on, PySem.W.fnOf "turn_off" "turn_off" (defArgs s_turn_off) (defBody s_turn_off) (defScope s_turn_off) .none kV_turn_off dc_turn_off pm_turn_off an_turn_off cd_turn_off ct_turn_off, PySem.W.fnOf "set_echo" "set_echo" (defArgs s_set_echo) (defBody s_set_echo) (defScope s_set_echo) .none kV_set_echo dc_set_echo pm_set_echo an_set_echo cd_set_echo ct_set_echo, PySem.W.fnOf "play" "play" (defArgs s_play) (defBody s_play) (defScope s_play) .none kV_play dc_play pm_play an_play cd_play ct_play, PySem.W.fnOf "tell_voice" "tell_voice" (defArgs s_tell_voice) (defBody s_tell_voice) (defScope s_tell_voice) .none kV_tell_voice dc_tell_voice pm_tell_voice an_tell_voice cd_tell_voice ct_tell_voice, PySem.W.fnOf "count_sounding" "count_sounding" (defArgs s_count_sounding) (defBody s_count_sounding) (defScope s_count_sounding) .none kV_count_sounding dc_count_sounding pm_count_sounding an_count_sounding cd_count_sounding ct_count_sounding, PySem.W.fnOf "blend" "blend" (defArgs s_blend) (defBody s_blend) (defScope s_blend) .none kV_blend dc_blend pm_blend an_blend cd_blend ct_blend, PySem.W.fnOf "measure" "measure" (defArgs s_measure) (defBody s_measure) (defScope s_measure) .none kV_measure dc_measure pm_measure an_measure cd_measure ct_measure, PySem.W.fnOf "carry_out" "carry_out" (defArgs s_carry_out) (defBody s_carry_out) (defScope s_carry_out) .none kV_carry_out dc_carry_out pm_carry_out an_carry_out cd_carry_out ct_carry_out, PySem.W.fnOf "answer_to" "answer_to" (defArgs s_answer_to) (defBody s_answer_to) (defScope s_answer_to) .none kV_answer_to dc_answer_to pm_answer_to an_answer_to cd_answer_to ct_answer_to, PySem.W.fnOf "answers_at" "answers_at" (defArgs s_answers_at) (defBody s_answers_at) (defScope s_answers_at) .none kV_answers_at dc_answers_at pm_answers_at an_answers_at cd_answers_at ct_answers_at, PySem.W.fnOf "answers" "answers" (defArgs s_answers) (defBody s_answers) (defScope s_answers) .none kV_answers dc_answers pm_answers an_answers cd_answers ct_answers, PySem.W.fnOf "__init__" "Echo.__init__" (defArgs s_Echo_init) (defBody s_Echo_init) (defScope s_Echo_init) .none kV_Echo_init dc_Echo_init pm_Echo_init an_Echo_init cd_Echo_init ct_Echo_init, PySem.W.fnOf "__init__" "Voice.__init__" (defArgs s_Voice_init) (defBody s_Voice_init) (defScope s_Voice_init) .none kV_Voice_init dc_Voice_init pm_Voice_init an_Voice_init cd_Voice_init ct_Voice_init, PySem.W.fnOf "__init__" "Desk.__init__" (defArgs s_Desk_init) (defBody s_Desk_init) (defScope s_Desk_init) .none kV_Desk_init dc_Desk_init pm_Desk_init an_Desk_init cd_Desk_init ct_Desk_init⟩, ⟨⟨t_UNIT_BITS, PySem.W.mg_of X G h_UNIT_BITS⟩,
    ⟨t_FLOAT_BITS, PySem.W.mg_of X G h_FLOAT_BITS⟩,
    ⟨t_HELD_AT, PySem.W.mg_of X G h_HELD_AT⟩,
    ⟨t_LEAST_E, PySem.W.mg_of X G h_LEAST_E⟩,
    ⟨t_LEAST_FLOAT_E, PySem.W.mg_of X G h_LEAST_FLOAT_E⟩,
    ⟨t_LEAST_SAMPLE, PySem.W.mg_of X G h_LEAST_SAMPLE⟩,
    ⟨t_MOST_SAMPLE, PySem.W.mg_of X G h_MOST_SAMPLE⟩,
    ⟨t_SAMPLE_BITS, PySem.W.mg_of X G h_SAMPLE_BITS⟩,
    ⟨t_STILL, PySem.W.mg_of X G h_STILL⟩,
    ⟨t_RISING, PySem.W.mg_of X G h_RISING⟩,
    ⟨t_FALLING, PySem.W.mg_of X G h_FALLING⟩,
    ⟨t_LET_GO, PySem.W.mg_of X G h_LET_GO⟩,
    ⟨t_FIRST_DRAW, PySem.W.mg_of X G h_FIRST_DRAW⟩,
    ⟨t_STILL_BELOW_E, PySem.W.mg_of X G h_STILL_BELOW_E⟩,
    ⟨t_VOICE_COUNT, PySem.W.mg_of X G h_VOICE_COUNT⟩,
    ⟨t_MOST_ECHO, PySem.W.mg_of X G h_MOST_ECHO⟩,
    ⟨t_MOST_PLAYED, PySem.W.mg_of X G h_MOST_PLAYED⟩,
    ⟨t_MOST_IN_ROW, PySem.W.mg_of X G h_MOST_IN_ROW⟩,
    ⟨t_OPENING, PySem.W.mg_of X G h_OPENING⟩,
    ⟨t_DONE, PySem.W.mg_of X G h_DONE⟩,
    ⟨t_NOT_AS_TOLD, PySem.W.mg_of X G h_NOT_AS_TOLD⟩,
    ⟨t_NOTHING_OPEN, PySem.W.mg_of X G h_NOTHING_OPEN⟩,
    PySem.W.mg_none_of X G hb_abs,
    PySem.W.mg_none_of X G hb_len,
    PySem.W.mg_none_of X G hb_max,
    PySem.W.mg_none_of X G hb_min,
    PySem.W.mg_none_of X G hb_range,
    PySem.W.mg_none_of X G hb_sum,
    PySem.W.mg_none_of X G hb_zip,
    ⟨fun_mk (st := s_units_of) l_units_of c_units_of k_units_of, (fun_mk (st := s_units_of) l_units_of c_units_of k_units_of).binds (ps := ["z", "e"]) fun _ _ _ _ _ _ us hl => match us, hl with | [_, _], _ => rfl, PySem.W.mg_of X G a_units_of⟩,
    ⟨fun_mk (st := s_nearest_whole) l_nearest_whole c_nearest_whole k_nearest_whole, (fun_mk (st := s_nearest_whole) l_nearest_whole c_nearest_whole k_nearest_whole).binds (ps := ["number", "bits"]) fun _ _ _ _ _ _ us hl => match us, hl with | [_, _], _ => rfl, PySem.W.mg_of X G a_nearest_whole⟩,
    ⟨fun_mk (st := s_nearest_float) l_nearest_float c_nearest_float k_nearest_float, (fun_mk (st := s_nearest_float) l_nearest_float c_nearest_float k_nearest_float).binds (ps := ["exact", "finer"]) fun _ _ _ _ _ _ us hl => match us, hl with | [_, _], _ => rfl, PySem.W.mg_of X G a_nearest_float⟩,
    ⟨fun_mk (st := s_plus) l_plus c_plus k_plus, (fun_mk (st := s_plus) l_plus c_plus k_plus).binds (ps := ["a", "b"]) fun _ _ _ _ _ _ us hl => match us, hl with | [_, _], _ => rfl, PySem.W.mg_of X G a_plus⟩,
    ⟨fun_mk (st := s_minus) l_minus c_minus k_minus, (fun_mk (st := s_minus) l_minus c_minus k_minus).binds (ps := ["a", "b"]) fun _ _ _ _ _ _ us hl => match us, hl with | [_, _], _ => rfl, PySem.W.mg_of X G a_minus⟩,
    ⟨fun_mk (st := s_times) l_times c_times k_times, (fun_mk (st := s_times) l_times c_times k_times).binds (ps := ["a", "b"]) fun _ _ _ _ _ _ us hl => match us, hl with | [_, _], _ => rfl, PySem.W.mg_of X G a_times⟩,
    ⟨fun_mk (st := s_made_float) l_made_float c_made_float k_made_float, (fun_mk (st := s_made_float) l_made_float c_made_float k_made_float).binds (ps := ["whole"]) fun _ _ _ _ _ _ us hl => match us, hl with | [_], _ => rfl, PySem.W.mg_of X G a_made_float⟩,
    ⟨fun_mk (st := s_held) l_held c_held k_held, (fun_mk (st := s_held) l_held c_held k_held).binds (ps := ["a"]) fun _ _ _ _ _ _ us hl => match us, hl with | [_], _ => rfl, PySem.W.mg_of X G a_held⟩,
    ⟨fun_mk (st := s_told_float) l_told_float c_told_float k_told_float, (fun_mk (st := s_told_float) l_told_float c_told_float k_told_float).binds (ps := ["a"]) fun _ _ _ _ _ _ us hl => match us, hl with | [_], _ => rfl, PySem.W.mg_of X G a_told_float⟩,
    ⟨fun_mk (st := s_whole_within) l_whole_within c_whole_within k_whole_within, (fun_mk (st := s_whole_within) l_whole_within c_whole_within k_whole_within).binds (ps := ["number", "least", "most"]) fun _ _ _ _ _ _ us hl => match us, hl with | [_, _, _], _ => rfl, PySem.W.mg_of X G a_whole_within⟩,
    ⟨fun_mk (st := s_handed_float) l_handed_float c_handed_float k_handed_float, (fun_mk (st := s_handed_float) l_handed_float c_handed_float k_handed_float).binds (ps := ["z", "e", "most"]) fun _ _ _ _ _ _ us hl => match us, hl with | [_, _, _], _ => rfl, PySem.W.mg_of X G a_handed_float⟩,
    ⟨fun_mk (st := s_side_echoed) l_side_echoed c_side_echoed k_side_echoed, (fun_mk (st := s_side_echoed) l_side_echoed c_side_echoed k_side_echoed).binds (ps := ["echo", "row", "x"]) fun _ _ _ _ _ _ us hl => match us, hl with | [_, _, _], _ => rfl, PySem.W.mg_of X G a_side_echoed⟩,
    ⟨fun_mk (st := s_echoed) l_echoed c_echoed k_echoed, (fun_mk (st := s_echoed) l_echoed c_echoed k_echoed).binds (ps := ["echo", "left", "right"]) fun _ _ _ _ _ _ us hl => match us, hl with | [_, _, _], _ => rfl, PySem.W.mg_of X G a_echoed⟩,
    ⟨fun_mk (st := s_within_16_bits) l_within_16_bits c_within_16_bits k_within_16_bits, (fun_mk (st := s_within_16_bits) l_within_16_bits c_within_16_bits k_within_16_bits).binds (ps := ["whole"]) fun _ _ _ _ _ _ us hl => match us, hl with | [_], _ => rfl, PySem.W.mg_of X G a_within_16_bits⟩,
    ⟨fun_mk (st := s_in_16_bits) l_in_16_bits c_in_16_bits k_in_16_bits, (fun_mk (st := s_in_16_bits) l_in_16_bits c_in_16_bits k_in_16_bits).binds (ps := ["x"]) fun _ _ _ _ _ _ us hl => match us, hl with | [_], _ => rfl, PySem.W.mg_of X G a_in_16_bits⟩,
    ⟨fun_mk (st := s_over_32768) l_over_32768 c_over_32768 k_over_32768, (fun_mk (st := s_over_32768) l_over_32768 c_over_32768 k_over_32768).binds (ps := ["z"]) fun _ _ _ _ _ _ us hl => match us, hl with | [_], _ => rfl, PySem.W.mg_of X G a_over_32768⟩,
    ⟨fun_mk (st := s_blended) l_blended c_blended k_blended, (fun_mk (st := s_blended) l_blended c_blended k_blended).binds (ps := ["first", "second", "g"]) fun _ _ _ _ _ _ us hl => match us, hl with | [_, _, _], _ => rfl, PySem.W.mg_of X G a_blended⟩,
    ⟨fun_mk (st := s_risings) l_risings c_risings k_risings, (fun_mk (st := s_risings) l_risings c_risings k_risings).binds (ps := ["samples"]) fun _ _ _ _ _ _ us hl => match us, hl with | [_], _ => rfl, PySem.W.mg_of X G a_risings⟩,
    ⟨fun_mk (st := s_measured) l_measured c_measured k_measured, (fun_mk (st := s_measured) l_measured c_measured k_measured).binds (ps := ["samples"]) fun _ _ _ _ _ _ us hl => match us, hl with | [_], _ => rfl, PySem.W.mg_of X G a_measured⟩,
    ⟨fun_mk (st := s_rise) l_rise c_rise k_rise, (fun_mk (st := s_rise) l_rise c_rise k_rise).binds (ps := ["voice"]) fun _ _ _ _ _ _ us hl => match us, hl with | [_], _ => rfl, PySem.W.mg_of X G a_rise⟩,
    ⟨fun_mk (st := s_fall) l_fall c_fall k_fall, (fun_mk (st := s_fall) l_fall c_fall k_fall).binds (ps := ["voice"]) fun _ _ _ _ _ _ us hl => match us, hl with | [_], _ => rfl, PySem.W.mg_of X G a_fall⟩,
    ⟨fun_mk (st := s_die_away) l_die_away c_die_away k_die_away, (fun_mk (st := s_die_away) l_die_away c_die_away k_die_away).binds (ps := ["voice"]) fun _ _ _ _ _ _ us hl => match us, hl with | [_], _ => rfl, PySem.W.mg_of X G a_die_away⟩,
    ⟨fun_mk (st := s_shape_goes_on) l_shape_goes_on c_shape_goes_on k_shape_goes_on, (fun_mk (st := s_shape_goes_on) l_shape_goes_on c_shape_goes_on k_shape_goes_on).binds (ps := ["voice"]) fun _ _ _ _ _ _ us hl => match us, hl with | [_], _ => rfl, PySem.W.mg_of X G a_shape_goes_on⟩,
    ⟨fun_mk (st := s_part_of_turn) l_part_of_turn c_part_of_turn k_part_of_turn, (fun_mk (st := s_part_of_turn) l_part_of_turn c_part_of_turn k_part_of_turn).binds (ps := ["bits"]) fun _ _ _ _ _ _ us hl => match us, hl with | [_], _ => rfl, PySem.W.mg_of X G a_part_of_turn⟩,
    ⟨fun_mk (st := s_falling_wave) l_falling_wave c_falling_wave k_falling_wave, (fun_mk (st := s_falling_wave) l_falling_wave c_falling_wave k_falling_wave).binds (ps := ["voice"]) fun _ _ _ _ _ _ us hl => match us, hl with | [_], _ => rfl, PySem.W.mg_of X G a_falling_wave⟩,
    ⟨fun_mk (st := s_up_or_down_wave) l_up_or_down_wave c_up_or_down_wave k_up_or_down_wave, (fun_mk (st := s_up_or_down_wave) l_up_or_down_wave c_up_or_down_wave k_up_or_down_wave).binds (ps := ["voice"]) fun _ _ _ _ _ _ us hl => match us, hl with | [_], _ => rfl, PySem.W.mg_of X G a_up_or_down_wave⟩,
    ⟨fun_mk (st := s_up_and_down_wave) l_up_and_down_wave c_up_and_down_wave k_up_and_down_wave, (fun_mk (st := s_up_and_down_wave) l_up_and_down_wave c_up_and_down_wave k_up_and_down_wave).binds (ps := ["voice"]) fun _ _ _ _ _ _ us hl => match us, hl with | [_], _ => rfl, PySem.W.mg_of X G a_up_and_down_wave⟩,
    ⟨fun_mk (st := s_noise_wave) l_noise_wave c_noise_wave k_noise_wave, (fun_mk (st := s_noise_wave) l_noise_wave c_noise_wave k_noise_wave).binds (ps := ["voice"]) fun _ _ _ _ _ _ us hl => match us, hl with | [_], _ => rfl, PySem.W.mg_of X G a_noise_wave⟩,
    ⟨fun_mk (st := s_filtered) l_filtered c_filtered k_filtered, (fun_mk (st := s_filtered) l_filtered c_filtered k_filtered).binds (ps := ["voice", "x"]) fun _ _ _ _ _ _ us hl => match us, hl with | [_, _], _ => rfl, PySem.W.mg_of X G a_filtered⟩,
    ⟨fun_mk (st := s_within_32_bits) l_within_32_bits c_within_32_bits k_within_32_bits, (fun_mk (st := s_within_32_bits) l_within_32_bits c_within_32_bits k_within_32_bits).binds (ps := ["number"]) fun _ _ _ _ _ _ us hl => match us, hl with | [_], _ => rfl, PySem.W.mg_of X G a_within_32_bits⟩,
    ⟨fun_mk (st := s_voice_sample) l_voice_sample c_voice_sample k_voice_sample, (fun_mk (st := s_voice_sample) l_voice_sample c_voice_sample k_voice_sample).binds (ps := ["voice"]) fun _ _ _ _ _ _ us hl => match us, hl with | [_], _ => rfl, PySem.W.mg_of X G a_voice_sample⟩,
    ⟨fun_mk (st := s_sample_of_all) l_sample_of_all c_sample_of_all k_sample_of_all, (fun_mk (st := s_sample_of_all) l_sample_of_all c_sample_of_all k_sample_of_all).binds (ps := ["voices", "echo"]) fun _ _ _ _ _ _ us hl => match us, hl with | [_, _], _ => rfl, PySem.W.mg_of X G a_sample_of_all⟩,
    ⟨fun_mk (st := s_voice_at) l_voice_at c_voice_at k_voice_at, (fun_mk (st := s_voice_at) l_voice_at c_voice_at k_voice_at).binds (ps := ["desk", "k"]) fun _ _ _ _ _ _ us hl => match us, hl with | [_, _], _ => rfl, PySem.W.mg_of X G a_voice_at⟩,
    ⟨fun_mk (st := s_begin_anew) l_begin_anew c_begin_anew k_begin_anew, (fun_mk (st := s_begin_anew) l_begin_anew c_begin_anew k_begin_anew).binds (ps := ["desk", "numbers"]) fun _ _ _ _ _ _ us hl => match us, hl with | [_, _], _ => rfl, PySem.W.mg_of X G a_begin_anew⟩,
    ⟨fun_mk (st := s_set_voice) l_set_voice c_set_voice k_set_voice, (fun_mk (st := s_set_voice) l_set_voice c_set_voice k_set_voice).binds (ps := ["desk", "numbers"]) fun _ _ _ _ _ _ us hl => match us, hl with | [_, _], _ => rfl, PySem.W.mg_of X G a_set_voice⟩,
    ⟨fun_mk (st := s_set_filter) l_set_filter c_set_filter k_set_filter, (fun_mk (st := s_set_filter) l_set_filter c_set_filter k_set_filter).binds (ps := ["desk", "numbers"]) fun _ _ _ _ _ _ us hl => match us, hl with | [_, _], _ => rfl, PySem.W.mg_of X G a_set_filter⟩,
    ⟨fun_mk (st := s_set_shape) l_set_shape c_set_shape k_set_shape, (fun_mk (st := s_set_shape) l_set_shape c_set_shape k_set_shape).binds (ps := ["desk", "numbers"]) fun _ _ _ _ _ _ us hl => match us, hl with | [_, _], _ => rfl, PySem.W.mg_of X G a_set_shape⟩,
    ⟨fun_mk (st := s_turn_on) l_turn_on c_turn_on k_turn_on, (fun_mk (st := s_turn_on) l_turn_on c_turn_on k_turn_on).binds (ps := ["desk", "numbers"]) fun _ _ _ _ _ _ us hl => match us, hl with | [_, _], _ => rfl, PySem.W.mg_of X G a_turn_on⟩,
    ⟨fun_mk (st := s_turn_off) l_turn_off c_turn_off k_turn_off, (fun_mk (st := s_turn_off) l_turn_off c_turn_off k_turn_off).binds (ps := ["desk", "numbers"]) fun _ _ _ _ _ _ us hl => match us, hl with | [_, _], _ => rfl, PySem.W.mg_of X G a_turn_off⟩,
    ⟨fun_mk (st := s_set_echo) l_set_echo c_set_echo k_set_echo, (fun_mk (st := s_set_echo) l_set_echo c_set_echo k_set_echo).binds (ps := ["desk", "numbers"]) fun _ _ _ _ _ _ us hl => match us, hl with | [_, _], _ => rfl, PySem.W.mg_of X G a_set_echo⟩,
    ⟨fun_mk (st := s_play) l_play c_play k_play, (fun_mk (st := s_play) l_play c_play k_play).binds (ps := ["desk", "numbers"]) fun _ _ _ _ _ _ us hl => match us, hl with | [_, _], _ => rfl, PySem.W.mg_of X G a_play⟩,
    ⟨fun_mk (st := s_tell_voice) l_tell_voice c_tell_voice k_tell_voice, (fun_mk (st := s_tell_voice) l_tell_voice c_tell_voice k_tell_voice).binds (ps := ["desk", "numbers"]) fun _ _ _ _ _ _ us hl => match us, hl with | [_, _], _ => rfl, PySem.W.mg_of X G a_tell_voice⟩,
    ⟨fun_mk (st := s_count_sounding) l_count_sounding c_count_sounding k_count_sounding, (fun_mk (st := s_count_sounding) l_count_sounding c_count_sounding k_count_sounding).binds (ps := ["desk", "numbers"]) fun _ _ _ _ _ _ us hl => match us, hl with | [_, _], _ => rfl, PySem.W.mg_of X G a_count_sounding⟩,
    ⟨fun_mk (st := s_blend) l_blend c_blend k_blend, (fun_mk (st := s_blend) l_blend c_blend k_blend).binds (ps := ["desk", "numbers"]) fun _ _ _ _ _ _ us hl => match us, hl with | [_, _], _ => rfl, PySem.W.mg_of X G a_blend⟩,
    ⟨fun_mk (st := s_measure) l_measure c_measure k_measure, (fun_mk (st := s_measure) l_measure c_measure k_measure).binds (ps := ["desk", "numbers"]) fun _ _ _ _ _ _ us hl => match us, hl with | [_, _], _ => rfl, PySem.W.mg_of X G a_measure⟩,
    ⟨fun_mk (st := s_carry_out) l_carry_out c_carry_out k_carry_out, (fun_mk (st := s_carry_out) l_carry_out c_carry_out k_carry_out).binds (ps := ["desk", "call", "numbers"]) fun _ _ _ _ _ _ us hl => match us, hl with | [_, _, _], _ => rfl, PySem.W.mg_of X G a_carry_out⟩,
    ⟨fun_mk (st := s_answer_to) l_answer_to c_answer_to k_answer_to, (fun_mk (st := s_answer_to) l_answer_to c_answer_to k_answer_to).binds (ps := ["desk", "call", "numbers"]) fun _ _ _ _ _ _ us hl => match us, hl with | [_, _, _], _ => rfl, PySem.W.mg_of X G a_answer_to⟩,
    ⟨fun_mk (st := s_answers_at) l_answers_at c_answers_at k_answers_at, (fun_mk (st := s_answers_at) l_answers_at c_answers_at k_answers_at).binds (ps := ["desk", "calls"]) fun _ _ _ _ _ _ us hl => match us, hl with | [_, _], _ => rfl, PySem.W.mg_of X G a_answers_at⟩,
    ⟨fun_mk (st := s_answers) l_answers c_answers k_answers, (fun_mk (st := s_answers) l_answers c_answers k_answers).binds (ps := ["calls"]) fun _ _ _ _ _ _ us hl => match us, hl with | [_], _ => rfl, PySem.W.mg_of X G a_answers⟩,
    PySem.W.mg_of X G g_Echo,
    ⟨pg_Echo, hd_Echo, po_Echo, sa_Echo⟩,
    ⟨fun_mk (st := s_Echo_init) l_Echo_init c_Echo_init k_Echo_init, (fun_mk (st := s_Echo_init) l_Echo_init c_Echo_init k_Echo_init).binds (ps := ["self", "length", "feed", "heard"]) fun _ _ _ _ _ _ us hl => match us, hl with | [_, _, _, _], _ => rfl, ⟨a_Echo_init, i_Echo_init, k_Echo_init⟩⟩,
    ⟨mk_Echo, a_Echo_init, i_Echo_init, kc_Echo⟩,
    n_Echo_left_row,
    n_Echo_right_row,
    n_Echo_feed,
    n_Echo_heard,
    n_Echo_place,
    PySem.W.mg_of X G g_Voice,
    ⟨pg_Voice, hd_Voice, po_Voice, sa_Voice⟩,
    ⟨fun_mk (st := s_Voice_init) l_Voice_init c_Voice_init k_Voice_init, (fun_mk (st := s_Voice_init) l_Voice_init c_Voice_init k_Voice_init).binds (ps := ["self"]) fun _ _ _ _ _ _ us hl => match us, hl with | [_], _ => rfl, ⟨a_Voice_init, i_Voice_init, k_Voice_init⟩⟩,
    ⟨mk_Voice, a_Voice_init, i_Voice_init, kc_Voice⟩,
    n_Voice_wave,
    n_Voice_width,
    n_Voice_level,
    n_Voice_left,
    n_Voice_right,
    n_Voice_mode,
    n_Voice_cut,
    n_Voice_damp,
    n_Voice_rise,
    n_Voice_fall,
    n_Voice_keep,
    n_Voice_go,
    n_Voice_phase,
    n_Voice_draw,
    n_Voice_step,
    n_Voice_low,
    n_Voice_band,
    n_Voice_stage,
    n_Voice_env,
    PySem.W.mg_of X G g_Desk,
    ⟨pg_Desk, hd_Desk, po_Desk, sa_Desk⟩,
    ⟨fun_mk (st := s_Desk_init) l_Desk_init c_Desk_init k_Desk_init, (fun_mk (st := s_Desk_init) l_Desk_init c_Desk_init k_Desk_init).binds (ps := ["self"]) fun _ _ _ _ _ _ us hl => match us, hl with | [_], _ => rfl, ⟨a_Desk_init, i_Desk_init, k_Desk_init⟩⟩,
    ⟨mk_Desk, a_Desk_init, i_Desk_init, kc_Desk⟩,
    n_Desk_voices,
    n_Desk_echo,
    ⟨PySem.W.mg_of X G g_NotAsTold, x_NotAsTold, k_NotAsTold, b_NotAsTold, t_NotAsTold⟩,
    exm_own b_NotAsTold i_NotAsTold t_NotAsTold s_NotAsTold_NotAsTold,
    exm_own b_NothingOpen i_NothingOpen t_NothingOpen s_NotAsTold_NothingOpen,
    ⟨PySem.W.mg_of X G g_NothingOpen, x_NothingOpen, k_NothingOpen, b_NothingOpen, t_NothingOpen⟩,
    exm_own b_NotAsTold i_NotAsTold t_NotAsTold s_NothingOpen_NotAsTold,
    exm_own b_NothingOpen i_NothingOpen t_NothingOpen s_NothingOpen_NothingOpen,
    PySem.W.mg_of X G g_ACTIONS,
    ⟨es_ACTIONS, n_ACTIONS, l_ACTIONS, q_ACTIONS, q_ACTIONS_1, q_ACTIONS_2, q_ACTIONS_3, q_ACTIONS_4, q_ACTIONS_5, q_ACTIONS_6, q_ACTIONS_7, q_ACTIONS_8, q_ACTIONS_9, q_ACTIONS_10, q_ACTIONS_11, q_ACTIONS_12⟩,
    PySem.W.mg_of X G g_WAVES,
    ⟨_, its_WAVES, n_WAVES, l_WAVES, oc_q_WAVES, rfl, z_WAVES, q_WAVES⟩⟩, e, fun us hl => match us, hl with | [_], _ => rfl⟩
end VS
open PySem PySem.W PyProof.Rows
theorem PySem.Challenge.cw_voicesounds_s01_answers_holds : PySem.Challenge.rw_voicesounds_s01_answers.Holds := by
  w_on; k_headS; (case hw => exact ⟨[.list [.int 1, .int 0, .int 0]], by decide +kernel, by decide +kernel⟩)
  k_fillS
  refine L2.walk_specK (r := PySem.Challenge.rw_voicesounds_s01_answers) (k := VS.LEVEL) (CX := L2.CX0) (ps := ["calls"]) (sp := VS.spAns) (by decide +kernel) rfl rfl ⟨rfl, by decide, by decide⟩ (fun w h Y => PySem.W.kIn_of Y) ?F ?S (fun _ _ _ _ z => z)
  case F =>
    intro w mg fa h Y KX G hmg
    refine VS.ends ?_
    refine' VS.all_mk KX G hmg ?h_UNIT_BITS ?h_FLOAT_BITS ?h_HELD_AT ?h_LEAST_E ?h_LEAST_FLOAT_E ?h_LEAST_SAMPLE ?h_MOST_SAMPLE ?h_SAMPLE_BITS ?h_STILL ?h_RISING ?h_FALLING ?h_LET_GO ?h_FIRST_DRAW ?h_STILL_BELOW_E ?h_VOICE_COUNT ?h_MOST_ECHO ?h_MOST_PLAYED ?h_MOST_IN_ROW ?h_OPENING ?h_DONE ?h_NOT_AS_TOLD ?h_NOTHING_OPEN ?hb_abs ?hb_len ?hb_max ?hb_min ?hb_range ?hb_sum ?hb_zip ?a_units_of ?l_units_of ?c_units_of ?k_units_of ?a_nearest_whole ?l_nearest_whole ?c_nearest_whole ?k_nearest_whole ?a_nearest_float ?l_nearest_float ?c_nearest_float ?k_nearest_float ?a_plus ?l_plus ?c_plus ?k_plus ?a_minus ?l_minus ?c_minus ?k_minus ?a_times ?l_times ?c_times ?k_times ?a_made_float ?l_made_float ?c_made_float ?k_made_float ?a_held ?l_held ?c_held ?k_held ?a_told_float ?l_told_float ?c_told_float ?k_told_float ?a_whole_within ?l_whole_within ?c_whole_within ?k_whole_within ?a_handed_float ?l_handed_float ?c_handed_float ?k_handed_float ?a_side_echoed ?l_side_echoed ?c_side_echoed ?k_side_echoed ?a_echoed ?l_echoed ?c_echoed ?k_echoed ?a_within_16_bits ?l_within_16_bits ?c_within_16_bits ?k_within_16_bits ?a_in_16_bits ?l_in_16_bits ?c_in_16_bits ?k_in_16_bits ?a_over_32768 ?l_over_32768 ?c_over_32768 ?k_over_32768 ?a_blended ?l_blended ?c_blended ?k_blended ?a_risings ?l_risings ?c_risings ?k_risings ?a_measured ?l_measured ?c_measured ?k_measured ?a_rise ?l_rise ?c_rise ?k_rise ?a_fall ?l_fall ?c_fall ?k_fall ?a_die_away ?l_die_away ?c_die_away ?k_die_away ?a_shape_goes_on ?l_shape_goes_on ?c_shape_goes_on ?k_shape_goes_on ?a_part_of_turn ?l_part_of_turn ?c_part_of_turn ?k_part_of_turn ?a_falling_wave ?l_falling_wave ?c_falling_wave ?k_falling_wave ?a_up_or_down_wave ?l_up_or_down_wave ?c_up_or_down_wave ?k_up_or_down_wave ?a_up_and_down_wave ?l_up_and_down_wave ?c_up_and_down_wave ?k_up_and_down_wave ?a_noise_wave ?l_noise_wave ?c_noise_wave ?k_noise_wave ?a_filtered ?l_filtered ?c_filtered ?k_filtered ?a_within_32_bits ?l_within_32_bits ?c_within_32_bits ?k_within_32_bits ?a_voice_sample ?l_voice_sample ?c_voice_sample ?k_voice_sample ?a_sample_of_all ?l_sample_of_all ?c_sample_of_all ?k_sample_of_all ?a_voice_at ?l_voice_at ?c_voice_at ?k_voice_at ?a_begin_anew ?l_begin_anew ?c_begin_anew ?k_begin_anew ?a_set_voice ?l_set_voice ?c_set_voice ?k_set_voice ?a_set_filter ?l_set_filter ?c_set_filter ?k_set_filter ?a_set_shape ?l_set_shape ?c_set_shape ?k_set_shape ?a_turn_on ?l_turn_on ?c_turn_on ?k_turn_on ?a_turn_off ?l_turn_off ?c_turn_off ?k_turn_off ?a_set_echo ?l_set_echo ?c_set_echo ?k_set_echo ?a_play ?l_play ?c_play ?k_play ?a_tell_voice ?l_tell_voice ?c_tell_voice ?k_tell_voice ?a_count_sounding ?l_count_sounding ?c_count_sounding ?k_count_sounding ?a_blend ?l_blend ?c_blend ?k_blend ?a_measure ?l_measure ?c_measure ?k_measure ?a_carry_out ?l_carry_out ?c_carry_out ?k_carry_out ?a_answer_to ?l_answer_to ?c_answer_to ?k_answer_to ?a_answers_at ?l_answers_at ?c_answers_at ?k_answers_at ?a_answers ?l_answers ?c_answers ?k_answers ?g_Echo ?pg_Echo ?hd_Echo ?po_Echo ?sa_Echo ?a_Echo_init ?l_Echo_init ?c_Echo_init ?k_Echo_init ?i_Echo_init ?mk_Echo ?kc_Echo ?n_Echo_left_row ?n_Echo_right_row ?n_Echo_feed ?n_Echo_heard ?n_Echo_place ?g_Voice ?pg_Voice ?hd_Voice ?po_Voice ?sa_Voice ?a_Voice_init ?l_Voice_init ?c_Voice_init ?k_Voice_init ?i_Voice_init ?mk_Voice ?kc_Voice ?n_Voice_wave ?n_Voice_width ?n_Voice_level ?n_Voice_left ?n_Voice_right ?n_Voice_mode ?n_Voice_cut ?n_Voice_damp ?n_Voice_rise ?n_Voice_fall ?n_Voice_keep ?n_Voice_go ?n_Voice_phase ?n_Voice_draw ?n_Voice_step ?n_Voice_low ?n_Voice_band ?n_Voice_stage ?n_Voice_env ?g_Desk ?pg_Desk ?hd_Desk ?po_Desk ?sa_Desk ?a_Desk_init ?l_Desk_init ?c_Desk_init ?k_Desk_init ?i_Desk_init ?mk_Desk ?kc_Desk ?n_Desk_voices ?n_Desk_echo ?g_NotAsTold ?x_NotAsTold ?k_NotAsTold ?b_NotAsTold ?t_NotAsTold ?i_NotAsTold ?g_NothingOpen ?x_NothingOpen ?k_NothingOpen ?b_NothingOpen ?t_NothingOpen ?i_NothingOpen ?s_NotAsTold_NotAsTold ?s_NotAsTold_NothingOpen ?s_NothingOpen_NotAsTold ?s_NothingOpen_NothingOpen ?g_ACTIONS ?l_ACTIONS ?q_ACTIONS ?q_ACTIONS_1 ?q_ACTIONS_2 ?q_ACTIONS_3 ?q_ACTIONS_4 ?q_ACTIONS_5 ?q_ACTIONS_6 ?q_ACTIONS_7 ?q_ACTIONS_8 ?q_ACTIONS_9 ?q_ACTIONS_10 ?q_ACTIONS_11 ?q_ACTIONS_12 ?g_WAVES ?l_WAVES ?oc_q_WAVES ?q_WAVES ?z_WAVES
    (case h_UNIT_BITS => k_is)
    (case h_FLOAT_BITS => k_is)
    (case h_HELD_AT => k_is)
    (case h_LEAST_E => k_is)
    (case h_LEAST_FLOAT_E => k_is)
    (case h_LEAST_SAMPLE => k_is)
    (case h_MOST_SAMPLE => k_is)
    (case h_SAMPLE_BITS => k_is)
    (case h_STILL => k_is)
    (case h_RISING => k_is)
    (case h_FALLING => k_is)
    (case h_LET_GO => k_is)
    (case h_FIRST_DRAW => k_is)
    (case h_STILL_BELOW_E => k_is)
    (case h_VOICE_COUNT => k_is)
    (case h_MOST_ECHO => k_is)
    (case h_MOST_PLAYED => k_is)
    (case h_MOST_IN_ROW => k_is)
    (case h_OPENING => k_is)
    (case h_DONE => k_is)
    (case h_NOT_AS_TOLD => k_is)
    (case h_NOTHING_OPEN => k_is)
    (case hb_abs => k_is)
    (case hb_len => k_is)
    (case hb_max => k_is)
    (case hb_min => k_is)
    (case hb_range => k_is)
    (case hb_sum => k_is)
    (case hb_zip => k_is)
    (case a_units_of => k_is)
    (case l_units_of => k_is)
    (case c_units_of => k_is)
    (case k_units_of => k_is)
    (case a_nearest_whole => k_is)
    (case l_nearest_whole => k_is)
    (case c_nearest_whole => k_is)
    (case k_nearest_whole => k_is)
    (case a_nearest_float => k_is)
    (case l_nearest_float => k_is)
    (case c_nearest_float => k_is)
    (case k_nearest_float => k_is)
    (case a_plus => k_is)
    (case l_plus => k_is)
    (case c_plus => k_is)
    (case k_plus => k_is)
    (case a_minus => k_is)
    (case l_minus => k_is)
    (case c_minus => k_is)
    (case k_minus => k_is)
    (case a_times => k_is)
    (case l_times => k_is)
    (case c_times => k_is)
    (case k_times => k_is)
    (case a_made_float => k_is)
    (case l_made_float => k_is)
    (case c_made_float => k_is)
    (case k_made_float => k_is)
    (case a_held => k_is)
    (case l_held => k_is)
    (case c_held => k_is)
    (case k_held => k_is)
    (case a_told_float => k_is)
    (case l_told_float => k_is)
    (case c_told_float => k_is)
    (case k_told_float => k_is)
    (case a_whole_within => k_is)
    (case l_whole_within => k_is)
    (case c_whole_within => k_is)
    (case k_whole_within => k_is)
    (case a_handed_float => k_is)
    (case l_handed_float => k_is)
    (case c_handed_float => k_is)
    (case k_handed_float => k_is)
    (case a_side_echoed => k_is)
    (case l_side_echoed => k_is)
    (case c_side_echoed => k_is)
    (case k_side_echoed => k_is)
    (case a_echoed => k_is)
    (case l_echoed => k_is)
    (case c_echoed => k_is)
    (case k_echoed => k_is)
    (case a_within_16_bits => k_is)
    (case l_within_16_bits => k_is)
    (case c_within_16_bits => k_is)
    (case k_within_16_bits => k_is)
    (case a_in_16_bits => k_is)
    (case l_in_16_bits => k_is)
    (case c_in_16_bits => k_is)
    (case k_in_16_bits => k_is)
    (case a_over_32768 => k_is)
    (case l_over_32768 => k_is)
    (case c_over_32768 => k_is)
    (case k_over_32768 => k_is)
    (case a_blended => k_is)
    (case l_blended => k_is)
    (case c_blended => k_is)
    (case k_blended => k_is)
    (case a_risings => k_is)
    (case l_risings => k_is)
    (case c_risings => k_is)
    (case k_risings => k_is)
    (case a_measured => k_is)
    (case l_measured => k_is)
    (case c_measured => k_is)
    (case k_measured => k_is)
    (case a_rise => k_is)
    (case l_rise => k_is)
    (case c_rise => k_is)
    (case k_rise => k_is)
    (case a_fall => k_is)
    (case l_fall => k_is)
    (case c_fall => k_is)
    (case k_fall => k_is)
    (case a_die_away => k_is)
    (case l_die_away => k_is)
    (case c_die_away => k_is)
    (case k_die_away => k_is)
    (case a_shape_goes_on => k_is)
    (case l_shape_goes_on => k_is)
    (case c_shape_goes_on => k_is)
    (case k_shape_goes_on => k_is)
    (case a_part_of_turn => k_is)
    (case l_part_of_turn => k_is)
    (case c_part_of_turn => k_is)
    (case k_part_of_turn => k_is)
    (case a_falling_wave => k_is)
    (case l_falling_wave => k_is)
    (case c_falling_wave => k_is)
    (case k_falling_wave => k_is)
    (case a_up_or_down_wave => k_is)
    (case l_up_or_down_wave => k_is)
    (case c_up_or_down_wave => k_is)
    (case k_up_or_down_wave => k_is)
    (case a_up_and_down_wave => k_is)
    (case l_up_and_down_wave => k_is)
    (case c_up_and_down_wave => k_is)
    (case k_up_and_down_wave => k_is)
    (case a_noise_wave => k_is)
    (case l_noise_wave => k_is)
    (case c_noise_wave => k_is)
    (case k_noise_wave => k_is)
    (case a_filtered => k_is)
    (case l_filtered => k_is)
    (case c_filtered => k_is)
    (case k_filtered => k_is)
    (case a_within_32_bits => k_is)
    (case l_within_32_bits => k_is)
    (case c_within_32_bits => k_is)
    (case k_within_32_bits => k_is)
    (case a_voice_sample => k_is)
    (case l_voice_sample => k_is)
    (case c_voice_sample => k_is)
    (case k_voice_sample => k_is)
    (case a_sample_of_all => k_is)
    (case l_sample_of_all => k_is)
    (case c_sample_of_all => k_is)
    (case k_sample_of_all => k_is)
    (case a_voice_at => k_is)
    (case l_voice_at => k_is)
    (case c_voice_at => k_is)
    (case k_voice_at => k_is)
    (case a_begin_anew => k_is)
    (case l_begin_anew => k_is)
    (case c_begin_anew => k_is)
    (case k_begin_anew => k_is)
    (case a_set_voice => k_is)
    (case l_set_voice => k_is)
    (case c_set_voice => k_is)
    (case k_set_voice => k_is)
    (case a_set_filter => k_is)
    (case l_set_filter => k_is)
    (case c_set_filter => k_is)
    (case k_set_filter => k_is)
    (case a_set_shape => k_is)
    (case l_set_shape => k_is)
    (case c_set_shape => k_is)
    (case k_set_shape => k_is)
    (case a_turn_on => k_is)
    (case l_turn_on => k_is)
    (case c_turn_on => k_is)
    (case k_turn_on => k_is)
    (case a_turn_off => k_is)
    (case l_turn_off => k_is)
    (case c_turn_off => k_is)
    (case k_turn_off => k_is)
    (case a_set_echo => k_is)
    (case l_set_echo => k_is)
    (case c_set_echo => k_is)
    (case k_set_echo => k_is)
    (case a_play => k_is)
    (case l_play => k_is)
    (case c_play => k_is)
    (case k_play => k_is)
    (case a_tell_voice => k_is)
    (case l_tell_voice => k_is)
    (case c_tell_voice => k_is)
    (case k_tell_voice => k_is)
    (case a_count_sounding => k_is)
    (case l_count_sounding => k_is)
    (case c_count_sounding => k_is)
    (case k_count_sounding => k_is)
    (case a_blend => k_is)
    (case l_blend => k_is)
    (case c_blend => k_is)
    (case k_blend => k_is)
    (case a_measure => k_is)
    (case l_measure => k_is)
    (case c_measure => k_is)
    (case k_measure => k_is)
    (case a_carry_out => k_is)
    (case l_carry_out => k_is)
    (case c_carry_out => k_is)
    (case k_carry_out => k_is)
    (case a_answer_to => k_is)
    (case l_answer_to => k_is)
    (case c_answer_to => k_is)
    (case k_answer_to => k_is)
    (case a_answers_at => k_is)
    (case l_answers_at => k_is)
    (case c_answers_at => k_is)
    (case k_answers_at => k_is)
    (case a_answers => k_is)
    (case l_answers => k_is)
    (case c_answers => k_is)
    (case k_answers => k_is)
    (case g_Echo => k_is)
    (case pg_Echo => k_is)
    (case hd_Echo => k_is)
    (case po_Echo => k_is)
    (case sa_Echo => k_is)
    (case a_Echo_init => k_is)
    (case l_Echo_init => k_is)
    (case c_Echo_init => k_is)
    (case k_Echo_init => k_is)
    (case i_Echo_init => k_is)
    (case mk_Echo => k_is)
    (case kc_Echo => k_is)
    (case n_Echo_left_row => k_is)
    (case n_Echo_right_row => k_is)
    (case n_Echo_feed => k_is)
    (case n_Echo_heard => k_is)
    (case n_Echo_place => k_is)
    (case g_Voice => k_is)
    (case pg_Voice => k_is)
    (case hd_Voice => k_is)
    (case po_Voice => k_is)
    (case sa_Voice => k_is)
    (case a_Voice_init => k_is)
    (case l_Voice_init => k_is)
    (case c_Voice_init => k_is)
    (case k_Voice_init => k_is)
    (case i_Voice_init => k_is)
    (case mk_Voice => k_is)
    (case kc_Voice => k_is)
    (case n_Voice_wave => k_is)
    (case n_Voice_width => k_is)
    (case n_Voice_level => k_is)
    (case n_Voice_left => k_is)
    (case n_Voice_right => k_is)
    (case n_Voice_mode => k_is)
    (case n_Voice_cut => k_is)
    (case n_Voice_damp => k_is)
    (case n_Voice_rise => k_is)
    (case n_Voice_fall => k_is)
    (case n_Voice_keep => k_is)
    (case n_Voice_go => k_is)
    (case n_Voice_phase => k_is)
    (case n_Voice_draw => k_is)
    (case n_Voice_step => k_is)
    (case n_Voice_low => k_is)
    (case n_Voice_band => k_is)
    (case n_Voice_stage => k_is)
    (case n_Voice_env => k_is)
    (case g_Desk => k_is)
    (case pg_Desk => k_is)
    (case hd_Desk => k_is)
    (case po_Desk => k_is)
    (case sa_Desk => k_is)
    (case a_Desk_init => k_is)
    (case l_Desk_init => k_is)
    (case c_Desk_init => k_is)
    (case k_Desk_init => k_is)
    (case i_Desk_init => k_is)
    (case mk_Desk => k_is)
    (case kc_Desk => k_is)
    (case n_Desk_voices => k_is)
    (case n_Desk_echo => k_is)
    (case g_NotAsTold => k_is)
    (case x_NotAsTold => k_exc)
    (case k_NotAsTold => k_is)
    (case b_NotAsTold => k_is)
    (case t_NotAsTold => k_is)
    (case i_NotAsTold => k_is)
    (case g_NothingOpen => k_is)
    (case x_NothingOpen => k_exc)
    (case k_NothingOpen => k_is)
    (case b_NothingOpen => k_is)
    (case t_NothingOpen => k_is)
    (case i_NothingOpen => k_is)
    (case s_NotAsTold_NotAsTold => first | rfl | k_is)
    (case s_NotAsTold_NothingOpen => first | rfl | k_is)
    (case s_NothingOpen_NotAsTold => first | rfl | k_is)
    (case s_NothingOpen_NothingOpen => first | rfl | k_is)
    (case g_ACTIONS => k_is)
    (case l_ACTIONS => k_is)
    (case q_ACTIONS => exact (⟨⟨_, _, rfl, rfl⟩, ⟨⟨_, _, rfl, rfl⟩, ⟨⟨_, _, rfl, rfl⟩, ⟨⟨_, _, rfl, rfl⟩, ⟨⟨_, _, rfl, rfl⟩, ⟨⟨_, _, rfl, rfl⟩, ⟨⟨_, _, rfl, rfl⟩, ⟨⟨_, _, rfl, rfl⟩, ⟨⟨_, _, rfl, rfl⟩, ⟨⟨_, _, rfl, rfl⟩, ⟨⟨_, _, rfl, rfl⟩, ⟨⟨_, _, rfl, rfl⟩, trivial⟩⟩⟩⟩⟩⟩⟩⟩⟩⟩⟩⟩))
    (case q_ACTIONS_1 => rfl)
    (case q_ACTIONS_2 => rfl)
    (case q_ACTIONS_3 => rfl)
    (case q_ACTIONS_4 => rfl)
    (case q_ACTIONS_5 => rfl)
    (case q_ACTIONS_6 => rfl)
    (case q_ACTIONS_7 => rfl)
    (case q_ACTIONS_8 => rfl)
    (case q_ACTIONS_9 => rfl)
    (case q_ACTIONS_10 => rfl)
    (case q_ACTIONS_11 => rfl)
    (case q_ACTIONS_12 => rfl)
    (case g_WAVES => k_is)
    (case l_WAVES => k_is)
    (case oc_q_WAVES => rfl)
    (case q_WAVES => exact (.cons rfl (.cons rfl (.cons rfl (.cons rfl (.nil))))))
    (case z_WAVES => decide)
  case S =>
    intro K H xs a hO hwi hask hx
    cases hx with
    | cons h1 h2 =>
      cases h2
      cases h1 with
      | lst hs ha =>
        have e := L2.ints_dw a.1 _ ha
        subst e
        have q : ((Codec.inLen 0 16000 a.1 && a.1.all (Codec.inInt (-9007199254740992) 9007199254740992)) && true) = true := hwi
        rw [Bool.and_eq_true, Bool.and_eq_true] at q
        exact ⟨_, a.1, rfl, hs, (Codec.inNat_iff.mp q.1.1).2, hask, fun H' p hp => .lst (L2.SqL.of hp) (L2.dw_ints _)⟩
